import Derived.Test.YtdpomdelmdofmaaGreatDoorUnd32
import Derived.OrdersIn
namespace Go.Proofs.YtdpomdelmdofmaaGreatDoor
open Go.Proofs.Tryz
section
open Go.RowKit Go.Maps
theorem PR{d e n:Int}(hc:Sp.cfg d e n=true){t u:Sp.By}{v p:Sp.V}(hv:Sp.readTo t d e=(0,some v))(hp:Sp.readTo u d e=(0,some p)):Sp.gd d e top 1 (Sp.mrg top (some v) [] p).1/\Sp.sz top (Sp.mrg top (some v) [] p).1<=16000:=by
 obtain⟨_,_,_,h4⟩:=Mc hc;have g1:=CI hv;have g2:=CI hp;have c1:=EQ hv h4;have c2:=EQ hp h4;have h1:=Sp.Gc top 1 (some v) [] p (Sp.sz top v) (by omega) (fun w hw=>by injection hw with hw;subst hw;exact⟨g1,Nat.le_refl _⟩) g2;have h2:=Sp.JZ top 1 (some v) [] p (by omega) (fun w hw=>by injection hw with hw;subst hw;exact g1) g2;refine⟨h1.1,?_⟩;have h3:Sp.osz top (some v)=Sp.sz top v:=rfl;omega
theorem PA{d e:Int}{u:Sp.By}{v:Sp.V×Sp.Inv}{p:Sp.V}(hp:Sp.readTo u d e=(0,some p))(hg:Sp.gd d e top 1 (Sp.mrg top (some v.1) [] p).1)(hz:Sp.sz top (Sp.mrg top (some v.1) [] p).1<=16000):Sp.stMerge d e v u=((0,0,[]),((Sp.mrg top (some v.1) [] p).1,some (Sp.mrg top (some v.1) [] p).2.reverse)):=by
 unfold Sp.stMerge;rw[hp];simp only;unfold Sp.mergeA;rw[if_neg (by have:=(Sp.CO hg).1;omega)]
end

section
open Go.RowKit Go.Maps
theorem LN{d e n:Int}(hc:Sp.cfg d e n=true){v x:Sp.V}{j:List Sp.Opn}(hch:Sp.Cs d e 200000 v j x)(hx:Sp.Fit d e 200000 x)(hl:(Sp.BW j.reverse).length<=2000) :
  (∃i,∀iv,Sp.stPatch d e (x,iv) (Sp.BW j.reverse)=((4,i,[]),(x,iv))) \/ ∃j2,Sp.Cs d e 200000 x j2 v /\ ∀iv,Sp.stPatch d e (x,iv) (Sp.BW j.reverse)=((0,0,[]),(v,some j2.reverse)):=by
 obtain⟨h1,h2,h3,h4⟩:=Mc hc;obtain⟨P,hr,hp⟩:=Sp.SQ h1 (by omega) h3 (by omega) (fun i hi=>hch.iv i (List.mem_reverse.1 hi)) hl;obtain⟨_,hok⟩:=Sp.Je (CI hr) (F7 hr top) (by omega) hp;have hst:∀iv,Sp.stPatch d e (x,iv) (Sp.BW j.reverse)=match Sp.Bb d 0 x [] (j.reverse.map Sp.inv) with
   | .error (c,i)=>((c,i,[]),(x,iv))
   | .ok (y,k)=>((0,0,[]),(y,some k.reverse)):=fun iv=>by
  unfold Sp.stPatch;rw[hr];simp only[hp];cases Sp.Bb d 0 x [] (j.reverse.map Sp.inv) with
  | error ci=>rfl
  | ok yk=>rfl
 rcases Sp.W7 j hch 0 [] with⟨j2,hd⟩|⟨i,hd⟩
 ·rw[List.nil_append] at hd;obtain⟨j3,e3,hc3⟩:=Sp.GQ (by omega) _ 0 x [] hx hok hd;rw[List.nil_append] at e3;subst e3;exact Or.inr ⟨_,hc3,fun iv=>by rw[hst,hd]⟩
 ·exact Or.inl ⟨i,fun iv=>by rw[hst,hd]⟩
theorem Q5{d e n:Int}(hc:Sp.cfg d e n=true)(b:Bool)(v:Sp.V×Sp.Inv)(s t:Sp.By):Sp.step d e n (some v) ((if b then 6 else 5:Int),s,t)=if b then ((Sp.stMerge d e v s).1,some (Sp.stMerge d e v s).2) else ((Sp.stPatch d e v s).1,some (Sp.stPatch d e v s).2):=by
 cases b
 ·exact Ds hc v s t
 ·exact Pz hc v s t
theorem WP{d e n:Int}(hc:Sp.cfg d e n=true)(b:Bool){doc pt:Sp.By}{v:Sp.V}(hv:Sp.readTo doc d e=(0,some v)) :
  (∃c i,0<c /\ ∀iv,Sp.step d e n (some (v,iv)) ((if b then 6 else 5:Int),pt,[])=((c,i,[]),some (v,iv))) \/
  ∃x j,Sp.Cs d e 200000 v j x/\Sp.Fit d e 200000 x /\ ∀iv,Sp.step d e n (some (v,iv)) ((if b then 6 else 5:Int),pt,[])=((0,0,[]),some (x,some j.reverse)):=by
 obtain⟨h1,h2,h3,h4⟩:=Mc hc;have hg:=CI hv;have hcost:=EQ hv h4;have hfit:Sp.Fit d e 200000 v:=⟨hg,by omega,by omega⟩
 simp only[Q5 hc];cases b with
 | true =>
  simp only[if_true];rcases Jb (t:=pt) (d:=d) (x:=e) with⟨c,hr,hpos⟩|⟨p,hr⟩
  ·exact Or.inl ⟨c,0,hpos,fun iv=>by unfold Sp.stMerge;rw[hr]⟩
  ·obtain⟨g1,z1⟩:=PR hc hv hr;have m1:∀iv,Sp.stMerge d e (v,iv) pt=_:=fun iv=>PA (v:=(v,iv)) hr g1 z1;have hp:=CI hr;have hpc:=EQ hr h4;exact Or.inr ⟨_,_,Sp.RA (by omega) hfit hp (by omega),⟨g1,by omega,by omega⟩,fun iv=>by rw[m1]⟩
 | false =>
  simp only[Bool.false_eq_true,if_false];unfold Sp.stPatch;rcases Jb (t:=pt) (d:=d+2) (x:=e) with⟨c,hr,hpos⟩|⟨p,hr⟩
  ·exact Or.inl ⟨c,0,hpos,fun iv=>by rw[hr]⟩
  ·rw[hr];simp only;cases hp:Sp.Dv p with
   | error i=>exact Or.inl ⟨10,i,by omega,fun iv=>rfl⟩
   | ok l =>
    simp only
    obtain⟨_,hok⟩:=Sp.Je (CI hr) (F7 hr top) (by omega) hp;cases hd:Sp.Bb d 0 v [] l with
    | error ci =>
     obtain⟨c,i⟩:=ci;exact Or.inl ⟨c,i,Nat.pos_of_ne_zero (Sp.Pd l _ _ _ hd),fun iv=>rfl⟩
    | ok xj =>
     obtain⟨x,j⟩:=xj;obtain⟨f1,_⟩:=Sp.Nu (by omega) l _ _ _ hfit hok hd;obtain⟨j1,e1,hch⟩:=Sp.GQ (by omega) l 0 v [] hfit hok hd;rw[List.nil_append] at e1;subst e1;exact Or.inr ⟨x,_,hch,f1,fun iv=>rfl⟩
def Sp.us1(b:Bool)(doc pt:Sp.By):List Sp.St:=[(1,doc,[]),(2,[],[]),((if b then 6 else 5:Int),pt,[]),(2,[],[]),(7,[],[])]
def Sp.us2(b:Bool)(doc pt t:Sp.By):List Sp.St:=Sp.us1 b doc pt++[(5,t,[]),(2,[],[]),(7,[],[])]
def Sp.us3(b:Bool)(doc pt t u:Sp.By):List Sp.St:=Sp.us2 b doc pt t++[(5,u,[]),(2,[],[])]
theorem Py{d e n:Int}(hc:Sp.cfg d e n=true)(b:Bool)(s t:Sp.By):Sp.step d e n none ((if b then 6 else 5:Int),s,t)=((3,0,[]),none):=by
 cases b
 ·exact FL hc 5 (by omega) (by omega) s t
 ·exact FL hc 6 (by omega) (by omega) s t
theorem VP{d e n:Int}(hc:Sp.cfg d e n=true)(b:Bool)(doc pt:Sp.By) :
  (∃c,0<c/\Sp.run d e n none (Sp.us1 b doc pt)=[(c,0,[]),(3,0,[]),(3,0,[]),(3,0,[]),(3,0,[])]) \/
  (∃ (s:Sp.By) (c i:Nat),0<c/\Sp.run d e n none (Sp.us1 b doc pt)=[(0,0,[]),(0,0,s),(c,i,[]),(0,0,s),(3,0,[])]) \/
  (∃ (s u t:Sp.By),Sp.run d e n none (Sp.us1 b doc pt)=[(0,0,[]),(0,0,s),(0,0,[]),(0,0,u),(0,0,t)]/\(t.length<=2000 ->
   (∃i a6 a7,Sp.run d e n none (Sp.us2 b doc pt t)=[(0,0,[]),(0,0,s),(0,0,[]),(0,0,u),(0,0,t),(4,i,[]),a6,a7]) \/
   ∃t2,Sp.run d e n none (Sp.us2 b doc pt t)=[(0,0,[]),(0,0,s),(0,0,[]),(0,0,u),(0,0,t),(0,0,[]),(0,0,s),(0,0,t2)]/\(t2.length<=2000 ->
    (∃i a9,Sp.run d e n none (Sp.us3 b doc pt t t2)=[(0,0,[]),(0,0,s),(0,0,[]),(0,0,u),(0,0,t),(0,0,[]),(0,0,s),(0,0,t2),(4,i,[]),a9]) \/
    Sp.run d e n none (Sp.us3 b doc pt t t2)=[(0,0,[]),(0,0,s),(0,0,[]),(0,0,u),(0,0,t),(0,0,[]),(0,0,s),(0,0,t2),(0,0,[]),(0,0,u)]))):=by
 obtain⟨h1,h2,h3,h4⟩:=Mc hc;rcases Jb (t:=doc) (d:=d) (x:=e) with⟨c,hr,hpos⟩|⟨v,hr⟩
 ·refine Or.inl ⟨c,hpos,?_⟩;simp only[Sp.us1,Sp.run,CS hc,hr,Sp.ldd,FL hc 2 (by omega) (by omega),Py hc,FL hc 7 (by omega) (by omega)]
 ·right
  have hfv:Sp.Fit d e 200000 v:=⟨CI hr,by omega,by have:=EQ hr h4;omega⟩
  rcases WP (n:=n) hc b (pt:=pt) hr with⟨c,i,hpos,hs⟩|⟨x,j,hch,hfx,hs⟩
  ·refine Or.inl ⟨Sp.can top v,c,i,hpos,?_⟩;simp only[Sp.us1,Sp.run,CS hc,hr,Sp.ldd,De hc,hs,Cz hc,Sp.stInvert]
  ·refine Or.inr ⟨Sp.can top v,Sp.can top x,Sp.BW j.reverse,?_,fun hl=>?_⟩
   ·simp only[Sp.us1,Sp.run,CS hc,hr,Sp.ldd,De hc,hs,Cz hc,Sp.stInvert]
   ·rcases LN hc hch hfx hl with⟨i,hb⟩|⟨j2,hch2,hb⟩
    ·refine Or.inl ⟨i,(0,0,Sp.can top x),(0,0,Sp.BW j.reverse),?_⟩;simp only[Sp.us2,Sp.us1,List.cons_append,List.nil_append,Sp.run,CS hc,hr,Sp.ldd,De hc,hs,Cz hc,Sp.stInvert,Ds hc,hb]
    ·refine Or.inr ⟨Sp.BW j2.reverse,?_,fun hl2=>?_⟩
     ·simp only[Sp.us2,Sp.us1,List.cons_append,List.nil_append,Sp.run,CS hc,hr,Sp.ldd,De hc,hs,Cz hc,Sp.stInvert,Ds hc,hb]
     ·rcases LN hc hch2 hfv hl2 with⟨i,hb2⟩|⟨j3,hch3,hb2⟩
      ·refine Or.inl ⟨i,(0,0,Sp.can top v),?_⟩;simp only[Sp.us3,Sp.us2,Sp.us1,List.cons_append,List.nil_append,Sp.run,CS hc,hr,Sp.ldd,De hc,hs,Cz hc,Sp.stInvert,Ds hc,hb,hb2]
      ·refine Or.inr ?_;simp only[Sp.us3,Sp.us2,Sp.us1,List.cons_append,List.nil_append,Sp.run,CS hc,hr,Sp.ldd,De hc,hs,Cz hc,Sp.stInvert,Ds hc,hb,hb2]
end

section
open Go.RowKit
def Xd(o:Sp.St):List Value:=[.int .i64 o.1,.string ⟨o.2.1.toArray⟩,.string ⟨o.2.2.toArray⟩]
def C6(l:List Sp.St):List Value:=l.flatMap Xd
theorem Ja(l:List Sp.St):(C6 l).length=l.length*3:=by
 induction l with
 | nil=>rfl
 | cons p r ih=>simp[C6,Xd] at ih |-; omega
theorem VO(l:List Sp.St):∀ (i:Nat) (hi:i<l.length),(C6 l)[i*3]? = some (.int .i64 l[i].1)/\(C6 l)[i*3+1]? = some (.string ⟨l[i].2.1.toArray⟩)/\(C6 l)[i*3+2]? = some (.string ⟨l[i].2.2.toArray⟩):=by
 induction l with
 | nil=>intro i hi;exact absurd hi (by simp)
 | cons p r ih =>
  intro i hi;cases i with
  | zero=>exact⟨rfl,rfl,rfl⟩
  | succ i =>
   have h:=ih i (by simpa using hi);have e:C6 (p::r) = .int .i64 p.1 :: .string ⟨p.2.1.toArray⟩ :: .string ⟨p.2.2.toArray⟩::C6 r:=rfl;rw[e,show (i+1)*3=i*3+1+1+1 by omega];exact h
def Own(w:World)(B:Nat)(v:Value)(n:Nat)(l:List Sp.St):Prop:=n=l.length/\w.ownsRow B 49 3 v n (C6 l)
theorem Own.scr{w:World}{B g n cap:Nat}{l:List Sp.St}(h:Own w B (.slice (some ⟨g,0,none⟩) n cap) n l):Scr w g 0 l/\B<=g/\g<w.heap.size/\n<=cap:=by
 obtain⟨hn,hl,⟨h1,_⟩|⟨g',cap',cur,h1,h2,h3,h4,h5,h6,h7⟩⟩:=h
 ·cases h1
 ·injection h1 with h1 _ h8;injection h1 with h1;injection h1 with h1;subst h1 h8;refine⟨fun i hi=>?_,h2,(Array.getElem?_eq_some_iff.1 h3).1,h4⟩;have hc:∀j,j<n*3->w.cell? ⟨g,j,none⟩=(C6 l)[j]?:=fun j hj=>by
   rw[cell_of_row w g j _ _ _ h3,<- h7,List.getElem?_take,if_pos hj,Array.getElem?_toList]
  obtain⟨q0,q1,q2⟩:=VO l i hi;rw[Nat.zero_add,hc _ (by omega),hc _ (by omega),hc _ (by omega)];exact⟨q0,q1,q2⟩
theorem Own.bel{w w':World}{B g n cap:Nat}{l:List Sp.St}(h:Own w B (.slice (some ⟨g,0,none⟩) n cap) n l)(hb:Below w.heap.size w w'):Own w' B (.slice (some ⟨g,0,none⟩) n cap) n l:=by
 obtain⟨hn,hl,⟨h1,_⟩|⟨g',cap',cur,h1,h2,h3,h4⟩⟩:=h
 ·cases h1
 ·exact⟨hn,hl,Or.inr ⟨g',cap',cur,h1,h2,(hb.block _ (Array.getElem?_eq_some_iff.1 h3).1).trans h3,h4⟩⟩
theorem Own.new{w:World}{B n:Nat}{cs:Array Value}{l:List Sp.St}(hB:B<=w.heap.size)(hn:n=l.length)(hs:n<=1000)(hc:cs.toList=C6 l):Own (w.alloc (.cells cs 49)) B (.slice (some ⟨w.heap.size,0,none⟩) n n) n l:=by
 have hz:cs.size=n*3:=by rw[<- Array.length_toList,hc,Ja,hn]
 refine⟨hn,by rw[Ja,hn],Or.inr ⟨w.heap.size,n,cs,rfl,hB,heap_alloc_new w _,Nat.le_refl _,by unfold maxLen;omega,hz,?_⟩⟩;rw[hc,List.take_of_length_le (by rw[Ja];omega)]
theorem Own.run{d e n:Int}{l:List Sp.St}{w:World}{B g m cap:Nat}(h:Own w B (.slice (some ⟨g,0,none⟩) m cap) m l)(hpl:Plain l)(hpos:0<m)(hb:m<=1000)(hT:Af w) :
  Calls Tryz.prog 24 #[.agg #[.int .i64 d,.int .i64 e,.int .i64 n],.slice (some ⟨g,0,none⟩) m cap] w fun x w'=>Ye m (Sp.run d e n none l) w x w':=by
 obtain⟨h1,_,h3,h4⟩:=h.scr;exact NP h1 hpl h.1 hpos h4 (by omega) h3 hT
theorem Uf:(Tryz.prog.info? 49).map (fun i=>(i.zero,i.size,i.bytes))=some (some (.agg #[.int .i64 0,.string ⟨#[]⟩,.string ⟨#[]⟩]),3,40):=by kernel_rfl
theorem MP{w w1 w3:World}{v:Value}{B m k g cap:Nat}{l l':List Sp.St}{xs new:List Value}(h:Own w1 B v m l)(hb:Below B w w1)(hB:B<=w1.heap.size)(hk:k=l'.length)(hx:xs=C6 l)(hnew:new=C6 l')(hown:w3.ownsRow B 49 3 (.slice (some ⟨g,0,none⟩) (m+k) cap) (m+k) (xs++new))(hg:w1.grownBy w3 v.ownBlock) :
  Own w3 B (.slice (some ⟨g,0,none⟩) (m+k) cap) (m+k) (l++l')/\Below B w w3:=by
 subst hx hnew hk;refine⟨⟨by rw[List.length_append,h.1],?_⟩,hb.trans ((Below.refl B w1).grown hg hB fun j hj=>(h.2.lt j hj).1)⟩;have e:C6 (l++l')=C6 l++C6 l':=by simp[C6]
 rw[e];exact hown
end

section
open Go.RowKit
def lst(x y z:Nat):Array Bool:=#[decide (1<=x),decide (1<=y),decide (2<=y),decide (3<=y),decide (4<=y),decide (1<=z),decide (2<=z),decide (3<=z),false,false,false,false]
def rdy(x y z:Nat):List Nat:=(if x<1 then [0] else [])++((if y<4 then [1+y] else [])++(if z<3 then [5+z] else []))
def Lx(ops:Array Oper):Bool:=(List.range 2).all fun x=>(List.range 5).all fun y=>(List.range 4).all fun z=>(y == 4 && z == 3) || (Region.ready .any ops (lst x y z) == rdy x y z)
theorem YB(y z:Nat):(lst 0 y z).setIfInBounds 0 true=lst 1 y z:=rfl
theorem YA{x y z:Nat}(h:y<4):(lst x y z).setIfInBounds (1+y) true=lst x (y+1) z:=by
 match y,h with
 | 0,_=>rfl
 | 1,_=>rfl
 | 2,_=>rfl
 | 3,_=>rfl
theorem Yz{x y z:Nat}(h:z<3):(lst x y z).setIfInBounds (5+z) true=lst x y (z+1):=by
 match z,h with
 | 0,_=>rfl
 | 1,_=>rfl
 | 2,_=>rfl
theorem WI{F:Fence}{n:Nat}{P:Program}{ops:Array Oper}{Q:Exit->Act->World->Prop}(A:Nat->Nat->Nat->Act)(W:Nat->World)(hd:Lx ops=true)
  (h0:∀y z (K:Act->World->Prop),y<=4->z<=3->K (A 1 y z) (W z)->wpOpIn F n P ops Q 0 K (A 0 y z) (W z))
  (h1:∀x y z (K:Act->World->Prop),x<=1->y<4->z<=3->K (A x (y+1) z) (W z)->wpOpIn F n P ops Q (1+y) K (A x y z) (W z))
  (h5:∀x y z (K:Act->World->Prop),x<=1->y<=4->z<3->K (A x y (z+1)) (W (z+1))->wpOpIn F n P ops Q (5+z) K (A x y z) (W z))
  (hl:wpAnyIn F n P .any ops Q 4 (lst 1 4 3) (A 1 4 3) (W 3)) (hl0:wpAnyIn F n P .any ops Q 4 (lst 1 4 3) (A 1 4 3) (W 3)->wpAnyIn F n P .any ops Q 5 (lst 0 4 3) (A 0 4 3) (W 3)):wpAnyIn F n P .any ops Q 12 (lst 0 0 0) (A 0 0 0) (W 0):=by
 suffices H:∀m x y z,x<=1->y<=4->z<=3->x+y+z+m=8->wpAnyIn F n P .any ops Q (m+4) (lst x y z) (A x y z) (W z) from H 8 0 0 0 (by omega) (by omega) (by omega) rfl
 intro m;induction m with
 | zero =>
  intro x y z hx hy hz e;obtain rfl:x=1:=by omega
  obtain rfl:y=4:=by omega
  obtain rfl:z=3:=by omega
  exact hl
 | succ m ih =>
  intro x y z hx hy hz e;by_cases hyz:y=4/\z=3
  ·obtain⟨rfl,rfl⟩:=hyz;obtain rfl:x=0:=by omega
   obtain rfl:m=0:=by omega
   exact hl0 hl
  have hr:Region.ready .any ops (lst x y z)=rdy x y z:=by
   unfold Lx at hd;have h2:=List.all_eq_true.1 hd x (by simp;omega);have h3:=List.all_eq_true.1 h2 y (by simp;omega);have h4:=List.all_eq_true.1 h3 z (by simp;omega);simp only[Bool.or_eq_true,Bool.and_eq_true,beq_iff_eq] at h4;rcases h4 with h4|h4
   ·omega
   ·exact h4
  have hne:rdy x y z≠[]:=by
   unfold rdy;intro h;rw[List.append_eq_nil_iff,List.append_eq_nil_iff] at h;obtain⟨q1,q2,q3⟩:=h;split at q1
   ·cases q1
   ·split at q2
    ·cases q2
    ·split at q3
     ·cases q3
     ·omega
  have e4:m+1+4=(m+4)+1:=by omega
  rw[e4];refine wpAnyIn_ready hr hne ?_;intro i hi;unfold rdy at hi;rcases List.mem_append.1 hi with hi|hi
  ·split at hi
   ·obtain rfl:i=0:=by simpa using hi
    obtain rfl:x=0:=by omega
    refine h0 y z _ hy hz ?_;rw[YB];exact ih 1 y z (by omega) hy hz (by omega)
   ·cases hi
  ·rcases List.mem_append.1 hi with hi|hi
   ·split at hi
    ·rename_i hy4;obtain rfl:i=1+y:=by simpa using hi
     refine h1 x y z _ hx hy4 hz ?_;rw[YA hy4];exact ih x (y+1) z hx (by omega) hz (by omega)
    ·cases hi
   ·split at hi
    ·rename_i hz3;obtain rfl:i=5+z:=by simpa using hi
     refine h5 x y z _ hx hy hz3 ?_;rw[Yz hz3];exact ih x y (z+1) hx hy (by omega) (by omega)
    ·cases hi
end

section
open Go.RowKit Go.Maps
attribute [local go_sem] Oper.semAt_some CG
theorem Fg{l:Nat}{w:World}{o:Oper}{a:Act}{K:Act->World->Prop}{Q:Exit->Act->World->Prop}(s x:Operand)(t:TypeId)
  (ho:o.op = .call { callee:=.builtin .append,args:=#[s,x],argTypes:=#[t,t] })
  (base:Nat) (e:TypeId) (i:TypeInfo) (z:Value) (size bytes:Nat) (ht:Tryz.prog.underlying t=some (.slice e)) (hi:Tryz.prog.info? e=some i) (hz:i.zero=some z)
  (hsize:i.size=size) (hby:i.bytes=bytes) (hzs:z.cells.size=size) (hsz:0<size)
  (v:Value) (n:Nat) (xs:List Value) (hs:a.eval s=v) (hown:w.ownsRow base e size v n xs)
  (ad:Addr) (m c:Nat) (news:List Value) (hx:a.eval x = .slice (some ad) m c) (hl:news.length=m*size) (hnews:∀j u,news[j]? = some u->w.cell? (ad.add j)=some u) (h1:∀u∈news,u.oneCell'=true)
  (hm:0<m) (h63:n+m<=maxLen) (hbytes:(n+m)*bytes<=140737488355328) (hbase:base<=w.heap.size) (H:Nat) (hH:w.heap.size=H)
  (h:∀g cap w',w'.ownsRow base e size (.slice (some ⟨g,0,none⟩) (n+m) cap) (n+m) (xs++news)->w.grownBy w' v.ownBlock->(v.ownBlock=some g\/g=H)->g<w'.heap.size->K (a.put o.dst (.slice (some ⟨g,0,none⟩) (n+m) cap)) w') :
  Oper.wpIn (Fence.wide.inRound l) 0 Tryz.prog o a w K Q:=by
 obtain⟨g,cap,w',hr,h2,h3,h4,h5⟩:=run_append_lies (P:=Tryz.prog) (w:=w) t o.type base e i z size bytes ht hi hz hsize hby hzs hsz v n xs hown ad m c news hl hnews h1 hm h63 hbytes hbase H hH;refine⟨fun f _=>trivial,?_⟩;rw[show (Fence.wide.inRound l).round=some l from rfl,Oper.semAt_some _ _ _ (by intro c hc;rw[ho] at hc;cases hc)];unfold execOp;simp only[ho,resolve,invoke,builtin,Sem.run_bind,Sem.run_pure,Result.andThen_ok,List.map_toArray,List.map_cons,List.map_nil,hs,hx,hr];exact h g cap w' h2 h3 h4 h5
theorem VZ:(Tryz.prog.info? 178).map (fun i=>(i.zero.map (fun z=>z.cells.size),i.size,i.bytes))=some (some 4,4,64):=by kernel_rfl
theorem MR:∃i z,Tryz.prog.info? 178=some i/\i.zero=some z/\z.cells.size=4/\i.size=4/\i.bytes=64:=by
 obtain⟨i,hi,h⟩:=Option.map_eq_some_iff.1 VZ;simp only[Prod.mk.injEq] at h;obtain⟨z,hz,h1⟩:=Option.map_eq_some_iff.1 h.1;exact⟨i,z,hi,hz,h1,h.2.1,h.2.2⟩
def pk(n k:Nat)(v:Value):Value:=if k<=n then v else undef
def wz(z:Nat)(w1 w2:World):World:=if 3<=z then w2 else w1
def FX(c:Nat->Value)(N:Nat):Nat->List Value
 | 0=>[]
 | k+1=>FX c N k++[c ((N-1-k)*5+1),c ((N-1-k)*5+2),c ((N-1-k)*5+3),c ((N-1-k)*5+4)]
theorem D6.snoc{w:World}{G:Nat->Prop}{kv pv fv vv:Value}{o:Sp.Opn}(ho:F3 w G kv pv fv vv o):∀ {xs:List Value} {js:List Sp.Opn},D6 w G xs js->D6 w G (xs++[kv,pv,fv,vv]) (js++[o])
 | [],[],_=>⟨ho,trivial⟩
 | _::_::_::_::_,_::_,⟨a,b⟩=>⟨a,D6.snoc ho b⟩
structure DQ(w wB:World)(D g N B:Nat)(rv jn:Value)(ch:Bool)(c:Nat->Value)(k:Nat)(W:World):Prop where
 bx:W.heap[w.heap.size]? = wB.heap[w.heap.size]?
 box:W.heap[w.heap.size+1]? = wB.heap[w.heap.size+1]?
 row:0<N->W.heap[g]? = w.heap[g]?
 os:W.os=w.os
 tape:W.tape=w.tape
 output:W.output=w.output
 size:B<=W.heap.size
 old:∀j,j<w.heap.size->j≠D->W.heap[j]? = w.heap[j]?
 doc:∃iv,DB W D rv jn ch iv/\W.ownsRow 0 178 4 iv k (FX c N k) /\ ∀q,iv.ownBlock=some q->w.heap.size+2<=q/\q≠B/\q≠B+1
structure Mf(w wB:World)(D g N B:Nat)(rv jn:Value)(ch:Bool)(c:Nat->Value)(E:Array Value)(k X:Nat)(W:World):Prop where
 inv:DQ w wB D g N B rv jn ch c k W
 ne:w.heap.size+2<=X/\X≠B/\X≠B+1
 blk:W.heap[X]? = some (.cells E 230 (0,0))
 far:∀q iv,DB W D rv jn ch iv->iv.ownBlock=some q->q≠X
section
variable{w wB:World}{D g N B:Nat}{rv jn:Value}{ch:Bool}{c:Nat->Value}
theorem DQ.apart(hB:B=w.heap.size+2)(hD:D<w.heap.size)(hg:0<N->g<w.heap.size)(k:Nat):E6 B (DQ w wB D g N B rv jn ch c k):=by
 intro W W' h e1 e2 e3 e4 e5;have hs:=h.size;obtain⟨iv,h1,h2,h3⟩:=h.doc;refine⟨(e5 _ (by omega) (by omega) (by omega)).trans h.bx,(e5 _ (by omega) (by omega) (by omega)).trans h.box,fun hN=>(e5 g (by have:=hg hN;omega) (by have:=hg hN;omega) (by have:=hg hN;omega)).trans (h.row hN),e1.trans h.os,e2.trans h.tape,e3.trans h.output,Nat.le_trans hs e4,fun j hj hne=>(e5 j (by omega) (by omega) (by omega)).trans (h.old j hj hne),iv,h1.kept (e5 D (by omega) (by omega) (by omega)),BG h2 fun q hq=>e5 q (BP h2 q hq).1 (h3 q hq).2.1 (h3 q hq).2.2,h3⟩
theorem Mf.apart{E:Array Value}(hB:B=w.heap.size+2)(hD:D<w.heap.size)(hg:0<N->g<w.heap.size)(k X:Nat):E6 B (Mf w wB D g N B rv jn ch c E k X):=by
 intro W W' h e1 e2 e3 e4 e5;have hs:=h.inv.size;refine⟨DQ.apart hB hD hg k W W' h.inv e1 e2 e3 e4 e5,h.ne,(e5 X (Array.getElem?_eq_some_iff.1 h.blk).1 h.ne.2.1 h.ne.2.2).trans h.blk,fun q iv h1 h2=>h.far q iv (h1.kept (e5 D (by omega) (by omega) (by omega)).symm) h2⟩
theorem DB.iv{W:World}{iv iv':Value}(h:DB W D rv jn ch iv)(h':DB W D rv jn ch iv'):iv=iv':=by
 have e:=(show W.heap[D]? = _ from h).symm.trans (show W.heap[D]? = _ from h');injection e with e;injection e with e;simp at e;exact e
end
end

section
open Go.RowKit Go.Maps
attribute [local go_sem] Oper.semAt_some CG
section
variable{w wB:World}{D g N B:Nat}{rv jn iv:Value}{ch:Bool}{c:Nat->Value}
theorem DB.set3{W:World}(h:DB W D rv jn ch iv)(v:Value):DB (W.setCell ⟨D,3,none⟩ v) D rv jn ch v:=by
 simp only[DB,World.setCell,Array.getElem?_modify];rw[if_pos trivial,show W.heap[D]? = _ from h];rfl
theorem DQ.turn{k q cap:Nat}{W W2 W3:World}(hB:B=w.heap.size+2)(hD:D<w.heap.size)(hg:0<N->g<w.heap.size/\g≠D)(hl:B+1<W.heap.size)(h:DQ w wB D g N B rv jn ch c k W)(hiv:DB W D rv jn ch iv)(h2:Below W.heap.size W W2)
  (ho:W3.ownsRow 0 178 4 (.slice (some ⟨q,0,none⟩) (k+1) cap) (k+1) (FX c N k++[c ((N-1-k)*5+1),c ((N-1-k)*5+2),c ((N-1-k)*5+3),c ((N-1-k)*5+4)])) (hgr:W2.grownBy W3 iv.ownBlock) (hat:iv.ownBlock=some q\/W.heap.size<=q) :
  Two B W (W3.setCell ⟨D,3,none⟩ (.slice (some ⟨q,0,none⟩) (k+1) cap))/\DQ w wB D g N B rv jn ch c (k+1) (W3.setCell ⟨D,3,none⟩ (.slice (some ⟨q,0,none⟩) (k+1) cap)):=by
 have hs:=h.size;have hs2:=h2.size;have hs3:=hgr.size;obtain⟨iv0,d1,d2,d3⟩:=h.doc;obtain rfl:=hiv.iv d1;have keep:∀j,j<W.heap.size->iv.ownBlock≠some j->W3.heap[j]? = W.heap[j]?:=fun j hj hne=>(hgr.block j (by omega) (fun e=>hne e.symm)).trans (h2.block j hj);have far:∀j,(j<w.heap.size+2\/j=B\/j=B+1)->iv.ownBlock≠some j:=fun j hj e=>by
  obtain⟨p1,p2,p3⟩:=d3 j e;omega
 have hset:∀j,j≠D->(W3.setCell ⟨D,3,none⟩ (.slice (some ⟨q,0,none⟩) (k+1) cap)).heap[j]? = W3.heap[j]?:=fun j hj=>Below.heap_setCell _ _ _ _ hj;have hq:w.heap.size+2<=q/\q≠B/\q≠B+1:=by
  rcases hat with e|e
  ·exact d3 q e
  ·omega
 have hall:∀j,j<W.heap.size->(j<w.heap.size+2\/j=B\/j=B+1)->j≠D->(W3.setCell ⟨D,3,none⟩ (.slice (some ⟨q,0,none⟩) (k+1) cap)).heap[j]? = W.heap[j]?:=fun j hj hf hne=>(hset j hne).trans (keep j hj (far j hf));refine⟨⟨hall B (by omega) (by omega) (by omega),hall (B+1) (by omega) (by omega) (by omega)⟩,(hall _ (by omega) (by omega) (by omega)).trans h.bx,(hall _ (by omega) (by omega) (by omega)).trans h.box,fun hN=>?_,?_,?_,?_,?_,fun j hj hne=>(hall j (by omega) (by omega) hne).trans (h.old j hj hne),.slice (some ⟨q,0,none⟩) (k+1) cap,?_,?_,?_⟩
 ·obtain⟨g1,g2⟩:=hg hN;exact (hall g (by omega) (by omega) g2).trans (h.row hN)
 ·exact hgr.os.trans (h2.os.trans h.os)
 ·exact hgr.tape.trans (h2.tape.trans h.tape)
 ·exact hgr.output.trans (h2.output.trans h.output)
 ·show B<=(W3.setCell _ _).heap.size;simp[World.setCell];omega
 ·exact (d1.kept (keep D (by omega) (far D (by omega)))).set3 _
 ·exact BG ho fun j hj=>hset j (by simp[Value.ownBlock] at hj;omega)
 ·intro j hj;simp[Value.ownBlock] at hj;subst hj;exact hq
end
end
end Go.Proofs.YtdpomdelmdofmaaGreatDoor
