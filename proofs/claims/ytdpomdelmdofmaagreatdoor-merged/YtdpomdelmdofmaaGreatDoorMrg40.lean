/-
  Walk of diff.Patch, values' walk given.
-/
import Derived.Test.YtdpomdelmdofmaaGreatDoorMrg39
import Derived.Test.YtdpomdelmdofmaaGreatDoorMrg38
import Derived.Test.YtdpomdelmdofmaaGreatDoorMrg36
import Derived.Test.YtdpomdelmdofmaaGreatDoorMrg33
namespace Go.Proofs.YtdpomdelmdofmaaGreatDoor
section
set_option maxRecDepth 100000
set_option maxHeartbeats 2000000
open Go.RowKit Go.Maps
def DfOps (j:List Sp.Opn) (w:World) (e:Ending) (w':World):Prop:=Below w.heap.size w w' ∧ ∃mv xs M,e = .returned mv∧w'.ownsRow 0 178 4 mv j.length xs∧(∀g,mv.ownBlock=some g → ¬ M g)∧Opns w' M xs j
theorem mk_new (w:World) (n:Int):MkD (w.alloc (.cells #[.int .i64 n,.slice none 0 0] 187)) w.heap.size n (fun k=>k<w.heap.size) [] :=
 ⟨⟨.slice none 0 0,[],heap_alloc_new w _,⟨rfl,Or.inl ⟨rfl,rfl⟩⟩,fun g hg=>by simp[Value.ownBlock] at hg,trivial⟩,fun k hk=>by simp;omega,fun h=>absurd h (Nat.lt_irrefl _)⟩
theorem diffPatch_any {w:World} {av bv:Value} {n:Int} {j:List Sp.Opn}
  (hV:Calls Tryz.prog 123 #[.pointer (some ⟨w.heap.size,0,none⟩),.slice none 0 0,av,bv] (w.alloc (.cells #[.int .i64 n,.slice none 0 0] 187)) (DfEnd w.heap.size n (fun k=>k<w.heap.size) [] j (w.alloc (.cells #[.int .i64 n,.slice none 0 0] 187)))) :
  Calls Tryz.prog 88 #[av,bv,.int .i64 n] w (DfOps j w):=by
 have HV:=hide hV
 have HB:=hide (show Below w.heap.size w (w.alloc (.cells #[.int .i64 n,.slice none 0 0] 187)) from (Below.refl _ _).alloc (Nat.le_refl _) _)
 obtain⟨Q,hQ⟩:∃Q,Q=DfOps j w:=⟨_,rfl⟩
 rw[← hQ]
 have HQ:=hide hQ
 clear hV hQ
 go_enter Tryz.func88,Tryz.ntmps88
 go_wp2_with (fail)
 refine (unhide HV).mono ?_
 rintro e w2 ⟨rfl,M',hD,hX⟩
 obtain⟨mv,xs,g1,g2,g3,g4⟩:=hD.ex
 have c1:w2.cell? ⟨w.heap.size,1,none⟩=some mv:=by simp[World.cell?,g1]
 have HFIN:=hide (show Q (.returned mv) w2 from by
  rw[unhide HQ]
  exact⟨⟨hX.os.trans (unhide HB).os,hX.tape.trans (unhide HB).tape,hX.output.trans (unhide HB).output,Nat.le_trans (unhide HB).size hX.size,fun k hk=>((hX.kept k hk).2).trans ((unhide HB).block k hk)⟩,mv,xs,M',rfl,by simpa using g2,fun g hg=>(g3 g hg).1,by simpa using g4⟩)
 clear hD hX g1 g2 g3 g4 HV
 go_wp2_with (fail)
 exact unhide HFIN
end

section
set_option maxRecDepth 100000
set_option maxHeartbeats 4000000
open Go.RowKit Go.Maps
theorem DfOps.inv {j:List Sp.Opn} {w w':World} {e:Ending} (h:DfOps j w e w') (hl:(Sp.ptext j).length≤8796093022208) (hok:∀o∈j,Sp.IOk o):Below w.heap.size w w' ∧ ∃mv,e = .returned mv∧InvR w' (fun _=>True) mv (some j):=by
 obtain⟨h1,mv,xs,M,h2,h3,_,h5⟩:=h
 exact⟨h1,mv,h2,⟨xs,h3,fun _ _=>trivial,h5.move fun k _ _=>⟨rfl,trivial⟩⟩,hl,hok⟩
theorem sdiff_any {S:Nat} {d e n:Int} {p:Value} {v:Sp.V×Sp.Inv} {F:Nat→Prop} {p2:Option Addr} {w:World} {j:List Sp.Opn} (hS:SB w S d e n p) (hD:DocF w F p d e (some v)) (hT:Laid w) (hl:(Sp.ptext j).length≤8796093022208) (hok:∀o∈j,Sp.IOk o)
  (hP:∀D R wp,p = .pointer (some ⟨D,0,none⟩)→DocW w F D R wp d e v → ∀w1,Below w.heap.size w w1→Calls Tryz.prog 88 #[wp,.pointer p2,.int .i64 n] w1 (DfOps j w1)) :
  Calls Tryz.prog 62 #[.pointer (some ⟨S,0,none⟩),.pointer p2] w fun x w'=>x = .returned (ansA (0,0,Sp.ptext j))∧Below w.heap.size w w':=by
 obtain⟨D,R,wp,rfl,hdw⟩:=hD
 obtain⟨T,a,iv,h1,h2,h3⟩:=hdw.ex
 obtain⟨W0,hW0⟩:∃W0,W0=w.alloc (.cells #[.int .i64 0,.int .i64 0,.string ⟨#[]⟩] 46):=⟨_,rfl⟩
 have hba:Below w.heap.size w W0:=by rw[hW0];exact (Below.refl _ _).alloc (Nat.le_refl _) _
 have hs0:W0.heap.size=w.heap.size+1:=by rw[hW0];simp
 have hab:AB W0 w.heap.size:=by rw[hW0];exact AB.new w
 have hS0:=hS.low hba
 have c2:=hS0.c2
 have c3:=hS0.c3
 have h1':DocT W0 D R wp (.slice none 0 0) iv v.2.isSome T a v.1:=h1.move (hba.block D h1.db.lt) fun k hk=>hba.block k (h1.tr.lt k hk)
 obtain⟨b,rfl,_⟩:=h1'.sub.ptr
 have HW:=hide (fun w1 (hb:Below W0.heap.size W0 w1)=>WholeT (h1'.move (hb.block D h1'.db.lt) fun k hk=>hb.block k (h1'.tr.lt k hk)))
 have HP:=hide (fun w1 (hb:Below W0.heap.size W0 w1)=>hP D R _ rfl hdw w1 (hba.trans (hb.mono hba.size)))
 have HTX:=hide (fun (w3:World) (mv:Value) (hb:Below W0.heap.size W0 w3) (hi:InvR w3 (fun _=>True) mv (some j))=>text_inv hi ((hT.below (hba.mono hT.ng)).below (hb.mono (Nat.le_trans hT.ng hba.size))))
 have HINV:=hide (And.intro hl hok)
 have HAB:=hide hab
 have HBA:=hide hba
 have HS0:=hide hS0
 have HZ:=hide hs0
 have HW0:=hide hW0
 rw[hW0] at c2 c3
 obtain⟨A,hA⟩:∃A,A=Sp.ptext j:=⟨_,rfl⟩
 rw[← hA] at HTX ⊢
 have hsl:=hS.lt
 clear hS hT hl hok hP hdw h1 h2 h3 hba hab hS0 h1' hs0 hA hW0
 go_enter Tryz.func62,Tryz.ntmps62
 go_upto_region 1 with (fail)
 rw[← unhide HW0]
 rw[← unhide HW0] at c2 c3
 go_region_with (first
  | (go_at_call 56;refine (unhide HW _ ?_).mono ?_;exact⟨rfl,rfl,rfl,Nat.le_refl _,fun _ _=>rfl⟩;rintro x w2 ⟨rfl,hb2⟩;replace hb2:Below W0.heap.size W0 w2:=⟨hb2.os,hb2.tape,hb2.output,hb2.size,hb2.block⟩;have d2:=((unhide HS0).low hb2).c2;have HB2:=hide hb2;clear hb2)
  | (go_at_call 88;refine (unhide HP _ ?_).mono ?_;exact⟨(unhide HB2).os,(unhide HB2).tape,(unhide HB2).output,(unhide HB2).size,(unhide HB2).block⟩;rintro e w3 hx;obtain⟨hb3,mv,rfl,hi⟩:=hx.inv (unhide HINV).1 (unhide HINV).2;replace hb3:Below W0.heap.size W0 w3:=(unhide HB2).trans (Below.mono ⟨hb3.os,hb3.tape,hb3.output,hb3.size,hb3.block⟩ (unhide HB2).size);have HB3:=hide hb3;have HI:=hide hi;clear hb3 hi hx)
  | (go_at_call 87;refine (unhide HTX _ _ ?_ (unhide HI)).mono ?_;exact unhide HB3;rintro e w4 ⟨rfl,hb4⟩;have a4:=(unhide HAB).low (((unhide HB3).trans (hb4.mono (unhide HB3).size)).mono (by have:=unhide HZ;omega));have g0:=a4.c0;have g1:=a4.c1;have g2:=a4.c2;have z:=a4.fz;have HB4:=hide hb4;clear hb4 a4))
 all_goals (
  have HBW:=hide ((unhide HBA).trans (((unhide HB3).trans ((unhide HB4).mono (unhide HB3).size)).mono (unhide HBA).size))
  go_wp2_with (fail)
  refine bodyPost_ret (v:=ansA (0,0,A)) (by simp[results,Tryz.results62,go_sem,ansA,g0,g1,g2]) rfl ?_
  exact⟨rfl,(SameBut.of3 w.heap.size w4 _ _ _).below (unhide HBW) (Nat.le_refl _)⟩)
end

section
open Go.RowKit Go.Maps
namespace Sp
theorem apart_bd:∀ (n:Nat) (a b:List V) (k j:Nat),(∀i∈(apart n a b k j).1,i≤k+a.length) ∧ ∀i∈(apart n a b k j).2,i<j+b.length
 | 0,_,_,_,_=>⟨(fun i hi=>by cases hi),fun i hi=>by cases hi⟩
 | _+1,[],[],_,_=>⟨(fun i hi=>by cases hi),fun i hi=>by cases hi⟩
 | n+1,x::a,[],k,j=>by
  have h:=apart_bd n a [] k j
  rw[apart]
  refine⟨fun i hi=>?_,h.2⟩
  rcases List.mem_cons.1 hi with rfl|hi
  ·omega
  ·have:=h.1 i hi
   rw[List.length_cons];omega
 | n+1,[],y::b,k,j=>by
  have h:=apart_bd n [] b k (j+1)
  rw[apart]
  refine⟨h.1,fun i hi=>?_⟩
  rw[List.length_cons]
  rcases List.mem_cons.1 hi with rfl|hi
  ·omega
  ·have:=h.2 i hi
   omega
 | n+1,x::a,y::b,k,j=>by
  have h1:=apart_bd n a (y::b) k j
  have h2:=apart_bd n (x::a) b k (j+1)
  have h3:=apart_bd n a b (k+1) (j+1)
  rw[apart]
  simp only[List.length_cons] at h1 h2 h3 ⊢
  split
  ·refine⟨fun i hi=>?_,h1.2⟩
   rcases List.mem_cons.1 hi with rfl|hi
   ·omega
   ·have:=h1.1 i hi;omega
  ·split
   ·refine⟨fun i hi=>by have:=h2.1 i hi;omega,fun i hi=>?_⟩
    rcases List.mem_cons.1 hi with rfl|hi
    ·omega
    ·have:=h2.2 i hi;omega
   ·exact⟨fun i hi=>by have:=h3.1 i hi;omega,fun i hi=>by have:=h3.2 i hi;omega⟩
def tsum (s:List By):Nat:=(s.map fun t=>t.length+1).sum
theorem tsum_snoc (s:List By) (t:By):tsum (s++[t])=tsum s+(t.length+1):=sum_snoc s t
section
variable {d x n:Int} {B:Nat}
theorem diffA_mok {f P:Nat} {lv:Int} {s:List By} {xs ys:List V} (hlv:1≤lv) (hb:∀e∈ys,gd d x f (lv+1) e∧sz f e≤B) (hx:xs.length≤1000000) (hy:ys.length≤1000000) (hP:tsum s+1001≤P):∀o∈diffA s xs ys,MOk d x B P o:=by
 have h:=apart_bd (xs.length+ys.length) xs ys 0 0
 have hnum:∀i:Nat,i≤1000000→((numb s i).map fun t=>t.length+1).sum≤P:=fun i hi=>by
  have h1:((numb s i).map fun t=>t.length+1).sum=tsum s+((Lib.itoa (i:Int)).length+1):=tsum_snoc s _
  have h2:=itoa_small i (by omega)
  omega
 intro o ho
 unfold diffA at ho
 rcases List.mem_append.1 ho with ho|ho
 ·obtain⟨i,hi,rfl⟩:=List.mem_map.1 ho
  exact⟨by show 1<3;decide,hnum i (by have:=h.1 i hi;omega),fun e=>absurd rfl e⟩
 ·obtain⟨i,hi,rfl⟩:=List.mem_map.1 ho
  have hil:=h.2 i hi
  rw[Nat.zero_add] at hil
  refine⟨by show 0<3;decide,hnum i (by omega),fun _=>⟨f,lv+1,by omega,?_⟩⟩
  show gd d x f (lv+1) ((ys[i]?).getD .nil)∧sz f ((ys[i]?).getD .nil)≤B
  rw[List.getElem?_eq_getElem hil]
  exact hb _ (List.getElem_mem hil)
theorem arr_gd {f:Nat} {lv:Int} {es y:List V} (h:gd d x (f+1) lv (.slice es y)):∀e∈es,gd d x f (lv+1) e:=by
 obtain⟨_,h⟩:=h
 rcases h with⟨k,_,e⟩|⟨s,_,e⟩|⟨n,_,_,_,e⟩|⟨es',h,e⟩|⟨es',_,_,e⟩
 ·cases e
 ·cases e
 ·cases e
 ·injection e with e1 _
  exact e1▸h
 ·cases e
theorem arr_sz_mem {f:Nat} {es y:List V} {e:V} (h:e∈es):sz f e≤sz (f+1) (.slice es y):=by
 show sz f e≤2+(es.map fun e=>sz f e+1).sum
 have:∀l:List V,e∈l→sz f e≤(l.map fun e=>sz f e+1).sum:=by
  intro l
  induction l with
  | nil=>intro h;cases h
  | cons a l ih =>
   intro h
   rw[List.map_cons,List.sum_cons]
   rcases List.mem_cons.1 h with rfl|h
   ·omega
   ·have:=ih h;omega
 have:=this es h
 omega
theorem diffO_mem {m:List By→V→V→List Opn} {s:List By} {xs bs:List (Lit×V)} {o:Opn}:∀ {l:List By},o∈diffO m s xs bs l → ∃k∈l,(get? bs (.string k)=none∧o=(1,s++[k],.nil))∨(∃y,get? bs (.string k)=some y∧o=(0,s++[k],y)) ∨ ∃u y,get? xs (.string k)=some u∧get? bs (.string k)=some y∧o∈m (s++[k]) u y
 | [],h=>by cases h
 | k::l,h=>by
  rw[diffO] at h
  rcases List.mem_append.1 h with h|h
  ·refine⟨k,List.mem_cons_self,?_⟩
   cases hy:get? bs (.string k) with
   | none =>
    rw[hy] at h
    cases hx:get? xs (.string k)<;>(rw[hx] at h;simp only[List.mem_singleton] at h;exact Or.inl ⟨rfl,h⟩)
   | some y =>
    rw[hy] at h
    cases hx:get? xs (.string k) with
    | none =>
     rw[hx] at h
     simp only[List.mem_singleton] at h
     exact Or.inr (Or.inl ⟨y,rfl,h⟩)
    | some u =>
     rw[hx] at h
     exact Or.inr (Or.inr ⟨u,y,rfl,rfl,h⟩)
  ·obtain⟨j,hj,hr⟩:=diffO_mem h
   exact⟨j,List.mem_cons_of_mem _ hj,hr⟩
end
end Sp
end

section
open Go.RowKit Go.Maps
namespace Sp
section
variable {d x n:Int} {B:Nat}
theorem diff_mok:∀ {f P:Nat} {lv:Int} {s:List By} {a b:V},1≤lv→gd d x f lv a→gd d x f lv b→sz f a≤1000000→sz f b≤B→B≤1000000→tsum s+sz f a+sz f b+1001≤P → ∀o∈diff n f s a b,MOk d x B P o
 | 0,_,_,_,_,_,_,h,_,_,_,_,_=>h.elim
 | f+1,P,lv,s,a,b,hlv,ha,hb,hsa,hsb,hB,hP=>by
  by_cases hob:isObj a=true∧isObj b=true
  ·obtain⟨h1,h2⟩:=hob
   obtain⟨xs,rfl⟩:∃xs,a = .map xs:=by
    cases a with
    | map xs=>exact⟨xs,rfl⟩
    | _=>cases h1
   obtain⟨ys,rfl⟩:∃ys,b = .map ys:=by
    cases b with
    | map ys=>exact⟨ys,rfl⟩
    | _=>cases h2
   have m1:=(gd_map ha).2
   have m2:=(gd_map hb).2
   intro o ho
   have ho':o∈diffO (diff n f) s xs ys (ukeys xs ys):=ho
   obtain⟨k,hk,hc⟩:=diffO_mem ho'
   have htok:∀c,((Lit.string k,c)∈xs→k.length+1+sz f c≤sz (f+1) (.map xs))∧((Lit.string k,c)∈ys→k.length+1+sz f c≤sz (f+1) (.map ys)):=fun c=>by
    have hq:=quoT_ge k
    refine⟨fun hm=>?_,fun hm=>?_⟩
    ·have h3:(quoT k).length+2+sz f c≤sz (f+1) (.map xs):=sz_mem (f:=f) hm
     omega
    ·have h3:(quoT k).length+2+sz f c≤sz (f+1) (.map ys):=sz_mem (f:=f) hm
     omega
   have hpath:k.length+1≤sz (f+1) (.map xs)+sz (f+1) (.map ys):=by
    rcases (ukeys_mem m1.skey m2.skey).1 hk with⟨c,hm⟩|⟨c,hm⟩
    ·have:=(htok c).1 hm;omega
    ·have:=(htok c).2 hm;omega
   have hts:tsum (s++[k])=tsum s+(k.length+1):=tsum_snoc s k
   have hsum:((s++[k]).map fun t=>t.length+1).sum=tsum (s++[k]):=rfl
   rcases hc with⟨_,rfl⟩|⟨y,hy,rfl⟩|⟨u,y,hu,hy,hm⟩
   ·refine⟨by show 1<3;decide,?_,fun e=>absurd rfl e⟩
    show ((s++[k]).map fun t=>t.length+1).sum≤P
    omega
   ·have hmy:=get_mem m2.skey hy
    refine⟨by show 0<3;decide,?_,fun _=>⟨f,lv+1,by omega,(m2.2 _ hmy).2,?_⟩⟩
    ·show ((s++[k]).map fun t=>t.length+1).sum≤P
     omega
    ·show sz f y≤B
     have:=(htok y).2 hmy
     omega
   ·have hmu:=get_mem m1.skey hu
    have hmy:=get_mem m2.skey hy
    have q1:=(htok u).1 hmu
    have q2:=(htok y).2 hmy
    exact diff_mok (P:=P) (lv:=lv+1) (s:=s++[k]) (a:=u) (b:=y) (by omega) (m1.2 _ hmu).2 (m2.2 _ hmy).2 (by omega) (by omega) hB (by omega) o hm
  ·have hone:∀c:Bool,∀o∈(if c=true then ([]:List Opn) else [(2,s,b)]),MOk d x B P o:=fun c o ho=>by
    cases c with
    | true=>simp at ho
    | false =>
     have e:o=(2,s,b):=by simpa using ho
     subst e
     refine⟨by show 2<3;decide,?_,fun _=>⟨f+1,lv,hlv,hb,hsb⟩⟩
     show tsum s≤P
     omega
   by_cases harr:∃xs y ys z,a = .slice xs y∧b = .slice ys z
   ·obtain⟨xs,y,ys,z,rfl,rfl⟩:=harr
    have e1:=arr_len_sz f xs y
    have e2:=arr_len_sz f ys z
    show ∀o∈(if ((xs.length:Int)+1)*((ys.length:Int)+1)≤n then diffA s xs ys else if veq (.slice xs y) (.slice ys z)=true then [] else [(2,s,.slice ys z)]),MOk d x B P o
    split
    ·exact diffA_mok hlv (fun e he=>⟨arr_gd hb e he,by have h3:sz f e≤sz (f+1) (.slice ys z):=arr_sz_mem he;omega⟩) (by omega) (by omega) (by omega)
    ·exact hone (veq (.slice xs y) (.slice ys z))
   ·have e:diff n (f+1) s a b=if veq a b=true then [] else [(2,s,b)]:=by
     cases a<;>cases b<;>first|rfl|exact absurd ⟨rfl,rfl⟩ hob|exact absurd ⟨_,_,_,_,rfl,rfl⟩ harr
    rw[e]
    exact hone (veq a b)
end
end Sp
end

section
open Go.RowKit Go.Maps
namespace Sp
theorem mok_fit {d x:Int} {B P:Nat} {o:Opn} (h:MOk d x B P o) (hd:d≤500) (h1:o.1≠1):Fit d x B o.2.2 :=
 (mok_on (o:=(o.1,[],o.2.2)) (P:=0) ⟨h.1,Nat.le_refl _,h.2.2⟩ hd (by omega)).2 h1
theorem elem_lenM {d x:Int} {P:Nat} {o:Opn} (h:MOk d x 200000 P o) (hd:d≤500) (hP:P≤400000):(can (top-1) (elemV o)).length≤14500000:=by
 have h1:=h.2.1
 have h3:=ptxt_len o.2.1
 have hq:=escS_le (ptxt o.2.1)
 have e1:(can (top-2) (vStr (ptxt o.2.1))).length=(quoT (ptxt o.2.1)).length:=rfl
 have hn:(opName o.1).length≤7:=by
  unfold opName
  repeat' split
  all_goals decide
 have hn2:=escS_le (opName o.1)
 have e2:(can (top-2) (vStr (opName o.1))).length=(quoT (opName o.1)).length:=rfl
 have q1:(quoT op_).length=4:=rfl
 have q2:(quoT path_).length=6:=rfl
 have q3:(quoT value_).length=7:=rfl
 unfold elemV
 split
 ·refine Nat.le_trans (obj_lenB (f:=top-2) (m:=4800100) fun k hk=>?_) (by simp[keys])
  have hk2:k=op_∨k=path_:=by simpa[keys] using hk
  rw[item_len]
  rcases hk2 with rfl|rfl
  ·have e3:look [(.string op_,vStr (opName o.1)),(.string path_,vStr (ptxt o.2.1))] op_=vStr (opName o.1):=rfl
   rw[e3,q1];omega
  ·have e3:look [(.string op_,vStr (opName o.1)),(.string path_,vStr (ptxt o.2.1))] path_=vStr (ptxt o.2.1):=rfl
   rw[e3,q2];omega
 ·rename_i hne
  have h4:=fit_can (mok_fit h hd hne)
  refine Nat.le_trans (obj_lenB (f:=top-2) (m:=4800100) fun k hk=>?_) (by simp[keys])
  have hk2:k=op_∨k=path_∨k=value_:=by simpa[keys] using hk
  rw[item_len]
  rcases hk2 with rfl|rfl|rfl
  ·have e3:look [(.string op_,vStr (opName o.1)),(.string path_,vStr (ptxt o.2.1)),(.string value_,o.2.2)] op_=vStr (opName o.1):=rfl
   rw[e3,q1];omega
  ·have e3:look [(.string op_,vStr (opName o.1)),(.string path_,vStr (ptxt o.2.1)),(.string value_,o.2.2)] path_=vStr (ptxt o.2.1):=rfl
   rw[e3,q2];omega
  ·have e3:look [(.string op_,vStr (opName o.1)),(.string path_,vStr (ptxt o.2.1)),(.string value_,o.2.2)] value_=o.2.2:=rfl
   rw[e3,q3];omega
theorem ptext_lenM {d x:Int} {P:Nat} {j:List Opn} (h:∀o∈j,MOk d x 200000 P o) (hd:d≤500) (hP:P≤400000) (hn:j.length≤400000):(ptext j).length≤8796093022208:=by
 have h1:=arr_lenB (f:=top-1) (m:=14500000) (es:=j.map elemV) fun e he=>by
  obtain⟨o,ho,rfl⟩:=List.mem_map.1 he
  exact elem_lenM (h o ho) hd hP
 have h2:(ptext j).length≤2+(j.map elemV).length*(14500000+1):=h1
 rw[List.length_map] at h2
 have h3:j.length*(14500000+1)≤400000*14500001:=Nat.mul_le_mul_right _ hn
 omega
theorem diff_bd {d x n:Int} {a b:V} (hd:d≤500) (ha:gd d x top 1 a) (hb:gd d x top 1 b) (hsa:sz top a≤160000) (hsb:sz top b≤160000):(ptext (diff n top [] a b)).length≤8796093022208 ∧ ∀o∈diff n top [] a b,IOk o:=by
 have h1:=diff_len (n:=n) (s:=[]) ha hb
 have h2:=diff_mok (n:=n) (B:=200000) (P:=400000) (s:=[]) (by omega) ha hb (by omega) (by omega) (by omega) (by show 0+sz top a+sz top b+1001≤400000;omega)
 refine⟨ptext_lenM h2 hd (Nat.le_refl _) (by omega),fun o ho=>⟨by have:=(h2 o ho).2.1;omega,fun hne=>?_⟩⟩
 have h3:=mok_fit (h2 o ho) hd hne
 exact⟨d,x,h3.gd,h3.dd⟩
end Sp
end
end Go.Proofs.YtdpomdelmdofmaaGreatDoor
