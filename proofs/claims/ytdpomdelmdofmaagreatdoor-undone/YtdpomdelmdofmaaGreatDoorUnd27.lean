import Derived.Test.YtdpomdelmdofmaaGreatDoorUnd26
namespace Go.Proofs.YtdpomdelmdofmaaGreatDoor
open Go.Proofs.Tryz
section
open Go.RowKit Go.Maps
theorem TG{f:Nat}{w:World}{u:Value}{c:Sp.A}(h:Ae (f+1) w u c)(ho:Sp.isObj (Sp.str (f+1) c)=true):∃b g es,c=Sp.nd b g (.map es):=by
 obtain⟨b,g,y,rfl,_,h⟩:=h;rcases h with⟨k,_,_,rfl,_⟩|⟨n,_,rfl,_⟩|⟨s,_,rfl,_⟩|⟨al,sl,ps,rfl,_⟩|⟨es,n,D,rfl,_⟩
 ·cases ho
 ·cases ho
 ·cases ho
 ·cases ho
 ·exact⟨b,g,es,rfl⟩
section
variable{d x:Int}
theorem XA{f:Nat}(ih:ID d x f){L:Nat}{p:List Nat}{w:World}{D i:Nat}{rv jn iv:Value}{ch:Bool}{Tb T m c:Sp.A}{Mb M F:Nat->Prop}{wb:World}{js:List Sp.Opn}{key:Sp.By}{pa:Option Addr}{pl pc:Nat}{path:List Sp.By}{v:Value}{ps:List (Lit×Sp.V)}{lv:Int}
  (hL:f+1+1+p.length=L) (hLt:L<=top+1) (hJ:Bm L w D rv jn iv ch Tb Mb wb T M js) (hs:Sp.sub p T=some m) (hf:AV m i key c) (hr:Ca m key) (hjl:js.length+Sp.sz (f+1) (.map ps)<=1000000000)
  (hpt:AM w (GA L Tb wb M) (.slice pa pl pc) path) (hpl:path.length<=p.length) (hnil:path=[] -> ∃c,Value.slice pa pl pc = .slice none 0 c)
  (hv:Rep (f+1) F w v (.map ps)) (hF:∀k,F k->M k) (hlv:1<=lv) (hg:Sp.gd d x (f+1) lv (.map ps)) (hsz:Sp.sz (f+1) (.map ps)<=1000000) (hcg:Sp.gd d x (f+1) lv (Sp.str (f+1) c)/\Sp.sz (f+1) (Sp.str (f+1) c)<=1000000) (hob:Sp.isObj (Sp.str (f+1) c)=true) :
  Calls Tryz.prog 120 #[.pointer (some ⟨D,0,none⟩),plV (.slice pa pl pc) (Sp.blk m) key i,v] w fun e w'=>e = .returned (.tuple #[])/\QG L D rv iv ch Tb Mb wb p T m i key (some c) M js (f+1) path (.map ps) w w':=by
 subst hL;have htop:top<=1000000:=by decide
 obtain⟨u,hu⟩:=Ae.at (f:=f+1+1) hJ.tr hs;obtain⟨a1,a2,a3,a4⟩:=hf.apart (Sp.BB (f:=f+1+1) hs hJ.nd);obtain⟨yv,hc⟩:=hu.kidAt a4;obtain⟨b,g,es,rfl⟩:=TG hc hob;obtain⟨j,hj,hkid⟩:=hf.kid;have hsp:Sp.sub (p++[j]) T=some (Sp.nd b g (.map es)):=Gy hj hs;obtain⟨rfl,Dp,hvb,_⟩:=DV hc;obtain⟨pb,pk,pn,ps',psl,pmv,rfl,hpv,_⟩:=Et hv;obtain⟨hd,hpm⟩:=Sp.Dj hg;obtain⟨ev,hev⟩:∃ev,ev=es.map fun p=>(p.1,Sp.str f p.2):=⟨_,rfl⟩
 have hstr:Sp.str (f+1) (Sp.nd b g (.map es)) = .map ev:=by rw[hev];rfl
 rw[hstr] at hcg;obtain⟨_,hem⟩:=Sp.Dj hcg.1;have hszp:Sp.sz (f+1) (.map ps)=2+Sp.Au f ps:=Sp.CY f ps;have hsze:Sp.sz (f+1) (.map ev)=2+Sp.Au f ev:=Sp.CY f ev;have hsk:Sp.skeys ps=Sp.keys ps:=MA hpm.1 hpm.skey.2;have hkl:(Sp.keys ps).length=ps.length:=by unfold Sp.keys;rw[List.length_map]
 have hb:Below w.heap.size w (plW w pa pl pc (Sp.blk m) key i):=CT;have hbs:(plW w pa pl pc (Sp.blk m) key i).heap.size=w.heap.size+1:=by simp
 have hpc2:=Sp.GR f ps;refine (Qv (MI:=Me (f+1+1+p.length) D rv iv ch Tb Mb wb T M js (p++[j]) b g f path ev ps w) ((DX (hu.bel hb) hf hr.2).mono ?_) hvb (fun k hk=>(hJ.low k (hF k hk)).1) hv (by omega) ?_ hpt (by omega) hnil ?_ ?_ ?_).mono ?_
 ·rintro e w' ⟨⟨y,rfl,hy⟩,hb2⟩;obtain rfl:=hy.uniq hc;exact⟨rfl,hbs▸hb2⟩
 ·rw[hsk];intro k hk;obtain⟨t,ht,rfl⟩:=List.mem_iff_getElem.1 hk;obtain⟨q,hq⟩:=Sp.OZ hpm.skey.2 ht;have h1:=Sp.NI (f:=f) hq;have h2:=Sp.Ij (Sp.keys ps)[t];omega
 ·intro w3 hb3;obtain⟨hJ3,_⟩:=hJ.grow hb3 (fun j=>w.heap.size<=j/\j<w3.heap.size) (fun _ h=>h);refine⟨jn,T,_,es,?_,hsp,?_,?_,JEx.refl _ _⟩
  ·show Bm _ _ _ _ _ _ _ _ _ _ _ _ (js++[]);rw[List.append_nil];exact hJ3
  ·exact hev.symm
  ·have h1:Ae (f+1+(p++[j]).length) w rv T:=by
    have e:f+1+(p++[j]).length=f+1+1+p.length:=by rw[List.length_append];simp only[List.length_cons,List.length_nil];omega
    rw[e];exact hJ.tr
   rw[h1.put_self hsp]
 ·rintro w3 t wr hb3 ⟨_,_,_,_,_,_,_,_,hX⟩;refine⟨hX.size,fun k hk hl=>(hX.kept k ?_).2⟩;rcases hk with hk|hk|hk
  ·exact Or.inl (hF k hk)
  ·exact Or.inl hk.1
  ·exact Or.inr ⟨hk,hl⟩
 ·rintro w3 t ht wr w1 xv vb hb3 hMI hb1 ⟨xa,xl,xc,rfl⟩ htk hrq;obtain⟨k,hk⟩:∃k,k=(Sp.skeys ps)[t]:=⟨_,rfl⟩
  rw[<- hk] at htk hrq |-;have ht2:t<(Sp.keys ps).length:=by rw[<- hsk];exact ht
  obtain⟨q,hq⟩:=Sp.OZ hpm.skey.2 ht2;have hk2:k=(Sp.keys ps)[t]:=by
   rw[hk];simp only[hsk]
  rw[<- hk2] at hq;have hat:(DataW.map ps).atKey (.string k) .nil=q:=WideAt.atKey_mem .nil (by exact trivial) (apart_of_rising hpm.1) (List.mem_of_getElem? hq);rw[hat] at hrq;exact Wi ih (by rw[List.length_append];simp only[List.length_cons,List.length_nil];omega) hLt hsp hq hlv hem hpm (by omega) (by omega) (by omega) (by rw[List.length_append];simp only[List.length_cons,List.length_nil];omega) hF hMI hb1 htk hrq
 ·rintro e w' ⟨rfl,w3,hb3,jn',Tt,Mt,ct,q1,q2,q3,q4,q5⟩;have hlen:ps.take (Sp.skeys ps).length=ps:=by rw[hsk,hkl,List.take_length]
  rw[hlen] at q1 q3;have hm:Sp.mrg (f+1) (some (.map ev)) path (.map ps)=(.map (Sp.AU (Sp.mrg f) path ps ev).1,(Sp.AU (Sp.mrg f) path ps ev).2):=Sp.D8 _ _ _ _;obtain⟨hJ3,hX3⟩:=hJ.grow hb3 (fun j=>w.heap.size<=j/\j<w3.heap.size) (fun _ h=>h);refine⟨rfl,Sp.nd b g (.map ct),⟨jn',Tt,Mt,?_,?_,hX3.trans q5⟩,?_⟩
  ·rw[q4,Sp.MH _ hj hs,hkid];rfl
  ·show Bm _ _ _ _ _ _ _ _ _ _ _ _ (js++(Sp.mrg (f+1) (some (Sp.str (f+1) (Sp.nd b g (.map es)))) path (.map ps)).2);rw[hstr,hm];exact q1
  ·show _=(Sp.mrg (f+1) (some (Sp.str (f+1) (Sp.nd b g (.map es)))) path (.map ps)).1;rw[hstr,hm,<- q3];rfl
theorem Lo:∀f:Nat,ID d x f
 | 0=>fun _ _ _ _ _ _ _ _ _ _ hv _ _ _ _ _=>hv.elim
 | f+1=>fun hL hLt hJ hs ho hr hjl hpt hpl hnil hv hF hlv hg hsz hc=>by
  rename_i L p w D i rv jn iv ch Tb T m o Mb M F wb js key pa pl pc path v pt lv;by_cases hob:∃c,o=some c/\Sp.isObj (Sp.str (f+1) c)=true/\Sp.isObj pt=true
  ·obtain⟨c,rfl,h1,h2⟩:=hob;obtain⟨ps,rfl⟩:∃ps,pt = .map ps:=by
    cases pt with
    | map ps=>exact⟨ps,rfl⟩
    | _=>cases h2
   exact XA (Lo f) hL hLt hJ hs ho hr hjl hpt hpl hnil hv hF hlv hg hsz (hc c rfl) h1
  ·refine Wj hL hLt hJ hs ho hr (by omega) hpt hv (Sp.nar_of hg (by omega)) fun c e=>?_;cases h1:Sp.isObj (Sp.str (f+1) c) with
   | false=>exact Or.inl rfl
   | true =>
    cases h2:Sp.isObj pt with
    | false=>exact Or.inr rfl
    | true=>exact absurd ⟨c,e,h1,h2⟩ hob
end
end

section
open Go.RowKit Go.Maps
namespace Sp
theorem Bw(f:Nat)(p:Lit×V)(l:List (Lit×V)):Au f (p::l)=(Ah (strOf p.1)).length+2+sz f p.2+Au f l:=by
 unfold Au;rw[List.map_cons,List.sum_cons]
theorem Dm(f:Nat)(P:Lit×V->Bool):∀l:List (Lit×V),Au f (l.filter P)<=Au f l
 | []=>Nat.le_refl _
 | p::l=>by
  have h:=Dm f P l;rw[List.filter_cons,Bw];split
  ·rw[Bw];omega
  ·omega
theorem Ki{f:Nat}{k:By}{v:V}:∀ {es:List (Lit×V)},(Lit.string k,v)∈es->Au f (mdel (.string k) es)+((Ah k).length+2+sz f v)<=Au f es
 | p::r,h=>by
  rw[Bw];unfold mdel;rw[List.filter_cons];rcases List.mem_cons.1 h with rfl|h
  ·rw[if_neg (by simp[DK.2 rfl])];have:=Dm f (fun p=>!p.1.sameKey (.string k)) r;exact Nat.le_trans (Nat.add_le_add_right this _) (Nat.le_of_eq (Nat.add_comm _ _))
  ·have:=Ki (f:=f) h;unfold mdel at this;split
   ·rw[Bw];omega
   ·omega
theorem H7(f:Nat)(x:Lit×V):∀l:List (Lit×V),Au f (DataW.insert x l)=(Ah (strOf x.1)).length+2+sz f x.2+Au f l
 | []=>by show Au f [x]=_;rw[Bw]
 | a::l=>by
  unfold DataW.insert;split
  ·rw[Bw]
  ·rw[Bw,H7 f x l,Bw];omega
theorem Qy(f:Nat)(k:By)(c:V)(es:List (Lit×V)):Au f (mput (.string k) c es)=(Ah k).length+2+sz f c+Au f (mdel (.string k) es):=by
 unfold mput;rw[H7];rfl
theorem OM:∀ (f:Nat) (p:V),sz f (Be f p)<=sz f p
 | 0,_=>Nat.le_refl _
 | f+1,p=>by
  cases hob:isObj p with
  | false=>rw[Hg hob];exact Nat.le_refl _
  | true =>
   obtain⟨ps,rfl⟩:∃ps,p = .map ps:=by
    cases p with
    | map ps=>exact⟨ps,rfl⟩
    | _=>cases hob
   show 2+Au f ((ps.filter fun q=>!isNull q.2).map fun q=>(q.1,Be f q.2))<=2+Au f ps;have h1:∀l:List (Lit×V),Au f (l.map fun q=>(q.1,Be f q.2))<=Au f l:=by
    intro l;induction l with
    | nil=>exact Nat.le_refl _
    | cons a l ih =>
     rw[List.map_cons,Bw,Bw];have:=OM f a.2;simp only;omega
   have h2:=Dm f (fun q=>!isNull q.2) ps;exact Nat.add_le_add_left (Nat.le_trans (h1 _) h2) 2
section
variable{d x:Int}
def osz(f:Nat)(o:Option V):Nat:=match o with
 | some v=>sz f v
 | none=>0
def Vc(d x:Int)(f:Nat):Prop:=∀ (lv:Int) (o:Option V) (s:List By) (p:V),1<=lv->(∀v,o=some v->gd d x f lv v)->gd d x f lv p->sz f (mrg f o s p).1<=osz f o+sz f p
theorem Lp{f:Nat}{es:List (Lit×V)}{p:Lit×V}(h:p∈es):sz f p.2<=Au f es:=by
 have h1:=JJ (f:=f) h;have h2:sz (f+1) (.map es)=2+Au f es:=CY f es;omega
theorem Kz{f:Nat}(ih:Vc d x f){lv:Int}(hlv:1<=lv)(s:List By):∀ (l es:List (Lit×V)),Mok d x f lv es->Mok d x f lv l->Au f (AU (mrg f) s l es).1<=Au f es+Au f l
 | [],es,_,_=>Nat.le_refl _
 | q::l,es,he,hl=>by
  have hq1:Mok d x f lv [q]:=⟨List.pairwise_singleton _ _,fun p hp=>hl.2 p (by rw[List.mem_singleton.1 hp];exact List.mem_cons_self)⟩
  have h1:Mok d x f lv (AW (mrg f) s q es).1:=(Gf (Gc f) hlv (B:=Au f es) s [q] es he hq1 fun r _ c hc=>Lp hc).1;have h2:=Kz ih hlv s l (AW (mrg f) s q es).1 h1 ⟨(List.pairwise_cons.1 hl.1).2,fun p hp=>hl.2 p (List.mem_cons_of_mem _ hp)⟩;obtain⟨⟨k,ek,_⟩,hq⟩:=hl.2 q List.mem_cons_self;obtain⟨qk,qv⟩:=q;simp only at ek hq;subst ek;have h3:Au f (AW (mrg f) s (.string k,qv) es).1<=Au f es+((Ah k).length+2+sz f qv):=by
   unfold AW;split
   ·split
    ·exact Nat.le_add_right _ _
    ·have:=Dm f (fun p=>!p.1.sameKey (.string k)) es;exact Nat.le_trans this (Nat.le_add_right _ _)
   ·simp only
    rw[Qy];cases hg:AG es (.string k) with
    | none =>
     have h4:=ih (lv+1) none (s++[Ez (.string k)]) qv (by omega) (fun v h=>by cases h) hq;have h5:=Dm f (fun p=>!p.1.sameKey (.string k)) es;have h6:Au f (mdel (.string k) es)<=Au f es:=h5;unfold osz at h4;simp only at h4;omega
    | some o =>
     have hm:=RY he hg;have h4:=ih (lv+1) (some o) (s++[Ez (.string k)]) qv (by omega) (fun v h=>by injection h with h;exact h▸(he.2 _ hm).2) hq;have h5:=Ki (f:=f) hm;unfold osz at h4;simp only at h4;omega
  have h4:Au f ((Lit.string k,qv)::l)=(Ah k).length+2+sz f qv+Au f l:=Bw _ _ _;show Au f (AU (mrg f) s l (AW (mrg f) s (.string k,qv) es).1).1<=_;omega
theorem JZ:∀f:Nat,Vc d x f
 | 0=>fun _ _ _ _ _ _ h=>h.elim
 | f+1=>fun lv o s p hlv ho hp=>by
  have hps:=OM (f+1) p;cases o with
  | none=>exact Nat.le_trans hps (Nat.le_add_left _ _)
  | some v =>
   by_cases hob:isObj v=true/\isObj p=true
   ·obtain⟨h1,h2⟩:=hob;obtain⟨es,rfl⟩:∃es,v = .map es:=by
     cases v with
     | map es=>exact⟨es,rfl⟩
     | _=>cases h1
    obtain⟨ps,rfl⟩:∃ps,p = .map ps:=by
     cases p with
     | map ps=>exact⟨ps,rfl⟩
     | _=>cases h2
    have e:mrg (f+1) (some (.map es)) s (.map ps)=(.map (AU (mrg f) s ps es).1,(AU (mrg f) s ps es).2):=D8 _ _ _ _;rw[e];have h3:=Kz (JZ f) hlv s ps es (Dj (ho _ rfl)).2 (Dj hp).2;show 2+Au f (AU (mrg f) s ps es).1<=(2+Au f es)+(2+Au f ps)
    omega
   ·have e:(mrg (f+1) (some v) s p).1=Be (f+1) p:=by
     cases v<;>cases p<;>first|rfl|exact absurd ⟨rfl,rfl⟩ hob
    rw[e];exact Nat.le_trans hps (Nat.le_add_left _ _)
theorem Xz{B P:Nat}{o:Opn}(h:MOk d x B P o)(hd:d<=500)(hP:P<=200000):FF d x B o:=by
 refine⟨Nat.le_trans h.2.1 hP,fun h1=>?_⟩;obtain⟨f,lv,hlv,hg,hs⟩:=h.2.2 h1;have g1:=EU (s:=1-lv) hg;rw[show lv+(1-lv)=1 by omega] at g1;have g2:gd d x f 1 o.2.2:=CK (by omega) g1;refine⟨Cj g2 (by unfold top;omega),hd,?_⟩;have g3:gd d x (max f top) 1 o.2.2:=Cj g2 (by have:top<=max f top:=Nat.le_max_right _ _;unfold top at this |-; omega);have e1:=Fb g2 (Nat.le_max_left f top);have e2:=Fb (Cj (f:=top) g2 (by unfold top;omega)) (Nat.le_max_right f top);omega
end
end Sp
end

section
open Go.RowKit Go.Maps
namespace Sp
theorem Uo{k j:By}{xs:List (Lit×V)}(h:Bk xs)(hne:j≠k):AG (mdel (.string k) xs) (.string j)=AG xs (.string j):=by
 rcases Ey xs j with⟨c,hc⟩|hno
 ·rw[Ci h hc,Ci (FP h) (Fp.2 ⟨hc,fun e=>hne (by injection e)⟩)]
 ·rw[DO hno,DO fun p hp=>hno p (Fp.1 hp).1]
end Sp
end

section
set_option maxHeartbeats 4000000
open Go.RowKit
namespace Sp
def pes(l:By):Option UInt8:=match l with
 | 126::48::_=>some 126
 | 126::49::_=>some 47
 | _=>none
end Sp
theorem E1{B:Nat}{a w:World}(h:Below B a w)(q:Nat):Below B a (w.drewN q):=⟨h.os,h.tape,h.output,h.size,h.block⟩
theorem EF.below{w w':World}{B:Nat}(h:EF w)(hb:Below B w w')(hB:4<B):EF w':=by
 obtain⟨t,fr,e⟩:=h;exact⟨t,fr,(hb.block _ hB).trans e⟩
theorem EF.kept{w w':World}(h:EF w)(hb:Below w.heap.size w w'):EF w':=by
 refine h.below hb ?_;obtain⟨t,fr,e⟩:=h;exact (Array.getElem?_eq_some_iff.1 e).1
theorem Xl(w:World):(Instr.index 256 (.agg ER) (.int .i64 0)).run Tryz.prog w = .ok (.agg #[.string ⟨#[126,48]⟩,.int .u8 126]) w:=by kernel_rfl
theorem Xk(w:World):(Instr.index 256 (.agg ER) (.int .i64 1)).run Tryz.prog w = .ok (.agg #[.string ⟨#[126,49]⟩,.int .u8 47]) w:=by kernel_rfl
theorem Jd(l:Sp.By)(p:ByteArray)(w:World):Calls Tryz.prog 194 #[.string ⟨l.toArray⟩,.string p] w fun e w'=>e = .returned (.bool (Lib.hasPrefix l p.data.toList))/\w'=w:=Tryz.strings_HasPrefix ⟨l.toArray⟩ p w
theorem Yr{l:Sp.By}(h:Lib.hasPrefix l [126,48]=true):Sp.pes l=some 126:=by
 match l,h with
 | [],h=>cases h
 | [a],h=>simp[Lib.hasPrefix] at h
 | a::b::r,h =>
  simp[Lib.hasPrefix] at h;rw[<- h.1,<- h.2];rfl
theorem Yq{l:Sp.By}(h:Lib.hasPrefix l [126,49]=true):Sp.pes l=some 47:=by
 match l,h with
 | [],h=>cases h
 | [a],h=>simp[Lib.hasPrefix] at h
 | a::b::r,h =>
  simp[Lib.hasPrefix] at h;rw[<- h.1,<- h.2];rfl
theorem Xj{l:Sp.By}(h:Lib.hasPrefix l [126,48]=false)(h1:Lib.hasPrefix l [126,49]=false):Sp.pes l=none:=by
 match l,h,h1 with
 | [],_,_=>rfl
 | [a],_,_=>unfold Sp.pes;split<;>simp_all
 | a::b::r,h,h1 =>
  unfold Sp.pes;split
  ·rename_i e;injection e with e1 e2;injection e2 with e2 _;subst e1;subst e2;simp[Lib.hasPrefix] at h
  ·rename_i e;injection e with e1 e2;injection e2 with e2 _;subst e1;subst e2;simp[Lib.hasPrefix] at h1
  ·rfl
def Ev(j:Nat):ByteArray:=if j=0 then ⟨#[126,48]⟩ else ⟨#[126,49]⟩
def DT(j:Nat):Int:=if j=0 then 126 else 47
theorem OP(j:Nat)(hj:j<2)(w:World):(Instr.index 256 (.agg ER) (.int .i64 j)).run Tryz.prog w = .ok (.agg #[.string (Ev j),.int .u8 (DT j)]) w:=by
 match j,hj with
 | 0,_=>exact Xl w
 | 1,_=>exact Xk w
theorem Le(j:Nat)(hj:j<2):(Ev j).size=2:=by
 match j,hj with
 | 0,_=>rfl
 | 1,_=>rfl
def PSt(l:Sp.By)(j:Nat):Prop:=(1<=j->Lib.hasPrefix l [126,48]=false)/\(2<=j->Lib.hasPrefix l [126,49]=false)
theorem PSt.step{l:Sp.By}{j:Nat}(hj:j<2)(h:PSt l j)(hh:Lib.hasPrefix l (Ev j).data.toList=false):PSt l (j+1):=by
 match j,hj with
 | 0,_=>exact⟨fun _=>hh,fun h=>absurd h (by omega)⟩
 | 1,_=>exact⟨fun _=>h.1 (by omega),fun _=>hh⟩
def ML(o:Option UInt8):Value:=match o with
 | none=>.tuple #[.int .u8 0,.int .i64 0]
 | some c=>.tuple #[.int .u8 c.toNat,.int .i64 2]
theorem VW{l:Sp.By}{j:Nat}(hj:j<2)(_:PSt l j)(hh:Lib.hasPrefix l (Ev j).data.toList=true):ML (Sp.pes l) = .tuple #[.int .u8 (DT j),.int .i64 2]:=by
 match j,hj with
 | 0,_=>rw[Yr hh];rfl
 | 1,_=>rw[Yq hh];rfl
theorem N4(l:Sp.By)(w:World)(hT:EF w) :
  Calls Tryz.prog 146 #[.string ⟨l.toArray⟩] w fun e w'=>e = .returned (ML (Sp.pes l))/\Below w.heap.size w w':=by
 obtain⟨R,hR⟩:∃R,R=ML (Sp.pes l):=⟨_,rfl⟩
 rw[<- hR];have HR:=Ab hR;have hp0:=fun w1=>Jd l ⟨#[126,48]⟩ w1;have hp1:=fun w1=>Jd l ⟨#[126,49]⟩ w1;have HP0:=Ab hp0;have HP1:=Ab hp1;have hlt:4<w.heap.size:=by obtain⟨t,fr,e⟩:=hT;exact (Array.getElem?_eq_some_iff.1 e).1
 obtain⟨tt,fz,hg1⟩:=hT;clear hR hp0 hp1
 go_enter func146,ntmps146
 go_wp2_with (refine wpList_load_row rfl 256 _ rfl 4 rfl tt _ fz _ hg1 underlying256 rfl (by kernel_rfl) ?_)
 clear hg1
 go_loopw [7] (fun i wr=>∃j:Nat,j<=2/\i = .int .i64 j/\Below w.heap.size w wr/\Hid (PSt l j)) (fun i _=>2-(intOf i).toNat)
 case atStart=>exact⟨0,by omega,rfl,Below.refl _ _,fun h=>absurd h (by omega),fun h=>absurd h (by omega)⟩
 case round =>
  obtain⟨j,hj,rfl,hb,hst⟩:=hrel;have HB:=Ab hb;have HS:=Ab (Aa hst);have hsz:=hb.size;clear hb hst;by_cases h2:j=2
  ·subst h2;have HV:=Ab (show R = .tuple #[.int .u8 0,.int .i64 0] by rw[Aa HR,Xj ((Aa HS).1 (by omega)) ((Aa HS).2 (by omega))];rfl)
   go_wp2_with (fail)
   go_ret2
   exact⟨by rw[Aa HV];rfl,Aa HB⟩
  ·have hjj:j<2:=by omega
   have hlt2:(j:Int)<2:=by omega
   have hidx:=fun w1=>OP j hjj w1;have hcall:=Ab (fun w1=>Jd l (Ev j) w1);have hks:=Le j hjj;cases hh:Lib.hasPrefix l (Ev j).data.toList with
   | true =>
    have HV:=Ab (show R = .tuple #[.int .u8 (DT j),.int .i64 2] by rw[Aa HR];exact VW hjj (Aa HS) hh);rw[hh] at hcall;clear hh;generalize Ev j=pk at *;generalize DT j=pb at *
    go_wp2_with (fail);refine (Aa hcall _).mono ?_
    rintro e w2 ⟨rfl,rfl⟩
    go_wp2_with (fail)
    go_quiet (fail)
    go_wp2_with (fail)
    go_ret2
    exact⟨by rw[Aa HV];first|rfl|(congr;simp[hks]),E1 ((Aa HB).alloc hsz _) _⟩
   | false =>
    have HST:=Ab ((Aa HS).step hjj hh);rw[hh] at hcall;clear hh;generalize Ev j=pk at *;generalize DT j=pb at *
    go_wp2_with (fail);refine (Aa hcall _).mono ?_
    rintro e w2 ⟨rfl,rfl⟩
    go_wp2_with (fail)
    go_roundw
    case rel=>exact⟨j+1,by omega,by go_num,(Aa HB).alloc hsz _,HST⟩
    case measure=>simp[intOf];omega
end

section
open Go.RowKit
theorem Yd(l:Sp.By):(Sp.ahd l).length<=l.length:=(List.takeWhile_sublist _).length_le
theorem O2:∀l:Sp.By,(Lib.index l [126] = -1/\Sp.ahd l=l)\/(Lib.index l [126]=(Sp.ahd l).length /\ ∃r,l=Sp.ahd l++126::r)
 | []=>Or.inl ⟨rfl,rfl⟩
 | b::l=>by
  by_cases hb:b=126
  ·subst hb;exact Or.inr ⟨by simp[Lib.index,Sp.ahd],l,by simp[Sp.ahd]⟩
  ·have h1:Sp.ahd (b::l)=b::Sp.ahd l:=by simp[Sp.ahd,hb]
   have h2:Lib.index (b::l) [126]=if Lib.index l [126] == -1 then -1 else Lib.index l [126]+1:=by
    have:([126]:List UInt8).isPrefixOf (b::l)=false:=by
     simp only[List.isPrefixOf];simp[Ne.symm hb]
    simp only[Lib.index,this];rfl
   rw[h1,h2];rcases O2 l with⟨e1,e2⟩|⟨e1,r,e2⟩
   ·rw[e1,e2];exact Or.inl ⟨rfl,rfl⟩
   ·refine Or.inr ⟨?_,r,by rw[List.cons_append,<- e2]⟩;rw[e1,if_neg (by simp)];simp
theorem X5{l:Sp.By}(h:Lib.index l [126] = -1):Lib.cut l [126]=(l,[],false):=by
 unfold Lib.cut;rw[h];rfl
theorem WL{l r:Sp.By}(h:Lib.index l [126]=(Sp.ahd l).length)(e:l=Sp.ahd l++126::r):Lib.cut l [126]=(Sp.ahd l,r,true):=by
 unfold Lib.cut;rw[h,if_pos (by omega)];simp only[Int.toNat_natCast];have e1:l.take (Sp.ahd l).length=Sp.ahd l:=by
  have h1:(Sp.ahd l++126::r).take (Sp.ahd l).length=Sp.ahd l:=List.take_left' rfl;rw[<- e] at h1;exact h1
 have e2:l.drop ((Sp.ahd l).length+[(126:UInt8)].length)=r:=by
  have h1:(Sp.ahd l++126::r).drop ((Sp.ahd l).length+1)=r:=by
   rw[<- List.drop_drop,List.drop_left' rfl];rfl
  rw[<- e] at h1;exact h1
 rw[e1,e2]
theorem Ha:∀ {p:Sp.By} (r:Sp.By),(∀c∈p,c≠126)->Sp.une (p++r)=(Sp.une r).map (p ++ ·)
 | [],r,_=>by simp
 | c::p,r,h=>by
  rw[List.cons_append,Sp.Ee,if_neg (h c (by simp)),Ha r (fun d hd=>h d (by simp[hd]))];cases Sp.une r<;>rfl
theorem Pp(l:Sp.By):∀c∈Sp.ahd l,c≠126:=by
 induction l with
 | nil=>intro c hc;cases hc
 | cons b l ih =>
  intro c hc;by_cases hb:b=126
  ·subst hb;simp[Sp.ahd] at hc
  ·have h1:Sp.ahd (b::l)=b::Sp.ahd l:=by simp[Sp.ahd,hb]
   rw[h1] at hc;rcases List.mem_cons.1 hc with e|e
   ·rw[e];exact hb
   ·exact ih c e
theorem WZ{l:Sp.By}(h:Sp.ahd l=l):Sp.une l=some l:=by
 have:=Ha (p:=l) [] (by rw[<- h];exact Pp l);rw[List.append_nil] at this;rw[this];simp[Sp.une]
theorem Vt(r:Sp.By):Sp.une (126::r)=match Sp.pes (126::r) with
 | none=>none
 | some c=>(Sp.une ((126::r).drop 2)).map (c :: ·):=by
 rw[Sp.Ee,if_pos rfl]
 match r with
 | []=>rfl
 | b::q =>
  by_cases h0:b=48
  ·subst h0;rfl
  ·by_cases h1:b=49
   ·subst h1;rfl
   ·have e:Sp.pes (126::b::q)=none:=by
     unfold Sp.pes;split
     ·rename_i e;injection e with _ e;injection e with e _;exact absurd e h0
     ·rename_i e;injection e with _ e;injection e with e _;exact absurd e h1
     ·rfl
    rw[e];simp only;split
    ·rename_i e;injection e with e _;exact absurd e h0
    ·rename_i e;injection e with e _;exact absurd e h1
    ·rfl
end

section
def Sp.pl(c:UInt8):Prop:=33<=c.toNat/\c.toNat≠34/\c.toNat≠92
end
end Go.Proofs.YtdpomdelmdofmaaGreatDoor
