/-
  Number: a path with a number as its last token.
-/
import Derived.Test.YtdpomdelmdofmaaGreatDoorMrg22
import Derived.Deep.DrawnRows
import Derived.Shelf.SlicesE.Clone
import Derived.Test.YtdpomdelmdofmaaGreatDoorMrg15
import Derived.Test.YtdpomdelmdofmaaGreatDoorMrg18
import Derived.Test.YtdpomdelmdofmaaGreatDoorMrg12
import Derived.Shelf.SlicesE.Equal
namespace Go.Proofs.YtdpomdelmdofmaaGreatDoor
open Go.RowKit Go.Maps
theorem n_str:(Tryz.prog.info? 9).map (fun i=>(i.zero,i.size,i.bytes))=some (some (.string ⟨#[]⟩),1,16):=by kernel_rfl
end Go.Proofs.YtdpomdelmdofmaaGreatDoor

namespace Go.Proofs.YtdpomdelmdofmaaGreatDoor
open Go.RowKit Go.Maps
namespace Sp
theorem gd_mono {d D x:Int} (hd:d≤D):∀ {f:Nat} {lv:Int} {v:V},gd d x f lv v→gd D x f lv v
 | 0,_,_,h=>h.elim
 | f+1,lv,v,⟨h0,h⟩=>by
  refine⟨Int.le_trans h0 hd,?_⟩
  rcases h with h|h|h|⟨es,h,rfl⟩|⟨es,h1,h2,rfl⟩
  ·exact Or.inl h
  ·exact Or.inr (Or.inl h)
  ·exact Or.inr (Or.inr (Or.inl h))
  ·exact Or.inr (Or.inr (Or.inr (Or.inl ⟨es,fun e he=>gd_mono hd (h e he),rfl⟩)))
  ·exact Or.inr (Or.inr (Or.inr (Or.inr ⟨es,h1,fun p hp=>⟨(h2 p hp).1,gd_mono hd (h2 p hp).2⟩,rfl⟩)))
theorem gd_lvl {d x s:Int}:∀ {f:Nat} {lv:Int} {v:V},gd d x f lv v→gd (d+s) x f (lv+s) v
 | 0,_,_,h=>h.elim
 | f+1,lv,v,⟨h0,h⟩=>by
  refine⟨by omega,?_⟩
  have e:lv+s+1=lv+1+s:=by omega
  rcases h with h|h|h|⟨es,h,rfl⟩|⟨es,h1,h2,rfl⟩
  ·exact Or.inl h
  ·exact Or.inr (Or.inl h)
  ·exact Or.inr (Or.inr (Or.inl h))
  ·exact Or.inr (Or.inr (Or.inr (Or.inl ⟨es,fun q he=>by rw[e];exact gd_lvl (h q he),rfl⟩)))
  ·exact Or.inr (Or.inr (Or.inr (Or.inr ⟨es,h1,fun p hp=>⟨(h2 p hp).1,by rw[e];exact gd_lvl (h2 p hp).2⟩,rfl⟩)))
theorem gd_lv {d x:Int}:∀ {f:Nat} {lv:Int} {v:V},gd d x f lv v→lv≤d
 | 0,_,_,h=>h.elim
 | _+1,_,_,h=>h.1
theorem gd_fuel {d x:Int}:∀ {g f:Nat} {lv:Int} {v:V},gd d x g lv v→d<lv+f→gd d x f lv v
 | 0,_,_,_,h,_=>h.elim
 | g+1,0,lv,v,⟨h0,_⟩,hf=>by omega
 | g+1,f+1,lv,v,⟨h0,h⟩,hf=>by
  refine⟨h0,?_⟩
  rcases h with h|h|h|⟨es,h,rfl⟩|⟨es,h1,h2,rfl⟩
  ·exact Or.inl h
  ·exact Or.inr (Or.inl h)
  ·exact Or.inr (Or.inr (Or.inl h))
  ·exact Or.inr (Or.inr (Or.inr (Or.inl ⟨es,fun q he=>gd_fuel (h q he) (by omega),rfl⟩)))
  ·exact Or.inr (Or.inr (Or.inr (Or.inr ⟨es,h1,fun p hp=>⟨(h2 p hp).1,gd_fuel (h2 p hp).2 (by omega)⟩,rfl⟩)))
theorem gd_kid {d x:Int} {f:Nat} {lv:Int} {v e:V} {i:Nat} (h:gd d x (f+1) lv v) (he:(vkids v)[i]? = some e):gd d x f (lv+1) e:=by
 obtain⟨_,h⟩:=h
 rcases h with⟨k,hk,rfl⟩|⟨s,hs,rfl⟩|⟨n,h1,h2,h3,rfl⟩|⟨es,h,rfl⟩|⟨es,h1,h2,rfl⟩
 ·cases he
 ·cases he
 ·cases he
 ·exact h e (List.mem_of_getElem? he)
 ·obtain⟨p,hp,rfl⟩:=List.mem_map.1 (List.mem_of_getElem? (show (es.map Prod.snd)[i]? = some e from he))
  exact (h2 p hp).2
end Sp
end Go.Proofs.YtdpomdelmdofmaaGreatDoor

namespace Go.Proofs.YtdpomdelmdofmaaGreatDoor
open Go.RowKit Go.Maps
namespace Sp
def sz:Nat→V→Nat
 | 0,_=>0
 | f+1,d=>match d with
  | .slice es _=>2+(es.map fun e=>sz f e+1).sum
  | .map es=>2+(es.map fun p=>(quoT (strOf p.1)).length+2+sz f p.2).sum
  | d=>(can (f+1) d).length
theorem sz_arr (f:Nat) (es:List V):sz (f+1) (vArr es)=2+(es.map fun e=>sz f e+1).sum:=rfl
theorem sz_obj (f:Nat) (es:List (Lit×V)):sz (f+1) (vObj es)=2+(es.map fun p=>(quoT (strOf p.1)).length+2+sz f p.2).sum:=rfl
theorem sum_le {α:Type} {q r:α→Nat}:∀ {l:List α},(∀a∈l,q a≤r a)→(l.map q).sum≤(l.map r).sum
 | [],_=>Nat.le_refl _
 | a::l,h=>by
  have h1:=h a (by simp)
  have h2:=sum_le (q:=q) (r:=r) (l:=l) fun b hb=>h b (by simp[hb])
  simp only[List.map_cons,List.sum_cons];omega
theorem sum_mul {α:Type} {q:α→Nat}:∀ (l:List α),(l.map fun a=>2*q a).sum=2*(l.map q).sum
 | []=>rfl
 | a::l=>by simp only[List.map_cons,List.sum_cons,sum_mul l];omega
theorem joinR_sumE (l:List By):(joinC l).length+1 ≥ (l.map fun x=>x.length+1).sum:=by
 cases l with
 | nil=>simp
 | cons x r=>simp[joinC,joinR_sum];omega
theorem rise_ne {es:List (Lit×V)} (h1:es.Pairwise (fun p q=>p.1.before q.1=true)) (h2:∀p∈es,∃s,p.1 = .string s):es.Pairwise (fun p q=>p.1≠q.1):=by
 refine List.Pairwise.imp_of_mem ?_ h1
 intro p q hp _ hb e
 obtain⟨s,hs⟩:=h2 p hp
 rw[← e,hs] at hb
 have h9:bytesBefore s s=true:=hb
 rw[WideAt.bytes_irrefl] at h9;cases h9
theorem obj_sumE {g:Nat} {es:List (Lit×V)} (hp:es.Pairwise (fun p q=>p.1≠q.1)) (hk:∀p∈es,∃x,p.1 = .string x) :
  ents g es≤(joinC ((skeys es).map (item g es))).length+1:=by
 refine Nat.le_trans (Nat.le_of_eq ?_) (joinR_sumE _)
 rw[List.map_map]
 have h1:((skeys es).map ((fun x=>x.length+1) ∘ item g es)).Perm ((keys es).map ((fun x=>x.length+1) ∘ item g es)):=(List.mergeSort_perm _ _).map _
 rw[h1.sum_nat]
 unfold keys ents
 rw[List.map_map]
 congr 1
 apply List.map_congr_left
 intro p hpm
 obtain⟨x,hx⟩:=hk p hpm
 have h2:look es x=p.2:=by
  unfold look
  exact WideAt.atKey_mem .nil trivial hp (by rw[← hx];exact hpm)
 obtain⟨k,v⟩:=p
 simp only at hx h2
 subst hx
 simp only[Function.comp,ent,strOf]
 rw[item_len,h2]
 omega
theorem can_sz {d x:Int}:∀ {f:Nat} {lv:Int} {v:V},gd d x f lv v→(can f v).length≤sz f v∧sz f v≤2*(can f v).length
 | 0,_,_,h=>h.elim
 | f+1,lv,v,⟨h0,h⟩=>by
  rcases h with⟨k,hk,rfl⟩|⟨s,hs,rfl⟩|⟨n,h1,h2,h3,rfl⟩|⟨es,h,rfl⟩|⟨es,h1,h2,rfl⟩
  ·have:sz (f+1) (vWord k)=(can (f+1) (vWord k)).length:=rfl
   omega
  ·have:sz (f+1) (vStr s)=(can (f+1) (vStr s)).length:=rfl
   omega
  ·have:sz (f+1) (vNum n)=(can (f+1) (vNum n)).length:=rfl
   omega
  ·rw[sz_arr,can_arr]
   have a1:=joinC_sum (es.map (can f))
   have a2:=joinR_sumE (es.map (can f))
   rw[List.map_map] at a1 a2
   have b1:(es.map ((fun x=>x.length+1) ∘ can f)).sum≤(es.map fun e=>sz f e+1).sum:=sum_le fun e he=>by
    have:=(can_sz (h e he)).1;show (can f e).length+1≤_;omega
   have b2:(es.map fun e=>sz f e+1).sum≤(es.map fun e=>2*((fun x:By=>x.length+1) ∘ can f) e).sum:=sum_le fun e he=>by
    have:=(can_sz (h e he)).2;show _≤2*((can f e).length+1);omega
   rw[sum_mul] at b2
   simp only[List.length_cons,List.length_append,List.length_nil]
   omega
  ·have hk:∀p∈es,∃s,p.1 = .string s:=fun p hp=>by
    obtain⟨s,hs,_⟩:=(h2 p hp).1;exact⟨s,hs⟩
   have hne:=rise_ne h1 hk
   rw[sz_obj,can_obj]
   have a1:=obj_sum (g:=f) hne hk
   have a2:=obj_sumE (g:=f) hne hk
   unfold ents at a1 a2
   have e1:(joinC ((skeys es).map (item f es)))=joinC (((keys es).mergeSort fun x y=>decide (x≤y)).map fun k=>quoT k++58::can f (look es k)):=rfl
   rw[e1] at a1 a2
   have b1:(es.map (ent f)).sum≤(es.map fun p=>(quoT (strOf p.1)).length+2+sz f p.2).sum:=sum_le fun p hp=>by
    have:=(can_sz (h2 p hp).2).1;unfold ent;omega
   have b2:(es.map fun p=>(quoT (strOf p.1)).length+2+sz f p.2).sum≤(es.map fun p=>2*ent f p).sum:=sum_le fun p hp=>by
    have:=(can_sz (h2 p hp).2).2;unfold ent;omega
   rw[sum_mul] at b2
   simp only[List.length_cons,List.length_append,List.length_nil]
   omega
theorem sz_vkid {f:Nat} {d x:Int} {lv:Int} {v e n:V} {i:Nat} (h:gd d x (f+1) lv v) (hi:(vkids v)[i]? = some n):sz (f+1) (vkid i e v)+sz f n=sz (f+1) v+sz f e:=by
 have hset:∀ {α:Type} {q:α→Nat} (y z:α) (l:List α) (i:Nat),l[i]? = some y→((l.set i z).map q).sum+q y=(l.map q).sum+q z:=by
  intro α q y z l
  induction l with
  | nil=>intro i h;simp at h
  | cons a r ih =>
   intro i h
   cases i with
   | zero =>
    rw[List.getElem?_cons_zero] at h
    injection h with h
    subst h
    simp only[List.set_cons_zero,List.map_cons,List.sum_cons];omega
   | succ i =>
    have:=ih i (by simpa using h)
    simp only[List.set_cons_succ,List.map_cons,List.sum_cons];omega
 have hmod:∀ (l:List (Lit×V)) (i:Nat),(l.map Prod.snd)[i]? = some n→((l.modify i fun p=>(p.1,e)).map fun p=>(quoT (strOf p.1)).length+2+sz f p.2).sum+sz f n=(l.map fun p=>(quoT (strOf p.1)).length+2+sz f p.2).sum+sz f e:=by
  intro l
  induction l with
  | nil=>intro i h;simp at h
  | cons a r ih =>
   intro i h
   cases i with
   | zero =>
    rw[List.map_cons,List.getElem?_cons_zero] at h
    injection h with h
    subst h
    simp only[List.modify_zero_cons,List.map_cons,List.sum_cons];omega
   | succ i =>
    have:=ih i (by simpa using h)
    simp only[List.modify_succ_cons,List.map_cons,List.sum_cons];omega
 obtain⟨_,h⟩:=h
 rcases h with⟨k,hk,rfl⟩|⟨s,hs,rfl⟩|⟨m,h1,h2,h3,rfl⟩|⟨es,h,rfl⟩|⟨es,h1,h2,rfl⟩
 ·cases hi
 ·cases hi
 ·cases hi
 ·have hi2:es[i]? = some n:=hi
  have:=hset (q:=fun e=>sz f e+1) n e es i hi2
  show 2+((es.set i e).map fun e=>sz f e+1).sum+_=2+(es.map fun e=>sz f e+1).sum+_
  omega
 ·have:=hmod es i hi
  show 2+((es.modify i fun p=>(p.1,e)).map fun p=>(quoT (strOf p.1)).length+2+sz f p.2).sum+_=2+(es.map fun p=>(quoT (strOf p.1)).length+2+sz f p.2).sum+_
  omega
theorem kids_sz {f:Nat} {v:V}:(vkids v).length≤sz (f+1) v:=by
 have h1:∀ {α:Type} {q:α→Nat} (l:List α),(∀a,1≤q a)→l.length≤(l.map q).sum:=by
  intro α q l hq
  induction l with
  | nil=>simp
  | cons a r ih=>have:=hq a;simp only[List.map_cons,List.sum_cons,List.length_cons];omega
 unfold vkids
 split
 ·rename_i es
  have:=h1 (q:=fun p:Lit×V=>(quoT (strOf p.1)).length+2+sz f p.2) es fun p=>by omega
  show (es.map Prod.snd).length≤2+(es.map fun p:Lit×V=>(quoT (strOf p.1)).length+2+sz f p.2).sum
  rw[List.length_map];omega
 ·rename_i es y
  have:=h1 (q:=fun e:V=>sz f e+1) es fun p=>by omega
  show es.length≤2+(es.map fun e:V=>sz f e+1).sum
  omega
 ·simp
end Sp
end Go.Proofs.YtdpomdelmdofmaaGreatDoor
namespace Go.Proofs.YtdpomdelmdofmaaGreatDoor
open Go.RowKit Go.Maps
namespace Sp
theorem sz_up {d x:Int}:∀ {f g:Nat} {lv:Int} {v:V},gd d x f lv v→f≤g→sz g v=sz f v
 | 0,_,_,_,h,_=>h.elim
 | f+1,0,_,_,_,h=>by omega
 | f+1,g+1,lv,v,⟨h0,h⟩,hg=>by
  rcases h with⟨k,hk,rfl⟩|⟨s,hs,rfl⟩|⟨n,h1,h2,h3,rfl⟩|⟨es,h,rfl⟩|⟨es,h1,h2,rfl⟩
  ·rfl
  ·rfl
  ·rfl
  ·rw[sz_arr,sz_arr]
   congr 2
   exact List.map_congr_left fun e he=>by rw[sz_up (h e he) (by omega)]
  ·rw[sz_obj,sz_obj]
   congr 2
   exact List.map_congr_left fun p hp=>by rw[sz_up (h2 p hp).2 (by omega)]
end Sp
end Go.Proofs.YtdpomdelmdofmaaGreatDoor

namespace Go.Proofs.YtdpomdelmdofmaaGreatDoor
open Go.RowKit Go.Maps
theorem DocT.bel {w w':World} {D R:Nat} {wp jn iv:Value} {ch:Bool} {T a:Sp.A} {x:Sp.V} (h:DocT w D R wp jn iv ch T a x) (hb:Below w.heap.size w w'):DocT w' D R wp jn iv ch T a x :=
 h.move (hb.block D h.db.lt) fun k hk=>hb.block k (h.tr.lt k hk)
structure JS (w:World) (D R:Nat) (wp:Option Addr) (jn iv:Value) (ch:Bool) (Tb:Sp.A) (Mb:Nat→Prop) (wb:World) (T a:Sp.A) (v:Sp.V) (M:Nat→Prop) (js:List Sp.Opn):Prop where
 j:JDoc (top+1) w D (.pointer (some ⟨R,0,none⟩)) jn iv ch Tb Mb wb T M js
 t:DocT w D R (.pointer wp) jn iv ch T a v
section
variable {w w':World} {D R:Nat} {wp:Option Addr} {jn iv:Value} {ch:Bool} {Tb T a:Sp.A} {Mb M:Nat→Prop} {wb:World} {v:Sp.V} {js:List Sp.Opn}
theorem JS.of {g:Nat} {a1:Sp.A} (hJ:JDoc (top+1) w D (.pointer (some ⟨R,0,none⟩)) jn iv ch Tb Mb wb T M js) (e:Sp.er (top+1) T=Sp.er (top+1) (Sp.nd R g (.slice [a1] []))) :
  ∃wp a,JS w D R wp jn iv ch Tb Mb wb T a (Sp.str top a1) M js:=by
 obtain⟨g',al',rfl,e2⟩:=hJ.tr.er_arr e
 obtain⟨a,rfl⟩:∃a,al'=[a]:=List.length_eq_one_iff.1 (by have:=congrArg List.length e2;simpa using this)
 ·have e3:Sp.er top a=Sp.er top a1:=by
   have:=congrArg (fun l:List Sp.A=>l[0]?) e2
   simpa using this
  obtain⟨xs,cs,g1,_⟩:=hJ.ex
  obtain⟨u,hu⟩:∃u,TRep top w u a:=TRep.at (f:=top) (p:=[0]) hJ.tr rfl
  obtain⟨b,rfl,_⟩:=hu.ptr
  exact⟨some ⟨b,0,none⟩,a,hJ,⟨g1,hJ.tr,⟨g',rfl⟩,hu,by rw[← Sp.str_er,e3,Sp.str_er],hJ.nd,hJ.dD.1⟩⟩
theorem JS.bel (h:JS w D R wp jn iv ch Tb Mb wb T a v M js) (hb:Below w.heap.size w w'):JS w' D R wp jn iv ch Tb Mb wb T a v M js:=⟨(h.j.bel hb).1,h.t.bel hb⟩
end
end Go.Proofs.YtdpomdelmdofmaaGreatDoor

namespace Go.Proofs.YtdpomdelmdofmaaGreatDoor
open Go.RowKit Go.Maps
structure Sp.Fit (d x:Int) (B:Nat) (v:Sp.V):Prop where
 gd:Sp.gd d x top 1 v
 dd:d≤500
 sz:Sp.sz top v≤B
theorem Sp.nar_of {d x:Int}:∀ {f:Nat} {lv:Int} {v:Sp.V},Sp.gd d x f lv v→Sp.sz f v≤1000000000000→Sp.nar f v
 | 0,_,_,_,_=>trivial
 | f+1,lv,v,h,hs=>by
  have hk:=Sp.kids_sz (f:=f) (v:=v)
  have hkid:∀i e,(Sp.vkids v)[i]? = some e→Sp.nar f e:=fun i e he=>by
   have h1:=Sp.sz_vkid (e:=.nil) h he
   have h2:Sp.sz f (.nil:Sp.V)=0:=by cases f<;>rfl
   exact Sp.nar_of (Sp.gd_kid h he) (by omega)
  obtain⟨_,h⟩:=h
  rcases h with⟨k,_,rfl⟩|⟨s,_,rfl⟩|⟨n,_,_,_,rfl⟩|⟨es,_,rfl⟩|⟨es,_,_,rfl⟩
  ·trivial
  ·trivial
  ·trivial
  ·refine⟨Nat.le_trans hk hs,fun e he=>?_⟩
   obtain⟨i,hi,e'⟩:=List.mem_iff_getElem.1 he
   exact hkid i e (show es[i]? = some e by rw[List.getElem?_eq_getElem hi,e'])
  ·refine⟨by rw[← List.length_map (f:=Prod.snd)];exact Nat.le_trans hk hs,fun p hp=>?_⟩
   obtain⟨i,hi,e'⟩:=List.mem_iff_getElem.1 hp
   exact hkid i p.2 (show (es.map Prod.snd)[i]? = some p.2 by rw[List.getElem?_map,List.getElem?_eq_getElem hi,e'];rfl)
def Sp.PathOk (p:List Sp.By):Prop:=(p.map fun t=>t.length+1).sum≤100000 ∧ ∀t∈p,Sp.Ut t
theorem sum_len:∀ (p:List Sp.By),p.length≤(p.map fun t=>t.length+1).sum ∧ ∀t∈p,t.length≤(p.map fun t=>t.length+1).sum
 | []=>⟨Nat.le_refl _,fun t h=>by cases h⟩
 | a::r=>by
  obtain⟨h1,h2⟩:=sum_len r
  simp only[List.map_cons,List.sum_cons,List.length_cons]
  refine⟨by omega,fun t h=>?_⟩
  rcases List.mem_cons.1 h with rfl|h
  ·omega
  ·have:=h2 t h;omega
theorem Sp.PathOk.len {p:List Sp.By} (h:Sp.PathOk p):p.length≤100000:=Nat.le_trans (sum_len p).1 h.1
theorem put_at {L f:Nat} {p:List Nat} {w:World} {D i:Nat} {rv jn iv:Value} {ch:Bool} {Tb T m c x:Sp.A} {Mb M:Nat→Prop} {wb:World} {js:List Sp.Opn} {key:Sp.By} {pa px:Option Addr} {pl pc:Nat} {path:List Sp.By} (hL:f+1+p.length=L)
  (hJ:JDoc L w D rv jn iv ch Tb Mb wb T M js) (hs:Sp.sub p T=some m) (hf:Stands m i key c) (hr:Roomy m key) (hl:js.length≤1000000000) (hp:TokG w (GA L Tb wb M) (.slice pa pl pc) path) (hft:f≤top) (hx:TRep f w (.pointer px) x) (hxn:(Sp.fp f x).Nodup) (hxd:∀k∈Sp.fp f x,¬ M k∧k ∉ Sp.fp L T∧k≠D∧jn.ownBlock≠some k∧wb.heap.size≤k) :
  Calls Tryz.prog 160 #[.pointer (some ⟨D,0,none⟩),plV (.slice pa pl pc) (Sp.blk m) key i,.pointer px] w fun e w'=>e = .returned (.tuple #[]) ∧
   DocEnd L D rv iv ch Tb Mb wb (Sp.put p (Sp.setT i key x m) T) M (js++[(2,path,Sp.str f c)]) w w':=by
 subst hL
 exact put_doc hJ hs hf hr hl hp hft hx hxn hxd
theorem putn_at {L f:Nat} {p:List Nat} {w:World} {D i:Nat} {rv jn iv:Value} {ch:Bool} {Tb T x:Sp.A} {Mb M:Nat→Prop} {wb:World} {js:List Sp.Opn} {key:Sp.By} {pa px:Option Addr} {pl pc:Nat} {path:List Sp.By} {b g:Nat} {es:List (Lit×Sp.A)} (hL:f+1+p.length=L)
  (hJ:JDoc L w D rv jn iv ch Tb Mb wb T M js) (hs:Sp.sub p T=some (Sp.nd b g (.map es))) (hf:∀p∈es,p.1≠Lit.string key) (hr:Roomy (Sp.nd b g (.map es)) key) (hl:js.length≤1000000000) (hp:TokG w (GA L Tb wb M) (.slice pa pl pc) path) (hx:TRep f w (.pointer px) x) (hxn:(Sp.fp f x).Nodup) (hxd:∀k∈Sp.fp f x,¬ M k∧k ∉ Sp.fp L T∧k≠D∧jn.ownBlock≠some k∧wb.heap.size≤k) :
  Calls Tryz.prog 160 #[.pointer (some ⟨D,0,none⟩),plV (.slice pa pl pc) b key i,.pointer px] w fun e w'=>e = .returned (.tuple #[]) ∧
   DocEnd L D rv iv ch Tb Mb wb (Sp.put p (Sp.insT i key x (Sp.nd b g (.map es))) T) M (js++[(1,path,.nil)]) w w':=by
 subst hL
 exact putn_doc hJ hs hf hr hl hp hx hxn hxd
section
variable {w w':World} {D R:Nat} {wp:Option Addr} {jn iv:Value} {ch:Bool} {Tb T a:Sp.A} {Mb M:Nat→Prop} {wb:World} {v:Sp.V} {js:List Sp.Opn}
theorem JS.done {g:Nat} {T1 a1:Sp.A} {v':Sp.V} (h:DocEnd (top+1) D (.pointer (some ⟨R,0,none⟩)) iv ch Tb Mb wb T1 M js w w') (e:T1=Sp.nd R g (.slice [a1] [])) (hv:Sp.str top a1=v') :
  ∃wp jn T a M',JS w' D R wp jn iv ch Tb Mb wb T a v' M' js∧JEx M M' w w':=by
 obtain⟨jn',T',M',q1,q2,q3⟩:=h
 rw[e] at q1
 obtain⟨wp,a,hj⟩:=JS.of q2 q1
 rw[hv] at hj
 exact⟨wp,jn',T',a,M',hj,q3⟩
end
end Go.Proofs.YtdpomdelmdofmaaGreatDoor
