import Derived.Test.YtdpomdelmdofmaaGreatDoorUnd25
import Derived.Orders
namespace Go.Proofs.YtdpomdelmdofmaaGreatDoor
open Go.Proofs.Tryz
section
set_option maxRecDepth 100000
set_option maxHeartbeats 2000000
open Go.RowKit Go.Maps
def GZ(f:Nat)(F:Nat->Prop)(w:World)(v:Value)(o:Option Sp.V):Prop:=match o with
 | none=>v = .pointer none
 | some d=>Rep f F w v d
theorem GZ.ptr{f:Nat}{F:Nat->Prop}{w:World}{v:Value}{o:Option Sp.V}(h:GZ f F w v o):∃p,v = .pointer p:=by
 cases o with
 | none=>exact⟨_,h⟩
 | some d=>obtain⟨b,e,_⟩:=Rep.ptr h;exact⟨_,e⟩
theorem GZ.bel{f:Nat}{F:Nat->Prop}{w w':World}{v:Value}{o:Option Sp.V}(h:GZ f F w v o)(hb:Below w.heap.size w w'):GZ f F w' v o:=by
 cases o with
 | none=>exact h
 | some d=>exact Rep.bel h hb
theorem Ro{d:Sp.V}(h:∀es,d ≠ .map es)(k:Sp.By):Sp.AK d k=none:=by
 unfold Sp.AK;split
 ·rename_i es;exact absurd rfl (h es)
 ·rfl
theorem ME{f:Nat}{F:Nat->Prop}{w:World}{v:Value}{d:Sp.V}(h:Rep (f+1) F w v d):∃b n x s sl mv,v = .pointer (some ⟨b,0,none⟩)/\VB w b x n s sl mv /\
  ∀key:Sp.By,key.length<=1048576 -> ∃y,GZ f F w y (Sp.AK d key) /\ ∀w',Below w.heap.size w w' ->
   (Instr.lookup 109 mv (.string ⟨key.toArray⟩) true).run Tryz.prog w' = .ok (.tuple #[y,.bool (Sp.AK d key).isSome]) w' /\
   (Instr.lookup 109 mv (.string ⟨key.toArray⟩) false).run Tryz.prog w' = .ok y w':=by
 have hnil:∀key:Sp.By,key.length<=1048576->(∀es,d ≠ .map es) -> ∃y,GZ f F w y (Sp.AK d key) /\ ∀w',Below w.heap.size w w' ->
   (Instr.lookup 109 (.map none) (.string ⟨key.toArray⟩) true).run Tryz.prog w' = .ok (.tuple #[y,.bool (Sp.AK d key).isSome]) w' /\
   (Instr.lookup 109 (.map none) (.string ⟨key.toArray⟩) false).run Tryz.prog w' = .ok y w':=by
  intro key hk hd;rw[Ro hd];exact⟨_,rfl,fun w' _=>⟨Maps.look_nil true Cd underlying109 (C9 w') (Fj key hk),Maps.look_nil false Cd underlying109 (C9 w') (Fj key hk)⟩⟩
 obtain⟨b,rfl,hb,h⟩:=h;rcases h with⟨k,_,rfl,h⟩|⟨n,rfl,h,_⟩|⟨s,rfl,h⟩|⟨es,sl,ps,rfl,h,_⟩|⟨es,m,n,D,rfl,h,hFm,ho,hp⟩
 ·exact⟨b,_,_,_,_,_,rfl,h,fun key hk=>hnil key hk (by simp[Sp.BV])⟩
 ·exact⟨b,_,_,_,_,_,rfl,h,fun key hk=>hnil key hk (by simp[Sp.Bj])⟩
 ·exact⟨b,_,_,_,_,_,rfl,h,fun key hk=>hnil key hk (by simp[Sp.Az])⟩
 ·exact⟨b,_,_,_,_,_,rfl,h,fun key hk=>hnil key hk (by simp[Sp.Ar])⟩
 ·refine⟨b,_,_,_,_,_,rfl,h,fun key hk=>?_⟩;have hml:=B0 ho;have hkey:=Fj key hk;have hh:=hp.has (.string key);cases hc:has (.map D:DataW Value) (.string key) with
  | false =>
   have e1:Sp.AK (Sp.Av es) key=none:=by
    unfold Sp.AK Sp.Av;simp only;rw[if_neg (by rw[<- hh,hc];simp)]
   rw[e1];refine⟨.pointer none,rfl,fun w' hbw=>?_⟩;have ho':=AJ ho (hbw.block m hml);obtain⟨v1,ps1,r1,q1⟩:=ho'.look_ok Cd underlying109 (C9 w') (zd:=.held (.pointer none)) (zp:=[]) rfl hkey;obtain⟨v2,ps2,r2,q2⟩:=ho'.lookup Cd underlying109 (C9 w') (zd:=.held (.pointer none)) (zp:=[]) rfl hkey;obtain⟨rfl,_⟩:=Du q1 (atKey_of_not_has hc _);obtain⟨rfl,_⟩:=Du q2 (atKey_of_not_has hc _);rw[hc] at r1;exact⟨r1,r2⟩
  | true =>
   obtain⟨x,e4,hx⟩:=hp.at (.string key) hc;have e1:Sp.AK (Sp.Av es) key=some ((DataW.map es).atKey (.string key) .nil):=by
    unfold Sp.AK Sp.Av;simp only;rw[if_pos (by rw[<- hh,hc])]
   rw[e1];refine⟨x,hx,fun w' hbw=>?_⟩;have ho':=AJ ho (hbw.block m hml);obtain⟨v1,ps1,r1,q1⟩:=ho'.look_ok Cd underlying109 (C9 w') (zd:=.held (.pointer none)) (zp:=[]) rfl hkey;obtain⟨v2,ps2,r2,q2⟩:=ho'.lookup Cd underlying109 (C9 w') (zd:=.held (.pointer none)) (zp:=[]) rfl hkey;obtain⟨rfl,_⟩:=Du q1 (e4 _);obtain⟨rfl,_⟩:=Du q2 (e4 _);rw[hc] at r1;exact⟨r1,r2⟩
section
variable{f:Nat}{F:Nat->Prop}{w:World}{v:Value}{o:Option Sp.V}
def Px(r:Option Sp.By):Value:=.tuple #[.string ⟨(r.getD []).toArray⟩,.bool r.isSome]
theorem OE(h:GZ f F w v o):Calls Tryz.prog 149 #[v] w fun e w'=>e = .returned (Px (Sp.Cc o))/\w'=w:=by
 cases o with
 | none =>
  obtain rfl:v = .pointer none:=h
  go_enter func149,ntmps149
  go_wp2_with (fail)
  go_ret2
  exact⟨rfl,rfl⟩
 | some d =>
  cases f with
  | zero=>exact h.elim
  | succ f =>
   obtain⟨b,rfl,hb,h⟩:=h;obtain⟨x,n,s,sl,mv,hv,hx⟩:∃ (x:Nat) (n:Sp.Nm) (s:Sp.By) (sl mv:Value),VB w b x n s sl mv/\((x=4/\Sp.Cc (some d)=some s)\/(x≠4/\Sp.Cc (some d)=none)):=by
    rcases h with⟨k,hk,rfl,h⟩|⟨n,rfl,h,_⟩|⟨s,rfl,h⟩|⟨es,sl,ps,rfl,h,_⟩|⟨es,m,n,D,rfl,h,_⟩
    ·exact⟨k,_,_,_,_,h,Or.inr ⟨by omega,rfl⟩⟩
    ·exact⟨3,_,_,_,_,h,Or.inr ⟨by omega,rfl⟩⟩
    ·exact⟨4,_,_,_,_,h,Or.inl ⟨rfl,rfl⟩⟩
    ·exact⟨5,_,_,_,_,h,Or.inr ⟨by omega,rfl⟩⟩
    ·exact⟨6,_,_,_,_,h,Or.inr ⟨by omega,rfl⟩⟩
   have c0:=hv.c0;have c4:=hv.c4;clear h hb hv;rcases hx with⟨rfl,e⟩|⟨hne,e⟩
   ·rw[e];clear e
    go_enter func149,ntmps149
    go_wp2_with (fail)
    go_ret2
    exact⟨rfl,rfl⟩
   ·rw[e];have e1:((x:Int) != 4)=true:=by rw[bne_iff_ne];omega
    have e2:((x:Int) == 4)=false:=by rw[beq_eq_false_iff_ne];omega
    clear e hne c4
    go_enter func149,ntmps149
    go_wp2_with (fail)
    go_ret2
    exact⟨rfl,rfl⟩
end
end

section
def Ir(l:Array Bool):Nat:=l.toList.countP (! ·)
theorem RK{l:Array Bool}{i:Nat}(h:l.getD i true=false):Ir (l.setIfInBounds i true)+1=Ir l:=by
 have hi:i<l.size:=by
  by_cases hi:i<l.size
  ·exact hi
  ·simp[Array.getD,hi] at h
 have hv:l.toList[i]'(by simpa using hi)=false:=by simpa[Array.getD,hi] using h
 unfold Ir;rw[Array.toList_setIfInBounds,List.countP_set (by simpa using hi),hv];have:0<l.toList.countP (! ·):=List.countP_pos_iff.2 ⟨false,by rw[<- hv];exact List.getElem_mem _,rfl⟩
 simp only[Bool.not_false,Bool.not_true,if_true,if_false,Bool.false_eq_true];omega
theorem PV{l:Array Bool}(h:Ir l=0)(i:Nat):l.getD i true=true:=by
 by_cases hi:i<l.size
 ·have h1:=List.countP_eq_zero.1 h l[i] (by simp);simpa[Array.getD,hi] using h1
 ·simp[Array.getD,hi]
theorem C3{md:Region.Mode}{ops:Array Oper}{l:Array Bool}{i:Nat}(h:i∈Region.ready md ops l):l.getD i true=false /\ ∀o,ops[i]? = some o -> ∀e∈o.after,Region.binds md e=true->l.getD e.on false=true:=by
 obtain⟨h1,o,h2,h3⟩:=mem_ready.1 h;exact⟨h1,fun o' ho'=>by rw[h2] at ho';injection ho' with ho';subst ho';exact h3⟩
theorem G8{P:Program}{md:Region.Mode}{ops:Array Oper}{Q:Exit->Act->World->Prop}(I:Array Bool->Act->World->Prop)
  (hs:∀l a w,I l a w -> ∀i,i∈Region.ready md ops l->wpOp P ops Q i (I (l.setIfInBounds i true)) a w)
  (he:∀l a w,I l a w->Region.ready md ops l=[]->Q .normal a w):∀ (fuel:Nat) (l:Array Bool) (a:Act) (w:World),Ir l<=fuel->I l a w->wpAny P md ops Q fuel l a w:=by
 intro fuel;induction fuel with
 | zero =>
  intro l a w hl hi;have hr:Region.ready md ops l=[]:=by
   rw[List.eq_nil_iff_forall_not_mem];intro i hm;have h1:=(C3 hm).1;rw[PV (by omega) i] at h1;cases h1
  exact⟨hr,he l a w hi hr⟩
 | succ n ih =>
  intro l a w hl hi;refine⟨fun hr=>he l a w hi hr,fun i hm=>wpOp_mono (fun a' w' h'=>ih _ a' w' ?_ h') (hs l a w hi i hm)⟩;have:=RK (C3 hm).1;omega
def Id(md:Region.Mode)(ops:Array Oper)(l:Array Bool):Prop:=∀i o,ops[i]? = some o->l.getD i false=true -> ∀e∈o.after,Region.binds md e=true->l.getD e.on false=true
theorem Id.next{md:Region.Mode}{ops:Array Oper}{l:Array Bool}{i:Nat}(h:Id md ops l)(hi:i∈Region.ready md ops l):Id md ops (l.setIfInBounds i true):=by
 intro j o ho hj e he hb;by_cases hij:i=j
 ·subst hij;exact getD_set_true ((C3 hi).2 o ho e he hb)
 ·exact getD_set_true (h j o ho ((getD_set_ne _ hij).symm.trans hj) e he hb)
theorem Pu{P:Program}{md:Region.Mode}{ops:Array Oper}{Q:Exit->Act->World->Prop}(I:Array Bool->Act->World->Prop)
  (hs:∀l a w,Id md ops l->I l a w -> ∀i,i∈Region.ready md ops l->wpOp P ops Q i (I (l.setIfInBounds i true)) a w)
  (he:∀l a w,I l a w->Region.ready md ops l=[]->Q .normal a w) (n:Nat) (a:Act) (w:World) (h:I (Array.replicate n false) a w):wpAny P md ops Q n (Array.replicate n false) a w:=by
 refine G8 (fun l a w=>Id md ops l/\I l a w) (fun l a w hI i hi=>?_) (fun l a w hI hr=>he l a w hI.2 hr) n _ a w ?_ ⟨?_,h⟩
 ·exact wpOp_mono (fun a' w' h'=>⟨hI.1.next hi,h'⟩) (hs l a w hI.1 hI.2 i hi)
 ·unfold Ir;refine Nat.le_trans List.countP_le_length ?_;simp
 ·intro i o _ hi
  exfalso
  rw[Array.getD_eq_getD_getElem?,Array.getElem?_replicate] at hi;split at hi<;>cases hi
theorem GB{md:Region.Mode}{ops:Array Oper}{l:Array Bool}(hsz:l.size=ops.size)(hw:(List.range ops.size).all (fun i=>((ops[i]?).map fun o=>o.after.all fun e=>!Region.binds md e || decide (e.on<i)).getD true)=true)(h:Region.ready md ops l=[]):∀i,i<ops.size->l.getD i false=true:=by
 intro i;induction i using Nat.strongRecOn with
 | ind i ih =>
  intro hi;by_cases hv:l.getD i false=true
  ·exact hv
  ·exfalso
   have hi2:i<l.size:=by omega
   have:i∈Region.ready md ops l:=by
    refine mem_ready.2 ⟨by simpa[Array.getD,hi2] using hv,ops[i],Array.getElem?_eq_getElem hi,fun e he hb=>?_⟩;have h1:=List.all_eq_true.1 hw i (by simpa using hi);rw[Array.getElem?_eq_getElem hi] at h1;simp only[Option.map_some,Option.getD_some] at h1;have h2:=Array.all_eq_true_iff_forall_mem.1 h1 e he;rw[hb] at h2;have h3:e.on<i:=of_decide_eq_true (by simpa using h2);exact ih e.on h3 (by omega)
   rw[h] at this;cases this
theorem Ac{l:Array Bool}{i j:Nat}(h:i≠j){p:Prop}(e:l.getD j false=true->p):(l.setIfInBounds i true).getD j false=true->p:=fun h'=>e ((getD_set_ne _ h).symm.trans h')
theorem XH{l:Array Bool}{n:Nat}(h:l.size=n)(i:Nat)(hi:i<n):(l.setIfInBounds i true).getD i false=true:=by
 simp[Array.getD,h,hi]
end

section
set_option maxRecDepth 100000
set_option maxHeartbeats 8000000
open Go.RowKit Go.Maps
theorem TU{f:Nat}{F:Nat->Prop}{w:World}{b:Nat}{es:List (Lit×Sp.V)}(h:Rep (f+1) F w (.pointer (some ⟨b,0,none⟩)) (.map es)):∃n s sl m k D,VB w b 6 n s sl (.map (some m))/\F b/\F m/\w.ownsMap Tryz.prog 9 RV m k (.map D)/\Pt (Rep f F w) D es:=by
 obtain⟨b',e,hF,h⟩:=h;injection e with e;injection e with e;injection e with e;subst e;rcases h with⟨k,_,e,_⟩|⟨n,e,_⟩|⟨s,e,_⟩|⟨es',sl,ps,e,_⟩|⟨es',m,n,D,e,hv,hm,ho,hp⟩
 ·cases e
 ·cases e
 ·cases e
 ·cases e
 ·injection e with e;subst e;exact⟨_,_,_,m,n,D,hv,hF,hm,ho,hp⟩
theorem Q9{f m n:Nat}{F:Nat->Prop}{w:World}{D:List (Lit×DataW Value)}{es:List (Lit×Sp.V)}(ho:w.ownsMap Tryz.prog 9 RV m n (.map D))(hp:Pt (Rep f F w) D es){k:Sp.By}(hk:k∈Sp.skeys es):Sp.AK (.map es) k=some ((DataW.map es).atKey (.string k) .nil):=by
 have h:=(Rt ho hp hk).1;rw[hp.has (.string k)] at h;exact if_pos h
section
variable{w:World}{D b i pb:Nat}{key:Sp.By}{pa:Option Addr}{pl pc y:Nat}{yn:Sp.Nm}{ys:Sp.By}{ysl ymv:Value}
theorem Qv{f:Nat}{F:Nat->Prop}{es:List (Lit×Sp.V)}{path:List Sp.By}{G:Nat->Prop}{MI:World->Nat->World->Prop}
  (hG:Calls Tryz.prog 159 #[plV (.slice pa pl pc) b key i] (plW w pa pl pc b key i) fun e w'=>e = .returned (.pointer (some ⟨y,0,none⟩))/\Below (w.heap.size+1) (plW w pa pl pc b key i) w')
  (hy:VB w y 6 yn ys ysl ymv) (hF:∀k,F k->k<w.heap.size) (hrep:Rep (f+1) F w (.pointer (some ⟨pb,0,none⟩)) (.map es)) (hlen:es.length<=1000000000) (hkl:∀k∈Sp.skeys es,k.length<=1048576)
  (hpath:AM w G (.slice pa pl pc) path) (hpl:path.length<=100000000) (hnil:path=[] -> ∃c,(Value.slice pa pl pc) = .slice none 0 c)
  (h0:∀w3,Below w.heap.size w w3->MI w3 0 w3)
  (hkeep:∀w3 t wr,Below w.heap.size w w3->MI w3 t wr->(w3.heap.size<=wr.heap.size /\ ∀k,(F k\/G k\/w.heap.size<=k)->k<w3.heap.size->wr.heap[k]? = w3.heap[k]?))
  (hstep:∀w3 t (ht:t<(Sp.skeys es).length) wr w1 xv vb,Below w.heap.size w w3->MI w3 t wr->Below wr.heap.size wr w1->(∃xa xl xc,xv = .slice xa xl xc)->AM w1 (fun k=>wr.heap.size<=k) xv (path++[(Sp.skeys es)[t]])->Rep f F wr (.pointer (some ⟨vb,0,none⟩)) ((DataW.map es).atKey (.string (Sp.skeys es)[t]) .nil) ->
   Calls Tryz.prog 162 #[.pointer (some ⟨D,0,none⟩),.agg #[xv,.pointer (some ⟨y,0,none⟩),.string ⟨((Sp.skeys es)[t]).toArray⟩,.int .i64 0],.pointer (some ⟨vb,0,none⟩)] w1 fun e w'=>e = .returned (.tuple #[])/\MI w3 (t+1) w') :
  Calls Tryz.prog 120 #[.pointer (some ⟨D,0,none⟩),plV (.slice pa pl pc) b key i,.pointer (some ⟨pb,0,none⟩)] w fun e w'=>e = .returned (.tuple #[]) /\ ∃w3,Below w.heap.size w w3/\MI w3 (Sp.skeys es).length w':=by
 obtain⟨pn,ps,psl,m,n,Dp,hpv,hpb,hm,ho,hp⟩:=TU hrep;have HREP:=Ab hrep;have HG:=Ab hG;have hbx:=heap_alloc_new w (.cells #[.slice pa pl pc,.pointer (some ⟨b,0,none⟩),.string ⟨key.toArray⟩,.int .i64 i] 185);have HPB:=Ab (show AN (plW w pa pl pc b key i) w.heap.size (.slice pa pl pc) b key i from hbx);have hplw:Below w.heap.size w (plW w pa pl pc b key i):=CT;have HPL:=Ab hplw;have hps:(plW w pa pl pc b key i).heap.size=w.heap.size+1:=by simp
 have HPV:=Ab hpv;have HY:=Ab hy;have HFL:=Ab hF;have HFB:=Ab hpb;have HPT:=Ab hp;have HO:=Ab ho;have HM:=Ab hm;have HPATH:=Ab hpath;have HPLN:=Ab hpl;have HNIL:=Ab hnil;have H0:=Ab h0;have HK:=Ab hkeep;have HS:=Ab hstep;have HLEN:=Ab hlen;have HKL:=Ab hkl;have HDL:=Ab hp.len;have HKEYS:=Ab hp.keys;clear hG hbx hplw hy hF hpb hp ho hm hpath hpl hnil h0 hkeep hstep hlen hpv hrep hkl
 go_enter func120,ntmps120
 go_wp2_with (fail);refine (Aa HG).mono ?_
 rintro e w2 ⟨rfl,hb⟩;have hb2:Below w.heap.size w w2:=⟨hb.os.trans (Aa HPL).os,hb.tape.trans (Aa HPL).tape,hb.output.trans (Aa HPL).output,Nat.le_trans (Aa HPL).size hb.size,fun k hk=>(hb.block k (by omega)).trans ((Aa HPL).block k hk)⟩
 have hp2:AN w2 w.heap.size (.slice pa pl pc) b key i:=(hb.block _ (by omega)).trans (Aa HPB);have HP2:=Ab hp2;have HB2:=Ab hb2;have pv2:=(Aa HPV).kept (hb2.block pb (Aa HPV).lt);have q0:=pv2.c0;have q6:=pv2.c6;have y0:=((Aa HY).kept (hb2.block y (Aa HY).lt)).c0;have HO2:=Ab (AJ (Aa HO) (hb2.block m (B0 (Aa HO))));clear hb hb2 hp2 HG HPB HPL hps pv2
 go_wp2_with (fail);refine (callsIn_wide.1 (Tryz.maps_Keys_141 (some m) w2)).mono ?_
 rintro e w2' ⟨rfl,rfl⟩
 go_wp2_with (fail);refine (callsIn_wide.1 (Tryz.slices_Sorted_keys_140_141 m n (.map Dp) RV w2 (Aa HO2) (by have:=Aa HDL;have:=Aa HLEN;rw[Maps.size_eq];unfold maxLen;omega) (by have:=Aa HDL;have:=Aa HLEN;rw[Maps.size_eq];omega))).mono ?_
 rintro e w3 ⟨v,ss,rfl,hperm,hrow,hnil2,hb3⟩;have hsa:(w2.alloc (.cells #[.map (some m)] 109)).heap.size=w2.heap.size+1:=by simp
 have hb23:Below w2.heap.size w2 w3:=((Below.refl _ w2).alloc (Nat.le_refl _) _).trans (hb3.mono (by simp));have hbw3:Below w.heap.size w w3:=(Aa HB2).trans (hb23.mono (Aa HB2).size);have hsk:ss.mergeSort (fun x y=>decide (x<=y))=Sp.skeys es:=by
  rw[mergeSort_of_perm hperm,Aa HKEYS];rfl
 have hssl:ss.length=(Sp.skeys es).length:=by rw[<- hsk,List.length_mergeSort]
 rw[hsk] at hrow;have hlw2:w.heap.size<w2.heap.size:=(Array.getElem?_eq_some_iff.1 (Aa HP2)).1;have hp3:AN w3 w.heap.size (.slice pa pl pc) b key i:=(hb23.block _ hlw2).trans (Aa HP2);have HP3:=Ab hp3;have HB23:=Ab hb23;have HBW3:=Ab hbw3;rcases hrow with⟨hrl,⟨rfl,hn0⟩|⟨g,cap,cur,rfl,hg,hgb,hncap,hcap,hcs,htk⟩⟩
 ·have hks:(Sp.skeys es).length=0:=by omega
  have HFIN:=Ab (show MI w3 (Sp.skeys es).length w3 by rw[hks];exact Aa H0 w3 hbw3);clear hsk hrl hn0 hnil2 hperm hb3 hb23 hbw3 hks hssl hp3 HK HS H0
  go_wp2_with (fail);refine wp_loop_rounds 1 ?_
  rw[rounds_succ]
  go_wp2_with (fail);exact bodyPost_end (results_none rfl _ _ _) rfl ⟨rfl,w3,Aa HBW3,Aa HFIN⟩
 ·have hSR:SR w3 g (Sp.skeys es).length (Sp.skeys es):=⟨cur,hgb,by rw[<- htk,hssl];simp⟩
  have hgl:g<w3.heap.size:=(Array.getElem?_eq_some_iff.1 hgb).1;have hgw:w.heap.size<=g:=by omega
  rw[hssl] at hncap |-;have HSR:=Ab hSR;obtain⟨ks,hks⟩:∃ks,ks=Sp.skeys es:=⟨_,rfl⟩
  have HKS:=Ab hks;have H00:=Ab (Aa H0 w3 hbw3);clear hsk hrl hnil2 hperm hb3 hb23 hbw3 hgb htk hcs hssl hp3 H0 hSR;rw[<- hks] at HS HSR hncap |-;have hnb:(ks.length:Int)<=9223372036854775807:=by unfold maxLen at hcap;omega
  clear hks
  go_wp2_with (fail)
  go_loopw [39] (fun i wr=>∃t:Nat,t<=ks.length/\i = .int .i64 t/\Hid (MI w3 t wr)) (fun i _=>ks.length-(intOf i).toNat)
  case atStart=>exact⟨0,by omega,rfl,H00⟩
  case round =>
   obtain⟨t,ht,rfl,HI⟩:=hrel;by_cases hlt:t<ks.length
   ·obtain⟨hsr,hkp⟩:=Aa HK w3 t wr (Aa HBW3) (Aa HI);have hcur:=Aa HSR;have ck:wr.cell? ⟨g,t,none⟩=some (.string ⟨ks[t].toArray⟩):=(World.cell?_of_block (a:=⟨g,t,none⟩) (hkp g (Or.inr (Or.inr hgw)) hgl)).trans (hcur.cell t hlt);have hpr:AN wr w.heap.size (.slice pa pl pc) b key i:=(hkp w.heap.size (Or.inr (Or.inr (Nat.le_refl _))) (Nat.lt_of_lt_of_le hlw2 (Aa HB23).size)).trans (Aa HP3);have hrr:Rep (f+1) F wr (.pointer (some ⟨pb,0,none⟩)) (.map es):=(Aa HREP).move fun k hk hkl=>⟨(hkp k (Or.inl hk) (Nat.lt_of_lt_of_le hkl (Aa HBW3).size)).trans ((Aa HBW3).block k hkl),hk⟩
    have hpathr:AM wr G (.slice pa pl pc) path:=(Aa HPATH).move fun k hk hkl=>⟨(hkp k (Or.inr (Or.inl hk)) (Nat.lt_of_lt_of_le hkl (Aa HBW3).size)).trans ((Aa HBW3).block k hkl),hk⟩
    obtain⟨pb',rn,rx,rs,rsl,mv,erp,rv,hmem⟩:=ME hrr;injection erp with erp;injection erp with erp;injection erp with erp;subst erp;have hkm:ks[t]∈Sp.skeys es:=by rw[<- Aa HKS];exact List.getElem_mem hlt
    have hkl8:ks[t].length<=1048576:=Aa HKL _ hkm;obtain⟨yv,hyr,hlook⟩:=hmem ks[t] hkl8;rw[Q9 (Aa HO) (Aa HPT) hkm] at hyr;obtain⟨vb,rfl,_⟩:=Rep.ptr hyr;obtain⟨kt,hkt⟩:∃kt,kt=ks[t]:=⟨_,rfl⟩
    have HST:=Ab (fun w1 xv h1 h2 h3=>Aa HS w3 t hlt wr w1 xv vb (Aa HBW3) (Aa HI) h1 h2 h3 hyr);have HTO:=Ab (fun w1 (h:Below wr.heap.size wr w1)=>VX (t:=ks[t]) (hpathr.move fun k hk hkl=>⟨h.block k hkl,hk⟩) (Aa HPLN) (Aa HNIL));have HLK:=Ab (fun w1 (h:Below wr.heap.size wr w1)=>(hlook w1 h).2);rw[<- hkt] at ck HST HTO HLK;have p0:=hpr.c0;have r6:=rv.c6;have hlt2:(t:Int)<(ks.length:Int):=by omega
    have hlt3:(t:Int)<(cap:Int):=by omega
    have hbx:w.heap.size<wr.heap.size:=(Array.getElem?_eq_some_iff.1 hpr).1;have hbp:pb<wr.heap.size:=rv.lt;clear hkm hmem hlook hyr hpathr hrr hkp hcur hsr rv hkt hpr
    go_upto_region 7 with (fail)
    refine wp_region_any (by kernel_rfl) ?_;refine Pu (fun lJ aJ wJ=>lJ.size=15/\(lJ.getD 14 false=false->Below (wr).heap.size wr wJ) /\ ∃x43 x44 x45 x46 x47 x48 x49 x50 x51 x52 x53 x54 x55 x56 x57,aJ={ tmps:=#[.pointer (some ⟨D,0,none⟩),plV (.slice pa pl pc) b key i,.pointer (some ⟨pb,0,none⟩),undef,.pointer (some ⟨w.heap.size,0,none⟩),undef,.pointer (some ⟨y,0,none⟩),undef,.string ⟨kt.toArray⟩,.agg #[.slice pa pl pc,.pointer (some ⟨b,0,none⟩),.string ⟨key.toArray⟩,.int .i64 i],.pointer (some ⟨y,0,none⟩),.pointer (some ⟨y,0,none⟩),.bool false,.bool false,.pointer (some ⟨y,0,none⟩),.pointer (some ⟨y,0,none⟩),.pointer (some ⟨y,0,none⟩),.int .i64 6,.bool false,.bool false,.bool false,.pointer (some ⟨pb,0,none⟩),.pointer (some ⟨pb,0,none⟩),.pointer (some ⟨pb,0,none⟩),.int .i64 6,.bool false,.bool false,undef,undef,undef,undef,undef,.pointer (some ⟨pb,0,none⟩),.pointer (some ⟨pb,0,none⟩),.pointer (some ⟨pb,6,none⟩),.map (some m),.func (.func 188) #[] #[.pointer (some ⟨w2.heap.size,0,none⟩)],.slice (some ⟨g,0,none⟩) ks.length cap,.int .i64 ks.length,.int .i64 t,.bool true,.pointer (some ⟨g,t,none⟩),.string ⟨kt.toArray⟩,x43,x44,x45,x46,x47,x48,x49,x50,x51,x52,x53,x54,x55,x56,x57,u58],defers:=[] }/\(lJ.getD 0 false=true->x43 = .pointer (some ⟨D,0,none⟩))/\(lJ.getD 1 false=true->x44 = .pointer (some ⟨w.heap.size,0,none⟩))/\(lJ.getD 2 false=true->x45 = .slice pa pl pc)/\(lJ.getD 3 false=true->x46 = .string ⟨kt.toArray⟩)/\(lJ.getD 4 false=true->lJ.getD 14 false=false->(fun w x=>(∃xa xl xc,x = .slice xa xl xc)/\AM w (fun k=>wr.heap.size<=k) x (path++[kt])) wJ x47)/\(lJ.getD 5 false=true->x48 = .pointer (some ⟨y,0,none⟩))/\(lJ.getD 6 false=true->x49 = .string ⟨kt.toArray⟩)/\(lJ.getD 7 false=true->x50 = .agg #[x47,.pointer (some ⟨y,0,none⟩),.string ⟨kt.toArray⟩,.int .i64 0])/\(lJ.getD 8 false=true->x51 = .pointer (some ⟨pb,0,none⟩))/\(lJ.getD 9 false=true->x52 = .pointer (some ⟨pb,0,none⟩))/\(lJ.getD 10 false=true->x53 = .pointer (some ⟨pb,6,none⟩))/\(lJ.getD 11 false=true->x54=mv)/\(lJ.getD 12 false=true->x55 = .string ⟨kt.toArray⟩)/\(lJ.getD 13 false=true->x56 = .pointer (some ⟨vb,0,none⟩))/\(lJ.getD 14 false=true->(fun w _=>Hid (MI w3 (t+1) w)) wJ x57)) ?hs ?he _ _ _ ?h0
    case h0 =>
     refine⟨rfl,fun _=>⟨rfl,rfl,rfl,Nat.le_refl _,fun _ _=>rfl⟩,_,_,_,_,_,_,_,_,_,_,_,_,_,_,_,rfl,?_⟩;refine⟨?_,?_,?_,?_,?_,?_,?_,?_,?_,?_,?_,?_,?_,?_,?_⟩<;>(intro h;exact absurd h (by decide))
    case he =>
     intro l a w1 hJ hr;have hall:=GB hJ.1 (by kernel_rfl) hr;obtain⟨hsz,hbel,x43,x44,x45,x46,x47,x48,x49,x50,x51,x52,x53,x54,x55,x56,x57,rfl,e0,e1,e2,e3,e4,e5,e6,e7,e8,e9,e10,e11,e12,e13,e14⟩:=hJ;have f0:=e0 (hall 0 (by decide));have f1:=e1 (hall 1 (by decide));have f2:=e2 (hall 2 (by decide));have f3:=e3 (hall 3 (by decide));have f4:=e4 (hall 4 (by decide));have f5:=e5 (hall 5 (by decide));have f6:=e6 (hall 6 (by decide));have f7:=e7 (hall 7 (by decide));have f8:=e8 (hall 8 (by decide));have f9:=e9 (hall 9 (by decide));have f10:=e10 (hall 10 (by decide));have f11:=e11 (hall 11 (by decide));have f12:=e12 (hall 12 (by decide));have f13:=e13 (hall 13 (by decide));have f14:=e14 (hall 14 (by decide));clear e0 e1 e2 e3 e4 e5 e6 e7 e8 e9 e10 e11 e12 e13 e14 hall hr;clear f0 f1 f2 f3 f4 f5 f6 f7 f8 f9 f10 f11 f12 f13;have HFI:=f14;clear f14
     go_wp2_with (fail);exact⟨⟨t+1,by omega,by go_num,HFI⟩,by simp[intOf];omega⟩
    case hs =>
     intro l a w1 hcl hJ i hi;obtain⟨hno,haft⟩:=C3 hi;have hi12:i<15:=by
      obtain⟨_,o,ho,_⟩:=mem_ready.1 hi;exact (Array.getElem?_eq_some_iff.1 ho).1
     obtain⟨hsz,hbel,x43,x44,x45,x46,x47,x48,x49,x50,x51,x52,x53,x54,x55,x56,x57,rfl,e0,e1,e2,e3,e4,e5,e6,e7,e8,e9,e10,e11,e12,e13,e14⟩:=hJ;clear hi;have hcase:i=0\/i=1\/i=2\/i=3\/i=4\/i=5\/i=6\/i=7\/i=8\/i=9\/i=10\/i=11\/i=12\/i=13\/i=14:=by omega
     rcases hcase with rfl|rfl|rfl|rfl|rfl|rfl|rfl|rfl|rfl|rfl|rfl|rfl|rfl|rfl|rfl
     ·have hni:l.getD 0 false=false:=by simpa[Array.getD,hsz] using hno
      have hnl:l.getD 14 false=false:=by
       cases h:l.getD 14 false
       ·rfl
       ·have h0:=hcl 14 _ rfl h ⟨0,.data⟩ (by simp) rfl;exact absurd h0 (by rw[hni];decide)
      have hb:=hbel hnl;refine wpOp_step rfl fun K hK=>?_
      go_simp;exact hK _ _ ⟨by simp[hsz],fun h=>hbel ((getD_set_ne _ (by decide)).symm.trans h),_,_,_,_,_,_,_,_,_,_,_,_,_,_,_,rfl,fun _=>rfl,Ac (by decide) e1,Ac (by decide) e2,Ac (by decide) e3,fun h h'=>e4 ((getD_set_ne _ (by decide)).symm.trans h) ((getD_set_ne _ (by decide)).symm.trans h'),Ac (by decide) e5,Ac (by decide) e6,Ac (by decide) e7,Ac (by decide) e8,Ac (by decide) e9,Ac (by decide) e10,Ac (by decide) e11,Ac (by decide) e12,Ac (by decide) e13,Ac (by decide) e14⟩
     ·have hni:l.getD 1 false=false:=by simpa[Array.getD,hsz] using hno
      have hnl:l.getD 14 false=false:=by
       cases h:l.getD 14 false
       ·rfl
       ·have h0:=hcl 14 _ rfl h ⟨4,.chain⟩ (by simp) rfl;have h1:=hcl 4 _ rfl h0 ⟨2,.data⟩ (by simp) rfl;have h2:=hcl 2 _ rfl h1 ⟨1,.data⟩ (by simp) rfl;exact absurd h2 (by rw[hni];decide)
      have hb:=hbel hnl;refine wpOp_step rfl fun K hK=>?_
      go_simp;exact hK _ _ ⟨by simp[hsz],fun h=>hbel ((getD_set_ne _ (by decide)).symm.trans h),_,_,_,_,_,_,_,_,_,_,_,_,_,_,_,rfl,Ac (by decide) e0,fun _=>rfl,Ac (by decide) e2,Ac (by decide) e3,fun h h'=>e4 ((getD_set_ne _ (by decide)).symm.trans h) ((getD_set_ne _ (by decide)).symm.trans h'),Ac (by decide) e5,Ac (by decide) e6,Ac (by decide) e7,Ac (by decide) e8,Ac (by decide) e9,Ac (by decide) e10,Ac (by decide) e11,Ac (by decide) e12,Ac (by decide) e13,Ac (by decide) e14⟩
     ·have hni:l.getD 2 false=false:=by simpa[Array.getD,hsz] using hno
      have hnl:l.getD 14 false=false:=by
       cases h:l.getD 14 false
       ·rfl
       ·have h0:=hcl 14 _ rfl h ⟨4,.chain⟩ (by simp) rfl;have h1:=hcl 4 _ rfl h0 ⟨2,.data⟩ (by simp) rfl;exact absurd h1 (by rw[hni];decide)
      obtain rfl:=e1 (haft _ rfl ⟨1,.data⟩ (by simp) rfl);have hb:=hbel hnl;have z:=(hb.cell (p:=⟨w.heap.size,0,none⟩) hbx).trans p0;refine wpOp_step rfl fun K hK=>?_
      go_simp;exact hK _ _ ⟨by simp[hsz],fun h=>hbel ((getD_set_ne _ (by decide)).symm.trans h),_,_,_,_,_,_,_,_,_,_,_,_,_,_,_,rfl,Ac (by decide) e0,Ac (by decide) e1,fun _=>rfl,Ac (by decide) e3,fun h h'=>e4 ((getD_set_ne _ (by decide)).symm.trans h) ((getD_set_ne _ (by decide)).symm.trans h'),Ac (by decide) e5,Ac (by decide) e6,Ac (by decide) e7,Ac (by decide) e8,Ac (by decide) e9,Ac (by decide) e10,Ac (by decide) e11,Ac (by decide) e12,Ac (by decide) e13,Ac (by decide) e14⟩
     ·have hni:l.getD 3 false=false:=by simpa[Array.getD,hsz] using hno
      have hnl:l.getD 14 false=false:=by
       cases h:l.getD 14 false
       ·rfl
       ·have h0:=hcl 14 _ rfl h ⟨4,.chain⟩ (by simp) rfl;have h1:=hcl 4 _ rfl h0 ⟨3,.data⟩ (by simp) rfl;exact absurd h1 (by rw[hni];decide)
      have hb:=hbel hnl;refine wpOp_step rfl fun K hK=>?_
      go_simp;exact hK _ _ ⟨by simp[hsz],fun h=>hbel ((getD_set_ne _ (by decide)).symm.trans h),_,_,_,_,_,_,_,_,_,_,_,_,_,_,_,rfl,Ac (by decide) e0,Ac (by decide) e1,Ac (by decide) e2,fun _=>rfl,fun h h'=>e4 ((getD_set_ne _ (by decide)).symm.trans h) ((getD_set_ne _ (by decide)).symm.trans h'),Ac (by decide) e5,Ac (by decide) e6,Ac (by decide) e7,Ac (by decide) e8,Ac (by decide) e9,Ac (by decide) e10,Ac (by decide) e11,Ac (by decide) e12,Ac (by decide) e13,Ac (by decide) e14⟩
     ·have hni:l.getD 4 false=false:=by simpa[Array.getD,hsz] using hno
      have hnl:l.getD 14 false=false:=by
       cases h:l.getD 14 false
       ·rfl
       ·have h0:=hcl 14 _ rfl h ⟨4,.chain⟩ (by simp) rfl;exact absurd h0 (by rw[hni];decide)
      obtain rfl:=e2 (haft _ rfl ⟨2,.data⟩ (by simp) rfl);obtain rfl:=e3 (haft _ rfl ⟨3,.data⟩ (by simp) rfl);have hb:=hbel hnl;refine wpOp_step rfl fun K hK=>?_
      go_simp;refine (Aa HTO w1 hb).mono ?_
      rintro e wn ⟨g',cap',rfl,hg',htk,hb2⟩;show K _ _;exact hK _ _ ⟨by simp[hsz],fun _=>hb.trans (hb2.mono hb.size),_,_,_,_,_,_,_,_,_,_,_,_,_,_,_,rfl,Ac (by decide) e0,Ac (by decide) e1,Ac (by decide) e2,Ac (by decide) e3,fun _=>fun _=>⟨⟨_,_,_,rfl⟩,htk.move fun k hk _=>⟨rfl,Nat.le_trans hb.size hk⟩⟩,Ac (by decide) e5,Ac (by decide) e6,fun h=>absurd (hcl 7 _ rfl ((getD_set_ne _ (by decide)).symm.trans h) ⟨4,.data⟩ (by simp) rfl) (by rw[hni];decide),Ac (by decide) e8,Ac (by decide) e9,Ac (by decide) e10,Ac (by decide) e11,Ac (by decide) e12,Ac (by decide) e13,fun h=>absurd ((getD_set_ne _ (by decide)).symm.trans h) (by rw[hnl];decide)⟩
     ·have hni:l.getD 5 false=false:=by simpa[Array.getD,hsz] using hno
      have hnl:l.getD 14 false=false:=by
       cases h:l.getD 14 false
       ·rfl
       ·have h0:=hcl 14 _ rfl h ⟨7,.data⟩ (by simp) rfl;have h1:=hcl 7 _ rfl h0 ⟨5,.data⟩ (by simp) rfl;exact absurd h1 (by rw[hni];decide)
      have hb:=hbel hnl;refine wpOp_step rfl fun K hK=>?_
      go_simp;exact hK _ _ ⟨by simp[hsz],fun h=>hbel ((getD_set_ne _ (by decide)).symm.trans h),_,_,_,_,_,_,_,_,_,_,_,_,_,_,_,rfl,Ac (by decide) e0,Ac (by decide) e1,Ac (by decide) e2,Ac (by decide) e3,fun h h'=>e4 ((getD_set_ne _ (by decide)).symm.trans h) ((getD_set_ne _ (by decide)).symm.trans h'),fun _=>rfl,Ac (by decide) e6,Ac (by decide) e7,Ac (by decide) e8,Ac (by decide) e9,Ac (by decide) e10,Ac (by decide) e11,Ac (by decide) e12,Ac (by decide) e13,Ac (by decide) e14⟩
     ·have hni:l.getD 6 false=false:=by simpa[Array.getD,hsz] using hno
      have hnl:l.getD 14 false=false:=by
       cases h:l.getD 14 false
       ·rfl
       ·have h0:=hcl 14 _ rfl h ⟨7,.data⟩ (by simp) rfl;have h1:=hcl 7 _ rfl h0 ⟨6,.data⟩ (by simp) rfl;exact absurd h1 (by rw[hni];decide)
      have hb:=hbel hnl;refine wpOp_step rfl fun K hK=>?_
      go_simp;exact hK _ _ ⟨by simp[hsz],fun h=>hbel ((getD_set_ne _ (by decide)).symm.trans h),_,_,_,_,_,_,_,_,_,_,_,_,_,_,_,rfl,Ac (by decide) e0,Ac (by decide) e1,Ac (by decide) e2,Ac (by decide) e3,fun h h'=>e4 ((getD_set_ne _ (by decide)).symm.trans h) ((getD_set_ne _ (by decide)).symm.trans h'),Ac (by decide) e5,fun _=>rfl,Ac (by decide) e7,Ac (by decide) e8,Ac (by decide) e9,Ac (by decide) e10,Ac (by decide) e11,Ac (by decide) e12,Ac (by decide) e13,Ac (by decide) e14⟩
     ·have hni:l.getD 7 false=false:=by simpa[Array.getD,hsz] using hno
      have hnl:l.getD 14 false=false:=by
       cases h:l.getD 14 false
       ·rfl
       ·have h0:=hcl 14 _ rfl h ⟨7,.data⟩ (by simp) rfl;exact absurd h0 (by rw[hni];decide)
      have q4:=e4 (haft _ rfl ⟨4,.data⟩ (by simp) rfl) hnl;obtain rfl:=e5 (haft _ rfl ⟨5,.data⟩ (by simp) rfl);obtain rfl:=e6 (haft _ rfl ⟨6,.data⟩ (by simp) rfl);have hb:=hbel hnl;obtain⟨⟨xa,xl,xc,rfl⟩,htk⟩:=q4;refine wpOp_step rfl fun K hK=>?_
      go_simp;exact hK _ _ ⟨by simp[hsz],fun h=>hbel ((getD_set_ne _ (by decide)).symm.trans h),_,_,_,_,_,_,_,_,_,_,_,_,_,_,_,rfl,Ac (by decide) e0,Ac (by decide) e1,Ac (by decide) e2,Ac (by decide) e3,fun h h'=>e4 ((getD_set_ne _ (by decide)).symm.trans h) ((getD_set_ne _ (by decide)).symm.trans h'),Ac (by decide) e5,Ac (by decide) e6,fun _=>rfl,Ac (by decide) e8,Ac (by decide) e9,Ac (by decide) e10,Ac (by decide) e11,Ac (by decide) e12,Ac (by decide) e13,Ac (by decide) e14⟩
     ·have hni:l.getD 8 false=false:=by simpa[Array.getD,hsz] using hno
      have hnl:l.getD 14 false=false:=by
       cases h:l.getD 14 false
       ·rfl
       ·have h0:=hcl 14 _ rfl h ⟨13,.data⟩ (by simp) rfl;have h1:=hcl 13 _ rfl h0 ⟨11,.data⟩ (by simp) rfl;have h2:=hcl 11 _ rfl h1 ⟨10,.data⟩ (by simp) rfl;have h3:=hcl 10 _ rfl h2 ⟨9,.data⟩ (by simp) rfl;have h4:=hcl 9 _ rfl h3 ⟨8,.data⟩ (by simp) rfl;exact absurd h4 (by rw[hni];decide)
      have hb:=hbel hnl;refine wpOp_step rfl fun K hK=>?_
      go_simp;exact hK _ _ ⟨by simp[hsz],fun h=>hbel ((getD_set_ne _ (by decide)).symm.trans h),_,_,_,_,_,_,_,_,_,_,_,_,_,_,_,rfl,Ac (by decide) e0,Ac (by decide) e1,Ac (by decide) e2,Ac (by decide) e3,fun h h'=>e4 ((getD_set_ne _ (by decide)).symm.trans h) ((getD_set_ne _ (by decide)).symm.trans h'),Ac (by decide) e5,Ac (by decide) e6,Ac (by decide) e7,fun _=>rfl,Ac (by decide) e9,Ac (by decide) e10,Ac (by decide) e11,Ac (by decide) e12,Ac (by decide) e13,Ac (by decide) e14⟩
     ·have hni:l.getD 9 false=false:=by simpa[Array.getD,hsz] using hno
      have hnl:l.getD 14 false=false:=by
       cases h:l.getD 14 false
       ·rfl
       ·have h0:=hcl 14 _ rfl h ⟨13,.data⟩ (by simp) rfl;have h1:=hcl 13 _ rfl h0 ⟨11,.data⟩ (by simp) rfl;have h2:=hcl 11 _ rfl h1 ⟨10,.data⟩ (by simp) rfl;have h3:=hcl 10 _ rfl h2 ⟨9,.data⟩ (by simp) rfl;exact absurd h3 (by rw[hni];decide)
      obtain rfl:=e8 (haft _ rfl ⟨8,.data⟩ (by simp) rfl);have hb:=hbel hnl;refine wpOp_step rfl fun K hK=>?_
      go_simp;exact hK _ _ ⟨by simp[hsz],fun h=>hbel ((getD_set_ne _ (by decide)).symm.trans h),_,_,_,_,_,_,_,_,_,_,_,_,_,_,_,rfl,Ac (by decide) e0,Ac (by decide) e1,Ac (by decide) e2,Ac (by decide) e3,fun h h'=>e4 ((getD_set_ne _ (by decide)).symm.trans h) ((getD_set_ne _ (by decide)).symm.trans h'),Ac (by decide) e5,Ac (by decide) e6,Ac (by decide) e7,Ac (by decide) e8,fun _=>rfl,Ac (by decide) e10,Ac (by decide) e11,Ac (by decide) e12,Ac (by decide) e13,Ac (by decide) e14⟩
     ·have hni:l.getD 10 false=false:=by simpa[Array.getD,hsz] using hno
      have hnl:l.getD 14 false=false:=by
       cases h:l.getD 14 false
       ·rfl
       ·have h0:=hcl 14 _ rfl h ⟨13,.data⟩ (by simp) rfl;have h1:=hcl 13 _ rfl h0 ⟨11,.data⟩ (by simp) rfl;have h2:=hcl 11 _ rfl h1 ⟨10,.data⟩ (by simp) rfl;exact absurd h2 (by rw[hni];decide)
      obtain rfl:=e9 (haft _ rfl ⟨9,.data⟩ (by simp) rfl);have hb:=hbel hnl;refine wpOp_step rfl fun K hK=>?_
      go_simp;exact hK _ _ ⟨by simp[hsz],fun h=>hbel ((getD_set_ne _ (by decide)).symm.trans h),_,_,_,_,_,_,_,_,_,_,_,_,_,_,_,rfl,Ac (by decide) e0,Ac (by decide) e1,Ac (by decide) e2,Ac (by decide) e3,fun h h'=>e4 ((getD_set_ne _ (by decide)).symm.trans h) ((getD_set_ne _ (by decide)).symm.trans h'),Ac (by decide) e5,Ac (by decide) e6,Ac (by decide) e7,Ac (by decide) e8,Ac (by decide) e9,fun _=>rfl,Ac (by decide) e11,Ac (by decide) e12,Ac (by decide) e13,Ac (by decide) e14⟩
     ·have hni:l.getD 11 false=false:=by simpa[Array.getD,hsz] using hno
      have hnl:l.getD 14 false=false:=by
       cases h:l.getD 14 false
       ·rfl
       ·have h0:=hcl 14 _ rfl h ⟨13,.data⟩ (by simp) rfl;have h1:=hcl 13 _ rfl h0 ⟨11,.data⟩ (by simp) rfl;exact absurd h1 (by rw[hni];decide)
      obtain rfl:=e10 (haft _ rfl ⟨10,.data⟩ (by simp) rfl);have hb:=hbel hnl;have z6:=(hb.cell (p:=⟨pb,6,none⟩) hbp).trans r6;refine wpOp_step rfl fun K hK=>?_
      go_simp;exact hK _ _ ⟨by simp[hsz],fun h=>hbel ((getD_set_ne _ (by decide)).symm.trans h),_,_,_,_,_,_,_,_,_,_,_,_,_,_,_,rfl,Ac (by decide) e0,Ac (by decide) e1,Ac (by decide) e2,Ac (by decide) e3,fun h h'=>e4 ((getD_set_ne _ (by decide)).symm.trans h) ((getD_set_ne _ (by decide)).symm.trans h'),Ac (by decide) e5,Ac (by decide) e6,Ac (by decide) e7,Ac (by decide) e8,Ac (by decide) e9,Ac (by decide) e10,fun _=>rfl,Ac (by decide) e12,Ac (by decide) e13,Ac (by decide) e14⟩
     ·have hni:l.getD 12 false=false:=by simpa[Array.getD,hsz] using hno
      have hnl:l.getD 14 false=false:=by
       cases h:l.getD 14 false
       ·rfl
       ·have h0:=hcl 14 _ rfl h ⟨13,.data⟩ (by simp) rfl;have h1:=hcl 13 _ rfl h0 ⟨12,.data⟩ (by simp) rfl;exact absurd h1 (by rw[hni];decide)
      have hb:=hbel hnl;refine wpOp_step rfl fun K hK=>?_
      go_simp;exact hK _ _ ⟨by simp[hsz],fun h=>hbel ((getD_set_ne _ (by decide)).symm.trans h),_,_,_,_,_,_,_,_,_,_,_,_,_,_,_,rfl,Ac (by decide) e0,Ac (by decide) e1,Ac (by decide) e2,Ac (by decide) e3,fun h h'=>e4 ((getD_set_ne _ (by decide)).symm.trans h) ((getD_set_ne _ (by decide)).symm.trans h'),Ac (by decide) e5,Ac (by decide) e6,Ac (by decide) e7,Ac (by decide) e8,Ac (by decide) e9,Ac (by decide) e10,Ac (by decide) e11,fun _=>rfl,Ac (by decide) e13,Ac (by decide) e14⟩
     ·have hni:l.getD 13 false=false:=by simpa[Array.getD,hsz] using hno
      have hnl:l.getD 14 false=false:=by
       cases h:l.getD 14 false
       ·rfl
       ·have h0:=hcl 14 _ rfl h ⟨13,.data⟩ (by simp) rfl;exact absurd h0 (by rw[hni];decide)
      obtain rfl:=e11 (haft _ rfl ⟨11,.data⟩ (by simp) rfl);obtain rfl:=e12 (haft _ rfl ⟨12,.data⟩ (by simp) rfl);have hb:=hbel hnl;have hl:=Aa HLK w1 hb;refine wpOp_step rfl fun K hK=>?_
      go_simp;exact hK _ _ ⟨by simp[hsz],fun h=>hbel ((getD_set_ne _ (by decide)).symm.trans h),_,_,_,_,_,_,_,_,_,_,_,_,_,_,_,rfl,Ac (by decide) e0,Ac (by decide) e1,Ac (by decide) e2,Ac (by decide) e3,fun h h'=>e4 ((getD_set_ne _ (by decide)).symm.trans h) ((getD_set_ne _ (by decide)).symm.trans h'),Ac (by decide) e5,Ac (by decide) e6,Ac (by decide) e7,Ac (by decide) e8,Ac (by decide) e9,Ac (by decide) e10,Ac (by decide) e11,Ac (by decide) e12,fun _=>rfl,Ac (by decide) e14⟩
     ·have hni:l.getD 14 false=false:=by simpa[Array.getD,hsz] using hno
      have hnl:=hni;obtain rfl:=e0 (haft _ rfl ⟨0,.data⟩ (by simp) rfl);obtain rfl:=e7 (haft _ rfl ⟨7,.data⟩ (by simp) rfl);obtain rfl:=e13 (haft _ rfl ⟨13,.data⟩ (by simp) rfl);have hb:=hbel hnl;have q4:=e4 (haft _ rfl ⟨4,.chain⟩ (by simp) rfl) hnl;refine wpOp_step rfl fun K hK=>?_
      go_simp;refine (Aa HST w1 x47 hb q4.1 q4.2).mono ?_
      rintro e wn ⟨rfl,hM⟩;show K _ _;exact hK _ _ ⟨by simp[hsz],(fun h=>by rw[XH hsz 14 (by decide)] at h;cases h),_,_,_,_,_,_,_,_,_,_,_,_,_,_,_,rfl,(Ac (by decide) e0),(Ac (by decide) e1),(Ac (by decide) e2),(Ac (by decide) e3),(fun _ h'=>by rw[XH hsz 14 (by decide)] at h';cases h'),(Ac (by decide) e5),(Ac (by decide) e6),(Ac (by decide) e7),(Ac (by decide) e8),(Ac (by decide) e9),(Ac (by decide) e10),(Ac (by decide) e11),(Ac (by decide) e12),(Ac (by decide) e13),(fun _=>hM)⟩
   ·obtain rfl:t=ks.length:=by omega
    have hlt2:¬ ((ks.length:Nat):Int)<((ks.length:Nat):Int):=by omega
    have HFIN:=Ab (show MI w3 (Sp.skeys es).length wr by rw[<- Aa HKS];exact Aa HI);clear HK HS
    go_wp2_with (fail);exact bodyPost_end (results_none rfl _ _ _) rfl ⟨rfl,w3,Aa HBW3,Aa HFIN⟩
end
end

section
open Go.RowKit Go.Maps
def At0(m:Sp.A)(i:Nat)(key:Sp.By)(o:Option Sp.A):Prop:=match o with
 | some c=>AV m i key c
 | none=>∃b g es,m=Sp.nd b g (.map es) /\ ∀p∈es,p.1≠Lit.string key
def plT(i:Nat)(key:Sp.By)(c:Sp.A)(o:Option Sp.A)(m:Sp.A):Sp.A:=match o with
 | some _=>Sp.Bx i key c m
 | none=>Sp.BS i key c m
theorem VU{i:Nat}{key:Sp.By}{c:Sp.A}{o:Option Sp.A}{b g:Nat}{es:List (Lit×Sp.A)}:plT i key c o (Sp.nd b g (.map es))=Sp.nd b g (.map (Sp.mput (.string key) c es)):=by
 cases o with
 | none=>show Sp.BS i key c _=_;unfold Sp.BS;rw[Sp.Cy]
 | some _=>show Sp.Bx i key c _=_;unfold Sp.Bx;rw[Sp.Cy]
def QG(L D:Nat)(rv iv:Value)(ch:Bool)(Tb:Sp.A)(Mb:Nat->Prop)(wb:World)(p:List Nat)(T m:Sp.A)(i:Nat)(key:Sp.By)(o:Option Sp.A)(M:Nat->Prop)(js:List Sp.Opn)(f:Nat)(path:List Sp.By)(pt:Sp.V)(w w':World):Prop :=
 ∃c',B1 L D rv iv ch Tb Mb wb (Sp.put p (plT i key c' o m) T) M (js++(Sp.mrg f (o.map (Sp.str f)) path pt).2) w w'/\Sp.str f c'=(Sp.mrg f (o.map (Sp.str f)) path pt).1
def ID(d x:Int)(f:Nat):Prop:=∀ {L:Nat} {p:List Nat} {w:World} {D i:Nat} {rv jn iv:Value} {ch:Bool} {Tb T m:Sp.A} {o:Option Sp.A} {Mb M F:Nat->Prop} {wb:World} {js:List Sp.Opn} {key:Sp.By} {pa:Option Addr} {pl pc:Nat} {path:List Sp.By} {v:Value} {pt:Sp.V} {lv:Int},
 f+1+p.length=L->L<=top+1->Bm L w D rv jn iv ch Tb Mb wb T M js->Sp.sub p T=some m->At0 m i key o->Ca m key->js.length+Sp.sz f pt<=1000000000 ->
 AM w (GA L Tb wb M) (.slice pa pl pc) path->path.length<=p.length->(path=[] -> ∃c,Value.slice pa pl pc = .slice none 0 c) ->
 Rep f F w v pt->(∀k,F k->M k)->1<=lv->Sp.gd d x f lv pt->Sp.sz f pt<=1000000->(∀c,o=some c->Sp.gd d x f lv (Sp.str f c)/\Sp.sz f (Sp.str f c)<=1000000) ->
 Calls Tryz.prog 120 #[.pointer (some ⟨D,0,none⟩),plV (.slice pa pl pc) (Sp.blk m) key i,v] w fun e w'=>e = .returned (.tuple #[])/\QG L D rv iv ch Tb Mb wb p T m i key o M js f path pt w w'
theorem Bm.fresh{L:Nat}{w:World}{D:Nat}{rv jn iv:Value}{ch:Bool}{Tb T:Sp.A}{Mb M:Nat->Prop}{wb:World}{js:List Sp.Opn}(h:Bm L w D rv jn iv ch Tb Mb wb T M js){k:Nat}(hk:w.heap.size<=k):¬ M k/\k ∉ Sp.fp L T/\k≠D/\jn.ownBlock≠some k/\wb.heap.size<=k :=
 ⟨fun hm=>by have:=(h.low k hm).1;omega,fun hm=>by have:=h.tr.lt k hm;omega,fun e=>by have:=h.dlt;omega,fun e=>by have:=h.jlt k e;omega,Nat.le_trans h.up.1 hk⟩
theorem B1.low{L D:Nat}{rv iv:Value}{ch:Bool}{Tb T1:Sp.A}{Mb M:Nat->Prop}{wb w w1 w':World}{js:List Sp.Opn}(h:B1 L D rv iv ch Tb Mb wb T1 M js w1 w')(hX:JEx M M w w1):B1 L D rv iv ch Tb Mb wb T1 M js w w':=by
 obtain⟨jn',T',M',q1,q2,q3⟩:=h;exact⟨jn',T',M',q1,q2,hX.trans q3⟩
section
variable{d x:Int}{f:Nat}
theorem Wj{L:Nat}{p:List Nat}{w:World}{D i:Nat}{rv jn iv:Value}{ch:Bool}{Tb T m:Sp.A}{o:Option Sp.A}{Mb M F:Nat->Prop}{wb:World}{js:List Sp.Opn}{key:Sp.By}{pa:Option Addr}{pl pc:Nat}{path:List Sp.By}{v:Value}{pt:Sp.V}
  (hL:f+1+p.length=L) (hLt:L<=top+1) (hJ:Bm L w D rv jn iv ch Tb Mb wb T M js) (hs:Sp.sub p T=some m) (ha:At0 m i key o) (hr:Ca m key) (hjl:js.length<=1000000000) (hpt:AM w (GA L Tb wb M) (.slice pa pl pc) path)
  (hv:Rep f F w v pt) (hn:Sp.nar f pt) (hlf:∀c,o=some c->Sp.isObj (Sp.str f c)=false\/Sp.isObj pt=false) :
  Calls Tryz.prog 120 #[.pointer (some ⟨D,0,none⟩),plV (.slice pa pl pc) (Sp.blk m) key i,v] w fun e w'=>e = .returned (.tuple #[])/\QG L D rv iv ch Tb Mb wb p T m i key o M js f path pt w w':=by
 obtain⟨pb,pk,pn,ps,psl,pmv,rfl,hpv,_,hp6⟩:=Et hv;obtain⟨fz,rfl⟩:∃fz,f=fz+1:=by
  cases f with
  | zero=>exact hv.elim
  | succ f=>exact⟨f,rfl⟩
 have hft:fz+1<=top:=by omega
 have hu0:=hJ.tr;rw[<- hL] at hu0;obtain⟨u,hu⟩:=Ae.at (f:=fz+1+1) hu0 hs;have hb:Below w.heap.size w (plW w pa pl pc (Sp.blk m) key i):=CT;have hbs:(plW w pa pl pc (Sp.blk m) key i).heap.size=w.heap.size+1:=by simp
 have hM:∀w1,Below w.heap.size w w1->Calls Tryz.prog 161 #[.pointer (some ⟨pb,0,none⟩)] w1 fun e w'=>∃x,e = .returned (.pointer (some x))/\Below w1.heap.size w1 w'/\Tr (fz+1) w1.heap.size w' (.pointer (some x)) (Sp.Be (fz+1) pt):=fun w1 h1=>by
  refine (J1 (fz+1) pt hn F w1 _ (hv.bel h1)).mono ?_;rintro e w' ⟨q,rfl,h2,h3⟩;exact⟨q,rfl,h2,h3⟩
 cases o with
 | some c =>
  have hf:AV m i key c:=ha;obtain⟨a1,a2,a3,a4⟩:=hf.apart (Sp.BB (f:=fz+1+1) hs (by rw[hL];exact hJ.nd));obtain⟨yv,hc⟩:=hu.kidAt a4;obtain⟨yb,k,n,s,sl,mv,rfl,hy,_,hy6⟩:=Et (hc.rep (F:=fun _=>True) fun _ _=>trivial);have hmr:Sp.mrg (fz+1) (some (Sp.str (fz+1) c)) path pt=(Sp.Be (fz+1) pt,[(2,path,Sp.str (fz+1) c)]):=by
   have h:=hlf c rfl
   revert h
   generalize Sp.str (fz+1) c=sc;intro h;cases sc<;>cases pt<;>first|rfl|(rcases h with h|h<;>cases h)
  refine IU (gv:=some ⟨yb,0,none⟩) (Q1:=fun w1 x w2=>Tr (fz+1) w1.heap.size w2 (.pointer (some x)) (Sp.Be (fz+1) pt)) ((DX (hu.bel hb) hf hr.2).mono ?_) hpv (Or.inr ⟨yb,k,n,s,sl,mv,rfl,hy,?_⟩) hM fun x w1 w2 h1 h2 ht=>?_
  ·rintro e w' ⟨⟨y,rfl,hy⟩,hb2⟩;obtain rfl:=hy.uniq hc;exact⟨rfl,hbs▸hb2⟩
  ·rw[hy6,hp6];rcases hlf c rfl with h|h
   ·rw[h];exact Or.inl rfl
   ·rw[h];cases Sp.isObj (Sp.str (fz+1) c) with
    | false=>exact Or.inl rfl
    | true=>exact Or.inr ⟨rfl,rfl⟩
  ·obtain⟨a,t1,t2,t3,t4⟩:=ht;have h12:Below w.heap.size w w2:=h1.trans (h2.mono h1.size);obtain⟨hJ2,hX2⟩:=hJ.bel h12;obtain⟨hJ1,_⟩:=hJ.bel h1;refine (MJ hL hJ2 hs hf hr hjl (hpt.move fun k hk hkl=>⟨h12.block k hkl,hk⟩) hft t1 t3 fun k hk=>hJ1.fresh (t4 k hk)).mono ?_;rintro e w3 ⟨rfl,hend⟩;refine⟨rfl,a,?_,?_⟩
   ·show B1 L D rv iv ch Tb Mb wb (Sp.put p (Sp.Bx i key a m) T) M (js++(Sp.mrg (fz+1) (some (Sp.str (fz+1) c)) path pt).2) w w3;rw[hmr];exact hend.low hX2
   ·show _=(Sp.mrg (fz+1) (some (Sp.str (fz+1) c)) path pt).1;rw[hmr,t2]
 | none =>
  obtain⟨b2,g2,es,rfl,hes⟩:=ha;refine IU (gv:=none) (Q1:=fun w1 x w2=>Tr (fz+1) w1.heap.size w2 (.pointer (some x)) (Sp.Be (fz+1) pt)) ((Jo (hu.bel hb) hes hr.2).mono ?_) hpv (Or.inl rfl) hM fun x w1 w2 h1 h2 ht=>?_
  ·rintro e w' ⟨rfl,hb2⟩;exact⟨rfl,hbs▸hb2⟩
  ·obtain⟨a,t1,t2,t3,t4⟩:=ht;have h12:Below w.heap.size w w2:=h1.trans (h2.mono h1.size);obtain⟨hJ2,hX2⟩:=hJ.bel h12;obtain⟨hJ1,_⟩:=hJ.bel h1;refine (OK hL hJ2 hs hes hr hjl (hpt.move fun k hk hkl=>⟨h12.block k hkl,hk⟩) t1 t3 fun k hk=>hJ1.fresh (t4 k hk)).mono ?_;rintro e w3 ⟨rfl,hend⟩;exact⟨rfl,a,hend.low hX2,t2⟩
end
end

section
open Go.RowKit Go.Maps
namespace Sp
def Au(f:Nat)(l:List (Lit×V)):Nat:=(l.map fun p=>(Ah (strOf p.1)).length+2+sz f p.2).sum
theorem GR(f:Nat):∀l:List (Lit×V),l.length<=Au f l
 | []=>Nat.le_refl _
 | p::l=>by
  have h:=GR f l;unfold Au at h |-;rw[List.map_cons,List.sum_cons,List.length_cons];omega
theorem NI{f:Nat}{l:List (Lit×V)}{t:Nat}{k:By}{q:V}(h:l[t]? = some (.string k,q)):Au f (l.take t)+((Ah k).length+2+sz f q)<=Au f l:=by
 obtain⟨ht,e⟩:=List.getElem?_eq_some_iff.1 h;have h1:l=l.take t++(.string k,q)::l.drop (t+1):=by rw[<- e,List.getElem_cons_drop,List.take_append_drop]
 unfold Au;conv=>rhs;rw[h1]
 rw[List.map_append,List.sum_append,List.map_cons,List.sum_cons];show _+((Ah k).length+2+sz f q)<=_+((Ah k).length+2+sz f q+_)
 omega
theorem Ka{α:Type}(x:Lit×DataW α):∀l:List (Lit×DataW α),(DataW.insert x l).length=l.length+1
 | []=>rfl
 | a::l=>by
  unfold DataW.insert;split
  ·rfl
  ·rw[List.length_cons,Ka x l];rfl
theorem TP{α:Type}(k:Lit)(c:DataW α)(es:List (Lit×DataW α)):(mput k c es).length<=es.length+1:=by
 unfold mput;rw[Ka];have:=List.length_filter_le (fun p:Lit×DataW α=>!p.1.sameKey k) es;omega
theorem Rz(m:Option V->List By->V->V×List Opn)(s:List By)(q:Lit×V)(es:List (Lit×V)):(AW m s q es).1.length<=es.length+1:=by
 unfold AW;split
 ·split
  ·exact Nat.le_succ _
  ·exact Nat.le_succ_of_le (List.length_filter_le _ _)
 ·exact TP _ _ _
theorem M5(m:Option V->List By->V->V×List Opn)(s:List By):∀l es:List (Lit×V),(AU m s l es).1.length<=es.length+l.length
 | [],es=>Nat.le_refl _
 | q::l,es=>by
  have h1:=Rz m s q es;have h2:=M5 m s l (AW m s q es).1;show (AU m s l (AW m s q es).1).1.length<=_;rw[List.length_cons];omega
theorem Ry{m:Option V->List By->V->V×List Opn}{s:List By}{j k:By}{x c:V}{es:List (Lit×V)}(h:(Lit.string k,c)∈(AW m s (.string j,x) es).1)(hne:j≠k):(Lit.string k,c)∈es:=by
 unfold AW at h;split at h
 ·split at h
  ·exact h
  ·exact (List.mem_filter.1 h).1
 ·rcases Ew.1 h with h|h
  ·injection h with h _;injection h with h;exact absurd h.symm hne
  ·exact h.1
theorem M4{m:Option V->List By->V->V×List Opn}{s:List By}{k:By}{c:V}:∀ {l es:List (Lit×V)},(Lit.string k,c)∈(AU m s l es).1->(∀q∈l,∃j,q.1=Lit.string j/\j≠k)->(Lit.string k,c)∈es
 | [],es,h,_=>h
 | (y,x)::l,es,h,hl=>by
  obtain⟨j,e,hj⟩:=hl _ List.mem_cons_self;simp only at e;subst e;exact Ry (M4 (l:=l) h fun q hq=>hl q (List.mem_cons_of_mem _ hq)) hj
theorem OZ{es:List (Lit×V)}{t:Nat}(hk:∀p∈es,∃s,p.1 = .string s)(h:t<(keys es).length):∃q,es[t]? = some (.string (keys es)[t],q):=by
 have hl:t<es.length:=by unfold keys at h;rwa [List.length_map] at h
 obtain⟨s,e⟩:=hk es[t] (List.getElem_mem _);have hg:(keys es)[t]? = some s:=by
  unfold keys;rw[List.getElem?_map,List.getElem?_eq_getElem hl];show some (match es[t].1 with | .string b=>b|_=>[])=some s;rw[e]
 have hs:(keys es)[t]=s:=by
  rw[List.getElem?_eq_getElem h] at hg;injection hg
 refine⟨es[t].2,?_⟩;rw[List.getElem?_eq_getElem hl,hs,<- e]
theorem VE{es:List (Lit×V)}{t:Nat}{k:By}{q:V}(hs:Bk es)(h:es[t]? = some (.string k,q)):∀p∈es.take t,∃j,p.1=Lit.string j/\j≠k:=by
 intro p hp;obtain⟨ht,e⟩:=List.getElem?_eq_some_iff.1 h;obtain⟨i,hi,ei⟩:=List.mem_iff_getElem.1 hp;obtain⟨j,ej⟩:=hs.2 p (List.mem_of_mem_take hp);refine⟨j,ej,fun e2=>?_⟩;have hit:i<t:=by rw[List.length_take] at hi;omega
 have hb:=List.pairwise_iff_getElem.1 hs.1 i t (by omega) ht hit;rw[List.getElem_take] at ei;rw[ei,e,ej,e2] at hb;simp only at hb;rw[DE] at hb;cases hb
theorem Ra{α β:Type}{es:List (Lit×DataW α)}(q:DataW α->DataW β)(h:Bk (es.map fun p=>(p.1,q p.2))):Bk es:=by
 refine⟨(List.pairwise_map.1 h.1),fun p hp=>?_⟩;exact h.2 (p.1,q p.2) (List.mem_map.2 ⟨p,hp,rfl⟩)
theorem WB{f b g:Nat}{n:A}{es:List (Lit×A)}(h:er (f+1) n=er (f+1) (nd b g (.map es))):∃es',n=nd b g (.map es')/\es'.map (fun p=>(p.1,str f p.2))=es.map (fun p=>(p.1,str f p.2)):=by
 rw[er_obj] at h;rcases form n with⟨k,b',l,g',al,y,rfl⟩|⟨k,b',l,g',es',rfl⟩|⟨h1,_,_⟩
 ·exact nomatch h
 ·have h':DataW.agg [.lit (.int k b'),.lit (.int l g'),.map (es'.map fun p=>(p.1,er f p.2))]=DataW.agg [.lit (.int .i64 b),.lit (.int .i64 g),.map (es.map fun p=>(p.1,er f p.2))]:=h;injection h' with h';injection h' with a1 h';injection h' with a2 h';injection h' with a3 _;injection a1 with a1;injection a1 with a1 a1';injection a2 with a2;injection a2 with a2 a2';injection a3 with a3;subst a1 a1' a2 a2';refine⟨es',rfl,?_⟩;have e:=congrArg (List.map fun p:Lit×A=>(p.1,str f p.2)) a3;rw[List.map_map,List.map_map] at e;simpa only[Function.comp_def,EP] using e
 ·rw[h1] at h;subst h;refine⟨_,rfl,?_⟩;rw[List.map_map];simp only[Function.comp_def,EP]
end Sp
end

section
open Go.RowKit Go.Maps
def Me(L D:Nat)(rv iv:Value)(ch:Bool)(Tb:Sp.A)(Mb:Nat->Prop)(wb:World)(T:Sp.A)(M:Nat->Prop)(js:List Sp.Opn)(p:List Nat)(b g f:Nat)(path:List Sp.By)(ev ps:List (Lit×Sp.V))(w w3:World)(t:Nat)(wr:World):Prop :=
 ∃jn Tt Mt ct,Bm L wr D rv jn iv ch Tb Mb wb Tt Mt (js++(Sp.AU (Sp.mrg f) path (ps.take t) ev).2)/\Sp.sub p Tt=some (Sp.nd b g (.map ct))/\ct.map (fun p=>(p.1,Sp.str f p.2))=(Sp.AU (Sp.mrg f) path (ps.take t) ev).1 /\
  Sp.er L Tt=Sp.er L (Sp.put p (Sp.nd b g (.map ct)) T)/\JEx (fun k=>M k\/(w.heap.size<=k/\k<w3.heap.size)) Mt w3 wr
section
variable{d x:Int}{f:Nat}
theorem Wi{L:Nat}{p:List Nat}{D b g t vb:Nat}{rv iv:Value}{ch:Bool}{Tb T m0:Sp.A}{Mb M F:Nat->Prop}{wb w w3 wr w1:World}{js:List Sp.Opn}{path:List Sp.By}{ev ps:List (Lit×Sp.V)}{lv:Int}{k:Sp.By}{q:Sp.V}{xa:Option Addr}{xl xc:Nat}
  (ih:ID d x f) (hL:f+1+p.length=L) (hLt:L<=top+1) (h0:Sp.sub p T=some m0) (hq:ps[t]? = some (.string k,q)) (hlv:1<=lv) (he:Sp.Mok d x f lv ev) (hp:Sp.Mok d x f lv ps)
  (hec:2+Sp.Au f ev<=1000000) (hpc:2+Sp.Au f ps<=1000000) (hjl:js.length+(2+Sp.Au f ps)<=1000000000) (hpl:path.length+1<=p.length) (hF:∀k,F k->M k)
  (hMI:Me L D rv iv ch Tb Mb wb T M js p b g f path ev ps w w3 t wr) (hb1:Below wr.heap.size wr w1) (htk:AM w1 (fun j=>wr.heap.size<=j) (.slice xa xl xc) (path++[k])) (hr:Rep f F wr (.pointer (some ⟨vb,0,none⟩)) q) :
  Calls Tryz.prog 162 #[.pointer (some ⟨D,0,none⟩),plV (.slice xa xl xc) b k 0,.pointer (some ⟨vb,0,none⟩)] w1 fun e w'=>e = .returned (.tuple #[])/\Me L D rv iv ch Tb Mb wb T M js p b g f path ev ps w w3 (t+1) w':=by
 subst hL;obtain⟨jn,Tt,Mt,ct,hJ,hs,hv,her,hX⟩:=hMI;obtain⟨hJ1,hX1⟩:=hJ.grow hb1 (fun j=>wr.heap.size<=j/\j<w1.heap.size) (fun _ h=>h);obtain⟨M1,eM1⟩:∃M1,M1=fun j=>Mt j\/(wr.heap.size<=j/\j<w1.heap.size):=⟨_,rfl⟩
 rw[<- eM1] at hJ1 hX1;have hTok:AM w1 (GA (f+1+p.length) Tb wb M1) (.slice xa xl xc) (path++[k]):=htk.move fun j hj hl=>⟨rfl,by rw[eM1];exact Or.inr ⟨hj,hl⟩,Or.inl (Nat.le_trans hJ.up.1 hj)⟩
 have hFM:∀j,F j->M1 j:=fun j hj=>by rw[eM1];exact Or.inl (hX.kept j (Or.inl (hF j hj))).1
 have hne:=Sp.VE hp.skey hq;have hok:=Sp.Gf (Sp.Gc f) hlv (B:=1000000) path (ps.take t) ev he ⟨hp.1.sublist (List.take_sublist _ _),fun r hr=>hp.2 r (List.mem_of_mem_take hr)⟩ (fun r _ c hc=>by
  have:=Sp.JJ (f:=f) hc;simp only at this;have h2:Sp.sz (f+1) (.map ev)=2+Sp.Au f ev:=Sp.CY f ev;omega)
 have hSk:Sp.Bk ct:=Sp.Ra (Sp.str f) (hv▸hok.1.skey);have hcost:=Sp.NI (f:=f) hq;have hlen:ct.length<=ev.length+t:=by
  have h1:=Sp.M5 (Sp.mrg f) path (ps.take t) ev;rw[<- hv,List.length_map] at h1;have:=List.length_take_le t ps;omega
 have htl:t<ps.length:=(List.getElem?_eq_some_iff.1 hq).1;have hec2:=Sp.GR f ev;have hpc2:=Sp.GR f ps;have hkl:k.length<=1048576:=by have:=Sp.Ij k;omega
 have hrm:Ca (Sp.nd b g (.map ct)) k:=⟨by rw[Sp.BI,List.length_map];omega,hkl⟩
 have hjl1:(js++(Sp.AU (Sp.mrg f) path (ps.take t) ev).2).length+Sp.sz f q<=1000000000:=by
  have h1:=hok.2.2;have h2:((ps.take t).map fun p=>(Sp.Ah (strOf p.1)).length+2+Sp.sz f p.2).sum=Sp.Au f (ps.take t):=rfl;rw[List.length_append];omega
 have hqm:=List.mem_of_getElem? hq;obtain⟨_,hqg⟩:=hp.2 _ hqm;have hqs:Sp.sz f q<=1000000:=by omega
 have hr1:=hr.bel hb1;obtain⟨b',pk,pn,ps',psl,pmv,eb,hpv,hk0,_⟩:=Et hr1;injection eb with eb;injection eb with eb;injection eb with eb;subst eb;have hfin:∀ {ct1:List (Lit×Sp.A)} {j:List Sp.Opn} {w':World},ct1.map (fun p=>(p.1,Sp.str f p.2))=(Sp.AW (Sp.mrg f) path (.string k,q) (Sp.AU (Sp.mrg f) path (ps.take t) ev).1).1->j=(Sp.AW (Sp.mrg f) path (.string k,q) (Sp.AU (Sp.mrg f) path (ps.take t) ev).1).2 ->
   B1 (f+1+p.length) D rv iv ch Tb Mb wb (Sp.put p (Sp.nd b g (.map ct1)) Tt) M1 (js++(Sp.AU (Sp.mrg f) path (ps.take t) ev).2++j) w1 w'->Me (f+1+p.length) D rv iv ch Tb Mb wb T M js p b g f path ev ps w w3 (t+1) w':=by
  rintro ct1 j w' h1 rfl ⟨jn2,T2,M2,e2,hJ2,hX2⟩;obtain⟨⟨n2,hn2,en2⟩,hall⟩:=Sp.WC (f:=f+1) h0 her (fun n1 _=>e2);obtain⟨ct2,rfl,hct⟩:=Sp.WB en2;have htake:ps.take (t+1)=ps.take t++[(.string k,q)]:=by rw[List.take_add_one,hq];rfl
  refine⟨jn2,T2,M2,ct2,?_,hn2,?_,hall _ en2,(hX.trans hX1).trans hX2⟩
  ·rw[htake,Sp.Hr,<- List.append_assoc];exact hJ2
  ·rw[htake,Sp.Hr,hct,h1]
 obtain⟨u,hu⟩:=Ae.at (f:=f+1) hJ1.tr hs;have hbs:(plW w1 xa xl xc b k 0).heap.size=w1.heap.size+1:=by simp
 have hget:∀c,(Lit.string k,c)∈ct->Sp.AG (Sp.AU (Sp.mrg f) path (ps.take t) ev).1 (.string k)=some (Sp.str f c):=fun c hc=>Sp.Ci hok.1.skey (by rw[<- hv];exact List.mem_map.2 ⟨_,hc,rfl⟩);have hgetn:(∀r∈ct,r.1≠Lit.string k)->Sp.AG (Sp.AU (Sp.mrg f) path (ps.take t) ev).1 (.string k)=none:=fun h=>Sp.DO fun r hr=>by
  rw[<- hv] at hr;obtain⟨r',h1,rfl⟩:=List.mem_map.1 hr;exact h r' h1
 cases hn:Sp.isNull q with
 | true =>
  rw[hn] at hk0;rcases Sp.Ey ct k with⟨c,hc⟩|hno
  ·have hst:AV (Sp.nd b g (.map ct)) 0 k c:=Or.inr ⟨b,g,ct,rfl,hc,hSk⟩;obtain⟨_,_,_,a4⟩:=hst.apart (Sp.BB (f:=f+1) hs hJ1.nd);obtain⟨yv,hyc⟩:=hu.kidAt a4;obtain⟨yb,rfl,_⟩:=hyc.ptr;have hms:Sp.AW (Sp.mrg f) path (.string k,q) (Sp.AU (Sp.mrg f) path (ps.take t) ev).1=(Sp.mdel (.string k) (Sp.AU (Sp.mrg f) path (ps.take t) ev).1,[(0,path++[k],Sp.str f c)]):=by
    unfold Sp.AW;simp only;rw[if_pos hn,hget c hc];rfl
   refine LX (y:=⟨yb,0,none⟩) hpv hk0 ((DX (i:=0) (key:=k) (hu.bel CT) hst hkl).mono ?_) (fun w2 hb2=>?_)
   ·rintro e w' ⟨⟨y,rfl,hy⟩,hb2⟩;obtain rfl:=hy.uniq hyc;exact⟨rfl,hbs▸hb2⟩
   ·obtain⟨hJ2,hX2⟩:=hJ1.bel hb2;refine (JM hJ2 hs hst hrm (by omega) (hTok.move fun j hj hl=>⟨hb2.block j hl,hj⟩) (by omega)).mono ?_;rintro e w' ⟨rfl,hend,_⟩;refine⟨rfl,hfin (ct1:=Sp.mdel (.string k) ct) ?_ ?_ (hend.low hX2)⟩
    ·rw[hms,Sp.EK,hv]
    ·rw[hms]
  ·have hms:Sp.AW (Sp.mrg f) path (.string k,q) (Sp.AU (Sp.mrg f) path (ps.take t) ev).1=((Sp.AU (Sp.mrg f) path (ps.take t) ev).1,[]):=by
    unfold Sp.AW;simp only;rw[if_pos hn,hgetn hno]
   refine (N7 (pa:=xa) (pl:=xl) (pc:=xc) hpv hk0 ((Jo (i:=0) (key:=k) (hu.bel CT) hno hkl).mono ?_)).mono ?_
   ·rintro e w' ⟨rfl,hb2⟩;exact⟨rfl,hbs▸hb2⟩
   ·rintro e w' ⟨rfl,hb2⟩;obtain⟨hJ2,hX2⟩:=hJ1.bel hb2;refine⟨rfl,hfin (ct1:=ct) (j:=[]) (by rw[hms,hv]) (by rw[hms]) ⟨jn,Tt,M1,?_,by rw[List.append_nil];exact hJ2,hX2⟩⟩;rw[hJ1.tr.put_self (f:=f+1) hs]
 | false =>
  rw[hn] at hk0;refine M3 hpv hk0 fun w2 hb2=>?_;obtain⟨hJ2,hX2⟩:=hJ1.bel hb2;obtain⟨o,ho0,hog,hoo⟩:∃o:Option Sp.A,At0 (Sp.nd b g (.map ct)) 0 k o/\Sp.AG (Sp.AU (Sp.mrg f) path (ps.take t) ev).1 (.string k)=o.map (Sp.str f) /\ ∀c,o=some c->(Lit.string k,c)∈ct:=by
   rcases Sp.Ey ct k with⟨c,hc⟩|hno
   ·exact⟨some c,Or.inr ⟨b,g,ct,rfl,hc,hSk⟩,hget c hc,fun c' h=>by injection h with h;exact h▸hc⟩
   ·exact⟨none,⟨b,g,ct,rfl,hno⟩,hgetn hno,fun c' h=>by cases h⟩
  have hms:Sp.AW (Sp.mrg f) path (.string k,q) (Sp.AU (Sp.mrg f) path (ps.take t) ev).1=(Sp.mput (.string k) (Sp.mrg f (o.map (Sp.str f)) (path++[k]) q).1 (Sp.AU (Sp.mrg f) path (ps.take t) ev).1,(Sp.mrg f (o.map (Sp.str f)) (path++[k]) q).2):=by
   unfold Sp.AW;simp only;rw[if_neg (by rw[hn];decide),hog];rfl
  refine (ih (i:=0) (lv:=lv+1) rfl hLt hJ2 hs ho0 hrm hjl1 (hTok.move fun j hj hl=>⟨hb2.block j hl,hj⟩) (by rw[List.length_append];exact hpl) (fun h=>by simp at h) (hr1.bel hb2) hFM (by omega) hqg hqs ?_).mono ?_
  ·intro c hc;have h1:(Lit.string k,Sp.str f c)∈(Sp.AU (Sp.mrg f) path (ps.take t) ev).1:=by rw[<- hv];exact List.mem_map.2 ⟨_,hoo c hc,rfl⟩
   refine⟨(hok.1.2 _ h1).2,?_⟩;have h2:=Sp.JJ (f:=f) (Sp.M4 h1 hne);have h3:Sp.sz (f+1) (.map ev)=2+Sp.Au f ev:=Sp.CY f ev;simp only at h2;omega
  ·rintro e w' ⟨rfl,c',hend,hc'⟩;rw[VU] at hend;refine⟨rfl,hfin (ct1:=Sp.mput (.string k) c' ct) ?_ ?_ (hend.low hX2)⟩
   ·rw[hms,Sp.Fq,hv,hc']
   ·rw[hms]
end
end
end Go.Proofs.YtdpomdelmdofmaaGreatDoor
