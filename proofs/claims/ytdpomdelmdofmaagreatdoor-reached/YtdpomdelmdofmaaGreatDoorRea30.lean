import Derived.Test.YtdpomdelmdofmaaGreatDoorRea29
import Derived.Orders
open Go renaming getD_set_ne->AI,wpOp_step->AS,World->A2,Value->A5,DataW->DD,undef->D2,Calls->F1
open Go.Proofs.Tryz renaming prog->AT
open Go.Region renaming ready->A1,binds->CH,Mode->F7
open Go.RowKit renaming Below->A3
open Go.Lit renaming string->A4
open List renaming getElem?_eq_some_iff->A6,map_map->CL,length_cons->Dt,map_cons->E0,sum_cons->Ft
open Go.Instr renaming lookup->Bs
open Nat renaming le_trans->BY,le_refl->CD
open Function renaming comp_def->CR
open Go.Maps renaming atKey_of_not_has->C1,look_nil->D3,size_eq->F2
open Or renaming inr->C2,inl->D1
open Array renaming replicate->D0
open Go.DataW renaming map->FD,insert->F5,agg->G1
open Go.Value renaming slice->G0
set_option maxRecDepth 100000
set_option maxHeartbeats 8000000
namespace Go.Proofs.YtdpomdelmdofmaaGreatDoor
open Go.Proofs.Tryz Go.RowKit Go.Maps
variable{l:Array Bool}{md:F7}{ops:Array Oper}{es:List (Lit×To)}{k:By}{L t:Nat}{rv iv:A5}{ch:Bool}{Tb:dS}{Mb M:Nat->Prop}{wb:A2}{js:List dX}
def Ia(f:Nat)(F:Nat->Prop)(w:A2)(v:A5)(o:Option To):Prop:=match o with
 | none=>v=.pointer none
 | some d=>Rep f F w v d
theorem Ia.ptr{f:Nat}{F:Nat->Prop}{w:A2}{v:A5}{o:Option To}(h:Ia f F w v o):∃p,v=.pointer p:=by
 cases o with
 | none=>exact⟨_,h⟩
 | some d=>obtain⟨b,e,_⟩:=Rep.ptr h;grind
theorem Ia.bel{f:Nat}{F:Nat->Prop}{w w':A2}{v:A5}{o:Option To}(h:Ia f F w v o)(hb:A3 w.heap.size w w'):Ia f F w' v o:=by
 cases o with
 | none=>exact h
 | some d=>exact Rep.bel h hb
theorem TG{d:To}(h:∀es,d ≠ .map es)(k:By):AH d k=none:=by
 unfold AH
 grind
theorem N6{f:Nat}{F:Nat->Prop}{w:A2}{v:A5}{d:To}(h:Rep (f+1) F w v d):∃b n x s sl mv,v=.pointer (some ⟨b,0,none⟩)/\VB w b x n s sl mv /\
  ∀key:By,key.length<=1048576 -> ∃y,Ia f F w y (AH d key) /\ ∀w',A3 w.heap.size w w' ->
   (Bs 109 mv (.string ⟨key.toArray⟩) true).run AT w'=.ok (.tuple #[y,.bool (AH d key).isSome]) w' /\
   (Bs 109 mv (.string ⟨key.toArray⟩) false).run AT w'=.ok y w':=by
 have q4:∀key:By,key.length<=1048576->(∀es,d ≠ .map es) -> ∃y,Ia f F w y (AH d key) /\ ∀w',A3 w.heap.size w w' ->
   (Bs 109 (.map none) (.string ⟨key.toArray⟩) true).run AT w'=.ok (.tuple #[y,.bool (AH d key).isSome]) w' /\
   (Bs 109 (.map none) (.string ⟨key.toArray⟩) false).run AT w'=.ok y w':=by
  intro key hk hd;rw[TG hd];exact⟨_,rfl,fun w' _=>⟨D3 true BE underlying109 (B3 w') (ED key hk),D3 false BE underlying109 (B3 w') (ED key hk)⟩⟩
 obtain⟨b,rfl,hb,h⟩:=h;rcases h with⟨k,_,rfl,h⟩|⟨n,rfl,h,_⟩|⟨s,rfl,h⟩|⟨es,sl,ps,rfl,h,_⟩|⟨es,m,n,D,rfl,h,qb,ho,hp⟩
 ·grind [AH,Ap,AF]
 ·exact⟨b,_,_,_,_,_,rfl,h,fun key hk=>q4 key hk (by simp[Bd])⟩
 ·exact⟨b,_,_,_,_,_,rfl,h,fun key hk=>q4 key hk (by simp[Ao])⟩
 ·exact⟨b,_,_,_,_,_,rfl,h,fun key hk=>q4 key hk (by simp[Af])⟩
 ·refine⟨b,_,_,_,_,_,rfl,h,fun key hk=>?_⟩;have q7:=Bg ho;have q0:=ED key hk;have hh:=hp.has (.string key);cases hc:has (.map D:DD A5) (.string key) with
  | false=>
   have e1:AH (Ap es) key=none:=by
    grind [AH,Ap,AF]
   rw[e1];refine⟨.pointer none,rfl,fun w' q6=>?_⟩;have q5:=An ho (q6.block m q7);obtain⟨v1,q8,r1,q1⟩:=q5.look_ok BE underlying109 (B3 w') (zd:=.held (.pointer none)) (zp:=[]) rfl q0;obtain⟨v2,q9,r2,q2⟩:=q5.lookup BE underlying109 (B3 w') (zd:=.held (.pointer none)) (zp:=[]) rfl q0;obtain⟨rfl,_⟩:=Cg q1 (C1 hc _);obtain⟨rfl,_⟩:=Cg q2 (C1 hc _)
   grind
  | true=>
   obtain⟨x,e4,hx⟩:=hp.at (.string key) hc;have e1:AH (Ap es) key=some ((FD es).atKey (.string key) .nil):=by
    grind [AH,Ap,AF]
   rw[e1];refine⟨x,hx,fun w' q6=>?_⟩;have q5:=An ho (q6.block m q7);obtain⟨v1,q8,r1,q1⟩:=q5.look_ok BE underlying109 (B3 w') (zd:=.held (.pointer none)) (zp:=[]) rfl q0;obtain⟨v2,q9,r2,q2⟩:=q5.lookup BE underlying109 (B3 w') (zd:=.held (.pointer none)) (zp:=[]) rfl q0;obtain⟨rfl,_⟩:=Cg q1 (e4 _);obtain⟨rfl,_⟩:=Cg q2 (e4 _)
   grind
section
variable{f:Nat}{F:Nat->Prop}{w:A2}{v:A5}{o:Option To}
def Rm(r:Option By):A5:=.tuple #[.string ⟨(r.getD []).toArray⟩,.bool r.isSome]
theorem Qj(h:Ia f F w v o):F1 AT 149 #[v] w fun e w'=>e=.returned (Rm (Cd o))/\w'=w:=by
 cases o with
 | none=>
  obtain rfl:v=.pointer none:=h
  go_enter func149,ntmps149
  go_wp2_with (fail)
  go_ret2
  exact⟨rfl,rfl⟩
 | some d=>
  cases f with
  | zero=>exact h.elim
  | succ f=>
   obtain⟨b,rfl,hb,h⟩:=h;obtain⟨x,n,s,sl,mv,hv,hx⟩:∃ (x:Nat) (n:Nm) (s:By) (sl mv:A5),VB w b x n s sl mv/\((x=4/\Cd (some d)=some s)\/(x≠4/\Cd (some d)=none)):=by
    rcases h with⟨k,hk,rfl,h⟩|⟨n,rfl,h,_⟩|⟨s,rfl,h⟩|⟨es,sl,ps,rfl,h,_⟩|⟨es,m,n,D,rfl,h,_⟩
    ·exact⟨k,_,_,_,_,h,C2 ⟨by omega,rfl⟩⟩
    ·exact⟨3,_,_,_,_,h,C2 ⟨by omega,rfl⟩⟩
    ·exact⟨4,_,_,_,_,h,D1 ⟨rfl,rfl⟩⟩
    ·exact⟨5,_,_,_,_,h,C2 ⟨by omega,rfl⟩⟩
    ·exact⟨6,_,_,_,_,h,C2 ⟨by omega,rfl⟩⟩
   have c0:=hv.c0;have c4:=hv.c4;clear h hb hv;rcases hx with⟨rfl,e⟩|⟨hne,e⟩
   ·rw[e];clear e
    go_enter func149,ntmps149
    go_wp2_with (fail)
    go_ret2
    exact⟨rfl,rfl⟩
   ·rw[e];have e1:((x:Int) != 4)=true:=by grind
    have e2:((x:Int)==4)=false:=by grind
    clear e hne c4
    go_enter func149,ntmps149
    go_wp2_with (fail)
    go_ret2
    exact⟨rfl,rfl⟩
end
def Gk(l:Array Bool):Nat:=l.toList.countP (! ·)
theorem MD{i:Nat}(h:l.getD i true=false):Gk (l.setIfInBounds i true)+1=Gk l:=by
 have hi:i<l.size:=by
  grind
 have hv:l.toList[i]'(by omega)=false:=by simp_all
 unfold Gk
 grind
theorem KL(h:Gk l=0)(i:Nat):l.getD i true=true:=by
 by_cases hi:i<l.size
 ·have h1:=List.countP_eq_zero.1 h l[i] (by simp)
  simp_all
 grind
theorem BD{i:Nat}(h:i∈A1 md ops l):l.getD i true=false /\ ∀o,ops[i]? = some o -> ∀e∈o.after,CH md e=true->l.getD e.on false=true:=by
 obtain⟨h1,o,h2,h3⟩:=mem_ready.1 h
 grind
theorem Ik{P:Program}{Q:Exit->Act->A2->Prop}(I:Array Bool->Act->A2->Prop)(hs:∀l a w,I l a w -> ∀i,i∈A1 md ops l->wpOp P ops Q i (I (l.setIfInBounds i true)) a w)(he:∀l a w,I l a w->A1 md ops l=[]->Q .normal a w):∀ (q0:Nat) (l:Array Bool) (a:Act) (w:A2),Gk l<=q0->I l a w->wpAny P md ops Q q0 l a w:=by
 intro q0;induction q0 with
 | zero=>
  intro l a w hl hi;have hr:A1 md ops l=[]:=by
   rw[List.eq_nil_iff_forall_not_mem];intro i hm;have h1:=(BD hm).1;rw[KL (by omega) i] at h1;cases h1
  exact⟨hr,he l a w hi hr⟩
 | succ n ih=>
  intro l a w hl hi;refine⟨fun hr=>he l a w hi hr,fun i hm=>wpOp_mono (fun a' w' h'=>ih _ a' w' ?_ h') (hs l a w hi i hm)⟩;have:=MD (BD hm).1;omega
def Gc(md:F7)(ops:Array Oper)(l:Array Bool):Prop:=∀i o,ops[i]? = some o->l.getD i false=true -> ∀e∈o.after,CH md e=true->l.getD e.on false=true
theorem Gc.next{i:Nat}(h:Gc md ops l)(hi:i∈A1 md ops l):Gc md ops (l.setIfInBounds i true):=by
 intro j o ho hj e he hb;by_cases q0:i=j
 ·subst q0;exact getD_set_true ((BD hi).2 o ho e he hb)
 ·exact getD_set_true (h j o ho ((AI _ q0).symm.trans hj) e he hb)
theorem G4{P:Program}{Q:Exit->Act->A2->Prop}(I:Array Bool->Act->A2->Prop)(hs:∀l a w,Gc md ops l->I l a w -> ∀i,i∈A1 md ops l->wpOp P ops Q i (I (l.setIfInBounds i true)) a w)(he:∀l a w,I l a w->A1 md ops l=[]->Q .normal a w)(n:Nat)(a:Act)(w:A2)(h:I (D0 n false) a w):wpAny P md ops Q n (D0 n false) a w:=by
 refine Ik (fun l a w=>Gc md ops l/\I l a w) (fun l a w hI i hi=>?_) (by grind) n _ a w ?_ ⟨?_,h⟩
 ·exact wpOp_mono (fun a' w' h'=>⟨hI.1.next hi,h'⟩) (hs l a w hI.1 hI.2 i hi)
 ·unfold Gk;refine BY List.countP_le_length ?_;simp
 ·intro i o _ hi
  exfalso
  rw[Array.getD_eq_getD_getElem?,Array.getElem?_replicate] at hi
  grind
theorem Dz(hsz:l.size=ops.size)(hw:(List.range ops.size).all (fun i=>((ops[i]?).map fun o=>o.after.all fun e=>!CH md e || decide (e.on<i)).getD true)=true)(h:A1 md ops l=[]):∀i,i<ops.size->l.getD i false=true:=by
 intro i;induction i using Nat.strongRecOn with
 | ind i ih=>
  intro hi;by_cases hv:l.getD i false=true
  ·exact hv
  ·exfalso
   have q0:i<l.size:=by omega
   have:i∈A1 md ops l:=by
    refine mem_ready.2 ⟨by grind,ops[i],by grind,fun e he hb=>?_⟩;have h1:=List.all_eq_true.1 hw i (by simpa using hi);rw[Array.getElem?_eq_getElem hi] at h1;simp only[Option.map_some,Option.getD_some] at h1;have h2:=Array.all_eq_true_iff_forall_mem.1 h1 e he
    grind
   grind
theorem Ac{i j:Nat}(h:i≠j){p:Prop}(e:l.getD j false=true->p):(l.setIfInBounds i true).getD j false=true->p:=fun h'=>e ((AI _ h).symm.trans h')
theorem R1{n:Nat}(h:l.size=n)(i:Nat)(hi:i<n):(l.setIfInBounds i true).getD i false=true:=by
 simp_all
theorem Wm{f:Nat}{F:Nat->Prop}{w:A2}{b:Nat}(h:Rep (f+1) F w (.pointer (some ⟨b,0,none⟩)) (.map es)):∃n s sl m k D,VB w b 6 n s sl (.map (some m))/\F b/\F m/\w.ownsMap AT 9 RV m k (.map D)/\Pt (Rep f F w) D es:=by
 obtain⟨b',e,hF,h⟩:=h;injection e with e;injection e with e;injection e with e;subst e;rcases h with⟨k,_,e,_⟩|⟨n,e,_⟩|⟨s,e,_⟩|⟨es',sl,ps,e,_⟩|⟨es',m,n,D,e,hv,hm,ho,hp⟩
 ·cases e
 ·cases e
 ·cases e
 ·cases e
 ·injection e with e
  grind
theorem Tj{f m n:Nat}{F:Nat->Prop}{w:A2}{D:List (Lit×DD A5)}(ho:w.ownsMap AT 9 RV m n (.map D))(hp:Pt (Rep f F w) D es)(hk:k∈eP es):AH (.map es) k=some ((FD es).atKey (.string k) .nil):=by
 have h:=(TK ho hp hk).1;rw[hp.has (.string k)] at h;exact if_pos h
section
variable{w:A2}{D b i pb:Nat}{key:By}{pa:Option Addr}{pl pc y:Nat}{yn:Nm}{ys:By}{ysl ymv:A5}
theorem Sx{f:Nat}{F:Nat->Prop}{path:List By}{G:Nat->Prop}{MI:A2->Nat->A2->Prop}(hG:F1 AT 159 #[plV (.slice pa pl pc) b key i] (plW w pa pl pc b key i) fun e w'=>e=.returned (.pointer (some ⟨y,0,none⟩))/\A3 (w.heap.size+1) (plW w pa pl pc b key i) w')(hy:VB w y 6 yn ys ysl ymv)(hF:∀k,F k->k<w.heap.size)(qw:Rep (f+1) F w (.pointer (some ⟨pb,0,none⟩)) (.map es))(zc:es.length<=1000000000)(qn:∀k∈eP es,k.length<=1048576)(qr:Aw w G (.slice pa pl pc) path)(yf:path.length<=100000000)(zf:path=[] -> ∃c,(G0 pa pl pc)=.slice none 0 c)(h0:∀w3,A3 w.heap.size w w3->MI w3 0 w3)(qm:∀w3 t wr,A3 w.heap.size w w3->MI w3 t wr->(w3.heap.size<=wr.heap.size /\ ∀k,(F k\/G k\/w.heap.size<=k)->k<w3.heap.size->wr.heap[k]? = w3.heap[k]?))(qt:∀w3 t (ht:t<(eP es).length) wr w1 xv vb,A3 w.heap.size w w3->MI w3 t wr->A3 wr.heap.size wr w1->(∃xa xl xc,xv=.slice xa xl xc)->Aw w1 (fun k=>wr.heap.size<=k) xv (path++[(eP es)[t]])->Rep f F wr (.pointer (some ⟨vb,0,none⟩)) ((FD es).atKey (.string (eP es)[t]) .nil) ->
   F1 AT 162 #[.pointer (some ⟨D,0,none⟩),.agg #[xv,.pointer (some ⟨y,0,none⟩),.string ⟨((eP es)[t]).toArray⟩,.int .i64 0],.pointer (some ⟨vb,0,none⟩)] w1 fun e w'=>e=.returned (.tuple #[])/\MI w3 (t+1) w'):
  F1 AT 120 #[.pointer (some ⟨D,0,none⟩),plV (.slice pa pl pc) b key i,.pointer (some ⟨pb,0,none⟩)] w fun e w'=>e=.returned (.tuple #[]) /\ ∃w3,A3 w.heap.size w w3/\MI w3 (eP es).length w':=by
 obtain⟨pn,ps,psl,m,n,Dp,yg,ye,hm,ho,hp⟩:=Wm qw;have zo:=Ab qw;have HG:=Ab hG;have zi:=heap_alloc_new w (.cells #[.slice pa pl pc,.pointer (some ⟨b,0,none⟩),.string ⟨key.toArray⟩,.int .i64 i] 185);have y5:=Ab (show AL (plW w pa pl pc b key i) w.heap.size (.slice pa pl pc) b key i from zi);have zg:A3 w.heap.size w (plW w pa pl pc b key i):=CY;have qy:=Ab zg;have yz:(plW w pa pl pc b key i).heap.size=w.heap.size+1:=by simp
 have y6:=Ab yg;have HY:=Ab hy;have j7:=Ab hF;have j5:=Ab ye;have yo:=Ab hp;have HO:=Ab ho;have HM:=Ab hm;have z8:=Ab qr;have zn:=Ab yf;have zm:=Ab zf;have H0:=Ab h0;have HK:=Ab qm;have HS:=Ab qt;have z7:=Ab zc;have yk:=Ab qn;have zy:=Ab hp.len;have z1:=Ab hp.keys;clear hG zi zg hy hF ye hp ho hm qr yf zf h0 qm qt zc yg qw qn
 go_enter func120,ntmps120
 go_wp2_with (fail);refine (Aa HG).mono ?_
 rintro e w2 ⟨rfl,hb⟩;have hb2:A3 w.heap.size w w2:=⟨hb.os.trans (Aa qy).os,hb.tape.trans (Aa qy).tape,hb.output.trans (Aa qy).output,BY (Aa qy).size hb.size,fun k hk=>(hb.block k (by omega)).trans ((Aa qy).block k hk)⟩
 have yd:AL w2 w.heap.size (.slice pa pl pc) b key i:=(hb.block _ (by omega)).trans (Aa y5);have y4:=Ab yd;have zx:=Ab hb2;have zw:=(Aa y6).kept (hb2.block pb (Aa y6).lt);have q0:=zw.c0;have q6:=zw.c6;have y0:=((Aa HY).kept (hb2.block y (Aa HY).lt)).c0;have yl:=Ab (An (Aa HO) (hb2.block m (Bg (Aa HO))));clear hb hb2 yd HG y5 qy yz zw
 go_wp2_with (fail);refine (callsIn_wide.1 (Tryz.maps_Keys_141 (some m) w2)).mono ?_
 rintro e je ⟨rfl,rfl⟩
 go_wp2_with (fail);refine (callsIn_wide.1 (Tryz.slices_Sorted_keys_140_141 m n (.map Dp) RV w2 (Aa yl) (by have:=Aa zy;have:=Aa z7;rw[F2];unfold maxLen;omega) (by have:=Aa zy;have:=Aa z7;rw[F2];omega))).mono ?_
 rintro e w3 ⟨v,ss,rfl,qk,zh,qq,hb3⟩;have hsa:(w2.alloc (.cells #[.map (some m)] 109)).heap.size=w2.heap.size+1:=by simp
 have qh:A3 w2.heap.size w2 w3:=((Below.refl _ w2).alloc (CD _) _).trans (hb3.mono (by simp));have qi:A3 w.heap.size w w3:=(Aa zx).trans (qh.mono (Aa zx).size);have zk:ss.mergeSort (fun x y=>decide (x<=y))=eP es:=by
  rw[mergeSort_of_perm qk,Aa z1];rfl
 have qx:ss.length=(eP es).length:=by rw[<- zk,List.length_mergeSort]
 rw[zk] at zh;have zu:w.heap.size<w2.heap.size:=(Array.getElem?_eq_some_iff.1 (Aa y4)).1;have zv:AL w3 w.heap.size (.slice pa pl pc) b key i:=(qh.block _ zu).trans (Aa y4);have ym:=Ab zv;have yj:=Ab qh;have qg:=Ab qi;rcases zh with⟨yh,⟨rfl,yy⟩|⟨g,cap,cur,rfl,hg,hgb,qp,zq,yu,htk⟩⟩
 ·have qz:(eP es).length=0:=by omega
  have qu:=Ab (show MI w3 (eP es).length w3 by rw[qz];exact Aa H0 w3 qi);clear zk yh yy qq qk hb3 qh qi qz qx zv HK HS H0
  go_wp2_with (fail);refine wp_loop_rounds 1 ?_
  rw[rounds_succ]
  go_wp2_with (fail);exact bodyPost_end (results_none rfl _ _ _) rfl ⟨rfl,w3,Aa qg,Aa qu⟩
 ·have yb:SR w3 g (eP es).length (eP es):=⟨cur,hgb,by grind⟩
  have j9:g<w3.heap.size:=by grind
  have ja:w.heap.size<=g:=by omega
  rw[qx] at qp |-;have y7:=Ab yb;obtain⟨ks,qz⟩:∃ks,ks=eP es:=⟨_,rfl⟩
  have zz:=Ab qz;have j4:=Ab (Aa H0 w3 qi);clear zk yh qq qk hb3 qh qi hgb htk yu qx zv H0 yb;rw[<- qz] at HS y7 qp |-;have jb:(ks.length:Int)<=9223372036854775807:=by unfold maxLen at zq;omega
  clear qz
  go_wp2_with (fail)
  go_loopw [39] (fun i wr=>∃t:Nat,t<=ks.length/\i=.int .i64 t/\Hid (MI w3 t wr)) (fun i _=>ks.length-(intOf i).toNat)
  case atStart=>grind
  case round=>
   obtain⟨t,ht,rfl,HI⟩:=hrel;by_cases hlt:t<ks.length
   ·obtain⟨j3,zj⟩:=Aa HK w3 t wr (Aa qg) (Aa HI);have zb:=Aa y7;have ck:wr.cell? ⟨g,t,none⟩=some (.string ⟨ks[t].toArray⟩):=(World.cell?_of_block (a:=⟨g,t,none⟩) (by grind)).trans (zb.cell t hlt);have hpr:AL wr w.heap.size (.slice pa pl pc) b key i:=(zj w.heap.size (by omega) (by omega)).trans (Aa ym);have yi:Rep (f+1) F wr (.pointer (some ⟨pb,0,none⟩)) (.map es):=(Aa zo).move fun k hk qn=>⟨(zj k (D1 hk) (by omega)).trans ((Aa qg).block k qn),hk⟩
    have qj:Aw wr G (.slice pa pl pc) path:=(Aa z8).move fun k hk qn=>⟨(zj k (C2 (D1 hk)) (by omega)).trans ((Aa qg).block k qn),hk⟩
    obtain⟨jc,rn,rx,rs,jd,mv,qv,rv,ze⟩:=N6 yi;injection qv with qv;injection qv with qv;injection qv with qv;subst qv;have zs:ks[t]∈eP es:=by rw[<- Aa zz];grind
    have zr:ks[t].length<=1048576:=Aa yk _ zs;obtain⟨yv,zl,qo⟩:=ze ks[t] zr;rw[Tj (Aa HO) (Aa yo) zs] at zl;obtain⟨vb,rfl,_⟩:=Rep.ptr zl;obtain⟨kt,yc⟩:∃kt,kt=ks[t]:=⟨_,rfl⟩
    have y8:=Ab (fun w1 xv h1 h2 h3=>Aa HS w3 t hlt wr w1 xv vb (Aa qg) (Aa HI) h1 h2 h3 zl);have y9:=Ab (fun w1 (h:A3 wr.heap.size wr w1)=>Jh (t:=ks[t]) (qj.move fun k hk qn=>⟨h.block k qn,hk⟩) (Aa zn) (Aa zm));have y3:=Ab (fun w1 (h:A3 wr.heap.size wr w1)=>(qo w1 h).2);rw[<- yc] at ck y8 y9 y3;have p0:=hpr.c0;have r6:=rv.c6;have zt:(t:Int)<(ks.length:Int):=by omega
    have yx:(t:Int)<(cap:Int):=by omega
    have zi:w.heap.size<wr.heap.size:=by omega
    have yt:pb<wr.heap.size:=rv.lt;clear zs ze qo zl qj yi zj zb j3 rv yc hpr
    go_upto_region 7 with (fail)
    refine wp_region_any (by kernel_rfl) ?_;refine G4 (fun lJ aJ wJ=>lJ.size=15/\(lJ.getD 14 false=false->A3 (wr).heap.size wr wJ) /\ ∃x43 x44 x45 x46 x47 x48 x49 x50 x51 x52 x53 x54 x55 x56 x57,aJ={ tmps:=#[.pointer (some ⟨D,0,none⟩),plV (.slice pa pl pc) b key i,.pointer (some ⟨pb,0,none⟩),D2,.pointer (some ⟨w.heap.size,0,none⟩),D2,.pointer (some ⟨y,0,none⟩),D2,.string ⟨kt.toArray⟩,.agg #[.slice pa pl pc,.pointer (some ⟨b,0,none⟩),.string ⟨key.toArray⟩,.int .i64 i],.pointer (some ⟨y,0,none⟩),.pointer (some ⟨y,0,none⟩),.bool false,.bool false,.pointer (some ⟨y,0,none⟩),.pointer (some ⟨y,0,none⟩),.pointer (some ⟨y,0,none⟩),.int .i64 6,.bool false,.bool false,.bool false,.pointer (some ⟨pb,0,none⟩),.pointer (some ⟨pb,0,none⟩),.pointer (some ⟨pb,0,none⟩),.int .i64 6,.bool false,.bool false,D2,D2,D2,D2,D2,.pointer (some ⟨pb,0,none⟩),.pointer (some ⟨pb,0,none⟩),.pointer (some ⟨pb,6,none⟩),.map (some m),.func (.func 188) #[] #[.pointer (some ⟨w2.heap.size,0,none⟩)],.slice (some ⟨g,0,none⟩) ks.length cap,.int .i64 ks.length,.int .i64 t,.bool true,.pointer (some ⟨g,t,none⟩),.string ⟨kt.toArray⟩,x43,x44,x45,x46,x47,x48,x49,x50,x51,x52,x53,x54,x55,x56,x57,u58],defers:=[] }/\(lJ.getD 0 false=true->x43=.pointer (some ⟨D,0,none⟩))/\(lJ.getD 1 false=true->x44=.pointer (some ⟨w.heap.size,0,none⟩))/\(lJ.getD 2 false=true->x45=.slice pa pl pc)/\(lJ.getD 3 false=true->x46=.string ⟨kt.toArray⟩)/\(lJ.getD 4 false=true->lJ.getD 14 false=false->(fun w x=>(∃xa xl xc,x=.slice xa xl xc)/\Aw w (fun k=>wr.heap.size<=k) x (path++[kt])) wJ x47)/\(lJ.getD 5 false=true->x48=.pointer (some ⟨y,0,none⟩))/\(lJ.getD 6 false=true->x49=.string ⟨kt.toArray⟩)/\(lJ.getD 7 false=true->x50=.agg #[x47,.pointer (some ⟨y,0,none⟩),.string ⟨kt.toArray⟩,.int .i64 0])/\(lJ.getD 8 false=true->x51=.pointer (some ⟨pb,0,none⟩))/\(lJ.getD 9 false=true->x52=.pointer (some ⟨pb,0,none⟩))/\(lJ.getD 10 false=true->x53=.pointer (some ⟨pb,6,none⟩))/\(lJ.getD 11 false=true->x54=mv)/\(lJ.getD 12 false=true->x55=.string ⟨kt.toArray⟩)/\(lJ.getD 13 false=true->x56=.pointer (some ⟨vb,0,none⟩))/\(lJ.getD 14 false=true->(fun w _=>Hid (MI w3 (t+1) w)) wJ x57)) ?hs ?he _ _ _ ?h0
    case h0=>
     refine⟨rfl,fun _=>⟨rfl,rfl,rfl,CD _,fun _ _=>rfl⟩,_,_,_,_,_,_,_,_,_,_,_,_,_,_,_,rfl,?_⟩
     simp_all
    case he=>
     intro l a w1 hJ hr;have q5:=Dz hJ.1 (by kernel_rfl) hr;obtain⟨hsz,q7,x43,x44,x45,x46,x47,x48,x49,x50,x51,x52,x53,x54,x55,x56,x57,rfl,e0,e1,e2,e3,e4,e5,e6,e7,e8,e9,q8,q9,qb,qd,qe⟩:=hJ;have f0:=e0 (q5 0 (by decide));have f1:=e1 (q5 1 (by decide));have f2:=e2 (q5 2 (by decide));have f3:=e3 (q5 3 (by decide));have f4:=e4 (q5 4 (by decide));have f5:=e5 (q5 5 (by decide));have f6:=e6 (q5 6 (by decide));have f7:=e7 (q5 7 (by decide));have f8:=e8 (q5 8 (by decide));have f9:=e9 (q5 9 (by decide));have f10:=q8 (q5 10 (by decide));have f11:=q9 (q5 11 (by decide));have yq:=qb (q5 12 (by decide));have yr:=qd (q5 13 (by decide));have ya:=qe (q5 14 (by decide));clear e0 e1 e2 e3 e4 e5 e6 e7 e8 e9 q8 q9 qb qd qe q5 hr;clear f0 f1 f2 f3 f4 f5 f6 f7 f8 f9 f10 f11 yq yr;have j6:=ya;clear ya
     go_wp2_with (fail);exact⟨by grind,by simp[intOf];omega⟩
    case hs=>
     intro l a w1 hcl hJ i hi;obtain⟨hno,haft⟩:=BD hi;have yw:i<15:=by
      grind
     obtain⟨hsz,q7,x43,x44,x45,x46,x47,x48,x49,x50,x51,x52,x53,x54,x55,x56,x57,rfl,e0,e1,e2,e3,e4,e5,e6,e7,e8,e9,q8,q9,qb,qd,qe⟩:=hJ;clear hi;have za:i=0\/i=1\/i=2\/i=3\/i=4\/i=5\/i=6\/i=7\/i=8\/i=9\/i=10\/i=11\/i=12\/i=13\/i=14:=by omega
     rcases za with rfl|rfl|rfl|rfl|rfl|rfl|rfl|rfl|rfl|rfl|rfl|rfl|rfl|rfl|rfl
     ·have qf:l.getD 0 false=false:=by grind
      have hnl:l.getD 14 false=false:=by
       cases h:l.getD 14 false
       ·rfl
       ·have h0:=hcl 14 _ rfl h ⟨0,.data⟩ (by simp) rfl
        grind
      have hb:=q7 hnl;refine AS rfl fun K hK=>?_
      go_simp;exact hK _ _ ⟨by simp[hsz],fun h=>by omega,_,_,_,_,_,_,_,_,_,_,_,_,_,_,_,rfl,fun _=>rfl,Ac (by decide) e1,Ac (by decide) e2,Ac (by decide) e3,fun h h'=>e4 ((AI _ (by decide)).symm.trans h) (by omega),Ac (by decide) e5,Ac (by decide) e6,Ac (by decide) e7,Ac (by decide) e8,Ac (by decide) e9,Ac (by decide) q8,Ac (by decide) q9,Ac (by decide) qb,Ac (by decide) qd,Ac (by decide) qe⟩
     ·have qf:l.getD 1 false=false:=by grind
      have hnl:l.getD 14 false=false:=by
       cases h:l.getD 14 false
       ·rfl
       ·have h0:=hcl 14 _ rfl h ⟨4,.chain⟩ (by simp) rfl;have h1:=hcl 4 _ rfl h0 ⟨2,.data⟩ (by simp) rfl;have h2:=hcl 2 _ rfl h1 ⟨1,.data⟩ (by simp) rfl
        grind
      have hb:=q7 hnl;refine AS rfl fun K hK=>?_
      go_simp;exact hK _ _ ⟨by simp[hsz],fun h=>by omega,_,_,_,_,_,_,_,_,_,_,_,_,_,_,_,rfl,Ac (by decide) e0,fun _=>rfl,Ac (by decide) e2,Ac (by decide) e3,fun h h'=>e4 ((AI _ (by decide)).symm.trans h) (by omega),Ac (by decide) e5,Ac (by decide) e6,Ac (by decide) e7,Ac (by decide) e8,Ac (by decide) e9,Ac (by decide) q8,Ac (by decide) q9,Ac (by decide) qb,Ac (by decide) qd,Ac (by decide) qe⟩
     ·have qf:l.getD 2 false=false:=by grind
      have hnl:l.getD 14 false=false:=by
       cases h:l.getD 14 false
       ·rfl
       ·have h0:=hcl 14 _ rfl h ⟨4,.chain⟩ (by simp) rfl;have h1:=hcl 4 _ rfl h0 ⟨2,.data⟩ (by simp) rfl
        grind
      obtain rfl:=e1 (haft _ rfl ⟨1,.data⟩ (by simp) rfl);have hb:=q7 hnl;have z:=(hb.cell (p:=⟨w.heap.size,0,none⟩) zi).trans p0;refine AS rfl fun K hK=>?_
      go_simp;exact hK _ _ ⟨by simp[hsz],fun h=>by omega,_,_,_,_,_,_,_,_,_,_,_,_,_,_,_,rfl,Ac (by decide) e0,Ac (by decide) e1,fun _=>rfl,Ac (by decide) e3,fun h h'=>e4 ((AI _ (by decide)).symm.trans h) (by omega),Ac (by decide) e5,Ac (by decide) e6,Ac (by decide) e7,Ac (by decide) e8,Ac (by decide) e9,Ac (by decide) q8,Ac (by decide) q9,Ac (by decide) qb,Ac (by decide) qd,Ac (by decide) qe⟩
     ·have qf:l.getD 3 false=false:=by grind
      have hnl:l.getD 14 false=false:=by
       cases h:l.getD 14 false
       ·rfl
       ·have h0:=hcl 14 _ rfl h ⟨4,.chain⟩ (by simp) rfl;have h1:=hcl 4 _ rfl h0 ⟨3,.data⟩ (by simp) rfl
        grind
      have hb:=q7 hnl;refine AS rfl fun K hK=>?_
      go_simp;exact hK _ _ ⟨by simp[hsz],fun h=>by omega,_,_,_,_,_,_,_,_,_,_,_,_,_,_,_,rfl,Ac (by decide) e0,Ac (by decide) e1,Ac (by decide) e2,fun _=>rfl,fun h h'=>e4 ((AI _ (by decide)).symm.trans h) (by omega),Ac (by decide) e5,Ac (by decide) e6,Ac (by decide) e7,Ac (by decide) e8,Ac (by decide) e9,Ac (by decide) q8,Ac (by decide) q9,Ac (by decide) qb,Ac (by decide) qd,Ac (by decide) qe⟩
     ·have qf:l.getD 4 false=false:=by grind
      have hnl:l.getD 14 false=false:=by
       cases h:l.getD 14 false
       ·rfl
       ·have h0:=hcl 14 _ rfl h ⟨4,.chain⟩ (by simp) rfl
        grind
      obtain rfl:=e2 (haft _ rfl ⟨2,.data⟩ (by simp) rfl);obtain rfl:=e3 (haft _ rfl ⟨3,.data⟩ (by simp) rfl);have hb:=q7 hnl;refine AS rfl fun K hK=>?_
      go_simp;refine (Aa y9 w1 hb).mono ?_
      rintro e wn ⟨g',yp,rfl,j8,htk,hb2⟩;show K _ _;exact hK _ _ ⟨by simp[hsz],fun _=>hb.trans (hb2.mono hb.size),_,_,_,_,_,_,_,_,_,_,_,_,_,_,_,rfl,Ac (by decide) e0,Ac (by decide) e1,Ac (by decide) e2,Ac (by decide) e3,fun _=>fun _=>⟨⟨_,_,_,rfl⟩,htk.move fun k hk _=>⟨rfl,BY hb.size hk⟩⟩,Ac (by decide) e5,Ac (by decide) e6,fun h=>absurd (hcl 7 _ rfl ((AI _ (by decide)).symm.trans h) ⟨4,.data⟩ (by simp) rfl) (by grind),Ac (by decide) e8,Ac (by decide) e9,Ac (by decide) q8,Ac (by decide) q9,Ac (by decide) qb,Ac (by decide) qd,fun h=>absurd ((AI _ (by decide)).symm.trans h) (by grind)⟩
     ·have qf:l.getD 5 false=false:=by grind
      have hnl:l.getD 14 false=false:=by
       cases h:l.getD 14 false
       ·rfl
       ·have h0:=hcl 14 _ rfl h ⟨7,.data⟩ (by simp) rfl;have h1:=hcl 7 _ rfl h0 ⟨5,.data⟩ (by simp) rfl
        grind
      have hb:=q7 hnl;refine AS rfl fun K hK=>?_
      go_simp;exact hK _ _ ⟨by simp[hsz],fun h=>by omega,_,_,_,_,_,_,_,_,_,_,_,_,_,_,_,rfl,Ac (by decide) e0,Ac (by decide) e1,Ac (by decide) e2,Ac (by decide) e3,fun h h'=>e4 ((AI _ (by decide)).symm.trans h) (by omega),fun _=>rfl,Ac (by decide) e6,Ac (by decide) e7,Ac (by decide) e8,Ac (by decide) e9,Ac (by decide) q8,Ac (by decide) q9,Ac (by decide) qb,Ac (by decide) qd,Ac (by decide) qe⟩
     ·have qf:l.getD 6 false=false:=by grind
      have hnl:l.getD 14 false=false:=by
       cases h:l.getD 14 false
       ·rfl
       ·have h0:=hcl 14 _ rfl h ⟨7,.data⟩ (by simp) rfl;have h1:=hcl 7 _ rfl h0 ⟨6,.data⟩ (by simp) rfl
        grind
      have hb:=q7 hnl;refine AS rfl fun K hK=>?_
      go_simp;exact hK _ _ ⟨by simp[hsz],fun h=>by omega,_,_,_,_,_,_,_,_,_,_,_,_,_,_,_,rfl,Ac (by decide) e0,Ac (by decide) e1,Ac (by decide) e2,Ac (by decide) e3,fun h h'=>e4 ((AI _ (by decide)).symm.trans h) (by omega),Ac (by decide) e5,fun _=>rfl,Ac (by decide) e7,Ac (by decide) e8,Ac (by decide) e9,Ac (by decide) q8,Ac (by decide) q9,Ac (by decide) qb,Ac (by decide) qd,Ac (by decide) qe⟩
     ·have qf:l.getD 7 false=false:=by grind
      have hnl:l.getD 14 false=false:=by
       cases h:l.getD 14 false
       ·rfl
       ·have h0:=hcl 14 _ rfl h ⟨7,.data⟩ (by simp) rfl
        grind
      have q4:=e4 (haft _ rfl ⟨4,.data⟩ (by simp) rfl) hnl;obtain rfl:=e5 (haft _ rfl ⟨5,.data⟩ (by simp) rfl);obtain rfl:=e6 (haft _ rfl ⟨6,.data⟩ (by simp) rfl);have hb:=q7 hnl;obtain⟨⟨xa,xl,xc,rfl⟩,htk⟩:=q4;refine AS rfl fun K hK=>?_
      go_simp;exact hK _ _ ⟨by simp[hsz],fun h=>by omega,_,_,_,_,_,_,_,_,_,_,_,_,_,_,_,rfl,Ac (by decide) e0,Ac (by decide) e1,Ac (by decide) e2,Ac (by decide) e3,fun h h'=>e4 ((AI _ (by decide)).symm.trans h) (by omega),Ac (by decide) e5,Ac (by decide) e6,fun _=>rfl,Ac (by decide) e8,Ac (by decide) e9,Ac (by decide) q8,Ac (by decide) q9,Ac (by decide) qb,Ac (by decide) qd,Ac (by decide) qe⟩
     ·have qf:l.getD 8 false=false:=by grind
      have hnl:l.getD 14 false=false:=by
       cases h:l.getD 14 false
       ·rfl
       ·have h0:=hcl 14 _ rfl h ⟨13,.data⟩ (by simp) rfl;have h1:=hcl 13 _ rfl h0 ⟨11,.data⟩ (by simp) rfl;have h2:=hcl 11 _ rfl h1 ⟨10,.data⟩ (by simp) rfl;have h3:=hcl 10 _ rfl h2 ⟨9,.data⟩ (by simp) rfl;have h4:=hcl 9 _ rfl h3 ⟨8,.data⟩ (by simp) rfl
        grind
      have hb:=q7 hnl;refine AS rfl fun K hK=>?_
      go_simp;exact hK _ _ ⟨by simp[hsz],fun h=>by omega,_,_,_,_,_,_,_,_,_,_,_,_,_,_,_,rfl,Ac (by decide) e0,Ac (by decide) e1,Ac (by decide) e2,Ac (by decide) e3,fun h h'=>e4 ((AI _ (by decide)).symm.trans h) (by omega),Ac (by decide) e5,Ac (by decide) e6,Ac (by decide) e7,fun _=>rfl,Ac (by decide) e9,Ac (by decide) q8,Ac (by decide) q9,Ac (by decide) qb,Ac (by decide) qd,Ac (by decide) qe⟩
     ·have qf:l.getD 9 false=false:=by grind
      have hnl:l.getD 14 false=false:=by
       cases h:l.getD 14 false
       ·rfl
       ·have h0:=hcl 14 _ rfl h ⟨13,.data⟩ (by simp) rfl;have h1:=hcl 13 _ rfl h0 ⟨11,.data⟩ (by simp) rfl;have h2:=hcl 11 _ rfl h1 ⟨10,.data⟩ (by simp) rfl;have h3:=hcl 10 _ rfl h2 ⟨9,.data⟩ (by simp) rfl
        grind
      obtain rfl:=e8 (haft _ rfl ⟨8,.data⟩ (by simp) rfl);have hb:=q7 hnl;refine AS rfl fun K hK=>?_
      go_simp;exact hK _ _ ⟨by simp[hsz],fun h=>by omega,_,_,_,_,_,_,_,_,_,_,_,_,_,_,_,rfl,Ac (by decide) e0,Ac (by decide) e1,Ac (by decide) e2,Ac (by decide) e3,fun h h'=>e4 ((AI _ (by decide)).symm.trans h) (by omega),Ac (by decide) e5,Ac (by decide) e6,Ac (by decide) e7,Ac (by decide) e8,fun _=>rfl,Ac (by decide) q8,Ac (by decide) q9,Ac (by decide) qb,Ac (by decide) qd,Ac (by decide) qe⟩
     ·have qf:l.getD 10 false=false:=by grind
      have hnl:l.getD 14 false=false:=by
       cases h:l.getD 14 false
       ·rfl
       ·have h0:=hcl 14 _ rfl h ⟨13,.data⟩ (by simp) rfl;have h1:=hcl 13 _ rfl h0 ⟨11,.data⟩ (by simp) rfl;have h2:=hcl 11 _ rfl h1 ⟨10,.data⟩ (by simp) rfl
        grind
      obtain rfl:=e9 (haft _ rfl ⟨9,.data⟩ (by simp) rfl);have hb:=q7 hnl;refine AS rfl fun K hK=>?_
      go_simp;exact hK _ _ ⟨by simp[hsz],fun h=>by omega,_,_,_,_,_,_,_,_,_,_,_,_,_,_,_,rfl,Ac (by decide) e0,Ac (by decide) e1,Ac (by decide) e2,Ac (by decide) e3,fun h h'=>e4 ((AI _ (by decide)).symm.trans h) (by omega),Ac (by decide) e5,Ac (by decide) e6,Ac (by decide) e7,Ac (by decide) e8,Ac (by decide) e9,fun _=>rfl,Ac (by decide) q9,Ac (by decide) qb,Ac (by decide) qd,Ac (by decide) qe⟩
     ·have qf:l.getD 11 false=false:=by grind
      have hnl:l.getD 14 false=false:=by
       cases h:l.getD 14 false
       ·rfl
       ·have h0:=hcl 14 _ rfl h ⟨13,.data⟩ (by simp) rfl;have h1:=hcl 13 _ rfl h0 ⟨11,.data⟩ (by simp) rfl
        grind
      obtain rfl:=q8 (haft _ rfl ⟨10,.data⟩ (by simp) rfl);have hb:=q7 hnl;have z6:=(hb.cell (p:=⟨pb,6,none⟩) yt).trans r6;refine AS rfl fun K hK=>?_
      go_simp;exact hK _ _ ⟨by simp[hsz],fun h=>by omega,_,_,_,_,_,_,_,_,_,_,_,_,_,_,_,rfl,Ac (by decide) e0,Ac (by decide) e1,Ac (by decide) e2,Ac (by decide) e3,fun h h'=>e4 ((AI _ (by decide)).symm.trans h) (by omega),Ac (by decide) e5,Ac (by decide) e6,Ac (by decide) e7,Ac (by decide) e8,Ac (by decide) e9,Ac (by decide) q8,fun _=>rfl,Ac (by decide) qb,Ac (by decide) qd,Ac (by decide) qe⟩
     ·have qf:l.getD 12 false=false:=by grind
      have hnl:l.getD 14 false=false:=by
       cases h:l.getD 14 false
       ·rfl
       ·have h0:=hcl 14 _ rfl h ⟨13,.data⟩ (by simp) rfl;have h1:=hcl 13 _ rfl h0 ⟨12,.data⟩ (by simp) rfl
        grind
      have hb:=q7 hnl;refine AS rfl fun K hK=>?_
      go_simp;exact hK _ _ ⟨by simp[hsz],fun h=>by omega,_,_,_,_,_,_,_,_,_,_,_,_,_,_,_,rfl,Ac (by decide) e0,Ac (by decide) e1,Ac (by decide) e2,Ac (by decide) e3,fun h h'=>e4 ((AI _ (by decide)).symm.trans h) (by omega),Ac (by decide) e5,Ac (by decide) e6,Ac (by decide) e7,Ac (by decide) e8,Ac (by decide) e9,Ac (by decide) q8,Ac (by decide) q9,fun _=>rfl,Ac (by decide) qd,Ac (by decide) qe⟩
     ·have qf:l.getD 13 false=false:=by grind
      have hnl:l.getD 14 false=false:=by
       cases h:l.getD 14 false
       ·rfl
       ·have h0:=hcl 14 _ rfl h ⟨13,.data⟩ (by simp) rfl
        grind
      obtain rfl:=q9 (haft _ rfl ⟨11,.data⟩ (by simp) rfl);obtain rfl:=qb (haft _ rfl ⟨12,.data⟩ (by simp) rfl);have hb:=q7 hnl;have hl:=Aa y3 w1 hb;refine AS rfl fun K hK=>?_
      go_simp;exact hK _ _ ⟨by simp[hsz],fun h=>by omega,_,_,_,_,_,_,_,_,_,_,_,_,_,_,_,rfl,Ac (by decide) e0,Ac (by decide) e1,Ac (by decide) e2,Ac (by decide) e3,fun h h'=>e4 ((AI _ (by decide)).symm.trans h) (by omega),Ac (by decide) e5,Ac (by decide) e6,Ac (by decide) e7,Ac (by decide) e8,Ac (by decide) e9,Ac (by decide) q8,Ac (by decide) q9,Ac (by decide) qb,fun _=>rfl,Ac (by decide) qe⟩
     ·have qf:l.getD 14 false=false:=by grind
      have hnl:=qf;obtain rfl:=e0 (haft _ rfl ⟨0,.data⟩ (by simp) rfl);obtain rfl:=e7 (haft _ rfl ⟨7,.data⟩ (by simp) rfl);obtain rfl:=qd (haft _ rfl ⟨13,.data⟩ (by simp) rfl);have hb:=q7 hnl;have q4:=e4 (haft _ rfl ⟨4,.chain⟩ (by simp) rfl) hnl;refine AS rfl fun K hK=>?_
      go_simp;refine (Aa y8 w1 x47 hb q4.1 q4.2).mono ?_
      rintro e wn ⟨rfl,hM⟩;show K _ _;exact hK _ _ ⟨by simp[hsz],(fun h=>by rw[R1 hsz 14 (by decide)] at h;cases h),_,_,_,_,_,_,_,_,_,_,_,_,_,_,_,rfl,(Ac (by decide) e0),(Ac (by decide) e1),(Ac (by decide) e2),(Ac (by decide) e3),(fun _ h'=>by rw[R1 hsz 14 (by decide)] at h';cases h'),(Ac (by decide) e5),(Ac (by decide) e6),(Ac (by decide) e7),(Ac (by decide) e8),(Ac (by decide) e9),(Ac (by decide) q8),(Ac (by decide) q9),(Ac (by decide) qb),(Ac (by decide) qd),(fun _=>hM)⟩
   ·obtain rfl:t=ks.length:=by omega
    have zt:¬ ((ks.length:Nat):Int)<((ks.length:Nat):Int):=by omega
    have qu:=Ab (show MI w3 (eP es).length wr by rw[<- Aa zz];exact Aa HI);clear HK HS
    go_wp2_with (fail);exact bodyPost_end (results_none rfl _ _ _) rfl ⟨rfl,w3,Aa qg,Aa qu⟩
end
def At0(m:dS)(i:Nat)(key:By)(o:Option dS):Prop:=match o with
 | some c=>AV m i key c
 | none=>∃b g es,m=dW b g (.map es) /\ ∀p∈es,p.1≠A4 key
def plT(i:Nat)(key:By)(c:dS)(o:Option dS)(m:dS):dS:=match o with
 | some _=>BM i key c m
 | none=>B0 i key c m
theorem YA{i:Nat}{key:By}{c:dS}{o:Option dS}{b g:Nat}{es:List (Lit×dS)}:plT i key c o (dW b g (.map es))=dW b g (.map (eE (.string key) c es)):=by
 cases o with
 | none=>rfl
 | some _=>rfl
def SK(L D:Nat)(rv iv:A5)(ch:Bool)(Tb:dS)(Mb:Nat->Prop)(wb:A2)(p:List Nat)(T m:dS)(i:Nat)(key:By)(o:Option dS)(M:Nat->Prop)(js:List dX)(f:Nat)(path:List By)(pt:To)(w w':A2):Prop:=
 ∃c',BU L D rv iv ch Tb Mb wb (eI p (plT i key c' o m) T) M (js++(eC f (o.map (dV f)) path pt).2) w w'/\dV f c'=(eC f (o.map (dV f)) path pt).1
def Jt(d x:Int)(f:Nat):Prop:=∀ {L:Nat} {p:List Nat} {w:A2} {D i:Nat} {rv jn iv:A5} {ch:Bool} {Tb T m:dS} {o:Option dS} {Mb M F:Nat->Prop} {wb:A2} {js:List dX} {key:By} {pa:Option Addr} {pl pc:Nat} {path:List By} {v:A5} {pt:To} {lv:Int},
 f+1+p.length=L->L<=top+1->Bv L w D rv jn iv ch Tb Mb wb T M js->eD p T=some m->At0 m i key o->B7 m key->js.length+dT f pt<=1000000000 ->
 Aw w (GA L Tb wb M) (.slice pa pl pc) path->path.length<=p.length->(path=[] -> ∃c,G0 pa pl pc=.slice none 0 c) ->
 Rep f F w v pt->(∀k,F k->M k)->1<=lv->dY d x f lv pt->dT f pt<=1000000->(∀c,o=some c->dY d x f lv (dV f c)/\dT f (dV f c)<=1000000) ->
 F1 AT 120 #[.pointer (some ⟨D,0,none⟩),plV (.slice pa pl pc) (eK m) key i,v] w fun e w'=>e=.returned (.tuple #[])/\SK L D rv iv ch Tb Mb wb p T m i key o M js f path pt w w'
theorem Bv.fresh{w:A2}{D:Nat}{jn:A5}{T:dS}(h:Bv L w D rv jn iv ch Tb Mb wb T M js){k:Nat}(hk:w.heap.size<=k):¬ M k/\k ∉ fp L T/\k≠D/\jn.ownBlock≠some k/\wb.heap.size<=k:=
 ⟨fun hm=>by have:=(h.low k hm).1;omega,fun hm=>by have:=h.tr.lt k hm;omega,fun e=>by have:=h.dlt;omega,fun e=>by have:=h.jlt k e;omega,BY h.up.1 hk⟩
theorem BU.low{D:Nat}{T1:dS}{w w1 w':A2}(h:BU L D rv iv ch Tb Mb wb T1 M js w1 w')(hX:JEx M M w w1):BU L D rv iv ch Tb Mb wb T1 M js w w':=by
 obtain⟨q0,T',M',q1,q2,q3⟩:=h;exact⟨q0,T',M',q1,q2,hX.trans q3⟩
section
variable{d x:Int}{f:Nat}
theorem YN{p:List Nat}{w:A2}{D i:Nat}{jn:A5}{T m:dS}{o:Option dS}{F:Nat->Prop}{key:By}{pa:Option Addr}{pl pc:Nat}{path:List By}{v:A5}{pt:To}(hL:f+1+p.length=L)(qn:L<=top+1)(hJ:Bv L w D rv jn iv ch Tb Mb wb T M js)(hs:eD p T=some m)(ha:At0 m i key o)(hr:B7 m key)(qd:js.length<=1000000000)(qg:Aw w (GA L Tb wb M) (.slice pa pl pc) path)(hv:Rep f F w v pt)(hn:iN f pt)(qe:∀c,o=some c->fI (dV f c)=false\/fI pt=false):
  F1 AT 120 #[.pointer (some ⟨D,0,none⟩),plV (.slice pa pl pc) (eK m) key i,v] w fun e w'=>e=.returned (.tuple #[])/\SK L D rv iv ch Tb Mb wb p T m i key o M js f path pt w w':=by
 obtain⟨pb,pk,pn,ps,psl,pmv,rfl,qh,_,qk⟩:=Dk hv;obtain⟨fz,rfl⟩:∃fz,f=fz+1:=by
  cases f with
  | zero=>exact hv.elim
  | succ f=>exact⟨f,rfl⟩
 have qj:fz+1<=top:=by omega
 have qi:=hJ.tr;rw[<- hL] at qi;obtain⟨u,hu⟩:=Ad.at (f:=fz+1+1) qi hs;have hb:A3 w.heap.size w (plW w pa pl pc (eK m) key i):=CY;have q9:(plW w pa pl pc (eK m) key i).heap.size=w.heap.size+1:=by simp
 have hM:∀w1,A3 w.heap.size w w1->F1 AT 161 #[.pointer (some ⟨pb,0,none⟩)] w1 fun e w'=>∃x,e=.returned (.pointer (some x))/\A3 w1.heap.size w1 w'/\Tr (fz+1) w1.heap.size w' (.pointer (some x)) (Bx (fz+1) pt):=fun w1 h1=>by
  refine (KJ (fz+1) pt hn F w1 _ (hv.bel h1)).mono ?_;rintro e w' ⟨q,rfl,h2,h3⟩;exact⟨q,rfl,h2,h3⟩
 cases o with
 | some c=>
  have hf:AV m i key c:=ha;obtain⟨a1,a2,a3,a4⟩:=hf.apart (BI (f:=fz+1+1) hs (by rw[hL];exact hJ.nd));obtain⟨yv,hc⟩:=hu.kidAt a4;obtain⟨yb,k,n,s,sl,mv,rfl,hy,_,qm⟩:=Dk (hc.rep (F:=fun _=>True) fun _ _=>trivial);have qf:eC (fz+1) (some (dV (fz+1) c)) path pt=(Bx (fz+1) pt,[(2,path,dV (fz+1) c)]):=by
   have h:=qe c rfl
   revert h
   generalize dV (fz+1) c=sc;intro h;cases sc<;>cases pt<;>first|rfl|(rcases h with h|h<;>cases h)
  refine JF (gv:=some ⟨yb,0,none⟩) (Q1:=fun w1 x w2=>Tr (fz+1) w1.heap.size w2 (.pointer (some x)) (Bx (fz+1) pt)) ((Ea (hu.bel hb) hf hr.2).mono ?_) qh (C2 ⟨yb,k,n,s,sl,mv,rfl,hy,?_⟩) hM fun x w1 w2 h1 h2 ht=>?_
  ·rintro e w' ⟨⟨y,rfl,hy⟩,hb2⟩;obtain rfl:=hy.uniq hc;exact⟨rfl,q9▸hb2⟩
  ·rw[qm,qk];rcases qe c rfl with h|h
   ·rw[h];exact D1 rfl
   ·rw[h];cases fI (dV (fz+1) c) with
    | false=>exact D1 rfl
    | true=>exact C2 ⟨rfl,rfl⟩
  ·obtain⟨a,t1,t2,t3,t4⟩:=ht;have q4:A3 w.heap.size w w2:=h1.trans (h2.mono h1.size);obtain⟨q6,q7⟩:=hJ.bel q4;obtain⟨q5,_⟩:=hJ.bel h1;refine (Od hL q6 hs hf hr qd (qg.move fun k hk q8=>⟨q4.block k q8,hk⟩) qj t1 t3 fun k hk=>q5.fresh (t4 k hk)).mono ?_;rintro e w3 ⟨rfl,q0⟩;refine⟨rfl,a,?_,?_⟩
   ·show BU L D rv iv ch Tb Mb wb (eI p (BM i key a m) T) M (js++(eC (fz+1) (some (dV (fz+1) c)) path pt).2) w w3;rw[qf];exact q0.low q7
   ·show _=(eC (fz+1) (some (dV (fz+1) c)) path pt).1;rw[qf,t2]
 | none=>
  obtain⟨b2,g2,es,rfl,qb⟩:=ha;refine JF (gv:=none) (Q1:=fun w1 x w2=>Tr (fz+1) w1.heap.size w2 (.pointer (some x)) (Bx (fz+1) pt)) ((JY (hu.bel hb) qb hr.2).mono ?_) qh (D1 rfl) hM fun x w1 w2 h1 h2 ht=>?_
  ·rintro e w' ⟨rfl,hb2⟩;exact⟨rfl,q9▸hb2⟩
  ·obtain⟨a,t1,t2,t3,t4⟩:=ht;have q4:A3 w.heap.size w w2:=h1.trans (h2.mono h1.size);obtain⟨q6,q7⟩:=hJ.bel q4;obtain⟨q5,_⟩:=hJ.bel h1;refine (Qo hL q6 hs qb hr qd (qg.move fun k hk q8=>⟨q4.block k q8,hk⟩) t1 t3 fun k hk=>q5.fresh (t4 k hk)).mono ?_;rintro e w3 ⟨rfl,q0⟩;exact⟨rfl,a,q0.low q7,t2⟩
end
def Ak(f:Nat)(l:List (Lit×To)):Nat:=(l.map fun p=>(Ag (strOf p.1)).length+2+dT f p.2).sum
theorem Ds(f:Nat):∀l:List (Lit×To),l.length<=Ak f l
 | []=>CD _
 | p::l=>by
  have h:=Ds f l;unfold Ak at h |-;rw[E0,Ft,Dt];omega
theorem Pe{f:Nat}{l:List (Lit×To)}{q:To}(h:l[t]? = some (.string k,q)):Ak f (l.take t)+((Ag k).length+2+dT f q)<=Ak f l:=by
 obtain⟨ht,e⟩:=A6.1 h;have h1:l=l.take t++(.string k,q)::l.drop (t+1):=by rw[<- e,List.getElem_cons_drop,List.take_append_drop]
 unfold Ak;conv=>rhs;rw[h1]
 rw[List.map_append,List.sum_append,E0,Ft];show _+((Ag k).length+2+dT f q)<=_+((Ag k).length+2+dT f q+_)
 omega
theorem KU{α:Type}(x:Lit×DD α):∀l:List (Lit×DD α),(F5 x l).length=l.length+1
 | []=>rfl
 | a::l=>by
  unfold F5;split
  ·rfl
  ·rw[Dt,KU x l];rfl
theorem Oq{α:Type}(k:Lit)(c:DD α)(es:List (Lit×DD α)):(eE k c es).length<=es.length+1:=by
 grind [KU,eE]
theorem TQ(m:Option To->List By->To->To×List dX)(s:List By)(q:Lit×To)(es:List (Lit×To)):(A0 m s q es).1.length<=es.length+1:=by
 unfold A0;split
 ·split
  ·grind
  ·exact Nat.le_succ_of_le (List.length_filter_le _ _)
 ·exact Oq _ _ _
theorem Oy(m:Option To->List By->To->To×List dX)(s:List By):∀l es:List (Lit×To),(AW m s l es).1.length<=es.length+l.length
 | [],es=>CD _
 | q::l,es=>by
  have h1:=TQ m s q es;have h2:=Oy m s l (A0 m s q es).1;show (AW m s l (A0 m s q es).1).1.length<=_
  grind
theorem TP{m:Option To->List By->To->To×List dX}{s:List By}{j:By}{x c:To}(h:(A4 k,c)∈(A0 m s (.string j,x) es).1)(hne:j≠k):(A4 k,c)∈es:=by
 unfold A0 at h;split at h
 ·split at h
  ·exact h
  ·exact (List.mem_filter.1 h).1
 ·rcases CE.1 h with h|h
  ·grind
  grind
theorem Ox{m:Option To->List By->To->To×List dX}{s:List By}{k:By}{c:To}:∀ {l es:List (Lit×To)},(A4 k,c)∈(AW m s l es).1->(∀q∈l,∃j,q.1=A4 j/\j≠k)->(A4 k,c)∈es
 | [],es,h,_=>h
 | (y,x)::l,es,h,hl=>by
  obtain⟨j,e,hj⟩:=hl _ List.mem_cons_self;simp only at e;subst e;exact TP (Ox (l:=l) h fun q hq=>hl q (List.mem_cons_of_mem _ hq)) hj
theorem QI(hk:∀p∈es,∃s,p.1=.string s)(h:t<(fB es).length):∃q,es[t]? = some (.string (fB es)[t],q):=by
 have hl:t<es.length:=by grind [fB]
 obtain⟨s,e⟩:=hk es[t] (List.getElem_mem _)
 grind [fB]
theorem Yb{q:To}(hs:Az es)(h:es[t]? = some (.string k,q)):∀p∈es.take t,∃j,p.1=A4 j/\j≠k:=by
 intro p hp;obtain⟨ht,e⟩:=A6.1 h;obtain⟨i,hi,ei⟩:=List.mem_iff_getElem.1 hp;obtain⟨j,ej⟩:=hs.2 p (List.mem_of_mem_take hp);refine⟨j,ej,fun e2=>?_⟩;have hit:i<t:=by grind
 have hb:=List.pairwise_iff_getElem.1 hs.1 i t (by omega) ht hit;rw[List.getElem_take] at ei;rw[ei,e,ej,e2] at hb;simp only at hb;rw[C6] at hb;cases hb
theorem Tl{α β:Type}{es:List (Lit×DD α)}(q:DD α->DD β)(h:Az (es.map fun p=>(p.1,q p.2))):Az es:=by
 refine⟨(List.pairwise_map.1 h.1),fun p hp=>?_⟩;exact h.2 (p.1,q p.2) (by grind)
theorem Y7{f b g:Nat}{n:dS}{es:List (Lit×dS)}(h:er (f+1) n=er (f+1) (dW b g (.map es))):∃es',n=dW b g (.map es')/\es'.map (fun p=>(p.1,dV f p.2))=es.map (fun p=>(p.1,dV f p.2)):=by
 rw[jQ] at h;rcases jR n with⟨k,b',l,g',al,y,rfl⟩|⟨k,b',l,g',es',rfl⟩|⟨h1,_,_⟩
 ·exact nomatch h
 ·have h':G1 [.lit (.int k b'),.lit (.int l g'),.map (es'.map fun p=>(p.1,er f p.2))]=G1 [.lit (.int .i64 b),.lit (.int .i64 g),.map (es.map fun p=>(p.1,er f p.2))]:=h;injection h' with h';injection h' with a1 h';injection h' with a2 h';injection h' with a3 _;injection a1 with a1;injection a1 with a1 a1';injection a2 with a2;injection a2 with a2 a2';injection a3 with a3;subst a1 a1' a2 a2';refine⟨es',rfl,?_⟩;have e:=congrArg (List.map fun p:Lit×dS=>(p.1,dV f p.2)) a3;rw[CL,CL] at e;simpa only[CR,E4] using e
 ·rw[h1] at h;subst h;refine⟨_,rfl,?_⟩;rw[CL];simp only[CR,E4]
end Go.Proofs.YtdpomdelmdofmaaGreatDoor
