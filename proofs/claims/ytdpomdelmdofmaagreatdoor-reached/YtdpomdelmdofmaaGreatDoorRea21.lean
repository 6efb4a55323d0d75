import Derived.Test.YtdpomdelmdofmaaGreatDoorRea20
open Go.Proofs.Tryz renaming prog->AI
open Go renaming Value->AS,World->AT,Calls->A6,bodyPost_end->CR,results_none->C1
open Or renaming inl->A1,inr->Bs
open Go.World renaming cell?->A2
open List renaming flatMap_cons->A3,length_map->A4,nodup_cons->A5,nodup_append->BY,getElem?_eq_getElem->CD,length_filter_le->C2,mem_cons_of_mem->Dp,mem_cons->Dt,length->D0
open Go.Value renaming pointer->CH
open Go.RowKit.Below renaming heap_alloc->CL
open Option.some renaming inj->DD
set_option maxRecDepth 100000
set_option maxHeartbeats 4000000
namespace Go.Proofs.YtdpomdelmdofmaaGreatDoor
open Go.Proofs.Tryz Go.RowKit Go.Maps
variable{al:List dS}{w':AT}{Z:Nat->Prop}{D:Nat}{rv jn iv:AS}{ch:Bool}
theorem Fb{α β:Type}(q:α->List β){l m:List α}(h:l.Perm m):(l.flatMap q).Perm (m.flatMap q):=h.flatMap_right q
theorem KF{b:Nat}{G Y:List Nat}(h1:Y.Nodup)(h2:b ∉ Y)(h3:b ∉ G)(h4:G.Nodup)(h5:∀k∈G,k ∉ Y):(b::(G++Y)).Nodup:=
 by grind
theorem Mr(g:Nat):(if g=0 then ([]:List Nat) else [g]).Nodup:=by grind
theorem Fg{f b g:Nat}(hn:(fp (f+1) (dW b g (.slice al []))).Nodup):(al.flatMap (fp f)).Nodup/\b ∉ al.flatMap (fp f)/\b≠(if g=0 then b+1 else g) /\ ∀k∈(if g=0 then ([]:List Nat) else [g]),k ∉ al.flatMap (fp f):=by
 rw[AP] at hn
 grind
theorem Al.bel{f:Nat}{w:AT}{ps:List AS}(h:Al (Ad f w) ps al)(hk:∀k∈al.flatMap (fp f),w'.heap[k]? = w.heap[k]?):Al (Ad f w') ps al:=
 Al.mem (fun _ c hc hu=>hu.move (by grind)) h
section
variable{f:Nat}{w:AT}{u:AS}{n c:dS}{pth:AS}{b i:Nat}{key:By}{x:Option Addr}
theorem dA{g:Nat}(h:Ad (f+1) w u (dW b g (.slice al [])))(hn:(fp (f+1) (dW b g (.slice al []))).Nodup)(hi:i<al.length)(hc:Ad f w (.pointer x) c)(qi:(fp f c).Nodup)(qd:∀k∈fp f c,k ∉ fp (f+1) (dW b g (.slice al []))):
  A6 AI 250 #[plV pth b key i,.pointer x] w fun e w'=>e=.returned (.tuple #[])/\DM f w w' u (dW b g (.slice al [])) (dW b g (.slice (al.set i c) [])) (fun k=>k∈fp f c):=by
 have h0:=h;obtain⟨p1,p2,p3,p4⟩:=Fg hn;obtain⟨b2,g2,x2,e,hu,h⟩:=h;unfold dW at e;injection e with e;injection e with e1 e;injection e with e2 e;injection e with e3 _;injection e1 with e1;injection e1 with _ e1;injection e2 with e2;injection e2 with _ e2;obtain rfl:b=b2:=by omega
 obtain rfl:g=g2:=by omega
 rcases h with⟨j,_,_,rfl,_⟩|⟨n,_,rfl,_⟩|⟨s,_,rfl,_⟩|⟨qh,sl,ps,rfl,hvb,ho,hs,ha⟩|⟨es,n,D,rfl,_⟩
 ·cases e3
 ·cases e3
 ·cases e3
 ·injection e3 with e3 _;subst e3;have hl:=ha.length;refine (Yk (pth:=pth) (key:=key) (pu:=x) hvb ho (by omega)).mono ?_;rintro e w' ⟨rfl,g3,qe,qm,hk⟩;obtain⟨rfl,q7⟩:=GL hs qe;have qb:b≠g3:=by grind
  have hold:∀k,k<w.heap.size->k≠g3->w'.heap[k]? = w.heap[k]?:=fun k q5 hk2=>hk.block k q5 (by grind);have qj:g3 ∉ fp f c:=fun hm=>qd g3 hm (by rw[AP];simp[q7]);have q8:Al (Ad f w') ps al:=ha.bel fun k q4=>hold k (ha.lts k q4) (by grind);have q9:Ad f w' (.pointer x) c:=hc.move fun k q4=>hold k (hc.lt k q4) (by grind);obtain⟨l,qg,qk⟩:=Jg (q8.set i q9);obtain⟨old,q0⟩:∃old,al[i]? = some old:=⟨_,CD hi⟩
  have q1:=Fb (fp f) (Mn c q0);have q2:=Fb (fp f) (Gg q0);rw[A3] at q1 q2;have r1:=BY.1 (q2.nodup_iff.1 p1);have q6:∀k∈(al.set i c).flatMap (fp f),k∈al.flatMap (fp f)\/k∈fp f c:=by grind
  have qf:∀k∈al.flatMap (fp f),k∈fp (f+1) (dW b g3 (.slice al [])):=fun k q4=>by grind [fp,dW,AP]
  refine⟨rfl,Vl (l':=l) (sl':=sl) h0 (hvb.kept (hold b hvb.lt qb)) ?_ hs (by rw[<- qg];exact q8.set i q9) (A1 rfl) (KF ?_ ?_ ?_ (Mr _) ?_) q6 ?_⟩
  ·grind
  ·grind
  ·grind [fp,dW,AP]
  ·grind
  ·grind
  ·exact⟨hk.os,hk.tape,hk.output,hk.size,fun k q5 hk2=>hold k q5 (fun e=>hk2 (by rw[FC,if_neg q7,e];simp))⟩
 ·cases e3
theorem Nf{g:Nat}{q6:List dS}{sl:AS}{l l':List (Option Addr)}{e:Ending}(h0:Ad (f+1) w u (dW b g (.slice al [])))(hn:(fp (f+1) (dW b g (.slice al []))).Nodup)(hs:sl.ownBlock=if g=0 then none else some g)(ha:Al (Ad f w) (l.map CH) al)(q7:EB b sl l' w e w')(hal:∀W:AT,(∀k,k<w.heap.size->k≠b->sl.ownBlock≠some k->W.heap[k]? = w.heap[k]?)->Al (Ad f W) (l'.map CH) q6)(hY:(q6.flatMap (fp f)).Nodup)(q0:∀k∈q6.flatMap (fp f),k∈al.flatMap (fp f)\/Z k)(hZ:∀k,Z k->k<w.heap.size/\k ∉ fp (f+1) (dW b g (.slice al [])))(hpos:0<w.heap.size):
  e=.returned (.tuple #[]) /\ ∃g',(g'=g\/w.heap.size<=g')/\DM f w w' u (dW b g (.slice al [])) (dW b g' (.slice q6 [])) Z:=by
 obtain⟨p1,p2,p3,p4⟩:=Fg hn;obtain⟨rfl,g2,cap,hvb,ho,qd,hk⟩:=q7;have q8:b∈fp (f+1) (dW b g (.slice al [])):=by rw[AP];simp
 have q5:(sl.ownBlock=some g2/\g2=g/\g≠0)\/w.heap.size<=g2:=by
  rcases qd with h|h
  ·obtain⟨e1,e2⟩:=GL hs h;exact A1 ⟨h,e1,e2⟩
  ·exact Bs h
 have q4:g2≠0:=by
  rcases q5 with⟨_,rfl,h⟩|h
  ·exact h
  ·omega
 have hlt:∀k∈al.flatMap (fp f),k<w.heap.size:=ha.lts;have qe:b<w.heap.size:=h0.lt b q8;refine⟨rfl,g2,q5.imp (fun h=>h.2.1) id,Vl (l':=l') h0 hvb ho (by rw[if_neg q4];rfl) (hal w' fun k q9 hk2 qb=>hk.block k q9 (fun h=>h.elim hk2 qb)) (q5.imp (fun h=>h.2.1) id) (KF hY ?_ ?_ (Mr _) ?_) q0 ?_⟩
 ·intro hm;rcases q0 b hm with h|h
  ·exact p2 h
  ·exact (hZ b h).2 q8
 ·rw[if_neg q4];intro hm;obtain rfl:b=g2:=by simpa using hm
  rcases q5 with⟨_,rfl,h⟩|h
  ·rw[if_neg h] at p3;exact p3 rfl
  ·omega
 ·intro k hk2 hm;rw[if_neg q4] at hk2;obtain rfl:k=g2:=by simpa using hk2
  rcases q5 with⟨_,rfl,h0⟩|h
  ·rcases q0 k hm with h|h
   ·exact p4 k (by simp[h0]) h
   ·exact (hZ k h).2 (by rw[AP];simp[h0])
  ·rcases q0 k hm with h'|h'
   ·have:=hlt k h';omega
   ·have:=(hZ k h').1;omega
 ·refine hk.mono fun k hk2=>?_;rw[FC];rcases hk2 with rfl|h
  ·simp
  ·obtain⟨rfl,h9⟩:=GL hs h;simp[h9]
theorem dH{g:Nat}(h:Ad (f+1) w u (dW b g (.slice al [])))(hn:(fp (f+1) (dW b g (.slice al []))).Nodup)(hi:i<=al.length)(hb:al.length<=1000000000000)(hc:Ad f w (.pointer x) c)(qf:(fp f c).Nodup)(q9:∀k∈fp f c,k ∉ fp (f+1) (dW b g (.slice al []))):
  A6 AI 249 #[plV pth b key i,.pointer x] w fun e w'=>e=.returned (.tuple #[]) /\ ∃g',(g'=g\/w.heap.size<=g')/\DM f w w' u (dW b g (.slice al [])) (dW b g' (.slice (fN i c al) [])) (fun k=>k∈fp f c):=by
 have h0:=h;obtain⟨b2,g2,x2,e,hu,h⟩:=h;unfold dW at e;injection e with e;injection e with e1 e;injection e with e2 e;injection e with e3 _;injection e1 with e1;injection e1 with _ e1;injection e2 with e2;injection e2 with _ e2;obtain rfl:b=b2:=by omega
 obtain rfl:g=g2:=by omega
 rcases h with⟨j,_,_,rfl,_⟩|⟨n,_,rfl,_⟩|⟨s,_,rfl,_⟩|⟨qe,sl,ps,rfl,hvb,ho,hs,ha⟩|⟨es,n,D,rfl,_⟩
 ·cases e3
 ·cases e3
 ·cases e3
 ·injection e3 with e3 _;subst e3;obtain⟨l,rfl,hl⟩:=Jg ha;rw[A4] at ho;obtain⟨p1,p2,p3,p4⟩:=Fg hn;have q7:sl.ownBlock≠some b:=by grind
  refine (RX (pth:=pth) (key:=key) (x:=x) hvb ho (by omega) (by omega) q7).mono ?_;intro e w' q5;have q1:=Fb (fp f) (E6 i c al);rw[A3] at q1;have qb:∀k∈al.flatMap (fp f),k∈fp (f+1) (dW b g (.slice al [])):=fun k q0=>by grind [fp,dW,AP]
  have qd:∀k,k=b\/sl.ownBlock=some k->k∈fp (f+1) (dW b g (.slice al [])):=fun k hk=>by
   grind [fp,dW,AP]
  have q4:∀k∈al.flatMap (fp f),k≠b/\sl.ownBlock≠some k:=by grind
  refine Nf h0 hn hs ha q5 (fun W hW=>?_) ?_ ?_ (fun k hk=>⟨hc.lt k hk,q9 k hk⟩) (by have:=hvb.lt;omega)
  ·have q6:Al (Ad f W) (l.map CH) al:=ha.bel fun k q0=>hW k (ha.lts k q0) (q4 k q0).1 (q4 k q0).2;have q8:Ad f W (.pointer x) c:=hc.move fun k q0=>hW k (hc.lt k q0) (by grind) (by grind);rw[JQ];exact q6.lins i q8
  ·grind
  grind
 ·cases e3
theorem dB{g:Nat}(h:Ad (f+1) w u (dW b g (.slice al [])))(hn:(fp (f+1) (dW b g (.slice al []))).Nodup)(hi:i<al.length):
  A6 AI 246 #[plV pth b key i] w fun e w'=>e=.returned (.tuple #[]) /\ ∃g',(g'=g\/w.heap.size<=g')/\DM f w w' u (dW b g (.slice al [])) (dW b g' (.slice (fC i al) [])) (fun _=>False):=by
 have h0:=h;obtain⟨b2,g2,x2,e,hu,h⟩:=h;unfold dW at e;injection e with e;injection e with e1 e;injection e with e2 e;injection e with e3 _;injection e1 with e1;injection e1 with _ e1;injection e2 with e2;injection e2 with _ e2;obtain rfl:b=b2:=by omega
 obtain rfl:g=g2:=by omega
 rcases h with⟨j,_,_,rfl,_⟩|⟨n,_,rfl,_⟩|⟨s,_,rfl,_⟩|⟨q9,sl,ps,rfl,hvb,ho,hs,ha⟩|⟨es,n,D,rfl,_⟩
 ·cases e3
 ·cases e3
 ·cases e3
 ·injection e3 with e3 _;subst e3;obtain⟨l,rfl,hl⟩:=Jg ha;rw[A4] at ho;obtain⟨p1,p2,p3,p4⟩:=Fg hn;have q8:sl.ownBlock≠some b:=fun h=>by
   obtain⟨rfl,h9⟩:=GL hs h;rw[if_neg h9] at p3;exact p3 rfl
  refine (Rx (pth:=pth) (key:=key) hvb ho (show i<l.length by omega) q8).mono ?_;intro e w' q6;obtain⟨old,q5⟩:∃old,al[i]? = some old:=⟨_,CD hi⟩
  have q2:=Fb (fp f) (Gg q5);rw[A3] at q2;have r1:=BY.1 (q2.nodup_iff.1 p1);have q4:∀k∈al.flatMap (fp f),k≠b/\sl.ownBlock≠some k:=fun k q0=>⟨fun e=>p2 (e▸q0),fun h=>by
   obtain⟨rfl,h9⟩:=GL hs h;exact p4 k (by simp[h9]) q0⟩
  refine Nf h0 hn hs ha q6 (fun W hW=>?_) r1.2.1 (fun k q0=>A1 (q2.mem_iff.2 (List.mem_append_right _ q0))) (fun _ h=>h.elim) (by have:=hvb.lt;omega);have q7:Al (Ad f W) (l.map CH) al:=ha.bel fun k q0=>hW k (ha.lts k q0) (q4 k q0).1 (q4 k q0).2;rw[JR];exact q7.ldel i
 ·cases e3
end
theorem IF{f b g:Nat}{es:List (Lit×dS)}(hn:(fp (f+1) (dW b g (.map es))).Nodup):(es.flatMap fun p=>fp f p.2).Nodup/\(b ∉ es.flatMap fun p=>fp f p.2)/\(g ∉ es.flatMap fun p=>fp f p.2)/\b≠g:=by
 rw[Bo] at hn
 grind
theorem D7{f b g:Nat}{w:AT}{u:AS}{es:List (Lit×dS)}(h:Ad (f+1) w u (dW b g (.map es))):u=.pointer (some ⟨b,0,none⟩) /\ ∃D,VB w b 6 n0 [] (.slice none 0 0) (.map (some g))/\w.ownsMap AI 9 RV g es.length (.map D)/\Pt (Ad f w) D es:=by
 obtain⟨b2,g2,x2,e,hu,h⟩:=h;unfold dW at e;injection e with e;injection e with e1 e;injection e with e2 e;injection e with e3 _;injection e1 with e1;injection e1 with _ e1;injection e2 with e2;injection e2 with _ e2;obtain rfl:b=b2:=by omega
 obtain rfl:g=g2:=by omega
 rcases h with⟨j,_,_,rfl,_⟩|⟨n,_,rfl,_⟩|⟨s,_,rfl,_⟩|⟨q0,sl,ps,rfl,hvb,ho,hs,ha⟩|⟨es,n,D,rfl,hvb,ho,hp⟩
 ·cases e3
 ·cases e3
 ·cases e3
 ·cases e3
 ·injection e3 with e3;subst e3;exact⟨hu,D,hvb,hp.len▸Wn ho,hp⟩
theorem Pt.bel{f:Nat}{w:AT}{D:List (Lit×DataW AS)}{es:List (Lit×dS)}(h:Pt (Ad f w) D es)(hk:∀k∈es.flatMap (fun p=>fp f p.2),w'.heap[k]? = w.heap[k]?):Pt (Ad f w') D es:=
 Pt.mem (fun _ p hp hu=>hu.move (by grind)) h
theorem TJ{f b g n:Nat}{w:AT}{u:AS}{es es':List (Lit×dS)}{D':List (Lit×DataW AS)}(h:Ad (f+1) w u (dW b g (.map es)))(hvb:VB w' b 6 n0 [] (.slice none 0 0) (.map (some g)))(ho:w'.ownsMap AI 9 RV g n (.map D'))(hp:Pt (Ad f w') D' es')(hnd:(b::g::es'.flatMap (fun p=>fp f p.2)).Nodup)(hZ:∀k∈es'.flatMap (fun p=>fp f p.2),k∈es.flatMap (fun p=>fp f p.2)\/Z k)(hk:Av (fun k=>k∈gD (dW b g (.map es))) w w'):
  DM f w w' u (dW b g (.map es)) (dW b g (.map es')) Z:=by
 obtain⟨hu,_⟩:=D7 h;refine⟨⟨b,g,_,rfl,hu,by grind⟩,by rw[Bo];exact hnd,?_,hk⟩
 grind [Bo,dW,fp]
theorem MB{f:Nat}(k:Lit)(es:List (Lit×dS)):((eR k es).flatMap fun p=>fp f p.2).Sublist (es.flatMap fun p=>fp f p.2):=by
 unfold eR;induction es with
 | nil=>grind
 | cons y r ih=>
  grind
section
variable{f:Nat}{w:AT}{u:AS}{c:dS}{pth:AS}{b g i:Nat}{key:By}{x:Option Addr}{es:List (Lit×dS)}
theorem Qp{D:List (Lit×DataW AS)}{n:Nat}(h:Ad (f+1) w u (dW b g (.map es)))(hn:(fp (f+1) (dW b g (.map es))).Nodup)(hc:Ad f w (.pointer x) c)(q8:(fp f c).Nodup)(q5:∀k∈fp f c,k ∉ fp (f+1) (dW b g (.map es)))(hvb:VB w b 6 n0 [] (.slice none 0 0) (.map (some g)))(hp:Pt (Ad f w) D es)(ho:w'.ownsMap AI 9 RV g n (DataW.put (.map D) (.string key) (.held (.pointer x))))(hk:w.grownBy w' (some g)):
  DM f w w' u (dW b g (.map es)) (dW b g (.map (eE (.string key) c es))) (fun k=>k∈fp f c):=by
 obtain⟨p1,p2,p3,p4⟩:=IF hn;have hold:∀k,k<w.heap.size->k≠g->w'.heap[k]? = w.heap[k]?:=fun k q6 hk2=>hk.block k q6 (fun e=>hk2 (DD e));have hb:b ∉ fp f c:=fun hm=>q5 b hm (by rw[Bo];simp);have hg:g ∉ fp f c:=fun hm=>q5 g hm (by rw[Bo];simp);have q9:Pt (Ad f w') D es:=hp.bel fun k q0=>hold k (hp.lts k q0) (fun e=>p3 (e▸q0));have q7:Ad f w' (.pointer x) c:=hc.move fun k q0=>hold k (hc.lt k q0) (fun e=>hg (e▸q0));have q:=(Dl (.string key) c es).flatMap_right (fun p=>fp f p.2);rw[A3] at q;have s:=MB (f:=f) (.string key) es;have q4:∀k∈(eE (.string key) c es).flatMap (fun p=>fp f p.2),k∈es.flatMap (fun p=>fp f p.2)\/k∈fp f c:=fun k q0=>by
  rcases List.mem_append.1 (q.mem_iff.1 q0) with h|h
  ·exact Bs h
  ·exact A1 (s.subset h)
 have hnd:((eE (.string key) c es).flatMap (fun p=>fp f p.2)).Nodup:=q.nodup_iff.2 (BY.2 ⟨q8,p1.sublist s,fun y hy z hz e=>q5 y hy (by rw[Bo];exact Dp _ (Dp _ (s.subset (e▸hz))))⟩);refine TJ h (hvb.kept (hold b hvb.lt p4)) ho (Pt.insert _ _ _ q7 (Pt.filter (fun c=>!c.sameKey (.string key)) q9)) ?_ q4 ⟨hk.os,hk.tape,hk.output,hk.size,fun k q6 hk2=>hold k q6 (fun e=>hk2 (by rw[FB,e];simp))⟩;refine A5.2 ⟨fun hm=>?_,A5.2 ⟨fun hm=>?_,hnd⟩⟩
 ·rcases Dt.1 hm with e|hm
  ·exact p4 e
  ·exact (q4 b hm).elim p2 hb
 ·exact (q4 g hm).elim p3 hg
theorem cZ(h:Ad (f+1) w u (dW b g (.map es)))(hn:(fp (f+1) (dW b g (.map es))).Nodup)(q5:key.length<=1048576)(hl:es.length<=1000000000000)(hc:Ad f w (.pointer x) c)(q4:(fp f c).Nodup)(q0:∀k∈fp f c,k ∉ fp (f+1) (dW b g (.map es))):
  A6 AI 250 #[plV pth b key i,.pointer x] w fun e w'=>e=.returned (.tuple #[])/\DM f w w' u (dW b g (.map es)) (dW b g (.map (eE (.string key) c es))) (fun k=>k∈fp f c):=by
 obtain⟨_,D,hvb,ho,hp⟩:=D7 h;refine (Yi (pth:=pth) (i:=i) (pu:=x) q5 (by unfold maxLen;omega) hvb ho).mono ?_;rintro e w' ⟨rfl,q6,hk⟩;exact⟨rfl,Qp h hn hc q4 q0 hvb hp q6 hk⟩
theorem dG(h:Ad (f+1) w u (dW b g (.map es)))(hn:(fp (f+1) (dW b g (.map es))).Nodup)(q5:key.length<=1048576)(hl:es.length<=1000000000000)(hc:Ad f w (.pointer x) c)(q4:(fp f c).Nodup)(q0:∀k∈fp f c,k ∉ fp (f+1) (dW b g (.map es))):
  A6 AI 249 #[plV pth b key i,.pointer x] w fun e w'=>e=.returned (.tuple #[])/\DM f w w' u (dW b g (.map es)) (dW b g (.map (eE (.string key) c es))) (fun k=>k∈fp f c):=by
 obtain⟨_,D,hvb,ho,hp⟩:=D7 h;refine (RW (pth:=pth) (i:=i) (pu:=x) q5 (by unfold maxLen;omega) hvb ho).mono ?_;rintro e w' ⟨rfl,q6,hk⟩;exact⟨rfl,Qp h hn hc q4 q0 hvb hp q6 hk⟩
theorem Ls(h:Ad (f+1) w u (dW b g (.map es)))(hn:(fp (f+1) (dW b g (.map es))).Nodup)(q5:key.length<=1048576):
  A6 AI 246 #[plV pth b key i] w fun e w'=>e=.returned (.tuple #[])/\DM f w w' u (dW b g (.map es)) (dW b g (.map (eR (.string key) es))) (fun _=>False):=by
 obtain⟨_,D,hvb,ho,hp⟩:=D7 h;obtain⟨p1,p2,p3,p4⟩:=IF hn;refine (Rw (pth:=pth) (i:=i) q5 hvb ho).mono ?_;rintro e w' ⟨rfl,q6,hk⟩;have hold:∀k,k<w.heap.size->k≠g->w'.heap[k]? = w.heap[k]?:=fun k q4 hk2=>hk.block k q4 (fun e=>hk2 (DD e));have q7:Pt (Ad f w') D es:=hp.bel fun k q0=>hold k (hp.lts k q0) (fun e=>p3 (e▸q0));have s:=MB (f:=f) (.string key) es;refine⟨rfl,TJ h (hvb.kept (hold b hvb.lt p4)) q6 (Pt.filter (fun c=>!c.sameKey (.string key)) q7) ?_ (fun k q0=>A1 (s.subset q0)) ⟨hk.os,hk.tape,hk.output,hk.size,fun k q4 hk2=>hold k q4 (fun e=>hk2 (by rw[FB,e];simp))⟩⟩;refine A5.2 ⟨fun hm=>?_,A5.2 ⟨fun hm=>p3 (s.subset hm),p1.sublist s⟩⟩;rcases Dt.1 hm with e|hm
 ·exact p4 e
 ·exact p2 (s.subset hm)
end
def Df(n:dS)(i m:Nat)(key:By):Prop:=(∃b g al,n=dW b g (.slice al [])/\i<al.length+m/\al.length<=1000000000000) \/ ∃b g es,n=dW b g (.map es)/\key.length<=1048576/\es.length<=1000000000000
def eK(n:dS):Nat:=match n with | .agg (.lit (.int _ b)::_)=>b.toNat|_=>0
section
variable{f:Nat}{w:AT}{u:AS}{n c:dS}{pth:AS}{i:Nat}{key:By}{x:Option Addr}
def SO(f:Nat)(w:AT)(u:AS)(n n':dS)(Z:Nat->Prop)(e:Ending)(w':AT):Prop:=
 e=.returned (.tuple #[]) /\ ∃n2,(er (f+1) n2=er (f+1) n'/\AJ n2=AJ n' /\ ∀k∈gD n2,k∈gD n\/w.heap.size<=k)/\DM f w w' u n n2 Z
theorem Qv{b g g' q:Nat}{q0:List dS}(h:g'=g\/q<=g'):∀k∈gD (dW b g' (.slice q0 [])),k∈gD (dW b g (.slice al []))\/q<=k:=by
 intro k hk;rw[FC] at hk |-;rcases Dt.1 hk with rfl|hk
 ·exact A1 (by simp)
 ·split at hk
  ·cases hk
  ·rename_i h0;obtain rfl:k=g':=by simpa using hk
   rcases h with rfl|h
   ·exact A1 (by simp[h0])
   ·exact Bs h
theorem UF(f b g g':Nat)(al:List dS):er (f+1) (dW b g (.slice al []))=er (f+1) (dW b g' (.slice al [])):=by rw[jE,jE]
theorem N0(h:Ad (f+1) w u n)(hn:(fp (f+1) n).Nodup)(hi:Df n i 0 key)(hc:Ad f w (.pointer x) c)(q4:(fp f c).Nodup)(q0:∀k∈fp f c,k ∉ fp (f+1) n):
  A6 AI 250 #[plV pth (eK n) key i,.pointer x] w (SO f w u n (BM i key c n) (fun k=>k∈fp f c)):=by
 rcases hi with⟨b,g,al,rfl,h1,h2⟩|⟨b,g,es,rfl,h1,h2⟩
 ·exact (dA h hn h1 hc q4 q0).mono fun e w' ⟨he,h⟩=>⟨he,_,⟨rfl,rfl,fun k hk=>A1 hk⟩,h⟩
 ·exact (cZ h hn h1 h2 hc q4 q0).mono fun e w' ⟨he,h⟩=>⟨he,_,⟨rfl,rfl,fun k hk=>A1 hk⟩,h⟩
theorem JD(h:Ad (f+1) w u n)(hn:(fp (f+1) n).Nodup)(hi:Df n i 1 key)(hc:Ad f w (.pointer x) c)(q4:(fp f c).Nodup)(q0:∀k∈fp f c,k ∉ fp (f+1) n):
  A6 AI 249 #[plV pth (eK n) key i,.pointer x] w (SO f w u n (B0 i key c n) (fun k=>k∈fp f c)):=by
 rcases hi with⟨b,g,al,rfl,h1,h2⟩|⟨b,g,es,rfl,h1,h2⟩
 ·exact (dH h hn (by omega) h2 hc q4 q0).mono fun e w' ⟨he,g',hg,h⟩=>⟨he,_,⟨UF f b g' g _,rfl,Qv hg⟩,h⟩
 ·exact (dG h hn h1 h2 hc q4 q0).mono fun e w' ⟨he,h⟩=>⟨he,_,⟨rfl,rfl,fun k hk=>A1 hk⟩,h⟩
theorem Jw(h:Ad (f+1) w u n)(hn:(fp (f+1) n).Nodup)(hi:Df n i 0 key):
  A6 AI 246 #[plV pth (eK n) key i] w (SO f w u n (B9 i key n) (fun _=>False)):=by
 rcases hi with⟨b,g,al,rfl,h1,h2⟩|⟨b,g,es,rfl,h1,h2⟩
 ·exact (dB h hn h1).mono fun e w' ⟨he,g',hg,h⟩=>⟨he,_,⟨UF f b g' g _,rfl,Qv hg⟩,h⟩
 ·exact (Ls h hn h1).mono fun e w' ⟨he,h⟩=>⟨he,_,⟨rfl,rfl,fun k hk=>A1 hk⟩,h⟩
end
theorem KX{f:Nat}{p:List Nat}{w:AT}{v u:AS}{T n n2:dS}(hT:Ad (f+1+p.length) w v T)(hs:eD p T=some n)(hN:(fp (f+1+p.length) T).Nodup)(hu:Ad (f+1) w u n)(h:DM f w w' u n n2 Z)(hZ:∀k,Z k->k<w.heap.size/\k ∉ fp (f+1+p.length) T):
  Ad (f+1+p.length) w' v (eI p n2 T)/\(fp (f+1+p.length) (eI p n2 T)).Nodup/\(∀k∈fp (f+1+p.length) (eI p n2 T),k∈fp (f+1+p.length) T\/Z k\/w.heap.size<=k)/\Av (fun k=>k∈fp (f+1+p.length) T) w w':=by
 have hlt:=hT.lt;refine⟨Ad.put hT hs hN (fun k q0 hk2=>h.kept.block k (hlt k q0) (fun q4=>hk2 (ID hu k q4))) (fun u2 q5=>?_),Tv hs hN h.nd (fun k q0 hk2=>?_),?_,h.kept.mono fun k hk=>Dj hs k (ID hu k hk)⟩
 ·obtain rfl:=q5.uniq hu;exact h.tr
 ·rcases h.sub k q0 with h1|h1|h1
  ·exact h1
  ·grind
  grind
 ·intro k hk;rcases ZL hs k hk with h1|h1
  ·grind
  ·exact (h.sub k h1).imp (Dj hs k) id
structure BP(L:Nat)(v:AS)(T:dS)(M N:Nat->Prop)(wk w:AT):Prop where
 tree:∃T',er L T'=er L T/\Ad L w v T'/\(fp L T').Nodup /\ ∀k∈fp L T',¬ M k /\ ¬ N k
 held:∀k,M k->w.heap[k]? = wk.heap[k]?
 low:∀k,M k->k<w.heap.size
theorem BP.shift{L:Nat}{v:AS}{T T2:dS}{M N:Nat->Prop}{wk q0 w:AT}(h:BP L v T M N wk w)(hT:er L T2=er L T)(hk:∀k,M k->q0.heap[k]? = wk.heap[k]?):BP L v T2 M N q0 w:=by
 obtain⟨T',e,h1,h2,h3⟩:=h.tree;exact⟨by grind,fun k hm=>(h.held k hm).trans (hk k hm).symm,h.low⟩
def XP(N:Nat->Prop)(w w':AT):Prop:=w'.os=w.os/\w'.tape=w.tape/\w'.output=w.output/\w.heap.size<=w'.heap.size /\ ∀k,N k->w'.heap[k]? = w.heap[k]?
theorem I0{f:Nat}{p:List Nat}{v:AS}{T0 m0 m1:dS}{M0 M1 N:Nat->Prop}{wk0 wk1 wt w:AT}(h0:Ad (f+1+p.length) wt v T0)(hs:eD p T0=some m0)(hA:BP (f+1+p.length) v (eI p m1 T0) M1 N wk1 w):
  ∃u n',er (f+1) n'=er (f+1) m1/\Ad (f+1) w u n'/\(fp (f+1) n').Nodup/\(∀k∈fp (f+1) n',¬ M1 k /\ ¬ N k) /\
   ∀ (n2:dS) (Z:Nat->Prop) (w':AT),DM f w w' u n' n2 Z->er (f+1) n2=er (f+1) m0->(∀k,Z k->M1 k /\ ¬ M0 k)->(∀k,M0 k->M1 k/\wk1.heap[k]? = wk0.heap[k]?)->(∀k,N k -> ¬ M1 k/\k<w.heap.size) ->
    BP (f+1+p.length) v T0 M0 N wk0 w'/\XP N w w':=by
 obtain⟨T',e,h1,h2,h3⟩:=hA.tree;have q4:eD p (eI p m1 T0)=some m1:=Jc m1 hs;have e1:=Fd p (f+1) T';rw[e,Fd p (f+1),q4] at e1;obtain⟨n',q0,en⟩:∃n',eD p T'=some n'/\er (f+1) n'=er (f+1) m1:=by
  cases hx:eD p T' with
  | none=>grind
  | some n'=>grind
 obtain⟨u,hu⟩:=Ad.at (f:=f+1) h1 q0;refine⟨u,n',en,hu,BI q0 h2,fun k hk=>h3 k (Dj q0 k hk),?_⟩;intro n2 Z w' q7 e2 hZ hM hN;have q6:∀k,Z k->k<w.heap.size/\k ∉ fp (f+1+p.length) T':=fun k hk=>⟨hA.low k (hZ k hk).1,by grind⟩
 obtain⟨t1,t2,t3,t4⟩:=KX h1 q0 h2 hu q7 q6;have q5:=Fd p (f+1) T0;rw[hs] at q5;have eT:er (f+1+p.length) (eI p n2 T')=er (f+1+p.length) T0:=by
  rw[BO p (f+1) n2 q0,e2,e,BO p (f+1) m1 hs,Lw _ _ q5,<- BO p (f+1) m0 hs,Ad.put_self h0 hs]
 refine⟨⟨⟨eI p n2 T',eT,t1,t2,fun k hk=>?_⟩,fun k hk=>?_,fun k hk=>Nat.lt_of_lt_of_le (hA.low k (hM k hk).1) t4.size⟩,t4.os,t4.tape,t4.output,t4.size,fun k hk=>t4.block k (hN k hk).2 fun hm=>(h3 k hm).2 hk⟩
 ·rcases t3 k hk with h|h|h
  ·grind
  ·grind
  ·exact⟨fun hm=>by have:=hA.low k (hM k hm).1;omega,by grind⟩
 ·rw[t4.block k (hA.low k (hM k hk).1) (by grind),hA.held k (hM k hk).1,(hM k hk).2]
theorem Df.er{f i q:Nat}{w:AT}{u:AS}{n m:dS}{key:By}(hn:Ad (f+1) w u n)(e:er (f+1) n=er (f+1) m)(h:Df m i q key):Df n i q key/\eK n=eK m/\iA n:=by
 rcases h with⟨b,g,al,rfl,h1,h2⟩|⟨b,g,es,rfl,h1,h2⟩
 ·obtain⟨g',q0,rfl,e2⟩:=hn.er_arr e;have hl:q0.length=al.length:=by have:=congrArg D0 e2;grind
  exact⟨A1 (by grind),rfl,A1 ⟨b,g',q0,rfl⟩⟩
 ·obtain⟨es',rfl,e2⟩:=hn.er_obj e;have hl:es'.length=es.length:=by have:=congrArg D0 e2;grind
  exact⟨Bs (by grind),rfl,Bs ⟨b,g,es',rfl⟩⟩
def AL(w:AT)(q:Nat)(pth:AS)(b:Nat)(key:By)(i:Nat):Prop:=w.heap[q]? = some (.cells #[pth,.pointer (some ⟨b,0,none⟩),.string ⟨key.toArray⟩,.int .i64 i] 185 (0,0))
def GB(w:AT)(q:Nat)(x:Option Addr):Prop:=w.heap[q]? = some (.cells #[.pointer x] 80 (0,0))
section
variable{w:AT}{q q2 b i:Nat}{pth:AS}{key:By}{x:Option Addr}{Q:AT->Prop}
theorem AL.c0(h:AL w q pth b key i):w.cell? ⟨q,0,none⟩=some pth:=by simp[A2,show w.heap[q]? = _ from h]
theorem AL.c1(h:AL w q pth b key i):w.cell? ⟨q,1,none⟩=some (.pointer (some ⟨b,0,none⟩)):=by simp[A2,show w.heap[q]? = _ from h]
theorem AL.c2(h:AL w q pth b key i):w.cell? ⟨q,2,none⟩=some (.string ⟨key.toArray⟩):=by simp[A2,show w.heap[q]? = _ from h]
theorem AL.c3(h:AL w q pth b key i):w.cell? ⟨q,3,none⟩=some (.int .i64 i):=by simp[A2,show w.heap[q]? = _ from h]
theorem GB.c0(h:GB w q x):w.cell? ⟨q,0,none⟩=some (.pointer x):=by simp[A2,show w.heap[q]? = _ from h]
def Ent(f:Nat):Prop:=∀args w,(callFunc f args).run AI w=.ok (.enter f args) w
theorem F3{f:FuncId}{fn:Func}{c:Code}(hf:Tryz.prog.funcs[f]? = some fn)(q0:(fn.name == "runtime.NumGoroutine")=false)(hb:fn.body=some c):Ent f:=by
 intro args w;have h1:¬ fn.name = "runtime.NumGoroutine" := by simpa using q0
 simp[callFunc,hf,h1,hb]
theorem Se:Ent 252:=F3 func252 (by kernel_rfl) rfl
theorem Sd:Ent 248:=F3 func248 (by kernel_rfl) rfl
theorem WY:Ent 251:=F3 func251 (by kernel_rfl) rfl
theorem Pc(hq:AL w q pth b key i)(hC:A6 AI 246 #[plV pth b key i] w fun e w'=>e=.returned (.tuple #[])/\Q w'):
  A6 AI 252 #[.pointer (some ⟨q,0,none⟩)] w fun e w'=>e=.returned (.tuple #[])/\Q w':=by
 have c0:=hq.c0;have c1:=hq.c1;have c2:=hq.c2;have c3:=hq.c3;have HC:=Ab hC;clear hC hq
 go_enter func252,ntmps252
 go_wp2_with (fail);refine (Aa HC).mono ?_
 rintro e w' ⟨rfl,hQ⟩
 go_wp2_with (fail);exact CR (C1 rfl _ _ _) rfl ⟨rfl,hQ⟩
theorem O9(hq:AL w q pth b key i)(hx:GB w q2 x)(hC:A6 AI 249 #[plV pth b key i,.pointer x] w fun e w'=>e=.returned (.tuple #[])/\Q w'):
  A6 AI 248 #[.pointer (some ⟨q,0,none⟩),.pointer (some ⟨q2,0,none⟩)] w fun e w'=>e=.returned (.tuple #[])/\Q w':=by
 have c0:=hq.c0;have c1:=hq.c1;have c2:=hq.c2;have c3:=hq.c3;have d0:=hx.c0;have HC:=Ab hC;clear hC hq hx
 go_enter func248,ntmps248
 go_wp2_with (fail);refine (Aa HC).mono ?_
 rintro e w' ⟨rfl,hQ⟩
 go_wp2_with (fail);exact CR (C1 rfl _ _ _) rfl ⟨rfl,hQ⟩
theorem Sv(hq:AL w q pth b key i)(hx:GB w q2 x)(hC:A6 AI 250 #[plV pth b key i,.pointer x] w fun e w'=>e=.returned (.tuple #[])/\Q w'):
  A6 AI 251 #[.pointer (some ⟨q,0,none⟩),.pointer (some ⟨q2,0,none⟩)] w fun e w'=>e=.returned (.tuple #[])/\Q w':=by
 have c0:=hq.c0;have c1:=hq.c1;have c2:=hq.c2;have c3:=hq.c3;have d0:=hx.c0;have HC:=Ab hC;clear hC hq hx
 go_enter func251,ntmps251
 go_wp2_with (fail);refine (Aa HC).mono ?_
 rintro e w' ⟨rfl,hQ⟩
 go_wp2_with (fail);exact CR (C1 rfl _ _ _) rfl ⟨rfl,hQ⟩
end
theorem kM{k:Lit}{c:dS}{es:List (Lit×dS)}:(eE k c es).length<=es.length+1:=by
 have h1:=(Dl k c es).length_eq;have h2:(eR k es).length<=es.length:=C2 _ _
 grind
def AV(n:dS)(i:Nat)(key:By)(c:dS):Prop:=(∃b g al,n=dW b g (.slice al [])/\al[i]? = some c) \/ ∃b g es,n=dW b g (.map es)/\(Lit.string key,c)∈es/\Az es
def Ib(n:dS)(i:Nat)(key:By):Prop:=(∃b g al,n=dW b g (.slice al [])/\i<=al.length) \/ ∃b g es,n=dW b g (.map es) /\ ∀p∈es,p.1≠Lit.string key
theorem Ib.back{n c:dS}{i:Nat}{key:By}(h:Ib n i key):B9 i key (B0 i key c n)=n:=by
 rcases h with⟨b,g,al,rfl,h⟩|⟨b,g,es,rfl,h⟩
 ·unfold B9 B0;rw[DS,DS,Ua c h]
 ·unfold B9 B0;rw[DR,DR,MA,T7 h]
theorem AV.ins{n c:dS}{i:Nat}{key:By}(h:AV n i key c):B0 i key c (B9 i key n)=n:=by
 rcases h with⟨b,g,al,rfl,h⟩|⟨b,g,es,rfl,h,hs⟩
 ·unfold B9 B0;rw[DS,DS,IL h]
 ·unfold B9 B0;rw[DR,DR,IH,Gh hs h]
theorem AV.set{n c d:dS}{i:Nat}{key:By}(h:AV n i key c):BM i key c (BM i key d n)=n:=by
 rcases h with⟨b,g,al,rfl,h⟩|⟨b,g,es,rfl,h,hs⟩
 ·unfold BM;rw[DS,DS,T8 h]
 ·unfold BM;rw[DR,DR,TT,Gh hs h]
theorem Ib.box{n:dS}{i:Nat}{key:By}(h:Ib n i key):iA n:=h.imp (fun ⟨b,g,al,e,_⟩=>⟨b,g,al,e⟩) (fun ⟨b,g,es,e,_⟩=>⟨b,g,es,e⟩)
theorem AV.box{n c:dS}{i:Nat}{key:By}(h:AV n i key c):iA n:=h.imp (fun ⟨b,g,al,e,_⟩=>⟨b,g,al,e⟩) (fun ⟨b,g,es,e,_⟩=>⟨b,g,es,e⟩)
theorem jG{F:List dS->List dS}{G:List (Lit×dS)->List (Lit×dS)}{n:dS}(h:iA n):iA (iQ F G n)/\eK (iQ F G n)=eK n:=by
 rcases h with⟨b,g,al,rfl⟩|⟨b,g,es,rfl⟩
 ·exact⟨A1 ⟨b,g,F al,rfl⟩,rfl⟩
 ·exact⟨Bs ⟨b,g,G es,rfl⟩,rfl⟩
def B7(n:dS)(key:By):Prop:=(AJ n).length+1<=1000000000000/\key.length<=1048576
theorem Ib.at{n c:dS}{i:Nat}{key:By}(h:Ib n i key)(hr:B7 n key):Df n i 1 key/\Df (B0 i key c n) i 0 key:=by
 obtain⟨h1,h2⟩:=hr;rcases h with⟨b,g,al,rfl,h⟩|⟨b,g,es,rfl,h⟩
 ·rw[BW] at h1;have:=Hm c h;exact⟨A1 (by grind),A1 ⟨b,g,fN i c al,rfl,by omega,by omega⟩⟩
 ·rw[BH,A4] at h1;have:=kM (k:=.string key) (c:=c) (es:=es);exact⟨Bs (by grind),Bs ⟨b,g,eE (.string key) c es,rfl,h2,by omega⟩⟩
theorem AV.at{n c:dS}{i:Nat}{key:By}(h:AV n i key c)(hr:B7 n key):Df n i 0 key/\Df (B9 i key n) i 1 key /\ ∀d,Df (BM i key d n) i 0 key:=by
 obtain⟨h1,h2⟩:=hr;rcases h with⟨b,g,al,rfl,h⟩|⟨b,g,es,rfl,h,_⟩
 ·rw[BW] at h1;obtain⟨hi,_⟩:=List.getElem?_eq_some_iff.1 h;have:=JU hi;exact⟨A1 (by grind),A1 ⟨b,g,fC i al,rfl,by omega,by omega⟩,fun d=>A1 ⟨b,g,al.set i d,rfl,by grind,by simp;omega⟩⟩
 ·rw[BH,A4] at h1;have h3:(eR (.string key) es).length<=es.length:=C2 _ _;exact⟨Bs (by grind),Bs ⟨b,g,eR (.string key) es,rfl,h2,by omega⟩,fun d=>Bs ⟨b,g,eE (.string key) d es,rfl,h2,by have:=kM (k:=.string key) (c:=d) (es:=es);omega⟩⟩
def Kg(L:Nat)(v:AS)(fn:Nat)(cs:Array AS)(T0 T1:dS)(M0 M1:Nat->Prop)(wk0 wk1:AT):Prop:=
 ∀ (N:Nat->Prop) (w:AT),(∀k,N k -> ¬ M1 k/\k<w.heap.size)->BP L v T1 M1 N wk1 w->A6 AI fn cs w fun e w'=>e=.returned (.tuple #[])/\BP L v T0 M0 N wk0 w'/\XP N w w'
section
variable{f:Nat}{p:List Nat}{v:AS}{T0 m0 c x:dS}{M0 M1:Nat->Prop}{wk0 wk1 wt:AT}{q q2 i:Nat}{pth:AS}{key:By}{pc:Option Addr}
theorem P6(h0:Ad (f+1+p.length) wt v T0)(hs:eD p T0=some m0)(hf:Ib m0 i key)(hr:B7 m0 key)(hq:AL wk1 q pth (eK m0) key i)(q4:M1 q)(hM:∀k,M0 k->M1 k/\wk1.heap[k]? = wk0.heap[k]?):
  Kg (f+1+p.length) v 252 #[.pointer (some ⟨q,0,none⟩)] T0 (eI p (B0 i key c m0) T0) M0 M1 wk0 wk1:=by
 intro N w hN hA;obtain⟨u,n',en,hu,hnd,_,q0⟩:=I0 h0 hs hA;obtain⟨b1,b2,b3⟩:=Df.er hu en (hf.at hr).2;rw[show eK (B0 i key c m0)=eK m0 from (jG hf.box).2] at b2;refine Pc (b:=eK n') (by rw[b2];exact (hA.held q q4).trans hq) ((Jw hu hnd b1).mono ?_);rintro e w' ⟨rfl,n2,⟨e2,_⟩,hE⟩;refine⟨rfl,q0 n2 _ w' hE ?_ (fun _ h=>h.elim) hM hN⟩;rw[e2,UG b3,en,<- UG (show iA (B0 i key c m0) from (jG hf.box).1),hf.back]
theorem P5(h0:Ad (f+1+p.length) wt v T0)(hs:eD p T0=some m0)(hf:AV m0 i key c)(hr:B7 m0 key)(hq:AL wk1 q pth (eK m0) key i)(q8:M1 q)(hx:GB wk1 q2 pc)(q9:M1 q2)(hc:Ad f wk1 (.pointer pc) c)(q4:(fp f c).Nodup)(q0:∀k∈fp f c,M1 k /\ ¬ M0 k)(hM:∀k,M0 k->M1 k/\wk1.heap[k]? = wk0.heap[k]?):
  Kg (f+1+p.length) v 248 #[.pointer (some ⟨q,0,none⟩),.pointer (some ⟨q2,0,none⟩)] T0 (eI p (B9 i key m0) T0) M0 M1 wk0 wk1:=by
 intro N w hN hA;obtain⟨u,n',en,hu,hnd,q7,q6⟩:=I0 h0 hs hA;obtain⟨b1,b2,b3⟩:=Df.er hu en (hf.at hr).2.1;rw[show eK (B9 i key m0)=eK m0 from (jG hf.box).2] at b2;have q5:Ad f w (.pointer pc) c:=hc.move fun k hk=>hA.held k (q0 k hk).1;refine O9 (b:=eK n') (by rw[b2];exact (hA.held q q8).trans hq) ((hA.held q2 q9).trans hx) ((JD hu hnd b1 q5 q4 (fun k hk hm=>(q7 k hm).1 (q0 k hk).1)).mono ?_);rintro e w' ⟨rfl,n2,⟨e2,_⟩,hE⟩;refine⟨rfl,q6 n2 _ w' hE ?_ q0 hM hN⟩;rw[e2,UJ b3,en,<- UJ (show iA (B9 i key m0) from (jG hf.box).1),hf.ins]
theorem Vh(h0:Ad (f+1+p.length) wt v T0)(hs:eD p T0=some m0)(hf:AV m0 i key c)(hr:B7 m0 key)(hq:AL wk1 q pth (eK m0) key i)(q7:M1 q)(hx:GB wk1 q2 pc)(q8:M1 q2)(hc:Ad f wk1 (.pointer pc) c)(q4:(fp f c).Nodup)(q0:∀k∈fp f c,M1 k /\ ¬ M0 k)(hM:∀k,M0 k->M1 k/\wk1.heap[k]? = wk0.heap[k]?):
  Kg (f+1+p.length) v 251 #[.pointer (some ⟨q,0,none⟩),.pointer (some ⟨q2,0,none⟩)] T0 (eI p (BM i key x m0) T0) M0 M1 wk0 wk1:=by
 intro N w hN hA;obtain⟨u,n',en,hu,hnd,q9,q6⟩:=I0 h0 hs hA;obtain⟨b1,b2,b3⟩:=Df.er hu en ((hf.at hr).2.2 x);rw[show eK (BM i key x m0)=eK m0 from (jG hf.box).2] at b2;have q5:Ad f w (.pointer pc) c:=hc.move fun k hk=>hA.held k (q0 k hk).1;refine Sv (b:=eK n') (by rw[b2];exact (hA.held q q7).trans hq) ((hA.held q2 q8).trans hx) ((N0 hu hnd b1 q5 q4 (by grind)).mono ?_);rintro e w' ⟨rfl,n2,⟨e2,_⟩,hE⟩;refine⟨rfl,q6 n2 _ w' hE ?_ q0 hM hN⟩;rw[e2,UE b3,en,<- UE (show iA (BM i key x m0) from (jG hf.box).1),hf.set]
end
abbrev Clo:=Nat×Array AS
def F8(c:Clo):AS:=.func (.func c.1) #[] c.2
theorem Xs:(Tryz.prog.info? 230).map (fun i=>(i.zero.map (fun z=>z.cells.size),i.size,i.bytes))=some (some 5,5,72):=by kernel_rfl
theorem Vf:∃i z,Tryz.prog.info? 230=some i/\i.zero=some z/\z.cells.size=5/\i.size=5/\i.bytes=72:=by
 obtain⟨i,hi,h⟩:=Option.map_eq_some_iff.1 Xs
 simp_all
def Fh(D:Nat)(rv jn iv:AS)(ch:Bool)(n:Nat)(xs new:List AS)(w:AT)(e:Ending)(w':AT):Prop:=
 e=.returned (.tuple #[]) /\ ∃g cap,DB w' D rv (.slice (some ⟨g,0,none⟩) (n+1) cap) ch iv/\w'.ownsRow 0 230 5 (.slice (some ⟨g,0,none⟩) (n+1) cap) (n+1) (xs++new) /\
  (jn.ownBlock=some g\/w.heap.size<=g)/\Av (fun k=>k=D\/jn.ownBlock=some k) w w'
theorem DB.set1{w:AT}(h:DB w D rv jn ch iv)(v:AS):DB (w.setCell ⟨D,1,none⟩ v) D rv v ch iv:=by
 grind [DB,World.setCell]
theorem Fh.of{w wa w3:AT}{n g cap:Nat}{xs new:List AS}{o:Obj}(hB:Below w.heap.size w wa)(hA:DB wa D rv jn ch iv)(hj:jn.ownBlock≠some D)(ho:w3.ownsRow 0 230 5 (.slice (some ⟨g,0,none⟩) (n+1) cap) (n+1) (xs++new))(hg:(wa.alloc o).drew.grownBy w3 jn.ownBlock)(q5:jn.ownBlock=some g\/g=wa.heap.size+1):
  Fh D rv jn iv ch n xs new w (.returned (.tuple #[])) (w3.setCell ⟨D,1,none⟩ (.slice (some ⟨g,0,none⟩) (n+1) cap)):=by
 have hs:(wa.alloc o).drew.heap.size=wa.heap.size+1:=by simp
 have q4:=hA.lt;have hold:∀k,k<wa.heap.size->jn.ownBlock≠some k->w3.heap[k]? = wa.heap[k]?:=fun k hk hne=>(hg.block k (by omega) (fun e=>hne e.symm)).trans (CL wa o k hk);have q0:DB w3 D rv jn ch iv:=hA.kept (hold D q4 hj);have q6:g≠D:=by grind
 have hsz:=hB.size;refine⟨rfl,g,cap,q0.set1 _,AC ho fun k hk2=>?_,by grind,?_⟩
 ·simp[Value.ownBlock] at hk2;exact Below.heap_setCell _ _ _ _ (by grind)
 ·have h3:Av (fun k=>k=D\/jn.ownBlock=some k) w wa:=Av.of_below hB;have h4:Av (fun k=>k=D\/jn.ownBlock=some k) w w3:=h3.trans (F':=fun k=>jn.ownBlock=some k) ⟨hg.os,hg.tape,hg.output,by have:=hg.size;omega,by omega⟩ fun k _ h=>Bs h;exact h4.setCell (p:=⟨D,1,none⟩) (A1 (A1 rfl)) _
theorem J8{w:AT}{c:Clo}{k:Int}{pa x:Option Addr}{pl pc n:Nat}{xs:List AS}(hD:DB w D rv jn ch iv)(hj:w.ownsRow 0 230 5 jn n xs)(hn:n<=1000000000)(qb:jn.ownBlock≠some D):
  A6 AI 247 #[.pointer (some ⟨D,0,none⟩),F8 c,.agg #[.int .i64 k,.slice pa pl pc,.slice none 0 0,.pointer x]] w (Fh D rv jn iv ch n xs [F8 c,.int .i64 k,.slice pa pl pc,.slice none 0 0,.pointer x] w):=by
 obtain⟨i0,z0,qf,hz0,qh,hz2,hz3⟩:=Vf;have qd:=hD.lt;have HD:=Ab hD;have HJ:=Ab hj;have q9:=Ab qb;obtain⟨cf,cc⟩:=c;unfold F8;clear hD hj qb
 go_enter func247,ntmps247
 go_wp2_with (fail);have q6:=heap_alloc_new w (.cells #[.int .i64 k,.slice pa pl pc,.slice none 0 0,.pointer x] 178)
 have q8:=(Below.refl w.heap.size w).alloc (Nat.le_refl _) (.cells #[.int .i64 k,.slice pa pl pc,.slice none 0 0,.pointer x] 178);generalize w.alloc (.cells #[.int .i64 k,.slice pa pl pc,.slice none 0 0,.pointer x] 178)=wa at *;have q4:=(Aa HD).kept (q8.block D qd);have d1:=q4.c1;have b0:wa.cell? ⟨w.heap.size,0,none⟩=some (.int .i64 k):=by simp[A2,q6]
 have b1:wa.cell? ⟨w.heap.size,1,none⟩=some (.slice pa pl pc):=by simp[A2,q6]
 have b2:wa.cell? ⟨w.heap.size,2,none⟩=some (.slice none 0 0):=by simp[A2,q6]
 have b3:wa.cell? ⟨w.heap.size,3,none⟩=some (.pointer x):=by simp[A2,q6]
 have qg:=AC (w':=wa) (Aa HJ) fun g hg=>q8.block g (AA (Aa HJ) g hg).1;have q5:D<wa.heap.size:=q4.lt;have z1:∀o,(wa.alloc o).frozen? ⟨D,1,none⟩=false:=fun o=>by rw[World.frozen?_of_block (w:=wa) (CL wa o D q5)];simp[World.frozen?,show wa.heap[D]? = _ from q4]
 have y1:∀o,(wa.alloc o).cell? ⟨D,1,none⟩=some jn:=fun o=>by rw[World.cell?_of_block (w:=wa) (CL wa o D q5)];exact d1
 have nD:some D≠jn.ownBlock:=fun e=>Aa q9 e.symm;have HB:=Ab q8;have HA:=Ab q4;clear q8 q4;have qi:w.heap.size<wa.heap.size:=by grind
 clear q6
 go_region_law ((refine step_append_lies _ (by rfl) _ _ _ (by rfl) 0 230 i0 z0 5 72 underlying112 qf hz0 hz2 hz3 qh (by decide) jn n xs (by rfl) ((qg.alloc _).drew) ⟨wa.heap.size,0,none⟩ 1 1 [.func (.func cf) #[] cc,.int .i64 k,.slice pa pl pc,.slice none 0 0,.pointer x] (by rfl) (by rfl) (World.news_of_block (cs:=#[.func (.func cf) #[] cc,.int .i64 k,.slice pa pl pc,.slice none 0 0,.pointer x]) (t:=230) (fr:=(0,0)) (heap_alloc_new wa _)) (by simp[Value.oneCell']) (by decide) (by unfold maxLen;omega) (by omega) (Nat.zero_le _) (wa.heap.size+1) (by simp) ?_;intro g cap w3 q7 q0 qe hlt;have zz:w3.frozen? ⟨D,1,none⟩=false:=(q0.frozen_far ⟨D,1,none⟩ (by simp;omega) nD).trans (z1 _);have yy:w3.cell? ⟨D,1,none⟩=some jn:=(q0.cell_far ⟨D,1,none⟩ (by simp;omega) nD).trans (y1 _)))
 all_goals exact CR (C1 rfl _ _ _) rfl (Fh.of (Aa HB) (Aa HA) (Aa q9) q7 q0 qe)
end Go.Proofs.YtdpomdelmdofmaaGreatDoor
