import Derived.Test.YtdpomdelmdofmaaGreatDoorPfx26
open Go.Proofs.Tryz renaming prog->AI
open List renaming nodup_cons->AS,flatMap_cons->A4,length_map->A5,nodup_append->Bs,getElem?_eq_getElem->CD,length_filter_le->CL,mem_cons_of_mem->CR,mem_cons->C1,length->DD
open Go.Value renaming pointer->AT
open Or renaming inl->A1,inr->CH
open Go renaming Value->A2,World->A3,Calls->A6,bodyPost_end->C2,results_none->Dp
open Go.World renaming cell?->BY
open Option.some renaming inj->Dt
namespace Go.Proofs.YtdpomdelmdofmaaGreatDoor
open Go.Proofs.Tryz Go.RowKit Go.Maps
variable{α β:Type}{w w':A3}{n c:Zf}{D:List (Lit×DataW A2)}{f b g i:Nat}{u v:A2}{al:List Zf}{Z:Nat->Prop}{es:List (Lit×Zf)}{key:By}
def Z4(n:Zf):List Nat:=match n with
 | .agg [.lit (.int _ b),.lit (.int _ g),x]=>(match x with
  | .slice _ _=>b.toNat::(if g=0 then [] else [g.toNat])
  | .map _=>[b.toNat,g.toNat]
  | _=>[b.toNat])
 | _=>[]
theorem E7(b g:Nat)(al:List Zf):Z4 (Zj b g (.slice al []))=b::(if g=0 then [] else [g]):=by
 show (b:Int).toNat::(if (g:Int)=0 then [] else [(g:Int).toNat])=_
 grind
theorem E6(b g:Nat)(es:List (Lit×Zf)):Z4 (Zj b g (.map es))=[b,g]:=rfl
theorem Ij{f:Nat}{w:A3}:∀ {ps:List A2} {al:List Zf},Al (Ad f w) ps al -> ∃l:List (Option Addr),ps=l.map AT/\l.length=al.length
 | [],[],_=>⟨[],rfl,rfl⟩
 | _::_,_::_,⟨h,t⟩=>by
  obtain⟨b,rfl,_⟩:=h.ptr;obtain⟨l,rfl,e⟩:=Ij t;exact⟨some ⟨b,0,none⟩::l,rfl,by simp[e]⟩
theorem Al.take{α β:Type}{P:α->β->Prop}:∀ {l:List α} {m:List β},Al P l m -> ∀i,Al P (l.take i) (m.take i)
 | [],[],_,_=>by grind
 | _::_,_::_,_,0=>trivial
 | _::_,_::_,⟨a,b⟩,i+1=>⟨a,Al.take b i⟩
theorem Al.drop{α β:Type}{P:α->β->Prop}:∀ {l:List α} {m:List β},Al P l m -> ∀i,Al P (l.drop i) (m.drop i)
 | [],[],_,_=>by grind
 | _::_,_::_,h,0=>h
 | _::_,_::_,⟨_,b⟩,i+1=>Al.drop b i
theorem Al.lins{P:α->β->Prop}{l:List α}{m:List β}(h:Al P l m)(i:Nat){a:α}{b:β}(hab:P a b):Al P (ZS i a l) (ZS i b m):=Al.append (h.take i) ⟨hab,h.drop i⟩
theorem Al.ldel{P:α->β->Prop}{l:List α}{m:List β}(h:Al P l m)(i:Nat):Al P (ZN i l) (ZN i m):=Al.append (h.take i) (h.drop (i+1))
theorem Al.set{α β:Type}{P:α->β->Prop}:∀ {l:List α} {m:List β},Al P l m -> ∀ (i:Nat) {a:α} {b:β},P a b->Al P (l.set i a) (m.set i b)
 | [],[],_,_,_,_,_=>trivial
 | _::_,_::_,⟨_,t⟩,0,_,_,h=>⟨h,t⟩
 | _::_,_::_,⟨h0,t⟩,i+1,_,_,h=>⟨h0,Al.set t i h⟩
theorem Ua{m n:Nat}(h:w.ownsMap AI 9 RV m n (.map D)):w.ownsMap AI 9 RV m D.length (.map D):=by
 obtain⟨es,q0,hb,F,hs,e⟩:=h;refine⟨es,q0,hb,F,?_,e⟩
 grind [length_read]
structure Du(f:Nat)(w w':A3)(u:A2)(n n':Zf)(Z:Nat->Prop):Prop where
 tr:Ad (f+1) w' u n'
 nd:(fp (f+1) n').Nodup
 sub:∀k∈fp (f+1) n',k∈fp (f+1) n\/Z k\/w.heap.size<=k
 kept:Ao (fun k=>k∈Z4 n) w w'
theorem Hm(h:Ad (f+1) w u n):∀k∈Z4 n,k∈fp (f+1) n:=by
 obtain⟨b,g,x,rfl,hv,h⟩:=h;rcases h with⟨j,_,_,rfl,h⟩|⟨n,_,rfl,h,q0⟩|⟨s,_,rfl,h⟩|⟨al,sl,ps,rfl,_⟩|⟨es,n,D,rfl,_⟩
 ·intro k hk;exact hk
 ·intro k hk;exact hk
 ·intro k hk;exact hk
 ·grind [E7,AN,E6]
 ·intro k hk;rw[E6] at hk;rw[Bi]
  grind
theorem Kq(h:Ad (f+1) w u n)(hn:(fp (f+1) n).Nodup)(hc:c∈AH n):∀k∈Z4 n,k ∉ fp f c:=by
 obtain⟨b,g,x,rfl,hv,h⟩:=h;rcases h with⟨j,_,_,rfl,h⟩|⟨n,_,rfl,h,q4⟩|⟨s,_,rfl,h⟩|⟨al,sl,ps,rfl,_⟩|⟨es,n,D,rfl,_⟩
 ·rw[EI] at hc;cases hc
 ·rw[Fo] at hc;cases hc
 ·rw[Fm] at hc;cases hc
 ·grind [fp,EI,Fo,Fm,BO,AN,E7,Bx]
 ·rw[Bx] at hc;obtain⟨p,hp,rfl⟩:=List.mem_map.1 hc;rw[Bi] at hn;obtain⟨n1,n2⟩:=AS.1 hn;obtain⟨n3,_⟩:=AS.1 n2;intro k hk q0;have hm:k∈es.flatMap (fun p=>fp f p.2):=by grind
  rw[E6] at hk
  grind
theorem S8{g':Nat}{q0:List Zf}{l':List (Option Addr)}{sl':A2}(h:Ad (f+1) w u (Zj b g (.slice al [])))(hvb:VB w' b 5 n0 [] sl' (.map none))(ho:w'.ownsRow 0 80 1 sl' l'.length (l'.map AT))(hs:sl'.ownBlock=if g'=0 then none else some g')(hal:Al (Ad f w') (l'.map AT) q0)(hg:g'=g\/w.heap.size<=g')(q5:(b::((if g'=0 then [] else [g'])++q0.flatMap (fp f))).Nodup)(hZ:∀k∈q0.flatMap (fp f),k∈al.flatMap (fp f)\/Z k)(hk:Ao (fun k=>k∈Z4 (Zj b g (.slice al []))) w w'):
  Du f w w' u (Zj b g (.slice al [])) (Zj b g' (.slice q0 [])) Z:=by
 obtain⟨b2,g2,x2,e,rfl,_⟩:=h;unfold Zj at e;injection e with e;injection e with e _;injection e with e;injection e with _ e;obtain rfl:b=b2:=by omega
 refine⟨⟨b,g',_,rfl,rfl,by grind⟩,by rw[AN];exact q5,?_,hk⟩;intro k q4;rw[AN] at q4 |-
 grind
theorem EK(q:α->List β){l m:List α}(h:l.Perm m):(l.flatMap q).Perm (m.flatMap q):=h.flatMap_right q
theorem JF{G Y:List Nat}(h1:Y.Nodup)(h2:b ∉ Y)(h3:b ∉ G)(h4:G.Nodup)(h5:∀k∈G,k ∉ Y):(b::(G++Y)).Nodup:=
 by grind
theorem Lc(g:Nat):(if g=0 then ([]:List Nat) else [g]).Nodup:=by grind
theorem EO(hn:(fp (f+1) (Zj b g (.slice al []))).Nodup):(al.flatMap (fp f)).Nodup/\b ∉ al.flatMap (fp f)/\b≠(if g=0 then b+1 else g) /\ ∀k∈(if g=0 then ([]:List Nat) else [g]),k ∉ al.flatMap (fp f):=by
 rw[AN] at hn
 grind
theorem Al.bel{ps:List A2}(h:Al (Ad f w) ps al)(hk:∀k∈al.flatMap (fp f),w'.heap[k]? = w.heap[k]?):Al (Ad f w') ps al:=
 Al.mem (fun _ c hc hu=>hu.move (by grind)) h
section
variable{f:Nat}{w:A3}{u:A2}{n c:Zf}{pth:A2}{b i:Nat}{key:By}{x:Option Addr}
theorem Y0(h:Ad (f+1) w u (Zj b g (.slice al [])))(hn:(fp (f+1) (Zj b g (.slice al []))).Nodup)(hi:i<al.length)(hc:Ad f w (.pointer x) c)(qi:(fp f c).Nodup)(qb:∀k∈fp f c,k ∉ fp (f+1) (Zj b g (.slice al []))):
  A6 AI 250 #[plV pth b key i,.pointer x] w fun e w'=>e=.returned (.tuple #[])/\Du f w w' u (Zj b g (.slice al [])) (Zj b g (.slice (al.set i c) [])) (fun k=>k∈fp f c):=by
 have h0:=h;obtain⟨p1,p2,p3,p4⟩:=EO hn;obtain⟨b2,g2,x2,e,hu,h⟩:=h;unfold Zj at e;injection e with e;injection e with e1 e;injection e with e2 e;injection e with e3 _;injection e1 with e1;injection e1 with _ e1;injection e2 with e2;injection e2 with _ e2;obtain rfl:b=b2:=by omega
 obtain rfl:g=g2:=by omega
 rcases h with⟨j,_,_,rfl,_⟩|⟨n,_,rfl,_⟩|⟨s,_,rfl,_⟩|⟨qj,sl,ps,rfl,hvb,ho,hs,ha⟩|⟨es,n,D,rfl,_⟩
 ·cases e3
 ·cases e3
 ·cases e3
 ·injection e3 with e3 _;subst e3;have hl:=ha.length;refine (VP (pth:=pth) (key:=key) (pu:=x) hvb ho (by omega)).mono ?_;rintro e w' ⟨rfl,g3,qf,qm,hk⟩;obtain⟨rfl,q9⟩:=Gb hs qf;have qe:b≠g3:=by grind
  have hold:∀k,k<w.heap.size->k≠g3->w'.heap[k]? = w.heap[k]?:=fun k q5 hk2=>hk.block k q5 (by grind);have qh:g3 ∉ fp f c:=fun hm=>qb g3 hm (by rw[AN];simp[q9]);have q8:Al (Ad f w') ps al:=ha.bel fun k q4=>hold k (ha.lts k q4) (by grind);have q7:Ad f w' (.pointer x) c:=hc.move fun k q4=>hold k (hc.lt k q4) (by grind);obtain⟨l,qg,qk⟩:=Ij (q8.set i q7);obtain⟨old,q0⟩:∃old,al[i]? = some old:=⟨_,CD hi⟩
  have q1:=EK (fp f) (K8 c q0);have q2:=EK (fp f) (FE q0);rw[A4] at q1 q2;have r1:=Bs.1 (q2.nodup_iff.1 p1);have q6:∀k∈(al.set i c).flatMap (fp f),k∈al.flatMap (fp f)\/k∈fp f c:=by grind
  have qd:∀k∈al.flatMap (fp f),k∈fp (f+1) (Zj b g3 (.slice al [])):=fun k q4=>by grind [fp,Zj,AN]
  refine⟨rfl,S8 (l':=l) (sl':=sl) h0 (hvb.kept (hold b hvb.lt qe)) ?_ hs (by rw[<- qg];exact q8.set i q7) (A1 rfl) (JF ?_ ?_ ?_ (Lc _) ?_) q6 ?_⟩
  ·grind
  ·grind
  ·grind [fp,Zj,AN]
  ·grind
  ·grind
  ·exact⟨hk.os,hk.tape,hk.output,hk.size,fun k q5 hk2=>hold k q5 (fun e=>hk2 (by rw[E7,if_neg q9,e];simp))⟩
 ·cases e3
theorem LF{q6:List Zf}{sl:A2}{l l':List (Option Addr)}{e:Ending}(h0:Ad (f+1) w u (Zj b g (.slice al [])))(hn:(fp (f+1) (Zj b g (.slice al []))).Nodup)(hs:sl.ownBlock=if g=0 then none else some g)(ha:Al (Ad f w) (l.map AT) al)(q7:Ed b sl l' w e w')(hal:∀W:A3,(∀k,k<w.heap.size->k≠b->sl.ownBlock≠some k->W.heap[k]? = w.heap[k]?)->Al (Ad f W) (l'.map AT) q6)(hY:(q6.flatMap (fp f)).Nodup)(q0:∀k∈q6.flatMap (fp f),k∈al.flatMap (fp f)\/Z k)(hZ:∀k,Z k->k<w.heap.size/\k ∉ fp (f+1) (Zj b g (.slice al [])))(hpos:0<w.heap.size):
  e=.returned (.tuple #[]) /\ ∃g',(g'=g\/w.heap.size<=g')/\Du f w w' u (Zj b g (.slice al [])) (Zj b g' (.slice q6 [])) Z:=by
 obtain⟨p1,p2,p3,p4⟩:=EO hn;obtain⟨rfl,g2,cap,hvb,ho,qd,hk⟩:=q7;have q8:b∈fp (f+1) (Zj b g (.slice al [])):=by rw[AN];simp
 have q5:(sl.ownBlock=some g2/\g2=g/\g≠0)\/w.heap.size<=g2:=by
  rcases qd with h|h
  ·obtain⟨e1,e2⟩:=Gb hs h;exact A1 ⟨h,e1,e2⟩
  ·exact CH h
 have q4:g2≠0:=by
  rcases q5 with⟨_,rfl,h⟩|h
  ·exact h
  ·omega
 have hlt:∀k∈al.flatMap (fp f),k<w.heap.size:=ha.lts;have qe:b<w.heap.size:=h0.lt b q8;refine⟨rfl,g2,q5.imp (fun h=>h.2.1) id,S8 (l':=l') h0 hvb ho (by rw[if_neg q4];rfl) (hal w' fun k qb hk2 q9=>hk.block k qb (fun h=>h.elim hk2 q9)) (q5.imp (fun h=>h.2.1) id) (JF hY ?_ ?_ (Lc _) ?_) q0 ?_⟩
 ·intro hm;rcases q0 b hm with h|h
  ·exact p2 h
  ·exact (hZ b h).2 q8
 ·rw[if_neg q4];intro hm;obtain rfl:b=g2:=by simpa using hm
  rcases q5 with⟨_,rfl,h⟩|h
  ·rw[if_neg h] at p3;exact p3 rfl
  ·omega
 ·intro k hk2 hm;rw[if_neg q4] at hk2;obtain rfl:k=g2:=by simpa using hk2
  rcases q5 with⟨_,rfl,h0⟩|h
  ·rcases q0 k hm with h|h
   ·exact p4 k (by simp[h0]) h
   ·exact (hZ k h).2 (by rw[AN];simp[h0])
  ·rcases q0 k hm with h'|h'
   ·have:=hlt k h';omega
   ·have:=(hZ k h').1;omega
 ·refine hk.mono fun k hk2=>?_;rw[E7];rcases hk2 with rfl|h
  ·simp
  ·obtain⟨rfl,h9⟩:=Gb hs h;simp[h9]
theorem Y6(h:Ad (f+1) w u (Zj b g (.slice al [])))(hn:(fp (f+1) (Zj b g (.slice al []))).Nodup)(hi:i<=al.length)(hb:al.length<=1000000000000)(hc:Ad f w (.pointer x) c)(qe:(fp f c).Nodup)(q6:∀k∈fp f c,k ∉ fp (f+1) (Zj b g (.slice al []))):
  A6 AI 249 #[plV pth b key i,.pointer x] w fun e w'=>e=.returned (.tuple #[]) /\ ∃g',(g'=g\/w.heap.size<=g')/\Du f w w' u (Zj b g (.slice al [])) (Zj b g' (.slice (ZS i c al) [])) (fun k=>k∈fp f c):=by
 have h0:=h;obtain⟨b2,g2,x2,e,hu,h⟩:=h;unfold Zj at e;injection e with e;injection e with e1 e;injection e with e2 e;injection e with e3 _;injection e1 with e1;injection e1 with _ e1;injection e2 with e2;injection e2 with _ e2;obtain rfl:b=b2:=by omega
 obtain rfl:g=g2:=by omega
 rcases h with⟨j,_,_,rfl,_⟩|⟨n,_,rfl,_⟩|⟨s,_,rfl,_⟩|⟨qf,sl,ps,rfl,hvb,ho,hs,ha⟩|⟨es,n,D,rfl,_⟩
 ·cases e3
 ·cases e3
 ·cases e3
 ·injection e3 with e3 _;subst e3;obtain⟨l,rfl,hl⟩:=Ij ha;rw[A5] at ho;obtain⟨p1,p2,p3,p4⟩:=EO hn;have qd:sl.ownBlock≠some b:=by grind
  refine (P8 (pth:=pth) (key:=key) (x:=x) hvb ho (by omega) (by omega) qd).mono ?_;intro e w' q5;have q1:=EK (fp f) (EF i c al);rw[A4] at q1;have q7:∀k∈al.flatMap (fp f),k∈fp (f+1) (Zj b g (.slice al [])):=fun k q0=>by grind [fp,Zj,AN]
  have q9:∀k,k=b\/sl.ownBlock=some k->k∈fp (f+1) (Zj b g (.slice al [])):=fun k hk=>by
   grind [fp,Zj,AN]
  have q4:∀k∈al.flatMap (fp f),k≠b/\sl.ownBlock≠some k:=by grind
  refine LF h0 hn hs ha q5 (fun W hW=>?_) ?_ ?_ (fun k hk=>⟨hc.lt k hk,q6 k hk⟩) (by have:=hvb.lt;omega)
  ·have qb:Al (Ad f W) (l.map AT) al:=ha.bel fun k q0=>hW k (ha.lts k q0) (q4 k q0).1 (q4 k q0).2;have q8:Ad f W (.pointer x) c:=hc.move fun k q0=>hW k (hc.lt k q0) (by grind) (by grind);rw[IW];exact qb.lins i q8
  ·grind
  grind
 ·cases e3
theorem Y1(h:Ad (f+1) w u (Zj b g (.slice al [])))(hn:(fp (f+1) (Zj b g (.slice al []))).Nodup)(hi:i<al.length):
  A6 AI 246 #[plV pth b key i] w fun e w'=>e=.returned (.tuple #[]) /\ ∃g',(g'=g\/w.heap.size<=g')/\Du f w w' u (Zj b g (.slice al [])) (Zj b g' (.slice (ZN i al) [])) (fun _=>False):=by
 have h0:=h;obtain⟨b2,g2,x2,e,hu,h⟩:=h;unfold Zj at e;injection e with e;injection e with e1 e;injection e with e2 e;injection e with e3 _;injection e1 with e1;injection e1 with _ e1;injection e2 with e2;injection e2 with _ e2;obtain rfl:b=b2:=by omega
 obtain rfl:g=g2:=by omega
 rcases h with⟨j,_,_,rfl,_⟩|⟨n,_,rfl,_⟩|⟨s,_,rfl,_⟩|⟨q9,sl,ps,rfl,hvb,ho,hs,ha⟩|⟨es,n,D,rfl,_⟩
 ·cases e3
 ·cases e3
 ·cases e3
 ·injection e3 with e3 _;subst e3;obtain⟨l,rfl,hl⟩:=Ij ha;rw[A5] at ho;obtain⟨p1,p2,p3,p4⟩:=EO hn;have q8:sl.ownBlock≠some b:=fun h=>by
   obtain⟨rfl,h9⟩:=Gb hs h;rw[if_neg h9] at p3;exact p3 rfl
  refine (PJ (pth:=pth) (key:=key) hvb ho (show i<l.length by omega) q8).mono ?_;intro e w' q6;obtain⟨old,q4⟩:∃old,al[i]? = some old:=⟨_,CD hi⟩
  have q2:=EK (fp f) (FE q4);rw[A4] at q2;have r1:=Bs.1 (q2.nodup_iff.1 p1);have q5:∀k∈al.flatMap (fp f),k≠b/\sl.ownBlock≠some k:=fun k q0=>⟨fun e=>p2 (e▸q0),fun h=>by
   obtain⟨rfl,h9⟩:=Gb hs h;exact p4 k (by simp[h9]) q0⟩
  refine LF h0 hn hs ha q6 (fun W hW=>?_) r1.2.1 (fun k q0=>A1 (q2.mem_iff.2 (List.mem_append_right _ q0))) (fun _ h=>h.elim) (by have:=hvb.lt;omega);have q7:Al (Ad f W) (l.map AT) al:=ha.bel fun k q0=>hW k (ha.lts k q0) (q5 k q0).1 (q5 k q0).2;rw[IX];exact q7.ldel i
 ·cases e3
end
theorem Hn(hn:(fp (f+1) (Zj b g (.map es))).Nodup):(es.flatMap fun p=>fp f p.2).Nodup/\(b ∉ es.flatMap fun p=>fp f p.2)/\(g ∉ es.flatMap fun p=>fp f p.2)/\b≠g:=by
 rw[Bi] at hn
 grind
theorem DJ(h:Ad (f+1) w u (Zj b g (.map es))):u=.pointer (some ⟨b,0,none⟩) /\ ∃D,VB w b 6 n0 [] (.slice none 0 0) (.map (some g))/\w.ownsMap AI 9 RV g es.length (.map D)/\Pt (Ad f w) D es:=by
 obtain⟨b2,g2,x2,e,hu,h⟩:=h;unfold Zj at e;injection e with e;injection e with e1 e;injection e with e2 e;injection e with e3 _;injection e1 with e1;injection e1 with _ e1;injection e2 with e2;injection e2 with _ e2;obtain rfl:b=b2:=by omega
 obtain rfl:g=g2:=by omega
 rcases h with⟨j,_,_,rfl,_⟩|⟨n,_,rfl,_⟩|⟨s,_,rfl,_⟩|⟨q0,sl,ps,rfl,hvb,ho,hs,ha⟩|⟨es,n,D,rfl,hvb,ho,hp⟩
 ·cases e3
 ·cases e3
 ·cases e3
 ·cases e3
 ·injection e3 with e3;subst e3;exact⟨hu,D,hvb,hp.len▸Ua ho,hp⟩
theorem Pt.bel(h:Pt (Ad f w) D es)(hk:∀k∈es.flatMap (fun p=>fp f p.2),w'.heap[k]? = w.heap[k]?):Pt (Ad f w') D es:=
 Pt.mem (fun _ p hp hu=>hu.move (by grind)) h
theorem Rv{n:Nat}{es':List (Lit×Zf)}{D':List (Lit×DataW A2)}(h:Ad (f+1) w u (Zj b g (.map es)))(hvb:VB w' b 6 n0 [] (.slice none 0 0) (.map (some g)))(ho:w'.ownsMap AI 9 RV g n (.map D'))(hp:Pt (Ad f w') D' es')(q0:(b::g::es'.flatMap (fun p=>fp f p.2)).Nodup)(hZ:∀k∈es'.flatMap (fun p=>fp f p.2),k∈es.flatMap (fun p=>fp f p.2)\/Z k)(hk:Ao (fun k=>k∈Z4 (Zj b g (.map es))) w w'):
  Du f w w' u (Zj b g (.map es)) (Zj b g (.map es')) Z:=by
 obtain⟨hu,_⟩:=DJ h;refine⟨⟨b,g,_,rfl,hu,by grind⟩,by rw[Bi];exact q0,?_,hk⟩
 grind [Bi,Zj,fp]
theorem Li(k:Lit)(es:List (Lit×Zf)):((ZF k es).flatMap fun p=>fp f p.2).Sublist (es.flatMap fun p=>fp f p.2):=by
 unfold ZF;induction es with
 | nil=>grind
 | cons y r ih=>
  grind
section
variable{f:Nat}{w:A3}{u:A2}{c:Zf}{pth:A2}{b g i:Nat}{key:By}{x:Option Addr}{es:List (Lit×Zf)}
theorem OS{n:Nat}(h:Ad (f+1) w u (Zj b g (.map es)))(hn:(fp (f+1) (Zj b g (.map es))).Nodup)(hc:Ad f w (.pointer x) c)(q7:(fp f c).Nodup)(q5:∀k∈fp f c,k ∉ fp (f+1) (Zj b g (.map es)))(hvb:VB w b 6 n0 [] (.slice none 0 0) (.map (some g)))(hp:Pt (Ad f w) D es)(ho:w'.ownsMap AI 9 RV g n (DataW.put (.map D) (.string key) (.held (.pointer x))))(hk:w.grownBy w' (some g)):
  Du f w w' u (Zj b g (.map es)) (Zj b g (.map (Zr (.string key) c es))) (fun k=>k∈fp f c):=by
 obtain⟨p1,p2,p3,p4⟩:=Hn hn;have hold:∀k,k<w.heap.size->k≠g->w'.heap[k]? = w.heap[k]?:=fun k q6 hk2=>hk.block k q6 (fun e=>hk2 (Dt e));have hb:b ∉ fp f c:=fun hm=>q5 b hm (by rw[Bi];simp);have hg:g ∉ fp f c:=fun hm=>q5 g hm (by rw[Bi];simp);have qb:Pt (Ad f w') D es:=hp.bel fun k q0=>hold k (hp.lts k q0) (fun e=>p3 (e▸q0));have q9:Ad f w' (.pointer x) c:=hc.move fun k q0=>hold k (hc.lt k q0) (fun e=>hg (e▸q0));have q:=(C4 (.string key) c es).flatMap_right (fun p=>fp f p.2);rw[A4] at q;have s:=Li (f:=f) (.string key) es;have q4:∀k∈(Zr (.string key) c es).flatMap (fun p=>fp f p.2),k∈es.flatMap (fun p=>fp f p.2)\/k∈fp f c:=fun k q0=>by
  rcases List.mem_append.1 (q.mem_iff.1 q0) with h|h
  ·exact CH h
  ·exact A1 (s.subset h)
 have q8:((Zr (.string key) c es).flatMap (fun p=>fp f p.2)).Nodup:=q.nodup_iff.2 (Bs.2 ⟨q7,p1.sublist s,fun y hy z hz e=>q5 y hy (by rw[Bi];exact CR _ (CR _ (s.subset (e▸hz))))⟩);refine Rv h (hvb.kept (hold b hvb.lt p4)) ho (Pt.insert _ _ _ q9 (Pt.filter (fun c=>!c.sameKey (.string key)) qb)) ?_ q4 ⟨hk.os,hk.tape,hk.output,hk.size,fun k q6 hk2=>hold k q6 (fun e=>hk2 (by rw[E6,e];simp))⟩;refine AS.2 ⟨fun hm=>?_,AS.2 ⟨fun hm=>?_,q8⟩⟩
 ·rcases C1.1 hm with e|hm
  ·exact p4 e
  ·exact (q4 b hm).elim p2 hb
 ·exact (q4 g hm).elim p3 hg
theorem YZ(h:Ad (f+1) w u (Zj b g (.map es)))(hn:(fp (f+1) (Zj b g (.map es))).Nodup)(q6:key.length<=1048576)(hl:es.length<=1000000000000)(hc:Ad f w (.pointer x) c)(q5:(fp f c).Nodup)(q0:∀k∈fp f c,k ∉ fp (f+1) (Zj b g (.map es))):
  A6 AI 250 #[plV pth b key i,.pointer x] w fun e w'=>e=.returned (.tuple #[])/\Du f w w' u (Zj b g (.map es)) (Zj b g (.map (Zr (.string key) c es))) (fun k=>k∈fp f c):=by
 obtain⟨_,D,hvb,ho,hp⟩:=DJ h;refine (VO (pth:=pth) (i:=i) (pu:=x) q6 (by unfold maxLen;omega) hvb ho).mono ?_;rintro e w' ⟨rfl,q4,hk⟩;exact⟨rfl,OS h hn hc q5 q0 hvb hp q4 hk⟩
theorem Y5(h:Ad (f+1) w u (Zj b g (.map es)))(hn:(fp (f+1) (Zj b g (.map es))).Nodup)(q6:key.length<=1048576)(hl:es.length<=1000000000000)(hc:Ad f w (.pointer x) c)(q5:(fp f c).Nodup)(q0:∀k∈fp f c,k ∉ fp (f+1) (Zj b g (.map es))):
  A6 AI 249 #[plV pth b key i,.pointer x] w fun e w'=>e=.returned (.tuple #[])/\Du f w w' u (Zj b g (.map es)) (Zj b g (.map (Zr (.string key) c es))) (fun k=>k∈fp f c):=by
 obtain⟨_,D,hvb,ho,hp⟩:=DJ h;refine (P7 (pth:=pth) (i:=i) (pu:=x) q6 (by unfold maxLen;omega) hvb ho).mono ?_;rintro e w' ⟨rfl,q4,hk⟩;exact⟨rfl,OS h hn hc q5 q0 hvb hp q4 hk⟩
theorem Kl(h:Ad (f+1) w u (Zj b g (.map es)))(hn:(fp (f+1) (Zj b g (.map es))).Nodup)(q7:key.length<=1048576):
  A6 AI 246 #[plV pth b key i] w fun e w'=>e=.returned (.tuple #[])/\Du f w w' u (Zj b g (.map es)) (Zj b g (.map (ZF (.string key) es))) (fun _=>False):=by
 obtain⟨_,D,hvb,ho,hp⟩:=DJ h;obtain⟨p1,p2,p3,p4⟩:=Hn hn;refine (PI (pth:=pth) (i:=i) q7 hvb ho).mono ?_;rintro e w' ⟨rfl,q6,hk⟩;have hold:∀k,k<w.heap.size->k≠g->w'.heap[k]? = w.heap[k]?:=fun k q4 hk2=>hk.block k q4 (fun e=>hk2 (Dt e));have q5:Pt (Ad f w') D es:=hp.bel fun k q0=>hold k (hp.lts k q0) (fun e=>p3 (e▸q0));have s:=Li (f:=f) (.string key) es;refine⟨rfl,Rv h (hvb.kept (hold b hvb.lt p4)) q6 (Pt.filter (fun c=>!c.sameKey (.string key)) q5) ?_ (fun k q0=>A1 (s.subset q0)) ⟨hk.os,hk.tape,hk.output,hk.size,fun k q4 hk2=>hold k q4 (fun e=>hk2 (by rw[E6,e];simp))⟩⟩;refine AS.2 ⟨fun hm=>?_,AS.2 ⟨fun hm=>p3 (s.subset hm),p1.sublist s⟩⟩;rcases C1.1 hm with e|hm
 ·exact p4 e
 ·exact p2 (s.subset hm)
end
def CY(n:Zf)(i m:Nat)(key:By):Prop:=(∃b g al,n=Zj b g (.slice al [])/\i<al.length+m/\al.length<=1000000000000) \/ ∃b g es,n=Zj b g (.map es)/\key.length<=1048576/\es.length<=1000000000000
def Zv(n:Zf):Nat:=match n with | .agg (.lit (.int _ b)::_)=>b.toNat|_=>0
section
variable{f:Nat}{w:A3}{u:A2}{n c:Zf}{pth:A2}{i:Nat}{key:By}{x:Option Addr}
def QJ(f:Nat)(w:A3)(u:A2)(n n':Zf)(Z:Nat->Prop)(e:Ending)(w':A3):Prop:=
 e=.returned (.tuple #[]) /\ ∃n2,(er (f+1) n2=er (f+1) n'/\AH n2=AH n' /\ ∀k∈Z4 n2,k∈Z4 n\/w.heap.size<=k)/\Du f w w' u n n2 Z
theorem OX{g' q:Nat}{q0:List Zf}(h:g'=g\/q<=g'):∀k∈Z4 (Zj b g' (.slice q0 [])),k∈Z4 (Zj b g (.slice al []))\/q<=k:=by
 intro k hk;rw[E7] at hk |-;rcases C1.1 hk with rfl|hk
 ·exact A1 (by simp)
 ·split at hk
  ·cases hk
  ·rename_i h0;obtain rfl:k=g':=by simpa using hk
   rcases h with rfl|h
   ·exact A1 (by simp[h0])
   ·exact CH h
theorem So(f b g g':Nat)(al:List Zf):er (f+1) (Zj b g (.slice al []))=er (f+1) (Zj b g' (.slice al [])):=by rw[bV,bV]
theorem Mv(h:Ad (f+1) w u n)(hn:(fp (f+1) n).Nodup)(hi:CY n i 0 key)(hc:Ad f w (.pointer x) c)(q4:(fp f c).Nodup)(q0:∀k∈fp f c,k ∉ fp (f+1) n):
  A6 AI 250 #[plV pth (Zv n) key i,.pointer x] w (QJ f w u n (Br i key c n) (fun k=>k∈fp f c)):=by
 rcases hi with⟨b,g,al,rfl,h1,h2⟩|⟨b,g,es,rfl,h1,h2⟩
 ·exact (Y0 h hn h1 hc q4 q0).mono fun e w' ⟨he,h⟩=>⟨he,_,⟨rfl,rfl,fun k hk=>A1 hk⟩,h⟩
 ·exact (YZ h hn h1 h2 hc q4 q0).mono fun e w' ⟨he,h⟩=>⟨he,_,⟨rfl,rfl,fun k hk=>A1 hk⟩,h⟩
theorem IH(h:Ad (f+1) w u n)(hn:(fp (f+1) n).Nodup)(hi:CY n i 1 key)(hc:Ad f w (.pointer x) c)(q4:(fp f c).Nodup)(q0:∀k∈fp f c,k ∉ fp (f+1) n):
  A6 AI 249 #[plV pth (Zv n) key i,.pointer x] w (QJ f w u n (BI i key c n) (fun k=>k∈fp f c)):=by
 rcases hi with⟨b,g,al,rfl,h1,h2⟩|⟨b,g,es,rfl,h1,h2⟩
 ·exact (Y6 h hn (by omega) h2 hc q4 q0).mono fun e w' ⟨he,g',hg,h⟩=>⟨he,_,⟨So f b g' g _,rfl,OX hg⟩,h⟩
 ·exact (Y5 h hn h1 h2 hc q4 q0).mono fun e w' ⟨he,h⟩=>⟨he,_,⟨rfl,rfl,fun k hk=>A1 hk⟩,h⟩
theorem Iz(h:Ad (f+1) w u n)(hn:(fp (f+1) n).Nodup)(hi:CY n i 0 key):
  A6 AI 246 #[plV pth (Zv n) key i] w (QJ f w u n (B6 i key n) (fun _=>False)):=by
 rcases hi with⟨b,g,al,rfl,h1,h2⟩|⟨b,g,es,rfl,h1,h2⟩
 ·exact (Y1 h hn h1).mono fun e w' ⟨he,g',hg,h⟩=>⟨he,_,⟨So f b g' g _,rfl,OX hg⟩,h⟩
 ·exact (Kl h hn h1).mono fun e w' ⟨he,h⟩=>⟨he,_,⟨rfl,rfl,fun k hk=>A1 hk⟩,h⟩
end
theorem JX{p:List Nat}{T n2:Zf}(hT:Ad (f+1+p.length) w v T)(hs:Zo p T=some n)(hN:(fp (f+1+p.length) T).Nodup)(hu:Ad (f+1) w u n)(h:Du f w w' u n n2 Z)(hZ:∀k,Z k->k<w.heap.size/\k ∉ fp (f+1+p.length) T):
  Ad (f+1+p.length) w' v (Zs p n2 T)/\(fp (f+1+p.length) (Zs p n2 T)).Nodup/\(∀k∈fp (f+1+p.length) (Zs p n2 T),k∈fp (f+1+p.length) T\/Z k\/w.heap.size<=k)/\Ao (fun k=>k∈fp (f+1+p.length) T) w w':=by
 have hlt:=hT.lt;refine⟨Ad.put hT hs hN (fun k q0 hk2=>h.kept.block k (hlt k q0) (fun q4=>hk2 (Hm hu k q4))) (fun u2 q5=>?_),Ri hs hN h.nd (fun k q0 hk2=>?_),?_,h.kept.mono fun k hk=>C0 hs k (Hm hu k hk)⟩
 ·obtain rfl:=q5.uniq hu;exact h.tr
 ·rcases h.sub k q0 with h1|h1|h1
  ·exact h1
  ·grind
  grind
 ·intro k hk;rcases Xm hs k hk with h1|h1
  ·grind
  ·exact (h.sub k h1).imp (C0 hs k) id
structure BG(L:Nat)(v:A2)(T:Zf)(M N:Nat->Prop)(wk w:A3):Prop where
 tree:∃T',er L T'=er L T/\Ad L w v T'/\(fp L T').Nodup /\ ∀k∈fp L T',¬ M k /\ ¬ N k
 held:∀k,M k->w.heap[k]? = wk.heap[k]?
 low:∀k,M k->k<w.heap.size
theorem BG.shift{L:Nat}{T T2:Zf}{M N:Nat->Prop}{wk q0:A3}(h:BG L v T M N wk w)(hT:er L T2=er L T)(hk:∀k,M k->q0.heap[k]? = wk.heap[k]?):BG L v T2 M N q0 w:=by
 obtain⟨T',e,h1,h2,h3⟩:=h.tree;exact⟨by grind,fun k hm=>(h.held k hm).trans (hk k hm).symm,h.low⟩
def Vk(N:Nat->Prop)(w w':A3):Prop:=w'.os=w.os/\w'.tape=w.tape/\w'.output=w.output/\w.heap.size<=w'.heap.size /\ ∀k,N k->w'.heap[k]? = w.heap[k]?
theorem H9{p:List Nat}{T0 m0 m1:Zf}{M0 M1 N:Nat->Prop}{wk0 wk1 wt:A3}(h0:Ad (f+1+p.length) wt v T0)(hs:Zo p T0=some m0)(hA:BG (f+1+p.length) v (Zs p m1 T0) M1 N wk1 w):
  ∃u n',er (f+1) n'=er (f+1) m1/\Ad (f+1) w u n'/\(fp (f+1) n').Nodup/\(∀k∈fp (f+1) n',¬ M1 k /\ ¬ N k) /\
   ∀ (n2:Zf) (Z:Nat->Prop) (w':A3),Du f w w' u n' n2 Z->er (f+1) n2=er (f+1) m0->(∀k,Z k->M1 k /\ ¬ M0 k)->(∀k,M0 k->M1 k/\wk1.heap[k]? = wk0.heap[k]?)->(∀k,N k -> ¬ M1 k/\k<w.heap.size) ->
    BG (f+1+p.length) v T0 M0 N wk0 w'/\Vk N w w':=by
 obtain⟨T',e,h1,h2,h3⟩:=hA.tree;have q4:Zo p (Zs p m1 T0)=some m1:=Ie m1 hs;have e1:=EL p (f+1) T';rw[e,EL p (f+1),q4] at e1;obtain⟨n',q0,en⟩:∃n',Zo p T'=some n'/\er (f+1) n'=er (f+1) m1:=by
  cases hx:Zo p T' with
  | none=>grind
  | some n'=>grind
 obtain⟨u,hu⟩:=Ad.at (f:=f+1) h1 q0;refine⟨u,n',en,hu,Bz q0 h2,fun k hk=>h3 k (C0 q0 k hk),?_⟩;intro n2 Z w' q7 e2 hZ hM hN;have q6:∀k,Z k->k<w.heap.size/\k ∉ fp (f+1+p.length) T':=fun k hk=>⟨hA.low k (hZ k hk).1,by grind⟩
 obtain⟨t1,t2,t3,t4⟩:=JX h1 q0 h2 hu q7 q6;have q5:=EL p (f+1) T0;rw[hs] at q5;have eT:er (f+1+p.length) (Zs p n2 T')=er (f+1+p.length) T0:=by
  rw[BF p (f+1) n2 q0,e2,e,BF p (f+1) m1 hs,Kn _ _ q5,<- BF p (f+1) m0 hs,Ad.put_self h0 hs]
 refine⟨⟨⟨Zs p n2 T',eT,t1,t2,fun k hk=>?_⟩,fun k hk=>?_,fun k hk=>Nat.lt_of_lt_of_le (hA.low k (hM k hk).1) t4.size⟩,t4.os,t4.tape,t4.output,t4.size,fun k hk=>t4.block k (hN k hk).2 fun hm=>(h3 k hm).2 hk⟩
 ·rcases t3 k hk with h|h|h
  ·grind
  ·grind
  ·exact⟨fun hm=>by have:=hA.low k (hM k hm).1;omega,by grind⟩
 ·rw[t4.block k (hA.low k (hM k hk).1) (by grind),hA.held k (hM k hk).1,(hM k hk).2]
theorem CY.er{q:Nat}{m:Zf}(hn:Ad (f+1) w u n)(e:er (f+1) n=er (f+1) m)(h:CY m i q key):CY n i q key/\Zv n=Zv m/\aR n:=by
 rcases h with⟨b,g,al,rfl,h1,h2⟩|⟨b,g,es,rfl,h1,h2⟩
 ·obtain⟨g',q0,rfl,e2⟩:=hn.er_arr e;have hl:q0.length=al.length:=by have:=congrArg DD e2;grind
  exact⟨A1 (by grind),rfl,A1 ⟨b,g',q0,rfl⟩⟩
 ·obtain⟨es',rfl,e2⟩:=hn.er_obj e;have hl:es'.length=es.length:=by have:=congrArg DD e2;grind
  exact⟨CH (by grind),rfl,CH ⟨b,g,es',rfl⟩⟩
def AJ(w:A3)(q:Nat)(pth:A2)(b:Nat)(key:By)(i:Nat):Prop:=w.heap[q]? = some (.cells #[pth,.pointer (some ⟨b,0,none⟩),.string ⟨key.toArray⟩,.int .i64 i] 185 (0,0))
def FY(w:A3)(q:Nat)(x:Option Addr):Prop:=w.heap[q]? = some (.cells #[.pointer x] 80 (0,0))
section
variable{w:A3}{q q2 b i:Nat}{pth:A2}{key:By}{x:Option Addr}{Q:A3->Prop}
theorem AJ.c0(h:AJ w q pth b key i):w.cell? ⟨q,0,none⟩=some pth:=by simp[BY,show w.heap[q]? = _ from h]
theorem AJ.c1(h:AJ w q pth b key i):w.cell? ⟨q,1,none⟩=some (.pointer (some ⟨b,0,none⟩)):=by simp[BY,show w.heap[q]? = _ from h]
theorem AJ.c2(h:AJ w q pth b key i):w.cell? ⟨q,2,none⟩=some (.string ⟨key.toArray⟩):=by simp[BY,show w.heap[q]? = _ from h]
theorem AJ.c3(h:AJ w q pth b key i):w.cell? ⟨q,3,none⟩=some (.int .i64 i):=by simp[BY,show w.heap[q]? = _ from h]
theorem FY.c0(h:FY w q x):w.cell? ⟨q,0,none⟩=some (.pointer x):=by simp[BY,show w.heap[q]? = _ from h]
def Ent(f:Nat):Prop:=∀args w,(callFunc f args).run AI w=.ok (.enter f args) w
theorem Fv{f:FuncId}{fn:Func}{c:Code}(hf:Tryz.prog.funcs[f]? = some fn)(q0:(fn.name == "runtime.NumGoroutine")=false)(hb:fn.body=some c):Ent f:=by
 intro args w;have h1:¬ fn.name = "runtime.NumGoroutine" := by simpa using q0
 simp[callFunc,hf,h1,hb]
theorem Qi:Ent 252:=Fv func252 (by kernel_rfl) rfl
theorem Qh:Ent 248:=Fv func248 (by kernel_rfl) rfl
theorem UF:Ent 251:=Fv func251 (by kernel_rfl) rfl
theorem NA(hq:AJ w q pth b key i)(hC:A6 AI 246 #[plV pth b key i] w fun e w'=>e=.returned (.tuple #[])/\Q w'):
  A6 AI 252 #[.pointer (some ⟨q,0,none⟩)] w fun e w'=>e=.returned (.tuple #[])/\Q w':=by
 have c0:=hq.c0;have c1:=hq.c1;have c2:=hq.c2;have c3:=hq.c3;have HC:=Ab hC;clear hC hq
 go_enter func252,ntmps252
 go_wp2_with (fail);refine (Aa HC).mono ?_
 rintro e w' ⟨rfl,hQ⟩
 go_wp2_with (fail);exact C2 (Dp rfl _ _ _) rfl ⟨rfl,hQ⟩
theorem Nx(hq:AJ w q pth b key i)(hx:FY w q2 x)(hC:A6 AI 249 #[plV pth b key i,.pointer x] w fun e w'=>e=.returned (.tuple #[])/\Q w'):
  A6 AI 248 #[.pointer (some ⟨q,0,none⟩),.pointer (some ⟨q2,0,none⟩)] w fun e w'=>e=.returned (.tuple #[])/\Q w':=by
 have c0:=hq.c0;have c1:=hq.c1;have c2:=hq.c2;have c3:=hq.c3;have d0:=hx.c0;have HC:=Ab hC;clear hC hq hx
 go_enter func248,ntmps248
 go_wp2_with (fail);refine (Aa HC).mono ?_
 rintro e w' ⟨rfl,hQ⟩
 go_wp2_with (fail);exact C2 (Dp rfl _ _ _) rfl ⟨rfl,hQ⟩
theorem Qv(hq:AJ w q pth b key i)(hx:FY w q2 x)(hC:A6 AI 250 #[plV pth b key i,.pointer x] w fun e w'=>e=.returned (.tuple #[])/\Q w'):
  A6 AI 251 #[.pointer (some ⟨q,0,none⟩),.pointer (some ⟨q2,0,none⟩)] w fun e w'=>e=.returned (.tuple #[])/\Q w':=by
 have c0:=hq.c0;have c1:=hq.c1;have c2:=hq.c2;have c3:=hq.c3;have d0:=hx.c0;have HC:=Ab hC;clear hC hq hx
 go_enter func251,ntmps251
 go_wp2_with (fail);refine (Aa HC).mono ?_
 rintro e w' ⟨rfl,hQ⟩
 go_wp2_with (fail);exact C2 (Dp rfl _ _ _) rfl ⟨rfl,hQ⟩
end
theorem dC{k:Lit}:(Zr k c es).length<=es.length+1:=by
 have h1:=(C4 k c es).length_eq;have h2:(ZF k es).length<=es.length:=CL _ _;rw[h1,List.length_cons];omega
def AR(n:Zf)(i:Nat)(key:By)(c:Zf):Prop:=(∃b g al,n=Zj b g (.slice al [])/\al[i]? = some c) \/ ∃b g es,n=Zj b g (.map es)/\(Lit.string key,c)∈es/\AL es
def GU(n:Zf)(i:Nat)(key:By):Prop:=(∃b g al,n=Zj b g (.slice al [])/\i<=al.length) \/ ∃b g es,n=Zj b g (.map es) /\ ∀p∈es,p.1≠Lit.string key
theorem GU.back(h:GU n i key):B6 i key (BI i key c n)=n:=by
 rcases h with⟨b,g,al,rfl,h⟩|⟨b,g,es,rfl,h⟩
 ·unfold B6 BI;rw[C9,C9,RS c h]
 ·unfold B6 BI;rw[CG,CG,Lh,RN h]
theorem AR.ins(h:AR n i key c):BI i key c (B6 i key n)=n:=by
 rcases h with⟨b,g,al,rfl,h⟩|⟨b,g,es,rfl,h,hs⟩
 ·unfold B6 BI;rw[C9,C9,Hu h]
 ·unfold B6 BI;rw[CG,CG,Hp,FG hs h]
theorem AR.set{d:Zf}(h:AR n i key c):Br i key c (Br i key d n)=n:=by
 rcases h with⟨b,g,al,rfl,h⟩|⟨b,g,es,rfl,h,hs⟩
 ·unfold Br;rw[C9,C9,RO h]
 ·unfold Br;rw[CG,CG,RG,FG hs h]
theorem GU.box(h:GU n i key):aR n:=h.imp (fun ⟨b,g,al,e,_⟩=>⟨b,g,al,e⟩) (fun ⟨b,g,es,e,_⟩=>⟨b,g,es,e⟩)
theorem AR.box(h:AR n i key c):aR n:=h.imp (fun ⟨b,g,al,e,_⟩=>⟨b,g,al,e⟩) (fun ⟨b,g,es,e,_⟩=>⟨b,g,es,e⟩)
theorem bX{F:List Zf->List Zf}{G:List (Lit×Zf)->List (Lit×Zf)}(h:aR n):aR (bF F G n)/\Zv (bF F G n)=Zv n:=by
 rcases h with⟨b,g,al,rfl⟩|⟨b,g,es,rfl⟩
 ·exact⟨A1 ⟨b,g,F al,rfl⟩,rfl⟩
 ·exact⟨CH ⟨b,g,G es,rfl⟩,rfl⟩
def B4(n:Zf)(key:By):Prop:=(AH n).length+1<=1000000000000/\key.length<=1048576
theorem GU.at(h:GU n i key)(hr:B4 n key):CY n i 1 key/\CY (BI i key c n) i 0 key:=by
 obtain⟨h1,h2⟩:=hr;rcases h with⟨b,g,al,rfl,h⟩|⟨b,g,es,rfl,h⟩
 ·rw[BO] at h1;have:=GH c h;exact⟨A1 ⟨b,g,al,rfl,by omega,by omega⟩,A1 ⟨b,g,ZS i c al,rfl,by omega,by omega⟩⟩
 ·rw[Bx,A5] at h1;have:=dC (k:=.string key) (c:=c) (es:=es);exact⟨CH ⟨b,g,es,rfl,h2,by omega⟩,CH ⟨b,g,Zr (.string key) c es,rfl,h2,by omega⟩⟩
theorem AR.at(h:AR n i key c)(hr:B4 n key):CY n i 0 key/\CY (B6 i key n) i 1 key /\ ∀d,CY (Br i key d n) i 0 key:=by
 obtain⟨h1,h2⟩:=hr;rcases h with⟨b,g,al,rfl,h⟩|⟨b,g,es,rfl,h,_⟩
 ·rw[BO] at h1;obtain⟨hi,_⟩:=List.getElem?_eq_some_iff.1 h;have:=IZ hi;exact⟨A1 ⟨b,g,al,rfl,by omega,by omega⟩,A1 ⟨b,g,ZN i al,rfl,by omega,by omega⟩,fun d=>A1 ⟨b,g,al.set i d,rfl,by simpa using hi,by simp;omega⟩⟩
 ·rw[Bx,A5] at h1;have h3:(ZF (.string key) es).length<=es.length:=CL _ _;exact⟨CH ⟨b,g,es,rfl,h2,by omega⟩,CH ⟨b,g,ZF (.string key) es,rfl,h2,by omega⟩,fun d=>CH ⟨b,g,Zr (.string key) d es,rfl,h2,by have:=dC (k:=.string key) (c:=d) (es:=es);omega⟩⟩
def NW(L:Nat)(v:A2)(fn:Nat)(cs:Array A2)(T0 T1:Zf)(M0 M1:Nat->Prop)(wk0 wk1:A3):Prop:=
 ∀ (N:Nat->Prop) (w:A3),(∀k,N k -> ¬ M1 k/\k<w.heap.size)->BG L v T1 M1 N wk1 w->A6 AI fn cs w fun e w'=>e=.returned (.tuple #[])/\BG L v T0 M0 N wk0 w'/\Vk N w w'
section
variable{f:Nat}{p:List Nat}{v:A2}{T0 m0 c x:Zf}{M0 M1:Nat->Prop}{wk0 wk1 wt:A3}{q q2 i:Nat}{pth:A2}{key:By}{pc:Option Addr}
theorem OA(h0:Ad (f+1+p.length) wt v T0)(hs:Zo p T0=some m0)(hf:GU m0 i key)(hr:B4 m0 key)(hq:AJ wk1 q pth (Zv m0) key i)(q0:M1 q)(hM:∀k,M0 k->M1 k/\wk1.heap[k]? = wk0.heap[k]?):
  NW (f+1+p.length) v 252 #[.pointer (some ⟨q,0,none⟩)] T0 (Zs p (BI i key c m0) T0) M0 M1 wk0 wk1:=by
 intro N w hN hA;obtain⟨u,n',en,hu,q4,_,q5⟩:=H9 h0 hs hA;obtain⟨b1,b2,b3⟩:=CY.er hu en (hf.at hr).2;rw[show Zv (BI i key c m0)=Zv m0 from (bX hf.box).2] at b2;refine NA (b:=Zv n') (by rw[b2];exact (hA.held q q0).trans hq) ((Iz hu q4 b1).mono ?_);rintro e w' ⟨rfl,n2,⟨e2,_⟩,hE⟩;refine⟨rfl,q5 n2 _ w' hE ?_ (fun _ h=>h.elim) hM hN⟩;rw[e2,Sr b3,en,<- Sr (show aR (BI i key c m0) from (bX hf.box).1),hf.back]
theorem Oz(h0:Ad (f+1+p.length) wt v T0)(hs:Zo p T0=some m0)(hf:AR m0 i key c)(hr:B4 m0 key)(hq:AJ wk1 q pth (Zv m0) key i)(q4:M1 q)(hx:FY wk1 q2 pc)(q5:M1 q2)(hc:Ad f wk1 (.pointer pc) c)(q6:(fp f c).Nodup)(q0:∀k∈fp f c,M1 k /\ ¬ M0 k)(hM:∀k,M0 k->M1 k/\wk1.heap[k]? = wk0.heap[k]?):
  NW (f+1+p.length) v 248 #[.pointer (some ⟨q,0,none⟩),.pointer (some ⟨q2,0,none⟩)] T0 (Zs p (B6 i key m0) T0) M0 M1 wk0 wk1:=by
 intro N w hN hA;obtain⟨u,n',en,hu,q7,q9,q8⟩:=H9 h0 hs hA;obtain⟨b1,b2,b3⟩:=CY.er hu en (hf.at hr).2.1;rw[show Zv (B6 i key m0)=Zv m0 from (bX hf.box).2] at b2;have qb:Ad f w (.pointer pc) c:=hc.move fun k hk=>hA.held k (q0 k hk).1;refine Nx (b:=Zv n') (by rw[b2];exact (hA.held q q4).trans hq) ((hA.held q2 q5).trans hx) ((IH hu q7 b1 qb q6 (fun k hk hm=>(q9 k hm).1 (q0 k hk).1)).mono ?_);rintro e w' ⟨rfl,n2,⟨e2,_⟩,hE⟩;refine⟨rfl,q8 n2 _ w' hE ?_ q0 hM hN⟩;rw[e2,Sv b3,en,<- Sv (show aR (B6 i key m0) from (bX hf.box).1),hf.ins]
theorem S5(h0:Ad (f+1+p.length) wt v T0)(hs:Zo p T0=some m0)(hf:AR m0 i key c)(hr:B4 m0 key)(hq:AJ wk1 q pth (Zv m0) key i)(q4:M1 q)(hx:FY wk1 q2 pc)(q5:M1 q2)(hc:Ad f wk1 (.pointer pc) c)(q6:(fp f c).Nodup)(q0:∀k∈fp f c,M1 k /\ ¬ M0 k)(hM:∀k,M0 k->M1 k/\wk1.heap[k]? = wk0.heap[k]?):
  NW (f+1+p.length) v 251 #[.pointer (some ⟨q,0,none⟩),.pointer (some ⟨q2,0,none⟩)] T0 (Zs p (Br i key x m0) T0) M0 M1 wk0 wk1:=by
 intro N w hN hA;obtain⟨u,n',en,hu,q7,q9,q8⟩:=H9 h0 hs hA;obtain⟨b1,b2,b3⟩:=CY.er hu en ((hf.at hr).2.2 x);rw[show Zv (Br i key x m0)=Zv m0 from (bX hf.box).2] at b2;have qb:Ad f w (.pointer pc) c:=hc.move fun k hk=>hA.held k (q0 k hk).1;refine Qv (b:=Zv n') (by rw[b2];exact (hA.held q q4).trans hq) ((hA.held q2 q5).trans hx) ((Mv hu q7 b1 qb q6 (fun k hk hm=>(q9 k hm).1 (q0 k hk).1)).mono ?_);rintro e w' ⟨rfl,n2,⟨e2,_⟩,hE⟩;refine⟨rfl,q8 n2 _ w' hE ?_ q0 hM hN⟩;rw[e2,Sn b3,en,<- Sn (show aR (Br i key x m0) from (bX hf.box).1),hf.set]
end
end Go.Proofs.YtdpomdelmdofmaaGreatDoor
