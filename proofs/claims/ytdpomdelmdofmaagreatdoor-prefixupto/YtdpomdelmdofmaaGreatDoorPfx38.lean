import Derived.Test.YtdpomdelmdofmaaGreatDoorPfx37
open Go renaming getD_set_ne->AI,Value->A3,DataW->Bs,wpOp_step->BY,getD_set_true->D0,World->F1,heap_alloc_new->HG,Calls->H4
open Or renaming inr->AS,inl->G3
open Go.Lit renaming string->AT
open Go.Proofs.Tryz renaming prog->A1
open List renaming any_eq_true->A4,length_append->CH,mem_filter->CL,mem_cons_self->D3,mem_cons->Ft,mem_cons_of_mem->F5,mem_map->G0,pairwise_cons->HH,length_cons->HM,pairwise_map->HW,getElem_mem->HY,cons_append->HZ,filter_cons->H1,length_map->H2,nodup_cons->H3,lt_irrefl->H5
open Nat renaming lt_of_lt_of_le->A5,le_refl->A6,le_trans->Dp,zero_le->HK,succ_le_succ->HQ
open Go.DataW renaming map->CD,insert->HX
open Go.WideAt renaming sameKey_eq->CR,atKey_mem->Dt
open Go.Maps renaming has->C2,Canon->HU
open Go.RowKit renaming Below->DD
open Option.some renaming inj->D1
open Option renaming map_eq_some_iff->E0
open Go.World renaming cell?_of_block->F2,cell?->HJ
open Array renaming getElem?_eq_some_iff->HA,getD->HR
open Go.RowKit.Below renaming refl->HF
open Go.Value renaming ownBlock->HV
set_option maxRecDepth 100000
set_option maxHeartbeats 8000000
namespace Go.Proofs.YtdpomdelmdofmaaGreatDoor
open Go.Proofs.Tryz Go.RowKit Go.Maps
variable{f B cnt:Nat}{w wr:F1}{G F:Nat->Prop}{kv pv fv vv v:A3}{o:Zk}{es:List (Lit×To)}{left:Lit->Bool}{kl:Lit}{k:By}{α:Type}{Zg:Int}
def KL(f:Nat)(w:F1)(G:Nat->Prop)(kv pv fv vv:A3)(o:Zk):Prop:=
 kv=.int .i64 o.1/\o.1<3/\Au w G pv o.2.1/\fv=.slice none 0 0/\((o.1=1/\vv=.pointer none)\/(o.1≠1/\Rep f G w vv o.2.2))
theorem KL.move{w':F1}{G':Nat->Prop}(h:KL f w G kv pv fv vv o)(hk:∀k,G k->k<w.heap.size->w'.heap[k]? = w.heap[k]? /\ G' k):KL f w' G' kv pv fv vv o:=
 ⟨h.1,h.2.1,h.2.2.1.move hk,h.2.2.2.1,h.2.2.2.2.imp id fun ⟨a,b⟩=>⟨a,b.move hk⟩⟩
theorem Rep.dn{d x:Int}{F:Nat->Prop}{w:F1}:∀ {f g h:Nat} {lv:Int} {v:A3} {t:To},Rep f F w v t->Zl d x h lv t->d<lv+g->Rep g F w v t
 | 0,_,_,_,_,_,hr,_,_=>hr.elim
 | _+1,_,0,_,_,_,_,hg,_=>hg.elim
 | _+1,0,_+1,_,_,_,_,hg,hd=>by
  have:=hg.1;omega
 | f+1,g+1,h+1,lv,v,t,hr,hg,hd=>by
  obtain⟨b,e,hF,hr⟩:=hr;refine⟨b,e,hF,?_⟩;rcases hr with⟨k,hk,e2,hv⟩|⟨n,e2,hv,hb⟩|⟨s,e2,hv⟩|⟨es,sl,ps,e2,hv,ho,hs,ha⟩|⟨es,m,n,D,e2,hv,hm,ho,hp⟩
  ·exact G3 ⟨k,hk,e2,hv⟩
  ·exact AS (G3 ⟨n,e2,hv,hb⟩)
  ·exact AS (AS (G3 ⟨s,e2,hv⟩))
  ·refine AS (AS (AS (G3 ⟨es,sl,ps,e2,hv,ho,hs,Al.mem (fun a c hc hu=>?_) ha⟩)));obtain⟨_,hg⟩:=hg;rcases hg with⟨k,_,e3⟩|⟨s,_,e3⟩|⟨n,_,_,_,e3⟩|⟨es',he,e3⟩|⟨es',_,_,e3⟩
   ·rw[e2] at e3;cases e3
   ·rw[e2] at e3;cases e3
   ·rw[e2] at e3;cases e3
   ·rw[e2] at e3;injection e3 with e3 _;subst e3;exact Rep.dn hu (he c hc) (by omega)
   ·rw[e2] at e3;cases e3
  ·refine AS (AS (AS (AS ⟨es,m,n,D,e2,hv,hm,ho,Pt.mem (fun a p hc hu=>?_) hp⟩)));obtain⟨_,hg⟩:=hg;rcases hg with⟨k,_,e3⟩|⟨s,_,e3⟩|⟨n,_,_,_,e3⟩|⟨es',_,e3⟩|⟨es',_,he,e3⟩
   ·rw[e2] at e3;cases e3
   ·rw[e2] at e3;cases e3
   ·rw[e2] at e3;cases e3
   ·rw[e2] at e3;cases e3
   ·rw[e2] at e3;injection e3 with e3;subst e3;exact Rep.dn hu (he p hc).2 (by omega)
def PQ(k:Nat):Bool:=!(k==1)
theorem Rt(h:GS w){k:Nat}(hk:k<3):3<w.heap.size/\w.cell? ⟨3,k*3,none⟩=some (.string ⟨(AQ k).toArray⟩)/\w.cell? ⟨3,k*3+1,none⟩=some (.bool (PQ k))/\w.cell? ⟨3,k*3+2,none⟩=some (.bool false):=by
 obtain⟨t,fr,e⟩:=h;have hc:∀i,w.cell? ⟨3,i,none⟩=Cu[i]?:=fun i=>by simp[HJ,e]
 refine⟨(HA.1 e).1,?_⟩;rw[hc,hc,hc]
 match k,hk with
 | 0,_=>exact⟨rfl,rfl,rfl⟩
 | 1,_=>exact⟨rfl,rfl,rfl⟩
 | 2,_=>exact⟨rfl,rfl,rfl⟩
theorem StB.rep{s:By}(h:StB w B v s)(hF:∀k,B<=k->F k):Rep (f+1) F w v (Aq s):=by
 obtain⟨p,rfl,h1,h2⟩:=h;exact⟨p,rfl,hF p h1,AS (AS (G3 ⟨s,rfl,h2⟩))⟩
theorem SA(h:KL (f+1) w G kv pv fv vv o)(hs:(o.2.1.map fun t=>t.length+1).sum<=1000000)(hT:Af w):
  H4 A1 122 #[.agg #[kv,pv,fv,vv]] w fun e w'=>∃p,e=.returned (.pointer (some ⟨p,0,none⟩))/\w.heap.size<=p/\Rep (f+2) (fun q=>(G q/\q<w.heap.size)\/w.heap.size<=q) w' (.pointer (some ⟨p,0,none⟩)) (B3 o)/\DD w.heap.size w w':=by
 obtain⟨rfl,hk,ht,rfl,hv⟩:=h;obtain⟨pa,pl,pc,rfl⟩:=EY ht;obtain⟨y,rfl⟩:∃y,vv=.pointer y:=by
  rcases hv with⟨_,rfl⟩|⟨_,hr⟩
  ·exact⟨_,rfl⟩
  ·obtain⟨b,e,_⟩:=Rep.ptr hr;exact⟨_,e⟩
 obtain⟨hl,c0,c1,c2⟩:=Rt hT.otab hk;refine (Sy (nm:=AQ o.1) (ps:=AV o.2.1) (by omega) hl c0 c1 c2 fun w' hb=>Oa (ht.move fun k hk q4=>⟨hb.block k q4,hk⟩).toks hs (hT.below (hb.mono hT.ng)).pesc).mono ?_;rintro e w' ⟨p,M,x12,x16,rfl,hvb,hp,hM,h1,h2,hb,ho⟩;refine⟨p,rfl,hp,?_,hb⟩;have r1:Rep (f+1) (fun q=>(G q/\q<w.heap.size)\/w.heap.size<=q) w' x12 (Aq (AQ o.1)):=h1.rep fun k hk=>AS hk;have r2:Rep (f+1) (fun q=>(G q/\q<w.heap.size)\/w.heap.size<=q) w' x16 (Aq (AV o.2.1)):=h2.rep fun k hk=>AS hk;rcases hv with⟨q0,e⟩|⟨q0,hr⟩
 ·have en:PQ o.1=false:=by rw[q0];rfl
  rw[en] at ho;refine⟨p,rfl,AS hp,AS (AS (AS (AS ⟨[(.string ZP,Aq (AQ o.1)),(.string Bc,Aq (AV o.2.1))],M,3,_,?_,hvb,AS hM,ho,?_⟩)))⟩
  ·unfold B3;rw[if_pos q0]
  ·exact⟨⟨rfl,x12,rfl,r1⟩,⟨rfl,x16,rfl,r2⟩,trivial⟩
 ·have en:PQ o.1=true:=by unfold PQ;simpa using q0
  rw[en] at ho;refine⟨p,rfl,AS hp,AS (AS (AS (AS ⟨[(.string ZP,Aq (AQ o.1)),(.string Bc,Aq (AV o.2.1)),(.string Ba,o.2.2)],M,3,_,?_,hvb,AS hM,ho,?_⟩)))⟩
  ·unfold B3;rw[if_neg q0]
  ·exact⟨⟨rfl,x12,rfl,r1⟩,⟨rfl,x16,rfl,r2⟩,⟨rfl,.pointer y,rfl,hr.move fun k hk q4=>⟨hb.block k q4,G3 ⟨hk,q4⟩⟩⟩,trivial⟩
theorem UH(hf:0<f)(h:KL f w G kv pv fv vv o)(hs:(o.2.1.map fun t=>t.length+1).sum<=1000000)(hT:Af w):
  H4 A1 122 #[.agg #[kv,pv,fv,vv]] w fun e w'=>∃p,e=.returned (.pointer (some ⟨p,0,none⟩))/\w.heap.size<=p/\Rep (f+1) (fun q=>(G q/\q<w.heap.size)\/w.heap.size<=q) w' (.pointer (some ⟨p,0,none⟩)) (B3 o)/\DD w.heap.size w w':=by
 cases f with
 | zero=>omega
 | succ f=>exact SA h hs hT
theorem Rep.arr{b:Nat}{es:List To}{sl:A3}{ps:List A3}(hF:F b)(h:VB w b 5 n0 [] sl (.map none))(ho:w.ownsRow 0 80 1 sl ps.length ps)(hs:∀g,sl.ownBlock=some g->F g)(ha:Al (Rep f F w) ps es):Rep (f+1) F w (.pointer (some ⟨b,0,none⟩)) (Ap es):=
 ⟨b,rfl,hF,AS (AS (AS (G3 ⟨es,sl,ps,rfl,h,ho,hs,ha⟩)))⟩
structure TxI(wb:F1)(B vb:Nat)(sl:A3)(n:Nat)(xs:List A3)(ov:A3)(f:Nat)(F:Nat->Prop)(d:To)(A:A3->A3->A3->A3->A3->A3->A3->A3->A3->A3->A3->Act)(l:Array Bool)(a:Act)(w:F1):Prop where
 sz:l.size=12
 os:w.os=wb.os
 tape:w.tape=wb.tape
 output:w.output=wb.output
 size:wb.heap.size<=w.heap.size
 kept:∀k,k<wb.heap.size->sl.ownBlock≠some k->k≠vb->w.heap[k]? = wb.heap[k]?
 row0:l.getD 8 false=false -> ∀k,sl.ownBlock=some k->w.heap[k]? = wb.heap[k]?
 vb0:l.getD 11 false=false->w.heap[vb]? = wb.heap[vb]?
 d7:l.getD 7 false=true->l.getD 6 false=true/\l.getD 6 false=true
 d8:l.getD 8 false=true->l.getD 7 false=true/\l.getD 4 false=true
 d11:l.getD 11 false=true->l.getD 8 false=true/\l.getD 10 false=true
 ex:∃x14 x15 x16 x17 x18 x19 x20 x21 x22 x23 x24,a=A x14 x15 x16 x17 x18 x19 x20 x21 x22 x23 x24 /\
  (l.getD 0 false=true->x14=.pointer (some ⟨vb,0,none⟩))/\(l.getD 1 false=true->x15=.pointer (some ⟨vb,0,none⟩))/\(l.getD 2 false=true->x16=.pointer (some ⟨vb,0,none⟩))/\(l.getD 3 false=true->x17=.pointer (some ⟨vb,5,none⟩)) /\
  (l.getD 4 false=true->x18=sl)/\(l.getD 5 false=true->x19=ov)/\(l.getD 6 false=true->Hid (∃p,x20=.pointer p))/\(l.getD 6 false=true->l.getD 8 false=false->Rep f (fun q=>F q\/wb.heap.size<=q) w x20 d) /\
  (l.getD 7 false=true -> ∃g,x21=.slice (some ⟨g,0,none⟩) 1 1/\wb.heap.size<=g/\(l.getD 8 false=false->w.heap[g]? = some (.cells #[x20] 80 (0,0)))) /\
  (l.getD 8 false=true -> ∃q cap,x22=.slice (some ⟨q,0,none⟩) (n+1) cap/\w.ownsRow B 80 1 x22 (n+1) (xs++[x20])/\(sl.ownBlock=some q\/wb.heap.size<=q)/\Rep f (fun k=>(F k\/wb.heap.size<=k)/\k≠q) w x20 d) /\
  (l.getD 9 false=true->x23=.pointer (some ⟨vb,0,none⟩))/\(l.getD 10 false=true->x24=.pointer (some ⟨vb,5,none⟩))/\(l.getD 11 false=true->VB w vb 5 n0 [] x22 (.map none))
structure TxR(w:F1)(G:Nat->Prop)(f:Nat)(j:List Zk)(k:Nat)(xs:List A3)(sl:A3)(wr:F1):Prop where
 bel:DD w.heap.size w wr
 box:VB wr w.heap.size 5 n0 [] sl (.map none)
 own:wr.ownsRow (w.heap.size+1) 80 1 sl k xs
 al:Al (Rep f (fun q=>(G q/\q<w.heap.size)\/(w.heap.size+1<=q/\sl.ownBlock≠some q)) wr) xs ((j.take k).map B3)
theorem PN{ao:Option Addr}{N cap:Nat}{j:List Zk}(hf:0<f)(hN:N=j.length)(qx:0<N -> ∃g,ao=some ⟨g,0,none⟩/\g<w.heap.size/\N<=cap /\ ∀k (hk:k<j.length),∃pa pl pc y,KL f w G (.int .i64 j[k].1) (.slice pa pl pc) (.slice none 0 0) (.pointer y) j[k]/\w.cell? ⟨g,k*4,none⟩=some (.int .i64 j[k].1)/\w.cell? ⟨g,k*4+1,none⟩=some (.slice pa pl pc)/\w.cell? ⟨g,k*4+2,none⟩=some (.slice none 0 0)/\w.cell? ⟨g,k*4+3,none⟩=some (.pointer y))(hp:∀o∈j,(o.2.1.map fun t=>t.length+1).sum<=1000000)(hn:N<=10000000000000)(hl:(Zm (f+2) (Ap (j.map B3))).length<=8796093022208)(hT:Af w):
  H4 A1 87 #[.slice ao N cap] w fun e w'=>e=.returned (.string ⟨(Zm (f+2) (Ap (j.map B3))).toArray⟩)/\DD w.heap.size w w':=by
 have zl:=hT.ng;obtain⟨W0,qy⟩:∃W0,W0=w.alloc (.cells #[.int .i64 5,.bool false,.string ⟨#[]⟩,.int .i64 0,.string ⟨#[]⟩,.slice none 0 0,.map none] 111):=⟨_,rfl⟩
 have zj:DD w.heap.size w W0:=by rw[qy];exact (HF _ _).alloc (A6 _) _
 have H0:=Ab (show TxR w G (f+1) j 0 [] (.slice none 0 0) W0 from⟨zj,by rw[qy];exact HG w _,⟨rfl,G3 ⟨rfl,rfl⟩⟩,by rw[List.take_zero];trivial⟩);have HN:=Ab hN;have z7:=Ab qx;have HP:=Ab hp;have HL:=Ab hl;have HT:=Ab hT;have zy:=Ab qy;clear hN qx hp hl hT qy zj
 go_enter func87,ntmps87
 go_wp2_with (fail);rw[<- Aa zy]
 go_loopw [10] (fun i wr=>∃ (k:Nat) (xs:List A3) (sl:A3),k<=N/\i=.int .i64 k/\Hid (TxR w G (f+1) j k xs sl wr)) (fun i _=>N-(intOf i).toNat)
 case atStart=>exact⟨0,[],.slice none 0 0,by omega,rfl,H0⟩
 case round=>
  obtain⟨k,xs,sl,hk,rfl,HI⟩:=hrel;by_cases hlt:k<N
  ·have zb:k<j.length:=by have:=Aa HN;omega
   obtain⟨g,rfl,hg,y4,hc⟩:=Aa z7 (by omega);obtain⟨pa,pl,pc,y,ho,c0,c1,c2,c3⟩:=hc k zb;obtain⟨kk,hkk⟩:∃kk,kk=j[k].1:=⟨_,rfl⟩
   rw[<- hkk] at ho c0;have qr:=(Aa HI).bel;have k0:=(qr.cell (p:=⟨g,k*4,none⟩) hg).trans c0;have k1:=(qr.cell (p:=⟨g,k*4+1,none⟩) hg).trans c1;have k2:=(qr.cell (p:=⟨g,k*4+2,none⟩) hg).trans c2;have k3:=(qr.cell (p:=⟨g,k*4+3,none⟩) hg).trans c3;have ze:(k:Int)<(N:Int):=by omega
   have y8:(k:Int)<(cap:Int):=by omega
   have yh:(N:Int)<=(cap:Int):=by omega
   have HO:=Ab ho;clear hc c0 c1 c2 c3 hkk ho qr
   go_upto_region 5 with (fail)
   obtain⟨wb,z6⟩:∃wb,wb=wr.alloc (.cells #[.int .i64 kk,.slice pa pl pc,.slice none 0 0,.pointer y] 178):=⟨_,rfl⟩
   rw[<- z6];have hI:=Aa HI;have yd:=hI.bel.size;have ye:=hI.box.lt;have yf:wb.heap.size=wr.heap.size+1:=by rw[z6];simp
   have qz:DD wr.heap.size wr wb:=by rw[z6];exact (HF _ _).alloc (A6 _) _
   have hob:wb.heap[wr.heap.size]? = some (.cells #[.int .i64 kk,.slice pa pl pc,.slice none 0 0,.pointer y] 178 (0,0)):=by rw[z6];exact HG wr _
   have p0:wb.cell? ⟨wr.heap.size,0,none⟩=some (.int .i64 kk):=by simp[HJ,hob]
   have p1:wb.cell? ⟨wr.heap.size,1,none⟩=some (.slice pa pl pc):=by simp[HJ,hob]
   have p2:wb.cell? ⟨wr.heap.size,2,none⟩=some (.slice none 0 0):=by simp[HJ,hob]
   have p3:wb.cell? ⟨wr.heap.size,3,none⟩=some (.pointer y):=by simp[HJ,hob]
   have hvb:VB wb w.heap.size 5 n0 [] sl (.map none):=hI.box.kept (qz.block _ ye);have y3:=hvb.c5;have qd:wb.ownsRow (w.heap.size+1) 80 1 sl k xs:=AX hI.own fun r hr=>qz.block r (Aw hI.own r hr).1;have qm:∀r,sl.ownBlock=some r->r<wb.heap.size:=fun r hr=>(Aw qd r hr).1;have qn:sl.ownBlock≠some w.heap.size:=fun e=>by have:=(Aw qd _ e).2;omega
   have qu:sl.ownBlock≠some wr.heap.size/\wr.heap.size≠w.heap.size:=⟨fun e=>by have:=(Aw hI.own _ e).1;omega,by omega⟩
   obtain⟨d,hd⟩:∃d,d=B3 j[k]:=⟨_,rfl⟩
   have q8:DD w.heap.size w wb:=hI.bel.trans (qz.mono yd);have zo:∀W:F1,(W.os=wb.os/\W.tape=wb.tape/\W.output=wb.output/\wb.heap.size<=W.heap.size /\ ∀q,q<wb.heap.size->sl.ownBlock≠some q->q≠w.heap.size->W.heap[q]? = wb.heap[q]?)->H4 A1 122 #[.agg #[.int .i64 kk,.slice pa pl pc,.slice none 0 0,.pointer y]] W fun e w'=>∃p,e=.returned (.pointer (some ⟨p,0,none⟩))/\W.heap.size<=p/\Rep (f+1) (fun q=>((G q/\q<w.heap.size)/\q<W.heap.size)\/W.heap.size<=q) w' (.pointer (some ⟨p,0,none⟩)) d/\DD W.heap.size W w':=by
    rintro W ⟨h1,h2,h3,h4,h5⟩;have zk:DD w.heap.size w W:=⟨h1.trans q8.os,h2.trans q8.tape,h3.trans q8.output,Dp q8.size h4,fun q hq=>(h5 q (A5 hq q8.size) (fun e=>by have:=(Aw qd q e).2;omega) (by omega)).trans (q8.block q hq)⟩
    rw[hd];exact UH hf (G:=fun q=>G q/\q<w.heap.size) ((Aa HO).move fun q hq z1=>⟨zk.block q z1,hq,z1⟩) (Aa HP _ (HY zb)) ((Aa HT).below (zk.mono zl))
   obtain⟨i0,y6,h⟩:=E0.1 QE;injection h with hz0 h;injection h with hz2 hz3;obtain⟨z0,zn⟩:∃z0,z0=Value.pointer none:=⟨_,rfl⟩
   rw[<- zn] at hz0;have yg:z0.cells.size=1:=by rw[zn];rfl
   refine wp_region_any (by kernel_rfl) ?_;refine GZ (TxI wb (w.heap.size+1) w.heap.size sl k xs (.agg #[.int .i64 kk,.slice pa pl pc,.slice none 0 0,.pointer y]) (f+1) (fun q=>G q/\q<w.heap.size) d (fun x14 x15 x16 x17 x18 x19 x20 x21 x22 x23 x24=>{ tmps:=#[.slice (some ⟨g,0,none⟩) N cap,undef,.string ⟨#[]⟩,.pointer (some ⟨w.heap.size,0,none⟩),undef,.pointer (some ⟨wr.heap.size,0,none⟩),.agg #[.int .i64 5,.bool false,.string ⟨#[]⟩,.int .i64 0,.string ⟨#[]⟩,.slice none 0 0,.map none],.pointer (some ⟨w.heap.size,0,none⟩),.slice (some ⟨g,0,none⟩) N cap,.int .i64 N,.int .i64 k,.bool true,.pointer (some ⟨g,k*4,none⟩),.agg #[.int .i64 kk,.slice pa pl pc,.slice none 0 0,.pointer y],x14,x15,x16,x17,x18,x19,x20,x21,x22,x23,x24,u25,undef,undef],defers:=[] })) ?hs ?he _ _ _ _ ?hc ?h0
   case hc=>decide
   case h0=>
    refine⟨rfl,rfl,rfl,rfl,A6 _,fun _ _ _ _=>rfl,fun _ _ _=>rfl,fun _=>rfl,?_,?_,?_,_,_,_,_,_,_,_,_,_,_,_,rfl,?_⟩;all_goals simp
   case he=>
    intro l a w1 hJ hr;have qj:=D5 hJ.sz (by kernel_rfl) hr;obtain⟨hsz,os,tape,output,size,kept,row0,vb0,d7,d8,d11,x14,x15,x16,x17,x18,x19,x20,x21,x22,x23,x24,rfl,e0,e1,e2,e3,e4,e5,e6,qe,e7,e8,e9,q9,qf⟩:=hJ;obtain⟨q,cap2,rfl,ho,hq,q4⟩:=e8 (qj 8 (by decide));have hv:=qf (qj 11 (by decide));have zs:=Ab os;have zw:=Ab tape;have zt:=Ab output;have zr:=Ab kept;have zx:=Ab hv;have zq:=Ab ho;have zu:=Ab q4;clear os tape output kept hv ho q4 row0 vb0 d7 d8 d11 e0 e1 e2 e3 e4 e5 e6 qe e7 e8 e9 q9 qf qj hr
    go_wp2_with (fail);refine⟨⟨k+1,xs++[x20],.slice (some ⟨q,0,none⟩) (k+1) cap2,by omega,by go_num,?_⟩,by simp[intOf];omega⟩
    have os:=Aa zs;have tape:=Aa zw;have output:=Aa zt;have kept:=Aa zr;have hv:=Aa zx;have ho:=Aa zq;have q4:=Aa zu;refine⟨⟨os.trans q8.os,tape.trans q8.tape,output.trans q8.output,by omega,fun r hr=>(kept r (by omega) (fun e=>by have:=(Aw qd r e).2;omega) (by omega)).trans (q8.block r hr)⟩,hv,ho,?_⟩;rw[List.take_succ_eq_append_getElem zb,List.map_append,List.map_singleton,<- hd];refine Al.snoc (q4.move fun r hr _=>⟨rfl,?_⟩) (hI.al.mono fun a b hab=>hab.move fun r hr zf=>?_)
    ·rcases hr.1 with h|h
     ·exact G3 h
     ·refine AS ⟨by omega,fun e=>hr.2 (by simp[HV] at e;omega)⟩
    ·have qp:sl.ownBlock≠some r/\r≠w.heap.size:=by
      rcases hr with⟨_,h⟩|⟨h,h'⟩
      ·exact⟨fun e=>by have:=(Aw qd r e).2;omega,by omega⟩
      ·exact⟨h',by omega⟩
     refine⟨(kept r (by omega) qp.1 qp.2).trans (qz.block r zf),hr.imp id fun ⟨h,_⟩=>⟨h,fun e=>?_⟩⟩;have e2:q=r:=by simpa[HV] using e
     rcases hq with h'|h'
     ·exact qp.1 (by rw[h',e2])
     ·omega
   case hs=>
    intro l a w1 hJ i hi;obtain⟨hno,q5⟩:=BC hi;have y7:i<12:=by
     obtain⟨_,o,ho,_⟩:=mem_ready.1 hi;exact (HA.1 ho).1
    obtain⟨hsz,os,tape,output,size,kept,row0,vb0,d7,d8,d11,x14,x15,x16,x17,x18,x19,x20,x21,x22,x23,x24,rfl,e0,e1,e2,e3,e4,e5,e6,qe,e7,e8,e9,q9,qf⟩:=hJ;clear hi;have qt:i=0\/i=1\/i=2\/i=3\/i=4\/i=5\/i=6\/i=7\/i=8\/i=9\/i=10\/i=11:=by omega
    rcases qt with rfl|rfl|rfl|rfl|rfl|rfl|rfl|rfl|rfl|rfl|rfl|rfl
    ·refine BY rfl fun K hK=>?_
     go_simp;refine hK _ _ ⟨by simp[hsz],os,tape,output,size,kept,fun h=>row0 ((AI _ (by decide)).symm.trans h),fun h=>vb0 ((AI _ (by decide)).symm.trans h),Am (by decide) d7,Am (by decide) d8,Am (by decide) d11,_,_,_,_,_,_,_,_,_,_,_,rfl,fun _=>rfl,Ac (by decide) e1,Ac (by decide) e2,Ac (by decide) e3,Ac (by decide) e4,Ac (by decide) e5,Ac (by decide) e6,fun h h'=>qe ((AI _ (by decide)).symm.trans h) ((AI _ (by decide)).symm.trans h'),?_,Ac (by decide) e8,Ac (by decide) e9,Ac (by decide) q9,Ac (by decide) qf⟩
     exact fun h=>by
      obtain⟨g',h1,h2,h3⟩:=e7 ((AI _ (by decide)).symm.trans h);exact⟨g',h1,h2,fun h'=>h3 ((AI _ (by decide)).symm.trans h')⟩
    ·refine BY rfl fun K hK=>?_
     go_simp;refine hK _ _ ⟨by simp[hsz],os,tape,output,size,kept,fun h=>row0 ((AI _ (by decide)).symm.trans h),fun h=>vb0 ((AI _ (by decide)).symm.trans h),Am (by decide) d7,Am (by decide) d8,Am (by decide) d11,_,_,_,_,_,_,_,_,_,_,_,rfl,Ac (by decide) e0,fun _=>rfl,Ac (by decide) e2,Ac (by decide) e3,Ac (by decide) e4,Ac (by decide) e5,Ac (by decide) e6,fun h h'=>qe ((AI _ (by decide)).symm.trans h) ((AI _ (by decide)).symm.trans h'),?_,Ac (by decide) e8,Ac (by decide) e9,Ac (by decide) q9,Ac (by decide) qf⟩
     exact fun h=>by
      obtain⟨g',h1,h2,h3⟩:=e7 ((AI _ (by decide)).symm.trans h);exact⟨g',h1,h2,fun h'=>h3 ((AI _ (by decide)).symm.trans h')⟩
    ·obtain rfl:=e1 (q5 _ rfl ⟨1,.data⟩ (by simp) rfl);refine BY rfl fun K hK=>?_
     go_simp;refine hK _ _ ⟨by simp[hsz],os,tape,output,size,kept,fun h=>row0 ((AI _ (by decide)).symm.trans h),fun h=>vb0 ((AI _ (by decide)).symm.trans h),Am (by decide) d7,Am (by decide) d8,Am (by decide) d11,_,_,_,_,_,_,_,_,_,_,_,rfl,Ac (by decide) e0,Ac (by decide) e1,fun _=>rfl,Ac (by decide) e3,Ac (by decide) e4,Ac (by decide) e5,Ac (by decide) e6,fun h h'=>qe ((AI _ (by decide)).symm.trans h) ((AI _ (by decide)).symm.trans h'),?_,Ac (by decide) e8,Ac (by decide) e9,Ac (by decide) q9,Ac (by decide) qf⟩
     exact fun h=>by
      obtain⟨g',h1,h2,h3⟩:=e7 ((AI _ (by decide)).symm.trans h);exact⟨g',h1,h2,fun h'=>h3 ((AI _ (by decide)).symm.trans h')⟩
    ·obtain rfl:=e2 (q5 _ rfl ⟨2,.data⟩ (by simp) rfl);refine BY rfl fun K hK=>?_
     go_simp;refine hK _ _ ⟨by simp[hsz],os,tape,output,size,kept,fun h=>row0 ((AI _ (by decide)).symm.trans h),fun h=>vb0 ((AI _ (by decide)).symm.trans h),Am (by decide) d7,Am (by decide) d8,Am (by decide) d11,_,_,_,_,_,_,_,_,_,_,_,rfl,Ac (by decide) e0,Ac (by decide) e1,Ac (by decide) e2,fun _=>rfl,Ac (by decide) e4,Ac (by decide) e5,Ac (by decide) e6,fun h h'=>qe ((AI _ (by decide)).symm.trans h) ((AI _ (by decide)).symm.trans h'),?_,Ac (by decide) e8,Ac (by decide) e9,Ac (by decide) q9,Ac (by decide) qf⟩
     exact fun h=>by
      obtain⟨g',h1,h2,h3⟩:=e7 ((AI _ (by decide)).symm.trans h);exact⟨g',h1,h2,fun h'=>h3 ((AI _ (by decide)).symm.trans h')⟩
    ·have ya:l.getD 4 false=false:=by simpa[HR,hsz] using hno
     have qb:l.getD 8 false=false:=by
      cases h:l.getD 8 false
      ·rfl
      ·have:=(d8 h).2;rw[ya] at this;cases this
     have qh:l.getD 11 false=false:=by
      cases h:l.getD 11 false
      ·rfl
      ·have:=(d11 h).1;rw[qb] at this;cases this
     have cv:w1.cell? ⟨w.heap.size,5,none⟩=some sl:=(F2 (a:=⟨w.heap.size,5,none⟩) (vb0 qh)).trans y3;obtain rfl:=e3 (q5 _ rfl ⟨3,.data⟩ (by simp) rfl);refine BY rfl fun K hK=>?_
     go_simp;refine hK _ _ ⟨by simp[hsz],os,tape,output,size,kept,fun h=>row0 ((AI _ (by decide)).symm.trans h),fun h=>vb0 ((AI _ (by decide)).symm.trans h),Am (by decide) d7,Am (by decide) d8,Am (by decide) d11,_,_,_,_,_,_,_,_,_,_,_,rfl,Ac (by decide) e0,Ac (by decide) e1,Ac (by decide) e2,Ac (by decide) e3,fun _=>rfl,Ac (by decide) e5,Ac (by decide) e6,fun h h'=>qe ((AI _ (by decide)).symm.trans h) ((AI _ (by decide)).symm.trans h'),?_,Ac (by decide) e8,Ac (by decide) e9,Ac (by decide) q9,Ac (by decide) qf⟩
     exact fun h=>by
      obtain⟨g',h1,h2,h3⟩:=e7 ((AI _ (by decide)).symm.trans h);exact⟨g',h1,h2,fun h'=>h3 ((AI _ (by decide)).symm.trans h')⟩
    ·have cq:=fun i=>F2 (a:=⟨wr.heap.size,i,none⟩) (kept wr.heap.size (by omega) qu.1 qu.2);have q0:=(cq 0).trans p0;have q1:=(cq 1).trans p1;have q2:=(cq 2).trans p2;have q3:=(cq 3).trans p3;refine BY rfl fun K hK=>?_
     go_simp;refine hK _ _ ⟨by simp[hsz],os,tape,output,size,kept,fun h=>row0 ((AI _ (by decide)).symm.trans h),fun h=>vb0 ((AI _ (by decide)).symm.trans h),Am (by decide) d7,Am (by decide) d8,Am (by decide) d11,_,_,_,_,_,_,_,_,_,_,_,rfl,Ac (by decide) e0,Ac (by decide) e1,Ac (by decide) e2,Ac (by decide) e3,Ac (by decide) e4,fun _=>rfl,Ac (by decide) e6,fun h h'=>qe ((AI _ (by decide)).symm.trans h) ((AI _ (by decide)).symm.trans h'),?_,Ac (by decide) e8,Ac (by decide) e9,Ac (by decide) q9,Ac (by decide) qf⟩
     exact fun h=>by
      obtain⟨g',h1,h2,h3⟩:=e7 ((AI _ (by decide)).symm.trans h);exact⟨g',h1,h2,fun h'=>h3 ((AI _ (by decide)).symm.trans h')⟩
    ·have yb:l.getD 6 false=false:=by simpa[HR,hsz] using hno
     have qw:l.getD 7 false=false:=by
      cases h:l.getD 7 false
      ·rfl
      ·have:=(d7 h).1;rw[yb] at this;cases this
     have qb:l.getD 8 false=false:=by
      cases h:l.getD 8 false
      ·rfl
      ·have:=(d8 h).1;rw[qw] at this;cases this
     obtain rfl:=e5 (q5 _ rfl ⟨5,.data⟩ (by simp) rfl);refine BY rfl fun K hK=>?_
     go_simp;refine (zo w1 ⟨os,tape,output,size,kept⟩).mono ?_
     rintro e w2 ⟨p,rfl,hpp,q4,hb2⟩;show K _ _;have kept:=fun q h1 h2 h3=>(hb2.block q (A5 h1 size)).trans (kept q h1 h2 h3);have row0:=fun h q hq=>(hb2.block q (A5 (qm q hq) size)).trans (row0 h q hq);have vb0:=fun h=>(hb2.block w.heap.size (by omega)).trans (vb0 h);have os:=hb2.os.trans os;have tape:=hb2.tape.trans tape;have output:=hb2.output.trans output;have q7:=Dp size hb2.size;have q6:Rep (f+1) (fun q=>(G q/\q<w.heap.size)\/wb.heap.size<=q) w2 (.pointer (some ⟨p,0,none⟩)) d:=q4.move fun q hq _=>⟨rfl,by rcases hq with⟨h1,h2⟩|h1;exact G3 h1;exact AS (by omega)⟩
     refine hK _ _ ⟨by simp[hsz],os,tape,output,q7,kept,fun h=>row0 ((AI _ (by decide)).symm.trans h),fun h=>vb0 ((AI _ (by decide)).symm.trans h),fun h=>absurd ((AI _ (by decide)).symm.trans h) (by rw[qw];decide),fun h=>absurd ((AI _ (by decide)).symm.trans h) (by rw[qb];decide),Am (by decide) d11,_,_,_,_,_,_,_,_,_,_,_,rfl,Ac (by decide) e0,Ac (by decide) e1,Ac (by decide) e2,Ac (by decide) e3,Ac (by decide) e4,Ac (by decide) e5,fun _=>⟨_,rfl⟩,fun _ _=>q6,fun h=>absurd ((AI _ (by decide)).symm.trans h) (by rw[qw];decide),fun h=>absurd ((AI _ (by decide)).symm.trans h) (by rw[qb];decide),Ac (by decide) e9,Ac (by decide) q9,fun h=>absurd (d11 ((AI _ (by decide)).symm.trans h)).1 (by rw[qb];decide)⟩
    ·have qw:l.getD 7 false=false:=by simpa[HR,hsz] using hno
     have qb:l.getD 8 false=false:=by
      cases h:l.getD 8 false
      ·rfl
      ·have:=(d8 h).1;rw[qw] at this;cases this
     have d6:=q5 _ rfl ⟨6,.data⟩ (by simp) rfl;obtain⟨p,rfl⟩:=Aa (e6 d6);have q4:=qe d6 qb;refine BY rfl fun K hK=>?_
     go_simp;have hb2:DD w1.heap.size w1 (w1.alloc (.cells #[.pointer p] 80)):=(HF _ _).alloc (A6 _) _
     have kept:=fun q h1 h2 h3=>(hb2.block q (A5 h1 size)).trans (kept q h1 h2 h3);have row0:=fun h q hq=>(hb2.block q (A5 (qm q hq) size)).trans (row0 h q hq);have vb0:=fun h=>(hb2.block w.heap.size (by omega)).trans (vb0 h);have q7:=Dp size hb2.size;have q6:Rep (f+1) (fun q=>(G q/\q<w.heap.size)\/wb.heap.size<=q) (w1.alloc (.cells #[.pointer p] 80)) (.pointer p) d:=q4.move fun q hq z1=>⟨hb2.block q z1,hq⟩
     refine hK _ _ ⟨by simp[hsz],os,tape,output,q7,kept,fun h=>row0 ((AI _ (by decide)).symm.trans h),fun h=>vb0 ((AI _ (by decide)).symm.trans h),fun _=>⟨D0 d6,D0 d6⟩,Am (by decide) d8,Am (by decide) d11,_,_,_,_,_,_,_,_,_,_,_,rfl,Ac (by decide) e0,Ac (by decide) e1,Ac (by decide) e2,Ac (by decide) e3,Ac (by decide) e4,Ac (by decide) e5,Ac (by decide) e6,fun _ _=>q6,fun _=>⟨_,rfl,by omega,fun _=>HG w1 _⟩,fun h=>absurd ((AI _ (by decide)).symm.trans h) (by rw[qb];decide),Ac (by decide) e9,Ac (by decide) q9,fun h=>absurd (d11 ((AI _ (by decide)).symm.trans h)).1 (by rw[qb];decide)⟩
    ·have z8:=q5 _ rfl ⟨7,.data⟩ (by simp) rfl;have zh:=q5 _ rfl ⟨4,.data⟩ (by simp) rfl;have qb:l.getD 8 false=false:=by simpa[HR,hsz] using hno
     have qh:l.getD 11 false=false:=by
      cases h:l.getD 11 false
      ·rfl
      ·have:=(d11 h).1;rw[qb] at this;cases this
     obtain rfl:=e4 zh;obtain⟨g1,rfl,y5,za⟩:=e7 z8;have za:=za qb;have d6:=(d7 z8).1;have q4:=qe d6 qb;obtain⟨p,rfl⟩:=Aa (e6 d6);have qi:w1.ownsRow (w.heap.size+1) 80 1 x18 k xs:=AX qd (row0 qb);refine BY rfl fun K hK=>?_;refine step_append_lies (w:=w1) rfl (.tmp 18) (.tmp 21) 106 rfl (w.heap.size+1) 80 i0 z0 1 8 underlying106 y6 hz0 hz2 hz3 yg (by decide) x18 k xs rfl qi ⟨g1,0,none⟩ 1 1 [.pointer p] rfl rfl (World.news_of_block (cs:=#[.pointer p]) (t:=80) (fr:=(0,0)) za) (by simp[Value.oneCell']) (by decide) (by unfold maxLen;omega) (by omega) (by omega) w1.heap.size rfl ?_;intro q cap2 w2 ho qv zi y9;have qg:∀r,x18.ownBlock≠some r->r<w1.heap.size->w2.heap[r]? = w1.heap[r]?:=fun r h1 h2=>qv.block r h2 (fun e=>h1 e.symm);have kept:=fun r h1 h2 h3=>(qg r h2 (A5 h1 size)).trans (kept r h1 h2 h3);have vb0:=fun h=>(qg w.heap.size qn (by omega)).trans (vb0 h);have os:=qv.os.trans os;have tape:=qv.tape.trans tape;have output:=qv.output.trans output;have q7:=Dp size qv.size;have hq:x18.ownBlock=some q\/wb.heap.size<=q:=zi.imp id fun e=>by omega
     have q6:Rep (f+1) (fun r=>((G r/\r<w.heap.size)\/wb.heap.size<=r)/\r≠q) w2 (.pointer p) d:=q4.move fun r hr zf=>by
      have qp:x18.ownBlock≠some r:=fun e=>by have:=qm r e;have:=(Aw qi r e).2;omega
      refine⟨qg r qp zf,hr,?_⟩;rintro rfl;rcases zi with h|h
      ·exact qp h
      ·omega
     refine hK _ _ ⟨by simp[hsz],os,tape,output,q7,kept,(fun h=>by rw[Kz hsz 8 8 (by decide),if_pos rfl] at h;cases h),fun h=>vb0 ((AI _ (by decide)).symm.trans h),Am (by decide) d7,fun _=>⟨D0 z8,D0 zh⟩,Am (by decide) d11,_,_,_,_,_,_,_,_,_,_,_,rfl,Ac (by decide) e0,Ac (by decide) e1,Ac (by decide) e2,Ac (by decide) e3,Ac (by decide) e4,Ac (by decide) e5,fun _=>⟨_,rfl⟩,(fun _ h=>by rw[Kz hsz 8 8 (by decide),if_pos rfl] at h;cases h),fun _=>⟨g1,rfl,y5,(fun h=>by rw[Kz hsz 8 8 (by decide),if_pos rfl] at h;cases h)⟩,fun _=>⟨q,cap2,rfl,ho,hq,q6⟩,Ac (by decide) e9,Ac (by decide) q9,fun h=>absurd ((AI _ (by decide)).symm.trans h) (by rw[qh];decide)⟩
    ·obtain rfl:=e0 (q5 _ rfl ⟨0,.data⟩ (by simp) rfl);refine BY rfl fun K hK=>?_
     go_simp;refine hK _ _ ⟨by simp[hsz],os,tape,output,size,kept,fun h=>row0 ((AI _ (by decide)).symm.trans h),fun h=>vb0 ((AI _ (by decide)).symm.trans h),Am (by decide) d7,Am (by decide) d8,Am (by decide) d11,_,_,_,_,_,_,_,_,_,_,_,rfl,Ac (by decide) e0,Ac (by decide) e1,Ac (by decide) e2,Ac (by decide) e3,Ac (by decide) e4,Ac (by decide) e5,Ac (by decide) e6,fun h h'=>qe ((AI _ (by decide)).symm.trans h) ((AI _ (by decide)).symm.trans h'),?_,Ac (by decide) e8,fun _=>rfl,Ac (by decide) q9,Ac (by decide) qf⟩
     exact fun h=>by
      obtain⟨g',h1,h2,h3⟩:=e7 ((AI _ (by decide)).symm.trans h);exact⟨g',h1,h2,fun h'=>h3 ((AI _ (by decide)).symm.trans h')⟩
    ·obtain rfl:=e9 (q5 _ rfl ⟨9,.data⟩ (by simp) rfl);refine BY rfl fun K hK=>?_
     go_simp;refine hK _ _ ⟨by simp[hsz],os,tape,output,size,kept,fun h=>row0 ((AI _ (by decide)).symm.trans h),fun h=>vb0 ((AI _ (by decide)).symm.trans h),Am (by decide) d7,Am (by decide) d8,Am (by decide) d11,_,_,_,_,_,_,_,_,_,_,_,rfl,Ac (by decide) e0,Ac (by decide) e1,Ac (by decide) e2,Ac (by decide) e3,Ac (by decide) e4,Ac (by decide) e5,Ac (by decide) e6,fun h h'=>qe ((AI _ (by decide)).symm.trans h) ((AI _ (by decide)).symm.trans h'),?_,Ac (by decide) e8,Ac (by decide) e9,fun _=>rfl,Ac (by decide) qf⟩
     exact fun h=>by
      obtain⟨g',h1,h2,h3⟩:=e7 ((AI _ (by decide)).symm.trans h);exact⟨g',h1,h2,fun h'=>h3 ((AI _ (by decide)).symm.trans h')⟩
    ·have qo:=q5 _ rfl ⟨8,.data⟩ (by simp) rfl;have qq:=q5 _ rfl ⟨10,.data⟩ (by simp) rfl;have qh:l.getD 11 false=false:=by simpa[HR,hsz] using hno
     obtain⟨q,cap2,rfl,ho,hq,q4⟩:=e8 qo;obtain rfl:=q9 qq;have zz:sl=x18:=(e4 (d8 qo).2).symm;subst zz;have zg:VB w1 w.heap.size 5 n0 [] sl (.map none):=(vb0 qh).trans hvb;have cv:=zg.c5;have zv:w1.frozen? ⟨w.heap.size,5,none⟩=false:=by simp[World.frozen?,show w1.heap[w.heap.size]? = _ from zg]
     refine BY rfl fun K hK=>?_
     go_simp;have qk:∀r,r≠w.heap.size->(w1.setCell ⟨w.heap.size,5,none⟩ (.slice (some ⟨q,0,none⟩) (k+1) cap2)).heap[r]? = w1.heap[r]?:=fun r hr=>Below.heap_setCell _ _ _ _ hr
     have yi:q≠w.heap.size:=by have:=(Aw ho q rfl).2;omega
     have kept:=fun r h1 h2 h3=>(qk r h3).trans (kept r h1 h2 h3);have row0:l.getD 8 false=false -> ∀r,sl.ownBlock=some r->(w1.setCell ⟨w.heap.size,5,none⟩ (.slice (some ⟨q,0,none⟩) (k+1) cap2)).heap[r]? = wb.heap[r]?:=fun h=>by rw[qo] at h;cases h
     have q7:wb.heap.size<=(w1.setCell ⟨w.heap.size,5,none⟩ (.slice (some ⟨q,0,none⟩) (k+1) cap2)).heap.size:=by simp[World.setCell];omega
     have yc:=AX ho (w':=w1.setCell ⟨w.heap.size,5,none⟩ (.slice (some ⟨q,0,none⟩) (k+1) cap2)) (fun r hr=>qk r (by simp[HV] at hr;omega));have q6:=q4.move (w':=w1.setCell ⟨w.heap.size,5,none⟩ (.slice (some ⟨q,0,none⟩) (k+1) cap2)) fun r hr _=>⟨qk r (by rcases hr.1 with h|h<;>omega),hr⟩
     refine hK _ _ ⟨by simp[hsz],os,tape,output,q7,kept,fun h=>row0 ((AI _ (by decide)).symm.trans h),(fun h=>by rw[Kz hsz 11 11 (by decide),if_pos rfl] at h;cases h),Am (by decide) d7,Am (by decide) d8,fun _=>⟨D0 qo,D0 qq⟩,_,_,_,_,_,_,_,_,_,_,_,rfl,Ac (by decide) e0,Ac (by decide) e1,Ac (by decide) e2,Ac (by decide) e3,Ac (by decide) e4,Ac (by decide) e5,Ac (by decide) e6,fun _ h=>absurd qo (by rw[(AI _ (by decide)).symm.trans h];decide),(fun h=>(e7 ((AI _ (by decide)).symm.trans h)).imp fun g' ⟨h1,h2,_⟩=>⟨h1,h2,fun h'=>absurd qo (by rw[(AI _ (by decide)).symm.trans h'];decide)⟩),fun _=>⟨q,cap2,rfl,yc,hq,q6⟩,Ac (by decide) e9,Ac (by decide) q9,fun _=>zg.set5 _⟩
  ·obtain rfl:k=N:=by omega
   have hI:=Aa HI;have zc:k=j.length:=Aa HN;have hal:=hI.al;rw[List.take_of_length_le (by omega)] at hal;have zm:xs.length=k:=by have:=hal.length;simp at this;omega
   have q4:Rep (f+2) (fun _=>True) wr (.pointer (some ⟨w.heap.size,0,none⟩)) (Ap (j.map B3)):=Rep.arr trivial hI.box (by rw[zm];exact Hl hI.own (HK _)) (fun _ _=>trivial) (hal.mono fun a b hab=>hab.move fun r _ _=>⟨rfl,trivial⟩);have HC:=Ab (CT q4 ((Aa HT).below (hI.bel.mono zl)) (Aa HL));have HB:=Ab hI.bel;have ze:¬ (k:Int)<(k:Int):=by omega
   clear hI zc hal zm q4
   go_wp2_with (fail);refine (Aa HC).mono ?_
   rintro e w2 ⟨rfl,hb2⟩
   go_wp2_with (fail)
   go_ret;exact⟨rfl,(Aa HB).trans (hb2.mono (Aa HB).size)⟩
theorem CV.at{w:F1}{G:Nat->Prop}:∀ {xs:List A3} {j:List Zk},CV w G xs j -> ∀k (hk:k<j.length),∃ (h:k*4+3<xs.length),EW w G (xs[k*4]'(by omega)) (xs[k*4+1]'(by omega)) (xs[k*4+2]'(by omega)) xs[k*4+3] j[k]
 | [],[],_,_,hk=>absurd hk (by simp)
 | [],_::_,h,_,_=>h.elim
 | _::_::_::_::_,_::_,⟨a,_⟩,0,_=>⟨by simp,a⟩
 | _::_::_::_::r,_::s,⟨_,b⟩,k+1,hk=>by
  obtain⟨h1,h2⟩:=CV.at b k (by simpa using hk);refine⟨by simp;omega,?_⟩;have e0:(k+1)*4=k*4+4:=by omega
  simp only[e0,List.getElem_cons_succ];simpa using h2
theorem XZ{e n cap:Nat}{ao:Option Addr}{xs:List A3}(h:w.ownsRow B e 4 (.slice ao n cap) n xs)(hp:0<n):n<=cap:=by
 rcases h.2 with⟨_,h0⟩|⟨g,q0,cur,h1,hB,h3,h4,_⟩
 ·omega
 ·injection h1 with _ _ h1;subst h1;exact h4
theorem M5:∀l:List By,l.length<=(BL l).length
 | []=>by simp
 | a::l=>by
  have h:=M5 l;simp only[BL,HM,CH];omega
theorem dT(l:List By):l.length<=(Ax l).length+1:=by
 cases l with
 | nil=>simp
 | cons a r=>
  have h:=M5 r;simp only[Ax,HM,CH];omega
theorem TJ(j:List Zk):j.length<=(Ck j).length:=by
 have h:=dT ((j.map B3).map (Zm (top-1)));rw[H2,H2] at h;show _<=(Zm (top-1+1) (Ap (j.map B3))).length;rw[Dj];simp only[HM,CH,List.length_nil];omega
theorem Mg{iv:A3}{j:List Zk}(h:F4 w G iv (some j))(hT:Af w):
  H4 A1 87 #[iv] w fun e w'=>e=.returned (.string ⟨(Ck j).toArray⟩)/\DD w.heap.size w w':=by
 obtain⟨⟨xs,ho,hG,hr⟩,hl,q6⟩:=h;obtain⟨ao,cap,g,rfl,hc⟩:=GB ho;have q5:j.length<=10000000000000:=by
  have h1:j.length<=(Ck j).length:=TJ j;omega
 refine PN (f:=top-2) (G:=G) (by unfold top;omega) rfl (fun hp=>?_) (fun o ho=>(q6 o ho).1) q5 hl hT;obtain⟨e1,e2,_,e3⟩:=hc hp;obtain⟨_,hb⟩:=AC ho g e2;refine⟨g,e1,(AC ho g e2).1,XZ ho hp,fun k hk=>?_⟩;obtain⟨hx,q0,q1,q2,q3,q4⟩:=hr.at k hk;obtain⟨pa,pl,pc,q7⟩:=EY q2;have hz:∃y,xs[k*4+3]=.pointer y:=by
  rcases q4 with⟨_,e⟩|⟨_,hr⟩
  ·exact⟨_,e⟩
  ·obtain⟨b,e,_⟩:=Rep.ptr hr;exact⟨_,e⟩
 obtain⟨y,hy⟩:=hz;have c0:=e3 (k*4) (by omega);have c1:=e3 (k*4+1) (by omega);have c2:=e3 (k*4+2) (by omega);have c3:=e3 (k*4+3) (by omega);refine⟨pa,pl,pc,y,⟨rfl,q1,q7▸q2,rfl,q4.imp (fun ⟨a,b⟩=>⟨a,hy▸b⟩) fun ⟨a,b⟩=>⟨a,?_⟩⟩,by rw[c0,q0],by rw[c1,q7],by rw[c2,q3],by rw[c3,hy]⟩;obtain⟨d,x,g1,g2⟩:=(q6 _ (HY hk)).2 a;rw[<- hy];exact Rep.dn b g1 (by unfold top;omega)
theorem R0:Jk:=by
 intro S d e n p v F w hS hD hT;obtain⟨D,R,wp,rfl,qe⟩:=hD;obtain⟨T,a,iv,h1,h2,h3⟩:=qe.ex;have q0:DD w.heap.size w (w.alloc (.cells #[.int .i64 0,.int .i64 0,.string ⟨#[]⟩] 46)):=(HF _ _).alloc (A6 _) _;have c3:=(hS.low q0).c3;have qb:=Ab (h1.db.kept (q0.block D h1.db.lt));have qf:=Ab (AB.new w);have qg:=Ab q0;have hsz:(w.alloc (.cells #[.int .i64 0,.int .i64 0,.string ⟨#[]⟩] 46)).heap.size=w.heap.size+1:=by simp
 obtain⟨G,hG⟩:∃G:Nat->Prop,G=fun k=>F k/\k≠D/\k ∉ fp (top+1) T:=⟨_,rfl⟩
 rw[<- hG] at h3;have qh:=Ab (h3.move (w':=w.alloc (.cells #[.int .i64 0,.int .i64 0,.string ⟨#[]⟩] 46)) (G':=G) fun k hk q9=>⟨q0.block k q9,hk⟩);have HT:=Ab (hT.below (q0.mono hT.ng));obtain⟨b,hb⟩:∃b,b=v.2.isSome:=⟨_,rfl⟩
 rw[<- hb] at qb;obtain⟨fs,qk⟩:∃a b n,iv=.slice a b n:=by
  cases hv:v.2 with
  | none=>rw[hv] at h3;exact⟨_,_,_,h3⟩
  | some j=>
   rw[hv] at h3;obtain⟨⟨xs,ho,_⟩,_⟩:=h3;obtain⟨ao,cap,g,e,_⟩:=GB ho;exact⟨_,_,_,e⟩
 obtain⟨fl,fc,rfl⟩:=qk;clear hS hT h1 h2 h3 q0 qe hG;obtain⟨RR,q8⟩:∃RR,RR=bM v:=⟨_,rfl⟩
 rw[<- q8];have qd:=Ab q8;have HB:=Ab hb;clear q8 hb
 go_enter func61,ntmps61
 go_wp2_with (fail);generalize w.alloc (.cells #[.int .i64 0,.int .i64 0,.string ⟨#[]⟩] 46)=wa at *
 refine (Nz (Aa qb)).mono ?_;rintro x w2 ⟨rfl,hb2⟩;have q5:=Ab ((Aa qg).trans (hb2.mono (by omega)));have A2:=Ab ((Aa qf).low hb2);have q4:=Ab ((Aa qh).move (w':=w2) (G':=G) fun k hk q9=>⟨hb2.block k q9,hk⟩);have qi:=Ab ((Aa HT).below (hb2.mono (Aa HT).ng));clear hb2 c3;cases b with
 | false=>
  have hn:v.2=none:=by
   have:=Aa HB;cases hv:v.2 with
   | none=>rfl
   | some j=>rw[hv] at this;cases this
  have q7:=Ab (show RR=(3,0,[]) by rw[Aa qd];unfold bM;rw[hn]);clear hn
  go_wp2_with (fail);refine (Bj 3 w2).mono ?_
  rintro x w3 ⟨rfl,hb3⟩;have a3:=(Aa A2).low hb3;have g0:=a3.c0;have g1:=a3.c1;have g2:=a3.c2;have z:=a3.fz;have q6:=Ab ((Aa q5).trans (hb3.mono (Aa q5).size));clear a3 hb3;unfold AW
  go_wp2_with (fail);refine bodyPost_ret (v:=Ai (3,0,[])) (by simp[results,results61,go_sem,Ai,g0,g1,g2]) rfl ?_
  rw[Aa q7];exact⟨rfl,(AE.of3 w.heap.size w3 _ _ _).below (Aa q6) (A6 _)⟩
 | true=>
  obtain⟨j,hj⟩:∃j,v.2=some j:=by
   have:=Aa HB;cases hv:v.2 with
   | none=>rw[hv] at this;cases this
   | some j=>exact⟨j,rfl⟩
  have q7:=Ab (show RR=(0,0,Ck j) by rw[Aa qd];unfold bM;rw[hj]);rw[hj] at q4;have qj:=Ab (Mg (Aa q4) (Aa qi));clear hj
  go_wp2_with (fail);refine (Aa qj).mono ?_
  rintro x w3 ⟨rfl,hb3⟩;have a3:=(Aa A2).low hb3;have g0:=a3.c0;have g1:=a3.c1;have g2:=a3.c2;have z:=a3.fz;have q6:=Ab ((Aa q5).trans (hb3.mono (Aa q5).size));clear a3 hb3
  go_wp2_with (fail);refine bodyPost_ret (v:=Ai (0,0,Ck j)) (by simp[results,results61,go_sem,Ai,g0,g1,g2]) rfl ?_
  rw[Aa q7];exact⟨rfl,(AE.of3 w.heap.size w3 _ _ _).below (Aa q6) (A6 _)⟩
def NT(f:Nat)(a:To):Prop:=∀ (F:Nat->Prop) (w:F1) (v:A3),Rep f F w v a->H4 A1 161 #[v] w fun e w'=>∃p,e=.returned (.pointer (some p))/\DD w.heap.size w w'/\Tr f w.heap.size w' (.pointer (some p)) (Bp f a)
theorem C3{d:To}(h:Rep f F w v d):∃b x n s sl mv,v=.pointer (some ⟨b,0,none⟩)/\VB w b x n s sl mv/\(x != 0) = !ZZ d/\(x != 6) = !ZQ d:=by
 cases f with
 | zero=>exact h.elim
 | succ f=>
  obtain⟨b,rfl,_,h⟩:=h;rcases h with⟨k,hk,rfl,h⟩|⟨n,rfl,h,_⟩|⟨s,rfl,h⟩|⟨es,sl,ps,rfl,h,_⟩|⟨es,m,n,D,rfl,h,_⟩
  ·refine⟨b,k,_,_,_,_,rfl,h,?_⟩
   match k,hk with
   | 0,_=>exact⟨rfl,rfl⟩
   | 1,_=>exact⟨rfl,rfl⟩
   | 2,_=>exact⟨rfl,rfl⟩
  ·exact⟨b,3,_,_,_,_,rfl,h,rfl,rfl⟩
  ·exact⟨b,4,_,_,_,_,rfl,h,rfl,rfl⟩
  ·exact⟨b,5,_,_,_,_,rfl,h,rfl,rfl⟩
  ·exact⟨b,6,_,_,_,_,rfl,h,rfl,rfl⟩
theorem He{d:To}(h:ZQ d=false):Bp (f+1) d=d:=by
 cases d<;>first|rfl|cases h
theorem Od{d:To}(h:Rep (f+1) F w v d)(hd:ZQ d=false)(hn:bC (f+1) d):
  H4 A1 161 #[v] w fun e w'=>∃p,e=.returned (.pointer (some p))/\DD w.heap.size w w'/\Tr (f+1) w.heap.size w' (.pointer (some p)) (Bp (f+1) d):=by
 obtain⟨b,x,n,s,sl,mv,rfl,hv,_,e6⟩:=C3 h;rw[hd] at e6;have e1:(x != 6)=true:=e6;have c0:=hv.c0;have HC:=Ab (Gs (f+1) d hn F w _ h);obtain⟨E,hE⟩:∃E,E=Bp (f+1) d:=⟨_,rfl⟩
 have HE:=Ab (show E=d by rw[hE,He hd]);rw[<- hE];clear h hd hn e6 hE hv
 go_enter func161,ntmps161
 go_wp2_with (fail);refine (Aa HC).mono ?_
 rintro e w' ⟨p,rfl,hb,ht⟩;have HB:=Ab hb;have HT:=Ab ht;clear hb ht
 go_wp2_with (fail)
 go_ret;refine⟨p,rfl,Aa HB,?_⟩
 rw[Aa HE];exact Aa HT
structure MrO(f:Nat)(w:F1)(es:List (Lit×To))(left:Lit->Bool)(cnt:Nat)(wr:F1):Prop where
 bel:DD w.heap.size w wr
 sz:w.heap.size+2<=wr.heap.size
 el:∃n' D' es',n'+cnt<=es.length/\wr.ownsMap A1 9 RV w.heap.size n' (.map D')/\TrM f (w.heap.size+2) wr D' es' /\
  (∀k,C2 (.map es':Bs Unit) k=(C2 (.map es:Bs Unit) k && !left k && !ZZ ((CD es).atKey k .nil)))/\(∀k,C2 (.map es':Bs Unit) k=true->(CD es').atKey k .nil=Bp f ((CD es).atKey k .nil))
theorem MrO.next{w1:F1}(h:MrO f w es left cnt wr)(hg:wr.grownBy w1 (some (w.heap.size+1))):MrO f w es left cnt w1:=by
 have hs:=h.sz;have q0:=hg.size;have hk:∀j,j<wr.heap.size->j≠w.heap.size+1->w1.heap[j]? = wr.heap[j]?:=fun j h1 h2=>hg.block j h1 (fun e=>h2 (D1 e));refine⟨⟨hg.os.trans h.bel.os,hg.tape.trans h.bel.tape,hg.output.trans h.bel.output,by omega,fun j hj=>(hk j (by omega) (by omega)).trans (h.bel.block j hj)⟩,by omega,?_⟩;obtain⟨n',D',es',h1,h2,h3,h4,h5⟩:=h.el;exact⟨n',D',es',h1,Aj h2 (hk _ (by omega) (by omega)),h3.move (fun j hj hl=>hk j hl (by omega)),h4,h5⟩
theorem Cg{k:Lit}(h:k≠kl):k.sameKey kl=false:=by
 cases hx:k.sameKey kl
 ·rfl
 ·exact absurd (CR hx) h
theorem MrO.skip{cnt1:Nat}(h:MrO f w es left cnt wr)(hc:cnt1<cnt)(hn:ZZ ((CD es).atKey kl .nil)=true):MrO f w es (fun z=>left z && !z.sameKey kl) cnt1 wr:=by
 obtain⟨n',D',es',h1,h2,h3,h4,h5⟩:=h.el;refine⟨h.bel,h.sz,n',D',es',by omega,h2,h3,fun k=>?_,h5⟩;rw[h4];by_cases hkk:k=kl
 ·subst hkk;rw[hn];simp
 ·rw[Cg hkk];simp
theorem MrO.step{cnt1:Nat}{w1 w2:F1}(h:MrO f w es left cnt w1)(c:HU (.map es:Bs Unit))(hc:cnt1<cnt)(q9:es.length<maxLen){x:A3}(q0:keyOf A1 9 x=some kl)(hl:left kl=true)(hh:C2 (.map es:Bs Unit) kl=true)(hn:ZZ ((CD es).atKey kl .nil)=false){p:Addr}(hb:DD w1.heap.size w1 w2)(hv:Tr f w1.heap.size w2 (.pointer (some p)) (Bp f ((CD es).atKey kl .nil))):
  ∃w3,(Instr.mapUpdate 109 (.map (some w.heap.size)) x (.pointer (some p))).run A1 w2=.ok () w3 /\
   MrO f w es (fun z=>left z && !z.sameKey kl) cnt1 w3/\w2.grownBy w3 (some w.heap.size):=by
 have hs:=h.sz;have hs2:=hb.size;obtain⟨n',D',es',h1,h2,h3,h4,h5⟩:=h.el;have q7:=Aj h2 (hb.block _ (A7 h2));obtain⟨w3,q4,q5,hg⟩:=q7.update Bw underlying109 (by omega) q0 (val:=.pointer (some p)) (d:=.held (.pointer (some p))) (ps:=[]) rfl;have q8:=hg.size;have hk:∀j,j<w2.heap.size->j≠w.heap.size->w3.heap[j]? = w2.heap[j]?:=fun j h1 h2=>hg.block j h1 (fun e=>h2 (D1 e));refine⟨w3,q4,⟨⟨hg.os.trans (hb.os.trans h.bel.os),hg.tape.trans (hb.tape.trans h.bel.tape),hg.output.trans (hb.output.trans h.bel.output),by omega,fun j hj=>(hk j (by omega) (by omega)).trans ((hb.block j (by omega)).trans (h.bel.block j hj))⟩,by omega,?_⟩,hg⟩;have kk:=Is c hh;obtain⟨D2,q6,e1,e2,ht⟩:=h3.put (k:=kl) (w6:=w3) hv (by omega) (fun j j1 j2=>(hk j (by omega) (by omega)).trans (hb.block j j2)) (fun j j1 j2=>hk j j2 (by omega));rw[e1] at q5;refine⟨n'+1,D2,q6,by omega,q5,ht,?_,?_⟩
 ·intro k;rw[<- e2];by_cases hkk:k=kl
  ·subst hkk;rw[has_put_same ⟨_,rfl⟩ kk,hh,hl,WideAt.sameKey_self kk,hn];rfl
  ·rw[has_put_other hkk,h4,Cg hkk];simp
 ·intro k;rw[<- e2];by_cases hkk:k=kl
  ·subst hkk;intro _;rw[atKey_put_same ⟨_,rfl⟩ kk]
  ·rw[has_put_other hkk,atKey_put_other hkk];exact h5 k
def aM(f:Nat)(es:List (Lit×To)):List (Lit×To):=(es.filter fun q=>!ZZ q.2).map fun q=>(q.1,Bp f q.2)
theorem IA(c:HU (.map es:Bs Unit)):HU (.map (aM f es):Bs Unit):=by
 obtain⟨_,he,hp,hk⟩:=c;injection he with he;subst he;refine⟨_,rfl,?_,fun p q0=>?_⟩
 ·unfold aM;rw[HW];exact hp.filter _
 ·unfold aM at q0;obtain⟨q,hq,rfl⟩:=G0.1 q0;exact hk q (CL.1 hq).1
theorem Hf(c:HU (.map es:Bs Unit))(k:Lit):C2 (.map (aM f es):Bs Unit) k=(C2 (.map es:Bs Unit) k && !ZZ ((CD es).atKey k .nil))/\(C2 (.map (aM f es):Bs Unit) k=true->(CD (aM f es)).atKey k .nil=Bp f ((CD es).atKey k .nil)):=by
 have c2:=IA (f:=f) c;obtain⟨_,he,hp,hk⟩:=c;injection he with he;subst he;have q4:=apart_of_rising hp;obtain⟨_,q6,q7,hk2⟩:=c2;injection q6 with q6;subst q6;have q5:=apart_of_rising q7;have key:∀q∈aM f es,∃p∈es,q.1=p.1/\ZZ p.2=false/\q.2=Bp f p.2:=fun q hq=>by
  unfold aM at hq;obtain⟨p,hp,rfl⟩:=G0.1 hq;have h2:=CL.1 hp;exact⟨p,h2.1,rfl,by simpa using h2.2,rfl⟩
 constructor
 ·rw[Bool.eq_iff_iff,Bool.and_eq_true];constructor
  ·intro h;obtain⟨q,hq,hs⟩:=A4.1 (show (aM f es).any (fun q=>q.1.sameKey k)=true from h);obtain⟨p,q0,e1,e2,_⟩:=key q hq;have ek:p.1=k:=by rw[<- e1];exact CR hs
   refine⟨A4.2 ⟨p,q0,by rw[<- e1];exact hs⟩,?_⟩;have:=Dt .nil (hk p q0) q4 (show (p.1,p.2)∈es from q0);rw[<- ek,this,e2];rfl
  ·rintro⟨h1,h2⟩;obtain⟨p,q0,hs⟩:=A4.1 (show es.any (fun q=>q.1.sameKey k)=true from h1);have ek:p.1=k:=CR hs;have:=Dt .nil (hk p q0) q4 (show (p.1,p.2)∈es from q0);rw[<- ek,this] at h2;exact A4.2 ⟨(p.1,Bp f p.2),G0.2 ⟨p,CL.2 ⟨q0,h2⟩,rfl⟩,hs⟩
 ·intro h;obtain⟨q,hq,hs⟩:=A4.1 (show (aM f es).any (fun q=>q.1.sameKey k)=true from h);obtain⟨p,q0,e1,e2,e3⟩:=key q hq;have ek:q.1=k:=CR hs;have h1:=Dt .nil (hk2 q hq) q5 (show (q.1,q.2)∈aM f es from hq);have h2:=Dt .nil (hk p q0) q4 (show (p.1,p.2)∈es from q0);rw[ek] at h1;rw[<- e1,ek] at h2;rw[h1,h2,e3]
theorem MrO.done{w2:F1}(h:MrO f w es left cnt wr)(c:HU (.map es:Bs Unit))(hl:∀k,left k=false)(hb:DD wr.heap.size wr w2)(hv:VB w2 wr.heap.size 6 n0 [] (.slice none 0 0) (.map (some w.heap.size))):Tr (f+1) w.heap.size w2 (.pointer (some ⟨wr.heap.size,0,none⟩)) (Bp (f+1) (.map es)):=by
 obtain⟨n',D',es',h1,h2,h3,h4,h5⟩:=h.el;have hs:=h.sz;have c':=h3.pt.canon (h2.canon Bw);have e:es'=aM f es:=MM c' (IA c) (fun k=>by rw[h4,hl,(Hf c k).1];simp) (fun k hk=>by
  rw[h5 k hk,(Hf c k).2 (by rw[(Hf c k).1];rw[h4,hl] at hk;simpa using hk)])
 subst e;have q5:=h3.move (w':=w2) fun j _ hj=>hb.block j hj;obtain⟨al,g1,g2,g3,g4⟩:=h3;have hlt:=g1.lts;have q0:Pt (Ad f w2) D' al:=Pt.mem (fun u p hp hu=>hu.move fun k q4=>hb.block k (hlt k (List.mem_flatMap.2 ⟨p,hp,q4⟩))) g1;refine⟨Zj wr.heap.size w.heap.size (.map al),⟨wr.heap.size,w.heap.size,_,rfl,rfl,AS (AS (AS (AS ⟨al,n',D',rfl,hv,Aj h2 (hb.block _ (A7 h2)),q0⟩)))⟩,?_,?_,?_⟩
 ·rw[AZ,g2];rfl
 ·rw[Bi,H3,H3];refine⟨fun hx=>?_,fun hx=>by have:=g4 _ hx;omega,g3⟩;rcases Ft.1 hx with e|hx
  ·omega
  ·have:=hlt _ hx;omega
 ·rw[Bi];intro k hk;rcases Ft.1 hk with rfl|hk
  ·omega
  ·rcases Ft.1 hk with rfl|hk
   ·omega
   ·have:=g4 k hk;omega
theorem PT{b m n:Nat}{D:List (Lit×Bs A3)}(hS:∀k,C2 (.map es:Bs Unit) k=true->NT f ((CD es).atKey k .nil))(h:VB w b 6 n0 [] (.slice none 0 0) (.map (some m)))(ho:w.ownsMap A1 9 RV m n (.map D))(hp:Pt (Rep f F w) D es)(qt:es.length<maxLen):
  H4 A1 161 #[.pointer (some ⟨b,0,none⟩)] w fun e w'=>∃p,e=.returned (.pointer (some p))/\DD w.heap.size w w'/\Tr (f+1) w.heap.size w' (.pointer (some p)) (Bp (f+1) (.map es)):=by
 have qm:=Bw;have zg:=@run_makeMap A1;have c0:=h.c0;have c6:=h.c6;have qz:=h.lt;have zf:=A7 ho;have hl:=hp.size;have hsz:Maps.size (.map D:Bs A3)=es.length:=hl;have C1:=Ab (hp.canon (ho.canon qm));have qw:Hid ((w.alloc (.map #[] 0)).ownsMap A1 9 RV m n (.map D)):=Ab (ho.alloc _);have d6:(w.alloc (.map #[] 0)).cell? ⟨b,6,none⟩=some (.map (some m)):=(F2 (w:=w) (a:=⟨b,6,none⟩) (Below.heap_alloc w _ b qz)).trans c6;have q5:Hid (∀w0,(w.alloc (.map #[] 0)).grownBy w0 none->w0.heap.size=w.heap.size+2->MrO f w es (has (.map D:Bs A3)) (Maps.size (.map D:Bs A3)) w0):=by
  intro w0 hg hs;have qe:=World.ownsMap_made w A1 9 RV;have hk:∀j,j<w.heap.size+1->w0.heap[j]? = (w.alloc (.map #[] 0)).heap[j]?:=fun j hj=>hg.block j (by simp;omega) (by simp);have hb2:DD w.heap.size w (w.alloc (.map #[] 0)):=(HF _ _).alloc (A6 _) _;refine⟨⟨hg.os.trans hb2.os,hg.tape.trans hb2.tape,hg.output.trans hb2.output,by omega,fun j hj=>(hk j (by omega)).trans (hb2.block j hj)⟩,by omega,0,[],[],by omega,Aj qe (hk _ (by omega)),TrM.nil _ _ _,?_,?_⟩
  ·intro k;rw[hp.has k];cases C2 (.map es:Bs Unit) k<;>rfl
  ·intro k hk;cases hk
 have HP:=Ab hp;have HS:=Ab hS;have qy:=Ab qt;obtain⟨E,hE⟩:∃E,E=Bp (f+1) (.map es):=⟨_,rfl⟩
 rw[<- hE];have HE:=Ab hE;clear hp hS h ho qt hl hE
 go_enter func161,ntmps161
 go_wp2_with (first
  | (at_range;refine wpList_range_own _ rfl _ 109 rfl 9 80 qm underlying109 RV m n _ rfl (Aa qw) ?_;intro w0 q7 qo qr)
  | go_in)
 have e0:(w.alloc (.map #[] 0)).heap.size=w.heap.size+1:=by simp
 have z1:=Ab (Aa q5 w0 qo (by rw[qr];simp));rw[e0] at q7;clear qo qr q5;simp only[Act.put,List.setIfInBounds_toArray,List.set_cons_zero,List.set_cons_succ,e0]
 go_loopw [4] (fun _ wr=>∃ (left:Lit->Bool) (cnt:Nat),wr.ranges A1 9 RV m (w.heap.size+1) n (.map D) left cnt/\Hid (MrO f w es left cnt wr))
  (fun _ wr=>wr.rangeLeft m (w.heap.size+1))
 case atStart=>exact⟨_,_,q7,z1⟩
 case round=>
  obtain⟨left,cnt,qj,G⟩:=hrel
  go_wp2_with (first
   | (at_next;refine wpList_next_ranges _ rfl _ rfl 9 qm RV id id (fun key _ _=>⟨key,rfl⟩) (fun v _ _=>⟨v,rfl⟩) m (w.heap.size+1) n _ _ _ rfl qj ?_ ?_)
   | go_in)
  ·intro _ hl0;have HD:=Ab (fun (w2:F1) (hb:DD wr.heap.size wr w2) (hv:VB w2 wr.heap.size 6 n0 [] (.slice none 0 0) (.map (some w.heap.size)))=>(Aa G).done (Aa C1) hl0 hb hv);have HB:=Ab (Aa G).bel;clear q7 qj
   go_wp2_with (fail)
   go_ret;have qf:∀o:Obj,DD wr.heap.size wr (wr.alloc o):=fun o=>(HF _ _).alloc (A6 _) _
   refine⟨_,rfl,(Aa HB).trans ((qf _).mono (Aa HB).size),?_⟩;rw[Aa HE];exact Aa HD _ (qf _) (HG wr _)
  ·intro x c kl yd yp w1 cnt1 qd qq hv qh q8 hlt z7 zh ze;have qk:DataW.held c=yd:=congrArg Prod.fst (D1 hv);subst qk;have q6:C2 (.map D:Bs A3) kl=true:=has_true_of_atKey qh
   obtain⟨c',e1,q4⟩:=(Aa HP).at kl q6;have e2:c'=c:=by
    have e3:=(e1 .nil).symm.trans (qh .nil);injection e3
   subst e2;have q0:C2 (.map es:Bs Unit) kl=true:=by rw[<- (Aa HP).has kl];exact q6
   have G1:=Ab ((Aa G).next z7);obtain⟨pb,pk,pn,ps,psl,pmv,z6,qi,q9,_⟩:=C3 q4;subst z6;have ck:w1.cell? ⟨pb,0,none⟩=some (.int .i64 pk):=(qi.kept ((Aa G1).bel.block pb qi.lt)).c0;have qx:=Ab q4;have za:=Ab q0;have zb:=Ab qd;have zc:=Ab qq;have qv:=Ab hlt;cases hnl:ZZ ((CD es).atKey kl .nil) with
   | true=>
    rw[hnl] at q9;have ek:(pk != 0)=false:=q9;have G2:=Ab ((Aa G1).skip hlt hnl);clear qh q4 q0 e1 q6 hv q9 hnl qi
    go_wp2_with (fail)
    go_roundw
    case rel=>exact⟨_,cnt1,q8,G2⟩
    case measure=>rw[q8.left_eq,qj.left_eq];exact hlt
   | false=>
    rw[hnl] at q9;have ek:(pk != 0)=true:=q9;have qn:=Ab (fun (w2:F1) (p:Addr) (hb:DD w1.heap.size w1 w2) (hv:Tr f w1.heap.size w2 (.pointer (some p)) (Bp f ((CD es).atKey kl .nil)))=>(Aa G1).step (Aa C1) hlt (Aa qy) qd qq q0 hnl hb hv);have HC:=Ab (Aa HS kl q0 F w1 _ (q4.bel (Aa G1).bel));clear qh q4 q0 e1 q6 hv q9 hnl qi
    go_wp2_with (fail);refine (Aa HC).mono ?_
    rintro e w2 ⟨p,rfl,hb2,qk⟩;obtain⟨w3,z8,qb,qp⟩:=Aa qn w2 p hb2 qk;have qg:=(q8.kept (A9 hb2) (by simp) (by simp)).kept qp (fun e=>by have:=D1 e;omega) (fun e=>by have:=D1 e;omega);have qu:=Ab qb;clear hb2 qk qb qp HC qn
    go_wp2_with (fail)
    go_roundw
    case rel=>exact⟨_,cnt1,qg,qu⟩
    case measure=>rw[qg.left_eq,qj.left_eq];exact Aa qv
theorem JJ:∀ (f:Nat) (a:To),bC f a->NT f a
 | 0,_,_=>fun _ _ _ h=>h.elim
 | f+1,a,hn=>fun F w v h=>by
  cases hob:ZQ a with
  | false=>exact Od h hob hn
  | true=>
   obtain⟨es,rfl⟩:∃es,a=.map es:=by
    cases a<;>first|exact⟨_,rfl⟩|cases hob
   obtain⟨b,rfl,_,h⟩:=h;obtain⟨n1,n2⟩:=hn;rcases h with⟨k,_,e,_⟩|⟨n,e,_⟩|⟨s,e,_⟩|⟨es',sl,ps,e,_⟩|⟨es',m,n,D,e,hv,_,ho,hp⟩
   ·cases e
   ·cases e
   ·cases e
   ·cases e
   ·injection e with e;subst e;exact PT (fun k hk=>by
     obtain⟨p,q0,e⟩:=NJ hk;rw[e];exact JJ f _ (n2 p q0)) hv ho hp (by unfold maxLen;omega)
def Be(m:Option To->List By->To->To×List Zk)(s:List By)(q:Lit×To)(es:List (Lit×To)):List (Lit×To)×List Zk:=
 if ZZ q.2 then (match As es q.1 with
  | none=>(es,[])
  | some o=>(ZF q.1 es,[(0,s++[ES q.1],o)]))
 else (Zr q.1 (m (As es q.1) (s++[ES q.1]) q.2).1 es,(m (As es q.1) (s++[ES q.1]) q.2).2)
def A8(m:Option To->List By->To->To×List Zk)(s:List By):List (Lit×To)->List (Lit×To)->List (Lit×To)×List Zk
 | [],es=>(es,[])
 | q::r,es=>((A8 m s r (Be m s q es).1).1,(Be m s q es).2++(A8 m s r (Be m s q es).1).2)
theorem E8(m:Option To->List By->To->To×List Zk)(s:List By):∀ (l es:List (Lit×To)),GD m s l es=(.map (A8 m s l es).1,(A8 m s l es).2)
 | [],es=>rfl
 | (k,q)::r,es=>by
  unfold GD A8 Be;by_cases hn:ZZ q=true
  ·rw[if_pos hn,if_pos hn];cases hg:As es k with
   | none=>simp only;rw[E8];rfl
   | some o=>simp only;rw[E8];rfl
  ·rw[if_neg hn,if_neg hn];simp only;rw[E8]
theorem Ht(m:Option To->List By->To->To×List Zk)(s:List By)(q:Lit×To):∀ (l es:List (Lit×To)),A8 m s (l++[q]) es=((Be m s q (A8 m s l es).1).1,(A8 m s l es).2++(Be m s q (A8 m s l es).1).2)
 | [],es=>by simp[A8]
 | a::l,es=>by
  simp only[HZ,A8];rw[Ht m s q l];simp only[List.append_assoc]
theorem DW{c:To}(hs:AL es)(h:(AT k,c)∈es):As es (.string k)=some c:=by
 have q0:=apart_of_rising hs.1;have h1:C2 (.map es:To) (.string k)=true:=A4.2 ⟨_,h,CU.2 rfl⟩;unfold As;rw[if_pos h1,Dt .nil (by exact trivial) q0 h]
theorem Gg(h:∀p∈es,p.1≠AT k):As es (.string k)=none:=by
 unfold As;rw[if_neg];intro h1;obtain⟨p,hp,h2⟩:=A4.1 (show (es.any fun p=>p.1.sameKey (.string k))=true from h1);exact h p hp (CR h2)
theorem Ej(es:List (Lit×Bs α))(k:By):(∃c,(AT k,c)∈es) \/ ∀p∈es,p.1≠AT k:=by
 by_cases h:∃p∈es,p.1=AT k
 ·obtain⟨p,hp,e⟩:=h;exact G3 ⟨p.2,e▸hp⟩
 ·exact AS fun p hp e=>h ⟨p,hp,e⟩
theorem D9(k:By):(AT k).before (.string k)=false:=by
 cases h:(AT k).before (.string k) with
 | false=>rfl
 | true=>exact absurd (DY k k h) (H5 k)
theorem Oy{a b:By}(h:(AT a).before (.string b)=true):(AT b).before (.string a)=false:=by
 cases h2:(AT b).before (.string a) with
 | false=>rfl
 | true=>exact absurd (List.lt_trans (DY a b h) (DY b a h2)) (H5 a)
theorem dU{x:Bs α}:∀ {r:List (Lit×Bs α)},(∀p∈r,(AT k).before p.1=true)->HX (.string k,x) r=(.string k,x)::r
 | [],_=>rfl
 | a::r,h=>by
  unfold HX;rw[if_pos (h a D3)]
theorem IC{α:Type}{k:By}{c x:Bs α}:∀ {es:List (Lit×Bs α)} {i:Nat},AL es->es[i]? = some (.string k,c)->(es.modify i fun p=>(p.1,x))=Zr (.string k) x es
 | [],i,_,h=>by simp at h
 | p::r,0,hs,h=>by
  obtain rfl:p=(.string k,c):=by simpa using h
  have h1:=HH.1 hs.1;have hr:∀q∈r,q.1≠AT k:=fun q hq e=>by
   have:=h1.1 q hq;rw[e] at this;rw[D9] at this;cases this
  unfold Zr;rw[H1,if_neg (by simp[CU.2 rfl]),FW hr,dU fun q hq=>h1.1 q hq];rfl
 | p::r,i+1,hs,h=>by
  have h1:=HH.1 hs.1;have hm:(AT k,c)∈r:=List.mem_of_getElem? (by simpa using h);have hb:=h1.1 _ hm;have q4:p.1≠AT k:=fun e=>by
   rw[e] at hb;rw[D9] at hb;cases hb
  have ih:=IC (x:=x) (es:=r) (i:=i) ⟨h1.2,fun q hq=>hs.2 q (F5 _ hq)⟩ (by simpa using h);have q0:(AT k).before p.1=false:=by
   obtain⟨s,e⟩:=hs.2 p D3;rw[e] at hb |-;exact Oy hb
  rw[List.modify_succ_cons,ih];unfold Zr;rw[H1,if_pos (by rw[sameKey_ne q4];rfl)];conv=>rhs;unfold HX
  rw[if_neg (by rw[q0];decide)]
theorem MA{j:Nat}{c m:Zf}(n:Zf)(hc:(AH m)[j]? = some c):∀ {p:List Nat} {T:Zf},Zo p T=some m->Zs (p++[j]) n T=Zs p (Z6 m j n) T
 | [],T,h=>by
  obtain rfl:T=m:=by simpa[Zo] using h
  rw[List.nil_append,BE n hc];rfl
 | i::r,T,h=>by
  obtain⟨e,he,hr⟩:=Ce h;rw[HZ,BE _ he,BE _ he,MA n hc hr]
theorem WF{p:List Nat}{T T1 T2 N N1 m0:Zf}(h0:Zo p T=some m0)(h1:er (f+p.length) T1=er (f+p.length) (Zs p N T))(h2:∀n1,Zo p T1=some n1->er (f+p.length) T2=er (f+p.length) (Zs p N1 T1)):
  (∃n2,Zo p T2=some n2/\er f n2=er f N1) /\ ∀n2,er f n2=er f N1->er (f+p.length) T2=er (f+p.length) (Zs p n2 T):=by
 have hs:(Zo p T1).map (er f)=some (er f N):=by
  rw[<- EL,h1,EL,Ie _ h0];rfl
 obtain⟨n1,q4,e1⟩:=E0.1 hs;have q5:=h2 n1 q4;have q0:Zo p (er (f+p.length) T)=some (er f m0):=by rw[EL,h0];rfl
 have e2:er (f+p.length) T2=Zs p (er f N1) (er (f+p.length) T):=by
  rw[q5,BF p f N1 q4,h1,BF p f N h0,Kn _ _ q0]
 refine⟨?_,fun n2 hn=>?_⟩
 ·have hs2:(Zo p T2).map (er f)=some (er f N1):=by
   rw[<- EL,e2,Ie _ q0]
  exact E0.1 hs2
 ·rw[e2,BF p f n2 h0,hn]
theorem AR.kid{m c:Zf}{i:Nat}{key:By}(h:AR m i key c):∃j,(AH m)[j]? = some c /\ ∀x,Z6 m j x=Br i key x m:=by
 rcases h with⟨b,g,al,rfl,h⟩|⟨b,g,es,rfl,h,hs⟩
 ·exact⟨i,h,fun x=>by rw[Kx];unfold Br;rw[C9]⟩
 ·obtain⟨j,hj⟩:=List.getElem?_of_mem h;refine⟨j,by rw[Bx,List.getElem?_map,hj];rfl,fun x=>?_⟩;rw[Kw,IC hs hj];unfold Br;rw[CG]
theorem GF{p:Lit×Bs α}{es:List (Lit×Bs α)}:p∈ZF (.string k) es<->p∈es/\p.1 ≠ .string k:=by
 unfold ZF;rw[CL];constructor
 ·rintro⟨h1,h2⟩;refine⟨h1,fun e=>?_⟩;rw[e,CU.2 rfl] at h2;cases h2
 ·rintro⟨h1,h2⟩;exact⟨h1,by rw[sameKey_ne h2];rfl⟩
theorem DL{c:Bs α}{p:Lit×Bs α}{es:List (Lit×Bs α)}:p∈Zr (.string k) c es<->p=(.string k,c)\/(p∈es/\p.1 ≠ .string k):=by
 rw[(C4 (.string k) c es).mem_iff,Ft,GF]
theorem O2:∀ {l:List Nat} {a:Nat},a∈l->a<=l.sum
 | b::l,a,h=>by
  rw[List.sum_cons];rcases Ft.1 h with rfl|h
  ·omega
  ·have:=O2 h;omega
theorem EC{p:Lit×To}(h:p∈es):(Ag (strOf p.1)).length+2+Zh f p.2<=Zh (f+1) (.map es):=by
 have h1:(Ag (strOf p.1)).length+2+Zh f p.2<=(es.map fun p=>(Ag (strOf p.1)).length+2+Zh f p.2).sum:=O2 (G0.2 ⟨p,h,rfl⟩);show _<=2+(es.map fun p=>(Ag (strOf p.1)).length+2+Zh f p.2).sum;omega
section
variable{d x:Int}
def ZM(d x:Int)(f:Nat)(Zg:Int)(es:List (Lit×To)):Prop:=es.Pairwise (fun p q=>p.1.before q.1=true) /\ ∀p∈es,(∃s,p.1=.string s/\Ut s)/\Zl d x f (Zg+1) p.2
theorem ZM.skey(h:ZM d x f Zg es):AL es:=⟨h.1,fun p hp=>by obtain⟨s,e,_⟩:=(h.2 p hp).1;exact⟨s,e⟩⟩
theorem B8(h:Zl d x (f+1) Zg (.map es)):Zg<=d/\ZM d x f Zg es:=by
 obtain⟨h0,h⟩:=h;rcases h with⟨k,_,e⟩|⟨s,_,e⟩|⟨n,_,_,_,e⟩|⟨es',_,e⟩|⟨es',h1,h2,e⟩
 ·cases e
 ·cases e
 ·cases e
 ·cases e
 ·injection e with e;subst e;exact⟨h0,h1,h2⟩
theorem ZM.gd(h:ZM d x f Zg es)(h0:Zg<=d):Zl d x (f+1) Zg (.map es):=⟨h0,AS (AS (AS (AS ⟨es,h.1,h.2,rfl⟩)))⟩
theorem ZM.mdel(h:ZM d x f Zg es)(k:Lit):ZM d x f Zg (ZF k es):=⟨h.1.filter _,fun p hp=>h.2 p (CL.1 hp).1⟩
theorem ZM.mput{c:To}(h:ZM d x f Zg es)(hk:Ut k)(hc:Zl d x f (Zg+1) c):ZM d x f Zg (Zr (.string k) c es):=by
 refine⟨(FF h.skey).1,fun p hp=>?_⟩;rcases DL.1 hp with rfl|⟨hp,_⟩
 ·exact⟨⟨k,rfl,hk⟩,hc⟩
 ·exact h.2 p hp
theorem Ii:∀ {f:Nat} {Zg:Int} {p:To},Zl d x f Zg p->Zl d x f Zg (Bp f p)
 | 0,_,_,h=>h.elim
 | f+1,Zg,p,h=>by
  cases hob:ZQ p with
  | false=>rw[He hob];exact h
  | true=>
   obtain⟨es,rfl⟩:∃es,p=.map es:=by
    cases p<;>first|exact⟨_,rfl⟩|cases hob
   obtain⟨h0,hm⟩:=B8 h;refine ZM.gd (es:=aM f es) ⟨?_,fun q hq=>?_⟩ h0
   ·unfold aM;rw[HW];exact hm.1.filter _
   ·unfold aM at hq;obtain⟨p,hp,rfl⟩:=G0.1 hq;have h2:=hm.2 p (CL.1 hp).1;exact⟨h2.1,Ii h2.2⟩
def aS(d x:Int)(B P:Nat)(o:Zk):Prop:=o.1<3/\(o.2.1.map fun t=>t.length+1).sum<=P/\(o.1≠1 -> ∃f Zg,1<=Zg/\Zl d x f Zg o.2.2/\Zh f o.2.2<=B)
theorem aS.mono{P P':Nat}(h:aS d x B P o)(hP:P<=P'):aS d x B P' o:=⟨h.1,Dp h.2.1 hP,h.2.2⟩
def Vi(d x:Int)(f:Nat):Prop:=∀ (Zg:Int) (o:Option To) (s:List By) (p:To) (B:Nat),1<=Zg->(∀v,o=some v->Zl d x f Zg v/\Zh f v<=B)->Zl d x f Zg p ->
 Zl d x f Zg (Zp f o s p).1/\(∀q∈(Zp f o s p).2,aS d x B ((s.map fun t=>t.length+1).sum+Zh f p) q)/\(Zp f o s p).2.length<=Zh f p
theorem R9{v:To}(h:ZM d x f Zg es)(hg:As es (.string k)=some v):(AT k,v)∈es:=by
 rcases Ej es k with⟨c,hc⟩|hn
 ·rw[DW h.skey hc] at hg;injection hg with hg;rw[<- hg];exact hc
 ·rw[Gg hn] at hg;cases hg
theorem Ip{f:Nat}(ih:Vi d x f){Zg:Int}(hlv:1<=Zg){B:Nat}(s:List By):∀ (l es:List (Lit×To)),ZM d x f Zg es->ZM d x f Zg l->(∀q∈l,∀c,(q.1,c)∈es->Zh f c<=B) ->
  ZM d x f Zg (A8 (Zp f) s l es).1/\(∀q∈(A8 (Zp f) s l es).2,aS d x B ((s.map fun t=>t.length+1).sum+(l.map fun p=>(Ag (strOf p.1)).length+2+Zh f p.2).sum) q)/\(A8 (Zp f) s l es).2.length<=(l.map fun p=>(Ag (strOf p.1)).length+2+Zh f p.2).sum
 | [],es,he,_,_=>⟨he,(fun q hq=>by cases hq),A6 _⟩
 | q::l,es,he,hl,hB=>by
  obtain⟨⟨k,ek,hk⟩,hq⟩:=hl.2 q D3;obtain⟨qk,qv⟩:=q;simp only at ek hq;subst ek;have hp:=HH.1 hl.1;have q5:ZM d x f Zg l:=⟨hp.2,fun p hp=>hl.2 p (F5 _ hp)⟩
  have q6:∀p∈l,p.1≠AT k:=fun p q0 e=>by
   have:=hp.1 p q0;rw[e,D9] at this;cases this
  have hv:∀v,As es (.string k)=some v->Zl d x f (Zg+1) v/\Zh f v<=B:=fun v hg=>by
   have hm:=R9 he hg;exact⟨(he.2 _ hm).2,hB _ D3 _ hm⟩
  have q7:ZM d x f Zg (Be (Zp f) s (.string k,qv) es).1/\(∀r∈(Be (Zp f) s (.string k,qv) es).2,aS d x B ((s.map fun t=>t.length+1).sum+((Ag k).length+2+Zh f qv)) r)/\(Be (Zp f) s (.string k,qv) es).2.length<=(Ag k).length+2+Zh f qv /\ ∀p∈l,∀c,(p.1,c)∈(Be (Zp f) s (.string k,qv) es).1->(p.1,c)∈es:=by
   have q4:((s++[k]).map fun t=>t.length+1).sum=(s.map fun t=>t.length+1).sum+(k.length+1):=Ef s k;have q8:=E5 k;unfold Be;by_cases hn:ZZ qv=true
   ·rw[if_pos hn];simp only;cases hg:As es (.string k) with
    | none=>exact⟨he,(fun r hr=>by cases hr),HK _,fun p _ c h=>h⟩
    | some o=>
     obtain⟨g1,g2⟩:=hv o hg;refine⟨he.mdel _,fun r hr=>?_,by simp;omega,fun p _ c h=>(GF.1 h).1⟩;obtain rfl:r=(0,s++[ES (.string k)],o):=by simpa using hr
     refine⟨by omega,?_,fun _=>⟨f,Zg+1,by omega,g1,g2⟩⟩;show ((s++[k]).map fun t=>t.length+1).sum<=_;rw[q4];omega
   ·rw[if_neg hn];simp only;obtain⟨g1,g2,g3⟩:=ih (Zg+1) (As es (.string k)) (s++[k]) qv B (by omega) hv hq;refine⟨he.mput hk g1,fun r hr=>(g2 r hr).mono ?_,Dp g3 (by omega),fun p q0 c h=>?_⟩
    ·rw[q4];omega
    ·rcases DL.1 h with e|h
     ·exact absurd (congrArg Prod.fst e) (q6 p q0)
     ·exact h.1
  obtain⟨s1,s2,s3,s4⟩:=q7;obtain⟨r1,r2,r3⟩:=Ip ih hlv s l _ s1 q5 fun p q0 c h=>hB p (F5 _ q0) c (s4 p q0 c h);have e0:(((AT k,qv)::l).map fun p=>(Ag (strOf p.1)).length+2+Zh f p.2).sum=((Ag k).length+2+Zh f qv)+(l.map fun p=>(Ag (strOf p.1)).length+2+Zh f p.2).sum:=by simp[strOf]
  rw[e0];refine⟨r1,fun r hr=>?_,?_⟩
  ·rcases List.mem_append.1 hr with h|h
   ·exact (s2 r h).mono (by omega)
   ·exact (r2 r h).mono (by omega)
  ·unfold A8;rw[CH];omega
theorem Q0:∀ {f:Nat} {Zg:Int} {v:To},Zl d x f Zg v->1<=Zh f v
 | 0,_,_,h=>h.elim
 | f+1,Zg,v,h=>by
  obtain⟨_,h⟩:=h;rcases h with⟨k,hk,rfl⟩|⟨s,_,rfl⟩|⟨n,_,_,_,rfl⟩|⟨es,_,rfl⟩|⟨es,_,_,rfl⟩
  ·match k,hk with
   | 0,_=>exact HQ (HK 3)
   | 1,_=>exact HQ (HK 3)
   | 2,_=>exact HQ (HK 4)
  ·show 1<=(Zm (f+1) (Aq s)).length;show 1<=(Ag s).length;simp[Ag]
  ·show 1<=(Zm (f+1) (Bv n)).length;show 1<=(BB n).length;unfold BB;split
   ·simp
   ·rename_i h;have:n.2.1.length≠0:=fun e=>h (List.eq_nil_of_length_eq_zero e);simp only[CH];omega
  ·rw[Jr];omega
  ·rw[CA];omega
theorem JG:∀f:Nat,Vi d x f
 | 0=>fun Zg o s p B _ _ h=>h.elim
 | f+1=>fun Zg o s p B hlv ho hp=>by
  have q0:∀w:To,o=some w->(ZQ w=false\/ZQ p=false)->Zp (f+1) o s p=(Bp (f+1) p,[(2,s,w)]):=fun w e h=>by
   subst e;cases w<;>cases p<;>first|rfl|(rcases h with h|h<;>cases h)
  have h1:=Q0 hp;cases o with
  | none=>
   refine⟨Ii hp,fun q hq=>?_,h1⟩;obtain rfl:q=(1,s,.nil):=by simpa[Zp] using hq
   exact⟨by omega,by simp,fun h=>absurd rfl h⟩
  | some v=>
   obtain⟨gv,sv⟩:=ho v rfl;cases ob:ZQ v with
   | false=>
    rw[q0 v rfl (G3 ob)];refine⟨Ii hp,fun q hq=>?_,h1⟩;obtain rfl:q=(2,s,v):=by simpa using hq
    exact⟨by omega,by simp,fun _=>⟨f+1,Zg,hlv,gv,sv⟩⟩
   | true=>
    cases pb:ZQ p with
    | false=>
     rw[q0 v rfl (AS pb)];refine⟨Ii hp,fun q hq=>?_,h1⟩;obtain rfl:q=(2,s,v):=by simpa using hq
     exact⟨by omega,by simp,fun _=>⟨f+1,Zg,hlv,gv,sv⟩⟩
    | true=>
     obtain⟨es,rfl⟩:∃es,v=.map es:=by
      cases v<;>first|exact⟨_,rfl⟩|cases ob
     obtain⟨ps,rfl⟩:∃ps,p=.map ps:=by
      cases p<;>first|exact⟨_,rfl⟩|cases pb
     obtain⟨h0,hm⟩:=B8 gv;obtain⟨_,q4⟩:=B8 hp;have he:Zp (f+1) (some (.map es)) s (.map ps)=GD (Zp f) s ps es:=rfl;rw[he,E8];have hsz:(ps.map fun p=>(Ag (strOf p.1)).length+2+Zh f p.2).sum<=Zh (f+1) (.map ps):=Nat.le_add_left _ 2;obtain⟨r1,r2,r3⟩:=Ip (JG f) hlv (B:=B) s ps es hm q4 fun q _ c hc=>by
      have:=EC (f:=f) hc;simp only at this;omega
     exact⟨r1.gd h0,fun q hq=>(r2 q hq).mono (Nat.add_le_add_left hsz _),Dp r3 hsz⟩
end
end Go.Proofs.YtdpomdelmdofmaaGreatDoor
