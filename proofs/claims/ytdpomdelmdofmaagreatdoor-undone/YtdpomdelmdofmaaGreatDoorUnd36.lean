import Derived.Test.YtdpomdelmdofmaaGreatDoorUnd35
namespace Go.Proofs.YtdpomdelmdofmaaGreatDoor
open Go.Proofs.Tryz
section
set_option maxRecDepth 100000
set_option maxHeartbeats 2000000
open Go.RowKit Go.Maps
def KQ(f:Nat)(w:World)(G:Nat->Prop)(kv pv fv vv:Value)(o:Sp.Opn):Prop :=
 kv = .int .i64 o.1/\o.1<3/\AM w G pv o.2.1/\fv = .slice none 0 0/\((o.1=1/\vv = .pointer none)\/(o.1≠1/\Rep f G w vv o.2.2))
theorem KQ.move{f:Nat}{w w':World}{G G':Nat->Prop}{kv pv fv vv:Value}{o:Sp.Opn}(h:KQ f w G kv pv fv vv o)(hk:∀k,G k->k<w.heap.size->w'.heap[k]? = w.heap[k]? /\ G' k):KQ f w' G' kv pv fv vv o :=
 ⟨h.1,h.2.1,h.2.2.1.move hk,h.2.2.2.1,h.2.2.2.2.imp id fun ⟨a,b⟩=>⟨a,b.move hk⟩⟩
theorem Rep.dn{d x:Int}{F:Nat->Prop}{w:World}:∀ {f g h:Nat} {lv:Int} {v:Value} {t:Sp.V},Rep f F w v t->Sp.gd d x h lv t->d<lv+g->Rep g F w v t
 | 0,_,_,_,_,_,hr,_,_=>hr.elim
 | _+1,_,0,_,_,_,_,hg,_=>hg.elim
 | _+1,0,_+1,_,_,_,_,hg,hd=>by
  have:=hg.1;omega
 | f+1,g+1,h+1,lv,v,t,hr,hg,hd=>by
  obtain⟨b,e,hF,hr⟩:=hr;refine⟨b,e,hF,?_⟩;rcases hr with⟨k,hk,e2,hv⟩|⟨n,e2,hv,hb⟩|⟨s,e2,hv⟩|⟨es,sl,ps,e2,hv,ho,hs,ha⟩|⟨es,m,n,D,e2,hv,hm,ho,hp⟩
  ·exact Or.inl ⟨k,hk,e2,hv⟩
  ·exact Or.inr (Or.inl ⟨n,e2,hv,hb⟩)
  ·exact Or.inr (Or.inr (Or.inl ⟨s,e2,hv⟩))
  ·refine Or.inr (Or.inr (Or.inr (Or.inl ⟨es,sl,ps,e2,hv,ho,hs,Al.mem (fun a c hc hu=>?_) ha⟩)));obtain⟨_,hg⟩:=hg;rcases hg with⟨k,_,e3⟩|⟨s,_,e3⟩|⟨n,_,_,_,e3⟩|⟨es',he,e3⟩|⟨es',_,_,e3⟩
   ·rw[e2] at e3;cases e3
   ·rw[e2] at e3;cases e3
   ·rw[e2] at e3;cases e3
   ·rw[e2] at e3;injection e3 with e3 _;subst e3;exact Rep.dn hu (he c hc) (by omega)
   ·rw[e2] at e3;cases e3
  ·refine Or.inr (Or.inr (Or.inr (Or.inr ⟨es,m,n,D,e2,hv,hm,ho,Pt.mem (fun a p hc hu=>?_) hp⟩)));obtain⟨_,hg⟩:=hg;rcases hg with⟨k,_,e3⟩|⟨s,_,e3⟩|⟨n,_,_,_,e3⟩|⟨es',_,e3⟩|⟨es',_,he,e3⟩
   ·rw[e2] at e3;cases e3
   ·rw[e2] at e3;cases e3
   ·rw[e2] at e3;cases e3
   ·rw[e2] at e3;cases e3
   ·rw[e2] at e3;injection e3 with e3;subst e3;exact Rep.dn hu (he p hc).2 (by omega)
def PO(k:Nat):Bool:=!(k == 1)
theorem Rp{w:World}(h:GY w){k:Nat}(hk:k<3):3<w.heap.size/\w.cell? ⟨3,k*3,none⟩=some (.string ⟨(Sp.BD k).toArray⟩)/\w.cell? ⟨3,k*3+1,none⟩=some (.bool (PO k))/\w.cell? ⟨3,k*3+2,none⟩=some (.bool false):=by
 obtain⟨t,fr,e⟩:=h;have hc:∀i,w.cell? ⟨3,i,none⟩=CA[i]?:=fun i=>by simp[World.cell?,e]
 refine⟨(Array.getElem?_eq_some_iff.1 e).1,?_⟩;rw[hc,hc,hc]
 match k,hk with
 | 0,_=>exact⟨rfl,rfl,rfl⟩
 | 1,_=>exact⟨rfl,rfl,rfl⟩
 | 2,_=>exact⟨rfl,rfl,rfl⟩
theorem StB.rep{w:World}{B:Nat}{v:Value}{s:Sp.By}(h:StB w B v s){f:Nat}{F:Nat->Prop}(hF:∀k,B<=k->F k):Rep (f+1) F w v (Sp.Az s):=by
 obtain⟨p,rfl,h1,h2⟩:=h;exact⟨p,rfl,hF p h1,Or.inr (Or.inr (Or.inl ⟨s,rfl,h2⟩))⟩
theorem Sk{f:Nat}{w:World}{G:Nat->Prop}{kv pv fv vv:Value}{o:Sp.Opn}(h:KQ (f+1) w G kv pv fv vv o)(hs:(o.2.1.map fun t=>t.length+1).sum<=1000000)(hT:Af w) :
  Calls Tryz.prog 122 #[.agg #[kv,pv,fv,vv]] w fun e w'=>∃p,e = .returned (.pointer (some ⟨p,0,none⟩))/\w.heap.size<=p/\Rep (f+2) (fun q=>(G q/\q<w.heap.size)\/w.heap.size<=q) w' (.pointer (some ⟨p,0,none⟩)) (Sp.A0 o)/\Below w.heap.size w w':=by
 obtain⟨rfl,hk,ht,rfl,hv⟩:=h;obtain⟨pa,pl,pc,rfl⟩:=Fa ht;obtain⟨y,rfl⟩:∃y,vv = .pointer y:=by
  rcases hv with⟨_,rfl⟩|⟨_,hr⟩
  ·exact⟨_,rfl⟩
  ·obtain⟨b,e,_⟩:=Rep.ptr hr;exact⟨_,e⟩
 obtain⟨hl,c0,c1,c2⟩:=Rp hT.otab hk;refine (Sj (nm:=Sp.BD o.1) (ps:=Sp.AY o.2.1) (by omega) hl c0 c1 c2 fun w' hb=>N5 (ht.move fun k hk hkl=>⟨hb.block k hkl,hk⟩).toks hs (hT.below (hb.mono hT.ng)).pesc).mono ?_;rintro e w' ⟨p,M,x12,x16,rfl,hvb,hp,hM,h1,h2,hb,ho⟩;refine⟨p,rfl,hp,?_,hb⟩;have r1:Rep (f+1) (fun q=>(G q/\q<w.heap.size)\/w.heap.size<=q) w' x12 (Sp.Az (Sp.BD o.1)):=h1.rep fun k hk=>Or.inr hk;have r2:Rep (f+1) (fun q=>(G q/\q<w.heap.size)\/w.heap.size<=q) w' x16 (Sp.Az (Sp.AY o.2.1)):=h2.rep fun k hk=>Or.inr hk;rcases hv with⟨h1k,e⟩|⟨h1k,hr⟩
 ·have en:PO o.1=false:=by rw[h1k];rfl
  rw[en] at ho;refine⟨p,rfl,Or.inr hp,Or.inr (Or.inr (Or.inr (Or.inr ⟨[(.string Sp.op_,Sp.Az (Sp.BD o.1)),(.string Sp.BE,Sp.Az (Sp.AY o.2.1))],M,3,_,?_,hvb,Or.inr hM,ho,?_⟩)))⟩
  ·unfold Sp.A0;rw[if_pos h1k]
  ·exact⟨⟨rfl,x12,rfl,r1⟩,⟨rfl,x16,rfl,r2⟩,trivial⟩
 ·have en:PO o.1=true:=by unfold PO;simpa using h1k
  rw[en] at ho;refine⟨p,rfl,Or.inr hp,Or.inr (Or.inr (Or.inr (Or.inr ⟨[(.string Sp.op_,Sp.Az (Sp.BD o.1)),(.string Sp.BE,Sp.Az (Sp.AY o.2.1)),(.string Sp.Bg,o.2.2)],M,3,_,?_,hvb,Or.inr hM,ho,?_⟩)))⟩
  ·unfold Sp.A0;rw[if_neg h1k]
  ·exact⟨⟨rfl,x12,rfl,r1⟩,⟨rfl,x16,rfl,r2⟩,⟨rfl,.pointer y,rfl,hr.move fun k hk hkl=>⟨hb.block k hkl,Or.inl ⟨hk,hkl⟩⟩⟩,trivial⟩
theorem UD{f:Nat}(hf:0<f){w:World}{G:Nat->Prop}{kv pv fv vv:Value}{o:Sp.Opn}(h:KQ f w G kv pv fv vv o)(hs:(o.2.1.map fun t=>t.length+1).sum<=1000000)(hT:Af w) :
  Calls Tryz.prog 122 #[.agg #[kv,pv,fv,vv]] w fun e w'=>∃p,e = .returned (.pointer (some ⟨p,0,none⟩))/\w.heap.size<=p/\Rep (f+1) (fun q=>(G q/\q<w.heap.size)\/w.heap.size<=q) w' (.pointer (some ⟨p,0,none⟩)) (Sp.A0 o)/\Below w.heap.size w w':=by
 cases f with
 | zero=>omega
 | succ f=>exact Sk h hs hT
theorem Rep.arr{f:Nat}{F:Nat->Prop}{w:World}{b:Nat}{es:List Sp.V}{sl:Value}{ps:List Value}(hF:F b)(h:VB w b 5 n0 [] sl (.map none))(ho:w.ownsRow 0 80 1 sl ps.length ps)(hs:∀g,sl.ownBlock=some g->F g)(ha:Al (Rep f F w) ps es):Rep (f+1) F w (.pointer (some ⟨b,0,none⟩)) (Sp.Ar es) :=
 ⟨b,rfl,hF,Or.inr (Or.inr (Or.inr (Or.inl ⟨es,sl,ps,rfl,h,ho,hs,ha⟩)))⟩
structure TxI(wb:World)(B vb:Nat)(sl:Value)(n:Nat)(xs:List Value)(ov:Value)(f:Nat)(F:Nat->Prop)(d:Sp.V)(A:Value->Value->Value->Value->Value->Value->Value->Value->Value->Value->Value->Act)(l:Array Bool)(a:Act)(w:World):Prop where
 sz:l.size=12
 os:w.os=wb.os
 tape:w.tape=wb.tape
 output:w.output=wb.output
 size:wb.heap.size<=w.heap.size
 kept:∀k,k<wb.heap.size->sl.ownBlock≠some k->k≠vb->w.heap[k]? = wb.heap[k]?
 row0:l.getD 8 false=false -> ∀k,sl.ownBlock=some k->w.heap[k]? = wb.heap[k]?
 vb0:l.getD 11 false=false->w.heap[vb]? = wb.heap[vb]?
 d7:l.getD 7 false=true->l.getD 6 false=true/\l.getD 6 false=true
 d8:l.getD 8 false=true->l.getD 7 false=true/\l.getD 4 false=true
 d11:l.getD 11 false=true->l.getD 8 false=true/\l.getD 10 false=true
 ex:∃x14 x15 x16 x17 x18 x19 x20 x21 x22 x23 x24,a=A x14 x15 x16 x17 x18 x19 x20 x21 x22 x23 x24 /\
  (l.getD 0 false=true->x14 = .pointer (some ⟨vb,0,none⟩))/\(l.getD 1 false=true->x15 = .pointer (some ⟨vb,0,none⟩))/\(l.getD 2 false=true->x16 = .pointer (some ⟨vb,0,none⟩))/\(l.getD 3 false=true->x17 = .pointer (some ⟨vb,5,none⟩)) /\
  (l.getD 4 false=true->x18=sl)/\(l.getD 5 false=true->x19=ov)/\(l.getD 6 false=true->Hid (∃p,x20 = .pointer p))/\(l.getD 6 false=true->l.getD 8 false=false->Rep f (fun q=>F q\/wb.heap.size<=q) w x20 d) /\
  (l.getD 7 false=true -> ∃g,x21 = .slice (some ⟨g,0,none⟩) 1 1/\wb.heap.size<=g/\(l.getD 8 false=false->w.heap[g]? = some (.cells #[x20] 80 (0,0)))) /\
  (l.getD 8 false=true -> ∃q cap,x22 = .slice (some ⟨q,0,none⟩) (n+1) cap/\w.ownsRow B 80 1 x22 (n+1) (xs++[x20])/\(sl.ownBlock=some q\/wb.heap.size<=q)/\Rep f (fun k=>(F k\/wb.heap.size<=k)/\k≠q) w x20 d) /\
  (l.getD 9 false=true->x23 = .pointer (some ⟨vb,0,none⟩))/\(l.getD 10 false=true->x24 = .pointer (some ⟨vb,5,none⟩))/\(l.getD 11 false=true->VB w vb 5 n0 [] x22 (.map none))
structure TxR(w:World)(G:Nat->Prop)(f:Nat)(j:List Sp.Opn)(k:Nat)(xs:List Value)(sl:Value)(wr:World):Prop where
 bel:Below w.heap.size w wr
 box:VB wr w.heap.size 5 n0 [] sl (.map none)
 own:wr.ownsRow (w.heap.size+1) 80 1 sl k xs
 al:Al (Rep f (fun q=>(G q/\q<w.heap.size)\/(w.heap.size+1<=q/\sl.ownBlock≠some q)) wr) xs ((j.take k).map Sp.A0)
theorem PL{f:Nat}{w:World}{G:Nat->Prop}{ao:Option Addr}{N cap:Nat}{j:List Sp.Opn}(hf:0<f)(hN:N=j.length)
  (hrow:0<N -> ∃g,ao=some ⟨g,0,none⟩/\g<w.heap.size/\N<=cap /\ ∀k (hk:k<j.length),∃pa pl pc y,KQ f w G (.int .i64 j[k].1) (.slice pa pl pc) (.slice none 0 0) (.pointer y) j[k]/\w.cell? ⟨g,k*4,none⟩=some (.int .i64 j[k].1)/\w.cell? ⟨g,k*4+1,none⟩=some (.slice pa pl pc)/\w.cell? ⟨g,k*4+2,none⟩=some (.slice none 0 0)/\w.cell? ⟨g,k*4+3,none⟩=some (.pointer y))
  (hp:∀o∈j,(o.2.1.map fun t=>t.length+1).sum<=1000000) (hn:N<=10000000000000) (hl:(Sp.can (f+2) (Sp.Ar (j.map Sp.A0))).length<=8796093022208) (hT:Af w) :
  Calls Tryz.prog 87 #[.slice ao N cap] w fun e w'=>e = .returned (.string ⟨(Sp.can (f+2) (Sp.Ar (j.map Sp.A0))).toArray⟩)/\Below w.heap.size w w':=by
 have hng:=hT.ng;obtain⟨W0,hW0⟩:∃W0,W0=w.alloc (.cells #[.int .i64 5,.bool false,.string ⟨#[]⟩,.int .i64 0,.string ⟨#[]⟩,.slice none 0 0,.map none] 111):=⟨_,rfl⟩
 have hb0:Below w.heap.size w W0:=by rw[hW0];exact (Below.refl _ _).alloc (Nat.le_refl _) _
 have H0:=Ab (show TxR w G (f+1) j 0 [] (.slice none 0 0) W0 from⟨hb0,by rw[hW0];exact heap_alloc_new w _,⟨rfl,Or.inl ⟨rfl,rfl⟩⟩,by rw[List.take_zero];trivial⟩);have HN:=Ab hN;have HROW:=Ab hrow;have HP:=Ab hp;have HL:=Ab hl;have HT:=Ab hT;have HW0:=Ab hW0;clear hN hrow hp hl hT hW0 hb0
 go_enter func87,ntmps87
 go_wp2_with (fail);rw[<- Aa HW0]
 go_loopw [10] (fun i wr=>∃ (k:Nat) (xs:List Value) (sl:Value),k<=N/\i = .int .i64 k/\Hid (TxR w G (f+1) j k xs sl wr)) (fun i _=>N-(intOf i).toNat)
 case atStart=>exact⟨0,[],.slice none 0 0,by omega,rfl,H0⟩
 case round =>
  obtain⟨k,xs,sl,hk,rfl,HI⟩:=hrel;by_cases hlt:k<N
  ·have hkl:k<j.length:=by have:=Aa HN;omega
   obtain⟨g,rfl,hg,hcap,hc⟩:=Aa HROW (by omega);obtain⟨pa,pl,pc,y,ho,c0,c1,c2,c3⟩:=hc k hkl;obtain⟨kk,hkk⟩:∃kk,kk=j[k].1:=⟨_,rfl⟩
   rw[<- hkk] at ho c0;have hbw:=(Aa HI).bel;have k0:=(hbw.cell (p:=⟨g,k*4,none⟩) hg).trans c0;have k1:=(hbw.cell (p:=⟨g,k*4+1,none⟩) hg).trans c1;have k2:=(hbw.cell (p:=⟨g,k*4+2,none⟩) hg).trans c2;have k3:=(hbw.cell (p:=⟨g,k*4+3,none⟩) hg).trans c3;have hlt2:(k:Int)<(N:Int):=by omega
   have hlt3:(k:Int)<(cap:Int):=by omega
   have hn2:(N:Int)<=(cap:Int):=by omega
   have HO:=Ab ho;clear hc c0 c1 c2 c3 hkk ho hbw
   go_upto_region 5 with (fail)
   obtain⟨wb,hwb⟩:∃wb,wb=wr.alloc (.cells #[.int .i64 kk,.slice pa pl pc,.slice none 0 0,.pointer y] 178):=⟨_,rfl⟩
   rw[<- hwb];have hI:=Aa HI;have hrs:=hI.bel.size;have hvr:=hI.box.lt;have hwbs:wb.heap.size=wr.heap.size+1:=by rw[hwb];simp
   have hbb:Below wr.heap.size wr wb:=by rw[hwb];exact (Below.refl _ _).alloc (Nat.le_refl _) _
   have hob:wb.heap[wr.heap.size]? = some (.cells #[.int .i64 kk,.slice pa pl pc,.slice none 0 0,.pointer y] 178 (0,0)):=by rw[hwb];exact heap_alloc_new wr _
   have p0:wb.cell? ⟨wr.heap.size,0,none⟩=some (.int .i64 kk):=by simp[World.cell?,hob]
   have p1:wb.cell? ⟨wr.heap.size,1,none⟩=some (.slice pa pl pc):=by simp[World.cell?,hob]
   have p2:wb.cell? ⟨wr.heap.size,2,none⟩=some (.slice none 0 0):=by simp[World.cell?,hob]
   have p3:wb.cell? ⟨wr.heap.size,3,none⟩=some (.pointer y):=by simp[World.cell?,hob]
   have hvb:VB wb w.heap.size 5 n0 [] sl (.map none):=hI.box.kept (hbb.block _ hvr);have hc5:=hvb.c5;have hown:wb.ownsRow (w.heap.size+1) 80 1 sl k xs:=AZ hI.own fun r hr=>hbb.block r (AA hI.own r hr).1;have hslt:∀r,sl.ownBlock=some r->r<wb.heap.size:=fun r hr=>(AA hown r hr).1;have hvbfar:sl.ownBlock≠some w.heap.size:=fun e=>by have:=(AA hown _ e).2;omega
   have hfar:sl.ownBlock≠some wr.heap.size/\wr.heap.size≠w.heap.size:=⟨fun e=>by have:=(AA hI.own _ e).1;omega,by omega⟩
   obtain⟨d,hd⟩:∃d,d=Sp.A0 j[k]:=⟨_,rfl⟩
   have hbwb:Below w.heap.size w wb:=hI.bel.trans (hbb.mono hrs);have HEL:∀W:World,(W.os=wb.os/\W.tape=wb.tape/\W.output=wb.output/\wb.heap.size<=W.heap.size /\ ∀q,q<wb.heap.size->sl.ownBlock≠some q->q≠w.heap.size->W.heap[q]? = wb.heap[q]?)->Calls Tryz.prog 122 #[.agg #[.int .i64 kk,.slice pa pl pc,.slice none 0 0,.pointer y]] W fun e w'=>∃p,e = .returned (.pointer (some ⟨p,0,none⟩))/\W.heap.size<=p/\Rep (f+1) (fun q=>((G q/\q<w.heap.size)/\q<W.heap.size)\/W.heap.size<=q) w' (.pointer (some ⟨p,0,none⟩)) d/\Below W.heap.size W w':=by
    rintro W ⟨h1,h2,h3,h4,h5⟩;have hbW:Below w.heap.size w W:=⟨h1.trans hbwb.os,h2.trans hbwb.tape,h3.trans hbwb.output,Nat.le_trans hbwb.size h4,fun q hq=>(h5 q (Nat.lt_of_lt_of_le hq hbwb.size) (fun e=>by have:=(AA hown q e).2;omega) (by omega)).trans (hbwb.block q hq)⟩
    rw[hd];exact UD hf (G:=fun q=>G q/\q<w.heap.size) ((Aa HO).move fun q hq hql=>⟨hbW.block q hql,hq,hql⟩) (Aa HP _ (List.getElem_mem hkl)) ((Aa HT).below (hbW.mono hng))
   obtain⟨i0,hi0,h⟩:=Option.map_eq_some_iff.1 QD;injection h with hz0 h;injection h with hz2 hz3;obtain⟨z0,hz9⟩:∃z0,z0=Value.pointer none:=⟨_,rfl⟩
   rw[<- hz9] at hz0;have hz1:z0.cells.size=1:=by rw[hz9];rfl
   refine wp_region_any (by kernel_rfl) ?_;refine G8 (TxI wb (w.heap.size+1) w.heap.size sl k xs (.agg #[.int .i64 kk,.slice pa pl pc,.slice none 0 0,.pointer y]) (f+1) (fun q=>G q/\q<w.heap.size) d (fun x14 x15 x16 x17 x18 x19 x20 x21 x22 x23 x24=>{ tmps:=#[.slice (some ⟨g,0,none⟩) N cap,undef,.string ⟨#[]⟩,.pointer (some ⟨w.heap.size,0,none⟩),undef,.pointer (some ⟨wr.heap.size,0,none⟩),.agg #[.int .i64 5,.bool false,.string ⟨#[]⟩,.int .i64 0,.string ⟨#[]⟩,.slice none 0 0,.map none],.pointer (some ⟨w.heap.size,0,none⟩),.slice (some ⟨g,0,none⟩) N cap,.int .i64 N,.int .i64 k,.bool true,.pointer (some ⟨g,k*4,none⟩),.agg #[.int .i64 kk,.slice pa pl pc,.slice none 0 0,.pointer y],x14,x15,x16,x17,x18,x19,x20,x21,x22,x23,x24,u25,undef,undef],defers:=[] })) ?hs ?he _ _ _ _ ?hc ?h0
   case hc=>decide
   case h0 =>
    refine⟨rfl,rfl,rfl,rfl,Nat.le_refl _,fun _ _ _ _=>rfl,fun _ _ _=>rfl,fun _=>rfl,?_,?_,?_,_,_,_,_,_,_,_,_,_,_,_,rfl,?_⟩;all_goals simp
   case he =>
    intro l a w1 hJ hr;have hall:=GB hJ.sz (by kernel_rfl) hr;obtain⟨hsz,os,tape,output,size,kept,row0,vb0,d7,d8,d11,x14,x15,x16,x17,x18,x19,x20,x21,x22,x23,x24,rfl,e0,e1,e2,e3,e4,e5,e6,e6b,e7,e8,e9,e10,e11⟩:=hJ;obtain⟨q,cap2,rfl,ho,hq,hrep⟩:=e8 (hall 8 (by decide));have hv:=e11 (hall 11 (by decide));have HOS:=Ab os;have HTP:=Ab tape;have HOU:=Ab output;have HKP:=Ab kept;have HVV:=Ab hv;have HHO:=Ab ho;have HRP:=Ab hrep;clear os tape output kept hv ho hrep row0 vb0 d7 d8 d11 e0 e1 e2 e3 e4 e5 e6 e6b e7 e8 e9 e10 e11 hall hr
    go_wp2_with (fail);refine⟨⟨k+1,xs++[x20],.slice (some ⟨q,0,none⟩) (k+1) cap2,by omega,by go_num,?_⟩,by simp[intOf];omega⟩
    have os:=Aa HOS;have tape:=Aa HTP;have output:=Aa HOU;have kept:=Aa HKP;have hv:=Aa HVV;have ho:=Aa HHO;have hrep:=Aa HRP;refine⟨⟨os.trans hbwb.os,tape.trans hbwb.tape,output.trans hbwb.output,by omega,fun r hr=>(kept r (by omega) (fun e=>by have:=(AA hown r e).2;omega) (by omega)).trans (hbwb.block r hr)⟩,hv,ho,?_⟩;rw[List.take_succ_eq_append_getElem hkl,List.map_append,List.map_singleton,<- hd];refine Al.snoc (hrep.move fun r hr _=>⟨rfl,?_⟩) (hI.al.mono fun a b hab=>hab.move fun r hr hrl=>?_)
    ·rcases hr.1 with h|h
     ·exact Or.inl h
     ·refine Or.inr ⟨by omega,fun e=>hr.2 (by simp[Value.ownBlock] at e;omega)⟩
    ·have hne:sl.ownBlock≠some r/\r≠w.heap.size:=by
      rcases hr with⟨_,h⟩|⟨h,h'⟩
      ·exact⟨fun e=>by have:=(AA hown r e).2;omega,by omega⟩
      ·exact⟨h',by omega⟩
     refine⟨(kept r (by omega) hne.1 hne.2).trans (hbb.block r hrl),hr.imp id fun ⟨h,_⟩=>⟨h,fun e=>?_⟩⟩;have e2:q=r:=by simpa[Value.ownBlock] using e
     rcases hq with h'|h'
     ·exact hne.1 (by rw[h',e2])
     ·omega
   case hs =>
    intro l a w1 hJ i hi;obtain⟨hno,haft⟩:=C3 hi;have hi12:i<12:=by
     obtain⟨_,o,ho,_⟩:=mem_ready.1 hi;exact (Array.getElem?_eq_some_iff.1 ho).1
    obtain⟨hsz,os,tape,output,size,kept,row0,vb0,d7,d8,d11,x14,x15,x16,x17,x18,x19,x20,x21,x22,x23,x24,rfl,e0,e1,e2,e3,e4,e5,e6,e6b,e7,e8,e9,e10,e11⟩:=hJ;clear hi;have hcase:i=0\/i=1\/i=2\/i=3\/i=4\/i=5\/i=6\/i=7\/i=8\/i=9\/i=10\/i=11:=by omega
    rcases hcase with rfl|rfl|rfl|rfl|rfl|rfl|rfl|rfl|rfl|rfl|rfl|rfl
    ·refine wpOp_step rfl fun K hK=>?_
     go_simp;refine hK _ _ ⟨by simp[hsz],os,tape,output,size,kept,fun h=>row0 ((getD_set_ne _ (by decide)).symm.trans h),fun h=>vb0 ((getD_set_ne _ (by decide)).symm.trans h),Ao (by decide) d7,Ao (by decide) d8,Ao (by decide) d11,_,_,_,_,_,_,_,_,_,_,_,rfl,fun _=>rfl,Ac (by decide) e1,Ac (by decide) e2,Ac (by decide) e3,Ac (by decide) e4,Ac (by decide) e5,Ac (by decide) e6,fun h h'=>e6b ((getD_set_ne _ (by decide)).symm.trans h) ((getD_set_ne _ (by decide)).symm.trans h'),?_,Ac (by decide) e8,Ac (by decide) e9,Ac (by decide) e10,Ac (by decide) e11⟩
     exact fun h=>by
      obtain⟨g',h1,h2,h3⟩:=e7 ((getD_set_ne _ (by decide)).symm.trans h);exact⟨g',h1,h2,fun h'=>h3 ((getD_set_ne _ (by decide)).symm.trans h')⟩
    ·refine wpOp_step rfl fun K hK=>?_
     go_simp;refine hK _ _ ⟨by simp[hsz],os,tape,output,size,kept,fun h=>row0 ((getD_set_ne _ (by decide)).symm.trans h),fun h=>vb0 ((getD_set_ne _ (by decide)).symm.trans h),Ao (by decide) d7,Ao (by decide) d8,Ao (by decide) d11,_,_,_,_,_,_,_,_,_,_,_,rfl,Ac (by decide) e0,fun _=>rfl,Ac (by decide) e2,Ac (by decide) e3,Ac (by decide) e4,Ac (by decide) e5,Ac (by decide) e6,fun h h'=>e6b ((getD_set_ne _ (by decide)).symm.trans h) ((getD_set_ne _ (by decide)).symm.trans h'),?_,Ac (by decide) e8,Ac (by decide) e9,Ac (by decide) e10,Ac (by decide) e11⟩
     exact fun h=>by
      obtain⟨g',h1,h2,h3⟩:=e7 ((getD_set_ne _ (by decide)).symm.trans h);exact⟨g',h1,h2,fun h'=>h3 ((getD_set_ne _ (by decide)).symm.trans h')⟩
    ·obtain rfl:=e1 (haft _ rfl ⟨1,.data⟩ (by simp) rfl);refine wpOp_step rfl fun K hK=>?_
     go_simp;refine hK _ _ ⟨by simp[hsz],os,tape,output,size,kept,fun h=>row0 ((getD_set_ne _ (by decide)).symm.trans h),fun h=>vb0 ((getD_set_ne _ (by decide)).symm.trans h),Ao (by decide) d7,Ao (by decide) d8,Ao (by decide) d11,_,_,_,_,_,_,_,_,_,_,_,rfl,Ac (by decide) e0,Ac (by decide) e1,fun _=>rfl,Ac (by decide) e3,Ac (by decide) e4,Ac (by decide) e5,Ac (by decide) e6,fun h h'=>e6b ((getD_set_ne _ (by decide)).symm.trans h) ((getD_set_ne _ (by decide)).symm.trans h'),?_,Ac (by decide) e8,Ac (by decide) e9,Ac (by decide) e10,Ac (by decide) e11⟩
     exact fun h=>by
      obtain⟨g',h1,h2,h3⟩:=e7 ((getD_set_ne _ (by decide)).symm.trans h);exact⟨g',h1,h2,fun h'=>h3 ((getD_set_ne _ (by decide)).symm.trans h')⟩
    ·obtain rfl:=e2 (haft _ rfl ⟨2,.data⟩ (by simp) rfl);refine wpOp_step rfl fun K hK=>?_
     go_simp;refine hK _ _ ⟨by simp[hsz],os,tape,output,size,kept,fun h=>row0 ((getD_set_ne _ (by decide)).symm.trans h),fun h=>vb0 ((getD_set_ne _ (by decide)).symm.trans h),Ao (by decide) d7,Ao (by decide) d8,Ao (by decide) d11,_,_,_,_,_,_,_,_,_,_,_,rfl,Ac (by decide) e0,Ac (by decide) e1,Ac (by decide) e2,fun _=>rfl,Ac (by decide) e4,Ac (by decide) e5,Ac (by decide) e6,fun h h'=>e6b ((getD_set_ne _ (by decide)).symm.trans h) ((getD_set_ne _ (by decide)).symm.trans h'),?_,Ac (by decide) e8,Ac (by decide) e9,Ac (by decide) e10,Ac (by decide) e11⟩
     exact fun h=>by
      obtain⟨g',h1,h2,h3⟩:=e7 ((getD_set_ne _ (by decide)).symm.trans h);exact⟨g',h1,h2,fun h'=>h3 ((getD_set_ne _ (by decide)).symm.trans h')⟩
    ·have hn4:l.getD 4 false=false:=by simpa[Array.getD,hsz] using hno
     have hn8:l.getD 8 false=false:=by
      cases h:l.getD 8 false
      ·rfl
      ·have:=(d8 h).2;rw[hn4] at this;cases this
     have hn11:l.getD 11 false=false:=by
      cases h:l.getD 11 false
      ·rfl
      ·have:=(d11 h).1;rw[hn8] at this;cases this
     have cv:w1.cell? ⟨w.heap.size,5,none⟩=some sl:=(World.cell?_of_block (a:=⟨w.heap.size,5,none⟩) (vb0 hn11)).trans hc5;obtain rfl:=e3 (haft _ rfl ⟨3,.data⟩ (by simp) rfl);refine wpOp_step rfl fun K hK=>?_
     go_simp;refine hK _ _ ⟨by simp[hsz],os,tape,output,size,kept,fun h=>row0 ((getD_set_ne _ (by decide)).symm.trans h),fun h=>vb0 ((getD_set_ne _ (by decide)).symm.trans h),Ao (by decide) d7,Ao (by decide) d8,Ao (by decide) d11,_,_,_,_,_,_,_,_,_,_,_,rfl,Ac (by decide) e0,Ac (by decide) e1,Ac (by decide) e2,Ac (by decide) e3,fun _=>rfl,Ac (by decide) e5,Ac (by decide) e6,fun h h'=>e6b ((getD_set_ne _ (by decide)).symm.trans h) ((getD_set_ne _ (by decide)).symm.trans h'),?_,Ac (by decide) e8,Ac (by decide) e9,Ac (by decide) e10,Ac (by decide) e11⟩
     exact fun h=>by
      obtain⟨g',h1,h2,h3⟩:=e7 ((getD_set_ne _ (by decide)).symm.trans h);exact⟨g',h1,h2,fun h'=>h3 ((getD_set_ne _ (by decide)).symm.trans h')⟩
    ·have cq:=fun i=>World.cell?_of_block (a:=⟨wr.heap.size,i,none⟩) (kept wr.heap.size (by omega) hfar.1 hfar.2);have q0:=(cq 0).trans p0;have q1:=(cq 1).trans p1;have q2:=(cq 2).trans p2;have q3:=(cq 3).trans p3;refine wpOp_step rfl fun K hK=>?_
     go_simp;refine hK _ _ ⟨by simp[hsz],os,tape,output,size,kept,fun h=>row0 ((getD_set_ne _ (by decide)).symm.trans h),fun h=>vb0 ((getD_set_ne _ (by decide)).symm.trans h),Ao (by decide) d7,Ao (by decide) d8,Ao (by decide) d11,_,_,_,_,_,_,_,_,_,_,_,rfl,Ac (by decide) e0,Ac (by decide) e1,Ac (by decide) e2,Ac (by decide) e3,Ac (by decide) e4,fun _=>rfl,Ac (by decide) e6,fun h h'=>e6b ((getD_set_ne _ (by decide)).symm.trans h) ((getD_set_ne _ (by decide)).symm.trans h'),?_,Ac (by decide) e8,Ac (by decide) e9,Ac (by decide) e10,Ac (by decide) e11⟩
     exact fun h=>by
      obtain⟨g',h1,h2,h3⟩:=e7 ((getD_set_ne _ (by decide)).symm.trans h);exact⟨g',h1,h2,fun h'=>h3 ((getD_set_ne _ (by decide)).symm.trans h')⟩
    ·have hn6:l.getD 6 false=false:=by simpa[Array.getD,hsz] using hno
     have hn7:l.getD 7 false=false:=by
      cases h:l.getD 7 false
      ·rfl
      ·have:=(d7 h).1;rw[hn6] at this;cases this
     have hn8:l.getD 8 false=false:=by
      cases h:l.getD 8 false
      ·rfl
      ·have:=(d8 h).1;rw[hn7] at this;cases this
     obtain rfl:=e5 (haft _ rfl ⟨5,.data⟩ (by simp) rfl);refine wpOp_step rfl fun K hK=>?_
     go_simp;refine (HEL w1 ⟨os,tape,output,size,kept⟩).mono ?_
     rintro e w2 ⟨p,rfl,hpp,hrep,hb2⟩;show K _ _;have kept:=fun q h1 h2 h3=>(hb2.block q (Nat.lt_of_lt_of_le h1 size)).trans (kept q h1 h2 h3);have row0:=fun h q hq=>(hb2.block q (Nat.lt_of_lt_of_le (hslt q hq) size)).trans (row0 h q hq);have vb0:=fun h=>(hb2.block w.heap.size (by omega)).trans (vb0 h);have os:=hb2.os.trans os;have tape:=hb2.tape.trans tape;have output:=hb2.output.trans output;have size':=Nat.le_trans size hb2.size;have hrep':Rep (f+1) (fun q=>(G q/\q<w.heap.size)\/wb.heap.size<=q) w2 (.pointer (some ⟨p,0,none⟩)) d:=hrep.move fun q hq _=>⟨rfl,by rcases hq with⟨h1,h2⟩|h1;exact Or.inl h1;exact Or.inr (by omega)⟩
     refine hK _ _ ⟨by simp[hsz],os,tape,output,size',kept,fun h=>row0 ((getD_set_ne _ (by decide)).symm.trans h),fun h=>vb0 ((getD_set_ne _ (by decide)).symm.trans h),fun h=>absurd ((getD_set_ne _ (by decide)).symm.trans h) (by rw[hn7];decide),fun h=>absurd ((getD_set_ne _ (by decide)).symm.trans h) (by rw[hn8];decide),Ao (by decide) d11,_,_,_,_,_,_,_,_,_,_,_,rfl,Ac (by decide) e0,Ac (by decide) e1,Ac (by decide) e2,Ac (by decide) e3,Ac (by decide) e4,Ac (by decide) e5,fun _=>⟨_,rfl⟩,fun _ _=>hrep',fun h=>absurd ((getD_set_ne _ (by decide)).symm.trans h) (by rw[hn7];decide),fun h=>absurd ((getD_set_ne _ (by decide)).symm.trans h) (by rw[hn8];decide),Ac (by decide) e9,Ac (by decide) e10,fun h=>absurd (d11 ((getD_set_ne _ (by decide)).symm.trans h)).1 (by rw[hn8];decide)⟩
    ·have hn7:l.getD 7 false=false:=by simpa[Array.getD,hsz] using hno
     have hn8:l.getD 8 false=false:=by
      cases h:l.getD 8 false
      ·rfl
      ·have:=(d8 h).1;rw[hn7] at this;cases this
     have d6:=haft _ rfl ⟨6,.data⟩ (by simp) rfl;obtain⟨p,rfl⟩:=Aa (e6 d6);have hrep:=e6b d6 hn8;refine wpOp_step rfl fun K hK=>?_
     go_simp;have hb2:Below w1.heap.size w1 (w1.alloc (.cells #[.pointer p] 80)):=(Below.refl _ _).alloc (Nat.le_refl _) _
     have kept:=fun q h1 h2 h3=>(hb2.block q (Nat.lt_of_lt_of_le h1 size)).trans (kept q h1 h2 h3);have row0:=fun h q hq=>(hb2.block q (Nat.lt_of_lt_of_le (hslt q hq) size)).trans (row0 h q hq);have vb0:=fun h=>(hb2.block w.heap.size (by omega)).trans (vb0 h);have size':=Nat.le_trans size hb2.size;have hrep':Rep (f+1) (fun q=>(G q/\q<w.heap.size)\/wb.heap.size<=q) (w1.alloc (.cells #[.pointer p] 80)) (.pointer p) d:=hrep.move fun q hq hql=>⟨hb2.block q hql,hq⟩
     refine hK _ _ ⟨by simp[hsz],os,tape,output,size',kept,fun h=>row0 ((getD_set_ne _ (by decide)).symm.trans h),fun h=>vb0 ((getD_set_ne _ (by decide)).symm.trans h),fun _=>⟨getD_set_true d6,getD_set_true d6⟩,Ao (by decide) d8,Ao (by decide) d11,_,_,_,_,_,_,_,_,_,_,_,rfl,Ac (by decide) e0,Ac (by decide) e1,Ac (by decide) e2,Ac (by decide) e3,Ac (by decide) e4,Ac (by decide) e5,Ac (by decide) e6,fun _ _=>hrep',fun _=>⟨_,rfl,by omega,fun _=>heap_alloc_new w1 _⟩,fun h=>absurd ((getD_set_ne _ (by decide)).symm.trans h) (by rw[hn8];decide),Ac (by decide) e9,Ac (by decide) e10,fun h=>absurd (d11 ((getD_set_ne _ (by decide)).symm.trans h)).1 (by rw[hn8];decide)⟩
    ·have d47:=haft _ rfl ⟨7,.data⟩ (by simp) rfl;have d44:=haft _ rfl ⟨4,.data⟩ (by simp) rfl;have hn8:l.getD 8 false=false:=by simpa[Array.getD,hsz] using hno
     have hn11:l.getD 11 false=false:=by
      cases h:l.getD 11 false
      ·rfl
      ·have:=(d11 h).1;rw[hn8] at this;cases this
     obtain rfl:=e4 d44;obtain⟨g1,rfl,hg1,hcs⟩:=e7 d47;have hcs:=hcs hn8;have d6:=(d7 d47).1;have hrep:=e6b d6 hn8;obtain⟨p,rfl⟩:=Aa (e6 d6);have hown1:w1.ownsRow (w.heap.size+1) 80 1 x18 k xs:=AZ hown (row0 hn8);refine wpOp_step rfl fun K hK=>?_;refine step_append_lies (w:=w1) rfl (.tmp 18) (.tmp 21) 106 rfl (w.heap.size+1) 80 i0 z0 1 8 underlying106 hi0 hz0 hz2 hz3 hz1 (by decide) x18 k xs rfl hown1 ⟨g1,0,none⟩ 1 1 [.pointer p] rfl rfl (World.news_of_block (cs:=#[.pointer p]) (t:=80) (fr:=(0,0)) hcs) (by simp[Value.oneCell']) (by decide) (by unfold maxLen;omega) (by omega) (by omega) w1.heap.size rfl ?_;intro q cap2 w2 ho hgr hat hlt9;have hfarq:∀r,x18.ownBlock≠some r->r<w1.heap.size->w2.heap[r]? = w1.heap[r]?:=fun r h1 h2=>hgr.block r h2 (fun e=>h1 e.symm);have kept:=fun r h1 h2 h3=>(hfarq r h2 (Nat.lt_of_lt_of_le h1 size)).trans (kept r h1 h2 h3);have vb0:=fun h=>(hfarq w.heap.size hvbfar (by omega)).trans (vb0 h);have os:=hgr.os.trans os;have tape:=hgr.tape.trans tape;have output:=hgr.output.trans output;have size':=Nat.le_trans size hgr.size;have hq:x18.ownBlock=some q\/wb.heap.size<=q:=hat.imp id fun e=>by omega
     have hrep':Rep (f+1) (fun r=>((G r/\r<w.heap.size)\/wb.heap.size<=r)/\r≠q) w2 (.pointer p) d:=hrep.move fun r hr hrl=>by
      have hne:x18.ownBlock≠some r:=fun e=>by have:=hslt r e;have:=(AA hown1 r e).2;omega
      refine⟨hfarq r hne hrl,hr,?_⟩;rintro rfl;rcases hat with h|h
      ·exact hne h
      ·omega
     refine hK _ _ ⟨by simp[hsz],os,tape,output,size',kept,(fun h=>by rw[KF hsz 8 8 (by decide),if_pos rfl] at h;cases h),fun h=>vb0 ((getD_set_ne _ (by decide)).symm.trans h),Ao (by decide) d7,fun _=>⟨getD_set_true d47,getD_set_true d44⟩,Ao (by decide) d11,_,_,_,_,_,_,_,_,_,_,_,rfl,Ac (by decide) e0,Ac (by decide) e1,Ac (by decide) e2,Ac (by decide) e3,Ac (by decide) e4,Ac (by decide) e5,fun _=>⟨_,rfl⟩,(fun _ h=>by rw[KF hsz 8 8 (by decide),if_pos rfl] at h;cases h),fun _=>⟨g1,rfl,hg1,(fun h=>by rw[KF hsz 8 8 (by decide),if_pos rfl] at h;cases h)⟩,fun _=>⟨q,cap2,rfl,ho,hq,hrep'⟩,Ac (by decide) e9,Ac (by decide) e10,fun h=>absurd ((getD_set_ne _ (by decide)).symm.trans h) (by rw[hn11];decide)⟩
    ·obtain rfl:=e0 (haft _ rfl ⟨0,.data⟩ (by simp) rfl);refine wpOp_step rfl fun K hK=>?_
     go_simp;refine hK _ _ ⟨by simp[hsz],os,tape,output,size,kept,fun h=>row0 ((getD_set_ne _ (by decide)).symm.trans h),fun h=>vb0 ((getD_set_ne _ (by decide)).symm.trans h),Ao (by decide) d7,Ao (by decide) d8,Ao (by decide) d11,_,_,_,_,_,_,_,_,_,_,_,rfl,Ac (by decide) e0,Ac (by decide) e1,Ac (by decide) e2,Ac (by decide) e3,Ac (by decide) e4,Ac (by decide) e5,Ac (by decide) e6,fun h h'=>e6b ((getD_set_ne _ (by decide)).symm.trans h) ((getD_set_ne _ (by decide)).symm.trans h'),?_,Ac (by decide) e8,fun _=>rfl,Ac (by decide) e10,Ac (by decide) e11⟩
     exact fun h=>by
      obtain⟨g',h1,h2,h3⟩:=e7 ((getD_set_ne _ (by decide)).symm.trans h);exact⟨g',h1,h2,fun h'=>h3 ((getD_set_ne _ (by decide)).symm.trans h')⟩
    ·obtain rfl:=e9 (haft _ rfl ⟨9,.data⟩ (by simp) rfl);refine wpOp_step rfl fun K hK=>?_
     go_simp;refine hK _ _ ⟨by simp[hsz],os,tape,output,size,kept,fun h=>row0 ((getD_set_ne _ (by decide)).symm.trans h),fun h=>vb0 ((getD_set_ne _ (by decide)).symm.trans h),Ao (by decide) d7,Ao (by decide) d8,Ao (by decide) d11,_,_,_,_,_,_,_,_,_,_,_,rfl,Ac (by decide) e0,Ac (by decide) e1,Ac (by decide) e2,Ac (by decide) e3,Ac (by decide) e4,Ac (by decide) e5,Ac (by decide) e6,fun h h'=>e6b ((getD_set_ne _ (by decide)).symm.trans h) ((getD_set_ne _ (by decide)).symm.trans h'),?_,Ac (by decide) e8,Ac (by decide) e9,fun _=>rfl,Ac (by decide) e11⟩
     exact fun h=>by
      obtain⟨g',h1,h2,h3⟩:=e7 ((getD_set_ne _ (by decide)).symm.trans h);exact⟨g',h1,h2,fun h'=>h3 ((getD_set_ne _ (by decide)).symm.trans h')⟩
    ·have d48:=haft _ rfl ⟨8,.data⟩ (by simp) rfl;have d410:=haft _ rfl ⟨10,.data⟩ (by simp) rfl;have hn11:l.getD 11 false=false:=by simpa[Array.getD,hsz] using hno
     obtain⟨q,cap2,rfl,ho,hq,hrep⟩:=e8 d48;obtain rfl:=e10 d410;have e18:sl=x18:=(e4 (d8 d48).2).symm;subst e18;have hv1:VB w1 w.heap.size 5 n0 [] sl (.map none):=(vb0 hn11).trans hvb;have cv:=hv1.c5;have zv:w1.frozen? ⟨w.heap.size,5,none⟩=false:=by simp[World.frozen?,show w1.heap[w.heap.size]? = _ from hv1]
     refine wpOp_step rfl fun K hK=>?_
     go_simp;have hset:∀r,r≠w.heap.size->(w1.setCell ⟨w.heap.size,5,none⟩ (.slice (some ⟨q,0,none⟩) (k+1) cap2)).heap[r]? = w1.heap[r]?:=fun r hr=>Below.heap_setCell _ _ _ _ hr
     have hqb:q≠w.heap.size:=by have:=(AA ho q rfl).2;omega
     have kept:=fun r h1 h2 h3=>(hset r h3).trans (kept r h1 h2 h3);have row0:l.getD 8 false=false -> ∀r,sl.ownBlock=some r->(w1.setCell ⟨w.heap.size,5,none⟩ (.slice (some ⟨q,0,none⟩) (k+1) cap2)).heap[r]? = wb.heap[r]?:=fun h=>by rw[d48] at h;cases h
     have size':wb.heap.size<=(w1.setCell ⟨w.heap.size,5,none⟩ (.slice (some ⟨q,0,none⟩) (k+1) cap2)).heap.size:=by simp[World.setCell];omega
     have ho':=AZ ho (w':=w1.setCell ⟨w.heap.size,5,none⟩ (.slice (some ⟨q,0,none⟩) (k+1) cap2)) (fun r hr=>hset r (by simp[Value.ownBlock] at hr;omega));have hrep':=hrep.move (w':=w1.setCell ⟨w.heap.size,5,none⟩ (.slice (some ⟨q,0,none⟩) (k+1) cap2)) fun r hr _=>⟨hset r (by rcases hr.1 with h|h<;>omega),hr⟩
     refine hK _ _ ⟨by simp[hsz],os,tape,output,size',kept,fun h=>row0 ((getD_set_ne _ (by decide)).symm.trans h),(fun h=>by rw[KF hsz 11 11 (by decide),if_pos rfl] at h;cases h),Ao (by decide) d7,Ao (by decide) d8,fun _=>⟨getD_set_true d48,getD_set_true d410⟩,_,_,_,_,_,_,_,_,_,_,_,rfl,Ac (by decide) e0,Ac (by decide) e1,Ac (by decide) e2,Ac (by decide) e3,Ac (by decide) e4,Ac (by decide) e5,Ac (by decide) e6,fun _ h=>absurd d48 (by rw[(getD_set_ne _ (by decide)).symm.trans h];decide),(fun h=>(e7 ((getD_set_ne _ (by decide)).symm.trans h)).imp fun g' ⟨h1,h2,_⟩=>⟨h1,h2,fun h'=>absurd d48 (by rw[(getD_set_ne _ (by decide)).symm.trans h'];decide)⟩),fun _=>⟨q,cap2,rfl,ho',hq,hrep'⟩,Ac (by decide) e9,Ac (by decide) e10,fun _=>hv1.set5 _⟩
  ·obtain rfl:k=N:=by omega
   have hI:=Aa HI;have hlen:k=j.length:=Aa HN;have hal:=hI.al;rw[List.take_of_length_le (by omega)] at hal;have hxl:xs.length=k:=by have:=hal.length;simp at this;omega
   have hrep:Rep (f+2) (fun _=>True) wr (.pointer (some ⟨w.heap.size,0,none⟩)) (Sp.Ar (j.map Sp.A0)):=Rep.arr trivial hI.box (by rw[hxl];exact Hl hI.own (Nat.zero_le _)) (fun _ _=>trivial) (hal.mono fun a b hab=>hab.move fun r _ _=>⟨rfl,trivial⟩);have HC:=Ab (DR hrep ((Aa HT).below (hI.bel.mono hng)) (Aa HL));have HB:=Ab hI.bel;have hlt2:¬ (k:Int)<(k:Int):=by omega
   clear hI hlen hal hxl hrep
   go_wp2_with (fail);refine (Aa HC).mono ?_
   rintro e w2 ⟨rfl,hb2⟩
   go_wp2_with (fail)
   go_ret;exact⟨rfl,(Aa HB).trans (hb2.mono (Aa HB).size)⟩
end

section
set_option maxRecDepth 100000
set_option maxHeartbeats 2000000
open Go.RowKit Go.Maps
theorem D6.at{w:World}{G:Nat->Prop}:∀ {xs:List Value} {j:List Sp.Opn},D6 w G xs j -> ∀k (hk:k<j.length),∃ (h:k*4+3<xs.length),F3 w G (xs[k*4]'(by omega)) (xs[k*4+1]'(by omega)) (xs[k*4+2]'(by omega)) xs[k*4+3] j[k]
 | [],[],_,_,hk=>absurd hk (by simp)
 | [],_::_,h,_,_=>h.elim
 | _::_::_::_::_,_::_,⟨a,_⟩,0,_=>⟨by simp,a⟩
 | _::_::_::_::r,_::s,⟨_,b⟩,k+1,hk=>by
  obtain⟨h1,h2⟩:=D6.at b k (by simpa using hk);refine⟨by simp;omega,?_⟩;have e0:(k+1)*4=k*4+4:=by omega
  simp only[e0,List.getElem_cons_succ];simpa using h2
theorem X6{w:World}{B e n cap:Nat}{ao:Option Addr}{xs:List Value}(h:w.ownsRow B e 4 (.slice ao n cap) n xs)(hp:0<n):n<=cap:=by
 rcases h.2 with⟨_,h0⟩|⟨g,cap',cur,h1,hB,h3,h4,_⟩
 ·omega
 ·injection h1 with _ _ h1;subst h1;exact h4
namespace Sp
theorem M8:∀l:List By,l.length<=(Bt l).length
 | []=>by simp
 | a::l=>by
  have h:=M8 l;simp only[Bt,List.length_cons,List.length_append];omega
theorem Jm(l:List By):l.length<=(Ai l).length+1:=by
 cases l with
 | nil=>simp
 | cons a r =>
  have h:=M8 r;simp only[Ai,List.length_cons,List.length_append];omega
theorem TA(j:List Opn):j.length<=(BW j).length:=by
 have h:=Jm ((j.map A0).map (can (top-1)));rw[List.length_map,List.length_map] at h;show _<=(can (top-1+1) (Ar (j.map A0))).length;rw[CP];simp only[List.length_cons,List.length_append,List.length_nil];omega
end Sp
theorem Tl{w:World}{G:Nat->Prop}{iv:Value}{j:List Sp.Opn}(h:Ic w G iv (some j))(hT:Af w) :
  Calls Tryz.prog 87 #[iv] w fun e w'=>e = .returned (.string ⟨(Sp.BW j).toArray⟩)/\Below w.heap.size w w':=by
 obtain⟨⟨xs,ho,hG,hr⟩,hl,hok⟩:=h;obtain⟨ao,cap,g,rfl,hc⟩:=GC ho;have hlen:j.length<=10000000000000:=by
  have h1:j.length<=(Sp.BW j).length:=Sp.TA j;omega
 refine PL (f:=top-2) (G:=G) (by unfold top;omega) rfl (fun hp=>?_) (fun o ho=>(hok o ho).1) hlen hl hT;obtain⟨e1,e2,_,e3⟩:=hc hp;obtain⟨_,hb⟩:=BP ho g e2;refine⟨g,e1,(BP ho g e2).1,X6 ho hp,fun k hk=>?_⟩;obtain⟨hx,q0,q1,q2,q3,q4⟩:=hr.at k hk;obtain⟨pa,pl,pc,hpv⟩:=Fa q2;have hz:∃y,xs[k*4+3] = .pointer y:=by
  rcases q4 with⟨_,e⟩|⟨_,hr⟩
  ·exact⟨_,e⟩
  ·obtain⟨b,e,_⟩:=Rep.ptr hr;exact⟨_,e⟩
 obtain⟨y,hy⟩:=hz;have c0:=e3 (k*4) (by omega);have c1:=e3 (k*4+1) (by omega);have c2:=e3 (k*4+2) (by omega);have c3:=e3 (k*4+3) (by omega);refine⟨pa,pl,pc,y,⟨rfl,q1,hpv▸q2,rfl,q4.imp (fun ⟨a,b⟩=>⟨a,hy▸b⟩) fun ⟨a,b⟩=>⟨a,?_⟩⟩,by rw[c0,q0],by rw[c1,hpv],by rw[c2,q3],by rw[c3,hy]⟩;obtain⟨d,x,g1,g2⟩:=(hok _ (List.getElem_mem hk)).2 a;rw[<- hy];exact Rep.dn b g1 (by unfold top;omega)
theorem Ly:JC:=by
 intro S d e n p v F w hS hD hT;obtain⟨D,R,wp,rfl,hdw⟩:=hD;obtain⟨T,a,iv,h1,h2,h3⟩:=hdw.ex;have hba:Below w.heap.size w (w.alloc (.cells #[.int .i64 0,.int .i64 0,.string ⟨#[]⟩] 46)):=(Below.refl _ _).alloc (Nat.le_refl _) _;have c3:=(hS.low hba).c3;have HDB:=Ab (h1.db.kept (hba.block D h1.db.lt));have HAB:=Ab (AB.new w);have HBA:=Ab hba;have hsz:(w.alloc (.cells #[.int .i64 0,.int .i64 0,.string ⟨#[]⟩] 46)).heap.size=w.heap.size+1:=by simp
 obtain⟨G,hG⟩:∃G:Nat->Prop,G=fun k=>F k/\k≠D/\k ∉ Sp.fp (top+1) T:=⟨_,rfl⟩
 rw[<- hG] at h3;have HIV:=Ab (h3.move (w':=w.alloc (.cells #[.int .i64 0,.int .i64 0,.string ⟨#[]⟩] 46)) (G':=G) fun k hk hkl=>⟨hba.block k hkl,hk⟩);have HT:=Ab (hT.below (hba.mono hT.ng));obtain⟨b,hb⟩:∃b,b=v.2.isSome:=⟨_,rfl⟩
 rw[<- hb] at HDB;obtain⟨fs,hfs⟩:∃a b n,iv = .slice a b n:=by
  cases hv:v.2 with
  | none=>rw[hv] at h3;exact⟨_,_,_,h3⟩
  | some j =>
   rw[hv] at h3;obtain⟨⟨xs,ho,_⟩,_⟩:=h3;obtain⟨ao,cap,g,e,_⟩:=GC ho;exact⟨_,_,_,e⟩
 obtain⟨fl,fc,rfl⟩:=hfs;clear hS hT h1 h2 h3 hba hdw hG;obtain⟨RR,hRR⟩:∃RR,RR=Sp.stInvert v:=⟨_,rfl⟩
 rw[<- hRR];have HRR:=Ab hRR;have HB:=Ab hb;clear hRR hb
 go_enter func61,ntmps61
 go_wp2_with (fail);generalize w.alloc (.cells #[.int .i64 0,.int .i64 0,.string ⟨#[]⟩] 46)=wa at *
 refine (NE (Aa HDB)).mono ?_;rintro x w2 ⟨rfl,hb2⟩;have HB2:=Ab ((Aa HBA).trans (hb2.mono (by omega)));have A2:=Ab ((Aa HAB).low hb2);have HIV2:=Ab ((Aa HIV).move (w':=w2) (G':=G) fun k hk hkl=>⟨hb2.block k hkl,hk⟩);have HT2:=Ab ((Aa HT).below (hb2.mono (Aa HT).ng));clear hb2 c3;cases b with
 | false =>
  have hn:v.2=none:=by
   have:=Aa HB;cases hv:v.2 with
   | none=>rfl
   | some j=>rw[hv] at this;cases this
  have HR2:=Ab (show RR=(3,0,[]) by rw[Aa HRR];unfold Sp.stInvert;rw[hn]);clear hn
  go_wp2_with (fail);refine (Bv 3 w2).mono ?_
  rintro x w3 ⟨rfl,hb3⟩;have a3:=(Aa A2).low hb3;have g0:=a3.c0;have g1:=a3.c1;have g2:=a3.c2;have z:=a3.fz;have HB3:=Ab ((Aa HB2).trans (hb3.mono (Aa HB2).size));clear a3 hb3;unfold A8
  go_wp2_with (fail);refine bodyPost_ret (v:=Ap (3,0,[])) (by simp[results,results61,go_sem,Ap,g0,g1,g2]) rfl ?_
  rw[Aa HR2];exact⟨rfl,(AH.of3 w.heap.size w3 _ _ _).below (Aa HB3) (Nat.le_refl _)⟩
 | true =>
  obtain⟨j,hj⟩:∃j,v.2=some j:=by
   have:=Aa HB;cases hv:v.2 with
   | none=>rw[hv] at this;cases this
   | some j=>exact⟨j,rfl⟩
  have HR2:=Ab (show RR=(0,0,Sp.BW j) by rw[Aa HRR];unfold Sp.stInvert;rw[hj]);rw[hj] at HIV2;have HTX:=Ab (Tl (Aa HIV2) (Aa HT2));clear hj
  go_wp2_with (fail);refine (Aa HTX).mono ?_
  rintro x w3 ⟨rfl,hb3⟩;have a3:=(Aa A2).low hb3;have g0:=a3.c0;have g1:=a3.c1;have g2:=a3.c2;have z:=a3.fz;have HB3:=Ab ((Aa HB2).trans (hb3.mono (Aa HB2).size));clear a3 hb3
  go_wp2_with (fail);refine bodyPost_ret (v:=Ap (0,0,Sp.BW j)) (by simp[results,results61,go_sem,Ap,g0,g1,g2]) rfl ?_
  rw[Aa HR2];exact⟨rfl,(AH.of3 w.heap.size w3 _ _ _).below (Aa HB3) (Nat.le_refl _)⟩
end

section
set_option maxHeartbeats 4000000
open Go.RowKit
theorem R6{F:Nat->Prop}{w:World}{v:Value}{dd xx lv:Int}{d e:Sp.V}{l:List Sp.By}(hg:Sp.gd dd xx top lv d)(hl:(Sp.can top d).length<=80000)(hf:Sp.Ag d l = .ok e)(h:KN F w v e) :
  ∃M,Rep M F w v e/\Sp.can M e=Sp.can top e/\(Sp.can M e).length<=80000:=by
 obtain⟨f',lv',h1,h2,h3⟩:=O7 l top lv d e hg hf;obtain⟨f,h⟩:=h;refine⟨max f top,h.up (Nat.le_max_left _ _),?_,?_⟩
 ·rw[FD f' _ lv' e h2 (Nat.le_trans h1 (Nat.le_max_right _ _)),FD f' _ lv' e h2 h1]
 ·rw[FD f' _ lv' e h2 (Nat.le_trans h1 (Nat.le_max_right _ _))];omega
theorem Jq:∀ {l:List Sp.By} {d:Sp.V} {c:Nat},Sp.Ag d l = .error c->c=11\/c=12
 | [],d,c,h=>by cases h
 | t::r,d,c,h=>by
  unfold Sp.Ag at h;split at h
  ·exact Jq h
  ·rename_i c2 hc;injection h with h;subst h;exact EZ hc
theorem XG:Mg:=by
 intro S d e n p v F s w hn hS hD hT;obtain⟨D,R,wp,rfl,hdw⟩:=hD;have hba:Below w.heap.size w (w.alloc (.cells #[.int .i64 0,.int .i64 0,.string ⟨#[]⟩] 46)):=(Below.refl _ _).alloc (Nat.le_refl _) _;have hTa:=hT.below (hba.mono hT.ng);have hcall:=Ab (Li hn hTa hTa.pesc hTa.mx);have HDW:=Ab (hdw.bel hba);have HS:=Ab (hS.low hba);have HT:=Ab hTa;have HA:=Ab (AB.new w);have HBA:=Ab hba;have hng:=hT.ng;have hTL:=Ab (fun ks (h:Sp.toks s=some ks)=>Mo h);obtain⟨RR,hRR⟩:∃RR,RR=Sp.gotA v.1 s:=⟨_,rfl⟩
 rw[<- hRR];have HRR:=Ab hRR;clear hT hS hdw hTa hba hRR
 go_enter func57,ntmps57
 go_wp2_with (fail);refine (Aa hcall).mono ?_
 rintro x w1 ⟨he,hb1⟩;have A1:=Ab ((Aa HA).low hb1);have S1:=Ab ((Aa HS).low hb1);have D1:=Ab ((Aa HDW).bel hb1);have T1:=Ab ((Aa HT).below (hb1.mono (Aa HT).ng));have hb01:=(Aa HBA).trans (hb1.mono (Aa HBA).size);have HB1:=Ab hb01;clear hb1 hb01 HA HS HDW HBA HT hcall;cases htk:Sp.toks s with
 | none =>
  rw[htk] at he;have he2:x = .returned (.tuple #[.slice none 0 0,.bool false]):=he;subst he2;have HE:=Ab (show RR=(9,0,[]) by rw[Aa HRR];unfold Sp.gotA;rw[htk]);clear he htk
  go_wp2_with (fail);refine (Bv 9 _).mono ?_
  rintro x w2 ⟨rfl,hb2⟩;have a2:=(Aa A1).low hb2;have g0:=a2.c0;have g1:=a2.c1;have g2:=a2.c2;have z:=a2.fz;have HB2:=Ab ((Aa HB1).trans (hb2.mono (Aa HB1).size));clear a2 hb2;unfold A8
  go_wp2_with (fail);refine bodyPost_ret (v:=A8 9 []) (by simp[results,results57,go_sem,A8,g0,g1,g2]) rfl ⟨?_,?_⟩
  ·rw[Aa HE];rfl
  ·exact Aq (Aq (Aq (Aa HB2) _ 0 (by omega) _) _ 1 (by omega) _) _ 2 (by omega) _
 | some ks =>
  rw[htk] at he;obtain⟨pv,rfl,hpv⟩:=he;have HPV:=Ab hpv;have HTK:=Ab htk;clear hpv htk;have d0:=(Aa S1).c3
  go_wp2_with (fail);refine (Ib (Aa D1)).mono ?_
  rintro x w2 ⟨rfl,hb2⟩;have A2:=Ab ((Aa A1).low hb2);have D2:=Ab ((Aa D1).bel hb2);have T2:=Ab ((Aa T1).below (hb2.mono (Aa T1).ng));have P2:=Ab ((Aa HPV).bel hb2);have HB2:=Ab ((Aa HB1).trans (hb2.mono (Aa HB1).size));clear hb2 A1 D1 T1 HPV HB1 d0
  go_wp2_with (fail);have hkl:=Aa hTL ks (Aa HTK)
  refine (NT (F:=F) (d:=v.1) (fun t ht=>Nat.le_trans (hkl.2 t ht) hn) (Nat.le_trans hkl.1 hn) (Aa T2).rng ⟨top,(Aa D2).rep⟩ (Aa P2)).mono ?_;rintro x w3 ⟨ho,hb3⟩;have A3:=Ab ((Aa A2).low hb3);have D3:=Ab ((Aa D2).bel hb3);have T3:=Ab ((Aa T2).below (hb3.mono (Aa T2).ng));have HB3:=Ab ((Aa HB2).trans (hb3.mono (Aa HB2).size));clear hb3 A2 D2 T2 P2 HB2 hkl;cases hfd:Sp.Ag v.1 ks with
  | error c =>
   rw[hfd] at ho;have ho2:x = .returned (.tuple #[.pointer none,.int .i64 c]):=ho;subst ho2;have HE:=Ab (show RR=(c,0,[]) by rw[Aa HRR];unfold Sp.gotA;rw[Aa HTK];simp only[hfd]);have hc0:c=11\/c=12:=Jq hfd;have e1:((c:Int) == 0)=false:=by rw[beq_eq_false_iff_ne];omega
   have e2:((c:Int) != 0)=true:=by rw[bne_iff_ne];omega
   clear ho hfd hc0
   go_wp2_with (fail);refine (Bv c _).mono ?_
   rintro x w4 ⟨rfl,hb4⟩;have a2:=(Aa A3).low hb4;have g0:=a2.c0;have g1:=a2.c1;have g2:=a2.c2;have z:=a2.fz;have HB4:=Ab ((Aa HB3).trans (hb4.mono (Aa HB3).size));clear a2 hb4;unfold A8
   go_wp2_with (fail);refine bodyPost_ret (v:=A8 c []) (by simp[results,results57,go_sem,A8,g0,g1,g2]) rfl ⟨?_,?_⟩
   ·rw[Aa HE];rfl
   ·exact Aq (Aq (Aq (Aa HB4) _ 0 (by omega) _) _ 1 (by omega) _) _ 2 (by omega) _
  | ok y =>
   rw[hfd] at ho;obtain⟨yv,rfl,hy⟩:=ho;have HE:=Ab (show RR=(0,0,Sp.can top y) by rw[Aa HRR];unfold Sp.gotA;rw[Aa HTK];simp only[hfd]);have hgd:=(Aa D3).gd;obtain⟨M,hM,hMc,hMl⟩:=R6 hgd (Aa D3).len hfd hy;have HCAN:=Ab (DR hM (Aa T3) (by omega));rw[hMc] at HCAN;clear hfd hy hgd hM hMc hMl
   go_wp2_with (fail);refine (Aa HCAN).mono ?_
   rintro x w4 ⟨rfl,hb4⟩;have a2:=(Aa A3).low hb4;have g0:=a2.c0;have g1:=a2.c1;have g2:=a2.c2;have z:=a2.fz;have HB4:=Ab ((Aa HB3).trans (hb4.mono (Aa HB3).size));clear a2 hb4 HCAN
   go_wp2_with (fail);refine bodyPost_ret (v:=A8 0 (Sp.can top y)) (by simp[results,results57,go_sem,A8,g0,g1,g2]) rfl ⟨?_,?_⟩
   ·rw[Aa HE];rfl
   ·exact Aq (Aq (Aq (Aa HB4) _ 0 (by omega) _) _ 1 (by omega) _) _ 2 (by omega) _
end

section
set_option maxHeartbeats 4000000
open Go.RowKit
theorem Tg{d e:Int}{v:Sp.V}{s t:Sp.By}(h:Sp.toks s=none):Sp.tst d e v s t=9:=by unfold Sp.tst;rw[h]
theorem Vw{d e:Int}{v:Sp.V}{s t:Sp.By}{ks:List Sp.By}{c:Nat}(h:Sp.toks s=some ks)(h2:Sp.readTo t d e=(c,none)):Sp.tst d e v s t=c:=by unfold Sp.tst;rw[h];simp only[h2]
theorem Vv{d e:Int}{v:Sp.V}{s t:Sp.By}{ks:List Sp.By}{x:Sp.V}{c:Nat}(h:Sp.toks s=some ks)(h2:Sp.readTo t d e=(0,some x))(h3:Sp.Ag v ks = .error c):Sp.tst d e v s t=c:=by unfold Sp.tst;rw[h];simp only[h2,h3]
theorem W8{d e:Int}{v:Sp.V}{s t:Sp.By}{ks:List Sp.By}{x y:Sp.V}(h:Sp.toks s=some ks)(h2:Sp.readTo t d e=(0,some x))(h3:Sp.Ag v ks = .ok y):Sp.tst d e v s t=if veq y x=true then 0 else 14:=by unfold Sp.tst;rw[h];simp only[h2,h3]
theorem Tq{f:Nat}{F F':Nat->Prop}{w:World}{v v':Value}{a b:Sp.V}(h:Rep f F w v a)(h':Rep top F' w v' b):Calls Tryz.prog 82 #[v,v'] w fun e w'=>e = .returned (.bool (veq a b))/\Below w.heap.size w w' :=
 Jz (max f top) F F' w v v' a b (h.up (Nat.le_max_left _ _)) (h'.up (Nat.le_max_right _ _))
theorem VC:Kn:=by
 intro S d e n p v F s t w hn hS hD hT;obtain⟨D,R,wp,rfl,hdw⟩:=hD;have hba:Below w.heap.size w (w.alloc (.cells #[.int .i64 0,.int .i64 0,.string ⟨#[]⟩] 46)):=(Below.refl _ _).alloc (Nat.le_refl _) _;have hTa:=hT.below (hba.mono hT.ng);have hcall:=Ab (Li hn hTa hTa.pesc hTa.mx);have HDW:=Ab (hdw.bel hba);have HS:=Ab (hS.low hba);have HT:=Ab hTa;have HA:=Ab (AB.new w);have HBA:=Ab hba;have hng:=hT.ng;have hTL:=Ab (fun ks (h:Sp.toks s=some ks)=>Mo h);obtain⟨RR,hRR⟩:∃RR,RR=Sp.tst d e v.1 s t:=⟨_,rfl⟩
 rw[<- hRR];have HRR:=Ab hRR;clear hT hS hdw hTa hba hRR
 go_enter func58,ntmps58
 go_wp2_with (fail);refine (Aa hcall).mono ?_
 rintro x w1 ⟨he,hb1⟩;have A1:=Ab ((Aa HA).low hb1);have S1:=Ab ((Aa HS).low hb1);have D1:=Ab ((Aa HDW).bel hb1);have T1:=Ab ((Aa HT).below (hb1.mono (Aa HT).ng));have hb01:=(Aa HBA).trans (hb1.mono (Aa HBA).size);have HB1:=Ab hb01;clear hb1 hb01 HA HS HDW HBA HT hcall;cases htk:Sp.toks s with
 | none =>
  rw[htk] at he;have he2:x = .returned (.tuple #[.slice none 0 0,.bool false]):=he;subst he2;have HE:=Ab (show RR=9 by rw[Aa HRR,Tg htk]);clear he htk
  go_wp2_with (fail);refine (Bv 9 _).mono ?_
  rintro x w2 ⟨rfl,hb2⟩;have a2:=(Aa A1).low hb2;have g0:=a2.c0;have g1:=a2.c1;have g2:=a2.c2;have z:=a2.fz;have HB2:=Ab ((Aa HB1).trans (hb2.mono (Aa HB1).size));clear a2 hb2;unfold A8
  go_wp2_with (fail);refine bodyPost_ret (v:=A8 9 []) (by simp[results,results58,go_sem,A8,g0,g1,g2]) rfl ⟨?_,?_⟩
  ·rw[Aa HE];rfl
  ·exact Aq (Aq (Aq (Aa HB2) _ 0 (by omega) _) _ 1 (by omega) _) _ 2 (by omega) _
 | some ks =>
  rw[htk] at he;obtain⟨pv,rfl,hpv⟩:=he;have HPV:=Ab hpv;have HTK:=Ab htk;clear hpv htk
  go_wp2_with (fail);refine (Q7 t (Aa S1) (Aa T1)).mono ?_
  rintro x w2 ⟨p2,c,rfl,hb2,hcs⟩;have A2:=Ab ((Aa A1).low hb2);have S2:=Ab ((Aa S1).low hb2);have D2:=Ab ((Aa D1).bel hb2);have T2:=Ab ((Aa T1).below (hb2.mono (Aa T1).ng));have P2:=Ab ((Aa HPV).bel hb2);have HB2:=Ab ((Aa HB1).trans (hb2.mono (Aa HB1).size));clear hb2 A1 D1 T1 S1 HPV HB1;rcases hcs with⟨hpos,hrd⟩|⟨rfl,xv,hrd,hrep⟩
  ·have HE:=Ab (show RR=c by rw[Aa HRR,Vw (Aa HTK) hrd]);have e0:((c:Int) != 0)=true:=by simp;omega
   clear hrd hpos
   go_wp2_with (fail);refine (Bv c _).mono ?_
   rintro x w3 ⟨rfl,hb3⟩;have a2:=(Aa A2).low hb3;have g0:=a2.c0;have g1:=a2.c1;have g2:=a2.c2;have z:=a2.fz;have HB3:=Ab ((Aa HB2).trans (hb3.mono (Aa HB2).size));clear a2 hb3;unfold A8
   go_wp2_with (fail);refine bodyPost_ret (v:=A8 c []) (by simp[results,results58,go_sem,A8,g0,g1,g2]) rfl ⟨?_,?_⟩
   ·rw[Aa HE];rfl
   ·exact Aq (Aq (Aq (Aa HB3) _ 0 (by omega) _) _ 1 (by omega) _) _ 2 (by omega) _
  have HRD:=Ab hrd;have HX:=Ab hrep;clear hrd hrep;have d0:=(Aa S2).c3
  go_wp2_with (fail);refine (Ib (Aa D2)).mono ?_
  rintro x w3 ⟨rfl,hb3⟩;have A3:=Ab ((Aa A2).low hb3);have D3:=Ab ((Aa D2).bel hb3);have T3:=Ab ((Aa T2).below (hb3.mono (Aa T2).ng));have P3:=Ab ((Aa P2).bel hb3);have X3:=Ab ((Aa HX).bel hb3);have HB3:=Ab ((Aa HB2).trans (hb3.mono (Aa HB2).size));clear hb3 A2 D2 T2 P2 HX HB2 d0 S2
  go_wp2_with (fail);have hkl:=Aa hTL ks (Aa HTK)
  refine (NT (F:=F) (d:=v.1) (fun t ht=>Nat.le_trans (hkl.2 t ht) hn) (Nat.le_trans hkl.1 hn) (Aa T3).rng ⟨top,(Aa D3).rep⟩ (Aa P3)).mono ?_;rintro x w4 ⟨ho,hb4⟩;have A4:=Ab ((Aa A3).low hb4);have T4:=Ab ((Aa T3).below (hb4.mono (Aa T3).ng));have X4:=Ab ((Aa X3).bel hb4);have HB4:=Ab ((Aa HB3).trans (hb4.mono (Aa HB3).size));clear hb4 A3 D3 T3 P3 HB3 X3 hkl;cases hfd:Sp.Ag v.1 ks with
  | error c =>
   rw[hfd] at ho;have ho2:x = .returned (.tuple #[.pointer none,.int .i64 c]):=ho;subst ho2;have HE:=Ab (show RR=c by rw[Aa HRR,Vv (Aa HTK) (Aa HRD) hfd]);have hc0:c=11\/c=12:=Jq hfd;have e1:((c:Int) == 0)=false:=by rw[beq_eq_false_iff_ne];omega
   have e2:((c:Int) != 0)=true:=by rw[bne_iff_ne];omega
   clear ho hfd hc0
   go_wp2_with (fail);refine (Bv c _).mono ?_
   rintro x w5 ⟨rfl,hb5⟩;have a2:=(Aa A4).low hb5;have g0:=a2.c0;have g1:=a2.c1;have g2:=a2.c2;have z:=a2.fz;have HB5:=Ab ((Aa HB4).trans (hb5.mono (Aa HB4).size));clear a2 hb5;unfold A8
   go_wp2_with (fail);refine bodyPost_ret (v:=A8 c []) (by simp[results,results58,go_sem,A8,g0,g1,g2]) rfl ⟨?_,?_⟩
   ·rw[Aa HE];rfl
   ·exact Aq (Aq (Aq (Aa HB5) _ 0 (by omega) _) _ 1 (by omega) _) _ 2 (by omega) _
  | ok y =>
   rw[hfd] at ho;obtain⟨yv,rfl,f,hy⟩:=ho;have HE:=Ab (show RR=if veq y xv=true then 0 else 14 by rw[Aa HRR,W8 (Aa HTK) (Aa HRD) hfd]);have HSAME:=Ab (Tq hy (Aa X4));clear hfd hy
   go_wp2_with (fail);refine (Aa HSAME).mono ?_
   rintro x w5 ⟨rfl,hb5⟩;have A5:=Ab ((Aa A4).low hb5);have HB5:=Ab ((Aa HB4).trans (hb5.mono (Aa HB4).size));have T5:=Ab ((Aa T4).below (hb5.mono (Aa T4).ng));clear hb5 A4 HB4 T4 HSAME X4;cases hq:veq y xv with
   | false =>
    have HE2:=Ab (show RR=14 by rw[Aa HE,hq,if_neg (by decide)]);clear hq HE
    go_wp2_with (fail);refine (Bv 14 _).mono ?_
    rintro x w6 ⟨rfl,hb6⟩;have a2:=(Aa A5).low hb6;have g0:=a2.c0;have g1:=a2.c1;have g2:=a2.c2;have z:=a2.fz;have HB6:=Ab ((Aa HB5).trans (hb6.mono (Aa HB5).size));clear a2 hb6;unfold A8
    go_wp2_with (fail);refine bodyPost_ret (v:=A8 14 []) (by simp[results,results58,go_sem,A8,g0,g1,g2]) rfl ⟨?_,?_⟩
    ·rw[Aa HE2];rfl
    ·exact Aq (Aq (Aq (Aa HB6) _ 0 (by omega) _) _ 1 (by omega) _) _ 2 (by omega) _
   | true =>
    have HE2:=Ab (show RR=0 by rw[Aa HE,hq,if_pos rfl]);clear hq HE;have a2:=Aa A5;have g0:=a2.c0;have g1:=a2.c1;have g2:=a2.c2;have z:=a2.fz;clear a2
    go_wp2_with (fail);refine bodyPost_ret (v:=A8 0 []) (by simp[results,results58,go_sem,A8,g0,g1,g2]) rfl ⟨?_,?_⟩
    ·rw[Aa HE2];rfl
    ·exact Aq (Aq (Aq (Aa HB5) _ 0 (by omega) _) _ 1 (by omega) _) _ 2 (by omega) _
end

section
set_option maxRecDepth 100000
set_option maxHeartbeats 4000000
open Go.RowKit
def E7:Array Value:=#[.int .i64 1,.string ⟨#[91,49,44,50,93]⟩,.string ⟨#[]⟩,.int .i64 5,.string ⟨#[91,123,34,111,112,34,58,34,97,100,100,34,44,34,112,97,116,104,34,58,34,47,49,34,44,34,118,97,108,117,101,34,58,57,125,93]⟩,.string ⟨#[]⟩,.int .i64 2,.string ⟨#[]⟩,.string ⟨#[]⟩,.int .i64 7,.string ⟨#[]⟩,.string ⟨#[]⟩,.int .i64 3,.string ⟨#[47,49]⟩,.string ⟨#[]⟩]
theorem MC{w:World}{g:Nat}(h:w.heap[g]? = some (.cells E7 49 (0,0))):Scr w g 0 Sp.ps:=by
 intro i hi;have hc:∀j,w.cell? ⟨g,j,none⟩=E7[j]?:=fun j=>by simp[World.cell?,h]
 rw[hc,hc,hc]
 match i,hi with
 | 0,_=>exact⟨rfl,rfl,rfl⟩
 | 1,_=>exact⟨rfl,rfl,rfl⟩
 | 2,_=>exact⟨rfl,rfl,rfl⟩
 | 3,_=>exact⟨rfl,rfl,rfl⟩
 | 4,_=>exact⟨rfl,rfl,rfl⟩
theorem Kv:Plain Sp.ps:=by
 intro o ho;simp only[Sp.ps,List.mem_cons,List.not_mem_nil,or_false] at ho;rcases ho with rfl|rfl|rfl|rfl|rfl
 ·exact Or.inl (Or.inl (by decide))
 ·exact Or.inr (Or.inr (Or.inl ⟨rfl,MO⟩))
 ·exact Or.inl (Or.inl (by decide))
 ·exact Or.inr (Or.inr (Or.inr (Or.inr (Or.inl ⟨rfl,Ly⟩))))
 ·exact Or.inr (Or.inl ⟨Or.inl rfl,XG,VC,by decide⟩)
theorem MN(w:World)(hT:Af w):Calls Tryz.prog 25 #[] w fun x w'=>x = .returned (.bool true)/\Below w.heap.size w w':=by
 have HT:=Ab hT;have hng:=hT.ng;clear hT
 go_enter func25,ntmps25
 go_wp2_with (fail);refine (Br 1 _ _ _).mono ?_
 rintro x w1 ⟨rfl,hb1⟩
 go_wp2_with (fail);refine (Br 5 _ _ _).mono ?_
 rintro x w2 ⟨rfl,hb2⟩
 go_wp2_with (fail);refine (Br 2 _ _ _).mono ?_
 rintro x w3 ⟨rfl,hb3⟩
 go_wp2_with (fail);refine (Br 7 _ _ _).mono ?_
 rintro x w4 ⟨rfl,hb4⟩
 go_wp2_with (fail);refine (Br 3 _ _ _).mono ?_
 rintro x w5 ⟨rfl,hb5⟩;have g1:Below w.heap.size w w1:=hb1;have g2:Below w.heap.size w w2:=g1.trans (hb2.mono g1.size);have g3:Below w.heap.size w w3:=g2.trans (hb3.mono g2.size);have g4:Below w.heap.size w w4:=g3.trans (hb4.mono g3.size);have g5:Below w.heap.size w w5:=g4.trans (hb5.mono g4.size);have HB4:=Ab g5;have hs4:=g5.size;clear hb1 g1 hb2 g2 hb3 g3 hb4 g4 hb5 g5
 go_wp2_with (fail);have hb5:Below w.heap.size w (w5.alloc (.cells E7 49)):=(Aa HB4).alloc hs4 _
 refine (NP (d:=3) (e:=9) (n:=100) (sb:=w5.heap.size) (so:=0) (m:=5) (cap:=5) (l:=Sp.ps) (MC (EA w5 _ _ rfl)) Kv rfl (by omega) (by omega) (by omega) (by simp) ((Aa HT).below (hb5.mono hng))).mono ?_;rintro x v0 ⟨A,cs,rfl,hA,hrow,hans,hb6⟩;rw[Xe] at hans;obtain⟨hsz,hc⟩:=hans;have hcell:∀j,v0.cell? ⟨A,j,none⟩=cs[j]?:=fun j=>by simp[World.cell?,hrow]
 have q0:=hc 0 (by simp);have q1:=hc 1 (by simp);have q2:=hc 2 (by simp);have q3:=hc 3 (by simp);have q4:=hc 4 (by simp);simp only[List.getElem_cons_zero,List.getElem_cons_succ] at q0 q1 q2 q3 q4;have c0_1_0:=(hcell 3).trans q1.1;have c0_1_1:=(hcell 4).trans q1.2.1;have c0_1_2:=(hcell 5).trans q1.2.2;have c0_2_0:=(hcell 6).trans q2.1;have c0_2_1:=(hcell 7).trans q2.2.1;have c0_2_2:=(hcell 8).trans q2.2.2;have c0_3_0:=(hcell 9).trans q3.1;have c0_4_0:=(hcell 12).trans q4.1;have c0_4_1:=(hcell 13).trans q4.2.1;have c0_4_2:=(hcell 14).trans q4.2.2;have HB:=Ab (hb5.trans (hb6.mono hb5.size));have hA0:A<v0.heap.size:=(Array.getElem?_eq_some_iff.1 hrow).1;clear q0 q1 q2 q3 q4 hc hcell hrow hsz hb5 hb6
 go_wp2_with (fail);refine (IY [] v0).mono ?_
 rintro x v1 ⟨rfl,hb7⟩;have c1_2_0:=(hb7.cell (p:=⟨A,6,none⟩) hA0).trans c0_2_0;have c1_2_1:=(hb7.cell (p:=⟨A,7,none⟩) hA0).trans c0_2_1;have c1_2_2:=(hb7.cell (p:=⟨A,8,none⟩) hA0).trans c0_2_2;have c1_3_0:=(hb7.cell (p:=⟨A,9,none⟩) hA0).trans c0_3_0;have c1_4_0:=(hb7.cell (p:=⟨A,12,none⟩) hA0).trans c0_4_0;have c1_4_1:=(hb7.cell (p:=⟨A,13,none⟩) hA0).trans c0_4_1;have c1_4_2:=(hb7.cell (p:=⟨A,14,none⟩) hA0).trans c0_4_2;have HB:=Ab ((Aa HB).trans (hb7.mono (Aa HB).size));have hA1:A<v1.heap.size:=Nat.lt_of_lt_of_le hA0 hb7.size;clear c0_1_0 c0_1_1 c0_1_2 c0_2_0 c0_2_1 c0_2_2 c0_3_0 c0_4_0 c0_4_1 c0_4_2 hb7
 go_wp2_with (fail);refine (IY Sp.p4 v1).mono ?_
 rintro x v2 ⟨rfl,hb7⟩;have c2_3_0:=(hb7.cell (p:=⟨A,9,none⟩) hA1).trans c1_3_0;have c2_4_0:=(hb7.cell (p:=⟨A,12,none⟩) hA1).trans c1_4_0;have c2_4_1:=(hb7.cell (p:=⟨A,13,none⟩) hA1).trans c1_4_1;have c2_4_2:=(hb7.cell (p:=⟨A,14,none⟩) hA1).trans c1_4_2;have HB:=Ab ((Aa HB).trans (hb7.mono (Aa HB).size));have hA2:A<v2.heap.size:=Nat.lt_of_lt_of_le hA1 hb7.size;clear c1_2_0 c1_2_1 c1_2_2 c1_3_0 c1_4_0 c1_4_1 c1_4_2 hb7
 go_wp2_with (fail);refine (IY [57] v2).mono ?_
 rintro x v3 ⟨rfl,hb7⟩;have c3_3_0:=(hb7.cell (p:=⟨A,9,none⟩) hA2).trans c2_3_0;have HB:=Ab ((Aa HB).trans (hb7.mono (Aa HB).size));have hA3:A<v3.heap.size:=Nat.lt_of_lt_of_le hA2 hb7.size;clear c2_3_0 c2_4_0 c2_4_1 c2_4_2 hb7
 go_wp2_with (fail)
 go_ret;exact⟨rfl,Aa HB⟩
end

section
set_option maxHeartbeats 4000000
open Go.RowKit Go.Maps
theorem GN(s t:Sp.By):NS (5,s,t):=Or.inr (Or.inr (Or.inl ⟨rfl,MO⟩))
theorem IQ(s t:Sp.By):NS (7,s,t):=Or.inr (Or.inr (Or.inr (Or.inr (Or.inl ⟨rfl,Ly⟩))))
theorem UR(a b c:Int)(ha0:-9223372036854775808<=a)(ha1:a<=9223372036854775807)(hb0:-9223372036854775808<=b)(hb1:b<=9223372036854775807)(hc0:-9223372036854775808<=c)(hc1:c<=9223372036854775807)(w:World) :
  Calls Tryz.prog 18 #[.int .i64 a,.int .i64 b,.int .i64 c] w fun x w'=>(∃ (d e n:Int),Sp.cfg d e n=true/\x = .returned (.agg #[.int .i64 d,.int .i64 e,.int .i64 n]))/\Below w.heap.size w w':=by
 go_enter func18,ntmps18
 go_wp2_with (fail);refine (Jf a 20 ha0 ha1 (by omega) (by omega) _).mono ?_
 rintro x w1 ⟨⟨d,hd,rfl⟩,rfl⟩
 go_wp2_with (fail);refine (Jf b 401 hb0 hb1 (by omega) (by omega) _).mono ?_
 rintro x w1 ⟨⟨e,he,rfl⟩,rfl⟩
 go_wp2_with (fail);refine (Jf c 2001 hc0 hc1 (by omega) (by omega) _).mono ?_
 rintro x w1 ⟨⟨n,hn,rfl⟩,rfl⟩
 go_wp2_with (fail);refine bodyPost_ret (v:=.agg #[.int .i64 ((d+1:Nat):Int),.int .i64 e,.int .i64 n]) (by simp[results,results18,go_sem];omega) rfl ⟨⟨_,_,_,?_,rfl⟩,?_⟩
 ·simp[Sp.cfg,Sp.inB];omega
 ·exact (Below.refl _ w).alloc (Nat.le_refl _) _
end
end Go.Proofs.YtdpomdelmdofmaaGreatDoor
