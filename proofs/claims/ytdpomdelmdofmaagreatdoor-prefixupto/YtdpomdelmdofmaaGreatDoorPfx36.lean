import Derived.Test.YtdpomdelmdofmaaGreatDoorPfx35
open Nat renaming le_trans->AI,le_refl->A4,add_le_add_right->CH
open List renaming length_cons->AS,length_append->AT,mem_reverse->A3,flatMap_cons->C1,length_nil->Dt,map_cons->D0,sum_cons->D1,map_map->E0
open Or renaming inl->A5,inr->Dp
open Array renaming getElem?_eq_some_iff->A6
open Go renaming World->Bs,Value->CR,bodyPost_ret->C2
open Go.World renaming block_lt_of_cell?->BY
open Go.RowKit renaming Below->CD
open Go.RowKit.Below renaming refl->CL
open Go.Value renaming ownBlock->DD
open Function renaming comp->D2
open Go.Proofs.Tryz renaming prog->D3
set_option maxRecDepth 100000
set_option maxHeartbeats 4000000
namespace Go.Proofs.YtdpomdelmdofmaaGreatDoor
open Go.Proofs.Tryz Go.RowKit Go.Maps
theorem OD(w:Bs)(o:Obj):(w.alloc o).heap.size=w.heap.size+1:=by simp
section
variable{f:Nat}{F:Nat->Prop}{w:Bs}{v:CR}{d:To}
theorem PO(h:Rep (f+2) F w v d)(hf:f<=top)(hs:∀es y,d=.slice es y->es.length<=400000000 /\ ∀x∈es,∀k s,B7 (A0 x k)=some s->s.length<=1048576)(hT:Af w)(hO:GS w):
  Calls D3 83 #[v] w fun e w'=>C5 F d w e w'/\CD w.heap.size w w':=by
 obtain⟨b,rfl,hb,h⟩:=h;have hK:=Ab (RY hO);by_cases q5:∃es,d=Ap es
 ·obtain⟨es,rfl⟩:=q5;obtain⟨sl,ps,hv,ho,hF,ha⟩:∃sl ps,VB w b 5 n0 [] sl (.map none)/\w.ownsRow 0 80 1 sl ps.length ps/\(∀g,sl.ownBlock=some g->F g)/\Al (Rep (f+1) F w) ps es:=by
   rcases h with⟨k,_,e,h⟩|⟨n,e,h,_⟩|⟨s,e,h⟩|⟨es',sl,ps,e,h1,h2,h3,h4⟩|⟨es',m,n,D,e,_⟩
   ·cases e
   ·cases e
   ·cases e
   ·cases e;exact⟨sl,ps,h1,h2,h3,h4⟩
   ·cases e
  obtain⟨zt,qi⟩:=hs es [] rfl;have hal:=ha.length;have c0:=hv.c0;have c5:=hv.c5;have zh:=hv.lt;obtain⟨N,hN⟩:∃N,N=ps.length:=⟨_,rfl⟩
  obtain⟨ao,cap,g,rfl,qh⟩:∃ao cap g,sl=.slice ao ps.length cap/\(0<ps.length->ao=some ⟨g,0,none⟩/\g<w.heap.size/\ps.length<=cap /\ ∀k (hk:k<ps.length),w.cell? ⟨g,k,none⟩=some ps[k]):=by
   rcases ho.2 with⟨h1,h0⟩|⟨g',cap,cur,h1,_⟩
   ·exact⟨none,0,0,by rw[h1,h0],fun h=>absurd h (by omega)⟩
   ·refine⟨some ⟨g',0,none⟩,cap,g',h1,fun hp=>?_⟩;obtain⟨g2,cap2,e,a1,a2,a3,a4⟩:=Bh ho hp;rw[h1] at e;injection e with e1 e2 e3;injection e1 with e1;injection e1 with e1;subst e1;subst e3;exact⟨rfl,a3,a1,fun k hk=>a4 k hk⟩
  rw[<- hN] at c5 hal;obtain⟨i0,z0,hi,hz,y6,hz2,hz3⟩:=IU;have HT:=Ab hT;have HA:=Ab ha;have qr:=Ab qh;have qt:=Ab qi;have zb:=Ab hN;have za:=Ab hal;have zm:=Ab zh;have zo:=Ab c5;have ya:(N:Int)<=400000000:=by omega
  obtain⟨Q,hQ⟩:∃Q,Q=C5 F (Ap es) w:=⟨_,rfl⟩
  rw[<- hQ];have HQ:=Ab hQ;clear h hb hs hT hO hv ho hF ha zt qi hal zh hN qh hQ c5
  go_enter func83,ntmps83
  go_wp2_with (fail);refine (Aa hK).mono ?_
  rintro e w1 ⟨m,rfl,y3,hm,hb1⟩;have c51:=(hb1.cell (p:=⟨b,5,none⟩) (Aa zm)).trans (Aa zo);have q4:=Ab hb1;have HM:=Ab hm;have zj:m<w1.heap.size:=by obtain⟨es,ze,hb,_⟩:=hm;exact (A6.1 hb).1
  have zr:=Ab zj;have H0:=Ab (show RdI F w1 es 0 (.slice none 0 0) [] [] w1 from⟨rfl,⟨rfl,A5 ⟨rfl,rfl⟩⟩,CL _ _,fun i hi=>absurd hi (by simp),by simp only[List.drop_zero];cases CC 0 es<;>rfl⟩);clear hK y3 hm hb1 zj
  go_wp2_with (fail)
  go_loopw [2,21] (fun pv i wr=>∃ (k:Nat) (xs:List CR) (ops:List ZT),k<=N/\i=.int .i64 k/\Hid (RdI F w1 es k pv xs ops wr)) (fun _ i _=>N-(intOf i).toNat)
  case atStart=>exact⟨0,[],[],by omega,rfl,H0⟩
  case round=>
   obtain⟨k,xs,ops,hk,rfl,HI⟩:=hrel;by_cases hlt:k<N
   ·have qm:k<ps.length:=by have:=Aa zb;omega
    have qw:k<es.length:=by have:=Aa za;omega
    obtain⟨zu,zx,zw,q7⟩:=Aa qr (by omega);subst zu;have qj:CD w.heap.size w wr:=(Aa q4).trans ((Aa HI).bel.mono (Aa q4).size);have ck:=(qj.cell (p:=⟨g,k,none⟩) zx).trans (q7 k qm);obtain⟨ek,qk⟩:∃ek,ek=es[k]:=⟨_,rfl⟩
    have qg:Rep (f+1) (fun q=>F q/\q<w1.heap.size) wr ps[k] ek:=qk▸((Aa HA).get k qm qw).move fun j hj qe=>⟨qj.block j qe,hj,Nat.lt_of_lt_of_le qe (Aa q4).size⟩
    have zf:Af wr:=(Aa HT).below (qj.mono (Aa HT).ng);have q6:=Ab (Uo qg hf (Aa qt ek (qk▸List.getElem_mem qw)) (Hv (Aa HM) ((Aa HI).bel.block m (Aa zr))) zf);have yb:(N:Int)<=(cap:Int):=by have:=Aa zb;omega
    have qy:(k:Int)<(N:Int):=by omega
    have zz:(k:Int)<(cap:Int):=by omega
    obtain⟨pk,hpk⟩:∃pk,pk=ps[k]:=⟨_,rfl⟩
    rw[<- hpk] at ck q6;have y7:=Ab qm;have z8:=Ab qw;have z7:=Ab qk;clear qj q7 qg zf qm hpk qk
    go_wp2_with (fail);refine (Aa q6).mono ?_
    rintro e W2 ⟨q0,hb2⟩;have z1:=Ab hb2;unfold E9 at q0;cases hit:Dz ek with
    | none=>
     rw[hit] at q0;subst q0;have qn:=Ab (show Eu (Ap es)=.error k by
      show CC 0 es=_;rw[(Aa HI).eq,List.drop_eq_getElem_cons (Aa z8),CC,<- Aa z7,hit])
     clear hit hb2;unfold opV
     go_wp2_with (fail)
     go_ret3
     refine⟨?_,(((Aa q4).trans (((Aa HI).bel.trans ((Aa z1).mono (Aa HI).bel.size)).mono (Aa q4).size)).alloc (AI (Aa q4).size (AI (Aa HI).bel.size (Aa z1).size)) _)⟩;rw[Aa HQ,C5,Aa qn];rfl
    | some o=>
     rw[hit] at q0;obtain⟨pa,pl,pc,fa,fl,fc,y,rfl,zk⟩:=q0;obtain⟨ok,qz⟩:∃ok:Nat,ok=o.1:=⟨_,rfl⟩
     have zs:=Ab zk;have zq:=Ab hit;have zc:=Ab qz;unfold opV;rw[<- qz];have hs2:=hb2.size;have y5:=(Aa HI).bel.size;have qb:CD wr.heap.size wr ((W2.alloc (.cells #[.int .i64 ok,.slice pa pl pc,.slice fa fl fc,.pointer y] 178)).alloc (.cells #[.int .i64 ok,.slice pa pl pc,.slice fa fl fc,.pointer y] 178)):=(hb2.alloc hs2 _).alloc (by simp;omega) _;have zl:=Ab qb;have qq:=Ab ((Aa HI).own.kept ⟨qb.os,qb.tape,qb.output,qb.size,fun j hj _=>qb.block j hj⟩ (row:=none) (Classical.em _));have y8:=Ab hs2;have y9:=Ab y5;have qv:((k:Nat)+1)*64<=140737488355328:=by omega
     have zy:k+1<=maxLen:=by unfold maxLen;omega
     clear hit hb2 zk qz qb
     go_wp2_with (first
      | (at_builtin;refine wpList_append_own_at _ rfl _ _ 113 rfl w1.heap.size 178 i0 z0 4 64 underlying113 hi hz hz2 hz3 y6 (by decide) _ _ _ rfl (Aa qq) ⟨W2.heap.size+1,0,none⟩ 1 1 [.int .i64 ok,.slice pa pl pc,.slice fa fl fc,.pointer y] rfl rfl (World.news_of_block (cs:=#[.int .i64 ok,.slice pa pl pc,.slice fa fl fc,.pointer y]) (t:=178) (fr:=(0,0)) (by have:=heap_alloc_new (W2.alloc (.cells #[.int .i64 ok,.slice pa pl pc,.slice fa fl fc,.pointer y] 178)) (.cells #[.int .i64 ok,.slice pa pl pc,.slice fa fl fc,.pointer y] 178);rw[OD] at this;exact this)) (by intro u hu;simp at hu;rcases hu with rfl|rfl|rfl|rfl<;>rfl) zy qv (by simp;omega) ?_;intro v' w5 q9 q8 y4 qf))
     have zv:=CL W2.heap.size W2;have zg:=(zv.alloc (A4 _) (.cells #[.int .i64 ok,.slice pa pl pc,.slice fa fl fc,.pointer y] 178)).alloc (by simp) (.cells #[.int .i64 ok,.slice pa pl pc,.slice fa fl fc,.pointer y] 178);rw[Aa zc] at q9 q8 zg qf;have z6:=Aa zl;rw[Aa zc] at z6;exact⟨⟨k+1,_,_,by omega,by go_num,RdI.next (Aa HI) (Aa z8) (by rw[<- Aa z7];exact Aa zq) z6 ((Aa zs).move fun j hj qe=>⟨zg.block j qe,hj⟩) q9 q8 qf⟩,by simp[intOf];omega⟩
   ·obtain rfl:k=N:=by omega
    have hI:=Aa HI;have qx:k=es.length:=by have:=Aa za;omega
    have zi:Eu (Ap es)=.ok ops:=by
     show CC 0 es=_;rw[hI.eq,List.drop_eq_nil_of_le (by omega)];simp[CC]
    obtain⟨ao2,cap2,g2,rfl,qu⟩:=GB hI.own;have qd:Q (.returned (.tuple #[.slice ao2 k cap2,.int .i64 0,.bool true])) wr:=by
     rw[Aa HQ,C5,zi];refine⟨ao2,g2,cap2,by rw[hI.len],fun hp=>?_,?_⟩
     ·obtain⟨a1,a2,a3,a4⟩:=qu (by rw[<- hI.len];exact hp);exact⟨a1,AI (Aa q4).size a3⟩
     ·refine Df.mem (hI.rops.move fun j hj qe=>⟨rfl,?_⟩) fun hp=>(qu (by rw[<- hI.len];exact hp)).2.2.2;rcases hj.1 with⟨h1,h2⟩|h1
      ·by_cases h3:j<w.heap.size
       ·exact A5 ⟨h1,h3⟩
       ·exact Dp (by omega)
      ·exact Dp (AI (Aa q4).size h1)
    have qo:=Ab qd;have zn:=Ab ((Aa q4).trans (hI.bel.mono (Aa q4).size));have qy:¬ (k:Int)<(k:Int):=by omega
    clear hI qx zi qu qd
    go_wp2_with (fail)
    go_ret3
    exact⟨Aa qo,Aa zn⟩
 ·obtain⟨x,n,s,sl,mv,hv,hx⟩:∃ (x:Nat) (n:Nm) (s:By) (sl mv:CR),VB w b x n s sl mv/\x≠5:=by
   rcases h with⟨k,hk,rfl,h⟩|⟨n,rfl,h,_⟩|⟨s,rfl,h⟩|⟨es,sl,ps,rfl,h,_⟩|⟨es,m,n,D,rfl,h,_⟩
   ·exact⟨k,_,_,_,_,h,by omega⟩
   ·exact⟨3,_,_,_,_,h,by omega⟩
   ·exact⟨4,_,_,_,_,h,by omega⟩
   ·exact absurd ⟨es,rfl⟩ q5
   ·exact⟨6,_,_,_,_,h,by omega⟩
  have hpr:Eu d=.error 0:=by
   unfold Eu;split
   ·rename_i es y
    exfalso
    rcases h with⟨k,_,e,h⟩|⟨n,e,h,_⟩|⟨s,e,h⟩|⟨es',sl,ps,e,_⟩|⟨es',m,n,D,e,_⟩
    ·cases e
    ·cases e
    ·cases e
    ·exact q5 ⟨es',e⟩
    ·cases e
   ·rfl
  have c0:=hv.c0;have e1:((x:Int) != 5)=true:=by rw[bne_iff_ne];omega
  have qp:=Ab (show C5 F d w (.returned (.tuple #[.slice none 0 0,.int .i64 0,.bool false])) w by unfold C5;rw[hpr];rfl);clear h hb q5 hv hpr hs hT hO hK hx
  go_enter func83,ntmps83
  go_wp2_with (fail)
  go_ret3
  exact⟨Aa qp,CL _ _⟩
end
abbrev FN(F:Nat->Prop)(B:Nat):Nat->Prop:=fun k=>(F k/\k<B)\/B<=k
section
variable{w w2:Bs}{D R:Nat}{wp:CR}{iv:CR}{ch:Bool}{T a:Zf}{v:To}
theorem IB(h:CJ w D R wp (.slice none 0 0) iv ch T a v)(hb:CD w.heap.size w w2):
  ∃q0,wp=.pointer q0/\JS w2 D R q0 (.slice none 0 0) iv ch T (fun k=>k<w.heap.size/\k ∉ fp (top+1) T/\k≠D) w T a v (fun k=>k<w2.heap.size/\k ∉ fp (top+1) T/\k≠D) []:=by
 obtain⟨b,rfl,_⟩:=h.sub.ptr;have hs:=hb.size;refine⟨_,rfl,⟨⟨[],[],h.db.kept (hb.block D h.db.lt),⟨rfl,A5 ⟨rfl,rfl⟩⟩,trivial,fun N w' hA=>?_⟩,by simp[DD],fun g hg=>by simp[DD] at hg,h.tr.bel hb,h.nd,⟨h.nD,fun hm=>hm.2.2 rfl⟩,by grind,by grind⟩,h.move (hb.block D h.db.lt) fun k hk=>hb.block k (h.tr.lt k hk)⟩;obtain⟨T',e,t1,t2,t3⟩:=hA.tree;exact⟨by grind,fun k hm=>(hA.held k ⟨by omega,hm.2⟩).trans (hb.block k hm.1),fun k hm=>hA.low k ⟨by omega,hm.2⟩⟩
theorem CJ.of{w':Bs}{g:Nat}{T1:Zf}{a1:Zf}(hd:DB w' D (.pointer (some ⟨R,0,none⟩)) (.slice none 0 0) ch iv)(ht:Ad (top+1) w' (.pointer (some ⟨R,0,none⟩)) T1)(hn:(fp (top+1) T1).Nodup)(hD:D ∉ fp (top+1) T1)(e:er (top+1) T1=er (top+1) (Zj R g (.slice [a1] []))):
  ∃wp a,CJ w' D R wp (.slice none 0 0) iv ch T1 a (Zi top a1):=by
 obtain⟨g',q0,rfl,e2⟩:=ht.er_arr e;obtain⟨a,rfl⟩:∃a,q0=[a]:=List.length_eq_one_iff.1 (by have:=congrArg List.length e2;simpa using this);have e3:er top a=er top a1:=by
  have:=congrArg (fun l:List Zf=>l[0]?) e2;simpa using this
 obtain⟨u,hu⟩:∃u,Ad top w' u a:=Ad.at (f:=top) (p:=[0]) ht rfl;exact⟨u,a,hd,ht,⟨g',rfl⟩,hu,by rw[<- ED,e3,ED],hn,hD⟩
variable{F:Nat->Prop}{B:Nat}{d e:Int}{x:To×ZG}{w':Bs}
theorem Jy(h:CJ w D R wp (.slice none 0 0) iv ch T a x.1)(hch:ch=x.2.isSome)(hF:∀k∈fp (top+1) T,F k)(hi:F4 w (fun k=>F k/\k≠D/\k ∉ fp (top+1) T) iv x.2)(fD:F D)(hl:(Zm top x.1).length<=80000)(hg:Zl d e top 1 x.1)(q0:∀k,F k->k<w.heap.size->k<B)(hB:B<=w.heap.size)
  (hA:BG (top+1) (.pointer (some ⟨R,0,none⟩)) T (fun k=>k<w.heap.size/\k ∉ fp (top+1) T/\k≠D) (fun k=>k=D) w w') (hd:DB w' D (.pointer (some ⟨R,0,none⟩)) (.slice none 0 0) ch iv):
  Bf w' (FN F B) (.pointer (some ⟨D,0,none⟩)) d e (some x):=by
 obtain⟨T',q6,t1,t2,t3⟩:=hA.tree;obtain⟨g,eT⟩:=h.one;have q7:=h.db.lt;have q8:=h.tr.lt;obtain⟨q9,a',q4⟩:=CJ.of hd t1 t2 (fun hm=>(t3 D hm).2 rfl) (by rw[q6,eT]);rw[h.str] at q4;have hin:∀k∈fp (top+1) T',w.heap.size<=k\/k∈fp (top+1) T:=fun k hk=>by
  by_cases h1:w.heap.size<=k
  ·exact A5 h1
  ·refine Dp (Classical.byContradiction fun h2=>(t3 k hk).1 ⟨by omega,h2,fun h3=>(t3 k hk).2 h3⟩)
 refine⟨D,R,q9,rfl,⟨T',a',iv,by rw[<- hch];exact q4,fun k hk=>?_,hi.move fun k hk q5=>?_⟩,A5 ⟨fD,q0 D fD q7⟩,hl,hg⟩
 ·rcases hin k hk with h1|h1
  ·exact Dp (by omega)
  ·exact A5 ⟨hF k h1,q0 k (hF k h1) (q8 k h1)⟩
 ·refine⟨hA.held k ⟨q5,hk.2.2,hk.2.1⟩,A5 ⟨hk.1,q0 k hk.1 q5⟩,hk.2.1,fun hm=>?_⟩;rcases hin k hm with h1|h1
  ·omega
  ·exact hk.2.2 h1
theorem Jx{wk:Bs}{q7:Option Addr}{jn q4:CR}{T2 a2:Zf}{Mb M':Nat->Prop}{j:List Zk}{v':To}(hF:∀k∈fp (top+1) T,F k/\k<B)(fD:F D/\D<B)(hB:B<=w.heap.size)
  (hJ:JS wk D R q7 jn iv ch T Mb w T2 a2 v' M' j) (hd:DB w' D (.pointer (some ⟨R,0,none⟩)) (.slice none 0 0) true q4) (ho:Ji w' (fun k=>GA (top+1) T w M' k\/wk.heap.size<=k) q4 j.reverse) (hk:Ao (fun k=>k=D) wk w')
  (hl:(Zm top v').length<=80000) (hg:Zl d e top 1 v') (hp:(Ck j.reverse).length<=8796093022208) (q9:∀o∈j.reverse,cB o):
  Bf w' (FN F B) (.pointer (some ⟨D,0,none⟩)) d e (some (v',some j.reverse)):=by
 have h:=hJ.t;have q5:=h.tr.lt;have q6:=hJ.j.up;have q8:=h.nD;have ht:∀k∈fp (top+1) T2,w'.heap[k]? = wk.heap[k]?:=fun k hkk=>hk.block k (q5 k hkk) fun e=>q8 (e▸hkk);have q0:∀k,k∈fp top a2->k∈fp (top+1) T2:=fun k hkk=>by
  obtain⟨g,e⟩:=h.one;rw[e,AN];exact List.mem_cons_of_mem _ (List.mem_append_right _ (by simpa using hkk))
 have hin:∀k,(w.heap.size<=k\/k∈fp (top+1) T)->FN F B k:=fun k hh=>hh.elim (fun h1=>Dp (by omega)) fun h1=>A5 (hF k h1);refine⟨D,R,.pointer q7,rfl,⟨T2,a2,q4,⟨hd,h.tr.move ht,h.one,h.sub.move fun k hkk=>ht k (q0 k hkk),h.str,h.nd,h.nD⟩,fun k hkk=>hin k (q6.2 k hkk),ho.move fun k hkk qb=>⟨rfl,?_⟩,hp,q9⟩,A5 fD,hl,hg⟩;rcases hkk with⟨h1,h2⟩|h1
 ·exact⟨hin k h2,fun e=>hJ.j.dD.2 (e▸h1),(hJ.j.low k h1).2⟩
 ·have h3:=hJ.j.dlt;exact⟨Dp (by have:=q6.1;omega),by omega,fun hm=>by have:=q5 k hm;omega⟩
end
theorem IO:∀t:By,(FS t).length<=2*t.length
 | []=>A4 _
 | c::r=>by
  have h1:=IO r;have h2:(FM c).length<=2:=by
   unfold FM
   repeat' split
   all_goals simp
  simp only[FS,C1,AT,AS] at h1 |-;omega
theorem Gz:∀p:List By,(AV p).length<=2*(p.map fun t=>t.length+1).sum
 | []=>A4 _
 | t::r=>by
  have h1:=Gz r;have h2:=IO t;simp only[AV,C1,AT,AS,D0,D1] at h1 |-;omega
theorem Mm{α:Type}{q:α->Nat}{m:Nat}:∀ {l:List α},(∀a∈l,q a<=m)->(l.map q).sum<=l.length*m
 | [],_=>by simp
 | a::l,h=>by
  have h1:=h a (by simp);have h2:=Mm (q:=q) (l:=l) fun b hb=>h b (by simp[hb]);simp only[D0,D1,AS,Nat.add_mul];omega
theorem NK{f m:Nat}{es:List To}(h:∀e∈es,(Zm f e).length<=m):(Zm (f+1) (Ap es)).length<=2+es.length*(m+1):=by
 rw[Dj];have h1:=EJ (es.map (Zm f));rw[E0] at h1;have h2:(es.map ((fun x=>x.length+1) ∘ Zm f)).sum<=es.length*(m+1):=Mm fun e he=>by have:=h e he;simp only[D2];omega
 simp only[AS,AT,Dt];omega
theorem GC{f m:Nat}{es:List (Lit×To)}(h:∀k∈ZJ es,(ZI f es k).length<=m):(Zm (f+1) (Ay es)).length<=2+(ZJ es).length*(m+1):=by
 rw[KD];have h1:=EJ ((Zz es).map (ZI f es));have hp:(Zz es).Perm (ZJ es):=List.mergeSort_perm _ _;rw[E0] at h1;have h2:((Zz es).map ((fun x=>x.length+1) ∘ ZI f es)).sum<=(Zz es).length*(m+1):=Mm fun k hk=>by have:=h k (hp.mem_iff.1 hk);simp only[D2];omega
 rw[hp.length_eq] at h2;simp only[AS,AT,Dt];have h3:(Ax ((Zz es).map (ZI f es))).length<=(ZJ es).length*(m+1):=by omega
 exact AI (CH (CH h3 _) _) (by omega)
theorem Pg{d x:Int}{B:Nat}{v:To}(h:Zx d x B v):(Zm (top-2) v).length<=B:=by
 have hd:=h.dd;have g1:=Co (f:=1000) h.gd (by omega);have e1:=Fy 1000 (top-2) 1 v g1 (by unfold top;omega);have e2:=Fy 1000 top 1 v g1 (by unfold top;omega);have h1:=(BX h.gd).1;have h2:=h.sz;rw[e1,<- e2];omega
theorem dS{d x:Int}{o:Zk}(h:FZ d x 200000 o):(Zm (top-1) (B3 o)).length<=7300000:=by
 obtain⟨h1,h2⟩:=h;have h3:=Gz o.2.1;have hq:=En (AV o.2.1);have e1:(Zm (top-2) (Aq (AV o.2.1))).length=(Ag (AV o.2.1)).length:=rfl;have hn:(AQ o.1).length<=7:=by
  unfold AQ
  repeat' split
  all_goals decide
 have q4:=En (AQ o.1);have e2:(Zm (top-2) (Aq (AQ o.1))).length=(Ag (AQ o.1)).length:=rfl;have q1:(Ag ZP).length=4:=rfl;have q2:(Ag Bc).length=6:=rfl;have q3:(Ag Ba).length=7:=rfl;unfold B3;split
 ·refine AI (GC (f:=top-2) (m:=2400100) fun k hk=>?_) (by simp[ZJ]);have hk2:k=ZP\/k=Bc:=by simpa[ZJ] using hk
  rw[bD];rcases hk2 with rfl|rfl
  ·have e3:ZV [(.string ZP,Aq (AQ o.1)),(.string Bc,Aq (AV o.2.1))] ZP=Aq (AQ o.1):=rfl;rw[e3,q1];omega
  ·have e3:ZV [(.string ZP,Aq (AQ o.1)),(.string Bc,Aq (AV o.2.1))] Bc=Aq (AV o.2.1):=rfl;rw[e3,q2];omega
 ·rename_i q0;have h4:=Pg (h2 q0);refine AI (GC (f:=top-2) (m:=2400100) fun k hk=>?_) (by simp[ZJ]);have hk2:k=ZP\/k=Bc\/k=Ba:=by simpa[ZJ] using hk
  rw[bD];rcases hk2 with rfl|rfl|rfl
  ·have e3:ZV [(.string ZP,Aq (AQ o.1)),(.string Bc,Aq (AV o.2.1)),(.string Ba,o.2.2)] ZP=Aq (AQ o.1):=rfl;rw[e3,q1];omega
  ·have e3:ZV [(.string ZP,Aq (AQ o.1)),(.string Bc,Aq (AV o.2.1)),(.string Ba,o.2.2)] Bc=Aq (AV o.2.1):=rfl;rw[e3,q2];omega
  ·have e3:ZV [(.string ZP,Aq (AQ o.1)),(.string Bc,Aq (AV o.2.1)),(.string Ba,o.2.2)] Ba=o.2.2:=rfl;rw[e3,q3];omega
theorem K6{d x:Int}{j:List Zk}(h:∀o∈j,FZ d x 200000 o)(hn:j.length<=1000000):(Ck j).length<=8796093022208:=by
 have h1:=NK (f:=top-1) (m:=7300000) (es:=j.map B3) fun e he=>by
  obtain⟨o,ho,rfl⟩:=List.mem_map.1 he;exact dS (h o ho)
 have h2:(Ck j).length<=2+(j.map B3).length*(7300000+1):=h1;rw[List.length_map] at h2;have h3:j.length*(7300000+1)<=1000000*7300001:=Nat.mul_le_mul_right _ hn;omega
def Ta(F:Nat->Prop)(w W0:Bs)(D:Nat)(d e:Int)(v:To×ZG)(l:List ZT)(x:Ending)(w3:Bs):Prop:=∃ (c i:Nat) (v':To×ZG),x=.returned (.tuple #[.int .i64 i,.int .i64 c])/\w3.heap[w.heap.size]? = W0.heap[w.heap.size]? /\ Ao F w w3 /\
 Bf w3 (FN F (w.heap.size+1)) (.pointer (some ⟨D,0,none⟩)) d e (some v')/\(match DQ d 0 v.1 [] l with
  | .error (c',i')=>c=c'/\i=i'/\v'=v
  | .ok (y,j)=>c=0/\i=0/\v'=(y,some j.reverse))
theorem PM{w W0 w9:Bs}{F:Nat->Prop}{D R:Nat}{wp:CR}{d e:Int}{v:To×ZG}{l:List ZT}{ao:Option Addr}{g cap:Nat}(hd:DU w F D R wp d e v)(hF:∀k,F k->NG<=k/\k<w.heap.size)(hW:CD w.heap.size w W0)(qh:W0.heap.size=w.heap.size+1)(hb:CD W0.heap.size W0 w9)(hT:Af w9)
  (q6:Kc w9 (fun k=>W0.heap.size<=k) g l) (hg:0<l.length->ao=some ⟨g,0,none⟩/\W0.heap.size<=g) (qf:∀o∈l,bN (d+2) e 200000 o) (hn:l.length<=80000) (qj:d<=20):
  Calls D3 84 #[.pointer (some ⟨D,0,none⟩),.slice ao l.length cap,.int .i64 d] w9 (Ta F w W0 D d e v l):=by
 obtain⟨T,a,iv,h1,h2,h3⟩:=hd.ex;have fD:=hd.fD;have q5:=hd.len;have q9:=hd.gd;have qd:CJ W0 D R wp (.slice none 0 0) iv v.2.isSome T a v.1:=h1.move (hW.block D h1.db.lt) fun k hk=>hW.block k (h1.tr.lt k hk);have qe:F4 W0 (fun k=>F k/\k≠D/\k ∉ fp (top+1) T) iv v.2:=h3.move fun k hk qb=>⟨hW.block k qb,hk⟩
 obtain⟨qo,rfl,hJ⟩:=IB qd hb;have q7:=h1.tr.lt;have qg:=h1.db.lt;have qi:=hb.size;have qk:=hT.ng;have q8:Zx d e 200000 v.1:=⟨q9,by omega,by have:=(BX q9).2;omega⟩
 refine (Qw (d:=d) (x:=e) (g:=g) hJ hT (fun k hk=>⟨?_,fun hm=>?_,fun e=>?_⟩) (fun k hk=>⟨hk.2.2,by omega⟩) (by omega) q8 q5 (fun hp=>?_) (fun i hi=>?_) qf (by omega)).mono ?_
 ·omega
 ·have:=(hF k (h2 k hm)).1;omega
 ·have:=(hF k (e▸fD)).1;omega
 ·obtain⟨e1,e2⟩:=hg hp;obtain⟨pa,pl,pc,fa,fl,fc,y,_,q1,_⟩:=q6 0 hp;exact⟨e1,BY w9 _ q1,fun hm=>by have:=q7 g hm;omega,fun e=>by omega⟩
 ·obtain⟨pa,pl,pc,fa,fl,fc,y,q0,q1⟩:=q6 i hi;exact⟨pa,pl,pc,fa,fl,fc,y,q0.move fun k hk qb=>⟨rfl,⟨qb,fun hm=>by have:=q7 k hm;omega,fun e=>by omega⟩,A5 hk⟩,q1⟩
 ·intro x w3 hp;have q4:∀k,k<w.heap.size -> ¬ F k->k<W0.heap.size/\k ∉ fp (top+1) T/\k≠D:=fun k hk hx=>⟨by omega,fun hm=>hx (h2 k hm),fun e=>hx (e▸fD)⟩
  have hq:w.heap.size<W0.heap.size/\w.heap.size ∉ fp (top+1) T/\w.heap.size≠D:=⟨by omega,fun hm=>by have:=q7 _ hm;omega,by omega⟩
  unfold Ta;cases hr:DQ d 0 v.1 [] l with
  | error ci=>
   obtain⟨c,i⟩:=ci;rw[hr] at hp;obtain⟨rfl,p1,p2,p3,p4,p5,p6⟩:=hp;refine⟨c,i,v,rfl,p2.held _ hq,⟨p3.trans (hb.os.trans hW.os),p4.trans (hb.tape.trans hW.tape),p5.trans (hb.output.trans hW.output),by have:=hW.size;omega,fun k hk hx=>(p2.held k (q4 k hk hx)).trans (hW.block k hk)⟩,?_,rfl,rfl,rfl⟩;exact Jy qd rfl h2 qe fD q5 q9 (fun k hk _=>by have:=(hF k hk).2;omega) (by omega) p2 p1
  | ok vj=>
   obtain⟨y,j⟩:=vj;rw[hr] at hp;obtain⟨rfl,qn,jn,T2,a2,M',wk,qm,s1,s2,s3,s4,s5,s6,s7,s8,s9⟩:=hp;have hM:∀k,k<W0.heap.size/\k ∉ fp (top+1) T/\k≠D->w3.heap[k]? = W0.heap[k]?:=fun k hk=>by
    have h4:=s2.kept k ⟨by omega,hk.2⟩;exact (s5.block k (by have:=s2.size;omega) hk.2.2).trans (h4.2.trans (hb.block k hk.1))
   refine⟨0,0,_,rfl,hM _ hq,⟨s5.os.trans (s2.os.trans (hb.os.trans hW.os)),s5.tape.trans (s2.tape.trans (hb.tape.trans hW.tape)),s5.output.trans (s2.output.trans (hb.output.trans hW.output)),by have:=hW.size;have:=s2.size;have:=s5.size;omega,fun k hk hx=>(hM k (q4 k hk hx)).trans (hW.block k hk)⟩,?_,rfl,rfl,rfl⟩;refine Jx (F:=F) (B:=w.heap.size+1) (fun k hk=>⟨h2 k hk,by have:=q7 k hk;omega⟩) ⟨fD,by omega⟩ (by omega) s1 s3 s4 s5 s7 s6.gd (K6 (d:=d) (x:=e) (fun o ho=>s8 o (A3.1 ho)) ?_) fun o ho=>⟨by have:=(s8 o (A3.1 ho)).1;omega,fun h=>⟨_,_,((s8 o (A3.1 ho)).2 h).gd,((s8 o (A3.1 ho)).2 h).dd⟩⟩
   rw[List.length_reverse];omega
theorem GS.below{w w':Bs}(h:GS w)(hb:CD w.heap.size w w'):GS w':=by
 obtain⟨t,fr,e⟩:=h;exact⟨t,fr,(hb.block _ (A6.1 e).1).trans e⟩
theorem Px{x:Int}(h1:0<=x)(h2:x<=1000):IntKind.i64.wrap x=x:=by rw[IntKind.wrap_i64];omega
theorem J9{F:Nat->Prop}{p:CR}{d e:Int}{A:ZK}{v':To×ZG}{w w3:Bs}(a b c:CR)(hk:Ao (fun k=>F k/\k<w.heap.size) w w3)(hd:Bf w3 (FN (fun k=>F k/\k<w.heap.size) (w.heap.size+1)) p d e (some v')):
  Cm F p d e (A,v') w (.returned (Ai A)) (((w3.setCell ⟨w.heap.size,0,none⟩ a).setCell ⟨w.heap.size,1,none⟩ b).setCell ⟨w.heap.size,2,none⟩ c):=by
 have hs:=AE.of3 w.heap.size w3 a b c;refine⟨rfl,(hs.kept hk (A4 _)).mono fun k h=>h.1,hd.move fun k hk q0=>⟨hs.block k ?_,?_⟩⟩
 ·rcases hk with⟨⟨_,h1⟩,_⟩|h1<;>omega
 ·rcases hk with⟨h1,_⟩|h1
  ·exact A5 h1
  ·exact Dp (by omega)
theorem PB{S:Nat}{d e n:Int}{p:CR}{v:To×ZG}{F:Nat->Prop}{s:By}{w:Bs}(hcfg:aG d e n=true)(hF:∀k,F k->NG<=k/\k≠S)(hS:SB w S d e n p)(hD:Bf w F p d e (some v))(hT:Af w)(hO:GS w):
  Calls D3 59 #[.pointer (some ⟨S,0,none⟩),.string ⟨s.toArray⟩] w (Cm F p d e (bE d e v s) w):=by
 obtain⟨zq,zr⟩:1<=d/\d<=20:=by
  unfold aG aL at hcfg;simp at hcfg;omega
 have zg:=hD;obtain⟨D,R,wp,rfl,zh⟩:=hD;have qi:=zh.move (F':=fun k=>F k/\k<w.heap.size) (fun k h1 h2=>⟨rfl,h1,h2⟩);obtain⟨W0,qb⟩:∃W0,W0=w.alloc (.cells #[.int .i64 0,.int .i64 0,.string ⟨#[]⟩] 46):=⟨_,rfl⟩
 have qh:CD w.heap.size w W0:=by rw[qb];exact (CL _ _).alloc (A4 _) _
 have zi:W0.heap.size=w.heap.size+1:=by rw[qb];simp
 have qg:AB W0 w.heap.size:=by rw[qb];exact AB.new w
 have qr:=Ab qi;have zt:=Ab zg;have HF:=Ab hF;have z7:=Ab qh;have zb:=Ab zi;have qd:=Ab qg;have qu:=Ab (hT.below (qh.mono hT.ng));have zk:=Ab (hO.below qh);have qp:=hS.low qh;have c0:=qp.c0;have c1:=qp.c1;have zo:=Ab qp;have z6:IntKind.i64.wrap (d+2)=d+2:=Px (by omega) (by omega);have HR:=Ab (fun (w9:Bs) (hT:Af w9)=>Pv s (d+2) e w9 hT);rw[<- z6] at HR;have zf:=Ab z6;clear z6;obtain⟨RR,qv⟩:∃RR,RR=bE d e v s:=⟨_,rfl⟩
 rw[<- qv];have qt:=Ab qv;have ze:=Ab qb;rw[qb] at c0 c1;clear hcfg hF hS zg zh qi hT hO qh zi qg qp qv qb;have zw:1<=d:=zq
 go_enter func59,ntmps59
 go_upto_region 1 with (fail)
 rw[<- Aa ze];rw[<- Aa ze] at c0 c1
 go_cut [5,6] (fun s5 s6 wx=>∃ (p2:Option Addr) (c:Nat),s5=.pointer p2/\s6=.int .i64 c/\Hid (CD W0.heap.size W0 wx)/\Hid ((0<c/\Zy s (IntKind.i64.wrap (d+2)) e=(c,none))\/(c=0 /\ ∃v,Zy s (IntKind.i64.wrap (d+2)) e=(0,some v)/\Tr top W0.heap.size wx (.pointer p2) v)))
 case first=>
  go_region_with (go_at_call 77;refine (Aa HR _ ?_).mono ?_;exact (Aa qu).drew;rintro x w1 ⟨p2,c,rfl,hb1,hc⟩)
  all_goals (
   replace hb1:CD W0.heap.size W0 w1:=⟨hb1.os,hb1.tape,hb1.output,hb1.size,hb1.block⟩
   replace hc:(0<c/\Zy s (IntKind.i64.wrap (d+2)) e=(c,none))\/(c=0 /\ ∃v,Zy s (IntKind.i64.wrap (d+2)) e=(0,some v)/\Tr top W0.heap.size w1 (.pointer p2) v):=hc
   have q9:=Ab hb1;have HC:=Ab hc;clear hb1 hc
   go_wp2_with (fail)
   go_meet
   exact⟨p2,c,rfl,rfl,q9,HC⟩)
 case rest=>
  obtain⟨p2,c,rfl,rfl,q9,HC⟩:=hcut;have qo:=Ab ((Aa z7).trans ((Aa q9).mono (by have:=Aa zb;omega)));have A1:=Ab ((Aa qd).low (Aa q9));rcases Aa HC with⟨hpos,q8⟩|⟨rfl,pv,q8,zj⟩
  ·rw[Aa zf] at q8;have qf:=Ab (show RR=((c,0,[]),v) by rw[Aa qt];unfold bE;rw[q8]);have e0:((c:Int) != 0)=true:=by simp;omega
   clear q8 hpos
   go_wp2_with (fail);refine (Bj c _).mono ?_
   rintro x w3 ⟨rfl,hb3⟩;have a3:=(Aa A1).low hb3;have g0:=a3.c0;have g1:=a3.c1;have g2:=a3.c2;have z:=a3.fz;have z8:=Ab ((Aa qo).trans (hb3.mono (Aa qo).size));clear a3 hb3;unfold AW
   go_wp2_with (fail);refine C2 (v:=Ai (c,0,[])) (by simp[results,results59,go_sem,Ai,g0,g1,g2]) rfl ?_
   rw[Aa qf];exact J9 _ _ _ (Ao.of_below (Aa z8)) ⟨D,R,wp,rfl,(Aa qr).move fun k hk qj=>⟨(Aa z8).block k qj,A5 ⟨hk,by omega⟩⟩⟩
  ·rw[Aa zf] at q8;have qy:=F8 q8;have qz:=F9 q8 top;have qx:=(Aa qu).below ((Aa q9).mono (Aa qu).ng);have zn:=Ab (PO (f:=top-2) zj.rep (by unfold top;omega) (Rm qy qz) qx ((Aa zk).below (Aa q9)));have za:=Ab q8;have zl:=Ab (fun l (h:Eu pv=.ok l)=>TL qy qz (by omega) h);have zc:=Ab qx;clear q8 zj qy qz qx
   go_wp2_with (fail);refine (Aa zn).mono ?_
   rintro x w2 ⟨q5,hb2⟩;have A2:=Ab ((Aa A1).low hb2);have qe:=Ab ((Aa qo).trans (hb2.mono (Aa qo).size));have zs:=Ab hb2;unfold C5 at q5;cases hpr:Eu pv with
   | error i=>
    rw[hpr] at q5;subst q5;have qf:=Ab (show RR=((10,i,[]),v) by rw[Aa qt];unfold bE;rw[Aa za];simp only;rw[hpr]);have g0:=(Aa A2).c0;have g1:=(Aa A2).c1;have g2:=(Aa A2).c2;have z:=(Aa A2).fz;clear hpr hb2
    go_wp2_with (fail);refine C2 (v:=Ai (10,i,[])) (by simp[results,results59,go_sem,Ai,g0,g1,g2]) rfl ?_
    rw[Aa qf];exact J9 _ _ _ (Ao.of_below (Aa qe)) ⟨D,R,wp,rfl,(Aa qr).move fun k hk qj=>⟨(Aa qe).block k qj,A5 ⟨hk,by omega⟩⟩⟩
   | ok l=>
    rw[hpr] at q5;obtain⟨ao,g,cap,rfl,hg,qn⟩:=q5;obtain⟨qk,qm⟩:=Aa zl l hpr;have z1:=(Aa q9).size;have hs2:=hb2.size;have q7:CD W0.heap.size W0 w2:=(Aa q9).trans (hb2.mono z1);have zm:=Ab (fun (w9:Bs) (h9:CD w2.heap.size w2 w9)=>PM (ao:=ao) (cap:=cap) (l:=l) (g:=g) (Aa qr) (fun k hk=>⟨(Aa HF k hk.1).1,hk.2⟩) (Aa z7) (Aa zb) (q7.trans (h9.mono q7.size)) ((Aa zc).below ((hb2.trans (h9.mono hs2)).mono (Aa zc).ng))
     (fun i hi=>by
      obtain⟨pa,pl,pc,fa,fl,fc,y,q0,q1,q2,q3,q4⟩:=qn i hi;have qq:=BY w2 _ q1;exact⟨pa,pl,pc,fa,fl,fc,y,q0.move fun k hk qj=>⟨h9.block k qj,by rcases hk with⟨h,_⟩|h<;>omega⟩,(h9.cell (p:=⟨g,i*4,none⟩) qq).trans q1,(h9.cell (p:=⟨g,i*4+1,none⟩) qq).trans q2,(h9.cell (p:=⟨g,i*4+2,none⟩) qq).trans q3,(h9.cell (p:=⟨g,i*4+3,none⟩) qq).trans q4⟩)
     (fun hp=>⟨(hg hp).1,AI z1 (hg hp).2⟩) qm qk zr)
    have qw:=(Aa zo).low q7;have zu:=qw.c0;have zv:=qw.c3;have qf:=Ab (fun (y:(To×ZG)) (c i:Nat) (h:match DQ d 0 v.1 [] l with
     | .error (c',i')=>c=c'/\i=i'/\y=v
     | .ok (u,j)=>c=0/\i=0/\y=(u,some j.reverse))=>(show RR=((c,i,[]),y) by
      rw[Aa qt];unfold bE;rw[Aa za];simp only;rw[hpr];simp only;cases hdo:DQ d 0 v.1 [] l with
      | error ci=>rw[hdo] at h;obtain⟨rfl,rfl,rfl⟩:=h;rfl
      | ok uj=>rw[hdo] at h;obtain⟨rfl,rfl,rfl⟩:=h;rfl))
    clear hpr hb2 hg qn qk qm z1 hs2 q7 qw c0 c1
    go_upto_region 7 with (fail)
    go_cut [8,6] (fun s8 s6 wx=>∃ (c i:Nat) (v':To×ZG),s8=.int .i64 i/\s6=.int .i64 c/\Hid (wx.heap[w.heap.size]? = W0.heap[w.heap.size]? /\ Ao (fun k=>F k/\k<w.heap.size) w wx/\Bf wx (FN (fun k=>F k/\k<w.heap.size) (w.heap.size+1)) (.pointer (some ⟨D,0,none⟩)) d e (some v')/\RR=((c,i,[]),v')))
    case first=>
     go_region_with (go_at_call 84;refine (Aa zm _ ?_).mono ?_;exact⟨rfl,rfl,rfl,A4 _,fun _ _=>rfl⟩;rintro x w3 ⟨c,i,v',rfl,q1,q2,q3,q4⟩)
     all_goals (
      have q6:=Ab (show w3.heap[w.heap.size]? = W0.heap[w.heap.size]? /\ Ao (fun k=>F k/\k<w.heap.size) w w3/\Bf w3 (FN (fun k=>F k/\k<w.heap.size) (w.heap.size+1)) (.pointer (some ⟨D,0,none⟩)) d e (some v')/\RR=((c,i,[]),v') from⟨q1,q2,q3,Aa qf v' c i q4⟩);clear q1 q2 q3 q4
      go_wp2_with (fail)
      go_meet
      exact⟨c,i,v',rfl,rfl,q6⟩)
    case rest=>
     obtain⟨c,i,v',rfl,rfl,q6⟩:=hcut;obtain⟨q1,q2,q3,q4⟩:=Aa q6;have a3:AB wc w.heap.size:=q1.trans (Aa qd);have g0:=a3.c0;have g1:=a3.c1;have g2:=a3.c2;have z:=a3.fz;clear q1 q2 q3 q4 a3
     go_wp2_with (fail);refine C2 (v:=Ai (c,i,[])) (by simp[results,results59,go_sem,Ai,g0,g1,g2]) rfl ?_
     obtain⟨q1,q2,q3,q4⟩:=Aa q6;rw[q4];exact J9 _ _ _ q2 q3
theorem TQ:KJ:=fun _ _ _ _ _ _ _ _ _ hc hF hS hD hT=>PB hc hF hS hD hT hT.otab
end Go.Proofs.YtdpomdelmdofmaaGreatDoor
