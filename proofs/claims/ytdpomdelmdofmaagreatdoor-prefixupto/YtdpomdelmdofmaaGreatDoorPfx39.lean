import Derived.ArgAppend
import Derived.Laws.Append
import Derived.Test.YtdpomdelmdofmaaGreatDoorPfx38
open Go renaming getD_set_ne->AI,wpOp_step->A3,World->A4,heap_alloc_new->A6,Calls->BY,bodyPost_end->CL,results_none->CR,Value->C1,bodyPost_ret->D1,undef->D3,maxLen->E0
open Go.Proofs.Tryz renaming prog->AS
open Go.RowKit renaming Below->AT
open Array renaming getElem?_eq_some_iff->A1,getD->A2
open Nat renaming le_refl->A5,lt_of_lt_of_le->Bs,le_trans->CH
open Go.Value renaming string->CD,slice->F2
open Option renaming map_eq_some_iff->C2
open List renaming getElem_append->Dt,length_map->D2
open Or renaming inr->DD,inl->F1
open Go.RowKit.Below renaming refl->D0
open Go.Maps renaming size_eq->Ft
open Go.DataW renaming map->F5
set_option maxHeartbeats 8000000
set_option maxRecDepth 100000
namespace Go.Proofs.YtdpomdelmdofmaaGreatDoor
open Go.Proofs.Tryz Go.RowKit Go.Maps
variable{n L:Nat}{F Mb M:Nat->Prop}{es:List (Lit×To)}{rv iv:C1}{ch:Bool}{Tb:Zf}{wb:A4}{js:List Zk}
theorem SV{w:A4}{g o cap:Nat}(h:n<=cap)(hc:cap<=E0):
  BY AS 206 #[.slice (some ⟨g,o,none⟩) n cap] w fun e w'=>e=.returned (.slice (some ⟨g,o,none⟩) n n)/\w'=w:=by
 have h1:(n:Int)<=(cap:Int):=by omega
 have h2:(cap:Int)<=9223372036854775807:=by unfold E0 at hc;omega
 have h3:(n:Int)<=9223372036854775807:=by omega
 go_enter func206,ntmps206
 go_wp2_with (fail)
 go_ret;exact⟨rfl,rfl⟩
theorem SW{w:A4}{c:Nat}:
  BY AS 206 #[.slice none 0 c] w fun e w'=>e=.returned (.slice none 0 0)/\w'=w:=by
 go_enter func206,ntmps206
 go_wp2_with (fail)
 go_ret;exact⟨rfl,rfl⟩
def Vg(l:List By)(t:By)(w:A4)(e:Ending)(w':A4):Prop:=∃g cap,e=.returned (.slice (some ⟨g,0,none⟩) (l.length+1) cap)/\w.heap.size<=g/\Au w' (fun k=>w.heap.size<=k) (.slice (some ⟨g,0,none⟩) (l.length+1) cap) (l++[t])/\AT w.heap.size w w'
theorem VF{w:A4}{B:Nat}{v:C1}{l:List By}{t:By}(h:w.ownsRow B 9 1 v (n+1) (l.map (fun s=>CD ⟨s.toArray⟩)++[.string ⟨t.toArray⟩]))(hn:n=l.length):∃g cap,v=.slice (some ⟨g,0,none⟩) (l.length+1) cap/\B<=g/\Au w (fun k=>B<=k) (.slice (some ⟨g,0,none⟩) (l.length+1) cap) (l++[t]):=by
 subst hn;obtain⟨g,cap,rfl,q0,q4,hlt,hc⟩:=Bh h (Nat.succ_pos _);have hB:=(Aw h g rfl).2;refine⟨g,cap,rfl,hB,DD ⟨g,0,cap,by simp,by simpa using q0,q4,hB,hlt,fun k hk=>?_⟩⟩;have hk2:k<(l.map (fun s=>CD ⟨s.toArray⟩)++[CD ⟨t.toArray⟩]).length:=by simpa using hk
 have h1:=hc k hk2;rw[Nat.zero_add,h1];congr 1;rw[Dt,Dt];simp only[D2];split<;>simp
theorem Ik{w:A4}{G:Nat->Prop}{pv:C1}{l:List By}{t:By}(h:Au w G pv l)(hl:l.length<=100000000)(q7:l=[] -> ∃c,pv=.slice none 0 c):
  BY AS 163 #[pv,.string ⟨t.toArray⟩] w (Vg l t w):=by
 obtain⟨i0,hi,h0⟩:=C2.1 PS;injection h0 with hz h0;injection h0 with hz2 hz3;obtain⟨z0,qb⟩:∃z0,z0=CD ⟨#[]⟩:=⟨_,rfl⟩
 rw[<- qb] at hz;have qg:z0.cells.size=1:=by rw[qb];rfl
 have hb:AT w.heap.size w (w.alloc (.cells #[.string ⟨t.toArray⟩] 9)):=(D0 _ _).alloc (A5 _) _;have HN:=Ab (A6 w (.cells #[.string ⟨t.toArray⟩] 9));have HB:=Ab hb;obtain⟨ao,n,cap,qf,hn,q9,q4,q0⟩:∃ (ao:Option Addr) (n cap:Nat),pv=.slice ao n cap/\n=l.length/\(∀w1,BY AS 206 #[.slice ao n cap] w1 fun e w'=>e=.returned (.slice ao n n)/\w'=w1)/\(ao=none->n=0/\n=0)/\(∀b,ao=some b -> ∀ (j:Nat) (u:C1),(l.map fun s=>CD ⟨s.toArray⟩)[j]? = some u->(w.alloc (.cells #[.string ⟨t.toArray⟩] 9)).cell? (b.add j)=some u):=by
  rcases h with⟨rfl,a,c,rfl,qh⟩|⟨g,o,cap,rfl,h1,h2,_,h3,h4⟩
  ·obtain⟨c',e⟩:=q7 rfl;injection e with e1 e2 e3;subst e1;exact⟨none,0,c,rfl,rfl,fun w1=>SW,fun _=>⟨rfl,rfl⟩,fun b e=>by cases e⟩
  ·refine⟨some ⟨g,o,none⟩,l.length,cap,rfl,rfl,fun w1=>SV h1 h2,(fun e=>by cases e),fun b e j u hj=>?_⟩;injection e with e;subst e;rw[Addr.add_lit];rw[List.getElem?_map] at hj;obtain⟨s,hs,rfl⟩:=C2.1 hj;obtain⟨qe,rfl⟩:=List.getElem?_eq_some_iff.1 hs;exact (hb.cell (p:=⟨g,o+j,none⟩) h3).trans (h4 j qe)
 subst qf;have q5:=Ab q0;have q6:=Ab q4;have HL:=Ab hl;have q8:=Ab hn;obtain⟨Q,hQ⟩:∃Q,Q=Vg l t w:=⟨_,rfl⟩
 rw[<- hQ];have HQ:=Ab hQ;clear h hb q0 q4 hl hn hQ q7
 go_enter func163,ntmps163
 go_wp2_with (fail);refine (q9 _).mono ?_
 rintro e w' ⟨rfl,rfl⟩
 go_wp2_with (first
  | (at_builtin;refine wpList_append_grows _ rfl _ _ 121 rfl 9 i0 z0 1 16 underlying121 hi hz hz2 hz3 qg (by decide) ao n n (l.map fun s=>CD ⟨s.toArray⟩) rfl (Aa q6) (by rw[D2];have:=Aa q8;omega) (Aa q5) ⟨w'.heap.size,0,none⟩ 1 1 [.string ⟨t.toArray⟩] rfl rfl (World.news_of_block (cs:=#[.string ⟨t.toArray⟩]) (t:=9) (fr:=(0,0)) (Aa HN)) (by simp[Value.oneCell']) (by omega) (by have:=Aa HL;have:=Aa q8;unfold E0;omega) (by have:=Aa HL;have:=Aa q8;omega) ?_;intro v2 w2 ho hg))
 have hb2:AT w'.heap.size w' w2:=⟨hg.os.trans (Aa HB).os,hg.tape.trans (Aa HB).tape,hg.output.trans (Aa HB).output,CH (Aa HB).size hg.size,fun k hk=>(hg.block k (Bs hk (Aa HB).size) (by simp)).trans ((Aa HB).block k hk)⟩
 obtain⟨g2,cap2,rfl,h5,h6⟩:=VF ho (Aa q8);have HT:=Ab h6;have qd:=Ab hb2;have hsz:(w'.alloc (.cells #[.string ⟨t.toArray⟩] 9)).heap.size=w'.heap.size+1:=by simp
 rw[hsz] at h5;clear ho hg h6 hb2 q9
 go_wp2_with (fail);show Q (.returned (.slice (some ⟨g2,0,none⟩) (l.length+1) cap2)) _
 rw[Aa HQ];refine⟨g2,cap2,rfl,by omega,(Aa HT).move fun k hk _=>⟨rfl,?_⟩,Aa qd⟩;rw[hsz] at hk;omega
theorem AJ.low3{w w3:A4}{q b i:Nat}{pth:C1}{key:By}(h:AJ w q pth b key i)(hq:q<w.heap.size)(hb:AT w.drew.heap.size w.drew w3):AJ w3 q pth b key i:=(hb.block q hq).trans h
section
variable{w:A4}{D b i pb:Nat}{key:By}{pa gv:Option Addr}{pl pc:Nat}{pk:Int}{pn:Nm}{ps:By}{psl pmv:C1}
theorem IK{Q:A4->Prop}{Q1:A4->Addr->A4->Prop}(hG:BY AS 159 #[plV (.slice pa pl pc) b key i] (plW w pa pl pc b key i) fun e w'=>e=.returned (.pointer gv)/\AT (w.heap.size+1) (plW w pa pl pc b key i) w')(qi:VB w pb pk pn ps psl pmv)(hc:gv=none \/ ∃y k n s sl mv,gv=some ⟨y,0,none⟩/\VB w y k n s sl mv/\((k != 6)=true\/((k != 6)=false/\(pk != 6)=true)))(hM:∀w1,AT w.heap.size w w1->BY AS 161 #[.pointer (some ⟨pb,0,none⟩)] w1 fun e w'=>∃x,e=.returned (.pointer (some x))/\AT w1.heap.size w1 w'/\Q1 w1 x w')(hP:∀x w1 w2,AT w.heap.size w w1->AT w1.heap.size w1 w2->Q1 w1 x w2->BY AS 160 #[.pointer (some ⟨D,0,none⟩),plV (.slice pa pl pc) b key i,.pointer (some x)] w2 fun e w'=>e=.returned (.tuple #[])/\Q w'):
  BY AS 120 #[.pointer (some ⟨D,0,none⟩),plV (.slice pa pl pc) b key i,.pointer (some ⟨pb,0,none⟩)] w fun e w'=>e=.returned (.tuple #[])/\Q w':=by
 have HG:=Ab hG;have HM:=Ab hM;have HP:=Ab hP;have qf:=A6 w (.cells #[.slice pa pl pc,.pointer (some ⟨b,0,none⟩),.string ⟨key.toArray⟩,.int .i64 i] 185);have qd:=Ab (show AJ (plW w pa pl pc b key i) w.heap.size (.slice pa pl pc) b key i from qf);have qg:AT w.heap.size w (plW w pa pl pc b key i):=(D0 _ _).alloc (A5 _) _;have q6:=Ab qg;have qh:(plW w pa pl pc b key i).heap.size=w.heap.size+1:=by simp
 have qm:=Ab qh;have qe:=Ab qi;have HC:=Ab hc;clear hG hM hP qf qg qh qi hc
 go_enter func120,ntmps120
 go_wp2_with (fail);refine (Aa HG).mono ?_
 rintro e w2 ⟨rfl,hb⟩;have hb2:AT w.heap.size w w2:=⟨hb.os.trans (Aa q6).os,hb.tape.trans (Aa q6).tape,hb.output.trans (Aa q6).output,CH (Aa q6).size hb.size,fun k hk=>(hb.block k (by omega)).trans ((Aa q6).block k hk)⟩
 have q5:AJ w2 w.heap.size (.slice pa pl pc) b key i:=(hb.block _ (by omega)).trans (Aa qd);have qb:w.heap.size<w2.heap.size:=(A1.1 q5).1;have q9:=Ab q5;have q4:=Ab hb2;have q8:=Ab (fun w0 (h0:AT w2.heap.size w2 w0)=>Aa HM w0 (hb2.trans (h0.mono hb2.size)));have e0:=q5.c0;have e1:=q5.c1;have e2:=q5.c2;have e3:=q5.c3;have qk:=((Aa qe).kept (hb2.block pb (Aa qe).lt)).c0;have qj:=Aa HC;clear hb hb2 q5 HG HC qd q6 qm HM;rcases qj with rfl|⟨y,k,n,s,sl,mv,rfl,hy,hk|⟨hk,hk2⟩⟩
 ·go_wp2_with (fail);have hd:∀ {u:A4},AT u.heap.size u u.drew:=fun {u}=>⟨rfl,rfl,rfl,A5 _,fun _ _=>rfl⟩
  go_region_with (first
   | (go_at_call 161;refine (Aa q8 _ hd).mono ?_;rintro e w3 ⟨x,rfl,hb3,q7⟩;have q0:=(Aa q9).low3 qb hb3;have f0:=q0.c0;have f1:=q0.c1;have f2:=q0.c2;have f3:=q0.c3)
   | (go_at_call 160;refine (Aa HP x _ w3 ((Aa q4).trans (hd.mono (Aa q4).size)) hb3 q7).mono ?_;rintro e w4 ⟨rfl,hQ⟩))
  all_goals (
   go_wp2_with (fail);exact D1 (v:=.tuple #[]) (by simp[results,results120,go_sem]) rfl ⟨rfl,hQ⟩)
 ·have qy:=(hy.kept ((Aa q4).block y hy.lt)).c0;clear hy
  go_wp2_with (fail);have hd:∀ {u:A4},AT u.heap.size u u.drew:=fun {u}=>⟨rfl,rfl,rfl,A5 _,fun _ _=>rfl⟩
  go_region_with (first
   | (go_at_call 161;refine (Aa q8 _ hd).mono ?_;rintro e w3 ⟨x,rfl,hb3,q7⟩;have q0:=(Aa q9).low3 qb hb3;have f0:=q0.c0;have f1:=q0.c1;have f2:=q0.c2;have f3:=q0.c3)
   | (go_at_call 160;refine (Aa HP x _ w3 ((Aa q4).trans (hd.mono (Aa q4).size)) hb3 q7).mono ?_;rintro e w4 ⟨rfl,hQ⟩))
  all_goals (
   go_wp2_with (fail);exact D1 (v:=.tuple #[]) (by simp[results,results120,go_sem]) rfl ⟨rfl,hQ⟩)
 ·have qy:=(hy.kept ((Aa q4).block y hy.lt)).c0;clear hy
  go_wp2_with (fail);have hd:∀ {u:A4},AT u.heap.size u u.drew:=fun {u}=>⟨rfl,rfl,rfl,A5 _,fun _ _=>rfl⟩
  go_region_with (first
   | (go_at_call 161;refine (Aa q8 _ hd).mono ?_;rintro e w3 ⟨x,rfl,hb3,q7⟩;have q0:=(Aa q9).low3 qb hb3;have f0:=q0.c0;have f1:=q0.c1;have f2:=q0.c2;have f3:=q0.c3)
   | (go_at_call 160;refine (Aa HP x _ w3 ((Aa q4).trans (hd.mono (Aa q4).size)) hb3 q7).mono ?_;rintro e w4 ⟨rfl,hQ⟩))
  all_goals (
   go_wp2_with (fail);exact D1 (v:=.tuple #[]) (by simp[results,results120,go_sem]) rfl ⟨rfl,hQ⟩)
end
section
variable{w:A4}{D b i pb:Nat}{key:By}{pa:Option Addr}{pl pc:Nat}{pk:Int}{pn:Nm}{ps:By}{psl pmv:C1}{Q:A4->Prop}
theorem CK:AT w.heap.size w (plW w pa pl pc b key i):=(D0 _ _).alloc (A5 _) _
theorem MR(q5:VB w pb pk pn ps psl pmv)(hk:(pk != 0)=true)(hC:∀w2,AT w.heap.size w w2->BY AS 120 #[.pointer (some ⟨D,0,none⟩),plV (.slice pa pl pc) b key i,.pointer (some ⟨pb,0,none⟩)] w2 fun e w'=>e=.returned (.tuple #[])/\Q w'):
  BY AS 162 #[.pointer (some ⟨D,0,none⟩),plV (.slice pa pl pc) b key i,.pointer (some ⟨pb,0,none⟩)] w fun e w'=>e=.returned (.tuple #[])/\Q w':=by
 have q4:AT w.heap.size w (plW w pa pl pc b key i):=CK;have qk:=(q5.kept (q4.block pb q5.lt)).c0;have q0:AJ (plW w pa pl pc b key i) w.heap.size (.slice pa pl pc) b key i:=A6 w _;have e0:=q0.c0;have e1:=q0.c1;have e2:=q0.c2;have e3:=q0.c3;have HC:=Ab (hC _ q4);clear hC q0 q4 q5
 go_enter func162,ntmps162
 go_wp2_with (fail);refine (Aa HC).mono ?_
 rintro e w' ⟨rfl,hQ⟩
 go_wp2_with (fail);exact CL (CR rfl _ _ _) rfl ⟨rfl,hQ⟩
theorem Oe(q4:VB w pb pk pn ps psl pmv)(hk:(pk != 0)=false)(hG:BY AS 159 #[plV (.slice pa pl pc) b key i] (plW w pa pl pc b key i) fun e w'=>e=.returned (.pointer none)/\AT (w.heap.size+1) (plW w pa pl pc b key i) w'):
  BY AS 162 #[.pointer (some ⟨D,0,none⟩),plV (.slice pa pl pc) b key i,.pointer (some ⟨pb,0,none⟩)] w fun e w'=>e=.returned (.tuple #[])/\AT w.heap.size w w':=by
 have q5:AT w.heap.size w (plW w pa pl pc b key i):=CK;have qk:=(q4.kept (q5.block pb q4.lt)).c0;have q0:AJ (plW w pa pl pc b key i) w.heap.size (.slice pa pl pc) b key i:=A6 w _;have e0:=q0.c0;have e1:=q0.c1;have e2:=q0.c2;have e3:=q0.c3;have HG:=Ab hG;clear hG q0 q5 q4
 go_enter func162,ntmps162
 go_wp2_with (fail);refine (Aa HG).mono ?_
 rintro e w' ⟨rfl,hb⟩;have HB:=Ab (GQ hb);clear hb
 go_wp2_with (fail);exact CL (CR rfl _ _ _) rfl ⟨rfl,Aa HB⟩
theorem LN{y:Addr}(q5:VB w pb pk pn ps psl pmv)(hk:(pk != 0)=false)(hG:BY AS 159 #[plV (.slice pa pl pc) b key i] (plW w pa pl pc b key i) fun e w'=>e=.returned (.pointer (some y))/\AT (w.heap.size+1) (plW w pa pl pc b key i) w')(hR:∀w2,AT w.heap.size w w2->BY AS 199 #[.pointer (some ⟨D,0,none⟩),plV (.slice pa pl pc) b key i] w2 fun e w'=>e=.returned (.tuple #[])/\Q w'):
  BY AS 162 #[.pointer (some ⟨D,0,none⟩),plV (.slice pa pl pc) b key i,.pointer (some ⟨pb,0,none⟩)] w fun e w'=>e=.returned (.tuple #[])/\Q w':=by
 have q6:AT w.heap.size w (plW w pa pl pc b key i):=CK;have qk:=(q5.kept (q6.block pb q5.lt)).c0;have q0:AJ (plW w pa pl pc b key i) w.heap.size (.slice pa pl pc) b key i:=A6 w _;have q7:=Ab q0;have q9:(plW w pa pl pc b key i).heap.size=w.heap.size+1:=by simp
 have e0:=q0.c0;have e1:=q0.c1;have e2:=q0.c2;have e3:=q0.c3;have HG:=Ab hG;have HR:=Ab hR;clear hG q0 q6 q5 hR
 go_enter func162,ntmps162
 go_wp2_with (fail);refine (Aa HG).mono ?_
 rintro e w' ⟨rfl,hb⟩;have q4:AJ w' w.heap.size (.slice pa pl pc) b key i:=(hb.block _ (by omega)).trans (Aa q7);have f0:=q4.c0;have f1:=q4.c1;have f2:=q4.c2;have f3:=q4.c3;have HB:=Ab (GQ hb);have q8:=Ab (Aa HR _ (Aa HB));clear hb q4 HR
 go_wp2_with (fail);refine (Aa q8).mono ?_
 rintro e w4 ⟨rfl,hQ⟩
 go_wp2_with (fail);exact CL (CR rfl _ _ _) rfl ⟨rfl,hQ⟩
end
theorem T9{f:Nat}{w:A4}{b:Nat}(h:Rep (f+1) F w (.pointer (some ⟨b,0,none⟩)) (.map es)):∃n s sl m k D,VB w b 6 n s sl (.map (some m))/\F b/\F m/\w.ownsMap AS 9 RV m k (.map D)/\Pt (Rep f F w) D es:=by
 obtain⟨b',e,hF,h⟩:=h;injection e with e;injection e with e;injection e with e;subst e;rcases h with⟨k,_,e,_⟩|⟨n,e,_⟩|⟨s,e,_⟩|⟨es',sl,ps,e,_⟩|⟨es',m,n,D,e,hv,hm,ho,hp⟩
 ·cases e
 ·cases e
 ·cases e
 ·cases e
 ·injection e with e;subst e;exact⟨_,_,_,m,n,D,hv,hF,hm,ho,hp⟩
theorem Rb{f m:Nat}{w:A4}{D:List (Lit×DataW C1)}(ho:w.ownsMap AS 9 RV m n (.map D))(hp:Pt (Rep f F w) D es){k:By}(hk:k∈Zz es):A0 (.map es) k=some ((F5 es).atKey (.string k) .nil):=by
 have h:=(Rw ho hp hk).1;rw[hp.has (.string k)] at h;exact if_pos h
section
variable{w:A4}{D b i pb:Nat}{key:By}{pa:Option Addr}{pl pc y:Nat}{yn:Nm}{ys:By}{ysl ymv:C1}
theorem Qx{f:Nat}{path:List By}{G:Nat->Prop}{MI:A4->Nat->A4->Prop}(hG:BY AS 159 #[plV (.slice pa pl pc) b key i] (plW w pa pl pc b key i) fun e w'=>e=.returned (.pointer (some ⟨y,0,none⟩))/\AT (w.heap.size+1) (plW w pa pl pc b key i) w')(hy:VB w y 6 yn ys ysl ymv)(hF:∀k,F k->k<w.heap.size)(qz:Rep (f+1) F w (.pointer (some ⟨pb,0,none⟩)) (.map es))(zg:es.length<=1000000000)(qo:∀k∈Zz es,k.length<=1048576)(qv:Au w G (.slice pa pl pc) path)(yj:path.length<=100000000)(zj:path=[] -> ∃c,(F2 pa pl pc)=.slice none 0 c)(h0:∀w3,AT w.heap.size w w3->MI w3 0 w3)(qq:∀w3 t wr,AT w.heap.size w w3->MI w3 t wr->(w3.heap.size<=wr.heap.size /\ ∀k,(F k\/G k\/w.heap.size<=k)->k<w3.heap.size->wr.heap[k]? = w3.heap[k]?))(qw:∀w3 t (ht:t<(Zz es).length) wr w1 xv vb,AT w.heap.size w w3->MI w3 t wr->AT wr.heap.size wr w1->(∃xa xl xc,xv=.slice xa xl xc)->Au w1 (fun k=>wr.heap.size<=k) xv (path++[(Zz es)[t]])->Rep f F wr (.pointer (some ⟨vb,0,none⟩)) ((F5 es).atKey (.string (Zz es)[t]) .nil) ->
   BY AS 162 #[.pointer (some ⟨D,0,none⟩),.agg #[xv,.pointer (some ⟨y,0,none⟩),.string ⟨((Zz es)[t]).toArray⟩,.int .i64 0],.pointer (some ⟨vb,0,none⟩)] w1 fun e w'=>e=.returned (.tuple #[])/\MI w3 (t+1) w'):
  BY AS 120 #[.pointer (some ⟨D,0,none⟩),plV (.slice pa pl pc) b key i,.pointer (some ⟨pb,0,none⟩)] w fun e w'=>e=.returned (.tuple #[]) /\ ∃w3,AT w.heap.size w w3/\MI w3 (Zz es).length w':=by
 obtain⟨pn,ps,psl,m,n,Dp,yk,yi,hm,ho,hp⟩:=T9 qz;have zt:=Ab qz;have HG:=Ab hG;have zm:=A6 w (.cells #[.slice pa pl pc,.pointer (some ⟨b,0,none⟩),.string ⟨key.toArray⟩,.int .i64 i] 185);have y9:=Ab (show AJ (plW w pa pl pc b key i) w.heap.size (.slice pa pl pc) b key i from zm);have zk:AT w.heap.size w (plW w pa pl pc b key i):=CK;have z1:=Ab zk;have j9:(plW w pa pl pc b key i).heap.size=w.heap.size+1:=by simp
 have ya:=Ab yk;have HY:=Ab hy;have jc:=Ab hF;have jb:=Ab yi;have yu:=Ab hp;have HO:=Ab ho;have HM:=Ab hm;have zb:=Ab qv;have zs:=Ab yj;have zr:=Ab zj;have H0:=Ab h0;have HK:=Ab qq;have HS:=Ab qw;have za:=Ab zg;have yq:=Ab qo;have y5:=Ab hp.len;have z8:=Ab hp.keys;clear hG zm zk hy hF yi hp ho hm qv yj zj h0 qq qw zg yk qz qo
 go_enter func120,ntmps120
 go_wp2_with (fail);refine (Aa HG).mono ?_
 rintro e w2 ⟨rfl,hb⟩;have hb2:AT w.heap.size w w2:=⟨hb.os.trans (Aa z1).os,hb.tape.trans (Aa z1).tape,hb.output.trans (Aa z1).output,CH (Aa z1).size hb.size,fun k hk=>(hb.block k (by omega)).trans ((Aa z1).block k hk)⟩
 have yh:AJ w2 w.heap.size (.slice pa pl pc) b key i:=(hb.block _ (by omega)).trans (Aa y9);have y8:=Ab yh;have y4:=Ab hb2;have y3:=(Aa ya).kept (hb2.block pb (Aa ya).lt);have q0:=y3.c0;have q6:=y3.c6;have y0:=((Aa HY).kept (hb2.block y (Aa HY).lt)).c0;have yr:=Ab (Aj (Aa HO) (hb2.block m (A7 (Aa HO))));clear hb hb2 yh HG y9 z1 j9 y3
 go_wp2_with (fail);refine (callsIn_wide.1 (Tryz.maps_Keys_141 (some m) w2)).mono ?_
 rintro e jh ⟨rfl,rfl⟩
 go_wp2_with (fail);refine (callsIn_wide.1 (Tryz.slices_Sorted_keys_140_141 m n (.map Dp) RV w2 (Aa yr) (by have:=Aa y5;have:=Aa za;rw[Ft];unfold E0;omega) (by have:=Aa y5;have:=Aa za;rw[Ft];omega))).mono ?_
 rintro e w3 ⟨v,ss,rfl,qn,zl,qu,hb3⟩;have hsa:(w2.alloc (.cells #[.map (some m)] 109)).heap.size=w2.heap.size+1:=by simp
 have qj:AT w2.heap.size w2 w3:=((D0 _ w2).alloc (A5 _) _).trans (hb3.mono (by simp));have qk:AT w.heap.size w w3:=(Aa y4).trans (qj.mono (Aa y4).size);have zn:ss.mergeSort (fun x y=>decide (x<=y))=Zz es:=by
  rw[mergeSort_of_perm qn,Aa z8];rfl
 have qp:ss.length=(Zz es).length:=by rw[<- zn,List.length_mergeSort]
 rw[zn] at zl;have zh:w.heap.size<w2.heap.size:=(A1.1 (Aa y8)).1;have zz:AJ w3 w.heap.size (.slice pa pl pc) b key i:=(qj.block _ zh).trans (Aa y8);have yt:=Ab zz;have zq:=Ab qj;have qh:=Ab qk;rcases zl with⟨yl,⟨rfl,j8⟩|⟨g,cap,cur,rfl,hg,zv,qt,zu,j3,htk⟩⟩
 ·have z7:(Zz es).length=0:=by omega
  have qx:=Ab (show MI w3 (Zz es).length w3 by rw[z7];exact Aa H0 w3 qk);clear zn yl j8 qu qn hb3 qj qk z7 qp zz HK HS H0
  go_wp2_with (fail);refine wp_loop_rounds 1 ?_
  rw[rounds_succ]
  go_wp2_with (fail);exact CL (CR rfl _ _ _) rfl ⟨rfl,w3,Aa qh,Aa qx⟩
 ·have yf:SR w3 g (Zz es).length (Zz es):=⟨cur,zv,by rw[<- htk,qp];simp⟩
  have j4:g<w3.heap.size:=(A1.1 zv).1;have j5:w.heap.size<=g:=by omega
  rw[qp] at qt |-;have yb:=Ab yf;obtain⟨ks,z7⟩:∃ks,ks=Zz es:=⟨_,rfl⟩
  have y6:=Ab z7;have yo:=Ab (Aa H0 w3 qk);clear zn yl qu qn hb3 qj qk zv htk j3 qp zz H0 yf;rw[<- z7] at HS yb qt |-;have je:(ks.length:Int)<=9223372036854775807:=by unfold E0 at zu;omega
  clear z7
  go_wp2_with (fail)
  go_loopw [39] (fun i wr=>∃t:Nat,t<=ks.length/\i=.int .i64 t/\Hid (MI w3 t wr)) (fun i _=>ks.length-(intOf i).toNat)
  case atStart=>exact⟨0,by omega,rfl,yo⟩
  case round=>
   obtain⟨t,ht,rfl,HI⟩:=hrel;by_cases hlt:t<ks.length
   ·obtain⟨ja,zf⟩:=Aa HK w3 t wr (Aa qh) (Aa HI);have ze:=Aa yb;have ck:wr.cell? ⟨g,t,none⟩=some (.string ⟨ks[t].toArray⟩):=(World.cell?_of_block (a:=⟨g,t,none⟩) (zf g (DD (DD j5)) j4)).trans (ze.cell t hlt);have hpr:AJ wr w.heap.size (.slice pa pl pc) b key i:=(zf w.heap.size (DD (DD (A5 _))) (Bs zh (Aa zq).size)).trans (Aa yt);have ym:Rep (f+1) F wr (.pointer (some ⟨pb,0,none⟩)) (.map es):=(Aa zt).move fun k hk qo=>⟨(zf k (F1 hk) (Bs qo (Aa qh).size)).trans ((Aa qh).block k qo),hk⟩
    have qm:Au wr G (.slice pa pl pc) path:=(Aa zb).move fun k hk qo=>⟨(zf k (DD (F1 hk)) (Bs qo (Aa qh).size)).trans ((Aa qh).block k qo),hk⟩
    obtain⟨jf,rn,rx,rs,jg,mv,qy,rv,zi⟩:=Mz ym;injection qy with qy;injection qy with qy;injection qy with qy;subst qy;have zx:ks[t]∈Zz es:=by rw[<- Aa y6];exact List.getElem_mem hlt
    have zw:ks[t].length<=1048576:=Aa yq _ zx;obtain⟨yv,zo,qr⟩:=zi ks[t] zw;rw[Rb (Aa HO) (Aa yu) zx] at zo;obtain⟨vb,rfl,_⟩:=Rep.ptr zo;obtain⟨kt,yg⟩:∃kt,kt=ks[t]:=⟨_,rfl⟩
    have yc:=Ab (fun w1 xv h1 h2 h3=>Aa HS w3 t hlt wr w1 xv vb (Aa qh) (Aa HI) h1 h2 h3 zo);have yd:=Ab (fun w1 (h:AT wr.heap.size wr w1)=>Ik (t:=ks[t]) (qm.move fun k hk qo=>⟨h.block k qo,hk⟩) (Aa zs) (Aa zr));have y7:=Ab (fun w1 (h:AT wr.heap.size wr w1)=>(qr w1 h).2);rw[<- yg] at ck yc yd y7;have p0:=hpr.c0;have r6:=rv.c6;have zy:(t:Int)<(ks.length:Int):=by omega
    have j7:(t:Int)<(cap:Int):=by omega
    have zm:w.heap.size<wr.heap.size:=(A1.1 hpr).1;have yz:pb<wr.heap.size:=rv.lt;clear zx zi qr zo qm ym zf ze ja rv yg hpr
    go_upto_region 7 with (fail)
    refine wp_region_any (by kernel_rfl) ?_;refine Jo (fun lJ aJ wJ=>lJ.size=15/\(lJ.getD 14 false=false->AT (wr).heap.size wr wJ) /\ ∃x43 x44 x45 x46 x47 x48 x49 x50 x51 x52 x53 x54 x55 x56 x57,aJ={ tmps:=#[.pointer (some ⟨D,0,none⟩),plV (.slice pa pl pc) b key i,.pointer (some ⟨pb,0,none⟩),D3,.pointer (some ⟨w.heap.size,0,none⟩),D3,.pointer (some ⟨y,0,none⟩),D3,.string ⟨kt.toArray⟩,.agg #[.slice pa pl pc,.pointer (some ⟨b,0,none⟩),.string ⟨key.toArray⟩,.int .i64 i],.pointer (some ⟨y,0,none⟩),.pointer (some ⟨y,0,none⟩),.bool false,.bool false,.pointer (some ⟨y,0,none⟩),.pointer (some ⟨y,0,none⟩),.pointer (some ⟨y,0,none⟩),.int .i64 6,.bool false,.bool false,.bool false,.pointer (some ⟨pb,0,none⟩),.pointer (some ⟨pb,0,none⟩),.pointer (some ⟨pb,0,none⟩),.int .i64 6,.bool false,.bool false,D3,D3,D3,D3,D3,.pointer (some ⟨pb,0,none⟩),.pointer (some ⟨pb,0,none⟩),.pointer (some ⟨pb,6,none⟩),.map (some m),.func (.func 188) #[] #[.pointer (some ⟨w2.heap.size,0,none⟩)],.slice (some ⟨g,0,none⟩) ks.length cap,.int .i64 ks.length,.int .i64 t,.bool true,.pointer (some ⟨g,t,none⟩),.string ⟨kt.toArray⟩,x43,x44,x45,x46,x47,x48,x49,x50,x51,x52,x53,x54,x55,x56,x57,u58],defers:=[] }/\(lJ.getD 0 false=true->x43=.pointer (some ⟨D,0,none⟩))/\(lJ.getD 1 false=true->x44=.pointer (some ⟨w.heap.size,0,none⟩))/\(lJ.getD 2 false=true->x45=.slice pa pl pc)/\(lJ.getD 3 false=true->x46=.string ⟨kt.toArray⟩)/\(lJ.getD 4 false=true->lJ.getD 14 false=false->(fun w x=>(∃xa xl xc,x=.slice xa xl xc)/\Au w (fun k=>wr.heap.size<=k) x (path++[kt])) wJ x47)/\(lJ.getD 5 false=true->x48=.pointer (some ⟨y,0,none⟩))/\(lJ.getD 6 false=true->x49=.string ⟨kt.toArray⟩)/\(lJ.getD 7 false=true->x50=.agg #[x47,.pointer (some ⟨y,0,none⟩),.string ⟨kt.toArray⟩,.int .i64 0])/\(lJ.getD 8 false=true->x51=.pointer (some ⟨pb,0,none⟩))/\(lJ.getD 9 false=true->x52=.pointer (some ⟨pb,0,none⟩))/\(lJ.getD 10 false=true->x53=.pointer (some ⟨pb,6,none⟩))/\(lJ.getD 11 false=true->x54=mv)/\(lJ.getD 12 false=true->x55=.string ⟨kt.toArray⟩)/\(lJ.getD 13 false=true->x56=.pointer (some ⟨vb,0,none⟩))/\(lJ.getD 14 false=true->(fun w _=>Hid (MI w3 (t+1) w)) wJ x57)) ?hs ?he _ _ _ ?h0
    case h0=>
     refine⟨rfl,fun _=>⟨rfl,rfl,rfl,A5 _,fun _ _=>rfl⟩,_,_,_,_,_,_,_,_,_,_,_,_,_,_,_,rfl,?_⟩;refine⟨?_,?_,?_,?_,?_,?_,?_,?_,?_,?_,?_,?_,?_,?_,?_⟩<;>(intro h;exact absurd h (by decide))
    case he=>
     intro l a w1 hJ hr;have q7:=D5 hJ.1 (by kernel_rfl) hr;obtain⟨hsz,q5,x43,x44,x45,x46,x47,x48,x49,x50,x51,x52,x53,x54,x55,x56,x57,rfl,e0,e1,e2,e3,e4,e5,e6,e7,e8,e9,qd,qe,qf,qg,qi⟩:=hJ;have f0:=e0 (q7 0 (by decide));have f1:=e1 (q7 1 (by decide));have f2:=e2 (q7 2 (by decide));have f3:=e3 (q7 3 (by decide));have f4:=e4 (q7 4 (by decide));have f5:=e5 (q7 5 (by decide));have f6:=e6 (q7 6 (by decide));have f7:=e7 (q7 7 (by decide));have f8:=e8 (q7 8 (by decide));have f9:=e9 (q7 9 (by decide));have f10:=qd (q7 10 (by decide));have f11:=qe (q7 11 (by decide));have yx:=qf (q7 12 (by decide));have yy:=qg (q7 13 (by decide));have ye:=qi (q7 14 (by decide));clear e0 e1 e2 e3 e4 e5 e6 e7 e8 e9 qd qe qf qg qi q7 hr;clear f0 f1 f2 f3 f4 f5 f6 f7 f8 f9 f10 f11 yx yy;have yp:=ye;clear ye
     go_wp2_with (fail);exact⟨⟨t+1,by omega,by go_num,yp⟩,by simp[intOf];omega⟩
    case hs=>
     intro l a w1 q8 hJ i hi;obtain⟨hno,q9⟩:=BC hi;have j6:i<15:=by
      obtain⟨_,o,ho,_⟩:=mem_ready.1 hi;exact (A1.1 ho).1
     obtain⟨hsz,q5,x43,x44,x45,x46,x47,x48,x49,x50,x51,x52,x53,x54,x55,x56,x57,rfl,e0,e1,e2,e3,e4,e5,e6,e7,e8,e9,qd,qe,qf,qg,qi⟩:=hJ;clear hi;have zc:i=0\/i=1\/i=2\/i=3\/i=4\/i=5\/i=6\/i=7\/i=8\/i=9\/i=10\/i=11\/i=12\/i=13\/i=14:=by omega
     rcases zc with rfl|rfl|rfl|rfl|rfl|rfl|rfl|rfl|rfl|rfl|rfl|rfl|rfl|rfl|rfl
     ·have qb:l.getD 0 false=false:=by simpa[A2,hsz] using hno
      have hnl:l.getD 14 false=false:=by
       cases h:l.getD 14 false
       ·rfl
       ·have h0:=q8 14 _ rfl h ⟨0,.data⟩ (by simp) rfl;exact absurd h0 (by rw[qb];decide)
      have hb:=q5 hnl;refine A3 rfl fun K hK=>?_
      go_simp;exact hK _ _ ⟨by simp[hsz],fun h=>q5 ((AI _ (by decide)).symm.trans h),_,_,_,_,_,_,_,_,_,_,_,_,_,_,_,rfl,fun _=>rfl,Ac (by decide) e1,Ac (by decide) e2,Ac (by decide) e3,fun h h'=>e4 ((AI _ (by decide)).symm.trans h) ((AI _ (by decide)).symm.trans h'),Ac (by decide) e5,Ac (by decide) e6,Ac (by decide) e7,Ac (by decide) e8,Ac (by decide) e9,Ac (by decide) qd,Ac (by decide) qe,Ac (by decide) qf,Ac (by decide) qg,Ac (by decide) qi⟩
     ·have qb:l.getD 1 false=false:=by simpa[A2,hsz] using hno
      have hnl:l.getD 14 false=false:=by
       cases h:l.getD 14 false
       ·rfl
       ·have h0:=q8 14 _ rfl h ⟨4,.chain⟩ (by simp) rfl;have h1:=q8 4 _ rfl h0 ⟨2,.data⟩ (by simp) rfl;have h2:=q8 2 _ rfl h1 ⟨1,.data⟩ (by simp) rfl;exact absurd h2 (by rw[qb];decide)
      have hb:=q5 hnl;refine A3 rfl fun K hK=>?_
      go_simp;exact hK _ _ ⟨by simp[hsz],fun h=>q5 ((AI _ (by decide)).symm.trans h),_,_,_,_,_,_,_,_,_,_,_,_,_,_,_,rfl,Ac (by decide) e0,fun _=>rfl,Ac (by decide) e2,Ac (by decide) e3,fun h h'=>e4 ((AI _ (by decide)).symm.trans h) ((AI _ (by decide)).symm.trans h'),Ac (by decide) e5,Ac (by decide) e6,Ac (by decide) e7,Ac (by decide) e8,Ac (by decide) e9,Ac (by decide) qd,Ac (by decide) qe,Ac (by decide) qf,Ac (by decide) qg,Ac (by decide) qi⟩
     ·have qb:l.getD 2 false=false:=by simpa[A2,hsz] using hno
      have hnl:l.getD 14 false=false:=by
       cases h:l.getD 14 false
       ·rfl
       ·have h0:=q8 14 _ rfl h ⟨4,.chain⟩ (by simp) rfl;have h1:=q8 4 _ rfl h0 ⟨2,.data⟩ (by simp) rfl;exact absurd h1 (by rw[qb];decide)
      obtain rfl:=e1 (q9 _ rfl ⟨1,.data⟩ (by simp) rfl);have hb:=q5 hnl;have z:=(hb.cell (p:=⟨w.heap.size,0,none⟩) zm).trans p0;refine A3 rfl fun K hK=>?_
      go_simp;exact hK _ _ ⟨by simp[hsz],fun h=>q5 ((AI _ (by decide)).symm.trans h),_,_,_,_,_,_,_,_,_,_,_,_,_,_,_,rfl,Ac (by decide) e0,Ac (by decide) e1,fun _=>rfl,Ac (by decide) e3,fun h h'=>e4 ((AI _ (by decide)).symm.trans h) ((AI _ (by decide)).symm.trans h'),Ac (by decide) e5,Ac (by decide) e6,Ac (by decide) e7,Ac (by decide) e8,Ac (by decide) e9,Ac (by decide) qd,Ac (by decide) qe,Ac (by decide) qf,Ac (by decide) qg,Ac (by decide) qi⟩
     ·have qb:l.getD 3 false=false:=by simpa[A2,hsz] using hno
      have hnl:l.getD 14 false=false:=by
       cases h:l.getD 14 false
       ·rfl
       ·have h0:=q8 14 _ rfl h ⟨4,.chain⟩ (by simp) rfl;have h1:=q8 4 _ rfl h0 ⟨3,.data⟩ (by simp) rfl;exact absurd h1 (by rw[qb];decide)
      have hb:=q5 hnl;refine A3 rfl fun K hK=>?_
      go_simp;exact hK _ _ ⟨by simp[hsz],fun h=>q5 ((AI _ (by decide)).symm.trans h),_,_,_,_,_,_,_,_,_,_,_,_,_,_,_,rfl,Ac (by decide) e0,Ac (by decide) e1,Ac (by decide) e2,fun _=>rfl,fun h h'=>e4 ((AI _ (by decide)).symm.trans h) ((AI _ (by decide)).symm.trans h'),Ac (by decide) e5,Ac (by decide) e6,Ac (by decide) e7,Ac (by decide) e8,Ac (by decide) e9,Ac (by decide) qd,Ac (by decide) qe,Ac (by decide) qf,Ac (by decide) qg,Ac (by decide) qi⟩
     ·have qb:l.getD 4 false=false:=by simpa[A2,hsz] using hno
      have hnl:l.getD 14 false=false:=by
       cases h:l.getD 14 false
       ·rfl
       ·have h0:=q8 14 _ rfl h ⟨4,.chain⟩ (by simp) rfl;exact absurd h0 (by rw[qb];decide)
      obtain rfl:=e2 (q9 _ rfl ⟨2,.data⟩ (by simp) rfl);obtain rfl:=e3 (q9 _ rfl ⟨3,.data⟩ (by simp) rfl);have hb:=q5 hnl;refine A3 rfl fun K hK=>?_
      go_simp;refine (Aa yd w1 hb).mono ?_
      rintro e wn ⟨g',yw,rfl,jd,htk,hb2⟩;show K _ _;exact hK _ _ ⟨by simp[hsz],fun _=>hb.trans (hb2.mono hb.size),_,_,_,_,_,_,_,_,_,_,_,_,_,_,_,rfl,Ac (by decide) e0,Ac (by decide) e1,Ac (by decide) e2,Ac (by decide) e3,fun _=>fun _=>⟨⟨_,_,_,rfl⟩,htk.move fun k hk _=>⟨rfl,CH hb.size hk⟩⟩,Ac (by decide) e5,Ac (by decide) e6,fun h=>absurd (q8 7 _ rfl ((AI _ (by decide)).symm.trans h) ⟨4,.data⟩ (by simp) rfl) (by rw[qb];decide),Ac (by decide) e8,Ac (by decide) e9,Ac (by decide) qd,Ac (by decide) qe,Ac (by decide) qf,Ac (by decide) qg,fun h=>absurd ((AI _ (by decide)).symm.trans h) (by rw[hnl];decide)⟩
     ·have qb:l.getD 5 false=false:=by simpa[A2,hsz] using hno
      have hnl:l.getD 14 false=false:=by
       cases h:l.getD 14 false
       ·rfl
       ·have h0:=q8 14 _ rfl h ⟨7,.data⟩ (by simp) rfl;have h1:=q8 7 _ rfl h0 ⟨5,.data⟩ (by simp) rfl;exact absurd h1 (by rw[qb];decide)
      have hb:=q5 hnl;refine A3 rfl fun K hK=>?_
      go_simp;exact hK _ _ ⟨by simp[hsz],fun h=>q5 ((AI _ (by decide)).symm.trans h),_,_,_,_,_,_,_,_,_,_,_,_,_,_,_,rfl,Ac (by decide) e0,Ac (by decide) e1,Ac (by decide) e2,Ac (by decide) e3,fun h h'=>e4 ((AI _ (by decide)).symm.trans h) ((AI _ (by decide)).symm.trans h'),fun _=>rfl,Ac (by decide) e6,Ac (by decide) e7,Ac (by decide) e8,Ac (by decide) e9,Ac (by decide) qd,Ac (by decide) qe,Ac (by decide) qf,Ac (by decide) qg,Ac (by decide) qi⟩
     ·have qb:l.getD 6 false=false:=by simpa[A2,hsz] using hno
      have hnl:l.getD 14 false=false:=by
       cases h:l.getD 14 false
       ·rfl
       ·have h0:=q8 14 _ rfl h ⟨7,.data⟩ (by simp) rfl;have h1:=q8 7 _ rfl h0 ⟨6,.data⟩ (by simp) rfl;exact absurd h1 (by rw[qb];decide)
      have hb:=q5 hnl;refine A3 rfl fun K hK=>?_
      go_simp;exact hK _ _ ⟨by simp[hsz],fun h=>q5 ((AI _ (by decide)).symm.trans h),_,_,_,_,_,_,_,_,_,_,_,_,_,_,_,rfl,Ac (by decide) e0,Ac (by decide) e1,Ac (by decide) e2,Ac (by decide) e3,fun h h'=>e4 ((AI _ (by decide)).symm.trans h) ((AI _ (by decide)).symm.trans h'),Ac (by decide) e5,fun _=>rfl,Ac (by decide) e7,Ac (by decide) e8,Ac (by decide) e9,Ac (by decide) qd,Ac (by decide) qe,Ac (by decide) qf,Ac (by decide) qg,Ac (by decide) qi⟩
     ·have qb:l.getD 7 false=false:=by simpa[A2,hsz] using hno
      have hnl:l.getD 14 false=false:=by
       cases h:l.getD 14 false
       ·rfl
       ·have h0:=q8 14 _ rfl h ⟨7,.data⟩ (by simp) rfl;exact absurd h0 (by rw[qb];decide)
      have q4:=e4 (q9 _ rfl ⟨4,.data⟩ (by simp) rfl) hnl;obtain rfl:=e5 (q9 _ rfl ⟨5,.data⟩ (by simp) rfl);obtain rfl:=e6 (q9 _ rfl ⟨6,.data⟩ (by simp) rfl);have hb:=q5 hnl;obtain⟨⟨xa,xl,xc,rfl⟩,htk⟩:=q4;refine A3 rfl fun K hK=>?_
      go_simp;exact hK _ _ ⟨by simp[hsz],fun h=>q5 ((AI _ (by decide)).symm.trans h),_,_,_,_,_,_,_,_,_,_,_,_,_,_,_,rfl,Ac (by decide) e0,Ac (by decide) e1,Ac (by decide) e2,Ac (by decide) e3,fun h h'=>e4 ((AI _ (by decide)).symm.trans h) ((AI _ (by decide)).symm.trans h'),Ac (by decide) e5,Ac (by decide) e6,fun _=>rfl,Ac (by decide) e8,Ac (by decide) e9,Ac (by decide) qd,Ac (by decide) qe,Ac (by decide) qf,Ac (by decide) qg,Ac (by decide) qi⟩
     ·have qb:l.getD 8 false=false:=by simpa[A2,hsz] using hno
      have hnl:l.getD 14 false=false:=by
       cases h:l.getD 14 false
       ·rfl
       ·have h0:=q8 14 _ rfl h ⟨13,.data⟩ (by simp) rfl;have h1:=q8 13 _ rfl h0 ⟨11,.data⟩ (by simp) rfl;have h2:=q8 11 _ rfl h1 ⟨10,.data⟩ (by simp) rfl;have h3:=q8 10 _ rfl h2 ⟨9,.data⟩ (by simp) rfl;have h4:=q8 9 _ rfl h3 ⟨8,.data⟩ (by simp) rfl;exact absurd h4 (by rw[qb];decide)
      have hb:=q5 hnl;refine A3 rfl fun K hK=>?_
      go_simp;exact hK _ _ ⟨by simp[hsz],fun h=>q5 ((AI _ (by decide)).symm.trans h),_,_,_,_,_,_,_,_,_,_,_,_,_,_,_,rfl,Ac (by decide) e0,Ac (by decide) e1,Ac (by decide) e2,Ac (by decide) e3,fun h h'=>e4 ((AI _ (by decide)).symm.trans h) ((AI _ (by decide)).symm.trans h'),Ac (by decide) e5,Ac (by decide) e6,Ac (by decide) e7,fun _=>rfl,Ac (by decide) e9,Ac (by decide) qd,Ac (by decide) qe,Ac (by decide) qf,Ac (by decide) qg,Ac (by decide) qi⟩
     ·have qb:l.getD 9 false=false:=by simpa[A2,hsz] using hno
      have hnl:l.getD 14 false=false:=by
       cases h:l.getD 14 false
       ·rfl
       ·have h0:=q8 14 _ rfl h ⟨13,.data⟩ (by simp) rfl;have h1:=q8 13 _ rfl h0 ⟨11,.data⟩ (by simp) rfl;have h2:=q8 11 _ rfl h1 ⟨10,.data⟩ (by simp) rfl;have h3:=q8 10 _ rfl h2 ⟨9,.data⟩ (by simp) rfl;exact absurd h3 (by rw[qb];decide)
      obtain rfl:=e8 (q9 _ rfl ⟨8,.data⟩ (by simp) rfl);have hb:=q5 hnl;refine A3 rfl fun K hK=>?_
      go_simp;exact hK _ _ ⟨by simp[hsz],fun h=>q5 ((AI _ (by decide)).symm.trans h),_,_,_,_,_,_,_,_,_,_,_,_,_,_,_,rfl,Ac (by decide) e0,Ac (by decide) e1,Ac (by decide) e2,Ac (by decide) e3,fun h h'=>e4 ((AI _ (by decide)).symm.trans h) ((AI _ (by decide)).symm.trans h'),Ac (by decide) e5,Ac (by decide) e6,Ac (by decide) e7,Ac (by decide) e8,fun _=>rfl,Ac (by decide) qd,Ac (by decide) qe,Ac (by decide) qf,Ac (by decide) qg,Ac (by decide) qi⟩
     ·have qb:l.getD 10 false=false:=by simpa[A2,hsz] using hno
      have hnl:l.getD 14 false=false:=by
       cases h:l.getD 14 false
       ·rfl
       ·have h0:=q8 14 _ rfl h ⟨13,.data⟩ (by simp) rfl;have h1:=q8 13 _ rfl h0 ⟨11,.data⟩ (by simp) rfl;have h2:=q8 11 _ rfl h1 ⟨10,.data⟩ (by simp) rfl;exact absurd h2 (by rw[qb];decide)
      obtain rfl:=e9 (q9 _ rfl ⟨9,.data⟩ (by simp) rfl);have hb:=q5 hnl;refine A3 rfl fun K hK=>?_
      go_simp;exact hK _ _ ⟨by simp[hsz],fun h=>q5 ((AI _ (by decide)).symm.trans h),_,_,_,_,_,_,_,_,_,_,_,_,_,_,_,rfl,Ac (by decide) e0,Ac (by decide) e1,Ac (by decide) e2,Ac (by decide) e3,fun h h'=>e4 ((AI _ (by decide)).symm.trans h) ((AI _ (by decide)).symm.trans h'),Ac (by decide) e5,Ac (by decide) e6,Ac (by decide) e7,Ac (by decide) e8,Ac (by decide) e9,fun _=>rfl,Ac (by decide) qe,Ac (by decide) qf,Ac (by decide) qg,Ac (by decide) qi⟩
     ·have qb:l.getD 11 false=false:=by simpa[A2,hsz] using hno
      have hnl:l.getD 14 false=false:=by
       cases h:l.getD 14 false
       ·rfl
       ·have h0:=q8 14 _ rfl h ⟨13,.data⟩ (by simp) rfl;have h1:=q8 13 _ rfl h0 ⟨11,.data⟩ (by simp) rfl;exact absurd h1 (by rw[qb];decide)
      obtain rfl:=qd (q9 _ rfl ⟨10,.data⟩ (by simp) rfl);have hb:=q5 hnl;have z6:=(hb.cell (p:=⟨pb,6,none⟩) yz).trans r6;refine A3 rfl fun K hK=>?_
      go_simp;exact hK _ _ ⟨by simp[hsz],fun h=>q5 ((AI _ (by decide)).symm.trans h),_,_,_,_,_,_,_,_,_,_,_,_,_,_,_,rfl,Ac (by decide) e0,Ac (by decide) e1,Ac (by decide) e2,Ac (by decide) e3,fun h h'=>e4 ((AI _ (by decide)).symm.trans h) ((AI _ (by decide)).symm.trans h'),Ac (by decide) e5,Ac (by decide) e6,Ac (by decide) e7,Ac (by decide) e8,Ac (by decide) e9,Ac (by decide) qd,fun _=>rfl,Ac (by decide) qf,Ac (by decide) qg,Ac (by decide) qi⟩
     ·have qb:l.getD 12 false=false:=by simpa[A2,hsz] using hno
      have hnl:l.getD 14 false=false:=by
       cases h:l.getD 14 false
       ·rfl
       ·have h0:=q8 14 _ rfl h ⟨13,.data⟩ (by simp) rfl;have h1:=q8 13 _ rfl h0 ⟨12,.data⟩ (by simp) rfl;exact absurd h1 (by rw[qb];decide)
      have hb:=q5 hnl;refine A3 rfl fun K hK=>?_
      go_simp;exact hK _ _ ⟨by simp[hsz],fun h=>q5 ((AI _ (by decide)).symm.trans h),_,_,_,_,_,_,_,_,_,_,_,_,_,_,_,rfl,Ac (by decide) e0,Ac (by decide) e1,Ac (by decide) e2,Ac (by decide) e3,fun h h'=>e4 ((AI _ (by decide)).symm.trans h) ((AI _ (by decide)).symm.trans h'),Ac (by decide) e5,Ac (by decide) e6,Ac (by decide) e7,Ac (by decide) e8,Ac (by decide) e9,Ac (by decide) qd,Ac (by decide) qe,fun _=>rfl,Ac (by decide) qg,Ac (by decide) qi⟩
     ·have qb:l.getD 13 false=false:=by simpa[A2,hsz] using hno
      have hnl:l.getD 14 false=false:=by
       cases h:l.getD 14 false
       ·rfl
       ·have h0:=q8 14 _ rfl h ⟨13,.data⟩ (by simp) rfl;exact absurd h0 (by rw[qb];decide)
      obtain rfl:=qe (q9 _ rfl ⟨11,.data⟩ (by simp) rfl);obtain rfl:=qf (q9 _ rfl ⟨12,.data⟩ (by simp) rfl);have hb:=q5 hnl;have hl:=Aa y7 w1 hb;refine A3 rfl fun K hK=>?_
      go_simp;exact hK _ _ ⟨by simp[hsz],fun h=>q5 ((AI _ (by decide)).symm.trans h),_,_,_,_,_,_,_,_,_,_,_,_,_,_,_,rfl,Ac (by decide) e0,Ac (by decide) e1,Ac (by decide) e2,Ac (by decide) e3,fun h h'=>e4 ((AI _ (by decide)).symm.trans h) ((AI _ (by decide)).symm.trans h'),Ac (by decide) e5,Ac (by decide) e6,Ac (by decide) e7,Ac (by decide) e8,Ac (by decide) e9,Ac (by decide) qd,Ac (by decide) qe,Ac (by decide) qf,fun _=>rfl,Ac (by decide) qi⟩
     ·have qb:l.getD 14 false=false:=by simpa[A2,hsz] using hno
      have hnl:=qb;obtain rfl:=e0 (q9 _ rfl ⟨0,.data⟩ (by simp) rfl);obtain rfl:=e7 (q9 _ rfl ⟨7,.data⟩ (by simp) rfl);obtain rfl:=qg (q9 _ rfl ⟨13,.data⟩ (by simp) rfl);have hb:=q5 hnl;have q4:=e4 (q9 _ rfl ⟨4,.chain⟩ (by simp) rfl) hnl;refine A3 rfl fun K hK=>?_
      go_simp;refine (Aa yc w1 x47 hb q4.1 q4.2).mono ?_
      rintro e wn ⟨rfl,hM⟩;show K _ _;exact hK _ _ ⟨by simp[hsz],(fun h=>by rw[Qb hsz 14 (by decide)] at h;cases h),_,_,_,_,_,_,_,_,_,_,_,_,_,_,_,rfl,(Ac (by decide) e0),(Ac (by decide) e1),(Ac (by decide) e2),(Ac (by decide) e3),(fun _ h'=>by rw[Qb hsz 14 (by decide)] at h';cases h'),(Ac (by decide) e5),(Ac (by decide) e6),(Ac (by decide) e7),(Ac (by decide) e8),(Ac (by decide) e9),(Ac (by decide) qd),(Ac (by decide) qe),(Ac (by decide) qf),(Ac (by decide) qg),(fun _=>hM)⟩
   ·obtain rfl:t=ks.length:=by omega
    have zy:¬ ((ks.length:Nat):Int)<((ks.length:Nat):Int):=by omega
    have qx:=Ab (show MI w3 (Zz es).length wr by rw[<- Aa y6];exact Aa HI);clear HK HS
    go_wp2_with (fail);exact CL (CR rfl _ _ _) rfl ⟨rfl,w3,Aa qh,Aa qx⟩
end
def At0(m:Zf)(i:Nat)(key:By)(o:Option Zf):Prop:=match o with
 | some c=>AR m i key c
 | none=>∃b g es,m=Zj b g (.map es) /\ ∀p∈es,p.1≠Lit.string key
def plT(i:Nat)(key:By)(c:Zf)(o:Option Zf)(m:Zf):Zf:=match o with
 | some _=>Br i key c m
 | none=>BI i key c m
theorem VX{i:Nat}{key:By}{c:Zf}{o:Option Zf}{b g:Nat}{es:List (Lit×Zf)}:plT i key c o (Zj b g (.map es))=Zj b g (.map (Zr (.string key) c es)):=by
 cases o with
 | none=>show BI i key c _=_;unfold BI;rw[CG]
 | some _=>show Br i key c _=_;unfold Br;rw[CG]
def QI(L D:Nat)(rv iv:C1)(ch:Bool)(Tb:Zf)(Mb:Nat->Prop)(wb:A4)(p:List Nat)(T m:Zf)(i:Nat)(key:By)(o:Option Zf)(M:Nat->Prop)(js:List Zk)(f:Nat)(path:List By)(pt:To)(w w':A4):Prop:=
 ∃c',BM L D rv iv ch Tb Mb wb (Zs p (plT i key c' o m) T) M (js++(Zp f (o.map (Zi f)) path pt).2) w w'/\Zi f c'=(Zp f (o.map (Zi f)) path pt).1
def Iv(d x:Int)(f:Nat):Prop:=∀ {L:Nat} {p:List Nat} {w:A4} {D i:Nat} {rv jn iv:C1} {ch:Bool} {Tb T m:Zf} {o:Option Zf} {Mb M F:Nat->Prop} {wb:A4} {js:List Zk} {key:By} {pa:Option Addr} {pl pc:Nat} {path:List By} {v:C1} {pt:To} {lv:Int},
 f+1+p.length=L->L<=top+1->Bm L w D rv jn iv ch Tb Mb wb T M js->Zo p T=some m->At0 m i key o->B4 m key->js.length+Zh f pt<=1000000000 ->
 Au w (GA L Tb wb M) (.slice pa pl pc) path->path.length<=p.length->(path=[] -> ∃c,F2 pa pl pc=.slice none 0 c) ->
 Rep f F w v pt->(∀k,F k->M k)->1<=lv->Zl d x f lv pt->Zh f pt<=1000000->(∀c,o=some c->Zl d x f lv (Zi f c)/\Zh f (Zi f c)<=1000000) ->
 BY AS 120 #[.pointer (some ⟨D,0,none⟩),plV (.slice pa pl pc) (Zv m) key i,v] w fun e w'=>e=.returned (.tuple #[])/\QI L D rv iv ch Tb Mb wb p T m i key o M js f path pt w w'
theorem Bm.fresh{w:A4}{D:Nat}{jn:C1}{T:Zf}(h:Bm L w D rv jn iv ch Tb Mb wb T M js){k:Nat}(hk:w.heap.size<=k):¬ M k/\k ∉ fp L T/\k≠D/\jn.ownBlock≠some k/\wb.heap.size<=k:=
 ⟨fun hm=>by have:=(h.low k hm).1;omega,fun hm=>by have:=h.tr.lt k hm;omega,fun e=>by have:=h.dlt;omega,fun e=>by have:=h.jlt k e;omega,CH h.up.1 hk⟩
theorem BM.low{D:Nat}{T1:Zf}{w w1 w':A4}(h:BM L D rv iv ch Tb Mb wb T1 M js w1 w')(hX:JEx M M w w1):BM L D rv iv ch Tb Mb wb T1 M js w w':=by
 obtain⟨q0,T',M',q1,q2,q3⟩:=h;exact⟨q0,T',M',q1,q2,hX.trans q3⟩
section
variable{d x:Int}{f:Nat}
theorem Wn{p:List Nat}{w:A4}{D i:Nat}{jn:C1}{T m:Zf}{o:Option Zf}{key:By}{pa:Option Addr}{pl pc:Nat}{path:List By}{v:C1}{pt:To}(hL:f+1+p.length=L)(qn:L<=top+1)(hJ:Bm L w D rv jn iv ch Tb Mb wb T M js)(hs:Zo p T=some m)(ha:At0 m i key o)(hr:B4 m key)(qd:js.length<=1000000000)(qg:Au w (GA L Tb wb M) (.slice pa pl pc) path)(hv:Rep f F w v pt)(hn:bC f pt)(qe:∀c,o=some c->ZQ (Zi f c)=false\/ZQ pt=false):
  BY AS 120 #[.pointer (some ⟨D,0,none⟩),plV (.slice pa pl pc) (Zv m) key i,v] w fun e w'=>e=.returned (.tuple #[])/\QI L D rv iv ch Tb Mb wb p T m i key o M js f path pt w w':=by
 obtain⟨pb,pk,pn,ps,psl,pmv,rfl,qh,_,qk⟩:=C3 hv;obtain⟨fz,rfl⟩:∃fz,f=fz+1:=by
  cases f with
  | zero=>exact hv.elim
  | succ f=>exact⟨f,rfl⟩
 have qj:fz+1<=top:=by omega
 have qi:=hJ.tr;rw[<- hL] at qi;obtain⟨u,hu⟩:=Ad.at (f:=fz+1+1) qi hs;have hb:AT w.heap.size w (plW w pa pl pc (Zv m) key i):=CK;have q9:(plW w pa pl pc (Zv m) key i).heap.size=w.heap.size+1:=by simp
 have hM:∀w1,AT w.heap.size w w1->BY AS 161 #[.pointer (some ⟨pb,0,none⟩)] w1 fun e w'=>∃x,e=.returned (.pointer (some x))/\AT w1.heap.size w1 w'/\Tr (fz+1) w1.heap.size w' (.pointer (some x)) (Bp (fz+1) pt):=fun w1 h1=>by
  refine (JJ (fz+1) pt hn F w1 _ (hv.bel h1)).mono ?_;rintro e w' ⟨q,rfl,h2,h3⟩;exact⟨q,rfl,h2,h3⟩
 cases o with
 | some c=>
  have hf:AR m i key c:=ha;obtain⟨a1,a2,a3,a4⟩:=hf.apart (Bz (f:=fz+1+1) hs (by rw[hL];exact hJ.nd));obtain⟨yv,hc⟩:=hu.kidAt a4;obtain⟨yb,k,n,s,sl,mv,rfl,hy,_,qm⟩:=C3 (hc.rep (F:=fun _=>True) fun _ _=>trivial);have qf:Zp (fz+1) (some (Zi (fz+1) c)) path pt=(Bp (fz+1) pt,[(2,path,Zi (fz+1) c)]):=by
   have h:=qe c rfl
   revert h
   generalize Zi (fz+1) c=sc;intro h;cases sc<;>cases pt<;>first|rfl|(rcases h with h|h<;>cases h)
  refine IK (gv:=some ⟨yb,0,none⟩) (Q1:=fun w1 x w2=>Tr (fz+1) w1.heap.size w2 (.pointer (some x)) (Bp (fz+1) pt)) ((DN (hu.bel hb) hf hr.2).mono ?_) qh (DD ⟨yb,k,n,s,sl,mv,rfl,hy,?_⟩) hM fun x w1 w2 h1 h2 ht=>?_
  ·rintro e w' ⟨⟨y,rfl,hy⟩,hb2⟩;obtain rfl:=hy.uniq hc;exact⟨rfl,q9▸hb2⟩
  ·rw[qm,qk];rcases qe c rfl with h|h
   ·rw[h];exact F1 rfl
   ·rw[h];cases ZQ (Zi (fz+1) c) with
    | false=>exact F1 rfl
    | true=>exact DD ⟨rfl,rfl⟩
  ·obtain⟨a,t1,t2,t3,t4⟩:=ht;have q4:AT w.heap.size w w2:=h1.trans (h2.mono h1.size);obtain⟨q6,q7⟩:=hJ.bel q4;obtain⟨q5,_⟩:=hJ.bel h1;refine (MB hL q6 hs hf hr qd (qg.move fun k hk q8=>⟨q4.block k q8,hk⟩) qj t1 t3 fun k hk=>q5.fresh (t4 k hk)).mono ?_;rintro e w3 ⟨rfl,q0⟩;refine⟨rfl,a,?_,?_⟩
   ·show BM L D rv iv ch Tb Mb wb (Zs p (Br i key a m) T) M (js++(Zp (fz+1) (some (Zi (fz+1) c)) path pt).2) w w3;rw[qf];exact q0.low q7
   ·show _=(Zp (fz+1) (some (Zi (fz+1) c)) path pt).1;rw[qf,t2]
 | none=>
  obtain⟨b2,g2,es,rfl,qb⟩:=ha;refine IK (gv:=none) (Q1:=fun w1 x w2=>Tr (fz+1) w1.heap.size w2 (.pointer (some x)) (Bp (fz+1) pt)) ((I9 (hu.bel hb) qb hr.2).mono ?_) qh (F1 rfl) hM fun x w1 w2 h1 h2 ht=>?_
  ·rintro e w' ⟨rfl,hb2⟩;exact⟨rfl,q9▸hb2⟩
  ·obtain⟨a,t1,t2,t3,t4⟩:=ht;have q4:AT w.heap.size w w2:=h1.trans (h2.mono h1.size);obtain⟨q6,q7⟩:=hJ.bel q4;obtain⟨q5,_⟩:=hJ.bel h1;refine (OR hL q6 hs qb hr qd (qg.move fun k hk q8=>⟨q4.block k q8,hk⟩) t1 t3 fun k hk=>q5.fresh (t4 k hk)).mono ?_;rintro e w3 ⟨rfl,q0⟩;exact⟨rfl,a,q0.low q7,t2⟩
end
end Go.Proofs.YtdpomdelmdofmaaGreatDoor
