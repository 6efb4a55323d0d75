import Derived.ArgAppend
import Derived.Laws.Append
import Derived.Test.YtdpomdelmdofmaaGreatDoorRea28
import Derived.Deep.DeepCutAuto
import Derived.DeepKeys4
open Go.Proofs.Tryz renaming prog->AI
open Nat renaming le_refl->AS,le_trans->C2
open Go.Instr renaming index->AT
open Go renaming World->A1,heap_alloc_new->A3,Calls->A4,Value->A5,wpList_lookup_own_ok->CD,bodyPost_ret->CH,bodyPost_end->CL,results_none->CR,maxLen->C1
open Go.RowKit renaming Below->A2
open Go.Value renaming string->A6
open Option renaming map_eq_some_iff->Bs
open Go.RowKit.Below renaming refl->BY
set_option maxHeartbeats 4000000
set_option maxRecDepth 100000
namespace Go.Proofs.YtdpomdelmdofmaaGreatDoor
open Go.Proofs.Tryz Go.RowKit Go.Maps
variable{n j k:Nat}{x:By×Bool×Bool}
theorem Va{w:A1}{g o cap:Nat}(h:n<=cap)(hc:cap<=C1):
  A4 AI 206 #[.slice (some ⟨g,o,none⟩) n cap] w fun e w'=>e=.returned (.slice (some ⟨g,o,none⟩) n n)/\w'=w:=by
 have h1:(n:Int)<=(cap:Int):=by omega
 have h2:(cap:Int)<=9223372036854775807:=by grind [C1]
 have h3:(n:Int)<=9223372036854775807:=by omega
 go_enter func206,ntmps206
 go_wp2_with (fail)
 go_ret
 simp_all
theorem Vb{w:A1}{c:Nat}:
  A4 AI 206 #[.slice none 0 c] w fun e w'=>e=.returned (.slice none 0 0)/\w'=w:=by
 go_enter func206,ntmps206
 go_wp2_with (fail)
 go_ret
 simp_all
def XL(l:List By)(t:By)(w:A1)(e:Ending)(w':A1):Prop:=∃g cap,e=.returned (.slice (some ⟨g,0,none⟩) (l.length+1) cap)/\w.heap.size<=g/\Aw w' (fun k=>w.heap.size<=k) (.slice (some ⟨g,0,none⟩) (l.length+1) cap) (l++[t])/\A2 w.heap.size w w'
theorem X8{w:A1}{B:Nat}{v:A5}{l:List By}{t:By}(h:w.ownsRow B 9 1 v (n+1) (l.map (fun s=>A6 ⟨s.toArray⟩)++[.string ⟨t.toArray⟩]))(hn:n=l.length):∃g cap,v=.slice (some ⟨g,0,none⟩) (l.length+1) cap/\B<=g/\Aw w (fun k=>B<=k) (.slice (some ⟨g,0,none⟩) (l.length+1) cap) (l++[t]):=by
 subst hn;obtain⟨g,cap,rfl,q0,q4,hlt,hc⟩:=Bm h (Nat.succ_pos _);have hB:=(Ay h g rfl).2;refine⟨g,cap,rfl,hB,Or.inr ⟨g,0,cap,by simp,by grind,q4,hB,hlt,fun k hk=>?_⟩⟩
 grind
theorem Jh{w:A1}{G:Nat->Prop}{pv:A5}{l:List By}{t:By}(h:Aw w G pv l)(hl:l.length<=100000000)(q7:l=[] -> ∃c,pv=.slice none 0 c):
  A4 AI 163 #[pv,.string ⟨t.toArray⟩] w (XL l t w):=by
 obtain⟨i0,hi,h0⟩:=Bs.1 RH;injection h0 with hz h0;injection h0 with hz2 hz3;obtain⟨z0,q9⟩:∃z0,z0=A6 ⟨#[]⟩:=⟨_,rfl⟩
 rw[<- q9] at hz;have qf:z0.cells.size=1:=by rw[q9];rfl
 have hb:A2 w.heap.size w (w.alloc (.cells #[.string ⟨t.toArray⟩] 9)):=(BY _ _).alloc (AS _) _;have HN:=Ab (A3 w (.cells #[.string ⟨t.toArray⟩] 9));have HB:=Ab hb;obtain⟨ao,n,cap,qe,hn,hcl,q4,q0⟩:∃ (ao:Option Addr) (n cap:Nat),pv=.slice ao n cap/\n=l.length/\(∀w1,A4 AI 206 #[.slice ao n cap] w1 fun e w'=>e=.returned (.slice ao n n)/\w'=w1)/\(ao=none->n=0/\n=0)/\(∀b,ao=some b -> ∀ (j:Nat) (u:A5),(l.map fun s=>A6 ⟨s.toArray⟩)[j]? = some u->(w.alloc (.cells #[.string ⟨t.toArray⟩] 9)).cell? (b.add j)=some u):=by
  rcases h with⟨rfl,a,c,rfl,qg⟩|⟨g,o,cap,rfl,h1,h2,_,h3,h4⟩
  ·obtain⟨c',e⟩:=q7 rfl;injection e with e1 e2 e3;subst e1;exact⟨none,0,c,rfl,rfl,fun w1=>Vb,fun _=>⟨rfl,rfl⟩,fun b e=>by cases e⟩
  ·refine⟨some ⟨g,o,none⟩,l.length,cap,rfl,rfl,fun w1=>Va h1 h2,(fun e=>by cases e),fun b e j u hj=>?_⟩;injection e with e;subst e;rw[Addr.add_lit];rw[List.getElem?_map] at hj;obtain⟨s,hs,rfl⟩:=Bs.1 hj;obtain⟨qd,rfl⟩:=List.getElem?_eq_some_iff.1 hs;exact (hb.cell (p:=⟨g,o+j,none⟩) h3).trans (h4 j qd)
 subst qe;have q5:=Ab q0;have q6:=Ab q4;have HL:=Ab hl;have q8:=Ab hn;obtain⟨Q,hQ⟩:∃Q,Q=XL l t w:=⟨_,rfl⟩
 rw[<- hQ];have HQ:=Ab hQ;clear h hb q0 q4 hl hn hQ q7
 go_enter func163,ntmps163
 go_wp2_with (fail);refine (hcl _).mono ?_
 rintro e w' ⟨rfl,rfl⟩
 go_wp2_with (first
  | (at_builtin;refine wpList_append_grows _ rfl _ _ 121 rfl 9 i0 z0 1 16 underlying121 hi hz hz2 hz3 qf (by decide) ao n n (l.map fun s=>A6 ⟨s.toArray⟩) rfl (Aa q6) (by rw[List.length_map];have:=Aa q8;omega) (Aa q5) ⟨w'.heap.size,0,none⟩ 1 1 [.string ⟨t.toArray⟩] rfl rfl (World.news_of_block (cs:=#[.string ⟨t.toArray⟩]) (t:=9) (fr:=(0,0)) (Aa HN)) (by simp[Value.oneCell']) (by omega) (by have:=Aa HL;have:=Aa q8;unfold C1;omega) (by have:=Aa HL;have:=Aa q8;omega) ?_;intro v2 w2 ho hg))
 have hb2:A2 w'.heap.size w' w2:=⟨hg.os.trans (Aa HB).os,hg.tape.trans (Aa HB).tape,hg.output.trans (Aa HB).output,C2 (Aa HB).size hg.size,fun k hk=>(hg.block k (Nat.lt_of_lt_of_le hk (Aa HB).size) (by simp)).trans ((Aa HB).block k hk)⟩
 obtain⟨g2,cap2,rfl,h5,h6⟩:=X8 ho (Aa q8);have HT:=Ab h6;have qb:=Ab hb2;have hsz:(w'.alloc (.cells #[.string ⟨t.toArray⟩] 9)).heap.size=w'.heap.size+1:=by simp
 rw[hsz] at h5;clear ho hg h6 hb2 hcl
 go_wp2_with (fail);show Q (.returned (.slice (some ⟨g2,0,none⟩) (l.length+1) cap2)) _
 rw[Aa HQ];refine⟨g2,cap2,rfl,by omega,(Aa HT).move fun k hk _=>⟨rfl,?_⟩,Aa qb⟩;rw[hsz] at hk;omega
theorem AL.low3{w w3:A1}{q b i:Nat}{pth:A5}{key:By}(h:AL w q pth b key i)(hq:q<w.heap.size)(hb:A2 w.drew.heap.size w.drew w3):AL w3 q pth b key i:=(hb.block q hq).trans h
section
variable{w:A1}{D b i pb:Nat}{key:By}{pa gv:Option Addr}{pl pc:Nat}{pk:Int}{pn:Nm}{ps:By}{psl pmv:A5}
theorem JF{Q:A1->Prop}{Q1:A1->Addr->A1->Prop}(hG:A4 AI 159 #[plV (.slice pa pl pc) b key i] (plW w pa pl pc b key i) fun e w'=>e=.returned (.pointer gv)/\A2 (w.heap.size+1) (plW w pa pl pc b key i) w')(qi:VB w pb pk pn ps psl pmv)(hc:gv=none \/ ∃y k n s sl mv,gv=some ⟨y,0,none⟩/\VB w y k n s sl mv/\((k != 6)=true\/((k != 6)=false/\(pk != 6)=true)))(hM:∀w1,A2 w.heap.size w w1->A4 AI 161 #[.pointer (some ⟨pb,0,none⟩)] w1 fun e w'=>∃x,e=.returned (.pointer (some x))/\A2 w1.heap.size w1 w'/\Q1 w1 x w')(hP:∀x w1 w2,A2 w.heap.size w w1->A2 w1.heap.size w1 w2->Q1 w1 x w2->A4 AI 160 #[.pointer (some ⟨D,0,none⟩),plV (.slice pa pl pc) b key i,.pointer (some x)] w2 fun e w'=>e=.returned (.tuple #[])/\Q w'):
  A4 AI 120 #[.pointer (some ⟨D,0,none⟩),plV (.slice pa pl pc) b key i,.pointer (some ⟨pb,0,none⟩)] w fun e w'=>e=.returned (.tuple #[])/\Q w':=by
 have HG:=Ab hG;have HM:=Ab hM;have HP:=Ab hP;have qf:=A3 w (.cells #[.slice pa pl pc,.pointer (some ⟨b,0,none⟩),.string ⟨key.toArray⟩,.int .i64 i] 185);have qd:=Ab (show AL (plW w pa pl pc b key i) w.heap.size (.slice pa pl pc) b key i from qf);have qg:A2 w.heap.size w (plW w pa pl pc b key i):=(BY _ _).alloc (AS _) _;have q6:=Ab qg;have qh:(plW w pa pl pc b key i).heap.size=w.heap.size+1:=by simp
 have qm:=Ab qh;have qe:=Ab qi;have HC:=Ab hc;clear hG hM hP qf qg qh qi hc
 go_enter func120,ntmps120
 go_wp2_with (fail);refine (Aa HG).mono ?_
 rintro e w2 ⟨rfl,hb⟩;have hb2:A2 w.heap.size w w2:=⟨hb.os.trans (Aa q6).os,hb.tape.trans (Aa q6).tape,hb.output.trans (Aa q6).output,C2 (Aa q6).size hb.size,fun k hk=>(hb.block k (by omega)).trans ((Aa q6).block k hk)⟩
 have q5:AL w2 w.heap.size (.slice pa pl pc) b key i:=(hb.block _ (by omega)).trans (Aa qd);have qb:w.heap.size<w2.heap.size:=(Array.getElem?_eq_some_iff.1 q5).1;have q9:=Ab q5;have q4:=Ab hb2;have q8:=Ab (fun w0 (h0:A2 w2.heap.size w2 w0)=>Aa HM w0 (hb2.trans (h0.mono hb2.size)));have e0:=q5.c0;have e1:=q5.c1;have e2:=q5.c2;have e3:=q5.c3;have qk:=((Aa qe).kept (hb2.block pb (Aa qe).lt)).c0;have qj:=Aa HC;clear hb hb2 q5 HG HC qd q6 qm HM;rcases qj with rfl|⟨y,k,n,s,sl,mv,rfl,hy,hk|⟨hk,hk2⟩⟩
 ·go_wp2_with (fail);have hd:∀ {u:A1},A2 u.heap.size u u.drew:=fun {u}=>⟨rfl,rfl,rfl,AS _,fun _ _=>rfl⟩
  go_region_with (first
   | (go_at_call 161;refine (Aa q8 _ hd).mono ?_;rintro e w3 ⟨x,rfl,hb3,q7⟩;have q0:=(Aa q9).low3 qb hb3;have f0:=q0.c0;have f1:=q0.c1;have f2:=q0.c2;have f3:=q0.c3)
   | (go_at_call 160;refine (Aa HP x _ w3 ((Aa q4).trans (hd.mono (Aa q4).size)) hb3 q7).mono ?_;rintro e w4 ⟨rfl,hQ⟩))
  all_goals (
   go_wp2_with (fail);exact CH (v:=.tuple #[]) (by simp[results,results120,go_sem]) rfl ⟨rfl,hQ⟩)
 ·have qy:=(hy.kept ((Aa q4).block y hy.lt)).c0;clear hy
  go_wp2_with (fail);have hd:∀ {u:A1},A2 u.heap.size u u.drew:=fun {u}=>⟨rfl,rfl,rfl,AS _,fun _ _=>rfl⟩
  go_region_with (first
   | (go_at_call 161;refine (Aa q8 _ hd).mono ?_;rintro e w3 ⟨x,rfl,hb3,q7⟩;have q0:=(Aa q9).low3 qb hb3;have f0:=q0.c0;have f1:=q0.c1;have f2:=q0.c2;have f3:=q0.c3)
   | (go_at_call 160;refine (Aa HP x _ w3 ((Aa q4).trans (hd.mono (Aa q4).size)) hb3 q7).mono ?_;rintro e w4 ⟨rfl,hQ⟩))
  all_goals (
   go_wp2_with (fail);exact CH (v:=.tuple #[]) (by simp[results,results120,go_sem]) rfl ⟨rfl,hQ⟩)
 ·have qy:=(hy.kept ((Aa q4).block y hy.lt)).c0;clear hy
  go_wp2_with (fail);have hd:∀ {u:A1},A2 u.heap.size u u.drew:=fun {u}=>⟨rfl,rfl,rfl,AS _,fun _ _=>rfl⟩
  go_region_with (first
   | (go_at_call 161;refine (Aa q8 _ hd).mono ?_;rintro e w3 ⟨x,rfl,hb3,q7⟩;have q0:=(Aa q9).low3 qb hb3;have f0:=q0.c0;have f1:=q0.c1;have f2:=q0.c2;have f3:=q0.c3)
   | (go_at_call 160;refine (Aa HP x _ w3 ((Aa q4).trans (hd.mono (Aa q4).size)) hb3 q7).mono ?_;rintro e w4 ⟨rfl,hQ⟩))
  all_goals (
   go_wp2_with (fail);exact CH (v:=.tuple #[]) (by simp[results,results120,go_sem]) rfl ⟨rfl,hQ⟩)
end
section
variable{w:A1}{D b i pb:Nat}{key:By}{pa:Option Addr}{pl pc:Nat}{pk:Int}{pn:Nm}{ps:By}{psl pmv:A5}{Q:A1->Prop}
theorem CY:A2 w.heap.size w (plW w pa pl pc b key i):=(BY _ _).alloc (AS _) _
theorem Ou(q5:VB w pb pk pn ps psl pmv)(hk:(pk != 0)=true)(hC:∀w2,A2 w.heap.size w w2->A4 AI 120 #[.pointer (some ⟨D,0,none⟩),plV (.slice pa pl pc) b key i,.pointer (some ⟨pb,0,none⟩)] w2 fun e w'=>e=.returned (.tuple #[])/\Q w'):
  A4 AI 162 #[.pointer (some ⟨D,0,none⟩),plV (.slice pa pl pc) b key i,.pointer (some ⟨pb,0,none⟩)] w fun e w'=>e=.returned (.tuple #[])/\Q w':=by
 have q4:A2 w.heap.size w (plW w pa pl pc b key i):=CY;have qk:=(q5.kept (q4.block pb q5.lt)).c0;have q0:AL (plW w pa pl pc b key i) w.heap.size (.slice pa pl pc) b key i:=A3 w _;have e0:=q0.c0;have e1:=q0.c1;have e2:=q0.c2;have e3:=q0.c3;have HC:=Ab (hC _ q4);clear hC q0 q4 q5
 go_enter func162,ntmps162
 go_wp2_with (fail);refine (Aa HC).mono ?_
 rintro e w' ⟨rfl,hQ⟩
 go_wp2_with (fail);exact CL (CR rfl _ _ _) rfl ⟨rfl,hQ⟩
theorem PM(q4:VB w pb pk pn ps psl pmv)(hk:(pk != 0)=false)(hG:A4 AI 159 #[plV (.slice pa pl pc) b key i] (plW w pa pl pc b key i) fun e w'=>e=.returned (.pointer none)/\A2 (w.heap.size+1) (plW w pa pl pc b key i) w'):
  A4 AI 162 #[.pointer (some ⟨D,0,none⟩),plV (.slice pa pl pc) b key i,.pointer (some ⟨pb,0,none⟩)] w fun e w'=>e=.returned (.tuple #[])/\A2 w.heap.size w w':=by
 have q5:A2 w.heap.size w (plW w pa pl pc b key i):=CY;have qk:=(q4.kept (q5.block pb q4.lt)).c0;have q0:AL (plW w pa pl pc b key i) w.heap.size (.slice pa pl pc) b key i:=A3 w _;have e0:=q0.c0;have e1:=q0.c1;have e2:=q0.c2;have e3:=q0.c3;have HG:=Ab hG;clear hG q0 q5 q4
 go_enter func162,ntmps162
 go_wp2_with (fail);refine (Aa HG).mono ?_
 rintro e w' ⟨rfl,hb⟩;have HB:=Ab (Hx hb);clear hb
 go_wp2_with (fail);exact CL (CR rfl _ _ _) rfl ⟨rfl,Aa HB⟩
theorem Nn{y:Addr}(q5:VB w pb pk pn ps psl pmv)(hk:(pk != 0)=false)(hG:A4 AI 159 #[plV (.slice pa pl pc) b key i] (plW w pa pl pc b key i) fun e w'=>e=.returned (.pointer (some y))/\A2 (w.heap.size+1) (plW w pa pl pc b key i) w')(hR:∀w2,A2 w.heap.size w w2->A4 AI 199 #[.pointer (some ⟨D,0,none⟩),plV (.slice pa pl pc) b key i] w2 fun e w'=>e=.returned (.tuple #[])/\Q w'):
  A4 AI 162 #[.pointer (some ⟨D,0,none⟩),plV (.slice pa pl pc) b key i,.pointer (some ⟨pb,0,none⟩)] w fun e w'=>e=.returned (.tuple #[])/\Q w':=by
 have q6:A2 w.heap.size w (plW w pa pl pc b key i):=CY;have qk:=(q5.kept (q6.block pb q5.lt)).c0;have q0:AL (plW w pa pl pc b key i) w.heap.size (.slice pa pl pc) b key i:=A3 w _;have q7:=Ab q0;have q9:(plW w pa pl pc b key i).heap.size=w.heap.size+1:=by simp
 have e0:=q0.c0;have e1:=q0.c1;have e2:=q0.c2;have e3:=q0.c3;have HG:=Ab hG;have HR:=Ab hR;clear hG q0 q6 q5 hR
 go_enter func162,ntmps162
 go_wp2_with (fail);refine (Aa HG).mono ?_
 rintro e w' ⟨rfl,hb⟩;have q4:AL w' w.heap.size (.slice pa pl pc) b key i:=(hb.block _ (by omega)).trans (Aa q7);have f0:=q4.c0;have f1:=q4.c1;have f2:=q4.c2;have f3:=q4.c3;have HB:=Ab (Hx hb);have q8:=Ab (Aa HR _ (Aa HB));clear hb q4 HR
 go_wp2_with (fail);refine (Aa q8).mono ?_
 rintro e w4 ⟨rfl,hQ⟩
 go_wp2_with (fail);exact CL (CR rfl _ _ _) rfl ⟨rfl,hQ⟩
end
def nv(x:By×Bool×Bool):A5:=.agg #[.string ⟨x.1.toArray⟩,.bool x.2.1,.bool x.2.2]
def D8(x:By×Bool×Bool):Lit:=.string (keyBytes [.string x.1,.bool x.2.1,.bool x.2.2])
theorem XE:laidOutB AI=true:=by kernel_rfl
theorem ZX:(219:TypeId)<Tryz.prog.types.size:=of_decide_eq_true (by kernel_rfl)
theorem nka:Tryz.prog.keyTypeAt 2 219=true:=by kernel_rfl
theorem We:Keyed AI 219:=Keyed.of_law (deep_law_laid XE (m:=2) (by omega) ZX nka (by rw[underlying219]))
theorem nkl(x:By×Bool×Bool):WideAt.IsKeyLit (D8 x):=by unfold D8;exact trivial
theorem nkt:Tryz.prog.keyType 219=true:=by kernel_rfl
theorem TN:Tryz.prog.cellsOf 219=3:=by kernel_rfl
theorem ncs:Tryz.prog.cellsOf 9=1:=by kernel_rfl
theorem ncb:Tryz.prog.cellsOf 4=1:=by kernel_rfl
theorem nsz:∃m,Tryz.prog.types.size=m+1:=⟨Tryz.prog.types.size-1,by have:=ZX;unfold TypeId at this;omega⟩
theorem RG(x:By×Bool×Bool)(h:x.1.length<=1048576):keyOf AI 219 (nv x)=some (D8 x):=by
 obtain⟨m,hm⟩:=nsz;have hl:(⟨x.1.toArray⟩:ByteArray).size<=C1:=by rw[Bc];unfold C1;omega
 unfold keyOf nv D8;rw[underlying219];simp only[nkt,Value.formed,underlying219,TN,hm];simp[Program.keyLits,underlying219,underlying9,underlying4,TN,ncs,ncb,Value.cells,hl]
theorem On{y:By×Bool×Bool}(h1:x.1.length<=1048576)(h2:y.1.length<=1048576)(h:D8 x=D8 y):x=y:=by
 have:=We.inj (RG x h1) (h▸RG y h2);obtain⟨a,b,c⟩:=x;obtain⟨a',b',c'⟩:=y;unfold nv at this
 grind
def KA:List (By×Bool×Bool):=[(Kb,true,false),(Fy,false,false),(EI,true,false),(Ny,false,true),(jS,false,true),(Nx,true,false)]
def opN(k:Nat):By×Bool×Bool:=KA.getD k ([],false,false)
theorem bQ(w:A1):(AT 220 (.agg CB) (.int .i64 0)).run AI w=.ok (nv (opN 0)) w:=by kernel_rfl
theorem bP(w:A1):(AT 220 (.agg CB) (.int .i64 1)).run AI w=.ok (nv (opN 1)) w:=by kernel_rfl
theorem bN(w:A1):(AT 220 (.agg CB) (.int .i64 2)).run AI w=.ok (nv (opN 2)) w:=by kernel_rfl
theorem bM(w:A1):(AT 220 (.agg CB) (.int .i64 3)).run AI w=.ok (nv (opN 3)) w:=by kernel_rfl
theorem bL(w:A1):(AT 220 (.agg CB) (.int .i64 4)).run AI w=.ok (nv (opN 4)) w:=by kernel_rfl
theorem bK(w:A1):(AT 220 (.agg CB) (.int .i64 5)).run AI w=.ok (nv (opN 5)) w:=by kernel_rfl
theorem ZS(k:Nat)(hk:k<6)(w:A1):(AT 220 (.agg CB) (.int .i64 k)).run AI w=.ok (nv (opN k)) w:=by
 match k,hk with
 | 0,_=>exact bQ w
 | 1,_=>exact bP w
 | 2,_=>exact bN w
 | 3,_=>exact bM w
 | 4,_=>exact bL w
 | 5,_=>exact bK w
theorem Ji(k:Nat)(hk:k<6):(opN k).1.length<=1048576:=by
 match k,hk with
 | 0,_=>decide
 | 1,_=>decide
 | 2,_=>decide
 | 3,_=>decide
 | 4,_=>decide
 | 5,_=>decide
theorem YF{i:Nat}(hi:i<6)(hj:j<6)(h:opN i=opN j):i=j:=by
 have:∀i,i<6 -> ∀j,j<6->opN i=opN j->i=j:=by decide
 grind
def nD:Nat->DataW A5
 | 0=>.map []
 | k+1=>(nD k).put (D8 (opN k)) (.lit (.int .i64 k))
theorem Oo:∀k,IsMap (nD k)
 | 0=>⟨[],rfl⟩
 | k+1=>(Oo k).put _ _
theorem TO{i:Nat}:∀ {k:Nat},k<=6->i<k->has (nD k) (D8 (opN i))=true /\ ∀z,(nD k).atKey (D8 (opN i)) z=.lit (.int .i64 i)
 | 0,_,h=>absurd h (by omega)
 | k+1,hk,h=>by
  by_cases e:i=k
  ·subst e;exact⟨has_put_same (Oo _) (nkl _) _,fun z=>atKey_put_same (Oo _) (nkl _) _ _⟩
  ·have hne:D8 (opN i)≠D8 (opN k):=fun h2=>e (YF (by omega) (by omega) (On (Ji _ (by omega)) (Ji _ (by omega)) h2));obtain⟨h1,h2⟩:=TO (k:=k) (i:=i) (by omega) (by omega);exact⟨(has_put_other hne _).trans h1,fun z=>(atKey_put_other hne _ _).trans (h2 z)⟩
theorem XF{x:By×Bool×Bool}(hx:x.1.length<=1048576):∀ {k:Nat},k<=6->(∀i,i<k->x≠opN i)->has (nD k) (D8 x)=false
 | 0,_,_=>rfl
 | k+1,hk,h=>by
  have hne:D8 x≠D8 (opN k):=fun h2=>h k (by omega) (On hx (Ji _ (by omega)) h2);exact (has_put_other hne _).trans (XF hx (by omega) fun i hi=>h i (by omega))
def gA(x:By×Bool×Bool):Option Nat:=KA.findIdx? (·==x)
theorem lB(h:gA x=none)(i:Nat)(hi:i<6):x≠opN i:=by
 rintro rfl;have:∀i,i<6->gA (opN i)≠none:=by decide
 grind
theorem lC(h:gA x=some k):k<6/\x=opN k:=by
 unfold gA at h;obtain⟨h1,h2,_⟩:=List.findIdx?_eq_some_iff_getElem.1 h;have h3:KA[k]=x:=by grind
 exact⟨h1,by grind [gA,List.getD,opN]⟩
def iW(x:By×Bool×Bool):Option Nat:=(gA (x.1,false,false)).orElse fun _=>(gA (x.1,x.2.1,false)).orElse fun _=>gA (x.1,false,x.2.2)
theorem lD(x:By×Bool×Bool):iW x=GP x.1 x.2.1 x.2.2:=by
 obtain⟨n,a,b⟩:=x;by_cases h0:n=Fy
 ·subst h0;rfl
 by_cases h1:n=Kb
 ·subst h1;revert a b;decide
 by_cases h2:n=EI
 ·subst h2;revert a b;decide
 by_cases h3:n=Nx
 ·subst h3;revert a b;decide
 by_cases h4:n=Ny
 ·subst h4;revert a b;decide
 by_cases h5:n=jS
 ·subst h5;revert a b;decide
 have e0:(Fy==n)=false:=by grind
 have e1:(Kb==n)=false:=by grind
 have e2:(EI==n)=false:=by grind
 have e3:(Nx==n)=false:=by grind
 have e4:(Ny==n)=false:=by grind
 have e5:(jS==n)=false:=by grind
 have pe:∀ (m:By) (c d e f:Bool),((m,c,d)==(n,e,f))=(m==n && ((c,d)==(e,f))):=fun _ _ _ _ _=>rfl;unfold iW gA GP KA
 simp_all
noncomputable abbrev KE(v:A5):Option (DataW A5×List MemPlace):=plainElem AI 176 v
theorem RQ(hk:k<6):KE (.int .i64 k)=some (.lit (.int .i64 k),[]):=plainElem_int underlying176 (by
 match k,hk with
 | 0,_=>decide
 | 1,_=>decide
 | 2,_=>decide
 | 3,_=>decide
 | 4,_=>decide
 | 5,_=>decide)
theorem bW(w:A1):(zeroValue 176).run AI w=.ok (.int .i64 0) w:=by kernel_rfl
theorem Uf{w:A1}(hT:H9 w):
  A4 AI 114 #[] w fun e w'=>∃m,e=.returned (.map (some m))/\w.heap.size<=m/\w'.ownsMap AI 219 KE m 6 (nD 6)/\A2 w.heap.size w w':=by
 have qh:=@run_makeMap AI;have hlt:3<w.heap.size:=by obtain⟨t,fr,e⟩:=hT;grind
 obtain⟨tt,fz,q7⟩:=hT;have q4:A2 w.heap.size w (w.alloc (.map #[] 0)):=(BY _ _).alloc (AS _) _;have q8:=(q4.block _ hlt).trans q7;have H0:=Ab (show A2 w.heap.size w (w.alloc (.map #[] 0))/\(w.alloc (.map #[] 0)).ownsMap AI 219 KE w.heap.size 0 (nD 0) from⟨q4,World.ownsMap_made w AI 219 KE⟩);have q0:=Ab We;clear q7 q4 hlt
 go_enter func114,ntmps114
 go_wp2_with (refine wpList_load_row rfl 220 _ rfl 3 rfl tt _ fz _ q8 underlying220 rfl (by kernel_rfl) ?_)
 clear q8
 go_loopw [6] (fun i wr=>∃k:Nat,k<=6/\i=.int .i64 k/\Hid (A2 w.heap.size w wr/\wr.ownsMap AI 219 KE w.heap.size k (nD k))) (fun i _=>6-(intOf i).toNat)
 case atStart=>grind
 case round=>
  obtain⟨k,hk,rfl,HI⟩:=hrel;by_cases h6:k=6
  ·subst h6
   go_wp2_with (fail)
   go_ret;exact⟨_,rfl,AS _,(Aa HI).2,(Aa HI).1⟩
  ·have q6:k<6:=by omega
   have qg:(k:Int)<6:=by omega
   have q5:=fun w1=>ZS k q6 w1;have qe:=Ab (RG (opN k) (Ji k q6));have HO:=Ab ((Aa HI).2.alloc (.cells #[.string ⟨(opN k).1.toArray⟩,.bool (opN k).2.1,.bool (opN k).2.2] 219));have HN:=Ab (show k<C1 by unfold C1;omega);have HV:=Ab (RQ q6);have HB:=Ab ((Aa HI).1.alloc (Aa HI).1.size (.cells #[.string ⟨(opN k).1.toArray⟩,.bool (opN k).2.1,.bool (opN k).2.2] 219));unfold nv at q5;clear HI H0
   go_wp2_with (first|(at_mapUpdate;refine wpList_mapUpdate_own _ rfl _ _ _ 174 rfl 219 176 (Aa q0) underlying174 KE w.heap.size k (nD k) rfl (Aa HO) (Aa HN) _ _ _ rfl rfl (Aa qe) (.lit (.int .i64 k)) [] (Aa HV) ?_))
   intro w6 qb q9;have qf:=Ab qb;have qd:=Ab ((Aa HB).grown q9 (Aa HB).size (by grind));clear qb q9
   go_wp2_with (fail);exact⟨⟨k+1,by omega,by go_num,Aa qd,Aa qf⟩,by simp[intOf];omega⟩
def en(x:By×Bool×Bool)(j:Nat):By×Bool×Bool:=if j=0 then (x.1,false,false) else if j=1 then (x.1,x.2.1,false) else (x.1,false,x.2.2)
def enC(s:ByteArray)(a b:Bool):Array A5:=#[.string s,.bool false,.bool false,.string s,.bool a,.bool false,.string s,.bool false,.bool b]
theorem dL(s:ByteArray)(a b:Bool)(w:A1):(AT 259 (.agg (enC s a b)) (.int .i64 0)).run AI w=.ok (.agg #[.string s,.bool false,.bool false]) w:=by kernel_rfl
theorem dK(s:ByteArray)(a b:Bool)(w:A1):(AT 259 (.agg (enC s a b)) (.int .i64 1)).run AI w=.ok (.agg #[.string s,.bool a,.bool false]) w:=by kernel_rfl
theorem dJ(s:ByteArray)(a b:Bool)(w:A1):(AT 259 (.agg (enC s a b)) (.int .i64 2)).run AI w=.ok (.agg #[.string s,.bool false,.bool b]) w:=by kernel_rfl
theorem aK(x:By×Bool×Bool)(j:Nat)(hj:j<3)(w:A1):(AT 259 (.agg (enC ⟨x.1.toArray⟩ x.2.1 x.2.2)) (.int .i64 j)).run AI w=.ok (nv (en x j)) w:=by
 match j,hj with
 | 0,_=>exact dL _ _ _ w
 | 1,_=>exact dK _ _ _ w
 | 2,_=>exact dJ _ _ _ w
theorem UK(h:x.1.length<=1048576):(en x j).1.length<=1048576:=by unfold en;grind
theorem R7(hj:j<3)(h:∀q,q<j->gA (en x q)=none)(hk:gA (en x j)=some k):iW x=some k:=by
 unfold iW
 match j,hj with
 | 0,_=>rw[show gA (x.1,false,false)=some k from hk];rfl
 | 1,_=>rw[show gA (x.1,false,false)=none from h 0 (by omega),show gA (x.1,x.2.1,false)=some k from hk];rfl
 | 2,_=>rw[show gA (x.1,false,false)=none from h 0 (by omega),show gA (x.1,x.2.1,false)=none from h 1 (by omega),show gA (x.1,false,x.2.2)=some k from hk];rfl
theorem PR(h:∀q,q<3->gA (en x q)=none):iW x=none:=by
 unfold iW;rw[show gA (x.1,false,false)=none from h 0 (by omega),show gA (x.1,x.2.1,false)=none from h 1 (by omega),show gA (x.1,false,x.2.2)=none from h 2 (by omega)];rfl
def NC(r:Option Nat):A5:=.tuple #[.int .i64 (r.getD 0:Nat),.bool r.isSome]
theorem IO{w w':A1}{m:Nat}{D:DataW A5}(h:w.ownsMap AI 219 KE m n D)(hk:w'.heap[m]? = w.heap[m]?):w'.ownsMap AI 219 KE m n D:=by
 obtain⟨es,q0,hb,r⟩:=h;exact⟨es,q0,hk.trans hb,r⟩
theorem WP{w:A1}{m:Nat}(ho:w.ownsMap AI 219 KE m 6 (nD 6))(hx:x.1.length<=1048576):
  A4 AI 150 #[.map (some m),nv x] w fun e w'=>e=.returned (NC (iW x))/\A2 w.heap.size w w':=by
 obtain⟨R,hR⟩:∃R,R=NC (iW x):=⟨_,rfl⟩
 rw[<- hR];have HR:=Ab hR;have q0:=Ab We;have HO:=Ab ho;have HX:=Ab hx;have qh:m<w.heap.size:=by obtain⟨es,qd,hb,_⟩:=ho;grind
 have qj:=Ab qh;have q9:=Ab (fun w=>bW w);have q6:=Ab (fun j hj w=>aK x j hj w);unfold enC at q6;unfold nv;generalize (⟨x.1.toArray⟩:ByteArray)=sx at *;obtain⟨va,hva⟩:∃va,va=x.2.1:=⟨_,rfl⟩
 obtain⟨vb,hvb⟩:∃vb,vb=x.2.2:=⟨_,rfl⟩
 rw[<- hva,<- hvb] at q6 |-;clear hR ho hx qh hva hvb
 go_enter func150,ntmps150
 go_wp2_with (fail)
 go_loopw [26] (fun i wr=>∃j:Nat,j<=3/\i=.int .i64 j/\Hid (A2 w.heap.size w wr /\ ∀q,q<j->gA (en x q)=none)) (fun i _=>3-(intOf i).toNat)
 case atStart=>exact⟨0,by omega,rfl,((BY _ _).alloc (AS _) _).alloc (by simp) _,by omega⟩
 case round=>
  obtain⟨j,hj,rfl,HI⟩:=hrel;by_cases h3:j=3
  ·subst h3;have HV:=Ab (show R=NC none by rw[Aa HR,PR (Aa HI).2])
   go_wp2_with (fail)
   go_ret2
   exact⟨by rw[Aa HV];rfl,(Aa HI).1⟩
  ·have qg:j<3:=by omega
   have qm:(j:Int)<3:=by omega
   have q7:=fun w1=>Aa q6 j qg w1;unfold nv at q7;have q8:=Ab (RG (en x j) (UK (Aa HX)));have HB:=Ab ((Aa HI).1.alloc (Aa HI).1.size (.cells #[.string ⟨(en x j).1.toArray⟩,.bool (en x j).2.1,.bool (en x j).2.2] 219));have qb:=Ab (IO (Aa HO) ((Aa HB).block m (Aa qj)));cases hn:gA (en x j) with
   | none=>
    have HH:=Ab (XF (k:=6) (UK (j:=j) (Aa HX)) (AS _) fun i hi=>lB hn i hi);have q4:=Ab (show ∀q,q<j+1->gA (en x q)=none from fun q hq=>if e:q=j then e▸hn else (Aa HI).2 q (by omega));clear hn HI
    go_wp2_with (first|(at_lookup;refine CD _ rfl _ _ 174 rfl 219 176 (Aa q0) underlying174 KE (Aa q9 _) (.lit (.int .i64 0)) [] (RQ (k:=0) (by omega)) m 6 (nD 6) rfl (Aa qb) _ _ rfl (Aa q8) ?_;intro v2 qn q5;clear q5;rw[Aa HH]))
    exact⟨⟨j+1,by omega,by go_num,Aa HB,Aa q4⟩,by simp[intOf];omega⟩
   | some k=>
    obtain⟨qk,qf⟩:=lC hn;obtain⟨hh,qe⟩:=TO (k:=6) (i:=k) (AS _) qk;rw[<- qf] at hh qe
    have HV:=Ab (show R=.tuple #[.int .i64 k,.bool true] by rw[Aa HR,R7 qg (Aa HI).2 hn];rfl);have HH:=Ab hh;have qi:=Ab (fun (v:A5) (ps:List MemPlace) (h:KE v=some ((nD 6).atKey (D8 (en x j)) (.lit (.int .i64 0)),ps))=>(show v=.int .i64 k from by
     obtain⟨c,e1,e2,_⟩:=plainElem_int_inv underlying176 h
     grind))
    clear hn HI qf hh qe
    go_wp2_with (first|(at_lookup;refine CD _ rfl _ _ 174 rfl 219 176 (Aa q0) underlying174 KE (Aa q9 _) (.lit (.int .i64 0)) [] (RQ (k:=0) (by omega)) m 6 (nD 6) rfl (Aa qb) _ _ rfl (Aa q8) ?_;intro v2 qn q5;obtain rfl:=Aa qi _ _ q5;clear q5;rw[Aa HH]))
    go_ret2
    exact⟨by rw[Aa HV];rfl,Aa HB⟩
end Go.Proofs.YtdpomdelmdofmaaGreatDoor
