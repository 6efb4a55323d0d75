import Derived.Test.YtdpomdelmdofmaaGreatDoorRea44
open Go.Proofs.Tryz renaming prog->AI
open Go renaming bodyPost_end->AS,results_none->AT,World->A2,Calls->A6,Value->CL,Ending->DD
open Nat renaming le_refl->A1
open Go.RowKit renaming Below->A3
open Array renaming getElem?_eq_some_iff->A4
open Go.RowKit.Below renaming heap_alloc->A5,heap_setCell->C1,refl->D3
open Go.IntKind renaming wrap_i64->Bs
open Go.Value renaming ownBlock->BY
open Go.World renaming cell?_of_block->CD,setCell->CR,cell?->Dp
open And renaming intro->CH
open List renaming append_assoc->C2
open Or renaming inl->Dt,inr->D0
set_option maxRecDepth 100000
set_option maxHeartbeats 4000000
namespace Go.Proofs.YtdpomdelmdofmaaGreatDoor
open Go.Proofs.Tryz Go.RowKit Go.Maps
variable{pa:Option Addr}{pl pc f:Nat}{j:List dX}{F:Nat->Prop}
structure MkK(w:A2)(Mk:Nat)(n:Int)(M K:Nat->Prop)(ops:List dX):Prop where
 ex:∃mv xs,w.heap[Mk]? = some (.cells #[.int .i64 n,mv] 187 (0,0))/\w.ownsRow 0 178 4 mv ops.length xs/\(∀g,mv.ownBlock=some g -> ¬ K g/\g≠Mk)/\Dc w M xs ops
 low:∀k,K k->k<w.heap.size
 nM:¬ K Mk
abbrev MkD(w:A2)(Mk:Nat)(n:Int)(M:Nat->Prop)(ops:List dX):Prop:=MkK w Mk n M M ops
section
variable{w w':A2}{Mk:Nat}{n:Int}{M K:Nat->Prop}{ops:List dX}
theorem MkK.lt(h:MkK w Mk n M K ops):Mk<w.heap.size:=by
 obtain⟨mv,xs,h1,_⟩:=h.ex;exact (A4.1 h1).1
theorem MkK.less{K':Nat->Prop}(h:MkK w Mk n M K ops)(hK:∀k,K' k->K k):MkK w Mk n M K' ops:=by
 obtain⟨mv,xs,h1,h2,h3,h4⟩:=h.ex;exact⟨⟨mv,xs,h1,h2,fun g hg=>⟨fun hk=>(h3 g hg).1 (hK g hk),(h3 g hg).2⟩,h4⟩,fun k hk=>h.low k (hK k hk),fun hk=>h.nM (hK _ hk)⟩
theorem MkK.moved{M' K':Nat->Prop}{w':A2}(h:MkK w Mk n M K ops)(hb:∀k,k<w.heap.size -> ¬ K k\/M k->w'.heap[k]? = w.heap[k]?)(hM:∀k,M k->M' k)(hK:∀k,K' k->(K k\/w.heap.size<=k)/\k<w'.heap.size):MkK w' Mk n M' K' ops:=by
 have hl:=h.lt;obtain⟨mv,xs,h1,h2,h3,h4⟩:=h.ex;refine⟨⟨mv,xs,(hb _ hl (Dt h.nM)).trans h1,AC h2 fun g hg=>hb g (AA h2 g hg).1 (Dt (h3 g hg).1),fun g hg=>⟨fun hk=>?_,(h3 g hg).2⟩,h4.move fun k hk q0=>⟨hb k q0 (D0 hk),hM k hk⟩⟩,fun k hk=>(hK k hk).2,fun hk=>?_⟩
 ·rcases (hK g hk).1 with e|e
  ·exact (h3 g hg).1 e
  ·have:=(AA h2 g hg).1;omega
 ·rcases (hK _ hk).1 with e|e
  ·exact h.nM e
  ·omega
theorem MkD.grow(h:MkD w Mk n M ops)(hb:A3 w.heap.size w w')(X:Nat->Prop)(hX:∀k,X k->w.heap.size<=k/\k<w'.heap.size):
  MkD w' Mk n (fun k=>M k\/X k) ops/\JEx M (fun k=>M k\/X k) w w':=by
 have hl:=h.lt;obtain⟨mv,xs,h1,h2,h3,h4⟩:=h.ex;have q0:=h.low;refine⟨⟨⟨mv,xs,(hb.block _ hl).trans h1,AC h2 fun g hg=>hb.block g (AA h2 g hg).1,fun g hg=>⟨fun hm=>hm.elim (h3 g hg).1 fun hx=>by have:=(hX g hx).1;have:=(AA h2 g hg).1;omega,(h3 g hg).2⟩,h4.move fun k hk q4=>⟨hb.block k q4,Dt hk⟩⟩,fun k hm=>?_,fun hm=>hm.elim h.nM fun hx=>by have:=(hX Mk hx).1;omega⟩,⟨hb.os,hb.tape,hb.output,hb.size,fun k hk=>⟨Dt hk,hb.block k (q0 k hk)⟩⟩⟩;rcases hm with hm|hm
 ·exact Nat.lt_of_lt_of_le (q0 k hm) hb.size
 ·exact (hX k hm).2
theorem MkD.bel(h:MkD w Mk n M ops)(hb:A3 w.heap.size w w'):MkD w' Mk n M ops/\JEx M M w w':=by
 have h1:=h.grow hb (fun _=>False) (fun _ hx=>hx.elim);simpa using h1
theorem YL{o:Obj}{w3:A2}{g cap:Nat}{mv:CL}{xs new:List CL}{op:dX}(q7:∀k,M k->K k)(hl:∀k,K k->k<w.heap.size)(hn:¬ K Mk)(h1:w.heap[Mk]? = some (.cells #[.int .i64 n,mv] 187 (0,0)))(h3:∀g,mv.ownBlock=some g -> ¬ K g/\g≠Mk)(ho:w3.ownsRow 0 178 4 (.slice (some ⟨g,0,none⟩) (ops.length+1) cap) (ops.length+1) (xs++new))(hg:(w.alloc o).grownBy w3 mv.ownBlock)(q8:mv.ownBlock=some g\/g=w.heap.size+1)(hx:Dc w M (xs++new) (ops++[op])):
  MkK (w3.setCell ⟨Mk,1,none⟩ (.slice (some ⟨g,0,none⟩) (ops.length+1) cap)) Mk n M K (ops++[op])/\JEx K K w (w3.setCell ⟨Mk,1,none⟩ (.slice (some ⟨g,0,none⟩) (ops.length+1) cap)):=by
 have hs:(w.alloc o).heap.size=w.heap.size+1:=by simp
 have q9:Mk<w.heap.size:=(A4.1 h1).1;have hold:∀k,k<w.heap.size->mv.ownBlock≠some k->w3.heap[k]? = w.heap[k]?:=fun k hk hne=>(hg.block k (by omega) (fun e=>hne e.symm)).trans (A5 w o k hk);have q0:∀k,K k->(w3.setCell ⟨Mk,1,none⟩ (.slice (some ⟨g,0,none⟩) (ops.length+1) cap)).heap[k]? = w.heap[k]?:=fun k hk=>(C1 _ _ _ _ (by show k≠Mk;rintro rfl;exact hn hk)).trans (hold k (hl k hk) fun e=>(h3 k e).1 hk);have q5:g≠Mk /\ ¬ K g:=by
  rcases q8 with h|h
  ·exact⟨(h3 g h).2,(h3 g h).1⟩
  ·exact⟨by omega,fun hm=>by have:=hl g hm;omega⟩
 have q6:w3.heap[Mk]? = some (.cells #[.int .i64 n,mv] 187 (0,0)):=(hold Mk q9 fun e=>(h3 Mk e).2 rfl).trans h1;have hsz:=hg.size;refine⟨⟨⟨.slice (some ⟨g,0,none⟩) (ops.length+1) cap,xs++new,?_,?_,fun g' q4=>?_,hx.move fun k hk _=>⟨q0 k (q7 k hk),hk⟩⟩,fun k hk=>?_,hn⟩,⟨hg.os,hg.tape,hg.output,?_,fun k hk=>⟨hk,q0 k hk⟩⟩⟩
 ·simp only[CR,Array.getElem?_modify];rw[if_pos trivial,q6];rfl
 ·rw[List.length_append];exact AC ho fun k hk2=>by
   simp[BY] at hk2;exact C1 _ _ _ _ (by show k≠Mk;omega)
 ·simp[BY] at q4;subst q4;exact⟨q5.2,q5.1⟩
 ·have:=hl k hk;show k<(w3.setCell _ _).heap.size;simp[CR];omega
 ·simp[CR];omega
theorem MC{o:dX}{x:Option Addr}(h:MkK w Mk n M K ops)(q5:∀k,M k->K k)(hn:ops.length<=1000000000)(ho:Fp w M (.int .i64 o.1) (.slice pa pl pc) (.slice none 0 0) (.pointer x) o):
  A6 AI 169 #[.pointer (some ⟨Mk,0,none⟩),.int .i64 o.1,.slice pa pl pc,.pointer x] w fun e w'=>e=.returned (.tuple #[])/\MkK w' Mk n M K (ops++[o])/\JEx K K w w':=by
 obtain⟨i0,z0,q9,hz0,qd,hz2,hz3⟩:=JP;obtain⟨mv,xs,h1,h2,h3,h4⟩:=h.ex;obtain⟨kk,hkk⟩:∃kk:Nat,kk=o.1:=⟨_,rfl⟩
 have q6:=h.lt;have c1:w.cell? ⟨Mk,1,none⟩=some mv:=by simp[Dp,h1]
 have z1:∀b,(w.alloc b).frozen? ⟨Mk,1,none⟩=false:=fun b=>by rw[World.frozen?_of_block (w:=w) (A5 w b Mk q6)];simp[World.frozen?,h1]
 have y1:∀b,(w.alloc b).cell? ⟨Mk,1,none⟩=some mv:=fun b=>by rw[CD (w:=w) (A5 w b Mk q6)];exact c1
 have nD:some Mk≠mv.ownBlock:=fun e=>(h3 Mk e.symm).2 rfl;have HX:=Ab (h4.snoc ho);have HF:=Ab (show (∀k,K k->k<w.heap.size) /\ ¬ K Mk/\w.heap[Mk]? = some (.cells #[.int .i64 n,mv] 187 (0,0)) /\ ∀g,mv.ownBlock=some g -> ¬ K g/\g≠Mk from⟨h.low,h.nM,h1,h3⟩);have q7:=Ab q5;have qb:=h2;rw[<- hkk] at HX |-;have HK:=Ab hkk;clear h h1 h2 h3 h4 ho hkk q5
 go_enter func169,ntmps169
 go_wp2_with (at_builtin;refine wpList_append_lies _ rfl _ _ _ rfl 0 178 i0 z0 4 64 underlying113 q9 hz0 hz2 hz3 qd (by decide) mv ops.length xs rfl (qb.alloc _) ⟨w.heap.size,0,none⟩ 1 1 [.int .i64 kk,.slice pa pl pc,.slice none 0 0,.pointer x] rfl rfl (World.news_of_block (cs:=#[.int .i64 kk,.slice pa pl pc,.slice none 0 0,.pointer x]) (t:=178) (fr:=(0,0)) (heap_alloc_new w _)) (by simp[Value.oneCell']) (by decide) (by unfold maxLen;omega) (by omega) (Nat.zero_le _) (w.heap.size+1) (by simp) ?_;intro g cap w3 q4 q0 q8 hlt;have zz:w3.frozen? ⟨Mk,1,none⟩=false:=(q0.frozen_far ⟨Mk,1,none⟩ (by simp;omega) nD).trans (z1 _);have yy:w3.cell? ⟨Mk,1,none⟩=some mv:=(q0.cell_far ⟨Mk,1,none⟩ (by simp;omega) nD).trans (y1 _))
 obtain⟨f1,f2,f3,f4⟩:=Aa HF;exact AS (AT rfl _ _ _) rfl ⟨rfl,YL (Aa q7) f1 f2 f3 f4 q4 q0 q8 (Aa HX)⟩
theorem JT{o:dX}{x:Option Addr}(h:MkD w Mk n M ops)(hn:ops.length<=1000000000)(ho:Fp w M (.int .i64 o.1) (.slice pa pl pc) (.slice none 0 0) (.pointer x) o):
  A6 AI 169 #[.pointer (some ⟨Mk,0,none⟩),.int .i64 o.1,.slice pa pl pc,.pointer x] w fun e w'=>e=.returned (.tuple #[])/\MkD w' Mk n M (ops++[o])/\JEx M M w w':=MC h (fun _ hk=>hk) hn ho
end
section
variable{w:A2}{Mk:Nat}{n:Int}{M:Nat->Prop}{ops:List dX}
theorem MkD.c0(h:MkD w Mk n M ops):w.cell? ⟨Mk,0,none⟩=some (.int .i64 n):=by
 obtain⟨mv,xs,h1,_⟩:=h.ex;simp[Dp,h1]
theorem RL{ab bb:Nat}{an bn:Nm}{q4 q6:By}{aa ba:Option Addr}{al ac bl bc:Nat}{q0 q5:CL}{ak bk:Int}(h:MkD w Mk n M ops)(ha:VB w ab ak an q4 (.slice aa al ac) q0)(hb:VB w bb bk bn q6 (.slice ba bl bc) q5)(hal:al<=1000000)(q9:bl<=1000000):
  A6 AI 167 #[.pointer (some ⟨Mk,0,none⟩),.pointer (some ⟨ab,0,none⟩),.pointer (some ⟨bb,0,none⟩)] w fun e w'=>e=.returned (.bool (decide (((al:Int)+1)*((bl:Int)+1)<=n)))/\A3 w.heap.size w w':=by
 have m0:=h.c0;have a5:=ha.c5;have b5:=hb.c5;have q7:(al:Int)<=1000000:=by omega
 have q8:(bl:Int)<=1000000:=by omega
 have qd:((al:Int)+1)*((bl:Int)+1)<=1000001*1000001:=Int.mul_le_mul (by omega) (by omega) (by omega) (by omega);have qb:0<=((al:Int)+1)*((bl:Int)+1):=by grind
 have e1:IntKind.i64.wrap ((al:Int)+1)=(al:Int)+1:=by rw[Bs];omega
 have e2:IntKind.i64.wrap ((bl:Int)+1)=(bl:Int)+1:=by rw[Bs];omega
 have e3:IntKind.i64.wrap (((al:Int)+1)*((bl:Int)+1))=((al:Int)+1)*((bl:Int)+1):=by rw[Bs];omega
 clear h ha hb
 go_enter func167,ntmps167
 go_wp2_with (fail)
 go_quiet (fail)
 go_wp2_with (fail)
 go_ret;exact⟨rfl,rfl,rfl,rfl,A1 _,fun _ _=>rfl⟩
def CA(Mk:Nat)(n:Int)(M:Nat->Prop)(ops j:List dX)(w:A2)(e:DD)(w':A2):Prop:=e=.returned (.tuple #[]) /\ ∃M',MkD w' Mk n M' (ops++j)/\JEx M M' w w'
theorem CA.low{w1 w':A2}{e:DD}(h:CA Mk n M ops j w1 e w')(hX:JEx M M w w1):CA Mk n M ops j w e w':=by
 obtain⟨h1,M',h2,h3⟩:=h;exact⟨h1,M',h2,hX.trans h3⟩
def kJ(d:To):Bool:=match d with
 | .slice _ _=>true
 | _=>false
theorem Md{w:A2}{v:CL}{d:To}(h:Rep (f+1) F w v d):∃b k nm s sl mv,v=.pointer (some ⟨b,0,none⟩)/\VB w b k nm s sl mv/\(k==6)=fI d/\(k==5)=kJ d /\
  (∀xs,d=.map xs -> ∃m n' D,mv=.map (some m)/\F m/\w.ownsMap AI 9 RV m n' (.map D)/\Pt (Rep f F w) D xs) /\
  (∀xs y,d=.slice xs y->y=[] /\ ∃ps,w.ownsRow 0 80 1 sl ps.length ps/\(∀g,sl.ownBlock=some g->F g)/\Al (Rep f F w) ps xs):=by
 obtain⟨b,rfl,_,h⟩:=h;rcases h with⟨k,hk,rfl,h⟩|⟨n,rfl,h,_⟩|⟨s,rfl,h⟩|⟨es,sl,ps,rfl,h,ho,hg,ha⟩|⟨es,m,n,D,rfl,h,hm,ho,hp⟩
 ·have hk2:((k:Int)==6)=false/\((k:Int)==5)=false:=by
   match k,hk with
   | 0,_=>exact⟨rfl,rfl⟩
   | 1,_=>exact⟨rfl,rfl⟩
   | 2,_=>exact⟨rfl,rfl⟩
  exact⟨b,k,_,_,_,_,rfl,h,hk2.1,hk2.2,(fun xs e=>by cases e),fun xs y e=>by cases e⟩
 ·exact⟨b,3,_,_,_,_,rfl,h,rfl,rfl,(fun xs e=>by cases e),fun xs y e=>by cases e⟩
 ·exact⟨b,4,_,_,_,_,rfl,h,rfl,rfl,(fun xs e=>by cases e),fun xs y e=>by cases e⟩
 ·refine⟨b,5,_,_,_,_,rfl,h,rfl,rfl,(fun xs e=>by cases e),fun xs y e=>?_⟩;injection e with e1 e2;subst e1 e2;exact⟨rfl,ps,ho,hg,ha⟩
 ·refine⟨b,6,_,_,_,_,rfl,h,rfl,rfl,(fun xs e=>?_),fun xs y e=>by cases e⟩;injection e with e1;subst e1;exact⟨m,n,D,rfl,hm,ho,hp⟩
end
section
variable{Mk:Nat}{n:Int}{M:Nat->Prop}{ops:List dX}
theorem PP{F':Nat->Prop}{w:A2}{av bv:CL}{x y:To}{s:List By}(h:MkD w Mk n M ops)(ha:Rep (f+1) F w av x)(hb:Rep (f+1) F' w bv y)(hf:f+1<=top)(zr:∀k,F' k->M k)(hp:Aw w M (.slice pa pl pc) s)(hn:ops.length<=1000000000)(qp:∀xs z,x=.slice xs z->xs.length<=1000000)(qq:∀ys z,y=.slice ys z->ys.length<=1000000)(hO:∀xs ys m1 n1 D1 m2 n2 D2,x=.map xs->y=.map ys->F m1->F' m2->w.ownsMap AI 9 RV m1 n1 (.map D1)->Pt (Rep f F w) D1 xs->w.ownsMap AI 9 RV m2 n2 (.map D2)->Pt (Rep f F' w) D2 ys -> ∀w1,A3 w.heap.size w w1 ->
   A6 AI 166 #[.pointer (some ⟨Mk,0,none⟩),.slice pa pl pc,.map (some m1),.map (some m2)] w1 (CA Mk n M ops (AN (A9 n f) s xs ys (BK xs ys)) w1))(hA:∀xs ys qz qr qg qh,x=.slice xs []->y=.slice ys []->((xs.length:Int)+1)*((ys.length:Int)+1)<=n->w.ownsRow 0 80 1 qz qg.length qg->Al (Rep f F w) qg xs->w.ownsRow 0 80 1 qr qh.length qh->(∀g,qr.ownBlock=some g->F' g)->Al (Rep f F' w) qh ys -> ∀w1,A3 w.heap.size w w1 ->
   A6 AI 168 #[.pointer (some ⟨Mk,0,none⟩),.slice pa pl pc,qz,qr] w1 (CA Mk n M ops (B6 s xs ys) w1)):
  A6 AI 123 #[.pointer (some ⟨Mk,0,none⟩),.slice pa pl pc,av,bv] w (CA Mk n M ops (A9 n (f+1) s x y) w):=by
 have q4:=Ab (fun (w1:A2) (hb1:A3 w.heap.size w w1)=>ES (f+1) F F' w1 av bv x y (ha.bel hb1) (hb.bel hb1));have q8:=Ab (fun (w1:A2) (hb1:A3 w.heap.size w w1) (q:Addr) (hq:bv=.pointer (some q))=>JT (o:=(2,s,y)) (pa:=pa) (pl:=pl) (pc:=pc) (x:=some q) (h.bel hb1).1 hn ⟨rfl,by omega,hp.move fun k hk zb=>⟨hb1.block k zb,hk⟩,rfl,D0 ⟨by omega,by rw[<- hq];exact ((hb.bel hb1).move (by grind)).up hf⟩⟩);obtain⟨ab,ak,zh,zj,zi,zg,rfl,qd,a6,a5,aO,aA⟩:=Md ha;obtain⟨bb,bk,zn,zq,zo,zm,rfl,qe,b6,b5,bO,bA⟩:=Md hb;have zs:=qd.c0;have zt:=qe.c0;have qk:=qd.c6;have qn:=qe.c6;have q9:=qd.c5;have qb:=qe.c5;have HH:=Ab h;obtain⟨Q,hQ⟩:∃Q,Q=CA Mk n M ops (A9 n (f+1) s x y) w:=⟨_,rfl⟩
 rw[<- hQ];have HQ:=Ab hQ;by_cases hob:fI x=true/\fI y=true
 ·obtain⟨ex,ey⟩:=hob;obtain⟨xs,rfl⟩:∃xs,x=.map xs:=by
   cases x with
   | map xs=>grind
   | _=>cases ex
  obtain⟨ys,rfl⟩:∃ys,y=.map ys:=by
   cases y with
   | map ys=>grind
   | _=>cases ey
  obtain⟨m1,n1,D1,rfl,k1,o1,p1⟩:=aO _ rfl;obtain⟨m2,n2,D2,rfl,k2,o2,p2⟩:=bO _ rfl;have HC:=Ab (hO xs ys m1 n1 D1 m2 n2 D2 rfl rfl k1 k2 o1 p1 o2 p2);rw[ex] at a6;rw[ey] at b6;clear ha hb h hp qp qq hO hA aO aA bO bA k1 k2 o1 p1 o2 p2 qd qe a5 b5 q4 q8 hQ ex ey q9 qb
  go_enter func123,ntmps123
  go_wp2_with (fail)
  go_region_with (go_at_call 166;refine (Aa HC _ ?_).mono ?_;exact⟨rfl,rfl,rfl,A1 _,fun _ _=>rfl⟩;rintro e w2 ⟨rfl,hE⟩)
  all_goals (
   have HE:=Ab hE;clear hE
   go_wp2_with (fail);refine AS (AT rfl _ _ _) rfl ?_
   rw[Aa HQ];exact CA.low ⟨rfl,Aa HE⟩ ((Aa HH).bel (w':=w.drew) ⟨rfl,rfl,rfl,A1 _,fun _ _=>rfl⟩).2)
 ·have q5:=Ab (show ∀w1,A3 w.heap.size w w1->A9 n (f+1) s x y=(if veq x y=true then [] else [(2,s,y)]) -> ∀w2,A3 w1.heap.size w1 w2->(veq x y=true->Q (.returned (.tuple #[])) w2)/\(veq x y=false->A6 AI 169 #[.pointer (some ⟨Mk,0,none⟩),.int .i64 2,.slice pa pl pc,.pointer (some ⟨bb,0,none⟩)] w2 Q) from fun w1 hb1 hd w2 hb2=>by
   have qm:A3 w.heap.size w w2:=hb1.trans (hb2.mono hb1.size);obtain⟨h2,qw⟩:=h.bel qm;constructor
   ·intro hv;rw[hQ,hd,if_pos hv];exact⟨rfl,M,by grind,qw⟩
   ·intro hv;refine (Aa q8 w2 qm _ rfl).mono ?_;rintro e w3 ⟨rfl,k1,k2⟩;rw[hQ,hd,if_neg (by grind)];exact⟨rfl,M,k1,qw.trans k2⟩)
  by_cases qf:kJ x=true/\kJ y=true
  ·obtain⟨ex,ey⟩:=qf;obtain⟨xs,z1,rfl⟩:∃xs z,x=.slice xs z:=by
    cases x with
    | slice xs z=>grind
    | _=>cases ex
   obtain⟨ys,z2,rfl⟩:∃ys z,y=.slice ys z:=by
    cases y with
    | slice ys z=>grind
    | _=>cases ey
   obtain⟨rfl,qg,o1,_,l1⟩:=aA _ _ rfl;obtain⟨rfl,qh,o2,k2,l2⟩:=bA _ _ rfl;obtain⟨aa,ac,rfl⟩:=Cx o1;obtain⟨ba,bc,rfl⟩:=Cx o2;have zc:=qp _ _ rfl;have ze:=qq _ _ rfl;have HC:=Ab (fun za=>hA xs ys _ _ qg qh rfl rfl za o1 l1 o2 k2 l2);have qx:qg.length=xs.length:=l1.length;have qy:qh.length=ys.length:=l2.length;have q0:=Ab (RL h qd qe (by omega) (by omega));have q7:A9 n (f+1) s (.slice xs []) (.slice ys [])=if ((xs.length:Int)+1)*((ys.length:Int)+1)<=n then B6 s xs ys else if veq (.slice xs []:To) (.slice ys [])=true then [] else [(2,s,.slice ys [])]:=rfl
   rw[qx] at q9 HC q0;rw[qy] at qb HC q0;obtain⟨vq,qo⟩:∃vq,vq=veq (.slice xs []:To) (.slice ys []):=⟨_,rfl⟩
   rw[<- qo] at q4 q5 q7;have qv:=Ab q7;rw[ex] at a5;rw[ey] at b5;have zk:(ak==6)=false:=a6;have hal:=qd.lt;have z8:=qe.lt;clear ha hb h hp qp qq hO hA aO aA bO bA o1 o2 l1 l2 k2 qd qe a6 b6 q8 hQ hob ex ey qk qn qo q7 zc ze qx qy;by_cases hc:((xs.length:Int)+1)*((ys.length:Int)+1)<=n
   ·have q6:=decide_eq_true hc;rw[q6] at q0;have HD:=Ab (show A9 n (f+1) s (.slice xs []) (.slice ys [])=B6 s xs ys by rw[Aa qv,if_pos hc]);have z7:=Ab hc;clear hc q6 q4 q5
    go_enter func123,ntmps123
    go_wp2_with (fail);refine (Aa q0).mono ?_
    rintro e w2 ⟨rfl,hb2⟩;have zf:w2.cell? ⟨ab,5,none⟩=some (.slice aa xs.length ac):=(hb2.cell (p:=⟨ab,5,none⟩) hal).trans q9;have zl:w2.cell? ⟨bb,5,none⟩=some (.slice ba ys.length bc):=(hb2.cell (p:=⟨bb,5,none⟩) z8).trans qb;have qu:=Ab (show A3 w.heap.size w w2.drew from⟨hb2.os,hb2.tape,hb2.output,hb2.size,hb2.block⟩);have z6:=Ab (Aa HC (Aa z7) w2.drew (Aa qu));clear hb2 q0 HC
    go_wp2_with (fail)
    go_region_with (go_at_call 168;refine (Aa z6).mono ?_;rintro e w3 ⟨rfl,hE⟩)
    all_goals (
     have HE:=Ab hE;clear hE
     go_wp2_with (fail);refine AS (AT rfl _ _ _) rfl ?_
     rw[Aa HQ,Aa HD];exact CA.low ⟨rfl,Aa HE⟩ ((Aa HH).bel (w':=w2.drew) (Aa qu)).2)
   ·have q6:=decide_eq_false hc;rw[q6] at q0;have HD:=Ab (show A9 n (f+1) s (.slice xs []) (.slice ys [])=(if vq=true then [] else [(2,s,.slice ys [])]) by rw[Aa qv,if_neg hc]);clear hc q6 HC
    go_enter func123,ntmps123
    go_wp2_with (fail);refine (Aa q0).mono ?_
    rintro e w1 ⟨rfl,hb1⟩;have qt:=Ab hb1;clear hb1 q0
    go_wp2_with (fail);refine (Aa q4 _ (Aa qt)).mono ?_
    rintro e w2 ⟨rfl,hb2⟩;have qi:=Ab (Aa q5 w1 (Aa qt) (Aa HD) w2 hb2);clear hb2;cases vq with
    | true=>
     go_wp2_with (fail);refine AS (AT rfl _ _ _) rfl ?_
     exact (Aa qi).1 trivial
    | false=>
     go_wp2_with (fail);refine ((Aa qi).2 trivial).mono ?_
     intro e w3 hE;have qj:=hE;rw[Aa HQ] at qj;obtain⟨rfl,_⟩:=qj;have HE:=Ab hE;clear hE
     go_wp2_with (fail);refine AS (AT rfl _ _ _) rfl ?_
     exact Aa HE
  ·have HD:=Ab (show A9 n (f+1) s x y=(if veq x y=true then [] else [(2,s,y)]) by
    cases x<;>cases y<;>first|rfl|exact absurd ⟨rfl,rfl⟩ hob|exact absurd ⟨rfl,rfl⟩ qf)
   have hk:((ak==6)=true/\(bk==6)=false/\(ak==5)=false)\/((ak==6)=false/\(ak==5)=true/\(bk==5)=false)\/((ak==6)=false/\(ak==5)=false):=by
    grind
   obtain⟨vq,qo⟩:∃vq,vq=veq x y:=⟨_,rfl⟩
   rw[<- qo] at q4 q5 HD;clear ha hb h hp qp qq hO hA aO aA bO bA qd qe a5 b5 a6 b6 q8 hQ hob qf q9 qb qk qn qo;rcases hk with⟨e1,e2,e3⟩|⟨e1,e2,e3⟩|⟨e1,e2⟩;all_goals (
    go_enter func123,ntmps123
    go_wp2_with (fail);refine (Aa q4 _ ⟨rfl,rfl,rfl,A1 _,fun _ _=>rfl⟩).mono ?_
    rintro e w2 ⟨rfl,hb2⟩;have qi:=Ab (Aa q5 w ⟨rfl,rfl,rfl,A1 _,fun _ _=>rfl⟩ (Aa HD) w2 hb2);clear hb2;cases vq with
    | true=>
     go_wp2_with (fail);refine AS (AT rfl _ _ _) rfl ?_
     exact (Aa qi).1 trivial
    | false=>
     go_wp2_with (fail);refine ((Aa qi).2 trivial).mono ?_
     intro e w3 hE;have qj:=hE;rw[Aa HQ] at qj;obtain⟨rfl,_⟩:=qj;have HE:=Ab hE;clear hE
     go_wp2_with (fail);refine AS (AT rfl _ _ _) rfl ?_
     exact Aa HE)
end
theorem Ol{w:A2}{m n':Nat}{D:List (Lit×DataW CL)}{xs:List (Lit×To)}{k:By}(ho:w.ownsMap AI 9 RV m n' (.map D))(hp:Pt (Rep f F w) D xs)(hk:k.length<=1048576):
  ∃y,(match Aj xs (.string k) with|none=>y=none|some c=>Rep f F w (.pointer y) c/\y≠none) /\ ∀w',w'.heap[m]? = w.heap[m]? -> (Instr.lookup 109 (.map (some m)) (.string ⟨k.toArray⟩) false).run AI w'=.ok (.pointer y) w':=by
 have q5:=Bg ho;have hh:=hp.has (.string k);cases hc:has (.map D:DataW CL) (.string k) with
 | false=>
  have e1:Aj xs (.string k)=none:=by
   unfold Aj
   grind
  rw[e1];refine⟨none,rfl,fun w' q0=>?_⟩;obtain⟨v1,q4,r1,q1⟩:=(An ho q0).lookup BE underlying109 (B3 w') (zd:=.held (.pointer none)) (zp:=[]) rfl (ED k hk);obtain⟨rfl,_⟩:=Cg q1 (atKey_of_not_has hc _);exact r1
 | true=>
  obtain⟨y,e4,hy⟩:=hp.at (.string k) hc;obtain⟨b,rfl,_⟩:=Rep.ptr hy;have e1:Aj xs (.string k)=some ((DataW.map xs).atKey (.string k) .nil):=by
   unfold Aj
   grind
  rw[e1];refine⟨some ⟨b,0,none⟩,⟨hy,by simp⟩,fun w' q0=>?_⟩;obtain⟨v1,q4,r1,q1⟩:=(An ho q0).lookup BE underlying109 (B3 w') (zd:=.held (.pointer none)) (zp:=[]) rfl (ED k hk);obtain⟨rfl,_⟩:=Cg q1 (e4 _);exact r1
def Pw(ks:List By)(w:A2)(e:DD)(w':A2):Prop:=A3 w.heap.size w w'/\((ks=[] /\ ∃a c,e=.returned (.slice a 0 c)) \/ ∃g cap,e=.returned (.slice (some ⟨g,0,none⟩) ks.length cap)/\w.heap.size<=g/\ks.length<=cap/\cap<=maxLen/\SR w' g ks.length ks)
theorem K7(m:List By->To->To->List dX)(s:List By)(xs bs:List (Lit×To))(k:By):∀l:List By,AN m s xs bs (l++[k])=AN m s xs bs l++(match Aj xs (.string k),Aj bs (.string k) with
  | _,none=>[(1,s++[k],.nil)]
  | none,some y=>[(0,s++[k],y)]
  | some x,some y=>m (s++[k]) x y)
 | []=>by
  simp[AN];rfl
 | a::l=>by
  rw[List.cons_append,AN,K7 m s xs bs k l,AN,C2]
section
variable{Mk:Nat}{n:Int}{M:Nat->Prop}{ops:List dX}
def ObI(Mk:Nat)(n:Int)(M:Nat->Prop)(ops:List dX)(m:List By->To->To->List dX)(s:List By)(xs ys:List (Lit×To))(ks:List By)(w1:A2)(t:Nat)(wr:A2):Prop:=
 ∃M',MkD wr Mk n M' (ops++AN m s xs ys (ks.take t))/\JEx M M' w1 wr
theorem Oz{F':Nat->Prop}{w:A2}{m1 n1 m2 n2:Nat}{D1 D2:List (Lit×DataW CL)}{xs ys:List (Lit×To)}{m:List By->To->To->List dX}{s:List By}(h:MkD w Mk n M ops)(hf:f<=top)(hF:∀k,F k->M k)(zb:∀k,F' k->M k)(zi:M m1)(zj:M m2)(o1:w.ownsMap AI 9 RV m1 n1 (.map D1))(p1:Pt (Rep f F w) D1 xs)(o2:w.ownsMap AI 9 RV m2 n2 (.map D2))(p2:Pt (Rep f F' w) D2 ys)(hp:Aw w M (.slice pa pl pc) s)(zk:s.length<=100000000)(qg:s=[] -> ∃c,(Value.slice pa pl pc)=.slice none 0 c)(ks:List By)(zg:∀k∈ks,k.length<=1048576)(zz:ks.length<=1000000)(hn:∀t,(ops++AN m s xs ys (ks.take t)).length<=1000000000)(hK:A6 AI 208 #[.map (some m1),.map (some m2)] w (Pw ks w))(hV:∀k∈ks,∀x y,Aj xs (.string k)=some x->Aj ys (.string k)=some y -> ∀M1 wr xv yv qa ql qc ops',(∃t,ops'=ops++AN m s xs ys (ks.take t))->MkD wr Mk n M1 ops'->JEx M M1 w wr->Rep f F wr xv x->Rep f F' wr yv y->Aw wr M1 (.slice qa ql qc) (s++[k])->A6 AI 123 #[.pointer (some ⟨Mk,0,none⟩),.slice qa ql qc,xv,yv] wr (CA Mk n M1 ops' (m (s++[k]) x y) wr)):
  A6 AI 166 #[.pointer (some ⟨Mk,0,none⟩),.slice pa pl pc,.map (some m1),.map (some m2)] w (CA Mk n M ops (AN m s xs ys ks) w):=by
 have HH:=Ab h;have qp:=Ab (CH hF zb);have HM:=Ab (CH zi zj);have HO:=Ab (CH o1 o2);have HP:=Ab (CH p1 p2);have zr:=Ab hp;have zs:=Ab zk;have zq:=Ab qg;have zn:=Ab zg;have HN:=Ab hn;have HK:=Ab hK;have HV:=Ab hV;obtain⟨Q,hQ⟩:∃Q,Q=CA Mk n M ops (AN m s xs ys ks) w:=⟨_,rfl⟩
 rw[<- hQ];have HQ:=Ab hQ;clear h hF zb zi zj o1 o2 p1 p2 hp zk qg zg hn hK hV hQ
 go_enter func166,ntmps166
 go_wp2_with (fail);refine (Aa HK).mono ?_
 rintro e w1 ⟨hb1,hk⟩;rcases hk with⟨rfl,a,c,rfl⟩|⟨g,cap,rfl,hg,zx,y8,qy⟩
 ·have q7:=Ab (show Q (.returned (.tuple #[])) w1 from by
   obtain⟨h1,h2⟩:=(Aa HH).bel hb1;rw[Aa HQ];exact⟨rfl,M,by simpa[AN] using h1,h2⟩)
  clear hb1 HK HV
  go_wp2_with (fail);refine wp_loop_rounds 1 ?_
  rw[rounds_succ]
  go_wp2_with (fail);exact AS (AT rfl _ _ _) rfl (Aa q7)
 ·have zy:g<w1.heap.size:=by obtain⟨cur,hc,_⟩:=qy;grind
  obtain⟨h1,qr⟩:=(Aa HH).grow hb1 (fun j=>w.heap.size<=j/\j<w1.heap.size) (fun _ h=>h);obtain⟨M1,qk⟩:∃M1,M1=fun j=>M j\/(w.heap.size<=j/\j<w1.heap.size):=⟨_,rfl⟩
  rw[<- qk] at h1 qr;have y7:=Ab (show ObI Mk n M1 ops m s xs ys ks w1 0 w1 from⟨M1,by simpa[AN] using h1,JEx.refl _ _⟩);have HG:=Ab (show M1 g from by rw[qk];exact D0 ⟨hg,zy⟩);have zt:=Ab qy;have z6:=Ab qr;have HE:=Ab qk;have y6:=Ab hb1;clear h1 qr qy hb1 qk HK;have yb:(ks.length:Int)<=1000000:=by omega
  go_wp2_with (fail)
  go_loopw [17] (fun i wr=>∃t:Nat,t<=ks.length/\i=.int .i64 t/\Hid (ObI Mk n M1 ops m s xs ys ks w1 t wr)) (fun i _=>ks.length-(intOf i).toNat)
  case atStart=>grind
  case round=>
   obtain⟨t,ht,rfl,HI⟩:=hrel;by_cases hlt:t<ks.length
   ·obtain⟨M',hD,hX⟩:=Aa HI;have qb:=(Aa z6).trans hX;have ck:wr.cell? ⟨g,t,none⟩=some (.string ⟨ks[t].toArray⟩):=(CD (a:=⟨g,t,none⟩) (hX.kept g (Aa HG)).2).trans ((Aa zt).cell t hlt);have qm:ks[t]∈ks:=List.getElem_mem hlt;obtain⟨k,hk⟩:∃k,k=ks[t]:=⟨_,rfl⟩
    rw[<- hk] at ck qm;have qu:=Aa zn k qm;obtain⟨y1,q5,l1⟩:=Ol (Aa HO).1 (Aa HP).1 qu;obtain⟨y2,q0,l2⟩:=Ol (Aa HO).2 (Aa HP).2 qu;have L1:=l1 wr.drew ((qb.kept m1 (Aa HM).1).2);have L2:=l2 wr.drew ((qb.kept m2 (Aa HM).2).2);have z1:=Ab (Jh (w:=wr.drew) (G:=M') (t:=k) ((Aa zr).move fun j hj _=>⟨(qb.kept j hj).2,(qb.kept j hj).1⟩) (Aa zs) (Aa zq));have ze:A3 wr.heap.size wr wr.drew:=⟨rfl,rfl,rfl,A1 _,fun _ _=>rfl⟩
    have zm:=Ab (hD.bel ze);have zw:=Ab qb;have zv:=Ab hX;have q6:ks.take (t+1)=ks.take t++[k]:=by simp_all
    have zu:=Ab q6;have zo:=Ab qm;have qv:(t:Int)<(ks.length:Int):=by omega
    have y3:(t:Int)<(cap:Int):=by omega
    have z7:=Ab q5;have z8:=Ab q0;clear hD hX qb qm qu l1 l2 q5 q0 hk ze q6
    go_upto_region 3 with (fail)
    go_cut [10,11] (fun y4 y5 wx=>y4=.pointer y1/\y5=.pointer y2/\wx=wr.drew)
    case first=>
     go_region
     all_goals (
      go_wp2_with (fail)
      go_meet
      grind)
    case rest=>
     obtain⟨rfl,rfl,rfl⟩:=hcut;clear L1 L2
     go_wp2_with (fail);refine (Aa z1).mono ?_
     rintro e w2 ⟨g',qq,rfl,y9,htk,hb2⟩;obtain⟨zf,qz⟩:=Aa zm;obtain⟨qt,qn⟩:=zf.grow hb2 (fun j=>wr.heap.size<=j/\j<w2.heap.size) (fun _ h=>h);obtain⟨M2,za⟩:∃M2,M2=fun j=>M' j\/(wr.heap.size<=j/\j<w2.heap.size):=⟨_,rfl⟩
     rw[<- za] at qt qn;have zc:JEx M M2 w w2:=(Aa zw).trans (qz.trans qn);have qe:JEx M1 M2 w1 w2:=(Aa zv).trans (qz.trans qn);have qi:Aw w2 M2 (.slice (some ⟨g',0,none⟩) (s.length+1) qq) (s++[k]):=htk.move fun j hj ya=>⟨rfl,by simp_all⟩
     have q9:=Ab (fun (j:List dX) (w3:A2) (q:∃M3,MkD w3 Mk n M3 (ops++AN m s xs ys (ks.take t)++j)/\JEx M2 M3 w2 w3) (hj:(match Aj xs (.string k),Aj ys (.string k) with
       | _,none=>[(1,s++[k],.nil)]
       | none,some y=>[(0,s++[k],y)]
       | some x,some y=>m (s++[k]) x y)=j)=>show ObI Mk n M1 ops m s xs ys ks w1 (t+1) w3 from by
      obtain⟨M3,q1,q2⟩:=q;refine⟨M3,?_,qe.trans q2⟩;rw[Aa zu,K7,<- C2,hj];exact q1)
     have zh:=Aa HN t;have qo:=Ab qt;have q8:=Ab qi;have qj:=Ab zc;clear zf qz qt qn za zc qe qi htk hb2 z1;cases hgy:Aj ys (.string k) with
     | none=>
      have q0:=Aa z8;rw[hgy] at q0;obtain rfl:y2=none:=q0;have HL:=Ab (JT (o:=(1,s++[k],.nil)) (pa:=some ⟨g',0,none⟩) (x:=none) (Aa qo) zh ⟨rfl,by omega,Aa q8,rfl,Dt ⟨rfl,rfl⟩⟩);have HJ:=Ab (fun w3 (q:∃M3,MkD w3 Mk n M3 (ops++AN m s xs ys (ks.take t)++[(1,s++[k],.nil)])/\JEx M2 M3 w2 w3)=>Aa q9 _ w3 q (by rw[hgy]));clear hgy q9 HV
      go_wp2_with (fail);refine (Aa HL).mono ?_
      rintro e w3 ⟨rfl,k1,k2⟩;have qd:=Ab (Aa HJ w3 ⟨M2,k1,k2⟩);clear k1 k2
      go_wp2_with (fail);exact⟨⟨t+1,by omega,by go_num,qd⟩,by simp[intOf];omega⟩
     | some c2=>
      have q0:=Aa z8;rw[hgy] at q0;obtain⟨qx,qf⟩:=(show Rep f F' w (.pointer y2) c2/\y2≠none from q0)
      obtain⟨b2,rfl⟩:∃b2,y2=some b2:=by
       cases y2 with
       | none=>simp_all
       | some b2=>simp_all
      have q4:Rep f F' w2 (.pointer (some b2)) c2:=qx.move fun j hj _=>⟨((Aa qj).kept j ((Aa qp).2 j hj)).2,hj⟩
      cases hgx:Aj xs (.string k) with
      | none=>
       have q5:=Aa z7;rw[hgx] at q5;obtain rfl:y1=none:=q5;have HL:=Ab (JT (o:=(0,s++[k],c2)) (pa:=some ⟨g',0,none⟩) (x:=some b2) (Aa qo) zh ⟨rfl,by omega,Aa q8,rfl,D0 ⟨by omega,(q4.move fun j hj _=>⟨rfl,((Aa qj).kept j ((Aa qp).2 j hj)).1⟩).up hf⟩⟩);have HJ:=Ab (fun w3 (q:∃M3,MkD w3 Mk n M3 (ops++AN m s xs ys (ks.take t)++[(0,s++[k],c2)])/\JEx M2 M3 w2 w3)=>Aa q9 _ w3 q (by simp_all));clear hgy hgx q9 HV q0 qx q4 qf
       go_wp2_with (fail);refine (Aa HL).mono ?_
       rintro e w3 ⟨rfl,k1,k2⟩;have qd:=Ab (Aa HJ w3 ⟨M2,k1,k2⟩);clear k1 k2
       go_wp2_with (fail);exact⟨⟨t+1,by omega,by go_num,qd⟩,by simp[intOf];omega⟩
      | some c1=>
       have q5:=Aa z7;rw[hgx] at q5;obtain⟨zl,qw⟩:=(show Rep f F w (.pointer y1) c1/\y1≠none from q5)
       obtain⟨b1,rfl⟩:∃b1,y1=some b1:=by
        cases y1 with
        | none=>simp_all
        | some b1=>simp_all
       have qh:Rep f F w2 (.pointer (some b1)) c1:=zl.move fun j hj _=>⟨((Aa qj).kept j ((Aa qp).1 j hj)).2,hj⟩
       have HL:=Ab (Aa HV k (Aa zo) c1 c2 hgx hgy M2 w2 _ _ _ _ _ _ ⟨t,rfl⟩ (Aa qo) (Aa qj) qh q4 (Aa q8));have HJ:=Ab (fun w3 (q:∃M3,MkD w3 Mk n M3 (ops++AN m s xs ys (ks.take t)++m (s++[k]) c1 c2)/\JEx M2 M3 w2 w3)=>Aa q9 _ w3 q (by simp_all));clear hgy hgx q9 HV q0 q5 qx q4 qf zl qh qw
       go_wp2_with (fail);refine (Aa HL).mono ?_
       rintro e w3 ⟨rfl,k1⟩;have qd:=Ab (Aa HJ w3 k1);clear k1
       go_wp2_with (fail);exact⟨⟨t+1,by omega,by go_num,qd⟩,by simp[intOf];omega⟩
   ·obtain rfl:t=ks.length:=by omega
    have qv:¬ ((ks.length:Nat):Int)<((ks.length:Nat):Int):=by omega
    have q7:=Ab (show Q (.returned (.tuple #[])) wr from by
     obtain⟨M',h1,h2⟩:=Aa HI;rw[List.take_length] at h1;rw[Aa HQ];exact⟨rfl,M',h1,(Aa z6).trans h2⟩)
    clear HV
    go_wp2_with (fail);exact AS (AT rfl _ _ _) rfl (Aa q7)
end
def Lk(j:List dX)(w:A2)(e:DD)(w':A2):Prop:=A3 w.heap.size w w' /\ ∃mv xs M,e=.returned mv/\w'.ownsRow 0 178 4 mv j.length xs/\(∀g,mv.ownBlock=some g -> ¬ M g)/\Dc w' M xs j
theorem ZZ(w:A2)(n:Int):MkD (w.alloc (.cells #[.int .i64 n,.slice none 0 0] 187)) w.heap.size n (fun k=>k<w.heap.size) []:=
 ⟨⟨.slice none 0 0,[],heap_alloc_new w _,⟨rfl,Dt ⟨rfl,rfl⟩⟩,fun g hg=>by grind [BY],trivial⟩,fun k hk=>by simp;omega,by omega⟩
theorem Ns{w:A2}{av bv:CL}{n:Int}(hV:A6 AI 123 #[.pointer (some ⟨w.heap.size,0,none⟩),.slice none 0 0,av,bv] (w.alloc (.cells #[.int .i64 n,.slice none 0 0] 187)) (CA w.heap.size n (fun k=>k<w.heap.size) [] j (w.alloc (.cells #[.int .i64 n,.slice none 0 0] 187)))):
  A6 AI 88 #[av,bv,.int .i64 n] w (Lk j w):=by
 have HV:=Ab hV;have HB:=Ab (show A3 w.heap.size w (w.alloc (.cells #[.int .i64 n,.slice none 0 0] 187)) from (D3 _ _).alloc (A1 _) _);obtain⟨Q,hQ⟩:∃Q,Q=Lk j w:=⟨_,rfl⟩
 rw[<- hQ];have HQ:=Ab hQ;clear hV hQ
 go_enter func88,ntmps88
 go_wp2_with (fail);refine (Aa HV).mono ?_
 rintro e w2 ⟨rfl,M',hD,hX⟩;obtain⟨mv,xs,g1,g2,g3,g4⟩:=hD.ex;have c1:w2.cell? ⟨w.heap.size,1,none⟩=some mv:=by simp[Dp,g1]
 have q0:=Ab (show Q (.returned mv) w2 from by
  rw[Aa HQ];exact⟨⟨hX.os.trans (Aa HB).os,hX.tape.trans (Aa HB).tape,hX.output.trans (Aa HB).output,by grind,fun k hk=>((hX.kept k hk).2).trans ((Aa HB).block k hk)⟩,mv,xs,M',rfl,by grind,fun g hg=>(g3 g hg).1,by grind⟩)
 clear hD hX g1 g2 g3 g4 HV
 go_wp2_with (fail);exact Aa q0
theorem Lk.inv{w w':A2}{e:DD}(h:Lk j w e w')(hl:(Br j).length<=8796093022208)(q0:∀o∈j,jK o):A3 w.heap.size w w' /\ ∃mv,e=.returned mv/\GF w' (fun _=>True) mv (some j):=by
 obtain⟨h1,mv,xs,M,h2,h3,_,h5⟩:=h;exact⟨h1,mv,h2,⟨xs,h3,fun _ _=>trivial,h5.move (by grind)⟩,hl,q0⟩
theorem Tm{S:Nat}{d e n:Int}{p:CL}{v:To×eL}{p2:Option Addr}{w:A2}(hS:SB w S d e n p)(hD:Bl w F p d e (some v))(hT:Ai w)(hl:(Br j).length<=8796093022208)(qh:∀o∈j,jK o)(hP:∀D R wp,p=.pointer (some ⟨D,0,none⟩)->Eg w F D R wp d e v -> ∀w1,A3 w.heap.size w w1->A6 AI 88 #[wp,.pointer p2,.int .i64 n] w1 (Lk j w1)):
  A6 AI 62 #[.pointer (some ⟨S,0,none⟩),.pointer p2] w fun x w'=>x=.returned (Ax (0,0,Br j))/\A3 w.heap.size w w':=by
 obtain⟨D,R,wp,rfl,qd⟩:=hD;obtain⟨T,a,iv,h1,h2,h3⟩:=qd.ex;obtain⟨W0,q8⟩:∃W0,W0=w.alloc (.cells #[.int .i64 0,.int .i64 0,.string ⟨#[]⟩] 46):=⟨_,rfl⟩
 have q0:A3 w.heap.size w W0:=by rw[q8];exact (D3 _ _).alloc (A1 _) _
 have qi:W0.heap.size=w.heap.size+1:=by simp_all
 have hab:AB W0 w.heap.size:=by rw[q8];exact AB.new w
 have q9:=hS.low q0;have c2:=q9.c2;have c3:=q9.c3;have q7:CX W0 D R wp (.slice none 0 0) iv v.2.isSome T a v.1:=h1.move (q0.block D h1.db.lt) fun k hk=>q0.block k (h1.tr.lt k hk);obtain⟨b,rfl,_⟩:=q7.sub.ptr;have HW:=Ab (fun w1 (hb:A3 W0.heap.size W0 w1)=>Dw (q7.move (hb.block D q7.db.lt) fun k hk=>hb.block k (q7.tr.lt k hk)));have HP:=Ab (fun w1 (hb:A3 W0.heap.size W0 w1)=>hP D R _ rfl qd w1 (q0.trans (hb.mono q0.size)));have qf:=Ab (fun (w3:A2) (mv:CL) (hb:A3 W0.heap.size W0 w3) (hi:GF w3 (fun _=>True) mv (some j))=>NO hi ((hT.below (q0.mono hT.ng)).below (hb.mono (Nat.le_trans hT.ng q0.size))));have q6:=Ab (CH hl qh);have qj:=Ab hab;have qe:=Ab q0;have qn:=Ab q9;have HZ:=Ab qi;have qg:=Ab q8;rw[q8] at c2 c3;obtain⟨A,hA⟩:∃A,A=Br j:=⟨_,rfl⟩
 rw[<- hA] at qf |-;have hsl:=hS.lt;clear hS hT hl qh hP qd h1 h2 h3 q0 hab q9 q7 qi hA q8
 go_enter func62,ntmps62
 go_upto_region 1 with (fail)
 rw[<- Aa qg];rw[<- Aa qg] at c2 c3
 go_region_with (first
  | (go_at_call 56;refine (Aa HW _ ?_).mono ?_;exact⟨rfl,rfl,rfl,A1 _,fun _ _=>rfl⟩;rintro x w2 ⟨rfl,hb2⟩;replace hb2:A3 W0.heap.size W0 w2:=⟨hb2.os,hb2.tape,hb2.output,hb2.size,hb2.block⟩;have d2:=((Aa qn).low hb2).c2;have q4:=Ab hb2;clear hb2)
  | (go_at_call 88;refine (Aa HP _ ?_).mono ?_;exact⟨(Aa q4).os,(Aa q4).tape,(Aa q4).output,(Aa q4).size,(Aa q4).block⟩;rintro e w3 hx;obtain⟨hb3,mv,rfl,hi⟩:=hx.inv (Aa q6).1 (Aa q6).2;replace hb3:A3 W0.heap.size W0 w3:=(Aa q4).trans (Below.mono (by omega) (Aa q4).size);have q5:=Ab hb3;have HI:=Ab hi;clear hb3 hi hx)
  | (go_at_call 87;refine (Aa qf _ _ ?_ (Aa HI)).mono ?_;exact Aa q5;rintro e w4 ⟨rfl,qb⟩;have a4:=(Aa qj).low (((Aa q5).trans (qb.mono (Aa q5).size)).mono (by omega));have g0:=a4.c0;have g1:=a4.c1;have g2:=a4.c2;have z:=a4.fz;have qk:=Ab qb;clear qb a4))
 all_goals (
  have qm:=Ab ((Aa qe).trans (((Aa q5).trans ((Aa qk).mono (Aa q5).size)).mono (Aa qe).size))
  go_wp2_with (fail);refine bodyPost_ret (v:=Ax (0,0,A)) (by simp[results,results62,go_sem,Ax,g0,g1,g2]) rfl ?_
  exact⟨rfl,(AR.of3 w.heap.size w4 _ _ _).below (Aa qm) (A1 _)⟩)
end Go.Proofs.YtdpomdelmdofmaaGreatDoor
