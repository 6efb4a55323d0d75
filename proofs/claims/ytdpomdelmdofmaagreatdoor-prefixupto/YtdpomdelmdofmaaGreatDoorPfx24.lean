import Derived.Test.YtdpomdelmdofmaaGreatDoorPfx23
import Derived.Lib.OwnBridge
import Derived.Laws.CopyOwn
import Derived.Laws.AppendOwn
import Derived.Lib.AppendZerosOnto
open Go.Value renaming pointer->AI,slice->HM
open Go.Proofs.Tryz renaming prog->AS
open Go.Builtin renaming zeroCells->AT,copy_->Dp
open Go renaming splice->A1,Value->A3,maxLen->CD,World->CR,grownCap->D0,run_copy_row->D1,setRow_heap->G0,TypeId->G3,Calls->HE
open Go.Extern.SlicesOverlaps renaming overlaps->A2
open List renaming getElem?_drop->A4,getElem?_map->A5,take->A6,drop->Bs,length_cons->BY,drop_of_length_le->CH,length_nil->CL,getElem?_take->Dt,size_toArray->D2,length_take->Ft,drop_append->F1,nil_append->G2,take_take->HA,map_cons->HD
open Go.World renaming cell?->C1,cell?_of_block->C2,frozen?->HB,shape?->HF,setRow->HI
open Go.Sem renaming run->DD,pure->HK
open Go.Maps renaming has->D3
open Go.IntKind renaming wrap_i64->E0
open Nat renaming le_refl->F2,min_def->F5,min_eq_left->G1,zero_add->HH,zero_le->HP,mul_one->HR
open Go.Addr renaming add_lit->HG
open Go.Sort renaming putRow->HJ,ahead->HS
open Go.DataW renaming map->HT
set_option maxRecDepth 100000
set_option maxHeartbeats 8000000
namespace Go.Proofs.YtdpomdelmdofmaaGreatDoor
open Go.Proofs.Tryz Go.RowKit Go.Maps
variable{P:Program}{w:CR}{i g q c f:Nat}{x:A3}{n:Zf}{t:By}
theorem Fi:(Tryz.prog.info? 80).map (fun i=>(i.zero,i.size,i.bytes))=some (some (.pointer none),1,8):=by kernel_rfl
theorem D6{e:G3}{z:A3}{s b:Nat}(h:(P.info? e).map (fun i=>(i.zero,i.size,i.bytes))=some (some z,s,b)):∃i,P.info? e=some i/\i.zero=some z/\i.size=s/\i.bytes=b:=by
 simp_all
theorem QA{ops:Array Oper}{Q:Exit->Act->CR->Prop}{rest:List Oper}{a:Act}{d:Option Nat}{x:Array Operand}{ts:Array G3}{ty:G3}{ps:String}{af:Array Edge}{g:Option (Nat×Bool)}(h:wpList P ops Q ({ dst:=d,op:=.call { callee:=.builtin .copy,args:=x,argTypes:=ts },type:=ty,pos:=ps,after:=af,guard:=g }::rest) a w):
  wpList P ops Q ({ dst:=d,op:=.call { callee:=.builtin .copy,args:=x,argTypes:=ts },type:=ty,pos:=ps,after:=af,guard:=g }::rest) a w:=h
theorem Nb{α:Type}[Inhabited α](enc:α->A3)(w:CR)(g q:Nat)(d:Array α):w.grownBy (HJ enc (HS w q) g 0 d) (some g):=
 ⟨rfl,rfl,rfl,by simp_all,fun k _ q0=>by
  grind [HJ,Sort.mapBlock,HS]⟩
theorem Ym{sl:A3}{l:List (Option Addr)}(ho:w.ownsRow 0 80 1 sl l.length (l.map AI))(hi:i<l.length):
  ∃g cap,sl=.slice (some ⟨g,0,none⟩) l.length cap/\HE AS 290 #[sl,.int .i64 i,.int .i64 ((i+1:Nat):Int)] w fun e w'=>
   e=.returned (.slice (some ⟨g,0,none⟩) (l.length-1) cap)/\w'.ownsRow 0 80 1 (.slice (some ⟨g,0,none⟩) (l.length-1) cap) (l.length-1) ((ZN i l).map AI)/\w.grownBy w' (some g):=by
 obtain⟨g,cap,rfl,_,hg,hn,hm,_,hH⟩:=Lib.holds_of_ownsRow ho (by
  rintro rfl;rcases ho.2 with⟨_,h⟩|⟨g,cap,cur,h,_⟩
  ·omega
  ·cases h)
 refine⟨g,cap,rfl,?_⟩;obtain⟨i0,q4,_,q0,_⟩:=D6 Fi;have hc:=AnyE.slices_Delete Tryz.eDelete (α:=Option Addr) AI (fun _=>rfl) none Tryz.zeroValue80 i0 q4 q0 g 0 cap i (i+1) l.toArray w hH (by omega) (by simp[CD] at hm;omega) (by omega) (by simp;omega);refine hc.mono ?_;rintro e w' ⟨rfl,q,rfl⟩;have q5:(ZN i l).length=l.length-1:=by have:=IZ hi;omega
 have e2:l.toArray.toList.take i++l.toArray.toList.drop (i+1)++List.replicate (i+1-i) (none:Option Addr)=ZN i l++[none]:=by
  simp[ZN,show i+1-i=1 by omega]
 rw[e2];refine⟨by grind,?_,Nb _ _ _ _ _⟩;have h2:=Lib.ownsRow_putRow (q:=q) (k:=l.length-1) ho (ys:=ZN i l++[none]) (by grind) (by omega)
 grind
theorem Kr{off n:Nat}{cur:Array A3}{t t':G3}(hg:w.heap[g]? = some (.cells cur t (0,0)))(hq:w.heap[q]? = some (.cells #[x] t' (0,0)))(q7:q≠g):
  DD AS (A2 #[106,106] #[4] #[.slice (some ⟨q,0,none⟩) 1 1,.slice (some ⟨g,off,none⟩) n c]) w=.ok (.bool false) w:=by
 have f1:∀o,w.frozen? ⟨q,o,none⟩=false:=fun o=>by simp[HB,hq]
 have f2:∀o,w.frozen? ⟨g,o,none⟩=false:=fun o=>by simp[HB,hg]
 have q6:(q != g)=true:=by grind
 have q0:(q==g)=false:=by grind
 have r1:∀a,DD AS (Sem.frozen a HK) w=.ok (w.frozen? a) w:=fun a=>by rfl
 have r2:DD AS (Sem.shape q HK) w=.ok (some (t',1)) w:=by simp[DD,HF,hq]
 have r3:DD AS (Sem.shape g HK) w=.ok (some (t,cur.size)) w:=by simp[DD,HF,hg]
 obtain⟨i0,q5,_,q4,_⟩:=D6 Fi;have u:=underlying106;rw[show A2 #[106,106] #[4] #[.slice (some ⟨q,0,none⟩) 1 1,.slice (some ⟨g,off,none⟩) n c]=(underlying 106 >>= _) from rfl];simp[run_underlying u,r1,r2,r3,sizeOf,typeInfo,q5,q4,frozen,f1,f2,q6,q0,noView,viewAt,mayBeOne,stringish,shape,Result.andThen]
theorem MH{off n:Nat}{cur:Array A3}{t t':G3}(hg:w.heap[g]? = some (.cells cur t (0,0)))(hq:w.heap[q]? = some (.cells #[x] t' (0,0)))(q0:q≠g):
  (callFunc 310 #[.slice (some ⟨q,0,none⟩) 1 1,.slice (some ⟨g,off,none⟩) n c]).run AS w=.ok (.value (.bool false)) w:=by
 rw[run_callFunc_extern (e:=A2 #[106,106] #[4]) func310 (by kernel_rfl) rfl (by kernel_rfl) (by kernel_rfl),Kr hg hq q0];rfl
def FA(l:List (Option Addr))(i:Nat)(x:Option Addr)(sl:A3)(w:CR)(e:Ending)(w':CR):Prop:=
 ∃g cap,e=.returned (.slice (some ⟨g,0,none⟩) (l.length+1) cap)/\w'.ownsRow 0 80 1 (.slice (some ⟨g,0,none⟩) (l.length+1) cap) (l.length+1) ((ZS i x l).map AI)/\w.grownBy w' sl.ownBlock/\(sl.ownBlock=some g\/w.heap.size<=g)
section
variable{w:CR}{sl:A3}{l:List (Option Addr)}{x:Option Addr}{q:Nat}
theorem Wx(ho:w.ownsRow 0 80 1 sl l.length (l.map AI))(hq:w.heap[q]? = some (.cells #[.pointer x] 80 (0,0)))(hb:l.length<=1000000000000):
  HE AS 291 #[sl,.int .i64 l.length,.slice (some ⟨q,0,none⟩) 1 1] w (FA l l.length x sl w):=by
 obtain⟨i0,qb,hz0,q9,hz2⟩:=D6 Fi;obtain⟨N,hN⟩:∃N,N=l.length:=⟨_,rfl⟩
 obtain⟨a,c,rfl⟩:∃a c,sl=.slice a l.length c:=by
  rcases ho.2 with⟨h,h2⟩|⟨g,cap,cur,h,_⟩
  ·grind
  grind
 have q5:l.length<=c:=by
  rcases ho.2 with⟨h,h2⟩|⟨g,cap,cur,h,_,_,h3,_⟩
  ·omega
  grind
 have q0:w.cell? ⟨q,0,none⟩=some (.pointer x):=by simp[C1,hq]
 have qf:(N:Int)<=9223372036854775807:=by omega
 have q8:=Ab (show ∀g cap w',w'.ownsRow 0 80 1 (.slice (some ⟨g,0,none⟩) (N+1) cap) (N+1) (l.map AI++[.pointer x])->w.grownBy w' (HM a N c).ownBlock->((HM a N c).ownBlock=some g\/g=w.heap.size)->FA l N x (.slice a N c) w (.returned (.slice (some ⟨g,0,none⟩) (N+1) cap)) w' from fun g cap w' h1 h2 h3=>by
  refine⟨g,cap,by rw[hN],?_,h2,by grind⟩
  grind [ZS,CD,List.take_length])
 rw[<- hN] at ho |-;have HO:=Ab ho;have HL:=Ab (show (l.map AI).length=N by simp[hN]);have qd:N<=c:=by omega
 have qe:c<=CD:=by
  rcases ho.2 with⟨h,_⟩|⟨g,cap,cur,h,_,_,_,h4,_⟩
  ·grind
  grind
 have qg:N<=1000000000000:=by omega
 have q7:(c=N) \/ ¬ c=N:=Classical.em _;clear ho q5 hN hq hb;rcases q7 with q7|q7;all_goals go_enter func291,ntmps291
 all_goals go_wp2_with (at_builtin;refine wpList_append_lies _ rfl _ _ 106 rfl 0 80 i0 (.pointer none) 1 8 underlying106 qb hz0 q9 hz2 rfl (by decide) _ _ _ rfl (Aa HO) ⟨q,0,none⟩ 1 1 [.pointer x] rfl rfl (fun j u hj=>by
   cases j with
   | zero=>injection hj with hj;subst hj;exact q0
   | succ j=>simp at hj) (fun u hu=>by simp at hu;subst hu;rfl) (by decide) (by unfold CD;omega) (by omega) (by omega) w.heap.size rfl ?_;intro g2 q4 w2 h1 h2 h3 _;have q6:=Ab (Aa q8 g2 q4 w2 h1 h2 h3);clear h1 h2 h3)
 all_goals (go_ret;exact Aa q6)
end
theorem Ma{ops:Array Oper}{rest:List Oper}{o:Oper}{a:Act}{Q:Exit->Act->CR->Prop}(qf:o.guard=none)(s x:Operand)(t tn e:G3)(i:TypeInfo)(z:A3)(kn kq:IntKind)(ho:o.op=.call { callee:=.builtin .append,args:=#[s,x],argTypes:=#[t,tn] })(ht:P.underlying t=some (.slice e))(qi:P.underlying tn=some (.int kn))(hi:P.info? e=some i)(hz:i.zero=some z)(qg:i.size=1)(qk:i.bytes=8)(qd:z.cells.size=1)(g off q0 q4:Nat)(hs:a.eval s=.slice (some ⟨g,off,none⟩) q0 q4)(q5:List A3)(hl:q5.length=q0)(hold:∀j u,q5[j]? = some u->w.cell? ((⟨g,off,none⟩:Addr).add j)=some u)(k:Nat)(h0:0<k)(hx:a.eval x=.int kq k)(hg:q4<q0+k)(qm:q0+k<=10000000000000)(q7:Nat)(qb:q0+k=q7)(h:∀q6 (cur:List A3) w1,q7<=q6->q6<=CD->cur.length=q6->cur.take q0=q5->Hid (w1.heap[w.heap.size]? = some (.cells cur.toArray e (0,0)))->Below w.heap.size w w1->wpList P ops Q rest (a.put o.dst (.slice (some ⟨w.heap.size,0,none⟩) q7 q6)) w1):wpList P ops Q (o::rest) a w:=by
 subst qb;refine wpList_plain qf fun K hK=>?_;have qj:(Builtin.firstCells i.size q0 (.slice (some ⟨g,off,none⟩) q0 q4)).run P w.drew=.ok q5.toArray w.drew:=by
  rw[qg];exact run_firstCells_some w.drew 1 q0 ⟨g,off,none⟩ q0 q4 q5 (by omega) hold
 have q8:=growslice_fits (bytes:=i.bytes) hg (by grind);have hr:=Lib.run_append_grow_zeros (P:=P) w t tn o.type e i z kq kn ht qi hi hz (some ⟨g,off,none⟩) q0 q4 q5 qj k h0 (by omega) hg (by omega) (by grind) q8;have qe:=grownCap_ge w (q0+k) q4 e;have qh:D0 w (q0+k) q4 e<=CD:=grownCap_le_maxLen w (q0+k) q4 e (by unfold CD;omega);have q9:=h _ (q5++(AT z.cells k++AT z.cells (D0 w (q0+k) q4 e-(q0+k))).toList) (w.drew.alloc (.cells (q5.toArray++AT z.cells k++AT z.cells (D0 w (q0+k) q4 e-(q0+k))) e)) qe qh (by
   simp only[List.length_append,Array.length_toList,Array.size_append,size_zeroCells,qd];omega) (by grind) (by
   have e1:(q5++(AT z.cells k++AT z.cells (D0 w (q0+k) q4 e-(q0+k))).toList).toArray=q5.toArray++AT z.cells k++AT z.cells (D0 w (q0+k) q4 e-(q0+k)):=by
    grind
   rw[e1];exact heap_alloc_new w.drew _) ⟨rfl,rfl,rfl,by simp,fun j hj=>heap_alloc_old w.drew (.cells _ _) hj⟩
 unfold Oper.wp execOp;simp only[ho,resolve,invoke,builtin,Sem.run_bind,Sem.run_pure,Result.andThen_ok,List.map_toArray,HD,List.map_nil,hs,hx,hr];exact hK _ _ q9
theorem OY{v:A3}(h:w.cell? ⟨q,0,none⟩=some v):∀j u,([v]:List A3)[j]? = some u->w.cell? ((⟨q,0,none⟩:Addr).add j)=some u:=by
 intro j u hj;cases j with
 | zero=>injection hj with hj;subst hj;exact h
 | succ j=>simp at hj
theorem Ld{x:Option Addr}:∀u∈[AI x],u.oneCell'=true:=by
 intro u hu;simp at hu;subst hu;rfl
theorem KR{α:Type}{l:List α}{j:Nat}{u:α}(h:(l.take i)[j]? = some u):l[j]? = some u:=by
 grind
theorem MX{l:List (Option Addr)}{x:Option Addr}{cur:List A3}(hi:i<=l.length)(hc:l.length+1<=cur.length)(ht:cur.take i=(l.map AI).take i):
  (A1 (A1 cur i [.pointer x]) (i+1) ((l.map AI).drop i)).take (l.length+1)=(ZS i x l).map AI/\(A1 (A1 cur i [.pointer x]) (i+1) ((l.map AI).drop i)).length=cur.length:=by
 have h1:(cur.take i).length=i:=by grind
 unfold A1 ZS;constructor
 ·have e1:(A6 i cur++([AI x]++Bs (i+[AI x].length) cur)).take (i+1)=A6 i cur++[AI x]:=by
   grind
  rw[e1,ht];rw[List.map_append,HD,List.map_take,List.map_drop];have h2:(A6 i (List.map AI l)++[AI x]++Bs i (List.map AI l)).length=l.length+1:=by simp;omega
  grind
 grind
section
variable{w:CR}{sl:A3}{l:List (Option Addr)}{x:Option Addr}{q i:Nat}
theorem Uq(ho:w.ownsRow 0 80 1 (.slice (some ⟨g,0,none⟩) l.length l.length) l.length (l.map AI))(hq:w.heap[q]? = some (.cells #[.pointer x] 80 (0,0)))(hi:i<l.length)(hb:l.length<=1000000000000):
  HE AS 291 #[.slice (some ⟨g,0,none⟩) l.length l.length,.int .i64 i,.slice (some ⟨q,0,none⟩) 1 1] w (FA l i x (.slice (some ⟨g,0,none⟩) l.length l.length) w):=by
 obtain⟨i0,qf,hz0,qe,hz2⟩:=D6 Fi;have hsz:(Tryz.prog.info? 80).map (·.size)=some 1:=by rw[qf];simp[qe]
 have q4:∀j u,(l.map AI)[j]? = some u->w.cell? ((⟨g,0,none⟩:Addr).add j)=some u:=fun j u h=>ho.cells (g:=g) rfl j u h;have hlt:g<w.heap.size/\q<w.heap.size:=⟨(AC ho g rfl).1,(Array.getElem?_eq_some_iff.1 hq).1⟩
 obtain⟨N,hN⟩:∃N,N=l.length:=⟨_,rfl⟩
 have qn:w.cell? ⟨q,0,none⟩=some (.pointer x):=by simp[C1,hq]
 have HC:=Ab q4;have HQ:=Ab qn;have HN:=Ab hN;have qw:i<N:=by omega
 have z1:N<=1000000000000:=by omega
 have qu:¬ (i:Int)=(N:Int):=by omega
 have qz:(i:Int)<=N:=by omega
 have q6:=Ab (show ∀q0 (cur:List A3) w3,l.length+1<=q0->q0<=CD->cur.length=q0->cur.take i=(l.map AI).take i->w3.heap[w.heap.size]? = some (.cells (A1 (A1 cur i [.pointer x]) (i+1) ((l.map AI).drop i)).toArray 80 (0,0))->Below w.heap.size w w3->FA l i x (.slice (some ⟨g,0,none⟩) l.length l.length) w (.returned (.slice (some ⟨w.heap.size,0,none⟩) (l.length+1) q0)) w3 from fun q0 cur w3 h1 h2 h3 h4 h5 hb3=>by
  obtain⟨r1,r2⟩:=MX (x:=x) (by omega) (show l.length+1<=cur.length by omega) h4;refine⟨w.heap.size,q0,rfl,⟨by simp[GH x (show i<=l.length by omega)],Or.inr ⟨w.heap.size,q0,_,rfl,HP _,h5,h1,h2,by simp[r2,h3],?_⟩⟩,⟨hb3.os,hb3.tape,hb3.output,hb3.size,fun k hk _=>hb3.block k hk⟩,Or.inr (F2 _)⟩;rw[HR];exact r1)
 rw[<- hN] at q6 hb |-;clear ho hq hi q4 qn hN
 go_enter func291,ntmps291
 have qk:Value.int .i64 ((N:Int)+1-(i:Int))=.int .i64 ((N+1-i:Nat):Int):=by rw[show (N:Int)+1-(i:Int)=((N+1-i:Nat):Int) by omega]
 go_wp2_with (first
  | (at_builtin;refine Ma rfl _ _ 106 3 80 i0 (.pointer none) .i64 .i64 rfl underlying106 underlying3 qf hz0 qe hz2 rfl g 0 i N rfl ((l.map AI).take i) (by have:=Aa HN;simp;omega) (fun j u hj=>Aa HC j u (KR hj)) (N+1-i) (by omega) qk (by omega) (by omega) (N+1) (by omega) ?_;intro q0 cur w1 h1 h2 h3 h4 h5 hb1;have qp:=(hb1.cell (p:=⟨q,0,none⟩) hlt.2).trans (Aa HQ);have qv:¬ q0=i:=(by omega);have qi:=Ab qp;have qj:=Ab hb1;have H4:=Ab h4;clear qp hb1 h4)
  | ((with_reducible refine QA ?_);go_loud (refine wpList_copy_splice rfl _ _ 106 106 rfl 80 underlying106 hsz (some ⟨w.heap.size,i,none⟩) (some ⟨q,0,none⟩) (N+1-i) (q0-i) 1 1 rfl rfl w.heap.size i cur 80 (Aa h5) [.pointer x] (by simp[F5];omega) (fun _=>⟨rfl,⟨q,0,none⟩,rfl,OY (Aa qi)⟩) (by simp;omega) Ld w.heap.size w (Aa qj) (F2 _) ?_);intro w2 h6 hb2;have q5:=Ab hb2;clear hb2))
 have qq:¬ q0=i+1:=by omega
 have q9:Hid ((A1 cur i [AI x]).length=q0):=by
  have:=length_splice cur i [AI x] (by simp;omega);rw[h3] at this;exact this
 have q7:Hid (∀j v,((l.map AI).drop i)[j]? = some v->w2.cell? ((⟨g,i,none⟩:Addr).add j)=some v):=fun j v hj=>by
  rw[A4] at hj;have h9:=Aa HC (i+j) v hj;rw[HG] at h9 |-;rw[HH] at h9;exact ((Aa q5).cell (p:=⟨g,i+j,none⟩) hlt.1).trans h9
 have qb:Hid (((l.map AI).drop i).length=N-i):=by have:=Aa HN;show _=_;simp;omega
 have q8:∀u∈(l.map AI).drop i,u.oneCell'=true:=fun u hu=>by
  obtain⟨y,_,rfl⟩:=List.mem_map.1 (List.mem_of_mem_drop hu);rfl
 have qx:IntKind.i64.wrap ((i:Int)+1)=((i+1:Nat):Int):=by rw[E0];omega
 have qy:((i+1:Nat):Int)<=(N:Int)+1:=by omega
 have qr:(0:Int)<=(i:Int)+1:=by omega
 obtain⟨w4,qd⟩:∃w4,w4=w2.drew.setRow w.heap.size ((A1 cur i [AI x]).toArray.toList.take (i+1)++(l.map AI).drop i++(A1 cur i [AI x]).toArray.toList.drop (i+1+((l.map AI).drop i).length)).toArray:=⟨_,rfl⟩
 have qg:∀ty,(Dp #[106,106] ty #[.slice (some ⟨w.heap.size,i+1,none⟩) (N-i) (q0-(i+1)),.slice (some ⟨g,i,none⟩) (N-i) (N-i)]).run AS w2.drew=.ok (goInt ((l.map AI).drop i).length) w4:=fun ty=>by
  rw[qd];exact D1 (P:=AS) w2.drew 106 106 ty 80 w.heap.size (i+1) (N-i) (q0-(i+1)) ⟨g,i,none⟩ (N-i) (N-i) (A1 cur i [.pointer x]).toArray 80 ((l.map AI).drop i) underlying106 hsz (Aa h6) (by rw[Aa qb];simp) (Aa q7) (by rw[Aa qb];show _<=(A1 cur i [AI x]).toArray.size;rw[D2,Aa q9];omega) q8
 have qm:=Ab (show Below w.heap.size w w4 from by rw[qd];exact below_setRow (w:=w2.drew) ⟨(Aa q5).os,(Aa q5).tape,(Aa q5).output,(Aa q5).size,(Aa q5).block⟩ (F2 _) _);have qo:=Ab (show w4.heap[w.heap.size]? = some (.cells (A1 (A1 cur i [.pointer x]) (i+1) ((l.map AI).drop i)).toArray 80 (0,0)) from by
  rw[qd,G0 w2.drew w.heap.size _ _ 80 _ (Aa h6)];simp[A1])
 have qh:=Ab (Aa q6 q0 cur w4 (by have:=Aa HN;omega) h2 h3 (Aa H4) (Aa qo) (Aa qm));rw[show ((l.map AI).drop i).length=N-i from Aa qb] at qg;clear qd qm qo q6 q8 qb q7 q9 H4 h6 q5 h5 h2 h3 qj qi HC HQ qk hz0 qe hz2 qf hsz;have qt:¬ N=i:=by omega
 go_region_law (fail)
 all_goals (go_wp2_with (fail);go_ret;exact Aa qh)
end
section
variable{w:CR}{sl:A3}{l:List (Option Addr)}{x:Option Addr}{q i:Nat}
theorem Up{cap:Nat}(ho:w.ownsRow 0 80 1 (.slice (some ⟨g,0,none⟩) l.length cap) l.length (l.map AI))(hq:w.heap[q]? = some (.cells #[.pointer x] 80 (0,0)))(qr:q≠g)(hi:i<l.length)(qf:l.length<cap)(hb:l.length<=1000000000000):
  HE AS 291 #[.slice (some ⟨g,0,none⟩) l.length cap,.int .i64 i,.slice (some ⟨q,0,none⟩) 1 1] w (FA l i x (.slice (some ⟨g,0,none⟩) l.length cap) w):=by
 obtain⟨i0,qu,hz0,qo,hz2⟩:=D6 Fi;have hsz:(Tryz.prog.info? 80).map (·.size)=some 1:=by rw[qu];simp[qo]
 obtain⟨cur,hg,qj,qx,q4⟩:∃cur:List A3,w.heap[g]? = some (.cells cur.toArray 80 (0,0))/\cap<=CD/\cur.length=cap/\cur.take l.length=l.map AI:=by
  rcases ho.2 with⟨h,_⟩|⟨g',qz,cur,h,_,h2,_,h4,h5,h6⟩
  ·cases h
  ·injection h with h7 _ h8;injection h7 with h7;injection h7 with h7;subst h7;subst h8;exact⟨cur.toList,by simpa using h2,h4,by simpa using h5,by simpa using h6⟩
 obtain⟨N,hN⟩:∃N,N=l.length:=⟨_,rfl⟩
 have qn:w.cell? ⟨q,0,none⟩=some (.pointer x):=by simp[C1,hq]
 have z6:=fun (off n c:Nat)=>MH (off:=off) (n:=n) (c:=c) hg hq qr;have hlt:g<w.heap.size/\q<w.heap.size:=by grind
 have qh:((cur.drop i).take (N-i)).length=N-i:=by simp;omega
 have q9:∀W:CR,W.heap[g]? = w.heap[g]? -> ∀j v,((cur.drop i).take (N-i))[j]? = some v->W.cell? ((⟨g,i,none⟩:Addr).add j)=some v:=fun W hW j v hj=>by
  have h1:=KR hj;rw[A4] at h1;rw[HG,C2 (w:=w) hW];simp[C1,hg,h1]
 have qb:∀u∈(cur.drop i).take (N-i),u.oneCell'=true:=fun u hu=>by
  obtain⟨j,hj⟩:=List.getElem?_of_mem hu;rw[Dt] at hj;split at hj
  ·rename_i z8;rw[A4] at hj;have h2:(cur.take l.length)[i+j]? = some u:=by rw[Dt,if_pos (by omega)];exact hj
   rw[q4,A5] at h2;obtain⟨y,_,rfl⟩:=Option.map_eq_some_iff.1 h2;rfl
  ·cases hj
 obtain⟨q0,q5⟩:∃q0,q0=A1 cur (i+1) ((cur.drop i).take (N-i)):=⟨_,rfl⟩
 have qk:q0.length=cap:=by
  grind [A1,BY,CL]
 have qv:∀ty,(Dp #[106,106] ty #[.slice (some ⟨g,i+1,none⟩) (N-i) (cap-(i+1)),.slice (some ⟨g,i,none⟩) (N+1-i) (cap-i)]).run AS w.drew=.ok (goInt ((N-i:Nat))) (w.drew.setRow g (cur.toArray.toList.take (i+1)++(cur.drop i).take (N-i)++cur.toArray.toList.drop (i+1+((cur.drop i).take (N-i)).length)).toArray):=fun ty=>by
  have h:=D1 (P:=AS) w.drew 106 106 ty 80 g (i+1) (N-i) (cap-(i+1)) ⟨g,i,none⟩ (N+1-i) (cap-i) cur.toArray 80 ((cur.drop i).take (N-i)) underlying106 hsz hg (by rw[qh];simp[F5];omega) (q9 w.drew rfl) (by rw[qh,D2];omega) qb;rw[qh] at h |-;exact h
 have qi:(w.drew.setRow g (cur.toArray.toList.take (i+1)++(cur.drop i).take (N-i)++cur.toArray.toList.drop (i+1+((cur.drop i).take (N-i)).length)).toArray).heap[g]? = some (.cells q0.toArray 80 (0,0)):=by
  rw[G0 w.drew g _ _ 80 _ hg,q5];simp[A1]
 have q6:w.grownBy (w.drew.setRow g (cur.toArray.toList.take (i+1)++(cur.drop i).take (N-i)++cur.toArray.toList.drop (i+1+((cur.drop i).take (N-i)).length)).toArray) (some g):=⟨rfl,rfl,rfl,by simp[HI],fun k _ q8=>setRow_other w.drew g k _ (fun e=>q8 (by rw[e]))⟩
 generalize w.drew.setRow g (cur.toArray.toList.take (i+1)++(cur.drop i).take (N-i)++cur.toArray.toList.drop (i+1+((cur.drop i).take (N-i)).length)).toArray=w4 at *;have qg:w4.cell? ⟨q,0,none⟩=some (.pointer x):=(C2 (a:=⟨q,0,none⟩) (q6.block q hlt.2 (fun e=>qr (Option.some.inj e)))).trans qn;have qd:∀w5:CR,w5.heap[g]? = some (.cells (A1 q0 i [.pointer x]).toArray 80 (0,0))->w4.grownBy w5 (some g)->FA l i x (.slice (some ⟨g,0,none⟩) l.length cap) w (.returned (.slice (some ⟨g,0,none⟩) (l.length+1) cap)) w5:=fun w5 h5 q7=>by
  refine⟨g,cap,rfl,⟨by simp[GH x (show i<=l.length by omega)],Or.inr ⟨g,cap,_,rfl,HP _,h5,by omega,qj,?_,?_⟩⟩,⟨q7.os.trans q6.os,q7.tape.trans q6.tape,q7.output.trans q6.output,Nat.le_trans q6.size q7.size,fun k hk q8=>(q7.block k (Nat.lt_of_lt_of_le hk q6.size) q8).trans (q6.block k hk q8)⟩,Or.inl rfl⟩
  ·grind [A1,BY,CL]
  ·have e1:A1 q0 i [AI x]=A1 (A1 cur i [.pointer x]) (i+1) ((l.map AI).drop i):=by
    have e3:(l.map AI).drop i=(cur.drop i).take (N-i):=by
     rw[<- q4,hN,List.drop_take]
    rw[e3,q5];have zf:(cur.take i).length=i:=by rw[Ft];omega
    have z1:(cur.take (i+1)).length=i+1:=by rw[Ft];omega
    unfold A1;simp only[BY,CL,HH];rw[List.take_append_of_le_length (by omega),HA,G1 (by omega)];rw[F1,CH (by omega),z1,Nat.sub_self,List.drop_zero,G2];have e4:(A6 i cur++([AI x]++Bs (i+1) cur)).take (i+1)=A6 i cur++[AI x]:=by
     grind
    rw[e4];have e5:Bs (i+1+((cur.drop i).take (N-i)).length) (A6 i cur++([AI x]++Bs (i+1) cur))=Bs (i+1+((cur.drop i).take (N-i)).length) cur:=by
     rw[<- List.append_assoc,F1,CH (by grind),G2,List.drop_drop]
     simp_all
    rw[e5];simp
   have hr:=(MX (x:=x) (cur:=cur) (i:=i) (by omega) (show l.length+1<=cur.length by omega) (by rw[<- q4,HA,G1 (by omega)])).1;rw[HR,List.toList_toArray,e1];exact hr
 have qp:∀ty,(Dp #[106,106] ty #[.slice (some ⟨g,i,none⟩) (N+1-i) (cap-i),.slice (some ⟨q,0,none⟩) 1 1]).run AS w4=.ok (goInt (1:Nat)) (w4.setRow g (q0.toArray.toList.take i++[AI x]++q0.toArray.toList.drop (i+[AI x].length)).toArray):=fun ty=>
  D1 (P:=AS) w4 106 106 ty 80 g i (N+1-i) (cap-i) ⟨q,0,none⟩ 1 1 q0.toArray 80 [.pointer x] underlying106 hsz qi (by simp[F5];omega) (OY qg) (by simp;omega) Ld
 have qt:(w4.setRow g (q0.toArray.toList.take i++[AI x]++q0.toArray.toList.drop (i+[AI x].length)).toArray).heap[g]? = some (.cells (A1 q0 i [.pointer x]).toArray 80 (0,0)):=by
  rw[G0 w4 g _ _ 80 _ qi];simp[A1]
 have q7:w4.grownBy (w4.setRow g (q0.toArray.toList.take i++[AI x]++q0.toArray.toList.drop (i+[AI x].length)).toArray) (some g):=⟨rfl,rfl,rfl,by simp[HI],fun k _ q8=>setRow_other w4 g k _ (fun e=>q8 (by rw[e]))⟩
 generalize w4.setRow g (q0.toArray.toList.take i++[AI x]++q0.toArray.toList.drop (i+[AI x].length)).toArray=w5 at *;have qe:=Ab (qd w5 qt q7);have zh:i<N:=by omega
 have ze:N<=1000000000000:=by omega
 have q8:¬ (i:Int)=(N:Int):=by omega
 have zi:(i:Int)<=N:=by omega
 have qm:¬ (cap:Int)<(N:Int)+1:=by omega
 have qq:(N:Int)+1<=(cap:Int):=by omega
 have qy:(cap:Int)<=9223372036854775807:=by unfold CD at qj;omega
 have zb:¬ cap=i:=by omega
 have qw:¬ cap=i+1:=by omega
 rw[<- hN] at qe |-;clear ho hq hi hg qx q4 hN qn qh q9 qb q5 qk qi q6 qg qd qf hb qj qt q7 hz0 qo hz2 qu hsz hlt;have zc:IntKind.i64.wrap ((i:Int)+1)=((i+1:Nat):Int):=by rw[E0];omega
 have z7:((i+1:Nat):Int)<=(N:Int)+1:=by omega
 have za:(0:Int)<=(i:Int)+1:=by omega
 have zg:(i:Int)<=(N:Int)+1:=by omega
 go_enter func291,ntmps291
 go_wp2_with (fail)
 go_region_law (fail)
 all_goals (go_wp2_with (fail);go_ret;exact Aa qe)
theorem Yl(ho:w.ownsRow 0 80 1 sl l.length (l.map AI))(hq:w.heap[q]? = some (.cells #[.pointer x] 80 (0,0)))(q0:sl.ownBlock≠some q)(hi:i<=l.length)(hb:l.length<=1000000000000):
  HE AS 291 #[sl,.int .i64 i,.slice (some ⟨q,0,none⟩) 1 1] w (FA l i x sl w):=by
 by_cases he:i=l.length
 ·subst he;exact Wx ho hq hb
 ·rcases ho.2 with⟨_,h⟩|⟨g,cap,cur,rfl,_,_,h3,_⟩
  ·omega
  ·by_cases hc:cap=l.length
   ·subst hc;exact Uq ho hq (by omega) hb
   ·exact Up ho hq (by grind) (by omega) (by omega) hb
end
theorem Pt.first{P:A3->To->Prop}(k:Lit):∀ {l:List (Lit×DataW A3)} {m:List (Lit×To)},Pt P l m->D3 (.map l) k=true ->
  ∃i key c x,m.findIdx? (fun p=>p.1.sameKey k)=some i/\m[i]? = some (key,c)/\m.find? (fun p=>p.1.sameKey k)=some (key,c)/\(∀z,(HT l).atKey k z=.held x)/\P x c
 | [],[],_,h=>by cases h
 | a::r,b::s,⟨⟨kk,x,e,g⟩,t⟩,h=>by
  by_cases hk:a.1.sameKey k=true
  ·have hb:b.1.sameKey k=true:=by grind
   refine⟨0,b.1,b.2,x,?_,rfl,?_,fun z=>?_,g⟩
   ·grind
   ·grind
   ·rw[BZ,GK (p:=fun p=>p.1.sameKey k) hk];exact e
  ·have hb:¬ b.1.sameKey k=true:=by grind
   have h2:D3 (.map r) k=true:=by
    have h3:(a.1.sameKey k || r.any fun p=>p.1.sameKey k)=true:=h;rw[Bool.eq_false_iff.2 hk,Bool.false_or] at h3;exact h3
   obtain⟨i,key,c,x',e1,e2,e3,e4,e5⟩:=Pt.first k t h2
   refine⟨i+1,key,c,x',?_,by grind,?_,fun z=>?_,e5⟩
   ·grind
   ·grind
   ·rw[BZ,Iu (p:=fun p=>p.1.sameKey k) hk];exact e4 z
def Dx(f:Nat)(w:CR)(n:Zf)(t:By)(e:Ending):Prop:=match AF (Zi (f+1) n) t with
 | .ok d=>∃i c x,aQ (Zi (f+1) n) t=some i/\(AH n)[i]? = some c/\d=Zi f c/\e=.returned (.tuple #[x,.int .i64 0])/\Ad f w x c
 | .error c=>e=.returned (.tuple #[.pointer none,.int .i64 c])
theorem Dg(h:AF (Zi (f+1) n) t=.error c):Dx f w n t (.returned (.tuple #[.pointer none,.int .i64 c])):=by
 unfold Dx;rw[h]
theorem Ll{c:Zf}(h:AF (Zi (f+1) n) t=.ok (Zi f c))(h1:aQ (Zi (f+1) n) t=some i)(h2:(AH n)[i]? = some c)(h3:Ad f w x c):
  Dx f w n t (.returned (.tuple #[x,.int .i64 0])):=by
 unfold Dx
 grind
theorem I0{u:A3}(ht:t.length<=1048576)(hr:Rng w)(h:Ad (f+1) w u n):
  HE AS 111 #[u,.string ⟨t.toArray⟩] w fun e w'=>Dx f w n t e/\Below w.heap.size w w':=by
 obtain⟨b,g,x,rfl,rfl,h⟩:=h;rcases h with⟨k,hk,_,rfl,h⟩|⟨m,_,rfl,h,q5⟩|⟨s,_,rfl,h⟩|⟨al,sl,ps,rfl,h,ho,hs,ha⟩|⟨es,m,D,rfl,h,ho,hp⟩
 ·refine (Di (k:=k) (by omega) h).mono ?_;rintro e w' ⟨rfl,hb⟩;exact⟨Dg (c:=11) rfl,hb⟩
 ·refine (Di (k:=3) (by omega) h).mono ?_;rintro e w' ⟨rfl,hb⟩;exact⟨Dg (c:=11) rfl,hb⟩
 ·refine (Di (k:=4) (by omega) h).mono ?_;rintro e w' ⟨rfl,hb⟩;exact⟨Dg (c:=11) rfl,hb⟩
 ·have hl:=ha.length;refine QD (R:=Dx f w (Zj b g (.slice al [])) t) ht hr h ho (fun hi=>Dg (Gp hi)) (fun i hi hx=>?_) (fun i hx hi=>Dg (GX hx (by simp;omega)));have q4:i<al.length:=by omega
  refine Ll (c:=al[i]) (i:=i) ?_ ?_ (by rw[BO];grind) (ha.get i hi q4)
  ·rw[Bn,H8 hx (by grind),List.getElem_map]
  grind [Zi,Bn,aQ,Zj,BO,AZ,Bx,Ap]
 ·have hh:D3 (.map D:DataW A3) (.string t)=D3 (.map (es.map fun p=>(p.1,Zi f p.2)):DataW Unit) (.string t):=
   (Pt.mapR (P:=fun _ _=>True) (q:=Zi f) (hp.mono fun _ _ _=>trivial)).has _
  have hc:AF (Zi (f+1) (Zj b g (.map es))) t=(if D3 (.map D:DataW A3) (.string t) then .ok ((HT (es.map fun p=>(p.1,Zi f p.2))).atKey (.string t) .nil) else .error 11):=by
   rw[hh];rfl
  refine QC (R:=Dx f w (Zj b g (.map es)) t) ht h ho (fun hno=>Dg (by grind)) (fun q0=>?_);obtain⟨i,key,c,x,e1,e2,e3,e4,e5⟩:=hp.first (.string t) q0
  refine⟨x,e4,Ll (c:=c) (i:=i) ?_ ?_ ?_ e5⟩
  ·rw[hc,if_pos q0,BZ,List.find?_map,show ((fun p=>p.1.sameKey (.string t)) ∘ fun p:Lit×Zf=>(p.1,Zi f p.2))=fun p=>p.1.sameKey (.string t) from rfl,e3];rfl
  ·rw[AZ];unfold aQ Ay;simp only;rw[List.findIdx?_map];exact e1
  ·rw[Bx,A5,e2];rfl
theorem R5(fa:Nat)(v:A3)(a:Zf):Te (InT fa v a) where
 call:=fun s w u d t ht hr h=>by
  obtain⟨q0,f,p,n,hf,hs,hT,rfl,hp⟩:=h;cases f with
  | zero=>exact hT.elim
  | succ f=>
   refine (I0 ht hr hT).mono ?_;rintro e w' ⟨hk,hb⟩;refine⟨?_,hb⟩;unfold Dx at hk;unfold KK;cases hc:AF (Zi (f+1) n) t with
   | error c=>grind
   | ok d=>
    rw[hc] at hk;obtain⟨i,c,x,h1,h2,rfl,rfl,h3⟩:=hk;have q4:B5 p (Zi fa a)=some (Zi (f+1) n):=by
     rw[<- hf];exact Gw (f:=f+1) (by rw[hf];exact q0) hs
    refine⟨x,rfl,q0.bel hb,f,p++[i],c,by simp;omega,Gx h2 hs,h3.bel hb,rfl,?_⟩;exact Hh h1 (show (Cj (Zi (f+1) n))[i]? = some (Zi f c) by rw[Dw hT,A5,h2];rfl) hp q4
theorem Vl{fa:Nat}{a:Zf}{v pv:A3}{l:List By}(hl:∀t∈l,t.length<=1048576)(hn:l.length<=1048576)(hr:Rng w)(h:Ad fa w v a)(hp:CI w pv l):
  HE AS 81 #[pv,v] w fun e w'=>KK (InT fa v a l) (Ak (Zi fa a) l) e w'/\Below w.heap.size w w':=
 YT (R5 fa v a) hl hn hr ⟨h,fa,[],a,rfl,rfl,h,rfl,rfl⟩ hp
end Go.Proofs.YtdpomdelmdofmaaGreatDoor
