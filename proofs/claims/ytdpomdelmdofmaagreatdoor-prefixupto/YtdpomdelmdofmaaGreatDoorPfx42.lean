import Derived.Test.YtdpomdelmdofmaaGreatDoorPfx41
open Go.Proofs.Tryz renaming prog->AI
open Nat renaming le_refl->AS
open Go renaming bodyPost_end->AT,results_none->A1,World->A4,Calls->CH,Ending->DD,Value->D3
open Array renaming getElem?_eq_some_iff->A5
open Go.RowKit renaming Below->A6
open Go.RowKit.Below renaming heap_alloc->Bs,heap_setCell->Dp,refl->Ft
open Go.IntKind renaming wrap_i64->BY
open Go.Value renaming ownBlock->CD
open Go.World renaming cell?_of_block->CL,setCell->CR,cell?->E0
open Or renaming inl->C1,inr->C2
open List renaming append_assoc->Dt
open And renaming intro->D0
set_option maxRecDepth 100000
set_option maxHeartbeats 4000000
namespace Go.Proofs.YtdpomdelmdofmaaGreatDoor
open Go.Proofs.Tryz Go.RowKit Go.Maps
variable{F' F:Nat->Prop}{f pl pc:Nat}{pa:Option Addr}
def Ye(F':Nat->Prop)(w:A4)(e:DD)(w':A4):Option To->Prop
 | none=>e=.returned (.tuple #[.pointer none,.bool false])
 | some z=>∃p,e=.returned (.tuple #[.pointer (some p),.bool true])/\Rep top (fun k=>F' k\/w.heap.size<=k) w' (.pointer (some p)) z
theorem Eb.as{a b:To}{w w':A4}{e:DD}(hf:f=top)(h:Eb f F' a b w e w'){r:Option To}(hr:r=Z3 f a b):A6 w.heap.size w w'/\Ye F' w e w' r:=by
 obtain⟨h1,h2⟩:=h;refine⟨h1,?_⟩;cases hm:Z3 f a b with
 | none=>rw[hm] at h2 hr;subst hr;exact h2
 | some z=>rw[hm] at h2 hr;subst hr;subst hf;exact h2
theorem MQ:F3:=by
 intro S lo d e n p v F s q p2 w hcfg hS hD hT hr hq;obtain⟨z7,z8⟩:1<=d/\d<=20:=by
  unfold aG aL at hcfg;simp at hcfg;omega
 obtain⟨D,R,wp,rfl,q9⟩:=hD;obtain⟨T,a,iv,h1,h2,h3⟩:=q9.ex;have q5:A6 w.heap.size w (w.alloc (.cells #[.int .i64 0,.int .i64 0,.string ⟨#[]⟩] 46)):=(Ft _ _).alloc (AS _) _;have c3:=(hS.low q5).c3;have qu:=Ab (AB.new w);have qv:=Ab q5;have hsz:(w.alloc (.cells #[.int .i64 0,.int .i64 0,.string ⟨#[]⟩] 46)).heap.size=w.heap.size+1:=by simp
 have HT:=Ab (hT.below (q5.mono hT.ng));have q7:CJ (w.alloc (.cells #[.int .i64 0,.int .i64 0,.string ⟨#[]⟩] 46)) D R wp (.slice none 0 0) iv v.2.isSome T a v.1:=h1.move (q5.block D h1.db.lt) fun k hk=>q5.block k (h1.tr.lt k hk);obtain⟨b,rfl,_⟩:=q7.sub.ptr;have HW:=Ab (De q7);have q8:Rep top (fun _=>True) (w.alloc (.cells #[.int .i64 0,.int .i64 0,.string ⟨#[]⟩] 46)) (.pointer (some ⟨b,0,none⟩)) v.1:=by
  rw[<- q7.str];exact q7.sub.rep fun _ _=>trivial
 have qj:=Ab q8;have qw:=Ab (hq.rep.bel q5);have qn:=q9.gd;have qb:=F8 hr;have z1:Zh top v.1<=160000:=by have:=(BX qn).2;have:=q9.len;omega
 have hs2:Zh top q<=160000:=by have:=(BX qb).2;have:=F9 hr top;omega
 have q0:top=2000+1:=by decide
 have qd:=Gd (g:=2000) (by rw[<- q0];exact qn);rw[<- q0] at qd;have qq:=Ab (fun (w2:A4) (hb:A6 (w.alloc (.cells #[.int .i64 0,.int .i64 0,.string ⟨#[]⟩] 46)).heap.size (w.alloc (.cells #[.int .i64 0,.int .i64 0,.string ⟨#[]⟩] 46)) w2)=>
  O4 (d:=d) (x:=e) top 2000 1 (fun _=>True) (fun k=>lo<=k/\k<w2.heap.size) w2 (.pointer (some ⟨b,0,none⟩)) (.pointer p2) v.1 q q0 (Q9 (by rw[<- q0];exact (Aa qj).bel hb)) qd.1 (by omega) (((Aa qw).bel hb).move fun k hk qz=>⟨rfl,hk,qz⟩) (fun k hk=>hk.2) qb (by omega))
 obtain⟨r,qp⟩:∃r,r=Z3 top v.1 q:=⟨_,rfl⟩
 have HR:=Ab qp;have qg:=Ab (fun z (hz:r=some z)=>(show (Zm top z).length<=8796093022208 by
  obtain⟨g1,g2⟩:=MT (d:=d) (x:=e) top 1 v.1 q z 160000 qb (fun g hg=>by
   obtain rfl:g=2000:=by omega
   exact⟨qd.1,by omega⟩) (qp.symm.trans hz)
  have g3:=(BX g1).1;have g4:(2*160000+1)*Zh top q<=(2*160000+1)*160000:=Nat.mul_le_mul_left _ hs2;omega))
 obtain⟨RR,qm⟩:∃RR,RR=bU v.1 q:=⟨_,rfl⟩
 rw[<- qm];have qr:=Ab qm;clear hcfg hS q9 h1 h2 h3 hT hr hq q5 q7 q8 qn qb z1 hs2 qd qm qp q0
 go_enter func63,ntmps63
 go_wp2_with (fail);refine (Aa HW).mono ?_
 rintro x w2 ⟨rfl,hb2⟩;have qe:=Ab hb2;have qo:=Aa qq w2 hb2;obtain⟨QQ,qk⟩:∃QQ:DD->A4->Prop,QQ=Eb top (fun k=>lo<=k/\k<w2.heap.size) v.1 q w2:=⟨_,rfl⟩
 rw[<- qk] at qo;have qh:=Ab qo;have qx:=Ab qk;have qt:=Ab ((Aa HT).below (hb2.mono (Aa HT).ng));have A2:=Ab ((Aa qu).low (hb2.mono (by rw[hsz];omega)));clear hb2 HW qo qk qq
 go_wp2_with (fail);refine (Aa qh).mono ?_
 intro x w3 hx;rw[Aa qx] at hx;obtain⟨hb3,he⟩:=Eb.as rfl hx (Aa HR);clear hx;have z6:w.heap.size<w2.heap.size:=by have:=(Aa qe).size;omega
 have A3:=Ab ((Aa A2).low (hb3.mono (by omega)));have q6:=Ab ((Aa qv).trans (((Aa qe).trans (hb3.mono (Aa qe).size)).mono (by rw[hsz];omega)));have qy:=Ab ((Aa qt).below (hb3.mono (Aa qt).ng));clear hb3;cases hm:r with
 | none=>
  rw[hm] at he;obtain rfl:x=.returned (.tuple #[.pointer none,.bool false]):=he;have qi:=Ab (show RR=(15,0,[]) by rw[Aa qr];unfold bU;rw[<- Aa HR,hm]);clear hm
  go_wp2_with (fail);refine (Bj 15 w3).mono ?_
  rintro x w4 ⟨rfl,q4⟩;have a3:=(Aa A3).low (q4.mono (by have:=(Aa q6).size;omega));have g0:=a3.c0;have g1:=a3.c1;have g2:=a3.c2;have z:=a3.fz;have qf:=Ab ((Aa q6).trans (q4.mono (Aa q6).size));clear a3 q4;unfold AW
  go_wp2_with (fail);refine bodyPost_ret (v:=Ai (15,0,[])) (by simp[results,results63,go_sem,Ai,g0,g1,g2]) rfl ?_
  rw[Aa qi];exact⟨rfl,(AE.of3 w.heap.size w4 _ _ _).below (Aa qf) (AS _)⟩
 | some z=>
  rw[hm] at he;obtain⟨p,rfl,hz⟩:=he;have qi:=Ab (show RR=(0,0,Zm top z) by rw[Aa qr];unfold bU;rw[<- Aa HR,hm]);have HC:=Ab (CT hz (Aa qy) (Aa qg z hm));clear hm hz
  go_wp2_with (fail);refine (Aa HC).mono ?_
  rintro x w4 ⟨rfl,q4⟩;have a3:=(Aa A3).low (q4.mono (by have:=(Aa q6).size;omega));have g0:=a3.c0;have g1:=a3.c1;have g2:=a3.c2;have z':=a3.fz;have qf:=Ab ((Aa q6).trans (q4.mono (Aa q6).size));clear a3 q4
  go_wp2_with (fail);refine bodyPost_ret (v:=Ai (0,0,Zm top z)) (by simp[results,results63,go_sem,Ai,g0,g1,g2]) rfl ?_
  rw[Aa qi];exact⟨rfl,(AE.of3 w.heap.size w4 _ _ _).below (Aa qf) (AS _)⟩
structure MkK(w:A4)(Mk:Nat)(n:Int)(M K:Nat->Prop)(ops:List Zk):Prop where
 ex:∃mv xs,w.heap[Mk]? = some (.cells #[.int .i64 n,mv] 187 (0,0))/\w.ownsRow 0 178 4 mv ops.length xs/\(∀g,mv.ownBlock=some g -> ¬ K g/\g≠Mk)/\CV w M xs ops
 low:∀k,K k->k<w.heap.size
 nM:¬ K Mk
abbrev MkD(w:A4)(Mk:Nat)(n:Int)(M:Nat->Prop)(ops:List Zk):Prop:=MkK w Mk n M M ops
section
variable{w w':A4}{Mk:Nat}{n:Int}{M K:Nat->Prop}{ops:List Zk}
theorem MkK.lt(h:MkK w Mk n M K ops):Mk<w.heap.size:=by
 obtain⟨mv,xs,h1,_⟩:=h.ex;exact (A5.1 h1).1
theorem MkK.less{K':Nat->Prop}(h:MkK w Mk n M K ops)(hK:∀k,K' k->K k):MkK w Mk n M K' ops:=by
 obtain⟨mv,xs,h1,h2,h3,h4⟩:=h.ex;exact⟨⟨mv,xs,h1,h2,fun g hg=>⟨fun hk=>(h3 g hg).1 (hK g hk),(h3 g hg).2⟩,h4⟩,fun k hk=>h.low k (hK k hk),fun hk=>h.nM (hK _ hk)⟩
theorem MkK.moved{M' K':Nat->Prop}{w':A4}(h:MkK w Mk n M K ops)(hb:∀k,k<w.heap.size -> ¬ K k\/M k->w'.heap[k]? = w.heap[k]?)(hM:∀k,M k->M' k)(hK:∀k,K' k->(K k\/w.heap.size<=k)/\k<w'.heap.size):MkK w' Mk n M' K' ops:=by
 have hl:=h.lt;obtain⟨mv,xs,h1,h2,h3,h4⟩:=h.ex;refine⟨⟨mv,xs,(hb _ hl (C1 h.nM)).trans h1,AD h2 fun g hg=>hb g (AC h2 g hg).1 (C1 (h3 g hg).1),fun g hg=>⟨fun hk=>?_,(h3 g hg).2⟩,h4.move fun k hk q0=>⟨hb k q0 (C2 hk),hM k hk⟩⟩,fun k hk=>(hK k hk).2,fun hk=>?_⟩
 ·rcases (hK g hk).1 with e|e
  ·exact (h3 g hg).1 e
  ·have:=(AC h2 g hg).1;omega
 ·rcases (hK _ hk).1 with e|e
  ·exact h.nM e
  ·omega
theorem MkD.grow(h:MkD w Mk n M ops)(hb:A6 w.heap.size w w')(X:Nat->Prop)(hX:∀k,X k->w.heap.size<=k/\k<w'.heap.size):
  MkD w' Mk n (fun k=>M k\/X k) ops/\JEx M (fun k=>M k\/X k) w w':=by
 have hl:=h.lt;obtain⟨mv,xs,h1,h2,h3,h4⟩:=h.ex;have q0:=h.low;refine⟨⟨⟨mv,xs,(hb.block _ hl).trans h1,AD h2 fun g hg=>hb.block g (AC h2 g hg).1,fun g hg=>⟨fun hm=>hm.elim (h3 g hg).1 fun hx=>by have:=(hX g hx).1;have:=(AC h2 g hg).1;omega,(h3 g hg).2⟩,h4.move fun k hk q4=>⟨hb.block k q4,C1 hk⟩⟩,fun k hm=>?_,fun hm=>hm.elim h.nM fun hx=>by have:=(hX Mk hx).1;omega⟩,⟨hb.os,hb.tape,hb.output,hb.size,fun k hk=>⟨C1 hk,hb.block k (q0 k hk)⟩⟩⟩;rcases hm with hm|hm
 ·exact Nat.lt_of_lt_of_le (q0 k hm) hb.size
 ·exact (hX k hm).2
theorem MkD.bel(h:MkD w Mk n M ops)(hb:A6 w.heap.size w w'):MkD w' Mk n M ops/\JEx M M w w':=by
 have h1:=h.grow hb (fun _=>False) (fun _ hx=>hx.elim);simpa using h1
theorem Wl{o:Obj}{w3:A4}{g cap:Nat}{mv:D3}{xs new:List D3}{op:Zk}(q7:∀k,M k->K k)(hl:∀k,K k->k<w.heap.size)(hn:¬ K Mk)(h1:w.heap[Mk]? = some (.cells #[.int .i64 n,mv] 187 (0,0)))(h3:∀g,mv.ownBlock=some g -> ¬ K g/\g≠Mk)(ho:w3.ownsRow 0 178 4 (.slice (some ⟨g,0,none⟩) (ops.length+1) cap) (ops.length+1) (xs++new))(hg:(w.alloc o).grownBy w3 mv.ownBlock)(q8:mv.ownBlock=some g\/g=w.heap.size+1)(hx:CV w M (xs++new) (ops++[op])):
  MkK (w3.setCell ⟨Mk,1,none⟩ (.slice (some ⟨g,0,none⟩) (ops.length+1) cap)) Mk n M K (ops++[op])/\JEx K K w (w3.setCell ⟨Mk,1,none⟩ (.slice (some ⟨g,0,none⟩) (ops.length+1) cap)):=by
 have hs:(w.alloc o).heap.size=w.heap.size+1:=by simp
 have q9:Mk<w.heap.size:=(A5.1 h1).1;have hold:∀k,k<w.heap.size->mv.ownBlock≠some k->w3.heap[k]? = w.heap[k]?:=fun k hk qb=>(hg.block k (by omega) (fun e=>qb e.symm)).trans (Bs w o k hk);have q0:∀k,K k->(w3.setCell ⟨Mk,1,none⟩ (.slice (some ⟨g,0,none⟩) (ops.length+1) cap)).heap[k]? = w.heap[k]?:=fun k hk=>(Dp _ _ _ _ (by show k≠Mk;rintro rfl;exact hn hk)).trans (hold k (hl k hk) fun e=>(h3 k e).1 hk);have q5:g≠Mk /\ ¬ K g:=by
  rcases q8 with h|h
  ·exact⟨(h3 g h).2,(h3 g h).1⟩
  ·exact⟨by omega,fun hm=>by have:=hl g hm;omega⟩
 have q6:w3.heap[Mk]? = some (.cells #[.int .i64 n,mv] 187 (0,0)):=(hold Mk q9 fun e=>(h3 Mk e).2 rfl).trans h1;have hsz:=hg.size;refine⟨⟨⟨.slice (some ⟨g,0,none⟩) (ops.length+1) cap,xs++new,?_,?_,fun g' q4=>?_,hx.move fun k hk _=>⟨q0 k (q7 k hk),hk⟩⟩,fun k hk=>?_,hn⟩,⟨hg.os,hg.tape,hg.output,?_,fun k hk=>⟨hk,q0 k hk⟩⟩⟩
 ·simp only[CR,Array.getElem?_modify];rw[if_pos trivial,q6];rfl
 ·rw[List.length_append];exact AD ho fun k hk2=>by
   simp[CD] at hk2;exact Dp _ _ _ _ (by show k≠Mk;omega)
 ·simp[CD] at q4;subst q4;exact⟨q5.2,q5.1⟩
 ·have:=hl k hk;show k<(w3.setCell _ _).heap.size;simp[CR];omega
 ·simp[CR];omega
theorem Lj{o:Zk}{x:Option Addr}(h:MkK w Mk n M K ops)(q5:∀k,M k->K k)(hn:ops.length<=1000000000)(ho:EW w M (.int .i64 o.1) (.slice pa pl pc) (.slice none 0 0) (.pointer x) o):
  CH AI 169 #[.pointer (some ⟨Mk,0,none⟩),.int .i64 o.1,.slice pa pl pc,.pointer x] w fun e w'=>e=.returned (.tuple #[])/\MkK w' Mk n M K (ops++[o])/\JEx K K w w':=by
 obtain⟨i0,z0,q9,hz0,qd,hz2,hz3⟩:=IU;obtain⟨mv,xs,h1,h2,h3,h4⟩:=h.ex;obtain⟨kk,hkk⟩:∃kk:Nat,kk=o.1:=⟨_,rfl⟩
 have q6:=h.lt;have c1:w.cell? ⟨Mk,1,none⟩=some mv:=by simp[E0,h1]
 have z1:∀b,(w.alloc b).frozen? ⟨Mk,1,none⟩=false:=fun b=>by rw[World.frozen?_of_block (w:=w) (Bs w b Mk q6)];simp[World.frozen?,h1]
 have y1:∀b,(w.alloc b).cell? ⟨Mk,1,none⟩=some mv:=fun b=>by rw[CL (w:=w) (Bs w b Mk q6)];exact c1
 have nD:some Mk≠mv.ownBlock:=fun e=>(h3 Mk e.symm).2 rfl;have HX:=Ab (h4.snoc ho);have HF:=Ab (show (∀k,K k->k<w.heap.size) /\ ¬ K Mk/\w.heap[Mk]? = some (.cells #[.int .i64 n,mv] 187 (0,0)) /\ ∀g,mv.ownBlock=some g -> ¬ K g/\g≠Mk from⟨h.low,h.nM,h1,h3⟩);have q7:=Ab q5;have qb:=h2;rw[<- hkk] at HX |-;have HK:=Ab hkk;clear h h1 h2 h3 h4 ho hkk q5
 go_enter func169,ntmps169
 go_wp2_with (at_builtin;refine wpList_append_lies _ rfl _ _ _ rfl 0 178 i0 z0 4 64 underlying113 q9 hz0 hz2 hz3 qd (by decide) mv ops.length xs rfl (qb.alloc _) ⟨w.heap.size,0,none⟩ 1 1 [.int .i64 kk,.slice pa pl pc,.slice none 0 0,.pointer x] rfl rfl (World.news_of_block (cs:=#[.int .i64 kk,.slice pa pl pc,.slice none 0 0,.pointer x]) (t:=178) (fr:=(0,0)) (heap_alloc_new w _)) (by simp[Value.oneCell']) (by decide) (by unfold maxLen;omega) (by omega) (Nat.zero_le _) (w.heap.size+1) (by simp) ?_;intro g cap w3 q4 q0 q8 hlt;have zz:w3.frozen? ⟨Mk,1,none⟩=false:=(q0.frozen_far ⟨Mk,1,none⟩ (by simp;omega) nD).trans (z1 _);have yy:w3.cell? ⟨Mk,1,none⟩=some mv:=(q0.cell_far ⟨Mk,1,none⟩ (by simp;omega) nD).trans (y1 _))
 obtain⟨f1,f2,f3,f4⟩:=Aa HF;exact AT (A1 rfl _ _ _) rfl ⟨rfl,Wl (Aa q7) f1 f2 f3 f4 q4 q0 q8 (Aa HX)⟩
theorem IY{o:Zk}{x:Option Addr}(h:MkD w Mk n M ops)(hn:ops.length<=1000000000)(ho:EW w M (.int .i64 o.1) (.slice pa pl pc) (.slice none 0 0) (.pointer x) o):
  CH AI 169 #[.pointer (some ⟨Mk,0,none⟩),.int .i64 o.1,.slice pa pl pc,.pointer x] w fun e w'=>e=.returned (.tuple #[])/\MkD w' Mk n M (ops++[o])/\JEx M M w w':=Lj h (fun _ hk=>hk) hn ho
end
section
variable{w:A4}{Mk:Nat}{n:Int}{M:Nat->Prop}{ops:List Zk}
theorem MkD.c0(h:MkD w Mk n M ops):w.cell? ⟨Mk,0,none⟩=some (.int .i64 n):=by
 obtain⟨mv,xs,h1,_⟩:=h.ex;simp[E0,h1]
theorem PW{ab bb:Nat}{an bn:Nm}{q4 q6:By}{aa ba:Option Addr}{al ac bl bc:Nat}{q0 q5:D3}{ak bk:Int}(h:MkD w Mk n M ops)(ha:VB w ab ak an q4 (.slice aa al ac) q0)(hb:VB w bb bk bn q6 (.slice ba bl bc) q5)(hal:al<=1000000)(q9:bl<=1000000):
  CH AI 167 #[.pointer (some ⟨Mk,0,none⟩),.pointer (some ⟨ab,0,none⟩),.pointer (some ⟨bb,0,none⟩)] w fun e w'=>e=.returned (.bool (decide (((al:Int)+1)*((bl:Int)+1)<=n)))/\A6 w.heap.size w w':=by
 have m0:=h.c0;have a5:=ha.c5;have b5:=hb.c5;have q7:(al:Int)<=1000000:=by omega
 have q8:(bl:Int)<=1000000:=by omega
 have qd:((al:Int)+1)*((bl:Int)+1)<=1000001*1000001:=Int.mul_le_mul (by omega) (by omega) (by omega) (by omega);have qb:0<=((al:Int)+1)*((bl:Int)+1):=Int.mul_nonneg (by omega) (by omega);have e1:IntKind.i64.wrap ((al:Int)+1)=(al:Int)+1:=by rw[BY];omega
 have e2:IntKind.i64.wrap ((bl:Int)+1)=(bl:Int)+1:=by rw[BY];omega
 have e3:IntKind.i64.wrap (((al:Int)+1)*((bl:Int)+1))=((al:Int)+1)*((bl:Int)+1):=by rw[BY];omega
 clear h ha hb
 go_enter func167,ntmps167
 go_wp2_with (fail)
 go_quiet (fail)
 go_wp2_with (fail)
 go_ret;exact⟨rfl,rfl,rfl,rfl,AS _,fun _ _=>rfl⟩
def Ct(Mk:Nat)(n:Int)(M:Nat->Prop)(ops j:List Zk)(w:A4)(e:DD)(w':A4):Prop:=e=.returned (.tuple #[]) /\ ∃M',MkD w' Mk n M' (ops++j)/\JEx M M' w w'
theorem Ct.low{w1 w':A4}{j:List Zk}{e:DD}(h:Ct Mk n M ops j w1 e w')(hX:JEx M M w w1):Ct Mk n M ops j w e w':=by
 obtain⟨h1,M',h2,h3⟩:=h;exact⟨h1,M',h2,hX.trans h3⟩
def cF(d:To):Bool:=match d with
 | .slice _ _=>true
 | _=>false
theorem KW{w:A4}{v:D3}{d:To}(h:Rep (f+1) F w v d):∃b k nm s sl mv,v=.pointer (some ⟨b,0,none⟩)/\VB w b k nm s sl mv/\(k==6)=ZQ d/\(k==5)=cF d /\
  (∀xs,d=.map xs -> ∃m n' D,mv=.map (some m)/\F m/\w.ownsMap AI 9 RV m n' (.map D)/\Pt (Rep f F w) D xs) /\
  (∀xs y,d=.slice xs y->y=[] /\ ∃ps,w.ownsRow 0 80 1 sl ps.length ps/\(∀g,sl.ownBlock=some g->F g)/\Al (Rep f F w) ps xs):=by
 obtain⟨b,rfl,_,h⟩:=h;rcases h with⟨k,hk,rfl,h⟩|⟨n,rfl,h,_⟩|⟨s,rfl,h⟩|⟨es,sl,ps,rfl,h,ho,hg,ha⟩|⟨es,m,n,D,rfl,h,hm,ho,hp⟩
 ·have hk2:((k:Int)==6)=false/\((k:Int)==5)=false:=by
   match k,hk with
   | 0,_=>exact⟨rfl,rfl⟩
   | 1,_=>exact⟨rfl,rfl⟩
   | 2,_=>exact⟨rfl,rfl⟩
  exact⟨b,k,_,_,_,_,rfl,h,hk2.1,hk2.2,(fun xs e=>by cases e),fun xs y e=>by cases e⟩
 ·exact⟨b,3,_,_,_,_,rfl,h,rfl,rfl,(fun xs e=>by cases e),fun xs y e=>by cases e⟩
 ·exact⟨b,4,_,_,_,_,rfl,h,rfl,rfl,(fun xs e=>by cases e),fun xs y e=>by cases e⟩
 ·refine⟨b,5,_,_,_,_,rfl,h,rfl,rfl,(fun xs e=>by cases e),fun xs y e=>?_⟩;injection e with e1 e2;subst e1 e2;exact⟨rfl,ps,ho,hg,ha⟩
 ·refine⟨b,6,_,_,_,_,rfl,h,rfl,rfl,(fun xs e=>?_),fun xs y e=>by cases e⟩;injection e with e1;subst e1;exact⟨m,n,D,rfl,hm,ho,hp⟩
end
section
variable{Mk:Nat}{n:Int}{M:Nat->Prop}{ops:List Zk}
theorem Oh{w:A4}{av bv:D3}{x y:To}{s:List By}(h:MkD w Mk n M ops)(ha:Rep (f+1) F w av x)(hb:Rep (f+1) F' w bv y)(hf:f+1<=top)(z8:∀k,F' k->M k)(hp:Au w M (.slice pa pl pc) s)(hn:ops.length<=1000000000)(qp:∀xs z,x=.slice xs z->xs.length<=1000000)(qq:∀ys z,y=.slice ys z->ys.length<=1000000)(hO:∀xs ys m1 n1 D1 m2 n2 D2,x=.map xs->y=.map ys->F m1->F' m2->w.ownsMap AI 9 RV m1 n1 (.map D1)->Pt (Rep f F w) D1 xs->w.ownsMap AI 9 RV m2 n2 (.map D2)->Pt (Rep f F' w) D2 ys -> ∀w1,A6 w.heap.size w w1 ->
   CH AI 166 #[.pointer (some ⟨Mk,0,none⟩),.slice pa pl pc,.map (some m1),.map (some m2)] w1 (Ct Mk n M ops (AY (BQ n f) s xs ys (BS xs ys)) w1))(hA:∀xs ys qz qr qg qh,x=.slice xs []->y=.slice ys []->((xs.length:Int)+1)*((ys.length:Int)+1)<=n->w.ownsRow 0 80 1 qz qg.length qg->Al (Rep f F w) qg xs->w.ownsRow 0 80 1 qr qh.length qh->(∀g,qr.ownBlock=some g->F' g)->Al (Rep f F' w) qh ys -> ∀w1,A6 w.heap.size w w1 ->
   CH AI 168 #[.pointer (some ⟨Mk,0,none⟩),.slice pa pl pc,qz,qr] w1 (Ct Mk n M ops (CX s xs ys) w1)):
  CH AI 123 #[.pointer (some ⟨Mk,0,none⟩),.slice pa pl pc,av,bv] w (Ct Mk n M ops (BQ n (f+1) s x y) w):=by
 have q4:=Ab (fun (w1:A4) (hb1:A6 w.heap.size w w1)=>Eq (f+1) F F' w1 av bv x y (ha.bel hb1) (hb.bel hb1));have q8:=Ab (fun (w1:A4) (hb1:A6 w.heap.size w w1) (q:Addr) (hq:bv=.pointer (some q))=>IY (o:=(2,s,y)) (pa:=pa) (pl:=pl) (pc:=pc) (x:=some q) (h.bel hb1).1 hn ⟨rfl,by show 2<3;decide,hp.move fun k hk zc=>⟨hb1.block k zc,hk⟩,rfl,C2 ⟨by show 2≠1;decide,by rw[<- hq];exact ((hb.bel hb1).move fun k hk _=>⟨rfl,z8 k hk⟩).up hf⟩⟩);obtain⟨ab,ak,zi,zk,zj,zh,rfl,qe,a6,a5,aO,aA⟩:=KW ha;obtain⟨bb,bk,zo,zr,zq,zn,rfl,qf,b6,b5,bO,bA⟩:=KW hb;have zs:=qe.c0;have zt:=qf.c0;have qk:=qe.c6;have qn:=qf.c6;have q9:=qe.c5;have qd:=qf.c5;have HH:=Ab h;obtain⟨Q,hQ⟩:∃Q,Q=Ct Mk n M ops (BQ n (f+1) s x y) w:=⟨_,rfl⟩
 rw[<- hQ];have HQ:=Ab hQ;by_cases hob:ZQ x=true/\ZQ y=true
 ·obtain⟨ex,ey⟩:=hob;obtain⟨xs,rfl⟩:∃xs,x=.map xs:=by
   cases x with
   | map xs=>exact⟨xs,rfl⟩
   | _=>cases ex
  obtain⟨ys,rfl⟩:∃ys,y=.map ys:=by
   cases y with
   | map ys=>exact⟨ys,rfl⟩
   | _=>cases ey
  obtain⟨m1,n1,D1,rfl,k1,o1,p1⟩:=aO _ rfl;obtain⟨m2,n2,D2,rfl,k2,o2,p2⟩:=bO _ rfl;have HC:=Ab (hO xs ys m1 n1 D1 m2 n2 D2 rfl rfl k1 k2 o1 p1 o2 p2);rw[ex] at a6;rw[ey] at b6;clear ha hb h hp qp qq hO hA aO aA bO bA k1 k2 o1 p1 o2 p2 qe qf a5 b5 q4 q8 hQ ex ey q9 qd
  go_enter func123,ntmps123
  go_wp2_with (fail)
  go_region_with (go_at_call 166;refine (Aa HC _ ?_).mono ?_;exact⟨rfl,rfl,rfl,AS _,fun _ _=>rfl⟩;rintro e w2 ⟨rfl,hE⟩)
  all_goals (
   have HE:=Ab hE;clear hE
   go_wp2_with (fail);refine AT (A1 rfl _ _ _) rfl ?_
   rw[Aa HQ];exact Ct.low ⟨rfl,Aa HE⟩ ((Aa HH).bel (w':=w.drew) ⟨rfl,rfl,rfl,AS _,fun _ _=>rfl⟩).2)
 ·have q5:=Ab (show ∀w1,A6 w.heap.size w w1->BQ n (f+1) s x y=(if veq x y=true then [] else [(2,s,y)]) -> ∀w2,A6 w1.heap.size w1 w2->(veq x y=true->Q (.returned (.tuple #[])) w2)/\(veq x y=false->CH AI 169 #[.pointer (some ⟨Mk,0,none⟩),.int .i64 2,.slice pa pl pc,.pointer (some ⟨bb,0,none⟩)] w2 Q) from fun w1 hb1 hd w2 hb2=>by
   have qm:A6 w.heap.size w w2:=hb1.trans (hb2.mono hb1.size);obtain⟨h2,qw⟩:=h.bel qm;constructor
   ·intro hv;rw[hQ,hd,if_pos hv];exact⟨rfl,M,by rw[List.append_nil];exact h2,qw⟩
   ·intro hv;refine (Aa q8 w2 qm _ rfl).mono ?_;rintro e w3 ⟨rfl,k1,k2⟩;rw[hQ,hd,if_neg (by rw[hv];decide)];exact⟨rfl,M,k1,qw.trans k2⟩)
  by_cases qb:cF x=true/\cF y=true
  ·obtain⟨ex,ey⟩:=qb;obtain⟨xs,z1,rfl⟩:∃xs z,x=.slice xs z:=by
    cases x with
    | slice xs z=>exact⟨xs,z,rfl⟩
    | _=>cases ex
   obtain⟨ys,z2,rfl⟩:∃ys z,y=.slice ys z:=by
    cases y with
    | slice ys z=>exact⟨ys,z,rfl⟩
    | _=>cases ey
   obtain⟨rfl,qg,o1,_,l1⟩:=aA _ _ rfl;obtain⟨rfl,qh,o2,k2,l2⟩:=bA _ _ rfl;obtain⟨aa,ac,rfl⟩:=Cr o1;obtain⟨ba,bc,rfl⟩:=Cr o2;have ze:=qp _ _ rfl;have zf:=qq _ _ rfl;have HC:=Ab (fun zb=>hA xs ys _ _ qg qh rfl rfl zb o1 l1 o2 k2 l2);have qx:qg.length=xs.length:=l1.length;have qy:qh.length=ys.length:=l2.length;have q0:=Ab (PW h qe qf (by omega) (by omega));have q7:BQ n (f+1) s (.slice xs []) (.slice ys [])=if ((xs.length:Int)+1)*((ys.length:Int)+1)<=n then CX s xs ys else if veq (.slice xs []:To) (.slice ys [])=true then [] else [(2,s,.slice ys [])]:=rfl
   rw[qx] at q9 HC q0;rw[qy] at qd HC q0;obtain⟨vq,qo⟩:∃vq,vq=veq (.slice xs []:To) (.slice ys []):=⟨_,rfl⟩
   rw[<- qo] at q4 q5 q7;have qv:=Ab q7;rw[ex] at a5;rw[ey] at b5;have zl:(ak==6)=false:=a6;have hal:=qe.lt;have za:=qf.lt;clear ha hb h hp qp qq hO hA aO aA bO bA o1 o2 l1 l2 k2 qe qf a6 b6 q8 hQ hob ex ey qk qn qo q7 ze zf qx qy;by_cases hc:((xs.length:Int)+1)*((ys.length:Int)+1)<=n
   ·have q6:=decide_eq_true hc;rw[q6] at q0;have HD:=Ab (show BQ n (f+1) s (.slice xs []) (.slice ys [])=CX s xs ys by rw[Aa qv,if_pos hc]);have z7:=Ab hc;clear hc q6 q4 q5
    go_enter func123,ntmps123
    go_wp2_with (fail);refine (Aa q0).mono ?_
    rintro e w2 ⟨rfl,hb2⟩;have zg:w2.cell? ⟨ab,5,none⟩=some (.slice aa xs.length ac):=(hb2.cell (p:=⟨ab,5,none⟩) hal).trans q9;have zm:w2.cell? ⟨bb,5,none⟩=some (.slice ba ys.length bc):=(hb2.cell (p:=⟨bb,5,none⟩) za).trans qd;have qu:=Ab (show A6 w.heap.size w w2.drew from⟨hb2.os,hb2.tape,hb2.output,hb2.size,hb2.block⟩);have z6:=Ab (Aa HC (Aa z7) w2.drew (Aa qu));clear hb2 q0 HC
    go_wp2_with (fail)
    go_region_with (go_at_call 168;refine (Aa z6).mono ?_;rintro e w3 ⟨rfl,hE⟩)
    all_goals (
     have HE:=Ab hE;clear hE
     go_wp2_with (fail);refine AT (A1 rfl _ _ _) rfl ?_
     rw[Aa HQ,Aa HD];exact Ct.low ⟨rfl,Aa HE⟩ ((Aa HH).bel (w':=w2.drew) (Aa qu)).2)
   ·have q6:=decide_eq_false hc;rw[q6] at q0;have HD:=Ab (show BQ n (f+1) s (.slice xs []) (.slice ys [])=(if vq=true then [] else [(2,s,.slice ys [])]) by rw[Aa qv,if_neg hc]);clear hc q6 HC
    go_enter func123,ntmps123
    go_wp2_with (fail);refine (Aa q0).mono ?_
    rintro e w1 ⟨rfl,hb1⟩;have qt:=Ab hb1;clear hb1 q0
    go_wp2_with (fail);refine (Aa q4 _ (Aa qt)).mono ?_
    rintro e w2 ⟨rfl,hb2⟩;have qi:=Ab (Aa q5 w1 (Aa qt) (Aa HD) w2 hb2);clear hb2;cases vq with
    | true=>
     go_wp2_with (fail);refine AT (A1 rfl _ _ _) rfl ?_
     exact (Aa qi).1 trivial
    | false=>
     go_wp2_with (fail);refine ((Aa qi).2 trivial).mono ?_
     intro e w3 hE;have qj:=hE;rw[Aa HQ] at qj;obtain⟨rfl,_⟩:=qj;have HE:=Ab hE;clear hE
     go_wp2_with (fail);refine AT (A1 rfl _ _ _) rfl ?_
     exact Aa HE
  ·have HD:=Ab (show BQ n (f+1) s x y=(if veq x y=true then [] else [(2,s,y)]) by
    cases x<;>cases y<;>first|rfl|exact absurd ⟨rfl,rfl⟩ hob|exact absurd ⟨rfl,rfl⟩ qb)
   have hk:((ak==6)=true/\(bk==6)=false/\(ak==5)=false)\/((ak==6)=false/\(ak==5)=true/\(bk==5)=false)\/((ak==6)=false/\(ak==5)=false):=by
    rw[a6,b6,a5,b5];cases hx:ZQ x with
    | true=>
     refine C1 ⟨rfl,?_,?_⟩
     ·cases hy:ZQ y with
      | false=>rfl
      | true=>exact absurd ⟨hx,hy⟩ hob
     ·cases x<;>first|rfl|cases hx
    | false=>
     cases hx2:cF x with
     | false=>exact C2 (C2 ⟨rfl,rfl⟩)
     | true=>
      refine C2 (C1 ⟨rfl,rfl,?_⟩);cases hy:cF y with
      | false=>rfl
      | true=>exact absurd ⟨hx2,hy⟩ qb
   obtain⟨vq,qo⟩:∃vq,vq=veq x y:=⟨_,rfl⟩
   rw[<- qo] at q4 q5 HD;clear ha hb h hp qp qq hO hA aO aA bO bA qe qf a5 b5 a6 b6 q8 hQ hob qb q9 qd qk qn qo;rcases hk with⟨e1,e2,e3⟩|⟨e1,e2,e3⟩|⟨e1,e2⟩;all_goals (
    go_enter func123,ntmps123
    go_wp2_with (fail);refine (Aa q4 _ ⟨rfl,rfl,rfl,AS _,fun _ _=>rfl⟩).mono ?_
    rintro e w2 ⟨rfl,hb2⟩;have qi:=Ab (Aa q5 w ⟨rfl,rfl,rfl,AS _,fun _ _=>rfl⟩ (Aa HD) w2 hb2);clear hb2;cases vq with
    | true=>
     go_wp2_with (fail);refine AT (A1 rfl _ _ _) rfl ?_
     exact (Aa qi).1 trivial
    | false=>
     go_wp2_with (fail);refine ((Aa qi).2 trivial).mono ?_
     intro e w3 hE;have qj:=hE;rw[Aa HQ] at qj;obtain⟨rfl,_⟩:=qj;have HE:=Ab hE;clear hE
     go_wp2_with (fail);refine AT (A1 rfl _ _ _) rfl ?_
     exact Aa HE)
end
theorem ML{w:A4}{m n':Nat}{D:List (Lit×DataW D3)}{xs:List (Lit×To)}{k:By}(ho:w.ownsMap AI 9 RV m n' (.map D))(hp:Pt (Rep f F w) D xs)(hk:k.length<=1048576):
  ∃y,(match As xs (.string k) with|none=>y=none|some c=>Rep f F w (.pointer y) c/\y≠none) /\ ∀w',w'.heap[m]? = w.heap[m]? -> (Instr.lookup 109 (.map (some m)) (.string ⟨k.toArray⟩) false).run AI w'=.ok (.pointer y) w':=by
 have q5:=A7 ho;have hh:=hp.has (.string k);cases hc:has (.map D:DataW D3) (.string k) with
 | false=>
  have e1:As xs (.string k)=none:=by
   unfold As;rw[if_neg (by rw[<- hh,hc];simp)]
  rw[e1];refine⟨none,rfl,fun w' q0=>?_⟩;obtain⟨v1,q4,r1,q1⟩:=(Aj ho q0).lookup Bw underlying109 (B0 w') (zd:=.held (.pointer none)) (zp:=[]) rfl (Ee k hk);obtain⟨rfl,_⟩:=Cb q1 (atKey_of_not_has hc _);exact r1
 | true=>
  obtain⟨y,e4,hy⟩:=hp.at (.string k) hc;obtain⟨b,rfl,_⟩:=Rep.ptr hy;have e1:As xs (.string k)=some ((DataW.map xs).atKey (.string k) .nil):=by
   unfold As;rw[if_pos (by rw[<- hh,hc])]
  rw[e1];refine⟨some ⟨b,0,none⟩,⟨hy,by simp⟩,fun w' q0=>?_⟩;obtain⟨v1,q4,r1,q1⟩:=(Aj ho q0).lookup Bw underlying109 (B0 w') (zd:=.held (.pointer none)) (zp:=[]) rfl (Ee k hk);obtain⟨rfl,_⟩:=Cb q1 (e4 _);exact r1
def NU(ks:List By)(w:A4)(e:DD)(w':A4):Prop:=A6 w.heap.size w w'/\((ks=[] /\ ∃a c,e=.returned (.slice a 0 c)) \/ ∃g cap,e=.returned (.slice (some ⟨g,0,none⟩) ks.length cap)/\w.heap.size<=g/\ks.length<=cap/\cap<=maxLen/\SR w' g ks.length ks)
theorem J1(m:List By->To->To->List Zk)(s:List By)(xs bs:List (Lit×To))(k:By):∀l:List By,AY m s xs bs (l++[k])=AY m s xs bs l++(match As xs (.string k),As bs (.string k) with
  | _,none=>[(1,s++[k],.nil)]
  | none,some y=>[(0,s++[k],y)]
  | some x,some y=>m (s++[k]) x y)
 | []=>by
  simp[AY];rfl
 | a::l=>by
  rw[List.cons_append,AY,J1 m s xs bs k l,AY,Dt]
section
variable{Mk:Nat}{n:Int}{M:Nat->Prop}{ops:List Zk}
def ObI(Mk:Nat)(n:Int)(M:Nat->Prop)(ops:List Zk)(m:List By->To->To->List Zk)(s:List By)(xs ys:List (Lit×To))(ks:List By)(w1:A4)(t:Nat)(wr:A4):Prop:=
 ∃M',MkD wr Mk n M' (ops++AY m s xs ys (ks.take t))/\JEx M M' w1 wr
theorem MW{w:A4}{m1 n1 m2 n2:Nat}{D1 D2:List (Lit×DataW D3)}{xs ys:List (Lit×To)}{m:List By->To->To->List Zk}{s:List By}(h:MkD w Mk n M ops)(hf:f<=top)(hF:∀k,F k->M k)(za:∀k,F' k->M k)(zh:M m1)(zi:M m2)(o1:w.ownsMap AI 9 RV m1 n1 (.map D1))(p1:Pt (Rep f F w) D1 xs)(o2:w.ownsMap AI 9 RV m2 n2 (.map D2))(p2:Pt (Rep f F' w) D2 ys)(hp:Au w M (.slice pa pl pc) s)(zj:s.length<=100000000)(qh:s=[] -> ∃c,(Value.slice pa pl pc)=.slice none 0 c)(ks:List By)(zf:∀k∈ks,k.length<=1048576)(y3:ks.length<=1000000)(hn:∀t,(ops++AY m s xs ys (ks.take t)).length<=1000000000)(hK:CH AI 208 #[.map (some m1),.map (some m2)] w (NU ks w))(hV:∀k∈ks,∀x y,As xs (.string k)=some x->As ys (.string k)=some y -> ∀M1 wr xv yv qa ql qc ops',(∃t,ops'=ops++AY m s xs ys (ks.take t))->MkD wr Mk n M1 ops'->JEx M M1 w wr->Rep f F wr xv x->Rep f F' wr yv y->Au wr M1 (.slice qa ql qc) (s++[k])->CH AI 123 #[.pointer (some ⟨Mk,0,none⟩),.slice qa ql qc,xv,yv] wr (Ct Mk n M1 ops' (m (s++[k]) x y) wr)):
  CH AI 166 #[.pointer (some ⟨Mk,0,none⟩),.slice pa pl pc,.map (some m1),.map (some m2)] w (Ct Mk n M ops (AY m s xs ys ks) w):=by
 have HH:=Ab h;have qp:=Ab (D0 hF za);have HM:=Ab (D0 zh zi);have HO:=Ab (D0 o1 o2);have HP:=Ab (D0 p1 p2);have zr:=Ab hp;have zs:=Ab zj;have zq:=Ab qh;have zn:=Ab zf;have HN:=Ab hn;have HK:=Ab hK;have HV:=Ab hV;obtain⟨Q,hQ⟩:∃Q,Q=Ct Mk n M ops (AY m s xs ys ks) w:=⟨_,rfl⟩
 rw[<- hQ];have HQ:=Ab hQ;clear h hF za zh zi o1 o2 p1 p2 hp zj qh zf hn hK hV hQ
 go_enter func166,ntmps166
 go_wp2_with (fail);refine (Aa HK).mono ?_
 rintro e w1 ⟨hb1,hk⟩;rcases hk with⟨rfl,a,c,rfl⟩|⟨g,cap,rfl,hg,zx,y8,qy⟩
 ·have q7:=Ab (show Q (.returned (.tuple #[])) w1 from by
   obtain⟨h1,h2⟩:=(Aa HH).bel hb1;rw[Aa HQ];exact⟨rfl,M,by simpa[AY] using h1,h2⟩)
  clear hb1 HK HV
  go_wp2_with (fail);refine wp_loop_rounds 1 ?_
  rw[rounds_succ]
  go_wp2_with (fail);exact AT (A1 rfl _ _ _) rfl (Aa q7)
 ·have zy:g<w1.heap.size:=by obtain⟨cur,hc,_⟩:=qy;exact (A5.1 hc).1
  obtain⟨h1,qt⟩:=(Aa HH).grow hb1 (fun j=>w.heap.size<=j/\j<w1.heap.size) (fun _ h=>h);obtain⟨M1,qm⟩:∃M1,M1=fun j=>M j\/(w.heap.size<=j/\j<w1.heap.size):=⟨_,rfl⟩
  rw[<- qm] at h1 qt;have zm:=Ab (show ObI Mk n M1 ops m s xs ys ks w1 0 w1 from⟨M1,by simpa[AY] using h1,JEx.refl _ _⟩);have HG:=Ab (show M1 g from by rw[qm];exact C2 ⟨hg,zy⟩);have zt:=Ab qy;have z6:=Ab qt;have HE:=Ab qm;have y7:=Ab hb1;clear h1 qt qy hb1 qm HK;have ya:(ks.length:Int)<=1000000:=by omega
  go_wp2_with (fail)
  go_loopw [17] (fun i wr=>∃t:Nat,t<=ks.length/\i=.int .i64 t/\Hid (ObI Mk n M1 ops m s xs ys ks w1 t wr)) (fun i _=>ks.length-(intOf i).toNat)
  case atStart=>exact⟨0,by omega,rfl,zm⟩
  case round=>
   obtain⟨t,ht,rfl,HI⟩:=hrel;by_cases hlt:t<ks.length
   ·obtain⟨M',hD,hX⟩:=Aa HI;have qd:=(Aa z6).trans hX;have ck:wr.cell? ⟨g,t,none⟩=some (.string ⟨ks[t].toArray⟩):=(CL (a:=⟨g,t,none⟩) (hX.kept g (Aa HG)).2).trans ((Aa zt).cell t hlt);have qn:ks[t]∈ks:=List.getElem_mem hlt;obtain⟨k,hk⟩:∃k,k=ks[t]:=⟨_,rfl⟩
    rw[<- hk] at ck qn;have qv:=Aa zn k qn;obtain⟨y1,q5,l1⟩:=ML (Aa HO).1 (Aa HP).1 qv;obtain⟨y2,q0,l2⟩:=ML (Aa HO).2 (Aa HP).2 qv;have L1:=l1 wr.drew ((qd.kept m1 (Aa HM).1).2);have L2:=l2 wr.drew ((qd.kept m2 (Aa HM).2).2);have z1:=Ab (Ik (w:=wr.drew) (G:=M') (t:=k) ((Aa zr).move fun j hj _=>⟨(qd.kept j hj).2,(qd.kept j hj).1⟩) (Aa zs) (Aa zq));have zc:A6 wr.heap.size wr wr.drew:=⟨rfl,rfl,rfl,AS _,fun _ _=>rfl⟩
    have zl:=Ab (hD.bel zc);have zw:=Ab qd;have zv:=Ab hX;have q6:ks.take (t+1)=ks.take t++[k]:=by rw[List.take_add_one,List.getElem?_eq_getElem hlt,hk];rfl
    have zu:=Ab q6;have zo:=Ab qn;have qw:(t:Int)<(ks.length:Int):=by omega
    have y4:(t:Int)<(cap:Int):=by omega
    have z7:=Ab q5;have z8:=Ab q0;clear hD hX qd qn qv l1 l2 q5 q0 hk zc q6
    go_upto_region 3 with (fail)
    go_cut [10,11] (fun y5 y6 wx=>y5=.pointer y1/\y6=.pointer y2/\wx=wr.drew)
    case first=>
     go_region
     all_goals (
      go_wp2_with (fail)
      go_meet
      exact⟨rfl,rfl,rfl⟩)
    case rest=>
     obtain⟨rfl,rfl,rfl⟩:=hcut;clear L1 L2
     go_wp2_with (fail);refine (Aa z1).mono ?_
     rintro e w2 ⟨g',qq,rfl,y9,htk,hb2⟩;obtain⟨ze,qz⟩:=Aa zl;obtain⟨qu,hx2⟩:=ze.grow hb2 (fun j=>wr.heap.size<=j/\j<w2.heap.size) (fun _ h=>h);obtain⟨M2,qr⟩:∃M2,M2=fun j=>M' j\/(wr.heap.size<=j/\j<w2.heap.size):=⟨_,rfl⟩
     rw[<- qr] at qu hx2;have zb:JEx M M2 w w2:=(Aa zw).trans (qz.trans hx2);have qf:JEx M1 M2 w1 w2:=(Aa zv).trans (qz.trans hx2);have qj:Au w2 M2 (.slice (some ⟨g',0,none⟩) (s.length+1) qq) (s++[k]):=htk.move fun j hj zz=>⟨rfl,by rw[qr];exact C2 ⟨hj,zz⟩⟩
     have qb:=Ab (fun (j:List Zk) (w3:A4) (q:∃M3,MkD w3 Mk n M3 (ops++AY m s xs ys (ks.take t)++j)/\JEx M2 M3 w2 w3) (hj:(match As xs (.string k),As ys (.string k) with
       | _,none=>[(1,s++[k],.nil)]
       | none,some y=>[(0,s++[k],y)]
       | some x,some y=>m (s++[k]) x y)=j)=>show ObI Mk n M1 ops m s xs ys ks w1 (t+1) w3 from by
      obtain⟨M3,q1,q2⟩:=q;refine⟨M3,?_,qf.trans q2⟩;rw[Aa zu,J1,<- Dt,hj];exact q1)
     have zg:=Aa HN t;have qo:=Ab qu;have q8:=Ab qj;have qk:=Ab zb;clear ze qz qu hx2 qr zb qf qj htk hb2 z1;cases hgy:As ys (.string k) with
     | none=>
      have q0:=Aa z8;rw[hgy] at q0;obtain rfl:y2=none:=q0;have HL:=Ab (IY (o:=(1,s++[k],.nil)) (pa:=some ⟨g',0,none⟩) (x:=none) (Aa qo) zg ⟨rfl,by show 1<3;decide,Aa q8,rfl,C1 ⟨rfl,rfl⟩⟩);have HJ:=Ab (fun w3 (q:∃M3,MkD w3 Mk n M3 (ops++AY m s xs ys (ks.take t)++[(1,s++[k],.nil)])/\JEx M2 M3 w2 w3)=>Aa qb _ w3 q (by rw[hgy]));clear hgy qb HV
      go_wp2_with (fail);refine (Aa HL).mono ?_
      rintro e w3 ⟨rfl,k1,k2⟩;have qe:=Ab (Aa HJ w3 ⟨M2,k1,k2⟩);clear k1 k2
      go_wp2_with (fail);exact⟨⟨t+1,by omega,by go_num,qe⟩,by simp[intOf];omega⟩
     | some c2=>
      have q0:=Aa z8;rw[hgy] at q0;obtain⟨qx,q9⟩:=(show Rep f F' w (.pointer y2) c2/\y2≠none from q0)
      obtain⟨b2,rfl⟩:∃b2,y2=some b2:=by
       cases y2 with
       | none=>exact absurd rfl q9
       | some b2=>exact⟨b2,rfl⟩
      have q4:Rep f F' w2 (.pointer (some b2)) c2:=qx.move fun j hj _=>⟨((Aa qk).kept j ((Aa qp).2 j hj)).2,hj⟩
      cases hgx:As xs (.string k) with
      | none=>
       have q5:=Aa z7;rw[hgx] at q5;obtain rfl:y1=none:=q5;have HL:=Ab (IY (o:=(0,s++[k],c2)) (pa:=some ⟨g',0,none⟩) (x:=some b2) (Aa qo) zg ⟨rfl,by show 0<3;decide,Aa q8,rfl,C2 ⟨by show 0≠1;decide,(q4.move fun j hj _=>⟨rfl,((Aa qk).kept j ((Aa qp).2 j hj)).1⟩).up hf⟩⟩);have HJ:=Ab (fun w3 (q:∃M3,MkD w3 Mk n M3 (ops++AY m s xs ys (ks.take t)++[(0,s++[k],c2)])/\JEx M2 M3 w2 w3)=>Aa qb _ w3 q (by rw[hgy,hgx]));clear hgy hgx qb HV q0 qx q4 q9
       go_wp2_with (fail);refine (Aa HL).mono ?_
       rintro e w3 ⟨rfl,k1,k2⟩;have qe:=Ab (Aa HJ w3 ⟨M2,k1,k2⟩);clear k1 k2
       go_wp2_with (fail);exact⟨⟨t+1,by omega,by go_num,qe⟩,by simp[intOf];omega⟩
      | some c1=>
       have q5:=Aa z7;rw[hgx] at q5;obtain⟨zk,qg⟩:=(show Rep f F w (.pointer y1) c1/\y1≠none from q5)
       obtain⟨b1,rfl⟩:∃b1,y1=some b1:=by
        cases y1 with
        | none=>exact absurd rfl qg
        | some b1=>exact⟨b1,rfl⟩
       have qi:Rep f F w2 (.pointer (some b1)) c1:=zk.move fun j hj _=>⟨((Aa qk).kept j ((Aa qp).1 j hj)).2,hj⟩
       have HL:=Ab (Aa HV k (Aa zo) c1 c2 hgx hgy M2 w2 _ _ _ _ _ _ ⟨t,rfl⟩ (Aa qo) (Aa qk) qi q4 (Aa q8));have HJ:=Ab (fun w3 (q:∃M3,MkD w3 Mk n M3 (ops++AY m s xs ys (ks.take t)++m (s++[k]) c1 c2)/\JEx M2 M3 w2 w3)=>Aa qb _ w3 q (by rw[hgy,hgx]));clear hgy hgx qb HV q0 q5 qx q4 q9 zk qi qg
       go_wp2_with (fail);refine (Aa HL).mono ?_
       rintro e w3 ⟨rfl,k1⟩;have qe:=Ab (Aa HJ w3 k1);clear k1
       go_wp2_with (fail);exact⟨⟨t+1,by omega,by go_num,qe⟩,by simp[intOf];omega⟩
   ·obtain rfl:t=ks.length:=by omega
    have qw:¬ ((ks.length:Nat):Int)<((ks.length:Nat):Int):=by omega
    have q7:=Ab (show Q (.returned (.tuple #[])) wr from by
     obtain⟨M',h1,h2⟩:=Aa HI;rw[List.take_length] at h1;rw[Aa HQ];exact⟨rfl,M',h1,(Aa z6).trans h2⟩)
    clear HV
    go_wp2_with (fail);exact AT (A1 rfl _ _ _) rfl (Aa q7)
end
def Ke(j:List Zk)(w:A4)(e:DD)(w':A4):Prop:=A6 w.heap.size w w' /\ ∃mv xs M,e=.returned mv/\w'.ownsRow 0 178 4 mv j.length xs/\(∀g,mv.ownBlock=some g -> ¬ M g)/\CV w' M xs j
theorem XC(w:A4)(n:Int):MkD (w.alloc (.cells #[.int .i64 n,.slice none 0 0] 187)) w.heap.size n (fun k=>k<w.heap.size) []:=
 ⟨⟨.slice none 0 0,[],heap_alloc_new w _,⟨rfl,C1 ⟨rfl,rfl⟩⟩,fun g hg=>by simp[CD] at hg,trivial⟩,fun k hk=>by simp;omega,fun h=>absurd h (Nat.lt_irrefl _)⟩
theorem LR{w:A4}{av bv:D3}{n:Int}{j:List Zk}(hV:CH AI 123 #[.pointer (some ⟨w.heap.size,0,none⟩),.slice none 0 0,av,bv] (w.alloc (.cells #[.int .i64 n,.slice none 0 0] 187)) (Ct w.heap.size n (fun k=>k<w.heap.size) [] j (w.alloc (.cells #[.int .i64 n,.slice none 0 0] 187)))):
  CH AI 88 #[av,bv,.int .i64 n] w (Ke j w):=by
 have HV:=Ab hV;have HB:=Ab (show A6 w.heap.size w (w.alloc (.cells #[.int .i64 n,.slice none 0 0] 187)) from (Ft _ _).alloc (AS _) _);obtain⟨Q,hQ⟩:∃Q,Q=Ke j w:=⟨_,rfl⟩
 rw[<- hQ];have HQ:=Ab hQ;clear hV hQ
 go_enter func88,ntmps88
 go_wp2_with (fail);refine (Aa HV).mono ?_
 rintro e w2 ⟨rfl,M',hD,hX⟩;obtain⟨mv,xs,g1,g2,g3,g4⟩:=hD.ex;have c1:w2.cell? ⟨w.heap.size,1,none⟩=some mv:=by simp[E0,g1]
 have q0:=Ab (show Q (.returned mv) w2 from by
  rw[Aa HQ];exact⟨⟨hX.os.trans (Aa HB).os,hX.tape.trans (Aa HB).tape,hX.output.trans (Aa HB).output,Nat.le_trans (Aa HB).size hX.size,fun k hk=>((hX.kept k hk).2).trans ((Aa HB).block k hk)⟩,mv,xs,M',rfl,by simpa using g2,fun g hg=>(g3 g hg).1,by simpa using g4⟩)
 clear hD hX g1 g2 g3 g4 HV
 go_wp2_with (fail);exact Aa q0
end Go.Proofs.YtdpomdelmdofmaaGreatDoor
