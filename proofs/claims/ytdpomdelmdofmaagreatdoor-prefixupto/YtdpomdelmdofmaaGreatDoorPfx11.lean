import Derived.Test.YtdpomdelmdofmaaGreatDoorPfx10
import Derived.Sort.Grow
import Derived.Lib.SlMapEqual
open Nat renaming le_trans->AI,le_refl->A2
open List renaming length_cons->AS,length_append->A3,length_nil->A4,take_of_length_le->BY,find?_cons->C2
open Go.RowKit.Below renaming refl->AT
open Go.Proofs.Tryz renaming prog->A1
open Array renaming getElem?_eq_some_iff->A5
open Go.Sort renaming grow->A6
open Go.Lib renaming bytesWorld->Bs,itoa->C1,BuilderAt->DD
open Go renaming Value->CD,Calls->CR,World->Dp
open Go.World renaming cell?->CH
open Go.DataW renaming atKey->CL
open Go.RowKit renaming intOf->Dt,Below->D0
open Go.Maps renaming has->D1
set_option maxHeartbeats 4000000
namespace Go.Proofs.YtdpomdelmdofmaaGreatDoor
open Go.Proofs.Tryz Go.RowKit Go.Maps
variable{w w':Dp}{B b f:Nat}{q5 nd q4:By}{ne:Int}{F:Nat->Prop}
theorem Ec(n:Nm)(w:Dp):CR A1 138 #[Az n] w fun e w'=>e=.returned (.bool n.2.1.isEmpty)/\D0 w.heap.size w w':=by
 obtain⟨nb,nd,ne⟩:=n;unfold Az
 go_enter func138,ntmps138
 go_wp2_with (fail)
 go_ret;exact⟨by simp,(AT _ _).alloc (A2 _) _⟩
theorem Af.tab(h:Af w):Lib.TabIs A1 w "internal/strconv.uint64pow10" .u64 Lib.pow10Tab:=by
 obtain⟨t,fr,e⟩:=h.pow;unfold Lib.TabIs World.var?;rw[show Tryz.prog.globalNamed "internal/strconv.uint64pow10" = some 5 by kernel_rfl];simp[e]
theorem D7(w:Dp)(k:Nat)(os:Array Obj):D0 w.heap.size w (A6 (w.drewN k) os):=by
 refine⟨rfl,rfl,rfl,?_,?_⟩
 ·simp_all
 grind [A6,World.drewN]
theorem TW(n:Nm):(BB n).length<=n.2.1.length+3+(C1 n.2.2).length:=by
 unfold BB
 grind
theorem Bg{l:By}(h:Bu B b l w)(hb:D0 w.heap.size w w'):Bu B b l w':=by
 have hk:∀ {p:CD} {bs:List CD},DD 119 5 B b p bs w->DD 119 5 B b p bs w':=by
  intro p bs h;obtain⟨hB,v,q4,q0,q5⟩:=h;exact⟨hB,v,(hb.block b (A5.1 q4).1).trans q4,⟨q0.1,q0.2.imp id fun ⟨g,cap,cur,h1,h2,h3,h4⟩=>⟨g,cap,cur,h1,h2,(hb.block g (A5.1 h3).1).trans h3,h4⟩⟩,q5⟩
 exact h.imp hk hk
theorem Ly(w:Dp)(s:By):∃cs fz,(Bs w 5 ⟨s.toArray⟩).heap[w.heap.size]? = some (.cells cs 5 fz)/\fz≠(0,0)/\(∀j (h:j<s.length),cs[j]? = some (.int .u8 (s[j].toNat:Int)))/\D0 w.heap.size w (Bs w 5 ⟨s.toArray⟩):=by
 refine⟨_,_,Lib.bytesWorld_at_new w 5 _,by simp,?_,?_⟩
 ·intro j h;have h2:j<(s.toArray.map fun b=>Value.int .u8 (b.toNat:Int)).size:=by simpa using h
  simp only[Lib.bytesCells];rw[Array.getElem?_append_left h2];simp[h]
 ·refine⟨rfl,rfl,rfl,by rw[Lib.bytesWorld_size];omega,fun k hk=>Lib.bytesWorld_at_old w 5 _ k hk⟩
theorem DZ(s:By)(h:Bu B b q5 w)(hl:q5.length+(6*s.length+2)<=140737488355328)(hB:B<=w.heap.size):
  CR A1 104 #[.pointer (some ⟨b,0,none⟩),.string ⟨s.toArray⟩] w fun e w'=>e=.returned (.tuple #[])/\Bu B b (q5++Ag s) w'/\Fr B b w w':=by
 have qg:=fun W=>Lib.run_convert_string_bytes (P:=A1) W 9 117 5 ⟨s.toArray⟩ underlying9 underlying117 underlying5
 go_enter func104,ntmps104
 go_wp2_with (fail);refine (Bo 34 _ rfl h (by omega) hB).mono ?_
 rintro e w1 ⟨rfl,h1,f1⟩
 go_wp2_with (fail);obtain⟨cs,fz,q6,qm,qj,q7⟩:=Ly w1 s
 have qn:B<=w1.heap.size:=AI hB f1.low.size;have h2:=Bg h1 q7;have f2:Fr B b w (Bs w1 5 ⟨s.toArray⟩):=f1.trans ⟨q7.mono qn,OKz.below q7⟩;generalize Bs w1 5 ⟨s.toArray⟩=w2 at *;have HW:=Ab q7;have qh:w1.heap.size≠b:=by
  rcases h1 with h1|h1
  ·have:=h1.lt;omega
  ·have:=h1.lt;omega
 clear qg h h1 f1 q7
 go_loopw [11] (fun i wr=>∃k:Nat,k<=s.length/\i=.int .i64 k/\Bu B b (q5++34::CO (s.take k)) wr/\Fr B b w wr/\wr.heap[w1.heap.size]? = some (.cells cs 5 fz)) (fun i _=>s.length-(Dt i).toNat)
 case atStart=>exact⟨0,by omega,rfl,by simpa[CO] using h2,f2,q6⟩
 case round=>
  obtain⟨k,hk,rfl,qf,hf,qd⟩:=hrel;have q8:=Ab qf;have q0:B<=wr.heap.size:=AI hB hf.low.size;clear qf h2 f2 q6;by_cases hlt:k<s.length
  ·have cc:wr.cell? ⟨w1.heap.size,k,none⟩=some (.int .u8 (s[k].toNat:Int)):=by simp[CH,qd,qj k hlt]
   have qe:=Sl s k hlt;have hsl:=Jb (s.take k);have hsl2:(s.take k).length=k:=by simp;omega
   have q9:Hid (∀w':Dp,Fr B b wr w'->w'.heap[w1.heap.size]? = some (.cells cs 5 fz)):=fun w' h=>h.oth _ _ qd qh (fun c e=>by injection e with _ _ e;exact qm e);have qb:=Ab qe;have qi:q5.length+(1+(CO (s.take k)).length)+7<=140737488355328:=by omega
   have hn:=s[k].toNat_lt;generalize hc:s[k]=c at *;clear qe hc;by_cases c1:c.toNat=34
   ·have HE:=Ab (show DP c=[92,c] by unfold DP;rw[if_pos (Or.inl c1)]);have e1:((c.toNat:Int)==34)=true:=by simp;omega
    clear c1
    go_wp2_with (fail);refine (Bo 92 _ rfl (Aa q8) (by simp;omega) q0).mono ?_
    rintro e w3 ⟨rfl,h3,f3⟩;have q4:B<=w3.heap.size:=AI q0 f3.low.size
    go_wp2_with (fail);refine (Bo c _ rfl h3 (by simp;omega) q4).mono ?_
    rintro e w4 ⟨rfl,h4,f4⟩
    go_wp2_with (fail)
    go_roundw
    case rel=>exact⟨k+1,by omega,by go_num,by rw[Aa qb,Aa HE];simpa using h4,(hf.trans f3).trans f4,Aa q9 _ (f3.trans f4)⟩
    case measure=>simp[Dt];omega
   ·have e1:((c.toNat:Int)==34)=false:=by simp;omega
    by_cases c2:c.toNat=92
    ·have HE:=Ab (show DP c=[92,c] by unfold DP;rw[if_pos (Or.inr c2)]);have e2:((c.toNat:Int)==92)=true:=by simp;omega
     clear c1 c2
     go_wp2_with (fail);refine (Bo 92 _ rfl (Aa q8) (by simp;omega) q0).mono ?_
     rintro e w3 ⟨rfl,h3,f3⟩;have q4:B<=w3.heap.size:=AI q0 f3.low.size
     go_wp2_with (fail);refine (Bo c _ rfl h3 (by simp;omega) q4).mono ?_
     rintro e w4 ⟨rfl,h4,f4⟩
     go_wp2_with (fail)
     go_roundw
     case rel=>exact⟨k+1,by omega,by go_num,by rw[Aa qb,Aa HE];simpa using h4,(hf.trans f3).trans f4,Aa q9 _ (f3.trans f4)⟩
     case measure=>simp[Dt];omega
    ·have e2:((c.toNat:Int)==92)=false:=by simp;omega
     by_cases c3:c.toNat<32
     ·have HE:=Ab (show DP c=[92,117,48,48,Hy (c.toNat / 16),Hy (c.toNat % 16)] by unfold DP;rw[if_neg (by omega),if_pos c3]);have e3:decide ((c.toNat:Int)<32)=true:=by simp;omega
      go_wp2_with (fail);refine (Fd [92,117,48,48] (Aa q8) (by simp;omega) q0).mono ?_
      rintro e w3 ⟨rfl,h3,f3⟩;have q4:B<=w3.heap.size:=AI q0 f3.low.size
      go_wp2_with (fail);refine (Bo (Hy (c.toNat / 16)) _ ?_ h3 (by simp;omega) q4).mono ?_
      ·rw[R7 _ (by omega)]
      rintro e w4 ⟨rfl,h4,f4⟩;have qk:B<=w4.heap.size:=AI q4 f4.low.size
      go_wp2_with (fail);refine (Bo (Hy (c.toNat % 16)) _ ?_ h4 (by simp;omega) qk).mono ?_
      ·rw[R7 _ (by omega)]
      rintro e w5 ⟨rfl,h5,f5⟩
      go_wp2_with (fail)
      go_roundw
      case rel=>exact⟨k+1,by omega,by go_num,by rw[Aa qb,Aa HE];simpa using h5,((hf.trans f3).trans f4).trans f5,Aa q9 _ ((f3.trans f4).trans f5)⟩
      case measure=>simp[Dt];omega
     ·have HE:=Ab (show DP c=[c] by unfold DP;rw[if_neg (by omega),if_neg c3]);have e3:decide ((c.toNat:Int)<32)=false:=by simp;omega
      clear c1 c2 c3
      go_wp2_with (fail);refine (Bo c _ rfl (Aa q8) (by simp;omega) q0).mono ?_
      rintro e w3 ⟨rfl,h3,f3⟩
      go_wp2_with (fail)
      go_roundw
      case rel=>exact⟨k+1,by omega,by go_num,by rw[Aa qb,Aa HE];simpa using h3,hf.trans f3,Aa q9 _ f3⟩
      case measure=>simp[Dt];omega
  ·go_wp2_with (fail);refine (Bo 34 _ rfl (Aa q8) ?_ q0).mono ?_
   ·have:=Jb (s.take k);have e:(s.take k).length<=s.length:=by simp;omega
    simp;omega
   rintro e w3 ⟨rfl,h3,f3⟩
   go_wp2_with (fail)
   go_end0
   refine⟨rfl,?_,hf.trans f3⟩;rw[BY (by omega)] at h3;simpa[Ag] using h3
def NB(w:Dp)(g:Nat)(nb:Bool)(nd:By)(ne:Int):Prop:=w.heap[g]? = some (.cells #[.bool nb,.string ⟨nd.toArray⟩,.int .i64 ne] 108 (0,0))
section
variable{w:Dp}{g:Nat}{nb:Bool}{nd:By}{ne:Int}
theorem NB.c0(h:NB w g nb nd ne):w.cell? ⟨g,0,none⟩=some (.bool nb):=by simp[CH,show w.heap[g]? = _ from h]
theorem NB.c1(h:NB w g nb nd ne):w.cell? ⟨g,1,none⟩=some (.string ⟨nd.toArray⟩):=by simp[CH,show w.heap[g]? = _ from h]
theorem NB.c2(h:NB w g nb nd ne):w.cell? ⟨g,2,none⟩=some (.int .i64 ne):=by simp[CH,show w.heap[g]? = _ from h]
theorem NB.fr(h:NB w g nb nd ne)(hf:Fr B b w w')(hb:g≠b):NB w' g nb nd ne:=hf.oth _ _ h hb (fun c e=>by injection e with _ e _;exact absurd e (by decide))
theorem NB.low(h:NB w g nb nd ne)(hf:D0 w.heap.size w w'):NB w' g nb nd ne:=(hf.block g (A5.1 h).1).trans h
end
theorem Iw{l:By}(h:Bu B b l w):b<w.heap.size:=by
 rcases h with h|h
 ·exact h.lt
 ·exact h.lt
theorem YV{q0:By}{nb:Bool}(h:Bu B b q0 w)(hl:q0.length+(BB (nb,nd,ne)).length<=140737488355328)(hB:B<=w.heap.size)(_:Af w)(_:NG<=B)(_:-100000000<=ne)(_:ne<=100000000)(hz:nd.isEmpty=true):
  CR A1 103 #[.pointer (some ⟨b,0,none⟩),Az (nb,nd,ne)] w fun e w'=>e=.returned (.tuple #[])/\Bu B b (q0++BB (nb,nd,ne)) w'/\Fr B b w w':=by
 have hE:Hid (BB (nb,nd,ne)=[48]):=by
  have:nd=[]:=by simpa using hz
  unfold Hid BB;rw[if_pos this]
 have HZ:=Ab hz;have q4:=Iw h;have n0:NB (w.alloc (.cells #[.bool nb,.string ⟨nd.toArray⟩,.int .i64 ne] 108)) w.heap.size nb nd ne:=by
  show (w.heap.push _)[w.heap.size]? = _;simp
 have h2:=Bg h ((AT _ w).alloc (A2 _) (.cells #[.bool nb,.string ⟨nd.toArray⟩,.int .i64 ne] 108));have f0:Fr B b w (w.alloc (.cells #[.bool nb,.string ⟨nd.toArray⟩,.int .i64 ne] 108)):=⟨(AT _ w).alloc hB _,OKz.below ((AT _ w).alloc (A2 _) _)⟩
 rw[Aa hE] at hl
 try simp only[AS] at hl
 try simp only[A3] at hl
 try simp only[AS] at hl
 try simp only[A4] at hl
 clear hz;unfold Az
 go_enter func103,ntmps103
 go_wp2_with (fail);refine (Ec (nb,nd,ne) _).mono ?_
 rintro e w1 ⟨rfl,hb1⟩;have h3:=Bg h2 hb1;have n1:=n0.low hb1;have f1:Fr B b w w1:=f0.trans ⟨hb1.mono (by first|omega|(simp;omega)),OKz.below hb1⟩;have q5:B<=w1.heap.size:=AI hB f1.low.size;simp only;rw[Aa HZ];clear h h2 n0 f0 hb1
 go_wp2_with (fail);refine (Bo 48 _ rfl h3 (by omega) q5).mono ?_
 rintro e w2 ⟨rfl,h4,f2⟩
 go_wp2_with (fail);refine bodyPost_ret (v:=.tuple #[]) (results_none (by kernel_rfl) _ _ _) rfl ?_
 exact⟨rfl,by rw[Aa hE];exact h4,f1.trans f2⟩
theorem Yj(h:Bu B b q4 w)(hl:q4.length+(BB (true,nd,ne)).length<=140737488355328)(hB:B<=w.heap.size)(_:Af w)(_:NG<=B)(_:-100000000<=ne)(_:ne<=100000000)(hz:nd.isEmpty=false)(hx:(ne != 0)=false):
  CR A1 103 #[.pointer (some ⟨b,0,none⟩),Az (true,nd,ne)] w fun e w'=>e=.returned (.tuple #[])/\Bu B b (q4++BB (true,nd,ne)) w'/\Fr B b w w':=by
 have hE:Hid (BB (true,nd,ne)=45::nd):=by
  have h9:¬ nd=[]:=by intro h;rw[h] at hz;cases hz
  unfold Hid BB;rw[if_neg h9];have h8:ne=0:=by simpa using hx
  simp[h8]
 have HZ:=Ab hz;have q7:=Iw h;have n0:NB (w.alloc (.cells #[.bool true,.string ⟨nd.toArray⟩,.int .i64 ne] 108)) w.heap.size true nd ne:=by
  show (w.heap.push _)[w.heap.size]? = _;simp
 have h2:=Bg h ((AT _ w).alloc (A2 _) (.cells #[.bool true,.string ⟨nd.toArray⟩,.int .i64 ne] 108));have f0:Fr B b w (w.alloc (.cells #[.bool true,.string ⟨nd.toArray⟩,.int .i64 ne] 108)):=⟨(AT _ w).alloc hB _,OKz.below ((AT _ w).alloc (A2 _) _)⟩
 rw[Aa hE] at hl
 try simp only[AS] at hl
 try simp only[A3] at hl
 try simp only[AS] at hl
 try simp only[A4] at hl
 clear hz;unfold Az
 go_enter func103,ntmps103
 go_wp2_with (fail);refine (Ec (true,nd,ne) _).mono ?_
 rintro e w1 ⟨rfl,hb1⟩;have h3:=Bg h2 hb1;have n1:=n0.low hb1;have f1:Fr B b w w1:=f0.trans ⟨hb1.mono (by first|omega|(simp;omega)),OKz.below hb1⟩;have q9:B<=w1.heap.size:=AI hB f1.low.size;simp only;rw[Aa HZ];clear h h2 n0 f0 hb1;have q0:=n1.c0
 go_wp2_with (fail);refine (Bo 45 _ rfl h3 (by omega) q9).mono ?_
 rintro e w2 ⟨rfl,h4,q5⟩;have f2:=f1.trans q5;have n2:=n1.fr q5 (by omega);have q8:B<=w2.heap.size:=AI hB f2.low.size;clear q0;have q1:=n2.c1
 go_wp2_with (fail);refine (Fd nd h4 (by first|omega|(simp;omega)) q8).mono ?_
 rintro e w3 ⟨rfl,h5,q6⟩;have f3:=f2.trans q6;have n3:=n2.fr q6 (by omega);have qb:B<=w3.heap.size:=AI hB f3.low.size;clear q1;have q2:=n3.c2
 go_wp2_with (fail)
 go_end0
 exact⟨rfl,by rw[Aa hE];simpa using h5,f3⟩
theorem Yh(h:Bu B b q4 w)(hl:q4.length+(BB (false,nd,ne)).length<=140737488355328)(hB:B<=w.heap.size)(_:Af w)(_:NG<=B)(_:-100000000<=ne)(_:ne<=100000000)(hz:nd.isEmpty=false)(hx:(ne != 0)=false):
  CR A1 103 #[.pointer (some ⟨b,0,none⟩),Az (false,nd,ne)] w fun e w'=>e=.returned (.tuple #[])/\Bu B b (q4++BB (false,nd,ne)) w'/\Fr B b w w':=by
 have hE:Hid (BB (false,nd,ne)=nd):=by
  have h9:¬ nd=[]:=by intro h;rw[h] at hz;cases hz
  unfold Hid BB;rw[if_neg h9];have h8:ne=0:=by simpa using hx
  simp[h8]
 have HZ:=Ab hz;have q6:=Iw h;have n0:NB (w.alloc (.cells #[.bool false,.string ⟨nd.toArray⟩,.int .i64 ne] 108)) w.heap.size false nd ne:=by
  show (w.heap.push _)[w.heap.size]? = _;simp
 have h2:=Bg h ((AT _ w).alloc (A2 _) (.cells #[.bool false,.string ⟨nd.toArray⟩,.int .i64 ne] 108));have f0:Fr B b w (w.alloc (.cells #[.bool false,.string ⟨nd.toArray⟩,.int .i64 ne] 108)):=⟨(AT _ w).alloc hB _,OKz.below ((AT _ w).alloc (A2 _) _)⟩
 rw[Aa hE] at hl
 try simp only[AS] at hl
 try simp only[A3] at hl
 try simp only[AS] at hl
 try simp only[A4] at hl
 clear hz;unfold Az
 go_enter func103,ntmps103
 go_wp2_with (fail);refine (Ec (false,nd,ne) _).mono ?_
 rintro e w1 ⟨rfl,hb1⟩;have h3:=Bg h2 hb1;have n1:=n0.low hb1;have f1:Fr B b w w1:=f0.trans ⟨hb1.mono (by first|omega|(simp;omega)),OKz.below hb1⟩;have q7:B<=w1.heap.size:=AI hB f1.low.size;simp only;rw[Aa HZ];clear h h2 n0 f0 hb1;have q0:=n1.c0;have q1:=n1.c1
 go_wp2_with (fail);refine (Fd nd h3 (by first|omega|(simp;omega)) q7).mono ?_
 rintro e w3 ⟨rfl,h5,q5⟩;have f3:=f1.trans q5;have n3:=n1.fr q5 (by omega);have q8:B<=w3.heap.size:=AI hB f3.low.size;clear q1;have q2:=n3.c2
 go_wp2_with (fail)
 go_end0
 exact⟨rfl,by rw[Aa hE];simpa using h5,f3⟩
theorem Yi(h:Bu B b q5 w)(hl:q5.length+(BB (true,nd,ne)).length<=140737488355328)(hB:B<=w.heap.size)(hT:Af w)(qb:NG<=B)(h0:-100000000<=ne)(h1:ne<=100000000)(hz:nd.isEmpty=false)(hx:(ne != 0)=true):
  CR A1 103 #[.pointer (some ⟨b,0,none⟩),Az (true,nd,ne)] w fun e w'=>e=.returned (.tuple #[])/\Bu B b (q5++BB (true,nd,ne)) w'/\Fr B b w w':=by
 have hE:Hid (BB (true,nd,ne)=45::(nd++101::C1 ne)):=by
  have h9:¬ nd=[]:=by intro h;rw[h] at hz;cases hz
  unfold Hid BB;rw[if_neg h9];have h8:¬ ne=0:=by simpa using hx
  simp[h8]
 have HZ:=Ab hz;have qe:=Iw h;have n0:NB (w.alloc (.cells #[.bool true,.string ⟨nd.toArray⟩,.int .i64 ne] 108)) w.heap.size true nd ne:=by
  show (w.heap.push _)[w.heap.size]? = _;simp
 have h2:=Bg h ((AT _ w).alloc (A2 _) (.cells #[.bool true,.string ⟨nd.toArray⟩,.int .i64 ne] 108));have f0:Fr B b w (w.alloc (.cells #[.bool true,.string ⟨nd.toArray⟩,.int .i64 ne] 108)):=⟨(AT _ w).alloc hB _,OKz.below ((AT _ w).alloc (A2 _) _)⟩
 rw[Aa hE] at hl
 try simp only[AS] at hl
 try simp only[A3] at hl
 try simp only[AS] at hl
 try simp only[A4] at hl
 clear hz;unfold Az
 go_enter func103,ntmps103
 go_wp2_with (fail);refine (Ec (true,nd,ne) _).mono ?_
 rintro e w1 ⟨rfl,hb1⟩;have h3:=Bg h2 hb1;have n1:=n0.low hb1;have f1:Fr B b w w1:=f0.trans ⟨hb1.mono (by first|omega|(simp;omega)),OKz.below hb1⟩;have qi:B<=w1.heap.size:=AI hB f1.low.size;simp only;rw[Aa HZ];clear h h2 n0 f0 hb1;have q0:=n1.c0
 go_wp2_with (fail);refine (Bo 45 _ rfl h3 (by omega) qi).mono ?_
 rintro e w2 ⟨rfl,h4,q6⟩;have f2:=f1.trans q6;have n2:=n1.fr q6 (by omega);have qg:B<=w2.heap.size:=AI hB f2.low.size;clear q0;have q1:=n2.c1
 go_wp2_with (fail);refine (Fd nd h4 (by first|omega|(simp;omega)) qg).mono ?_
 rintro e w3 ⟨rfl,h5,q7⟩;have f3:=f2.trans q7;have n3:=n2.fr q7 (by omega);have qf:B<=w3.heap.size:=AI hB f3.low.size;clear q1;have q2:=n3.c2
 go_wp2_with (fail);refine (Bo 101 _ rfl h5 (by first|omega|(simp;omega)) qf).mono ?_
 rintro e w4 ⟨rfl,h6,q8⟩;have f4:=f3.trans q8;have n4:=n3.fr q8 (by omega);have q9:B<=w4.heap.size:=AI hB f4.low.size;have qd:=(hT.below (f4.low.mono qb)).tab;clear q2;have q2:=n4.c2
 go_wp2_with (fail);refine (Tryz.strconv_Itoa ne (by omega) (by omega) w4 qd).mono ?_
 rintro e w5 ⟨rfl,kk,os,rfl⟩;have q4:=D7 w4 kk os;have h7:=Bg h6 q4;have qh:B<=(A6 (w4.drewN kk) os).heap.size:=AI q9 q4.size;have f5:Fr B b w4 (A6 (w4.drewN kk) os):=⟨q4.mono q9,OKz.below q4⟩
 generalize A6 (w4.drewN kk) os=w5 at *
 go_wp2_with (fail);refine (Fd (C1 ne) h7 (by first|omega|(simp;omega)) qh).mono ?_
 rintro e w6 ⟨rfl,h8,f6⟩
 go_wp2_with (fail)
 go_end0
 exact⟨rfl,by rw[Aa hE];simpa using h8,(f4.trans f5).trans f6⟩
theorem Yg(h:Bu B b q5 w)(hl:q5.length+(BB (false,nd,ne)).length<=140737488355328)(hB:B<=w.heap.size)(hT:Af w)(q9:NG<=B)(h0:-100000000<=ne)(h1:ne<=100000000)(hz:nd.isEmpty=false)(hx:(ne != 0)=true):
  CR A1 103 #[.pointer (some ⟨b,0,none⟩),Az (false,nd,ne)] w fun e w'=>e=.returned (.tuple #[])/\Bu B b (q5++BB (false,nd,ne)) w'/\Fr B b w w':=by
 have hE:Hid (BB (false,nd,ne)=(nd++101::C1 ne)):=by
  have h9:¬ nd=[]:=by intro h;rw[h] at hz;cases hz
  unfold Hid BB;rw[if_neg h9];have h8:¬ ne=0:=by simpa using hx
  simp[h8]
 have HZ:=Ab hz;have qd:=Iw h;have n0:NB (w.alloc (.cells #[.bool false,.string ⟨nd.toArray⟩,.int .i64 ne] 108)) w.heap.size false nd ne:=by
  show (w.heap.push _)[w.heap.size]? = _;simp
 have h2:=Bg h ((AT _ w).alloc (A2 _) (.cells #[.bool false,.string ⟨nd.toArray⟩,.int .i64 ne] 108));have f0:Fr B b w (w.alloc (.cells #[.bool false,.string ⟨nd.toArray⟩,.int .i64 ne] 108)):=⟨(AT _ w).alloc hB _,OKz.below ((AT _ w).alloc (A2 _) _)⟩
 rw[Aa hE] at hl
 try simp only[AS] at hl
 try simp only[A3] at hl
 try simp only[AS] at hl
 try simp only[A4] at hl
 clear hz;unfold Az
 go_enter func103,ntmps103
 go_wp2_with (fail);refine (Ec (false,nd,ne) _).mono ?_
 rintro e w1 ⟨rfl,hb1⟩;have h3:=Bg h2 hb1;have n1:=n0.low hb1;have f1:Fr B b w w1:=f0.trans ⟨hb1.mono (by first|omega|(simp;omega)),OKz.below hb1⟩;have qg:B<=w1.heap.size:=AI hB f1.low.size;simp only;rw[Aa HZ];clear h h2 n0 f0 hb1;have q0:=n1.c0;have q1:=n1.c1
 go_wp2_with (fail);refine (Fd nd h3 (by first|omega|(simp;omega)) qg).mono ?_
 rintro e w3 ⟨rfl,h5,q6⟩;have f3:=f1.trans q6;have n3:=n1.fr q6 (by omega);have qe:B<=w3.heap.size:=AI hB f3.low.size;clear q1;have q2:=n3.c2
 go_wp2_with (fail);refine (Bo 101 _ rfl h5 (by first|omega|(simp;omega)) qe).mono ?_
 rintro e w4 ⟨rfl,h6,q7⟩;have f4:=f3.trans q7;have n4:=n3.fr q7 (by omega);have q8:B<=w4.heap.size:=AI hB f4.low.size;have qb:=(hT.below (f4.low.mono q9)).tab;clear q2;have q2:=n4.c2
 go_wp2_with (fail);refine (Tryz.strconv_Itoa ne (by omega) (by omega) w4 qb).mono ?_
 rintro e w5 ⟨rfl,kk,os,rfl⟩;have q4:=D7 w4 kk os;have h7:=Bg h6 q4;have qf:B<=(A6 (w4.drewN kk) os).heap.size:=AI q8 q4.size;have f5:Fr B b w4 (A6 (w4.drewN kk) os):=⟨q4.mono q8,OKz.below q4⟩
 generalize A6 (w4.drewN kk) os=w5 at *
 go_wp2_with (fail);refine (Fd (C1 ne) h7 (by first|omega|(simp;omega)) qf).mono ?_
 rintro e w6 ⟨rfl,h8,f6⟩
 go_wp2_with (fail)
 go_end0
 exact⟨rfl,by rw[Aa hE];simpa using h8,(f4.trans f5).trans f6⟩
theorem Jn(n:Nm)(h:Bu B b q4 w)(hl:q4.length+(BB n).length<=140737488355328)(hB:B<=w.heap.size)(hT:Af w)(q0:NG<=B)(h0:-100000000<=n.2.2)(h1:n.2.2<=100000000):
  CR A1 103 #[.pointer (some ⟨b,0,none⟩),Az n] w fun e w'=>e=.returned (.tuple #[])/\Bu B b (q4++BB n) w'/\Fr B b w w':=by
 obtain⟨nb,nd,ne⟩:=n;cases hz:nd.isEmpty with
 | true=>exact YV h hl hB hT q0 h0 h1 hz
 | false=>
  cases hx:(ne != 0) with
  | false=>
   cases nb with
   | true=>exact Yj h hl hB hT q0 h0 h1 hz hx
   | false=>exact Yh h hl hB hT q0 h0 h1 hz hx
  | true=>
   cases nb with
   | true=>exact Yi h hl hB hT q0 h0 h1 hz hx
   | false=>exact Yg h hl hB hT q0 h0 h1 hz hx
def NO(f:Nat):Prop:=∀ (B b:Nat) (q0:By) (v:CD) (d:To) (w:Dp) (F:Nat->Prop),Bu B b q0 w->Rep f F w v d->(∀k,F k->k<B)->Af w->NG<=B->B<=w.heap.size->q0.length+(Zm f d).length<=8796093022208 ->
 CR A1 78 #[.pointer (some ⟨b,0,none⟩),v] w fun e w'=>e=.returned (.tuple #[])/\Bu B b (q0++Zm f d) w'/\Fr B b w w'
theorem Rep.low{v:CD}{d:To}(h:Rep f F w v d)(hF:∀k,F k->k<B)(hb:D0 B w w'):Rep f F w' v d:=h.move fun k h1 _=>⟨hb.block k (hF k h1),h1⟩
theorem QP{q9:By}(hV:NO f){g n cap:Nat}{ps:List CD}{es:List To}(h:Bu B b q9 w)(hF:∀k,F k->k<B)(hT:Af w)(q8:NG<=B)(hB:B<=w.heap.size)(hn:n=ps.length)(qu:n<=cap)(q7:cap<=maxLen)(q6:∀k (h:k<ps.length),w.cell? ⟨g,k,none⟩=some ps[k])(hg:g<B)(hal:Al (Rep f F w) ps es)(hl:q9.length+(1+((Ax (es.map (Zm f))).length+1))<=8796093022208):
  CR A1 105 #[.pointer (some ⟨b,0,none⟩),.slice (some ⟨g,0,none⟩) n cap] w fun e w'=>e=.returned (.tuple #[])/\Bu B b (q9++91::(Ax (es.map (Zm f))++[93])) w'/\Fr B b w w':=by
 have qj:=hal.length;have HN:=Ab hn;have qw:(n:Int)<=9223372036854775807:=by unfold maxLen at q7;omega
 clear hn
 go_enter func105,ntmps105
 go_wp2_with (fail);refine (Bo 91 _ rfl h (by omega) hB).mono ?_
 rintro e w1 ⟨rfl,h1,f1⟩
 go_wp2_with (fail);clear h
 go_loopw [10] (fun i wr=>∃k:Nat,k<=n/\i=.int .i64 k/\Bu B b (q9++91::Ax ((es.map (Zm f)).take k)) wr/\Fr B b w wr) (fun i _=>n-(Dt i).toNat)
 case atStart=>exact⟨0,by omega,rfl,by simpa[Ax] using h1,f1⟩
 case round=>
  obtain⟨k,hk,rfl,qm,hf⟩:=hrel;have qg:=Ab qm;have qb:B<=wr.heap.size:=AI hB hf.low.size;have qv:=Dh (es.map (Zm f)) k;have qk:=Aa HN;have qp:=Ab qj;have qh:=Ab qk;clear qm h1 f1 qj qk;by_cases hlt:k<n
  ·have qq:k<ps.length:=by have:=Aa qh;omega
   have qn:k<(es.map (Zm f)).length:=by have:=Aa qp;simp;omega
   have qe:k<es.length:=by simpa using qn
   have cc:wr.cell? ⟨g,k,none⟩=some ps[k]:=(hf.low.cell (p:=⟨g,k,none⟩) hg).trans (q6 k qq);have q4:=(hal.get k qq qe).low hF hf.low;have qd:=Ab (JQ (es.map (Zm f)) k qn);have qr:=Dh (es.map (Zm f)) (k+1);have qf:(es.map (Zm f))[k]=Zm f es[k]:=by simp
   have q0:=congrArg List.length (Aa qd);rw[qf] at q0;simp only[A3] at q0;have q5:=Ab q4;have qo:=Ab qf;obtain⟨bb,qt,_⟩:=q4.ptr;clear q4 qf;generalize ps[k]=pk at *;subst qt;have qi:=hT.below (hf.low.mono q8);by_cases h0:0<k
   ·have e0:decide ((0:Int)<(k:Int))=true:=by simp;omega
    rw[if_pos h0] at q0;simp only[AS,A4] at q0
    go_wp2_with (fail);refine (Bo 44 _ rfl (Aa qg) (by simp;omega) qb).mono ?_
    rintro e w3 ⟨rfl,h3,f3⟩
    go_wp2_with (fail);refine (hV B b _ _ es[k] w3 F h3 ((Aa q5).low hF f3.low) hF (qi.below (f3.low.mono q8)) q8 (AI qb f3.low.size) (by simp;omega)).mono ?_
    rintro e w4 ⟨rfl,h4,f4⟩
    go_wp2_with (fail)
    go_roundw
    case rel=>exact⟨k+1,by omega,by go_num,by rw[Aa qd,if_pos h0,Aa qo];simpa using h4,(hf.trans f3).trans f4⟩
    case measure=>simp[Dt];omega
   ·have e0:decide ((0:Int)<(k:Int))=false:=by simp;omega
    rw[if_neg h0] at q0;simp only[A4] at q0
    go_wp2_with (fail);refine (hV B b _ _ es[k] wr F (Aa qg) (Aa q5) hF qi q8 qb (by simp;omega)).mono ?_
    rintro e w4 ⟨rfl,h4,f4⟩
    go_wp2_with (fail)
    go_roundw
    case rel=>exact⟨k+1,by omega,by go_num,by rw[Aa qd,if_neg h0,Aa qo];simpa using h4,hf.trans f4⟩
    case measure=>simp[Dt];omega
  ·go_wp2_with (fail);refine (Bo 93 _ rfl (Aa qg) (by simp;omega) qb).mono ?_
   rintro e w3 ⟨rfl,h3,f3⟩
   go_wp2_with (fail)
   go_end0
   refine⟨rfl,?_,hf.trans f3⟩;rw[BY (by have:=Aa qp;have:=Aa qh;simp;omega)] at h3;simpa using h3
theorem Tq{q0:By}(h:Bu B b q0 w)(hB:B<=w.heap.size)(hl:q0.length+2<=140737488355328):
  CR A1 105 #[.pointer (some ⟨b,0,none⟩),.slice none 0 0] w fun e w'=>e=.returned (.tuple #[])/\Bu B b (q0++91::([]++[93])) w'/\Fr B b w w':=by
 go_enter func105,ntmps105
 go_wp2_with (fail);refine (Bo 91 _ rfl h (by omega) hB).mono ?_
 rintro e w1 ⟨rfl,h1,f1⟩
 go_wp2_with (fail);refine wp_loop_rounds 1 ?_
 rw[rounds_succ]
 go_wp2_with (fail);refine (Bo 93 _ rfl h1 (by simp;omega) (AI hB f1.low.size)).mono ?_
 rintro e w3 ⟨rfl,h3,f3⟩
 go_wp2_with (fail)
 go_end0
 exact⟨rfl,by simpa using h3,f1.trans f3⟩
theorem Pt.keys{P:CD->To->Prop}:∀ {l:List (Lit×DataW CD)} {m:List (Lit×To)},Pt P l m->strKeys (.map l)=ZJ m
 | [],[],_=>rfl
 | a::r,b::s,⟨⟨kk,_⟩,t⟩=>by
  have h:=Pt.keys t;simp only[strKeys,ZJ,List.map_cons] at h |-;rw[kk,h];congr 1
theorem Pt.look{P:CD->To->Prop}(k:By):∀ {l:List (Lit×DataW CD)} {m:List (Lit×To)},Pt P l m->D1 (.map l) (.string k)=true -> ∃x,(DataW.map l).atKey (.string k) (.held (.pointer none))=.held x/\P x (ZV m k)
 | [],[],_,h=>by cases h
 | a::r,b::s,⟨⟨kk,x,e,hp⟩,t⟩,h=>by
  cases hs:a.1.sameKey (.string k) with
  | true=>
   refine⟨x,?_,?_⟩
   ·simp[CL,hs,e]
   ·have hs2:b.1.sameKey (.string k)=true:=by grind
    simpa[ZV,CL,hs2] using hp
  | false=>
   have hs2:b.1.sameKey (.string k)=false:=by grind
   have h2:D1 (.map r) (.string k)=true:=by
    have h3:(a::r).any (fun p=>p.1.sameKey (.string k))=true:=h;rw[List.any_cons,hs,Bool.false_or] at h3;exact h3
   obtain⟨y,h4,h5⟩:=Pt.look k t h2;refine⟨y,?_,?_⟩
   ·simpa[CL,C2,hs] using h4
   ·simpa[ZV,CL,C2,hs2] using h5
theorem Pt.len{P:CD->To->Prop}:∀ {l:List (Lit×DataW CD)} {m:List (Lit×To)},Pt P l m->l.length=m.length
 | [],[],_=>rfl
 | _::_,_::_,⟨_,d⟩=>congrArg (· + 1) (Pt.len d)
def Zz(es:List (Lit×To)):List By:=(ZJ es).mergeSort fun x y=>decide (x<=y)
def ZI(f:Nat)(es:List (Lit×To))(k:By):By:=Ag k++58::Zm f (ZV es k)
theorem dF(f:Nat)(es:List (Lit×To)):Zm (f+1) (Ay es)=123::(Ax ((Zz es).map (ZI f es))++[125]):=rfl
theorem cV(es:List (Lit×To)):(Zz es).length=es.length:=by
 grind [Zz,ZJ,List.length_mergeSort]
theorem dG(l:List By):l.length<=(BL l).length:=by
 induction l with
 | nil=>simp
 | cons x r ih=>simp[BL];omega
theorem dH(l:List By)(h:∀x∈l,0<x.length):l.length<=(Ax l).length:=by
 cases l with
 | nil=>simp
 | cons x r=>have:=h x (by simp);have:=dG r;simp[Ax];omega
theorem cW(s:By):s.length+2<=(Ag s).length:=by
 have h:∀s:By,s.length<=(CO s).length:=by
  intro s;induction s with
  | nil=>simp
  | cons c r ih=>
   grind [CO,Ag,DP]
 have:=h s;simp[Ag];omega
theorem bD(f:Nat)(es:List (Lit×To))(k:By):(ZI f es k).length=(Ag k).length+(1+(Zm f (ZV es k)).length):=by
 simp[ZI];omega
theorem dI(f:Nat)(es:List (Lit×To)):es.length<=(Ax ((Zz es).map (ZI f es))).length:=by
 have h:=dH ((Zz es).map (ZI f es)) (by
  grind [bD,cV,Zz])
 grind [bD,cV,Zz]
theorem Rw{m n:Nat}{D:List (Lit×DataW CD)}{es:List (Lit×To)}(ho:w.ownsMap A1 9 RV m n (.map D))(hp:Pt (Rep f F w) D es){k:By}(hk:k∈Zz es):
  D1 (.map D) (.string k)=true/\keyOf A1 9 (.string ⟨k.toArray⟩)=some (.string k):=by
 have h1:k∈strKeys (.map D):=by
  rw[hp.keys];exact (List.mergeSort_perm _ _).mem_iff.1 hk
 obtain⟨p,q5,hpk⟩:=List.mem_map.1 (show k∈D.map fun p=>strOf p.1 from h1);obtain⟨D',hD,q4⟩:=ho.keysOf;injection hD with hD;subst hD;obtain⟨key,q0⟩:=q4 p q5;obtain⟨x,hx,hx2,q6⟩:=Maps.keyOf_str underlying9 q0;rw[hx2] at hpk q0;have:x=k:=hpk;subst this;subst hx;refine⟨?_,q0⟩;rw[Maps.has_eq,List.any_eq_true];exact⟨p,q5,by rw[hx2];simp[Lit.sameKey]⟩
end Go.Proofs.YtdpomdelmdofmaaGreatDoor
