import Derived.Test.YtdpomdelmdofmaaGreatDoorUnd09
import Derived.Lib.ConvBytes
import Derived.Lib.AppendIntMem
import Derived.Sort.Grow
import Derived.Lib.SlMapEqual
namespace Go.Proofs.YtdpomdelmdofmaaGreatDoor
open Go.Proofs.Tryz
section
open Go.RowKit
structure Fr(B b:Nat)(w w':World):Prop where
 low:Below B w w'
 oth:OKz b w w'
theorem Fr.refl(B b:Nat)(w:World):Fr B b w w:=⟨Below.refl _ _,OKz.refl _ _⟩
theorem Fr.trans{B b:Nat}{w1 w2 w3:World}(h:Fr B b w1 w2)(g:Fr B b w2 w3):Fr B b w1 w3:=⟨h.low.trans g.low,h.oth.trans g.oth⟩
abbrev Bu(B b:Nat)(l:Sp.By)(w:World):Prop:=IsB B b (Lib.byteCells l) w
theorem X9(l:Sp.By)(c:UInt8):Lib.byteCells l++[.int .u8 (c.toNat:Int)]=Lib.byteCells (l++[c]):=by simp[Lib.byteCells]
theorem Bp{B b:Nat}{acc:Sp.By}(c:UInt8)(ci:Int)(hc:ci=c.toNat){w:World}(h:Bu B b acc w)(hl:acc.length+1<=140737488355328)(hB:B<=w.heap.size) :
  Calls Tryz.prog 139 #[.pointer (some ⟨b,0,none⟩),.int .u8 ci] w fun e w'=>e = .returned .nilIface/\Bu B b (acc++[c]) w'/\Fr B b w w':=by
 refine (L6 B b _ ci w h (by rw[Lib.byteCells_length];exact hl) hB).mono ?_;rintro e w' ⟨he,h1,h2,h3⟩;rw[hc,X9] at h1;exact⟨he,Or.inr h1,h2,h3⟩
theorem Fh{B b:Nat}{acc:Sp.By}(s:Sp.By){w:World}(h:Bu B b acc w)(hl:acc.length+s.length<=140737488355328)(hB:B<=w.heap.size) :
  Calls Tryz.prog 107 #[.pointer (some ⟨b,0,none⟩),.string ⟨s.toArray⟩] w fun e w'=>e = .returned (.tuple #[.int .i64 s.length,.nilIface])/\Bu B b (acc++s) w'/\Fr B b w w':=by
 refine (Km B b _ ⟨s.toArray⟩ w h (by rw[Lib.byteCells_length,Aw];exact hl) hB).mono ?_;rintro e w' ⟨he,h1,h2,h3⟩;rw[Lib.strCells_toArray,<- Lib.byteCells_append] at h1;rw[Aw] at he;exact⟨he,Or.inr h1,h2,h3⟩
def XE:ByteArray:=⟨#[48,49,50,51,52,53,54,55,56,57,97,98,99,100,101,102]⟩
theorem Wu:∀n,n<16->XE.data.toList.getD n 0=Sp.Fs n:=by decide
theorem RX(n:Nat)(h:n<16)(h2:n<(⟨#[48,49,50,51,52,53,54,55,56,57,97,98,99,100,101,102]⟩:ByteArray).size):((⟨#[48,49,50,51,52,53,54,55,56,57,97,98,99,100,101,102]⟩:ByteArray)[n]'h2)=Sp.Fs n:=by
 have:=Wu n h;rw[<- this];have h3:n<XE.data.toList.length:=h;simp only[List.getD,List.getElem?_eq_getElem h3,Option.getD_some];rfl
end

section
set_option maxHeartbeats 1000000
open Go.RowKit
theorem Em(n:Sp.Nm)(w:World):Calls Tryz.prog 138 #[AD n] w fun e w'=>e = .returned (.bool n.2.1.isEmpty)/\Below w.heap.size w w':=by
 obtain⟨nb,nd,ne⟩:=n;unfold AD
 go_enter func138,ntmps138
 go_wp2_with (fail)
 go_ret;exact⟨by simp,(Below.refl _ _).alloc (Nat.le_refl _) _⟩
theorem Af.tab{w:World}(h:Af w):Lib.TabIs Tryz.prog w "internal/strconv.uint64pow10" .u64 Lib.pow10Tab:=by
 obtain⟨t,fr,e⟩:=h.pow;unfold Lib.TabIs World.var?;rw[show Tryz.prog.globalNamed "internal/strconv.uint64pow10" = some 5 by kernel_rfl];simp[e]
theorem GL(w:World)(k:Nat)(os:Array Obj):Below w.heap.size w (Sort.grow (w.drewN k) os):=by
 refine⟨rfl,rfl,rfl,?_,?_⟩
 ·simp[Sort.grow,World.drewN]
 ·intro j hj;simp only[Sort.grow,World.drewN];rw[Array.getElem?_append_left hj]
theorem TK(n:Sp.Nm):(Sp.A6 n).length<=n.2.1.length+3+(Lib.itoa n.2.2).length:=by
 unfold Sp.A6;split
 ·simp;omega
 ·split<;>split<;>simp<;>omega
end

section
set_option maxHeartbeats 4000000
open Go.RowKit
theorem Bf{B b:Nat}{l:Sp.By}{w w':World}(h:Bu B b l w)(hb:Below w.heap.size w w'):Bu B b l w':=by
 have hk:∀ {p:Value} {bs:List Value},Lib.BuilderAt 119 5 B b p bs w->Lib.BuilderAt 119 5 B b p bs w':=by
  intro p bs h;obtain⟨hB,v,hbk,hown,hne⟩:=h;exact⟨hB,v,(hb.block b (Array.getElem?_eq_some_iff.1 hbk).1).trans hbk,⟨hown.1,hown.2.imp id fun ⟨g,cap,cur,h1,h2,h3,h4⟩=>⟨g,cap,cur,h1,h2,(hb.block g (Array.getElem?_eq_some_iff.1 h3).1).trans h3,h4⟩⟩,hne⟩
 exact h.imp hk hk
theorem LI(w:World)(s:Sp.By):∃cs fz,(Lib.bytesWorld w 5 ⟨s.toArray⟩).heap[w.heap.size]? = some (.cells cs 5 fz)/\fz≠(0,0)/\(∀j (h:j<s.length),cs[j]? = some (.int .u8 (s[j].toNat:Int)))/\Below w.heap.size w (Lib.bytesWorld w 5 ⟨s.toArray⟩):=by
 refine⟨_,_,Lib.bytesWorld_at_new w 5 _,by simp,?_,?_⟩
 ·intro j h;have h2:j<(s.toArray.map fun b=>Value.int .u8 (b.toNat:Int)).size:=by simpa using h
  simp only[Lib.bytesCells];rw[Array.getElem?_append_left h2];simp[h]
 ·refine⟨rfl,rfl,rfl,by rw[Lib.bytesWorld_size];omega,fun k hk=>Lib.bytesWorld_at_old w 5 _ k hk⟩
theorem Ec{B b:Nat}{acc:Sp.By}(s:Sp.By){w:World}(h:Bu B b acc w)(hl:acc.length+(6*s.length+2)<=140737488355328)(hB:B<=w.heap.size) :
  Calls Tryz.prog 104 #[.pointer (some ⟨b,0,none⟩),.string ⟨s.toArray⟩] w fun e w'=>e = .returned (.tuple #[])/\Bu B b (acc++Sp.Ah s) w'/\Fr B b w w':=by
 have hcv:=fun W=>Lib.run_convert_string_bytes (P:=Tryz.prog) W 9 117 5 ⟨s.toArray⟩ underlying9 underlying117 underlying5
 go_enter func104,ntmps104
 go_wp2_with (fail);refine (Bp 34 _ rfl h (by omega) hB).mono ?_
 rintro e w1 ⟨rfl,h1,f1⟩
 go_wp2_with (fail);obtain⟨cs,fz,hrow,hfz,hcs,hbw⟩:=LI w1 s
 have hB1:B<=w1.heap.size:=Nat.le_trans hB f1.low.size;have h2:=Bf h1 hbw;have f2:Fr B b w (Lib.bytesWorld w1 5 ⟨s.toArray⟩):=f1.trans ⟨hbw.mono hB1,OKz.below hbw⟩;generalize Lib.bytesWorld w1 5 ⟨s.toArray⟩=w2 at *;have HW:=Ab hbw;have hgb:w1.heap.size≠b:=by
  rcases h1 with h1|h1
  ·have:=h1.lt;omega
  ·have:=h1.lt;omega
 clear hcv h h1 f1 hbw
 go_loopw [11] (fun i wr=>∃k:Nat,k<=s.length/\i = .int .i64 k/\Bu B b (acc++34::Sp.A7 (s.take k)) wr/\Fr B b w wr/\wr.heap[w1.heap.size]? = some (.cells cs 5 fz)) (fun i _=>s.length-(intOf i).toNat)
 case atStart=>exact⟨0,by omega,rfl,by simpa[Sp.A7] using h2,f2,hrow⟩
 case round =>
  obtain⟨k,hk,rfl,hbu,hf,hro⟩:=hrel;have HBU:=Ab hbu;have hBr:B<=wr.heap.size:=Nat.le_trans hB hf.low.size;clear hbu h2 f2 hrow;by_cases hlt:k<s.length
  ·have cc:wr.cell? ⟨w1.heap.size,k,none⟩=some (.int .u8 (s[k].toNat:Int)):=by simp[World.cell?,hro,hcs k hlt]
   have hst:=Sp.Sa s k hlt;have hsl:=Sp.Jr (s.take k);have hsl2:(s.take k).length=k:=by simp;omega
   have HRO:Hid (∀w':World,Fr B b wr w'->w'.heap[w1.heap.size]? = some (.cells cs 5 fz)):=fun w' h=>h.oth _ _ hro hgb (fun c e=>by injection e with _ _ e;exact hfz e);have HST:=Ab hst;have hbnd:acc.length+(1+(Sp.A7 (s.take k)).length)+7<=140737488355328:=by omega
   have hn:=s[k].toNat_lt;generalize hc:s[k]=c at *;clear hst hc;by_cases c1:c.toNat=34
   ·have HE:=Ab (show Sp.Cr c=[92,c] by unfold Sp.Cr;rw[if_pos (Or.inl c1)]);have e1:((c.toNat:Int) == 34)=true:=by simp;omega
    clear c1
    go_wp2_with (fail);refine (Bp 92 _ rfl (Aa HBU) (by simp;omega) hBr).mono ?_
    rintro e w3 ⟨rfl,h3,f3⟩;have hB3:B<=w3.heap.size:=Nat.le_trans hBr f3.low.size
    go_wp2_with (fail);refine (Bp c _ rfl h3 (by simp;omega) hB3).mono ?_
    rintro e w4 ⟨rfl,h4,f4⟩
    go_wp2_with (fail)
    go_roundw
    case rel=>exact⟨k+1,by omega,by go_num,by rw[Aa HST,Aa HE];simpa using h4,(hf.trans f3).trans f4,Aa HRO _ (f3.trans f4)⟩
    case measure=>simp[intOf];omega
   ·have e1:((c.toNat:Int) == 34)=false:=by simp;omega
    by_cases c2:c.toNat=92
    ·have HE:=Ab (show Sp.Cr c=[92,c] by unfold Sp.Cr;rw[if_pos (Or.inr c2)]);have e2:((c.toNat:Int) == 92)=true:=by simp;omega
     clear c1 c2
     go_wp2_with (fail);refine (Bp 92 _ rfl (Aa HBU) (by simp;omega) hBr).mono ?_
     rintro e w3 ⟨rfl,h3,f3⟩;have hB3:B<=w3.heap.size:=Nat.le_trans hBr f3.low.size
     go_wp2_with (fail);refine (Bp c _ rfl h3 (by simp;omega) hB3).mono ?_
     rintro e w4 ⟨rfl,h4,f4⟩
     go_wp2_with (fail)
     go_roundw
     case rel=>exact⟨k+1,by omega,by go_num,by rw[Aa HST,Aa HE];simpa using h4,(hf.trans f3).trans f4,Aa HRO _ (f3.trans f4)⟩
     case measure=>simp[intOf];omega
    ·have e2:((c.toNat:Int) == 92)=false:=by simp;omega
     by_cases c3:c.toNat<32
     ·have HE:=Ab (show Sp.Cr c=[92,117,48,48,Sp.Fs (c.toNat / 16),Sp.Fs (c.toNat % 16)] by unfold Sp.Cr;rw[if_neg (by omega),if_pos c3]);have e3:decide ((c.toNat:Int)<32)=true:=by simp;omega
      go_wp2_with (fail);refine (Fh [92,117,48,48] (Aa HBU) (by simp;omega) hBr).mono ?_
      rintro e w3 ⟨rfl,h3,f3⟩;have hB3:B<=w3.heap.size:=Nat.le_trans hBr f3.low.size
      go_wp2_with (fail);refine (Bp (Sp.Fs (c.toNat / 16)) _ ?_ h3 (by simp;omega) hB3).mono ?_
      ·rw[RX _ (by omega)]
      rintro e w4 ⟨rfl,h4,f4⟩;have hB4:B<=w4.heap.size:=Nat.le_trans hB3 f4.low.size
      go_wp2_with (fail);refine (Bp (Sp.Fs (c.toNat % 16)) _ ?_ h4 (by simp;omega) hB4).mono ?_
      ·rw[RX _ (by omega)]
      rintro e w5 ⟨rfl,h5,f5⟩
      go_wp2_with (fail)
      go_roundw
      case rel=>exact⟨k+1,by omega,by go_num,by rw[Aa HST,Aa HE];simpa using h5,((hf.trans f3).trans f4).trans f5,Aa HRO _ ((f3.trans f4).trans f5)⟩
      case measure=>simp[intOf];omega
     ·have HE:=Ab (show Sp.Cr c=[c] by unfold Sp.Cr;rw[if_neg (by omega),if_neg c3]);have e3:decide ((c.toNat:Int)<32)=false:=by simp;omega
      clear c1 c2 c3
      go_wp2_with (fail);refine (Bp c _ rfl (Aa HBU) (by simp;omega) hBr).mono ?_
      rintro e w3 ⟨rfl,h3,f3⟩
      go_wp2_with (fail)
      go_roundw
      case rel=>exact⟨k+1,by omega,by go_num,by rw[Aa HST,Aa HE];simpa using h3,hf.trans f3,Aa HRO _ f3⟩
      case measure=>simp[intOf];omega
  ·go_wp2_with (fail);refine (Bp 34 _ rfl (Aa HBU) ?_ hBr).mono ?_
   ·have:=Sp.Jr (s.take k);have e:(s.take k).length<=s.length:=by simp;omega
    simp;omega
   rintro e w3 ⟨rfl,h3,f3⟩
   go_wp2_with (fail)
   go_end0
   refine⟨rfl,?_,hf.trans f3⟩;rw[List.take_of_length_le (by omega)] at h3;simpa[Sp.Ah] using h3
end

section
set_option maxHeartbeats 4000000
open Go.RowKit
def NB(w:World)(g:Nat)(nb:Bool)(nd:Sp.By)(ne:Int):Prop:=w.heap[g]? = some (.cells #[.bool nb,.string ⟨nd.toArray⟩,.int .i64 ne] 108 (0,0))
section
variable{w:World}{g:Nat}{nb:Bool}{nd:Sp.By}{ne:Int}
theorem NB.c0(h:NB w g nb nd ne):w.cell? ⟨g,0,none⟩=some (.bool nb):=by simp[World.cell?,show w.heap[g]? = _ from h]
theorem NB.c1(h:NB w g nb nd ne):w.cell? ⟨g,1,none⟩=some (.string ⟨nd.toArray⟩):=by simp[World.cell?,show w.heap[g]? = _ from h]
theorem NB.c2(h:NB w g nb nd ne):w.cell? ⟨g,2,none⟩=some (.int .i64 ne):=by simp[World.cell?,show w.heap[g]? = _ from h]
theorem NB.fr{B b:Nat}{w':World}(h:NB w g nb nd ne)(hf:Fr B b w w')(hb:g≠b):NB w' g nb nd ne:=hf.oth _ _ h hb (fun c e=>by injection e with _ e _;exact absurd e (by decide))
theorem NB.low{w':World}(h:NB w g nb nd ne)(hf:Below w.heap.size w w'):NB w' g nb nd ne:=(hf.block g (Array.getElem?_eq_some_iff.1 h).1).trans h
end
theorem IE{B b:Nat}{l:Sp.By}{w:World}(h:Bu B b l w):b<w.heap.size:=by
 rcases h with h|h
 ·exact h.lt
 ·exact h.lt
theorem YV{B b:Nat}{acc:Sp.By}{nb:Bool}{nd:Sp.By}{ne:Int}{w:World}(h:Bu B b acc w)(hl:acc.length+(Sp.A6 (nb,nd,ne)).length<=140737488355328)(hB:B<=w.heap.size)(_hT:Af w)(_hB8:NG<=B)(_h0:-100000000<=ne)(_h1:ne<=100000000)(hz:nd.isEmpty=true) :
  Calls Tryz.prog 103 #[.pointer (some ⟨b,0,none⟩),AD (nb,nd,ne)] w fun e w'=>e = .returned (.tuple #[])/\Bu B b (acc++Sp.A6 (nb,nd,ne)) w'/\Fr B b w w':=by
 have hE:Hid (Sp.A6 (nb,nd,ne)=[48]):=by
  have:nd=[]:=by simpa using hz
  unfold Hid Sp.A6;rw[if_pos this]
 have HZ:=Ab hz;have hblt:=IE h;have n0:NB (w.alloc (.cells #[.bool nb,.string ⟨nd.toArray⟩,.int .i64 ne] 108)) w.heap.size nb nd ne:=by
  show (w.heap.push _)[w.heap.size]? = _;simp
 have h2:=Bf h ((Below.refl _ w).alloc (Nat.le_refl _) (.cells #[.bool nb,.string ⟨nd.toArray⟩,.int .i64 ne] 108));have f0:Fr B b w (w.alloc (.cells #[.bool nb,.string ⟨nd.toArray⟩,.int .i64 ne] 108)):=⟨(Below.refl _ w).alloc hB _,OKz.below ((Below.refl _ w).alloc (Nat.le_refl _) _)⟩
 rw[Aa hE] at hl
 try simp only[List.length_cons] at hl
 try simp only[List.length_append] at hl
 try simp only[List.length_cons] at hl
 try simp only[List.length_nil] at hl
 clear hz;unfold AD
 go_enter func103,ntmps103
 go_wp2_with (fail);refine (Em (nb,nd,ne) _).mono ?_
 rintro e w1 ⟨rfl,hb1⟩;have h3:=Bf h2 hb1;have n1:=n0.low hb1;have f1:Fr B b w w1:=f0.trans ⟨hb1.mono (by first|omega|(simp;omega)),OKz.below hb1⟩;have hB1:B<=w1.heap.size:=Nat.le_trans hB f1.low.size;simp only;rw[Aa HZ];clear h h2 n0 f0 hb1
 go_wp2_with (fail);refine (Bp 48 _ rfl h3 (by omega) hB1).mono ?_
 rintro e w2 ⟨rfl,h4,f2⟩
 go_wp2_with (fail);refine bodyPost_ret (v:=.tuple #[]) (results_none (by kernel_rfl) _ _ _) rfl ?_
 exact⟨rfl,by rw[Aa hE];exact h4,f1.trans f2⟩
theorem Ym{B b:Nat}{acc:Sp.By}{nd:Sp.By}{ne:Int}{w:World}(h:Bu B b acc w)(hl:acc.length+(Sp.A6 (true,nd,ne)).length<=140737488355328)(hB:B<=w.heap.size)(_hT:Af w)(_hB8:NG<=B)(_h0:-100000000<=ne)(_h1:ne<=100000000)(hz:nd.isEmpty=false)(hx:(ne != 0)=false) :
  Calls Tryz.prog 103 #[.pointer (some ⟨b,0,none⟩),AD (true,nd,ne)] w fun e w'=>e = .returned (.tuple #[])/\Bu B b (acc++Sp.A6 (true,nd,ne)) w'/\Fr B b w w':=by
 have hE:Hid (Sp.A6 (true,nd,ne)=45::nd):=by
  have h9:¬ nd=[]:=by intro h;rw[h] at hz;cases hz
  unfold Hid Sp.A6;rw[if_neg h9];have h8:ne=0:=by simpa using hx
  simp[h8]
 have HZ:=Ab hz;have hblt:=IE h;have n0:NB (w.alloc (.cells #[.bool true,.string ⟨nd.toArray⟩,.int .i64 ne] 108)) w.heap.size true nd ne:=by
  show (w.heap.push _)[w.heap.size]? = _;simp
 have h2:=Bf h ((Below.refl _ w).alloc (Nat.le_refl _) (.cells #[.bool true,.string ⟨nd.toArray⟩,.int .i64 ne] 108));have f0:Fr B b w (w.alloc (.cells #[.bool true,.string ⟨nd.toArray⟩,.int .i64 ne] 108)):=⟨(Below.refl _ w).alloc hB _,OKz.below ((Below.refl _ w).alloc (Nat.le_refl _) _)⟩
 rw[Aa hE] at hl
 try simp only[List.length_cons] at hl
 try simp only[List.length_append] at hl
 try simp only[List.length_cons] at hl
 try simp only[List.length_nil] at hl
 clear hz;unfold AD
 go_enter func103,ntmps103
 go_wp2_with (fail);refine (Em (true,nd,ne) _).mono ?_
 rintro e w1 ⟨rfl,hb1⟩;have h3:=Bf h2 hb1;have n1:=n0.low hb1;have f1:Fr B b w w1:=f0.trans ⟨hb1.mono (by first|omega|(simp;omega)),OKz.below hb1⟩;have hB1:B<=w1.heap.size:=Nat.le_trans hB f1.low.size;simp only;rw[Aa HZ];clear h h2 n0 f0 hb1;have q0:=n1.c0
 go_wp2_with (fail);refine (Bp 45 _ rfl h3 (by omega) hB1).mono ?_
 rintro e w2 ⟨rfl,h4,f2'⟩;have f2:=f1.trans f2';have n2:=n1.fr f2' (by omega);have hB2:B<=w2.heap.size:=Nat.le_trans hB f2.low.size;clear q0;have q1:=n2.c1
 go_wp2_with (fail);refine (Fh nd h4 (by first|omega|(simp;omega)) hB2).mono ?_
 rintro e w3 ⟨rfl,h5,f3'⟩;have f3:=f2.trans f3';have n3:=n2.fr f3' (by omega);have hB3:B<=w3.heap.size:=Nat.le_trans hB f3.low.size;clear q1;have q2:=n3.c2
 go_wp2_with (fail)
 go_end0
 exact⟨rfl,by rw[Aa hE];simpa using h5,f3⟩
theorem Yk{B b:Nat}{acc:Sp.By}{nd:Sp.By}{ne:Int}{w:World}(h:Bu B b acc w)(hl:acc.length+(Sp.A6 (false,nd,ne)).length<=140737488355328)(hB:B<=w.heap.size)(_hT:Af w)(_hB8:NG<=B)(_h0:-100000000<=ne)(_h1:ne<=100000000)(hz:nd.isEmpty=false)(hx:(ne != 0)=false) :
  Calls Tryz.prog 103 #[.pointer (some ⟨b,0,none⟩),AD (false,nd,ne)] w fun e w'=>e = .returned (.tuple #[])/\Bu B b (acc++Sp.A6 (false,nd,ne)) w'/\Fr B b w w':=by
 have hE:Hid (Sp.A6 (false,nd,ne)=nd):=by
  have h9:¬ nd=[]:=by intro h;rw[h] at hz;cases hz
  unfold Hid Sp.A6;rw[if_neg h9];have h8:ne=0:=by simpa using hx
  simp[h8]
 have HZ:=Ab hz;have hblt:=IE h;have n0:NB (w.alloc (.cells #[.bool false,.string ⟨nd.toArray⟩,.int .i64 ne] 108)) w.heap.size false nd ne:=by
  show (w.heap.push _)[w.heap.size]? = _;simp
 have h2:=Bf h ((Below.refl _ w).alloc (Nat.le_refl _) (.cells #[.bool false,.string ⟨nd.toArray⟩,.int .i64 ne] 108));have f0:Fr B b w (w.alloc (.cells #[.bool false,.string ⟨nd.toArray⟩,.int .i64 ne] 108)):=⟨(Below.refl _ w).alloc hB _,OKz.below ((Below.refl _ w).alloc (Nat.le_refl _) _)⟩
 rw[Aa hE] at hl
 try simp only[List.length_cons] at hl
 try simp only[List.length_append] at hl
 try simp only[List.length_cons] at hl
 try simp only[List.length_nil] at hl
 clear hz;unfold AD
 go_enter func103,ntmps103
 go_wp2_with (fail);refine (Em (false,nd,ne) _).mono ?_
 rintro e w1 ⟨rfl,hb1⟩;have h3:=Bf h2 hb1;have n1:=n0.low hb1;have f1:Fr B b w w1:=f0.trans ⟨hb1.mono (by first|omega|(simp;omega)),OKz.below hb1⟩;have hB1:B<=w1.heap.size:=Nat.le_trans hB f1.low.size;simp only;rw[Aa HZ];clear h h2 n0 f0 hb1;have q0:=n1.c0;have q1:=n1.c1
 go_wp2_with (fail);refine (Fh nd h3 (by first|omega|(simp;omega)) hB1).mono ?_
 rintro e w3 ⟨rfl,h5,f3'⟩;have f3:=f1.trans f3';have n3:=n1.fr f3' (by omega);have hB3:B<=w3.heap.size:=Nat.le_trans hB f3.low.size;clear q1;have q2:=n3.c2
 go_wp2_with (fail)
 go_end0
 exact⟨rfl,by rw[Aa hE];simpa using h5,f3⟩
theorem Yl{B b:Nat}{acc:Sp.By}{nd:Sp.By}{ne:Int}{w:World}(h:Bu B b acc w)(hl:acc.length+(Sp.A6 (true,nd,ne)).length<=140737488355328)(hB:B<=w.heap.size)(hT:Af w)(hB8:NG<=B)(h0:-100000000<=ne)(h1:ne<=100000000)(hz:nd.isEmpty=false)(hx:(ne != 0)=true) :
  Calls Tryz.prog 103 #[.pointer (some ⟨b,0,none⟩),AD (true,nd,ne)] w fun e w'=>e = .returned (.tuple #[])/\Bu B b (acc++Sp.A6 (true,nd,ne)) w'/\Fr B b w w':=by
 have hE:Hid (Sp.A6 (true,nd,ne)=45::(nd++101::Lib.itoa ne)):=by
  have h9:¬ nd=[]:=by intro h;rw[h] at hz;cases hz
  unfold Hid Sp.A6;rw[if_neg h9];have h8:¬ ne=0:=by simpa using hx
  simp[h8]
 have HZ:=Ab hz;have hblt:=IE h;have n0:NB (w.alloc (.cells #[.bool true,.string ⟨nd.toArray⟩,.int .i64 ne] 108)) w.heap.size true nd ne:=by
  show (w.heap.push _)[w.heap.size]? = _;simp
 have h2:=Bf h ((Below.refl _ w).alloc (Nat.le_refl _) (.cells #[.bool true,.string ⟨nd.toArray⟩,.int .i64 ne] 108));have f0:Fr B b w (w.alloc (.cells #[.bool true,.string ⟨nd.toArray⟩,.int .i64 ne] 108)):=⟨(Below.refl _ w).alloc hB _,OKz.below ((Below.refl _ w).alloc (Nat.le_refl _) _)⟩
 rw[Aa hE] at hl
 try simp only[List.length_cons] at hl
 try simp only[List.length_append] at hl
 try simp only[List.length_cons] at hl
 try simp only[List.length_nil] at hl
 clear hz;unfold AD
 go_enter func103,ntmps103
 go_wp2_with (fail);refine (Em (true,nd,ne) _).mono ?_
 rintro e w1 ⟨rfl,hb1⟩;have h3:=Bf h2 hb1;have n1:=n0.low hb1;have f1:Fr B b w w1:=f0.trans ⟨hb1.mono (by first|omega|(simp;omega)),OKz.below hb1⟩;have hB1:B<=w1.heap.size:=Nat.le_trans hB f1.low.size;simp only;rw[Aa HZ];clear h h2 n0 f0 hb1;have q0:=n1.c0
 go_wp2_with (fail);refine (Bp 45 _ rfl h3 (by omega) hB1).mono ?_
 rintro e w2 ⟨rfl,h4,f2'⟩;have f2:=f1.trans f2';have n2:=n1.fr f2' (by omega);have hB2:B<=w2.heap.size:=Nat.le_trans hB f2.low.size;clear q0;have q1:=n2.c1
 go_wp2_with (fail);refine (Fh nd h4 (by first|omega|(simp;omega)) hB2).mono ?_
 rintro e w3 ⟨rfl,h5,f3'⟩;have f3:=f2.trans f3';have n3:=n2.fr f3' (by omega);have hB3:B<=w3.heap.size:=Nat.le_trans hB f3.low.size;clear q1;have q2:=n3.c2
 go_wp2_with (fail);refine (Bp 101 _ rfl h5 (by first|omega|(simp;omega)) hB3).mono ?_
 rintro e w4 ⟨rfl,h6,f4'⟩;have f4:=f3.trans f4';have n4:=n3.fr f4' (by omega);have hB4:B<=w4.heap.size:=Nat.le_trans hB f4.low.size;have hT4:=(hT.below (f4.low.mono hB8)).tab;clear q2;have q2:=n4.c2
 go_wp2_with (fail);refine (Tryz.strconv_Itoa ne (by omega) (by omega) w4 hT4).mono ?_
 rintro e w5 ⟨rfl,kk,os,rfl⟩;have hb5:=GL w4 kk os;have h7:=Bf h6 hb5;have hB5:B<=(Sort.grow (w4.drewN kk) os).heap.size:=Nat.le_trans hB4 hb5.size;have f5:Fr B b w4 (Sort.grow (w4.drewN kk) os):=⟨hb5.mono hB4,OKz.below hb5⟩
 generalize Sort.grow (w4.drewN kk) os=w5 at *
 go_wp2_with (fail);refine (Fh (Lib.itoa ne) h7 (by first|omega|(simp;omega)) hB5).mono ?_
 rintro e w6 ⟨rfl,h8,f6⟩
 go_wp2_with (fail)
 go_end0
 exact⟨rfl,by rw[Aa hE];simpa using h8,(f4.trans f5).trans f6⟩
theorem Yj{B b:Nat}{acc:Sp.By}{nd:Sp.By}{ne:Int}{w:World}(h:Bu B b acc w)(hl:acc.length+(Sp.A6 (false,nd,ne)).length<=140737488355328)(hB:B<=w.heap.size)(hT:Af w)(hB8:NG<=B)(h0:-100000000<=ne)(h1:ne<=100000000)(hz:nd.isEmpty=false)(hx:(ne != 0)=true) :
  Calls Tryz.prog 103 #[.pointer (some ⟨b,0,none⟩),AD (false,nd,ne)] w fun e w'=>e = .returned (.tuple #[])/\Bu B b (acc++Sp.A6 (false,nd,ne)) w'/\Fr B b w w':=by
 have hE:Hid (Sp.A6 (false,nd,ne)=(nd++101::Lib.itoa ne)):=by
  have h9:¬ nd=[]:=by intro h;rw[h] at hz;cases hz
  unfold Hid Sp.A6;rw[if_neg h9];have h8:¬ ne=0:=by simpa using hx
  simp[h8]
 have HZ:=Ab hz;have hblt:=IE h;have n0:NB (w.alloc (.cells #[.bool false,.string ⟨nd.toArray⟩,.int .i64 ne] 108)) w.heap.size false nd ne:=by
  show (w.heap.push _)[w.heap.size]? = _;simp
 have h2:=Bf h ((Below.refl _ w).alloc (Nat.le_refl _) (.cells #[.bool false,.string ⟨nd.toArray⟩,.int .i64 ne] 108));have f0:Fr B b w (w.alloc (.cells #[.bool false,.string ⟨nd.toArray⟩,.int .i64 ne] 108)):=⟨(Below.refl _ w).alloc hB _,OKz.below ((Below.refl _ w).alloc (Nat.le_refl _) _)⟩
 rw[Aa hE] at hl
 try simp only[List.length_cons] at hl
 try simp only[List.length_append] at hl
 try simp only[List.length_cons] at hl
 try simp only[List.length_nil] at hl
 clear hz;unfold AD
 go_enter func103,ntmps103
 go_wp2_with (fail);refine (Em (false,nd,ne) _).mono ?_
 rintro e w1 ⟨rfl,hb1⟩;have h3:=Bf h2 hb1;have n1:=n0.low hb1;have f1:Fr B b w w1:=f0.trans ⟨hb1.mono (by first|omega|(simp;omega)),OKz.below hb1⟩;have hB1:B<=w1.heap.size:=Nat.le_trans hB f1.low.size;simp only;rw[Aa HZ];clear h h2 n0 f0 hb1;have q0:=n1.c0;have q1:=n1.c1
 go_wp2_with (fail);refine (Fh nd h3 (by first|omega|(simp;omega)) hB1).mono ?_
 rintro e w3 ⟨rfl,h5,f3'⟩;have f3:=f1.trans f3';have n3:=n1.fr f3' (by omega);have hB3:B<=w3.heap.size:=Nat.le_trans hB f3.low.size;clear q1;have q2:=n3.c2
 go_wp2_with (fail);refine (Bp 101 _ rfl h5 (by first|omega|(simp;omega)) hB3).mono ?_
 rintro e w4 ⟨rfl,h6,f4'⟩;have f4:=f3.trans f4';have n4:=n3.fr f4' (by omega);have hB4:B<=w4.heap.size:=Nat.le_trans hB f4.low.size;have hT4:=(hT.below (f4.low.mono hB8)).tab;clear q2;have q2:=n4.c2
 go_wp2_with (fail);refine (Tryz.strconv_Itoa ne (by omega) (by omega) w4 hT4).mono ?_
 rintro e w5 ⟨rfl,kk,os,rfl⟩;have hb5:=GL w4 kk os;have h7:=Bf h6 hb5;have hB5:B<=(Sort.grow (w4.drewN kk) os).heap.size:=Nat.le_trans hB4 hb5.size;have f5:Fr B b w4 (Sort.grow (w4.drewN kk) os):=⟨hb5.mono hB4,OKz.below hb5⟩
 generalize Sort.grow (w4.drewN kk) os=w5 at *
 go_wp2_with (fail);refine (Fh (Lib.itoa ne) h7 (by first|omega|(simp;omega)) hB5).mono ?_
 rintro e w6 ⟨rfl,h8,f6⟩
 go_wp2_with (fail)
 go_end0
 exact⟨rfl,by rw[Aa hE];simpa using h8,(f4.trans f5).trans f6⟩
theorem JF{B b:Nat}{acc:Sp.By}(n:Sp.Nm){w:World}(h:Bu B b acc w)(hl:acc.length+(Sp.A6 n).length<=140737488355328)(hB:B<=w.heap.size)(hT:Af w)(hB8:NG<=B)(h0:-100000000<=n.2.2)(h1:n.2.2<=100000000) :
  Calls Tryz.prog 103 #[.pointer (some ⟨b,0,none⟩),AD n] w fun e w'=>e = .returned (.tuple #[])/\Bu B b (acc++Sp.A6 n) w'/\Fr B b w w':=by
 obtain⟨nb,nd,ne⟩:=n;cases hz:nd.isEmpty with
 | true=>exact YV h hl hB hT hB8 h0 h1 hz
 | false =>
  cases hx:(ne != 0) with
  | false =>
   cases nb with
   | true=>exact Ym h hl hB hT hB8 h0 h1 hz hx
   | false=>exact Yk h hl hB hT hB8 h0 h1 hz hx
  | true =>
   cases nb with
   | true=>exact Yl h hl hB hT hB8 h0 h1 hz hx
   | false=>exact Yj h hl hB hT hB8 h0 h1 hz hx
end

section
set_option maxHeartbeats 4000000
open Go.RowKit
def NO(f:Nat):Prop:=∀ (B b:Nat) (acc:Sp.By) (v:Value) (d:Sp.V) (w:World) (F:Nat->Prop),Bu B b acc w->Rep f F w v d->(∀k,F k->k<B)->Af w->NG<=B->B<=w.heap.size->acc.length+(Sp.can f d).length<=8796093022208 ->
 Calls Tryz.prog 78 #[.pointer (some ⟨b,0,none⟩),v] w fun e w'=>e = .returned (.tuple #[])/\Bu B b (acc++Sp.can f d) w'/\Fr B b w w'
theorem Rep.low{f B:Nat}{F:Nat->Prop}{w w':World}{v:Value}{d:Sp.V}(h:Rep f F w v d)(hF:∀k,F k->k<B)(hb:Below B w w'):Rep f F w' v d:=h.move fun k h1 _=>⟨hb.block k (hF k h1),h1⟩
theorem QM{f B b:Nat}{acc:Sp.By}(hV:NO f){g n cap:Nat}{ps:List Value}{es:List Sp.V}{w:World}{F:Nat->Prop}(h:Bu B b acc w)(hF:∀k,F k->k<B)(hT:Af w)(hB8:NG<=B)(hB:B<=w.heap.size)
  (hn:n=ps.length) (hcap:n<=cap) (hcap2:cap<=maxLen) (hcell:∀k (h:k<ps.length),w.cell? ⟨g,k,none⟩=some ps[k]) (hg:g<B) (hal:Al (Rep f F w) ps es)
  (hl:acc.length+(1+((Sp.Ai (es.map (Sp.can f))).length+1))<=8796093022208) :
  Calls Tryz.prog 105 #[.pointer (some ⟨b,0,none⟩),.slice (some ⟨g,0,none⟩) n cap] w fun e w'=>e = .returned (.tuple #[])/\Bu B b (acc++91::(Sp.Ai (es.map (Sp.can f))++[93])) w'/\Fr B b w w':=by
 have hle:=hal.length;have HN:=Ab hn;have hnb:(n:Int)<=9223372036854775807:=by unfold maxLen at hcap2;omega
 clear hn
 go_enter func105,ntmps105
 go_wp2_with (fail);refine (Bp 91 _ rfl h (by omega) hB).mono ?_
 rintro e w1 ⟨rfl,h1,f1⟩
 go_wp2_with (fail);clear h
 go_loopw [10] (fun i wr=>∃k:Nat,k<=n/\i = .int .i64 k/\Bu B b (acc++91::Sp.Ai ((es.map (Sp.can f)).take k)) wr/\Fr B b w wr) (fun i _=>n-(intOf i).toNat)
 case atStart=>exact⟨0,by omega,rfl,by simpa[Sp.Ai] using h1,f1⟩
 case round =>
  obtain⟨k,hk,rfl,hbu,hf⟩:=hrel;have HBU:=Ab hbu;have hBr:B<=wr.heap.size:=Nat.le_trans hB hf.low.size;have hjl:=Sp.Dy (es.map (Sp.can f)) k;have hnn:=Aa HN;have HLE:=Ab hle;have HNN:=Ab hnn;clear hbu h1 f1 hle hnn;by_cases hlt:k<n
  ·have hkp:k<ps.length:=by have:=Aa HNN;omega
   have hke:k<(es.map (Sp.can f)).length:=by have:=Aa HLE;simp;omega
   have hke2:k<es.length:=by simpa using hke
   have cc:wr.cell? ⟨g,k,none⟩=some ps[k]:=(hf.low.cell (p:=⟨g,k,none⟩) hg).trans (hcell k hkp);have hrep:=(hal.get k hkp hke2).low hF hf.low;have hst:=Ab (Sp.J7 (es.map (Sp.can f)) k hke);have hjl2:=Sp.Dy (es.map (Sp.can f)) (k+1);have hgk:(es.map (Sp.can f))[k]=Sp.can f es[k]:=by simp
   have hjl3:=congrArg List.length (Aa hst);rw[hgk] at hjl3;simp only[List.length_append] at hjl3;have HREP:=Ab hrep;have HGK:=Ab hgk;obtain⟨bb,hbb,_⟩:=hrep.ptr;clear hrep hgk;generalize ps[k]=pk at *;subst hbb;have hTr:=hT.below (hf.low.mono hB8);by_cases h0:0<k
   ·have e0:decide ((0:Int)<(k:Int))=true:=by simp;omega
    rw[if_pos h0] at hjl3;simp only[List.length_cons,List.length_nil] at hjl3
    go_wp2_with (fail);refine (Bp 44 _ rfl (Aa HBU) (by simp;omega) hBr).mono ?_
    rintro e w3 ⟨rfl,h3,f3⟩
    go_wp2_with (fail);refine (hV B b _ _ es[k] w3 F h3 ((Aa HREP).low hF f3.low) hF (hTr.below (f3.low.mono hB8)) hB8 (Nat.le_trans hBr f3.low.size) (by simp;omega)).mono ?_
    rintro e w4 ⟨rfl,h4,f4⟩
    go_wp2_with (fail)
    go_roundw
    case rel=>exact⟨k+1,by omega,by go_num,by rw[Aa hst,if_pos h0,Aa HGK];simpa using h4,(hf.trans f3).trans f4⟩
    case measure=>simp[intOf];omega
   ·have e0:decide ((0:Int)<(k:Int))=false:=by simp;omega
    rw[if_neg h0] at hjl3;simp only[List.length_nil] at hjl3
    go_wp2_with (fail);refine (hV B b _ _ es[k] wr F (Aa HBU) (Aa HREP) hF hTr hB8 hBr (by simp;omega)).mono ?_
    rintro e w4 ⟨rfl,h4,f4⟩
    go_wp2_with (fail)
    go_roundw
    case rel=>exact⟨k+1,by omega,by go_num,by rw[Aa hst,if_neg h0,Aa HGK];simpa using h4,hf.trans f4⟩
    case measure=>simp[intOf];omega
  ·go_wp2_with (fail);refine (Bp 93 _ rfl (Aa HBU) (by simp;omega) hBr).mono ?_
   rintro e w3 ⟨rfl,h3,f3⟩
   go_wp2_with (fail)
   go_end0
   refine⟨rfl,?_,hf.trans f3⟩;rw[List.take_of_length_le (by have:=Aa HLE;have:=Aa HNN;simp;omega)] at h3;simpa using h3
theorem Tc{B b:Nat}{acc:Sp.By}{w:World}(h:Bu B b acc w)(hB:B<=w.heap.size)(hl:acc.length+2<=140737488355328) :
  Calls Tryz.prog 105 #[.pointer (some ⟨b,0,none⟩),.slice none 0 0] w fun e w'=>e = .returned (.tuple #[])/\Bu B b (acc++91::([]++[93])) w'/\Fr B b w w':=by
 go_enter func105,ntmps105
 go_wp2_with (fail);refine (Bp 91 _ rfl h (by omega) hB).mono ?_
 rintro e w1 ⟨rfl,h1,f1⟩
 go_wp2_with (fail);refine wp_loop_rounds 1 ?_
 rw[rounds_succ]
 go_wp2_with (fail);refine (Bp 93 _ rfl h1 (by simp;omega) (Nat.le_trans hB f1.low.size)).mono ?_
 rintro e w3 ⟨rfl,h3,f3⟩
 go_wp2_with (fail)
 go_end0
 exact⟨rfl,by simpa using h3,f1.trans f3⟩
end

section
open Go.RowKit Go.Maps
theorem Pt.keys{P:Value->Sp.V->Prop}:∀ {l:List (Lit×DataW Value)} {m:List (Lit×Sp.V)},Pt P l m->strKeys (.map l)=Sp.keys m
 | [],[],_=>rfl
 | a::r,b::s,⟨⟨kk,_⟩,t⟩=>by
  have h:=Pt.keys t;simp only[strKeys,Sp.keys,List.map_cons] at h |-;rw[kk,h];congr 1
theorem Pt.look{P:Value->Sp.V->Prop}(k:Sp.By):∀ {l:List (Lit×DataW Value)} {m:List (Lit×Sp.V)},Pt P l m->Maps.has (.map l) (.string k)=true -> ∃x,(DataW.map l).atKey (.string k) (.held (.pointer none)) = .held x/\P x (Sp.look m k)
 | [],[],_,h=>by cases h
 | a::r,b::s,⟨⟨kk,x,e,hp⟩,t⟩,h=>by
  cases hs:a.1.sameKey (.string k) with
  | true =>
   refine⟨x,?_,?_⟩
   ·simp[DataW.atKey,hs,e]
   ·have hs2:b.1.sameKey (.string k)=true:=by rw[<- kk];exact hs
    simpa[Sp.look,DataW.atKey,hs2] using hp
  | false =>
   have hs2:b.1.sameKey (.string k)=false:=by rw[<- kk];exact hs
   have h2:Maps.has (.map r) (.string k)=true:=by
    have h3:(a::r).any (fun p=>p.1.sameKey (.string k))=true:=h;rw[List.any_cons,hs,Bool.false_or] at h3;exact h3
   obtain⟨y,h4,h5⟩:=Pt.look k t h2;refine⟨y,?_,?_⟩
   ·simpa[DataW.atKey,List.find?_cons,hs] using h4
   ·simpa[Sp.look,DataW.atKey,List.find?_cons,hs2] using h5
theorem Pt.len{P:Value->Sp.V->Prop}:∀ {l:List (Lit×DataW Value)} {m:List (Lit×Sp.V)},Pt P l m->l.length=m.length
 | [],[],_=>rfl
 | _::_,_::_,⟨_,d⟩=>congrArg (· + 1) (Pt.len d)
def Sp.skeys(es:List (Lit×Sp.V)):List Sp.By:=(Sp.keys es).mergeSort fun x y=>decide (x<=y)
def Sp.item(f:Nat)(es:List (Lit×Sp.V))(k:Sp.By):Sp.By:=Sp.Ah k++58::Sp.can f (Sp.look es k)
theorem Sp.can_obj2(f:Nat)(es:List (Lit×Sp.V)):Sp.can (f+1) (Sp.Av es)=123::(Sp.Ai ((Sp.skeys es).map (Sp.item f es))++[125]):=rfl
theorem Sp.skeys_len(es:List (Lit×Sp.V)):(Sp.skeys es).length=es.length:=by
 unfold Sp.skeys Sp.keys;rw[List.length_mergeSort,List.length_map]
theorem Sp.joinR_len(l:List Sp.By):l.length<=(Sp.Bt l).length:=by
 induction l with
 | nil=>simp
 | cons x r ih=>simp[Sp.Bt];omega
theorem Sp.joinC_len(l:List Sp.By)(h:∀x∈l,0<x.length):l.length<=(Sp.Ai l).length:=by
 cases l with
 | nil=>simp
 | cons x r=>have:=h x (by simp);have:=Sp.joinR_len r;simp[Sp.Ai];omega
theorem Sp.quoT_len(s:Sp.By):s.length+2<=(Sp.Ah s).length:=by
 have h:∀s:Sp.By,s.length<=(Sp.A7 s).length:=by
  intro s;induction s with
  | nil=>simp
  | cons c r ih =>
   have:1<=(Sp.Cr c).length:=by unfold Sp.Cr;split<;>(try split)<;>simp
   simp[Sp.A7];omega
 have:=h s;simp[Sp.Ah];omega
theorem Sp.item_len(f:Nat)(es:List (Lit×Sp.V))(k:Sp.By):(Sp.item f es k).length=(Sp.Ah k).length+(1+(Sp.can f (Sp.look es k)).length):=by
 simp[Sp.item];omega
theorem Sp.obj_len(f:Nat)(es:List (Lit×Sp.V)):es.length<=(Sp.Ai ((Sp.skeys es).map (Sp.item f es))).length:=by
 have h:=Sp.joinC_len ((Sp.skeys es).map (Sp.item f es)) (by
  intro x hx;obtain⟨k,_,rfl⟩:=List.mem_map.1 hx;have:=Sp.quoT_len k;rw[Sp.item_len];omega)
 rw[List.length_map,Sp.skeys_len] at h;exact h
theorem Rt{f m n:Nat}{F:Nat->Prop}{w:World}{D:List (Lit×DataW Value)}{es:List (Lit×Sp.V)}(ho:w.ownsMap Tryz.prog 9 RV m n (.map D))(hp:Pt (Rep f F w) D es){k:Sp.By}(hk:k∈Sp.skeys es) :
  Maps.has (.map D) (.string k)=true/\keyOf Tryz.prog 9 (.string ⟨k.toArray⟩)=some (.string k):=by
 have h1:k∈strKeys (.map D):=by
  rw[hp.keys];exact (List.mergeSort_perm _ _).mem_iff.1 hk
 obtain⟨p,hpm,hpk⟩:=List.mem_map.1 (show k∈D.map fun p=>strOf p.1 from h1);obtain⟨D',hD,hkeys⟩:=ho.keysOf;injection hD with hD;subst hD;obtain⟨key,hkey⟩:=hkeys p hpm;obtain⟨x,hx,hx2,hx3⟩:=Maps.keyOf_str underlying9 hkey;rw[hx2] at hpk hkey;have:x=k:=hpk;subst this;subst hx;refine⟨?_,hkey⟩;rw[Maps.has_eq,List.any_eq_true];exact⟨p,hpm,by rw[hx2];simp[Lit.sameKey]⟩
end
end Go.Proofs.YtdpomdelmdofmaaGreatDoor
