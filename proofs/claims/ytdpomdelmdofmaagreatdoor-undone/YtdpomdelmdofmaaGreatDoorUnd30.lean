import Derived.Test.YtdpomdelmdofmaaGreatDoorUnd29
import Derived.Lib.SplitLaws
namespace Go.Proofs.YtdpomdelmdofmaaGreatDoor
open Go.Proofs.Tryz
section
set_option maxRecDepth 100000
set_option maxHeartbeats 8000000
open Go.RowKit
theorem Mx.kept{w w':World}(h:Mx w)(hb:Below w.heap.size w w'):Mx w':=by
 obtain⟨m,h⟩:=h;exact⟨m,(hb.cell (p:=⟨6,0,none⟩) (Lib.lt_of_cell h)).trans h⟩
theorem WM(l:Sp.By)(w:World)(h:l.length<=1048576)(hm:Mx w) :
  Calls Tryz.prog 145 #[.string ⟨l.toArray⟩,.string ⟨#[126]⟩] w fun e w'=>e = .returned (.tuple #[.string ⟨(Lib.cut l [126]).1.toArray⟩,.string ⟨(Lib.cut l [126]).2.1.toArray⟩,.bool (Lib.cut l [126]).2.2]) /\ ∃n,w'=w.drewN n:=by
 obtain⟨m,hm⟩:=hm;exact Tryz.strings_Cut ⟨l.toArray⟩ ⟨#[126]⟩ m w (by rw[Aw];omega) hm
theorem Va{x:ByteArray}{l:Sp.By}(h:x.data.toList=l):x=⟨l.toArray⟩:=by
 cases x with
 | mk d=>simp at h;subst h;simp
theorem Np(l:Sp.By)(k:Nat):(⟨l.toArray⟩:ByteArray).extract k l.length=⟨(l.drop k).toArray⟩:=by
 apply Va;by_cases hk:k<=l.length
 ·have h1:=Us ⟨l.toArray⟩ k (l.length-k);rw[show k+(l.length-k)=l.length by omega] at h1;rw[h1];show (l.drop k).take (l.length-k)=l.drop k;exact List.take_of_length_le (by simp)
 ·rw[List.drop_eq_nil_of_le (by omega)];apply List.eq_nil_of_length_eq_zero;simp;omega
def QS(o:Option Sp.By)(e:Ending):Prop:=match o with
 | some s=>e = .returned (.tuple #[.string ⟨s.toArray⟩,.bool true])
 | none=>e = .returned (.tuple #[.string ⟨#[]⟩,.bool false])
theorem Mm{l:Sp.By}{w:World}(hn:l.length<=1048576)(hT:EF w)(hm:Mx w) :
  Calls Tryz.prog 110 #[.string ⟨l.toArray⟩] w fun e w'=>QS (Sp.une l) e/\Below w.heap.size w w':=by
 have hba:=(Below.refl w.heap.size w).alloc (Nat.le_refl _) (.cells #[.pointer none,.slice none 0 0] 119);have h0:Bu w.heap.size w.heap.size [] (w.alloc (.cells #[.pointer none,.slice none 0 0] 119)):=Or.inl ⟨Nat.le_refl _,.slice none 0 0,by show (w.heap.push _)[w.heap.size]? = _;simp,World.ownsRow_nil _ _ _ _,by simp[Value.ownBlock]⟩;have HT:=Ab hT;have HM:=Ab hm;have HBA:=Ab hba;have H0:=Ab h0;have HN:=Ab hn;clear hT hm hba h0 hn
 go_enter func110,ntmps110
 go_wp2_with (fail)
 go_loopw [0] (fun a wr=>∃l' acc,a = .string ⟨l'.toArray⟩/\Hid (Bu w.heap.size w.heap.size acc wr)/\Hid (Below w.heap.size w wr)/\Hid (Sp.une l=(Sp.une l').map (acc ++ ·))/\acc.length+l'.length<=l.length)
  (fun a _=>match a with | .string s=>s.size|_=>0)
 case atStart=>exact⟨l,[],rfl,H0,HBA,by show Sp.une l=_;cases Sp.une l<;>rfl,by simp⟩
 case round =>
  obtain⟨l',acc,rfl,HBU,HB,HE,hlen⟩:=hrel;have hn:=Aa HN;have hcut:=Ab (WM l' wr (by omega) ((Aa HM).kept (Aa HB)));have hsz:=(Aa HB).size;rcases O2 l' with⟨h1,h2⟩|⟨h1,r,h2⟩
  ·rw[X5 h1] at hcut;have HV:=Ab (show Sp.une l=some (acc++l') by rw[Aa HE,WZ h2];rfl);clear h1 h2
   go_wp2_with (fail);refine (Aa hcut).mono ?_
   rintro e w2 ⟨rfl,q,rfl⟩
   go_wp2_with (fail);refine (Fh l' (Bf (Aa HBU) (E1 (Below.refl _ _) q)) (by omega) (by show w.heap.size<=wr.heap.size;exact hsz)).mono ?_
   rintro e w3 ⟨rfl,hbu3,hf3⟩;have hb3:=(E1 (Aa HB) q).trans hf3.low
   go_wp2_with (fail);refine (Tryz.Builder_String_any w.heap.size w.heap.size _ w3 hbu3 (by have:=hb3.size;omega)).mono ?_
   rintro e w4 ⟨rfl,hb4⟩
   go_wp2_with (fail)
   go_ret2
   exact⟨by rw[Aa HV];simp[QS],hb3.trans hb4⟩
  ·rw[WL h1 h2] at hcut;have hal:=Yd l';have hue:=Ha (126::r) (Pp l');rw[<- h2,Vt] at hue;have hl2:(Sp.ahd l').length+(r.length+1)=l'.length:=by
    have:=congrArg List.length h2;simp only[List.length_append,List.length_cons] at this;omega
   have HUE:=Ab hue;have H2:=Ab h2;generalize Sp.ahd l'=p at *;clear hue h1 h2
   go_wp2_with (fail);refine (Aa hcut).mono ?_
   rintro e w2 ⟨rfl,q,rfl⟩
   go_wp2_with (fail);refine (Fh p (Bf (Aa HBU) (E1 (Below.refl _ _) q)) (by omega) (by show w.heap.size<=wr.heap.size;exact hsz)).mono ?_
   rintro e w3 ⟨rfl,hbu3,hf3⟩;have HB3:=Ab ((E1 (Aa HB) q).trans hf3.low);have HBU3:=Ab hbu3;have hx:(⟨l'.toArray⟩:ByteArray).extract p.length l'.length=⟨(126::r).toArray⟩:=by
    rw[Np,Aa H2];simp
   have hszX:(⟨l'.toArray⟩:ByteArray).size=l'.length:=Aw _;have hle:(p.length:Int)<=((⟨l'.toArray⟩:ByteArray).size:Int):=by rw[hszX];omega
   clear hbu3 hf3
   go_wp2_with (fail);refine (N4 (126::r) w3 ((Aa HT).kept (Aa HB3))).mono ?_
   rintro e w4 ⟨rfl,hb4⟩;have HB4:=Ab ((Aa HB3).trans (hb4.mono (Aa HB3).size));have HBU4:=Ab (Bf (Aa HBU3) hb4);clear hb4;cases hpe:Sp.pes (126::r) with
   | none =>
    have HV:=Ab (show Sp.une l=none by
     have h9:=Aa HUE;rw[hpe] at h9;rw[Aa HE,h9];rfl)
    clear hpe;unfold ML
    go_wp2_with (fail)
    go_ret2
    exact⟨by rw[Aa HV];rfl,Aa HB4⟩
   | some c =>
    have HV:=Ab (show Sp.une l=(Sp.une ((126::r).drop 2)).map (acc++p++[c] ++ ·) by
     have h9:=Aa HUE;rw[hpe] at h9;rw[Aa HE,h9];cases Sp.une ((126::r).drop 2)<;>simp)
    have hr1:1<=r.length:=by
     cases r with
     | nil=>cases hpe
     | cons _ _=>simp
    have hx2:(⟨(126::r).toArray⟩:ByteArray).extract 2 (126::r).length=⟨((126::r).drop 2).toArray⟩:=Np _ _;have hs2:(⟨(126::r).toArray⟩:ByteArray).size=r.length+1:=by rw[Aw];rfl
    clear hpe hx;unfold ML
    go_wp2_with (fail);refine (Bp c _ rfl (Aa HBU4) (by simp only[List.length_append];omega) (Aa HB4).size).mono ?_
    rintro e w5 ⟨rfl,hbu5,hf5⟩;have HBU5:=Ab hbu5;have HB5:=Ab ((Aa HB4).trans hf5.low);have hle2:(2:Int)<=((⟨(126::r).toArray⟩:ByteArray).size:Int):=by rw[hs2];omega
    clear hbu5 hf5
    go_wp2_with (fail);rw[show ((⟨(126::r).toArray⟩:ByteArray).extract 2 (r.length+1))=⟨((126::r).drop 2).toArray⟩ from hx2]
    refine⟨⟨(126::r).drop 2,acc++p++[c],rfl,HBU5,HB5,HV,?_⟩,?_⟩
    ·simp only[List.length_append,List.length_drop,List.length_cons,List.length_nil];omega
    ·show (⟨((126::r).drop 2).toArray⟩:ByteArray).size<(⟨l'.toArray⟩:ByteArray).size;rw[Aw,Aw];simp only[List.length_drop,List.length_cons];omega
end

section
open Go.RowKit
theorem Xm(l:Sp.By):Sp.pcs l≠[]:=by
 cases l with
 | nil=>intro h;cases h
 | cons c r =>
  unfold Sp.pcs;split
  ·intro h;cases h
  ·split<;>(intro h;cases h)
theorem RW:∀l:Sp.By,(Lib.index l [47] = -1/\l.count 47=0/\Sp.pcs l=[l])\/(Lib.index l [47]=(Sp.ahs l).length /\ ∃r,l=Sp.ahs l++47::r/\l.count 47=r.count 47+1/\Sp.pcs l=Sp.ahs l::Sp.pcs r)
 | []=>Or.inl ⟨rfl,rfl,rfl⟩
 | b::l=>by
  by_cases hb:b=47
  ·subst hb;exact Or.inr ⟨by simp[Lib.index,Sp.ahs],l,by simp[Sp.ahs],by simp,by simp[Sp.ahs,Sp.pcs]⟩
  ·have h1:Sp.ahs (b::l)=b::Sp.ahs l:=by simp[Sp.ahs,hb]
   have h2:Lib.index (b::l) [47]=if Lib.index l [47] == -1 then -1 else Lib.index l [47]+1:=by
    have:([47]:List UInt8).isPrefixOf (b::l)=false:=by
     simp only[List.isPrefixOf];simp[Ne.symm hb]
    simp only[Lib.index,this];rfl
   have h3:(b::l).count 47=l.count 47:=by rw[List.count_cons];simp[hb]
   have h4:Sp.pcs (b::l)=match Sp.pcs l with|p::ps=>(b::p)::ps|[]=>[[b]]:=by
    conv=>lhs;unfold Sp.pcs
    rw[if_neg hb];cases Sp.pcs l<;>rfl
   rw[h1,h2,h3,h4];rcases RW l with⟨e1,e2,e3⟩|⟨e1,r,e2,e3,e4⟩
   ·rw[e1,e2,e3];exact Or.inl ⟨rfl,rfl,rfl⟩
   ·refine Or.inr ⟨?_,r,by rw[List.cons_append,<- e2],e3,by rw[e4]⟩;rw[e1,if_neg (by simp)];simp
theorem NY(sep:Sp.By)(k:Nat)(l:Sp.By):Lib.splitK sep 0 (k+1) l=if Lib.index l sep == -1 then [l] else l.take ((Lib.index l sep).toNat+0)::Lib.splitK sep 0 k (l.drop ((Lib.index l sep).toNat+sep.length)):=rfl
theorem KX:∀ (n:Nat) (l:Sp.By),l.length<=n->Lib.splitK [47] 0 (l.count 47) l=Sp.pcs l
 | n,l,hn=>by
  rcases RW l with⟨e1,e2,e3⟩|⟨e1,r,e2,e3,e4⟩
  ·rw[e2,e3];rfl
  ·have hr:r.length<l.length:=by
    have:=congrArg List.length e2;simp only[List.length_append,List.length_cons] at this;omega
   rw[e3,e4]
   match n with
   | 0=>omega
   | n+1 =>
    rw[<- KX n r (by omega)];rw[NY,e1,if_neg (by simp)];simp only[Int.toNat_natCast,Nat.add_zero];have t1:l.take (Sp.ahs l).length=Sp.ahs l:=by
     have h1:(Sp.ahs l++47::r).take (Sp.ahs l).length=Sp.ahs l:=List.take_left' rfl;rw[<- e2] at h1;exact h1
    have t2:l.drop ((Sp.ahs l).length+[(47:UInt8)].length)=r:=by
     have h1:(Sp.ahs l++47::r).drop ((Sp.ahs l).length+1)=r:=by
      rw[<- List.drop_drop,List.drop_left' rfl];rfl
     rw[<- e2] at h1;exact h1
    rw[t1,t2]
end

section
open Go.RowKit
theorem QQ(l:Sp.By)(w:World)(h:l.length<=1048576)(hT:Af w) :
  Calls Tryz.prog 108 #[.string ⟨l.toArray⟩] w fun e w'=>e = .returned (.bool (Lib.validD l))/\Below w.heap.size w w' :=
 Any.utf8_ValidString Tryz.lays196 ⟨l.toArray⟩ w (by rw[Aw];omega) hT.utf8
def Eq(ps:List Sp.By):List Value:=ps.map fun p=>.string ⟨p.toArray⟩
theorem SE(l:Sp.By):Lib.countB ⟨l.toArray⟩ ⟨#[47]⟩=l.count 47:=Lib.count_one 47 l
theorem JL(l:Sp.By):(Lib.splitB ⟨#[47]⟩ 0 (l.count 47) ⟨l.toArray⟩).map Value.string=Eq (Sp.pcs l):=by
 have h:=Lib.splitB_data ⟨#[47]⟩ 0 (l.count 47) ⟨l.toArray⟩;have h2:(Lib.splitB ⟨#[47]⟩ 0 (l.count 47) ⟨l.toArray⟩).map (·.data.toList)=Sp.pcs l:=h.trans (KX l.length l (Nat.le_refl _))
 unfold Eq;rw[<- h2,List.map_map];apply List.map_congr_left;intro x _;show Value.string x=Value.string ⟨x.data.toList.toArray⟩;rw[<- Va (x:=x) rfl]
theorem OQ(l:Sp.By):(Sp.pcs l).length=l.count 47+1:=by
 have h:=congrArg List.length (JL l);have h1:=Lib.splitB_all ⟨#[47]⟩ (by decide) 0 (l.count 47) ⟨l.toArray⟩ (SE l);rw[List.length_map] at h;unfold Eq at h;rw[List.length_map] at h;omega
theorem Q8(l:Sp.By)(w:World)(h:l.length<=1048576)(hm:Mx w) :
  Calls Tryz.prog 109 #[.string ⟨l.toArray⟩,.string ⟨#[47]⟩] w fun e w'=>e = .returned (.slice (some ⟨w.heap.size,0,none⟩) (Sp.pcs l).length (Sp.pcs l).length)/\w'=w.alloc (.cells (Eq (Sp.pcs l)).toArray 9):=by
 obtain⟨m,hm⟩:=hm;have c:=Any.strings_Split Tryz.lays146 (by kernel_rfl) ⟨l.toArray⟩ ⟨#[47]⟩ m w (by rw[Aw];omega) hm (by decide);rw[SE,JL,<- OQ] at c;exact c
end

section
set_option maxRecDepth 100000
set_option maxHeartbeats 8000000
open Go.RowKit
def D4(w:World)(g:Nat)(ps:List Sp.By):Prop:=w.heap[g]? = some (.cells (Eq ps).toArray 9 (0,0))
theorem D4.cell{w:World}{g:Nat}{ps:List Sp.By}(h:D4 w g ps)(k:Nat)(hk:k<ps.length):w.cell? ⟨g,k,none⟩=some (.string ⟨ps[k].toArray⟩):=by
 simp[World.cell?,show w.heap[g]? = _ from h,Eq,hk]
theorem D4.lt{w:World}{g:Nat}{ps:List Sp.By}(h:D4 w g ps):g<w.heap.size:=(Array.getElem?_eq_some_iff.1 h).1
theorem D4.bel{w w':World}{g:Nat}{ps:List Sp.By}(h:D4 w g ps)(hb:Below w.heap.size w w'):D4 w' g ps:=(hb.block g h.lt).trans h
theorem D4.fz{w:World}{g:Nat}{ps:List Sp.By}(h:D4 w g ps)(k:Nat):w.frozen? ⟨g,k,none⟩=false:=by
 simp[World.frozen?,show w.heap[g]? = _ from h]
theorem OH{α:Type}(v b:α)(c:List α):∀a:List α,(a++b::c).set a.length v=a++v::c
 | []=>rfl
 | x::a=>by
  show x::(a++b::c).set a.length v=_;rw[OH v b c a];rfl
theorem D4.set{w:World}{g:Nat}{ks rest:List Sp.By}{t s:Sp.By}(h:D4 w g ([]::(ks++t::rest))):D4 (w.setCell ⟨g,1+ks.length,none⟩ (.string ⟨s.toArray⟩)) g ([]::((ks++[s])++rest)):=by
 have e:(Eq ([]::(ks++t::rest))).toArray.setIfInBounds (1+ks.length) (.string ⟨s.toArray⟩)=(Eq ([]::((ks++[s])++rest))).toArray:=by
  rw[List.setIfInBounds_toArray];congr 1;unfold Eq;rw[Nat.add_comm,List.map_cons,List.set_cons_succ,List.map_cons,List.map_append,List.map_cons,List.append_assoc,List.map_append];congr 1;have:=OH (Value.string ⟨s.toArray⟩) (Value.string ⟨t.toArray⟩) (rest.map fun p=>Value.string ⟨p.toArray⟩) (ks.map fun p=>Value.string ⟨p.toArray⟩);rw[List.length_map] at this;rw[this];rfl
 unfold D4;rw[<- e];simp only[World.setCell,Array.getElem?_modify];rw[if_pos trivial,show w.heap[g]? = _ from h];rfl
theorem IO{t:Sp.By}{rest:List Sp.By}:Sp.keysOf (t::rest)=match Sp.une t with|none=>none|some k=>(Sp.keysOf rest).map (k :: ·):=rfl
theorem JP:∀ (l:Sp.By),∀t∈Sp.pcs l,t.length<=l.length
 | [],t,h=>by
  have:t=[]:=by simpa[Sp.pcs] using h
  rw[this];exact Nat.le_refl _
 | c::r,t,h=>by
  unfold Sp.pcs at h;split at h
  ·rcases List.mem_cons.1 h with e|e
   ·rw[e];exact Nat.zero_le _
   ·exact Nat.le_succ_of_le (JP r t e)
  ·split at h
   ·rename_i p ps hp;rcases List.mem_cons.1 h with e|e
    ·rw[e];exact Nat.succ_le_succ (JP r p (by rw[hp];exact List.mem_cons_self ..))
    ·exact Nat.le_succ_of_le (JP r t (by rw[hp];exact List.mem_cons_of_mem _ e))
   ·rcases List.mem_cons.1 h with e|e
    ·rw[e];simp
    ·cases e
def Xi(o:Option (List Sp.By))(e:Ending)(w':World):Prop:=match o with
 | some ks=>∃v,e = .returned (.tuple #[v,.bool true])/\CQ w' v ks
 | none=>e = .returned (.tuple #[.slice none 0 0,.bool false])
def F9(lo:Nat)(o:Option (List Sp.By))(e:Ending)(w':World):Prop:=match o with
 | some ks=>∃v,e = .returned (.tuple #[v,.bool true])/\CQ w' v ks /\ ∀g,v.ownBlock=some g->lo<=g
 | none=>e = .returned (.tuple #[.slice none 0 0,.bool false])
theorem Lh{l:Sp.By}{w:World}(hn:l.length<=1048576)(hT:Af w)(hP:EF w)(hm:Mx w) :
  Calls Tryz.prog 80 #[.string ⟨l.toArray⟩] w fun e w'=>F9 w.heap.size (Sp.toks l) e w'/\Below w.heap.size w w':=by
 have hv:=Ab (QQ l w hn hT);obtain⟨R,hR⟩:∃R,R=Sp.toks l:=⟨_,rfl⟩
 rw[<- hR];have HR:=Ab hR;have HM:=Ab hm;have HP:=Ab hP;clear hR hm hP hT;cases hva:Lib.validD l with
 | false =>
  have HV:=Ab (show R=none by rw[Aa HR];unfold Sp.toks;rw[hva];rfl);rw[hva] at hv;clear hva
  go_enter func80,ntmps80
  go_wp2_with (fail);refine (Aa hv).mono ?_
  rintro e w1 ⟨rfl,hb1⟩
  go_wp2_with (fail)
  go_ret2
  exact⟨by rw[Aa HV];rfl,hb1⟩
 | true =>
  have HV:=Ab (show R=match Sp.pcs l with|[]::r=>Sp.keysOf r|_=>none by rw[Aa HR];unfold Sp.toks;rw[hva];rfl);rw[hva] at hv;clear hva
  go_enter func80,ntmps80
  go_wp2_with (fail);refine (Aa hv).mono ?_
  rintro e w1 ⟨rfl,hb1⟩;have HB1:=Ab hb1;have hsp:=Ab (Q8 l w1 hn ((Aa HM).kept hb1));clear hb1 hv
  go_wp2_with (fail);refine (Aa hsp).mono ?_
  rintro e w2 ⟨rfl,rfl⟩;have HN:=Ab (OQ l);have hcl:l.count 47<=l.length:=List.count_le_length;have h0:D4 (w1.alloc (.cells (Eq (Sp.pcs l)).toArray 9)) w1.heap.size (Sp.pcs l):=by
   show (w1.heap.push _)[w1.heap.size]? = _;simp
  have hba:=(Aa HB1).alloc (Aa HB1).size (.cells (Eq (Sp.pcs l)).toArray 9);have hgs:w1.heap.size<(w1.alloc (.cells (Eq (Sp.pcs l)).toArray 9)).heap.size:=by simp
  have HBA:=Ab hba;have hG:=(Aa HB1).size;clear hba;have HTP:=Ab (JP l);cases hpc:Sp.pcs l with
  | nil=>exact absurd hpc (Xm l)
  | cons t0 tks =>
   rw[hpc] at h0 HV HBA HN HTP;have hlen:tks.length<=1048576:=by have:=Aa HN;simp only[List.length_cons] at this;omega
   generalize w1.alloc (.cells (Eq (t0::tks)).toArray 9)=w2 at *;have c0:=h0.cell 0 (by simp);simp only[List.getElem_cons_zero] at c0;have H0:=Ab h0;clear hpc h0 hsp;cases t0 with
   | cons a q =>
    have HN1:=Ab (show R=none from Aa HV)
    go_wp2_with (fail)
    go_ret2
    exact⟨by rw[Aa HN1];rfl,Aa HBA⟩
   | nil =>
    have HV1:=Ab (show R=Sp.keysOf tks from Aa HV);have HTL:=Ab (show ∀t∈tks,t.length<=1048576 from fun t ht=>Nat.le_trans (Aa HTP t (List.mem_cons_of_mem _ ht)) hn);clear HV;simp only[List.length_cons];by_cases h00:tks=[]
    ·have HN2:=Ab (show R=some [] by rw[Aa HV1,h00];rfl);subst h00;simp only[List.length_nil]
     go_wp2_with (fail);refine wp_loop_rounds 1 ?_
     rw[rounds_succ]
     go_wp2_with (fail)
     go_ret2
     exact⟨by rw[Aa HN2];exact⟨_,rfl,Or.inl ⟨rfl,_,_,rfl,by unfold maxLen;omega⟩,fun g h=>by cases h;exact hG⟩,Aa HBA⟩
    ·obtain⟨N,hN⟩:∃N,N=tks.length:=⟨_,rfl⟩
     have hpos:0<N:=by rw[hN];exact List.length_pos_iff.2 h00
     have HNN:=Ab hN;rw[<- hN];have hn1:(N:Int)<=1048576:=by omega
     have hn2:(1:Int)<=(N:Int)+1:=by omega
     clear hN hlen HN h00
     go_wp2_with (fail)
     go_loopw [23] (fun i wr=>∃ (ks rest:List Sp.By),i = .int .i64 ks.length/\ks.length+rest.length=N/\Hid (D4 wr w1.heap.size ([]::(ks++rest)))/\Hid (Below w.heap.size w wr)/\Hid (Sp.keysOf tks=(Sp.keysOf rest).map (ks ++ ·))/\Hid (∀t∈rest,t.length<=1048576))
      (fun i _=>N-(intOf i).toNat)
     case atStart=>exact⟨[],tks,rfl,by have:=Aa HNN;simp;omega,H0,HBA,by show Sp.keysOf tks=_;cases Sp.keysOf tks<;>rfl,HTL⟩
     case round =>
      obtain⟨ks,rest,rfl,hkr,HSR,HB,HE,HT2⟩:=hrel;cases rest with
      | nil =>
       have hkN:ks.length=N:=by simpa using hkr
       have HOUT:=Ab (show ∀cap,N<=cap->cap<=maxLen->F9 w.heap.size R (.returned (.tuple #[.slice (some ⟨w1.heap.size,1,none⟩) N cap,.bool true])) wr from fun cap hca hcm=>by
        rw[Aa HV1,Aa HE];refine⟨_,rfl,Or.inr ⟨_,1,cap,?_,?_,hcm,(Aa HSR).lt,fun k hk=>?_⟩,fun g h=>(by cases h;exact hG)⟩
        ·simp[hkN]
        ·simp;omega
        ·have hk2:k<ks.length:=by simpa using hk
         have h9:=(Aa HSR).cell (1+k) (by simp;omega);rw[h9];simp[Nat.add_comm 1 k])
       have hlt2:¬ ((ks.length:Nat):Int)<(N:Int):=by omega
       go_wp2_with (fail)
       go_ret2
       exact⟨Aa HOUT _ (by omega) (by unfold maxLen;omega),Aa HB⟩
      | cons t r =>
       have hlt2:((ks.length:Nat):Int)<(N:Int):=by simp only[List.length_cons] at hkr;omega
       have c1:wr.cell? ⟨w1.heap.size,1+ks.length,none⟩=some (.string ⟨t.toArray⟩):=by
        rw[(Aa HSR).cell (1+ks.length) (by simp;omega)];simp[Nat.add_comm 1 ks.length]
       have hcall:=Ab (Mm (l:=t) (Aa HT2 t (by simp)) ((Aa HP).kept (Aa HB)) ((Aa HM).kept (Aa HB)));clear c0
       go_wp2_with (fail);refine (Aa hcall).mono ?_
       rintro e w3 ⟨hue,hb3⟩;have HB3:=Ab ((Aa HB).trans (hb3.mono (Aa HB).size));have HSR3:=Ab ((Aa HSR).bel hb3);clear hb3 hcall c1;cases hun:Sp.une t with
       | none =>
        rw[hun] at hue;have hue2:e = .returned (.tuple #[.string ⟨#[]⟩,.bool false]):=hue;subst hue2;have HN2:=Ab (show R=none by rw[Aa HV1,Aa HE,IO,hun];rfl);clear hue hun
        go_wp2_with (fail)
        go_ret2
        exact⟨by rw[Aa HN2];rfl,Aa HB3⟩
       | some s =>
        rw[hun] at hue;have hue2:e = .returned (.tuple #[.string ⟨s.toArray⟩,.bool true]):=hue;subst hue2;have HE3:=Ab (show Sp.keysOf tks=(Sp.keysOf r).map ((ks++[s]) ++ ·) by
         rw[Aa HE,IO,hun];cases Sp.keysOf r<;>simp)
        have fz:=(Aa HSR3).fz (1+ks.length);have c3:w3.cell? ⟨w1.heap.size,1+ks.length,none⟩=some (.string ⟨t.toArray⟩):=by
         rw[(Aa HSR3).cell (1+ks.length) (by simp;omega)];simp[Nat.add_comm 1 ks.length]
        clear hue hun
        go_wp2_with (fail);refine⟨⟨ks++[s],r,by simp,?_,(Aa HSR3).set,(Aa HB3).setCell (p:=⟨w1.heap.size,1+ks.length,none⟩) hG _,HE3,fun t' ht'=>Aa HT2 t' (by simp[ht'])⟩,?_⟩
        ·simp only[List.length_append,List.length_cons,List.length_nil] at hkr |-; omega
        ·simp only[List.length_cons] at hkr;simp only[intOf];omega
theorem Li{l:Sp.By}{w:World}(hn:l.length<=1048576)(hT:Af w)(hP:EF w)(hm:Mx w) :
  Calls Tryz.prog 80 #[.string ⟨l.toArray⟩] w fun e w'=>Xi (Sp.toks l) e w'/\Below w.heap.size w w':=by
 refine (Lh hn hT hP hm).mono ?_;rintro e w' ⟨h,hb⟩;refine⟨?_,hb⟩;cases ho:Sp.toks l with
 | none=>rw[ho] at h;exact h
 | some ks =>
  rw[ho] at h;obtain⟨v,h1,h2,_⟩:=h;exact⟨v,h1,h2⟩
end

section
set_option maxRecDepth 100000
set_option maxHeartbeats 2000000
open Go.RowKit Go.Maps
section
variable{f:Nat}{F:Nat->Prop}{w:World}{v:Value}{o:Option Sp.V}
theorem ON(h:GZ f F w v o)(hs:∀s,Sp.Cc o=some s->s.length<=1048576)(hT:Af w) :
  Calls Tryz.prog 148 #[v] w fun e w'=>F9 w.heap.size (Sp.BZ o) e w'/\Below w.heap.size w w':=by
 have HC:=Ab (OE h);obtain⟨p,rfl⟩:=h.ptr;unfold Sp.BZ;clear h;cases hp:Sp.Cc o with
 | none =>
  rw[hp] at HC;clear hp hs hT
  go_enter func148,ntmps148
  go_wp2_with (fail);refine (Aa HC).mono ?_
  rintro e w' ⟨rfl,rfl⟩;unfold Px;simp only[Option.getD_none,Option.isSome_none]
  go_wp2_with (fail)
  go_ret2
  exact⟨rfl,Below.refl _ _⟩
 | some s =>
  rw[hp] at HC;have HR:=Ab (Lh (hs s hp) hT hT.pesc hT.mx);clear hp hs hT
  go_enter func148,ntmps148
  go_wp2_with (fail);refine (Aa HC).mono ?_
  rintro e w' ⟨rfl,rfl⟩;unfold Px;simp only[Option.getD_some,Option.isSome_some]
  go_wp2_with (fail);refine (Aa HR).mono ?_
  rintro e w2 ⟨hn,hb⟩;cases ht:Sp.toks s with
  | none =>
   rw[ht] at hn;obtain rfl:e = .returned (.tuple #[.slice none 0 0,.bool false]):=hn
   go_wp2_with (fail)
   go_ret2
   refine⟨?_,hb⟩;show F9 _ (Sp.toks s) _ _;rw[ht];rfl
  | some ks =>
   rw[ht] at hn;obtain⟨u,rfl,h1,h2⟩:=hn;have H:=Ab (show F9 _ (some ks) (.returned (.tuple #[u,.bool true])) w2/\_ from⟨⟨u,rfl,h1,h2⟩,hb⟩);have HT9:=Ab ht;clear h1 h2 hb ht
   go_wp2_with (fail)
   go_ret2
   refine⟨?_,(Aa H).2⟩;show F9 _ (Sp.toks s) _ _;rw[Aa HT9];exact (Aa H).1
end
end

section
set_option maxRecDepth 100000
set_option maxHeartbeats 4000000
open Go.RowKit Go.Maps
theorem EH{P:Program}{w:World}{ops:Array Oper}{rest:List Oper}{o:Oper}{a:Act}{Q:Exit->Act->World->Prop}(hg:o.guard=none)(m x:Operand)(t:TypeId)(c:Bool)(hop:o.op=Op.lookup t m x c)
  (mv key r:Value) (hm:a.eval m=mv) (hx:a.eval x=key) (hrun:(Instr.lookup t mv key c).run P w = .ok r w) (hK:wpList P ops Q rest (a.put o.dst r) w):wpList P ops Q (o::rest) a w:=by
 refine wpList_plain hg fun K' hK'=>?_;unfold Oper.wp;simp[execOp,hop,hm,hx,hrun,Result.andThen];exact hK' _ _ hK
theorem Oy{w:World}{G:Nat->Prop}{v:Value}{l:List Sp.By}(h:CQ w v l)(hg:∀g,v.ownBlock=some g->G g):AM w G v l:=by
 rcases h with h|⟨g,o,cap,rfl,h2,h3,h4⟩
 ·exact Or.inl h
 ·exact Or.inr ⟨g,o,cap,rfl,h2,h3,hg g rfl,h4⟩
theorem Fa{w:World}{G:Nat->Prop}{v:Value}{l:List Sp.By}(h:AM w G v l):∃a n c,v = .slice a n c:=by
 rcases h with⟨_,a,c,rfl,_⟩|⟨g,o,cap,rfl,_⟩
 ·exact⟨_,_,_,rfl⟩
 ·exact⟨_,_,_,rfl⟩
theorem OpB.fz{w:World}{q k:Nat}{pa fa y:Option Addr}{pl pc fl fc:Nat}(h:OpB w q k pa pl pc fa fl fc y)(i:Nat):w.frozen? ⟨q,i,none⟩=false:=Lib.frozen_of_heap h i
def Fe(F:Nat->Prop)(d:Sp.V)(w:World)(e:Ending)(w':World):Prop:=match Sp.CF d with
 | none=>e = .returned (.tuple #[opV 0 none 0 0 none 0 0 none,.bool false])
 | some o=>∃pa pl pc fa fl fc y,e = .returned (.tuple #[opV o.1 pa pl pc fa fl fc y,.bool true])/\GX w' (fun k=>(F k/\k<w.heap.size)\/w.heap.size<k) o pa pl pc fa fl fc y
theorem N0{W:World}{q:Nat}(a b c d:Value)(k:Nat)(hk:k≠q):((((W.setCell ⟨q,0,none⟩ a).setCell ⟨q,1,none⟩ b).setCell ⟨q,2,none⟩ c).setCell ⟨q,3,none⟩ d).heap[k]? = W.heap[k]? :=
 (Below.heap_setCell _ _ _ _ hk).trans ((Below.heap_setCell _ _ _ _ hk).trans ((Below.heap_setCell _ _ _ _ hk).trans (Below.heap_setCell _ _ _ _ hk)))
theorem FY{B q:Nat}{w W:World}(h:Below B w W)(hq:B<=q)(a b c d:Value):Below B w ((((W.setCell ⟨q,0,none⟩ a).setCell ⟨q,1,none⟩ b).setCell ⟨q,2,none⟩ c).setCell ⟨q,3,none⟩ d) :=
 (((h.setCell (p:=⟨q,0,none⟩) hq _).setCell (p:=⟨q,1,none⟩) hq _).setCell (p:=⟨q,2,none⟩) hq _).setCell (p:=⟨q,3,none⟩) hq _
section
variable{f:Nat}{F:Nat->Prop}{w:World}{v:Value}{d:Sp.V}{m:Nat}
theorem Uh(h:Rep (f+1) F w v d)(hf:f<=top)(hs:∀k s,Sp.Cc (Sp.AK d k)=some s->s.length<=1048576)(hm:w.ownsMap Tryz.prog 219 KE m 6 (nD 6))(hT:Af w) :
  Calls Tryz.prog 115 #[.map (some m),v] w fun e w'=>Fe F d w e w'/\Below w.heap.size w w':=by
 obtain⟨b,n,x,s,sl,mv,rfl,hv,hk⟩:=ME h;obtain⟨y1,r1,l1⟩:=hk Sp.BE (by decide);obtain⟨y2,r2,l2⟩:=hk Sp.Dz (by decide);obtain⟨y3,r3,l3⟩:=hk Sp.Bg (by decide);obtain⟨y4,r4,l4⟩:=hk Sp.op_ (by decide);have hbl:=hv.lt;have hml:m<w.heap.size:=by obtain⟨es,clock,hb,_⟩:=hm;exact (Array.getElem?_eq_some_iff.1 hb).1
 obtain⟨W0,hW0⟩:∃W0,W0=w.alloc (.cells #[.int .i64 0,.slice none 0 0,.slice none 0 0,.pointer none] 178):=⟨_,rfl⟩
 have hb0:Below w.heap.size w W0:=by rw[hW0];exact (Below.refl _ _).alloc (Nat.le_refl _) _
 have hs0:W0.heap.size=w.heap.size+1:=by rw[hW0];simp
 have hq0:OpB W0 w.heap.size 0 none 0 0 none 0 0 none:=by rw[hW0];exact heap_alloc_new w _
 obtain⟨q,hq⟩:∃q,q=w.heap.size:=⟨_,rfl⟩
 rw[<- hq] at hb0 hs0 hq0;have HV:=Ab hv;have HB0:=Ab hb0;have HS0:=Ab hs0;have HQ0:=Ab hq0;have HT0:=Ab (hT.below (hb0.mono (by rw[hq];exact hT.ng)));have H1:=Ab (r1.bel (hq▸hb0));have HP1:=Ab (ON (r1.bel (hq▸hb0)) (fun s' hs'=>hs _ s' hs') (Aa HT0));have R2:=Ab r2;have R3:=Ab r3;have R4:=Ab r4;have L1:=Ab (fun w' (hb:Below q w w')=>(l1 w' (hq▸hb)).2);have L2:=Ab (fun w' (hb:Below q w w')=>(l2 w' (hq▸hb)).2);have L3:=Ab (fun w' (hb:Below q w w')=>(l3 w' (hq▸hb)).1);have L4:=Ab (fun w' (hb:Below q w w')=>(l4 w' (hq▸hb)).2);have HM:=Ab hm;have HML:=Ab hml;have HQ:=Ab hq;have HW0:=Ab hW0;have HSS:=Ab hs;have HBL:=Ab hbl;have c60:=(hv.kept (hb0.block b (by rw[hq];exact hbl))).c6;obtain⟨p1,rfl⟩:=r1.ptr;obtain⟨p2,rfl⟩:=r2.ptr;obtain⟨p3,rfl⟩:=r3.ptr;obtain⟨p4,rfl⟩:=r4.ptr;obtain⟨E,hE⟩:∃E,E=Fe F d w:=⟨_,rfl⟩
 rw[<- hE];have HE:=Ab hE;clear hE;rw[<- Aa HQ];rw[hW0] at c60;have c6:=c60;clear h hk hs hm hT r1 r2 r3 r4 l1 l2 l3 l4 hv hbl hml hb0 hs0 hq0 hq hW0 c60
 go_enter func115,ntmps115
 go_wp2_with (first|(at_lookup;refine EH rfl _ _ 109 false rfl _ _ _ rfl rfl (Aa L1 _ (Aa HW0▸Aa HB0)) ?_))
 rw[<- Aa HW0,<- Aa HQ];have HQW:=Ab (show q<=W0.heap.size by have:=Aa HS0;omega);refine (Aa HP1).mono ?_;rintro e W1 ⟨hn1,hb1⟩;have HB1:=Ab ((Aa HB0).trans (hb1.mono (Aa HQW)));have hq1:OpB W1 q 0 none 0 0 none 0 0 none:=(hb1.block q (by have:=Aa HS0;omega)).trans (Aa HQ0);have HS1:=Ab hb1.size;cases hpp:Sp.BZ (Sp.AK d Sp.BE) with
 | none =>
  rw[hpp] at hn1;obtain rfl:e = .returned (.tuple #[.slice none 0 0,.bool false]):=hn1;have g0:=hq1.c0;have g1:=hq1.c1;have g2:=hq1.c2;have g3:=hq1.c3;have z:=hq1.fz;have HIT:=Ab (show Sp.CF d=none by unfold Sp.CF;rw[hpp]);clear hb1 hq1 hpp c6
  go_wp2_with (fail);refine bodyPost_ret (v:=.tuple #[opV 0 none 0 0 none 0 0 none,.bool false]) (by simp[results,results115,go_sem,g0,g1,g2,g3]) rfl ?_
  refine⟨?_,FY (Aa HB1) (Nat.le_refl _) _ _ _ _⟩;rw[Aa HE,Fe,Aa HIT]
 | some p =>
  rw[hpp] at hn1;obtain⟨u,rfl,ht1,hg1⟩:=hn1;have HTK1:=Ab (Oy ht1 (G:=fun k=>W0.heap.size<=k) hg1);obtain⟨pa,pl,pc,rfl⟩:=Fa (Aa HTK1);have c61:=((Aa HV).kept ((Aa HB1).block b (by have:=Aa HBL;have:=Aa HQ;omega))).c6;have hT1:Af W1:=(Aa HT0).below (hb1.mono (Aa HT0).ng);have HT1:=Ab hT1;have HQ1:=Ab hq1;have HP2:=Ab (ON ((Aa R2).bel (Aa HQ▸Aa HB1)) (fun s' hs'=>Aa HSS _ s' hs') hT1);have HPP:=Ab hpp;clear ht1 hg1 hpp c6 hb1 hq1 hT1
  go_wp2_with (first|(at_lookup;refine EH rfl _ _ 109 false rfl _ _ _ rfl rfl (Aa L2 _ (Aa HB1)) ?_))
  refine (Aa HP2).mono ?_;rintro e W2 ⟨hn2,hb2⟩;obtain⟨fa,fl,fc,rfl,hfr⟩:∃fa fl fc,e = .returned (.tuple #[.slice fa fl fc,.bool (Sp.BZ (Sp.AK d Sp.Dz)).isSome]) /\ ∀t,Sp.BZ (Sp.AK d Sp.Dz)=some t->AM W2 (fun k=>W1.heap.size<=k) (.slice fa fl fc) t:=by
   cases hf2:Sp.BZ (Sp.AK d Sp.Dz) with
   | none =>
    rw[hf2] at hn2;exact⟨none,0,0,hn2,fun t h=>by cases h⟩
   | some t2 =>
    rw[hf2] at hn2;obtain⟨u,rfl,ht2,hg2⟩:=hn2;have htk2:=Oy ht2 (G:=fun k=>W1.heap.size<=k) hg2;obtain⟨fa,fl,fc,rfl⟩:=Fa htk2;exact⟨fa,fl,fc,rfl,fun t h=>by injection h with h;subst h;exact htk2⟩
  have HFR:=Ab hfr;have hb12:q<=W1.heap.size:=Nat.le_trans (Aa HQW) (Aa HS1);have HB2:=Ab ((Aa HB1).trans (hb2.mono hb12));have HB12:=Ab hb2;have c62:=((Aa HV).kept ((Aa HB2).block b (by have:=Aa HBL;have:=Aa HQ;omega))).c6;have HM2:=Hs (Aa HM) ((Aa HB2).block m (by have:=Aa HML;have:=Aa HQ;omega));have HC4:=Ab (OE ((Aa R4).bel (Aa HQ▸Aa HB2)));have HQ2:=Ab (show OpB W2 q 0 none 0 0 none 0 0 none from (hb2.block q (by have:=Aa HS1;have:=Aa HS0;omega)).trans (Aa HQ1));obtain⟨bf,hbf⟩:∃bf,bf=(Sp.BZ (Sp.AK d Sp.Dz)).isSome:=⟨_,rfl⟩
  obtain⟨bv,hbv⟩:∃bv,bv=(Sp.AK d Sp.Bg).isSome:=⟨_,rfl⟩
  obtain⟨nm,hnm⟩:∃nm,nm=(Sp.Cc (Sp.AK d Sp.op_)).getD []:=⟨_,rfl⟩
  have hnl:nm.length<=1048576:=by
   rw[hnm];cases h:Sp.Cc (Sp.AK d Sp.op_) with
   | none=>simp
   | some s'=>exact Aa HSS _ s' h
  have HF:=Ab (Ur HM2 (x:=(nm,bv,bf)) hnl);rw[Sp.findOf_kind] at HF;unfold nv at HF;simp only at HF;unfold Px at HC4;rw[<- hnm] at HC4;obtain⟨b4,hb4⟩:∃b4,b4=(Sp.Cc (Sp.AK d Sp.op_)).isSome:=⟨_,rfl⟩
  rw[<- hb4] at HC4;rw[<- hbf];have L3':=Ab (Aa L3 _ (Aa HB2));rw[<- hbv] at L3';have HBF:=Ab hbf;have HBV:=Ab hbv;have HNM:=Ab hnm;clear hn2 hfr hb2 hb12 HM2 hbf hbv hnm hnl hb4 c61
  go_wp2_with (first|(at_lookup;refine EH rfl _ _ 109 true rfl _ _ _ rfl rfl (Aa L3') ?_)|(at_lookup;refine EH rfl _ _ 109 false rfl _ _ _ rfl rfl (Aa L4 _ (Aa HB2)) ?_))
  refine (Aa HC4).mono ?_;rintro e W2' ⟨rfl,rfl⟩
  go_wp2_with (fail);refine (Aa HF).mono ?_
  rintro e W3 ⟨rfl,hb3⟩;have hq3:OpB W3 q 0 none 0 0 none 0 0 none:=(hb3.block q (Aa HQ2).lt).trans (Aa HQ2);have HB3:=Ab ((Aa HB2).trans (hb3.mono (Nat.le_trans (Nat.le_trans (Aa HQW) (Aa HS1)) (Aa HB12).size)));have HB23:=Ab hb3;have g0:=hq3.c0;have g1:=hq3.c1;have g2:=hq3.c2;have g3:=hq3.c3;have z:=hq3.fz;clear hq3 hb3 HF HC4;unfold Ma;cases hkk:Sp.Gg nm bv bf with
  | none =>
   simp only[Option.getD_none,Option.isSome_none];have HIT:=Ab (show Sp.CF d=none by unfold Sp.CF;rw[Aa HPP];simp only;rw[<- Aa HBF,<- Aa HBV,<- Aa HNM,hkk]);clear hkk
   go_wp2_with (fail);refine bodyPost_ret (v:=.tuple #[opV 0 none 0 0 none 0 0 none,.bool false]) (by simp[results,results115,go_sem,g0,g1,g2,g3]) rfl ?_
   refine⟨?_,FY (Aa HB3) (Nat.le_refl _) _ _ _ _⟩;rw[Aa HE,Fe,Aa HIT]
  | some k =>
   simp only[Option.getD_some,Option.isSome_some];have HIT:=Ab (show Sp.CF d=some (k,p,(Sp.BZ (Sp.AK d Sp.Dz)).getD [],(Sp.AK d Sp.Bg).getD .nil) by unfold Sp.CF;rw[Aa HPP];simp only;rw[<- Aa HBF,<- Aa HBV,<- Aa HNM,hkk]);have HKK:=Ab hkk;clear hkk
   go_wp2_with (fail);refine bodyPost_ret (v:=.tuple #[opV k pa pl pc fa fl fc p3,.bool true]) (by simp[results,results115,go_sem,g0,g1,g2,g3]) rfl ?_
   refine⟨?_,FY (Aa HB3) (Nat.le_refl _) _ _ _ _⟩;rw[Aa HE,Fe,Aa HIT];obtain⟨k1,k2,k3⟩:=Ht (Aa HKK);have hs0:=Aa HS0;have hs1:=Aa HS1;have hs2:=(Aa HB12).size;have hQ:=Aa HQ;have hfin:∀j,j<W3.heap.size->j≠q -> ∀a b c d',(((((W3.setCell ⟨q,0,none⟩ a).setCell ⟨q,1,none⟩ b).setCell ⟨q,2,none⟩ c).setCell ⟨q,3,none⟩ d').heap[j]? = W3.heap[j]?):=fun j _ hj a b c d'=>N0 a b c d' j hj;refine⟨pa,pl,pc,fa,fl,fc,p3,rfl,k1,?_,fun h3=>?_,fun h3=>?_⟩
   ·refine ((Aa HTK1).move (w':=W3) (G':=fun j=>W0.heap.size<=j) fun j hj hjl=>⟨?_,hj⟩).move fun j hj hjl=>⟨hfin j hjl (by omega) _ _ _ _,Or.inr (by omega)⟩
    exact ((Aa HB23).block j (by omega)).trans ((Aa HB12).block j hjl)
   ·have h4:=k3 h3;cases hq:Sp.BZ (Sp.AK d Sp.Dz) with
    | none=>have h5:=Aa HBF;rw[hq,h4] at h5;cases h5
    | some t2 =>
     refine ((Aa HFR t2 hq).move (w':=W3) (G':=fun j=>W1.heap.size<=j) fun j hj hjl=>⟨(Aa HB23).block j hjl,hj⟩).move fun j hj hjl=>⟨hfin j hjl (by omega) _ _ _ _,Or.inr (by omega)⟩
   ·have h4:=k2 h3;cases hq:Sp.AK d Sp.Bg with
    | none=>have h5:=Aa HBV;rw[hq,h4] at h5;cases h5
    | some y =>
     have h6:=Aa R3;rw[hq] at h6;have h7:Rep top F w (.pointer p3) y:=Rep.up h6 hf;exact h7.move fun j hj hjl=>⟨(hfin j (by have:=(Aa HB3).size;omega) (by omega) _ _ _ _).trans ((Aa HB3).block j (by omega)),Or.inl ⟨hj,by omega⟩⟩
end
end
end Go.Proofs.YtdpomdelmdofmaaGreatDoor
