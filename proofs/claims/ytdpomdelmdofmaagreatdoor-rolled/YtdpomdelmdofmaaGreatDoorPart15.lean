/-
  Plain facts on the functions of Sp: a string's canonical text reads as the string.
-/
import Derived.Test.YtdpomdelmdofmaaGreatDoorPart14
namespace Go.Proofs.YtdpomdelmdofmaaGreatDoor
def Sp.Sc (c:Nat):Prop:=c < 55296 ∨ (57344 ≤ c ∧ c ≤ 1114111)
abbrev Sp.encN (c:Nat):Sp.By:=Lib.encodeRune (c:Int)
def Sp.Ut (s:Sp.By):Prop:=∃ cs:List Nat,(∀ c ∈ cs,Sp.Sc c) ∧ s = cs.flatMap Sp.encN
theorem scal_sc {l r:Sp.By} {m:Nat} (h:Sp.scal l = some (m,r)):Sp.Sc m:=by
 unfold Sp.scal at h
 split at h
 ·cases h
 ·rename_i a r1 hx
  have h2:=hexs4 hx
  unfold Sp.Sc
  split at h
  ·injection h with h; injection h with h1 h2; omega
  ·split at h
   ·cases h
   ·split at h
    ·split at h
     ·split at h
      ·cases h
      ·rename_i b r2 hy
       have h3:=hexs4 hy
       split at h
       ·cases h
       ·injection h with h; injection h with h1 h2; omega
     ·cases h
    ·cases h
theorem escIn_sc (l:Sp.By) (T:List (UInt8 × Nat)) (hT:∀ x ∈ T,x.2 < 55296) {m:Nat} {r:Sp.By} (h:Sp.escIn l T = some (m,r)):Sp.Sc m:=by
 induction T with
 | nil=>cases h
 | cons x T ih =>
  obtain ⟨c,n⟩:=x
  rw [Sp.escIn] at h
  split at h
  ·injection h with h; injection h with h1 h2
   have:=hT (c,n) (by simp)
   exact Or.inl (by simp only at this; omega)
  ·exact ih (fun x hx=>hT x (by simp [hx])) h
theorem dec_list (l:Sp.By) (h:l ≠ []):Sp.dec l = Lib.decodeN l.length (l.getD 0 0).toNat (l.getD 1 0).toNat (l.getD 2 0).toNat (l.getD 3 0).toNat:=by
 unfold Sp.dec
 rw [if_neg (by simpa using h),Lib.decode_at]
 have hg:∀ i,(ByteArray.mk l.toArray).get! i = l.getD i 0:=by
  intro i
  simp [ByteArray.get!,List.getD,Array.getElem!_eq_getD,Array.getD]
  split
  ·rename_i hi; rw [List.getElem?_eq_getElem hi]; rfl
  ·rename_i hi; rw [List.getElem?_eq_none (by omega)]; rfl
 rw [hg,hg,hg,hg]
 rfl
theorem decN_sc (n a b c d:Nat):Sp.Sc (Lib.decodeN n a b c d).1:=by
 unfold Lib.decodeN Sp.Sc
 repeat' split
 all_goals simp only
 all_goals omega
theorem dec_sc (l:Sp.By):Sp.Sc (Sp.dec l).1:=by
 by_cases h:l = []
 ·subst h; exact Or.inr ⟨by decide,by decide⟩
 ·rw [dec_list l h]
  exact decN_sc _ _ _ _ _
theorem chr_sc {l:Sp.By} {m:Nat} {r:Sp.By} (h:Sp.chr l = some (m,r)):Sp.Sc m:=by
 unfold Sp.chr at h
 split at h
 ·unfold Sp.esc at h
  split at h
  ·exact scal_sc h
  ·exact escIn_sc _ Sp.escT (by decide) h
 ·split at h
  ·cases h
  ·injection h with h; injection h with h1 h2; rw [← h1]; exact dec_sc l
theorem chrs_ut (f:Nat):∀ (l s r:Sp.By),Sp.chrs f l = some (s,r) → Sp.Ut s:=by
 induction f with
 | zero=>intro l s r h; cases h
 | succ f ih =>
  intro l s r h
  unfold Sp.chrs at h
  split at h
  ·injection h with h; injection h with h1 h2; subst h1; exact ⟨[],by simp,rfl⟩
  ·split at h
   ·cases h
   ·rename_i c r1 hc
    split at h
    ·cases h
    ·rename_i s1 r2 hx
     obtain ⟨cs,h1,h2⟩:=ih _ _ _ hx
     injection h with h; injection h with h3 h4
     subst h3
     exact ⟨c :: cs,by
      intro x hm
      rcases List.mem_cons.1 hm with rfl | hm
      ·exact chr_sc hc
      ·exact h1 x hm,by rw [h2]; rfl⟩
theorem quo_ut {l s r:Sp.By} (h:Sp.quo l = some (s,r)):Sp.Ut s:=by
 unfold Sp.quo at h
 split at h
 ·exact chrs_ut _ _ _ _ h
 ·cases h
theorem escS_app (a b:Sp.By):Sp.escS (a ++ b) = Sp.escS a ++ Sp.escS b:=by
 induction a with
 | nil=>rfl
 | cons c r ih=>simp [Sp.escS,ih]
theorem hexd_hexc:∀ n:Fin 16,Sp.hexd (Sp.hexc n.val).toNat = some n.val:=by decide
theorem pk_cons (c:UInt8) (l:Sp.By):Sp.pk (c :: l) = c.toNat:=rfl
theorem hexs_two (a b:Nat) (ha:a < 16) (hb:b < 16) (l:Sp.By):Sp.hexs 4 0 (48 :: 48 :: Sp.hexc a :: Sp.hexc b :: l) = some (a * 16 + b,l):=by
 have h0:Sp.hexd 48 = some 0:=by decide
 have e1:=hexd_hexc ⟨a,ha⟩
 have e2:=hexd_hexc ⟨b,hb⟩
 simp only at e1 e2
 simp only [Sp.hexs,pk_cons,List.tail_cons,e1,e2,show (48:UInt8).toNat = 48 from rfl,h0]
 simp
theorem escS_high (l:Sp.By) (h:∀ x ∈ l,128 ≤ x.toNat):Sp.escS l = l:=by
 induction l with
 | nil=>rfl
 | cons c r ih =>
  have hc:=h c (by simp)
  rw [Sp.escS,ih (fun x hx=>h x (by simp [hx]))]
  unfold Sp.escB
  rw [if_neg (by omega),if_neg (by omega)]
  rfl
theorem enc_one (c:Nat) (h:c < 128):Lib.encodeRune (c:Int) = [UInt8.ofNat c]:=by
 rw [Lib.encodeRune,Lib.encodeRuneZ_one (by omega) (by omega)]
 simp
theorem enc_high (c:Nat) (h:128 ≤ c) (hc:Sp.Sc c) (l:Sp.By):(∀ x ∈ Lib.encodeRune (c:Int),128 ≤ x.toNat) ∧ Sp.dec (Lib.encodeRune (c:Int) ++ l) = (c,(Lib.encodeRune (c:Int)).length) ∧ 2 ≤ (Lib.encodeRune (c:Int)).length:=by
 unfold Sp.Sc at hc
 have hn:∀ z:Int,0 ≤ z → z < 256 → (z.toNat.toUInt8).toNat = z.toNat:=by
  intro z h0 h1
  simp
  omega
 by_cases h2:c ≤ 2047
 ·rw [Lib.encodeRune,Lib.encodeRuneZ_two (by omega) (by omega)]
  have a1:=hn (192 + (c:Int) / 64) (by omega) (by omega)
  have a2:=hn (128 + (c:Int) % 64) (by omega) (by omega)
  refine ⟨?_,?_,by simp⟩
  ·intro x hx
   simp only [List.map_cons,List.map_nil,List.mem_cons,List.not_mem_nil,or_false] at hx
   rcases hx with rfl | rfl
   ·rw [a1]; omega
   ·rw [a2]; omega
  ·rw [dec_list _ (by simp)]
   simp only [List.map_cons,List.map_nil,List.cons_append,List.nil_append,List.getD_cons_zero,List.getD_cons_succ,a1,a2,List.length_cons,List.length_nil]
   unfold Lib.decodeN
   repeat' split
   all_goals first | (exfalso; omega) | (apply Prod.ext <;> simp only <;> omega)
 ·by_cases h3:c ≤ 65535
  ·rw [Lib.encodeRune,Lib.encodeRuneZ_three (by omega)]
   have a1:=hn (224 + (c:Int) / 4096) (by omega) (by omega)
   have a2:=hn (128 + (c:Int) / 64 % 64) (by omega) (by omega)
   have a3:=hn (128 + (c:Int) % 64) (by omega) (by omega)
   refine ⟨?_,?_,by simp⟩
   ·intro x hx
    simp only [List.map_cons,List.map_nil,List.mem_cons,List.not_mem_nil,or_false] at hx
    rcases hx with rfl | rfl | rfl
    ·rw [a1]; omega
    ·rw [a2]; omega
    ·rw [a3]; omega
   ·rw [dec_list _ (by simp)]
    simp only [List.map_cons,List.map_nil,List.cons_append,List.nil_append,List.getD_cons_zero,List.getD_cons_succ,a1,a2,a3,List.length_cons,List.length_nil]
    unfold Lib.decodeN
    repeat' split
    all_goals first | (exfalso; omega) | (apply Prod.ext <;> simp only <;> omega)
  ·rw [Lib.encodeRune,Lib.encodeRuneZ_four (by omega) (by omega)]
   have a1:=hn (240 + (c:Int) / 262144) (by omega) (by omega)
   have a2:=hn (128 + (c:Int) / 4096 % 64) (by omega) (by omega)
   have a3:=hn (128 + (c:Int) / 64 % 64) (by omega) (by omega)
   have a4:=hn (128 + (c:Int) % 64) (by omega) (by omega)
   refine ⟨?_,?_,by simp⟩
   ·intro x hx
    simp only [List.map_cons,List.map_nil,List.mem_cons,List.not_mem_nil,or_false] at hx
    rcases hx with rfl | rfl | rfl | rfl
    ·rw [a1]; omega
    ·rw [a2]; omega
    ·rw [a3]; omega
    ·rw [a4]; omega
   ·rw [dec_list _ (by simp)]
    simp only [List.map_cons,List.map_nil,List.cons_append,List.nil_append,List.getD_cons_zero,List.getD_cons_succ,a1,a2,a3,a4,List.length_cons,List.length_nil]
    unfold Lib.decodeN
    repeat' split
    all_goals first | (exfalso; omega) | (apply Prod.ext <;> simp only <;> omega)
theorem tk_hd (c d:UInt8) (l:Sp.By):Sp.tk (c :: l) d = (c == d):=rfl
theorem chr_esc (c:Nat) (hc:Sp.Sc c) (l:Sp.By):Sp.chr (Sp.escS (Lib.encodeRune (c:Int)) ++ l) = some (c,l) ∧ Sp.tk (Sp.escS (Lib.encodeRune (c:Int)) ++ l) 34 = false:=by
 by_cases h:c < 128
 ·rw [enc_one c h]
  have e:(UInt8.ofNat c).toNat = c:=by simp; omega
  simp only [Sp.escS,List.append_nil]
  unfold Sp.escB
  rw [e]
  by_cases h1:c = 34 ∨ c = 92
  ·rw [if_pos h1]
   rcases h1 with rfl | rfl
   ·exact ⟨rfl,rfl⟩
   ·exact ⟨rfl,rfl⟩
  ·rw [if_neg h1]
   by_cases h2:c < 32
   ·rw [if_pos h2]
    refine ⟨?_,rfl⟩
    simp only [List.cons_append,List.nil_append]
    unfold Sp.chr
    rw [if_pos (show Sp.tk (92 :: _) 92 = true from rfl),List.tail_cons]
    unfold Sp.esc
    rw [if_pos (show Sp.tk (117 :: _) 117 = true from rfl),List.tail_cons]
    unfold Sp.scal
    rw [hexs_two _ _ (by omega) (by omega)]
    simp only
    rw [if_pos (by omega),show c / 16 * 16 + c % 16 = c by omega]
   ·rw [if_neg h2]
    have k34:(UInt8.ofNat c == 34) = false:=by
     rw [beq_eq_false_iff_ne]; intro k; have:=congrArg UInt8.toNat k; rw [e] at this; simp at this; omega
    have k92:(UInt8.ofNat c == 92) = false:=by
     rw [beq_eq_false_iff_ne]; intro k; have:=congrArg UInt8.toNat k; rw [e] at this; simp at this; omega
    simp only [List.cons_append,List.nil_append,tk_hd]
    refine ⟨?_,k34⟩
    unfold Sp.chr
    rw [tk_hd,if_neg (by rw [k92]; decide)]
    have hd:Sp.dec (UInt8.ofNat c :: l) = (c,1):=by
     rw [dec_list _ (by simp),List.getD_cons_zero,e]
     unfold Lib.decodeN
     repeat' split
     all_goals first | (exfalso; simp at *; omega) | rfl
    rw [hd,if_neg (by simp only; omega)]
    rfl
 ·obtain ⟨h1,h2,h3⟩:=enc_high c (by omega) hc l
  rw [escS_high _ h1]
  generalize hx:Lib.encodeRune (c:Int) = e at *
  match e,h3 with
  | a :: b :: t,_ =>
   have ha:=h1 a (by simp)
   have k34:(a == 34) = false:=by
    rw [beq_eq_false_iff_ne]; rintro rfl; simp at ha
   have k92:(a == 92) = false:=by
    rw [beq_eq_false_iff_ne]; rintro rfl; simp at ha
   refine ⟨?_,k34⟩
   unfold Sp.chr
   rw [show Sp.tk (a :: b :: t ++ l) 92 = false from k92,if_neg (by decide),h2,if_neg (by simp only [List.length_cons]; omega)]
   simp
theorem chrs_esc:∀ (cs:List Nat),(∀ c ∈ cs,Sp.Sc c) → ∀ (f:Nat) (l:Sp.By),cs.length < f → Sp.chrs f (Sp.escS (cs.flatMap Sp.encN) ++ 34 :: l) = some (cs.flatMap Sp.encN,l):=by
 intro cs
 induction cs with
 | nil =>
  intro _ f l hf
  match f,hf with
  | f + 1,_=>rfl
 | cons c cs ih =>
  intro h f l hf
  match f,hf with
  | f + 1,hf =>
   obtain ⟨h1,h2⟩:=chr_esc c (h c (by simp)) (Sp.escS (cs.flatMap Sp.encN) ++ 34 :: l)
   rw [List.flatMap_cons,escS_app,List.append_assoc]
   unfold Sp.chrs
   rw [h2,if_neg (by decide),h1]
   simp only
   rw [ih (fun c hc=>h c (by simp [hc])) f l (by simp at hf; omega)]
theorem escB_pos (a:UInt8):1 ≤ (Sp.escB a).length:=by
 unfold Sp.escB
 split
 ·simp
 ·split
  ·simp
  ·simp
theorem quo_quoT {s:Sp.By} (h:Sp.Ut s) (l:Sp.By):Sp.quo (Sp.quoT s ++ l) = some (s,l):=by
 obtain ⟨cs,h1,rfl⟩:=h
 unfold Sp.quo Sp.quoT
 simp only [List.cons_append,List.append_assoc,List.nil_append,List.tail_cons]
 rw [if_pos (show Sp.tk (34 :: _) 34 = true from rfl)]
 apply chrs_esc _ h1
 have hlen:∀ cs:List Nat,cs.length ≤ (Sp.escS (cs.flatMap Sp.encN)).length:=by
  intro cs
  induction cs with
  | nil=>simp
  | cons c cs ih =>
   rw [List.flatMap_cons,escS_app,List.length_append,List.length_cons]
   have:1 ≤ (Sp.escS (Sp.encN c)).length:=by
    unfold Sp.encN
    have h2:=(Lib.encodeRuneZ_length (c:Int)).1
    have h3:(Lib.encodeRune (c:Int)).length = (Lib.encodeRuneZ (c:Int)).length:=by simp [Lib.encodeRune]
    match hx:Lib.encodeRune (c:Int) with
    | []=>rw [hx] at h3; simp at h3; omega
    | a :: t =>
     rw [Sp.escS,List.length_append]
     have:=escB_pos a
     omega
   omega
 have:=hlen cs
 simp
 omega
end Go.Proofs.YtdpomdelmdofmaaGreatDoor

namespace Go.Proofs.YtdpomdelmdofmaaGreatDoor
def Sp.Gn (n:Sp.Nm):Prop:=n = (false,[],0) ∨ (n.2.1 ≠ [] ∧ (∀ c ∈ n.2.1,Sp.isD c = true) ∧ n.2.1.head? ≠ some 48 ∧ n.2.1.getLast? ≠ some 48)
def Sp.Nd (r:Sp.By):Prop:=∀ c t,r = c :: t → Sp.isD c = false ∧ c ≠ 46 ∧ c ≠ 101 ∧ c ≠ 69
theorem dg_isD (l:Sp.By):∀ c ∈ Sp.dg l,Sp.isD c = true:=by
 induction l with
 | nil=>intro c h; cases h
 | cons d r ih =>
  intro c h
  unfold Sp.dg at h
  split at h
  ·rename_i hd
   rcases List.mem_cons.1 h with rfl | h
   ·exact hd
   ·exact ih c h
  ·cases h
theorem trim_good (ds:Sp.By) (hd:∀ c ∈ ds,Sp.isD c = true) (hw:Lib.trimRightB (Lib.trimLeftB ds 48) 48 ≠ []) :
  (∀ c ∈ Lib.trimRightB (Lib.trimLeftB ds 48) 48,Sp.isD c = true) ∧ (Lib.trimRightB (Lib.trimLeftB ds 48) 48).head? ≠ some 48 ∧ (Lib.trimRightB (Lib.trimLeftB ds 48) 48).getLast? ≠ some 48:=by
 have hsub:∀ c ∈ Lib.trimLeftB ds 48,c ∈ ds:=fun c h=>(List.dropWhile_sublist _).subset h
 have hpre:Lib.trimRightB (Lib.trimLeftB ds 48) 48 <+: Lib.trimLeftB ds 48:=by
  unfold Lib.trimRightB
  have:=List.dropWhile_suffix (l:=(Lib.trimLeftB ds 48).reverse) (· == 48)
  have h2:=List.reverse_prefix.2 this
  rwa [List.reverse_reverse] at h2
 refine ⟨fun c h=>hd c (hsub c (hpre.subset h)),?_,?_⟩
 ·have h1:(Lib.trimRightB (Lib.trimLeftB ds 48) 48).head? = (Lib.trimLeftB ds 48).head?:=by
   obtain ⟨t,ht⟩:=hpre
   have hgen:∀ (A B:Sp.By),A ≠ [] → A.head? = (A ++ B).head?:=by
    intro A B hA
    cases A with
    | nil=>exact absurd rfl hA
    | cons a b=>rfl
   exact (hgen _ t hw).trans (congrArg List.head? ht)
  rw [h1]
  have:=List.head?_dropWhile_not (· == (48:UInt8)) ds
  intro k
  unfold Lib.trimLeftB at k
  rw [k] at this
  simp at this
 ·intro k
  unfold Lib.trimRightB at k
  rw [List.getLast?_reverse] at k
  have:=List.head?_dropWhile_not (· == (48:UInt8)) (Lib.trimLeftB ds 48).reverse
  rw [k] at this
  simp at this
theorem mkNm_good (ng:Bool) (ds:Sp.By) (e:Int) (hd:∀ c ∈ ds,Sp.isD c = true):Sp.Gn (Sp.mkNm ng ds e):=by
 unfold Sp.mkNm
 simp only
 split
 ·exact Or.inl rfl
 ·rename_i hw
  exact Or.inr ⟨hw,trim_good ds hd hw⟩
theorem numB_good {ng:Bool} {l r:Sp.By} {n:Sp.Nm} (h:Sp.numB ng l = some (n,r)):Sp.Gn n:=by
 unfold Sp.numB at h
 split at h
 ·cases h
 ·split at h
  ·cases h
  ·rename_i f r1 hf
   split at h
   ·cases h
   ·injection h with h; injection h with h1 h2
    rw [← h1]
    apply mkNm_good
    intro c hc
    rcases List.mem_append.1 hc with hc | hc
    ·exact dg_isD _ c hc
    ·unfold Sp.frac at hf
     split at hf
     ·split at hf
      ·cases hf
      ·injection hf with hf; injection hf with h3 h4; rw [← h3] at hc; exact dg_isD _ c hc
     ·injection hf with hf; injection hf with h3 h4; rw [← h3] at hc; cases hc
theorem num_good {l r:Sp.By} {n:Sp.Nm} (h:Sp.num l = some (n,r)):Sp.Gn n:=by
 unfold Sp.num at h
 split at h
 ·exact numB_good h
 ·exact numB_good h
theorem dg_app (ds T:Sp.By) (hd:∀ c ∈ ds,Sp.isD c = true) (hT:∀ c t,T = c :: t → Sp.isD c = false):Sp.dg (ds ++ T) = ds ∧ Sp.dgR (ds ++ T) = T:=by
 induction ds with
 | nil =>
  cases T with
  | nil=>exact ⟨rfl,rfl⟩
  | cons c t =>
   have:=hT c t rfl
   simp [Sp.dg,Sp.dgR,this]
 | cons d ds ih =>
  obtain ⟨h1,h2⟩:=ih (fun c hc=>hd c (by simp [hc]))
  have h0:=hd d (by simp)
  simp [Sp.dg,Sp.dgR,h0,h1,h2]
theorem decD_all (u:Nat):∀ c ∈ Lib.decDigits u,Sp.isD c = true:=by
 induction u using Nat.strongRecOn with
 | ind u ih =>
  have hdig:∀ k,k < 10 → Sp.isD (UInt8.ofNat (48 + k)) = true:=by
   intro k hk
   have:(UInt8.ofNat (48 + k)).toNat = 48 + k:=by simp; omega
   unfold Sp.isD
   rw [this]; simp; omega
  rw [Lib.decDigits]
  split
  ·rename_i h
   intro c hc
   rw [List.mem_singleton] at hc
   rw [hc]; exact hdig u h
  ·intro c hc
   rcases List.mem_append.1 hc with hc | hc
   ·exact ih (u / 10) (by omega) c hc
   ·rw [List.mem_singleton] at hc
    rw [hc]; exact hdig _ (by omega)
theorem decD_ne (u:Nat):Lib.decDigits u ≠ []:=by
 rw [Lib.decDigits]
 split
 ·simp
 ·simp
theorem exNum_app (a b:Sp.By) (n:Int):Sp.exNum (a ++ b) n = Sp.exNum b (Sp.exNum a n):=by
 induction a generalizing n with
 | nil=>rfl
 | cons c r ih=>exact ih _
theorem exNum_dec (u:Nat) (hu:u ≤ 1000000):Sp.exNum (Lib.decDigits u) 0 = u:=by
 induction u using Nat.strongRecOn with
 | ind u ih =>
  have hdig:∀ k,k < 10 → (UInt8.ofNat (48 + k)).toNat = 48 + k:=by
   intro k hk
   simp; omega
  rw [Lib.decDigits]
  split
  ·rename_i h
   show min (10 * 0 + (((UInt8.ofNat (48 + u)).toNat:Int) - 48)) 1000000 = u
   rw [hdig u h]; omega
  ·rename_i h
   rw [exNum_app,ih (u / 10) (by omega) (by omega)]
   show min (10 * ((u / 10:Nat):Int) + (((UInt8.ofNat (48 + u % 10)).toNat:Int) - 48)) 1000000 = u
   rw [hdig _ (by omega)]; omega
theorem tk_app {ds:Sp.By} (hne:ds ≠ []) (T:Sp.By) (c:UInt8):Sp.tk (ds ++ T) c = Sp.tk ds c:=by
 cases ds with
 | nil=>exact absurd rfl hne
 | cons d r=>rfl
theorem tk_digit {ds:Sp.By} (hd:∀ c ∈ ds,Sp.isD c = true) (k:UInt8) (hk:Sp.isD k = false):Sp.tk ds k = false:=by
 cases ds with
 | nil=>rfl
 | cons d r =>
  rw [tk_hd,beq_eq_false_iff_ne]
  rintro rfl
  have:=hd d (by simp)
  rw [hk] at this; cases this
theorem expo_itoa (ex:Int) (hb:-1000000 ≤ ex ∧ ex ≤ 1000000) (r:Sp.By) (hr:Sp.Nd r):Sp.expo (101 :: (Lib.itoa ex ++ r)) = some (ex,r):=by
 have hT:∀ c t,r = c :: t → Sp.isD c = false:=fun c t e=>(hr c t e).1
 unfold Sp.expo
 rw [if_pos (by rfl),List.tail_cons]
 unfold Lib.itoa
 by_cases hn:ex < 0
 ·rw [if_pos hn,List.cons_append,if_pos (by rfl),List.tail_cons]
  obtain ⟨e1,e2⟩:=dg_app (Lib.decDigits ex.natAbs) r (decD_all _) hT
  rw [e1,e2,if_neg (decD_ne _),exNum_dec _ (by omega)]
  congr 2
  omega
 ·rw [if_neg hn]
  obtain ⟨e1,e2⟩:=dg_app (Lib.decDigits ex.toNat) r (decD_all _) hT
  rw [tk_app (decD_ne _),tk_app (decD_ne _),tk_digit (decD_all _) 45 (by decide),tk_digit (decD_all _) 43 (by decide),if_neg (by decide),if_neg (by decide),e1,e2,if_neg (decD_ne _),exNum_dec _ (by omega)]
  congr 2
  omega
theorem frac_none {T:Sp.By} (h:∀ c t,T = c :: t → c ≠ 46):Sp.frac T = some ([],T):=by
 unfold Sp.frac
 rw [if_neg]
 cases T with
 | nil=>decide
 | cons c t =>
  rw [tk_hd]
  simpa using h c t rfl
theorem expo_none {T:Sp.By} (h:Sp.Nd T):Sp.expo T = some (0,T):=by
 unfold Sp.expo
 rw [if_neg]
 cases T with
 | nil=>decide
 | cons c t =>
  obtain ⟨_,_,h3,h4⟩:=h c t rfl
  rw [tk_hd,tk_hd]
  simp [h3,h4]
theorem trim_id {ds:Sp.By} (h1:ds.head? ≠ some 48) (h2:ds.getLast? ≠ some 48):Lib.trimLeftB ds 48 = ds ∧ Lib.trimRightB ds 48 = ds:=by
 have hd:∀ l:Sp.By,l.head? ≠ some 48 → l.dropWhile (· == 48) = l:=by
  intro l hl
  cases l with
  | nil=>rfl
  | cons c t =>
   rw [List.dropWhile_cons,if_neg]
   intro k
   exact hl (by rw [List.head?_cons,eq_of_beq k])
 refine ⟨hd ds h1,?_⟩
 unfold Lib.trimRightB
 rw [hd ds.reverse (by rwa [List.head?_reverse]),List.reverse_reverse]
theorem numB_numT {ng:Bool} {ds:Sp.By} {ex:Int} (hne:ds ≠ []) (hd:∀ c ∈ ds,Sp.isD c = true) (h1:ds.head? ≠ some 48) (h2:ds.getLast? ≠ some 48) (hb:-1000000 ≤ ex ∧ ex ≤ 1000000) (r:Sp.By) (hr:Sp.Nd r) :
  Sp.numB ng (ds ++ ((if ex = 0 then [] else 101 :: Lib.itoa ex) ++ r)) = some ((ng,ds,ex),r):=by
 have hT:∀ c t,(if ex = 0 then [] else 101 :: Lib.itoa ex) ++ r = c :: t → Sp.isD c = false ∧ c ≠ 46:=by
  intro c t h
  split at h
  ·exact ⟨(hr c t h).1,(hr c t h).2.1⟩
  ·injection h with h3 h4
   rw [← h3]
   exact ⟨by decide,by decide⟩
 obtain ⟨e1,e2⟩:=dg_app ds _ hd (fun c t h=>(hT c t h).1)
 have hex:Sp.expo ((if ex = 0 then [] else 101 :: Lib.itoa ex) ++ r) = some (ex,r):=by
  by_cases h0:ex = 0
  ·rw [if_pos h0,List.nil_append,h0]; exact expo_none hr
  ·rw [if_neg h0]; exact expo_itoa ex hb r hr
 have hk:Sp.tk ds 48 = false:=by
  cases ds with
  | nil=>rfl
  | cons c t =>
   rw [tk_hd,beq_eq_false_iff_ne]
   rintro rfl
   exact h1 rfl
 unfold Sp.numB
 rw [e1,e2,tk_app hne,hk,if_neg (by simp [hne]),frac_none (fun c t h=>(hT c t h).2)]
 simp only
 rw [hex]
 simp only [List.append_nil,List.length_nil]
 obtain ⟨t1,t2⟩:=trim_id h1 h2
 unfold Sp.mkNm
 simp only [t1,t2]
 rw [if_neg hne]
 congr 4
 omega
theorem num_numT {n:Sp.Nm} (hg:Sp.Gn n) (hb:-1000000 ≤ n.2.2 ∧ n.2.2 ≤ 1000000) (r:Sp.By) (hr:Sp.Nd r):Sp.num (Sp.numT n ++ r) = some (n,r):=by
 rcases hg with rfl | ⟨hne,hd,h1,h2⟩
 ·unfold Sp.numT
  rw [if_pos rfl]
  unfold Sp.num
  rw [if_neg (by rw [List.cons_append,tk_hd]; decide)]
  obtain ⟨e1,e2⟩:=dg_app [48] r (by decide) (fun c t e=>(hr c t e).1)
  unfold Sp.numB
  rw [e1,e2,if_neg (by simp),frac_none (fun c t e=>(hr c t e).2.1)]
  simp only
  rw [expo_none hr]
  rfl
 ·obtain ⟨ng,ds,ex⟩:=n
  simp only at hne hd h1 h2 hb
  unfold Sp.numT
  rw [if_neg hne]
  simp only
  unfold Sp.num
  cases ng with
  | true =>
   simp only [if_pos,List.append_assoc,List.cons_append,List.nil_append]
   rw [if_pos (by rfl),List.tail_cons]
   exact numB_numT hne hd h1 h2 hb r hr
  | false =>
   simp only [Bool.false_eq_true,if_false,List.append_assoc,List.nil_append]
   rw [tk_app hne,tk_digit hd 45 (by decide),if_neg (by decide)]
   exact numB_numT hne hd h1 h2 hb r hr
end Go.Proofs.YtdpomdelmdofmaaGreatDoor

namespace Go.Proofs.YtdpomdelmdofmaaGreatDoor
open Go.Maps
def Sp.OkF (d x:Int) (fl:Sp.Fl):Prop:=fl.1 = false ∧ fl.2.1 ≤ d ∧ fl.2.2 ≤ x
def Sp.gd (d x:Int):Nat → Int → Sp.V → Prop
 | 0,_,_=>False
 | f + 1,lv,v=>lv ≤ d ∧ ((∃ k,k < 3 ∧ v = Sp.vWord k) ∨ (∃ s,Sp.Ut s ∧ v = Sp.vStr s) ∨ (∃ n,Sp.Gn n ∧ -x ≤ n.2.2 ∧ n.2.2 ≤ x ∧ v = Sp.vNum n) ∨
   (∃ es,(∀ e ∈ es,Sp.gd d x f (lv + 1) e) ∧ v = Sp.vArr es) ∨
   (∃ es,es.Pairwise (fun p q=>p.1.before q.1 = true) ∧ (∀ p ∈ es,(∃ s,p.1 = .string s ∧ Sp.Ut s) ∧ Sp.gd d x f (lv + 1) p.2) ∧ v = Sp.vObj es))
theorem insert_rising {x:Lit × Sp.V} {l:List (Lit × Sp.V)} (hx:∃ s,x.1 = .string s) (hs:∀ p ∈ l,∃ s,p.1 = .string s) (hne:∀ p ∈ l,p.1 ≠ x.1) (h:l.Pairwise (fun p q=>p.1.before q.1 = true)) :
  (DataW.insert x l).Pairwise (fun p q=>p.1.before q.1 = true):=by
 obtain ⟨s,hs0⟩:=hx
 induction l with
 | nil=>simp [DataW.insert]
 | cons y r ih =>
  rw [List.pairwise_cons] at h
  obtain ⟨h1,h2⟩:=h
  obtain ⟨t,ht⟩:=hs y (by simp)
  unfold DataW.insert
  split
  ·rename_i hb
   refine List.pairwise_cons.2 ⟨fun q hq=>?_,List.pairwise_cons.2 ⟨h1,h2⟩⟩
   rcases List.mem_cons.1 hq with rfl | hq
   ·exact hb
   ·obtain ⟨u,hu⟩:=hs q (by simp [hq])
    have h3:=h1 q hq
    rw [hs0,ht] at hb
    rw [ht,hu] at h3
    rw [hs0,hu]
    exact Go.WideShapes.bytes_trans _ _ _ hb h3
  ·rename_i hb
   refine List.pairwise_cons.2 ⟨fun q hq=>?_,ih (fun p hp=>hs p (by simp [hp])) (fun p hp=>hne p (by simp [hp])) h2⟩
   rcases List.mem_cons.1 ((Go.WideShapes.insert_perm _ _).mem_iff.1 hq) with rfl | hq
   ·rw [hs0,ht] at hb ⊢
    have hn:t ≠ s:=by
     rintro rfl
     exact hne y (by simp) (ht.trans hs0.symm)
    rcases WideAt.bytes_total t s hn with h3 | h3
    ·exact h3
    ·exact absurd h3 hb
   ·exact h1 q hq
theorem val_gd (d x:Int) (f:Nat):∀ (lv:Int) (l:Sp.By) (fl:Sp.Fl) (v:Sp.V) (r:Sp.By) (fl':Sp.Fl),Sp.val f lv l fl = some (v,r,fl') → Sp.OkF d x fl' → Sp.OkF d x fl ∧ Sp.gd d x f lv v:=by
 induction f with
 | zero=>intro lv l fl v r fl' h; cases h
 | succ f ih =>
  intro lv l fl v r fl' h hok
  have hbase:∀ {e:Int},Sp.OkF d x (fl.1,(max fl.2.1 lv,e)) → fl.2.2 ≤ e → Sp.OkF d x fl ∧ lv ≤ d:=by
   rintro e ⟨h1,h2,h3⟩ he
   simp only at h1 h2 h3
   exact ⟨⟨h1,by omega,by omega⟩,by omega⟩
  unfold Sp.val at h
  split at h
  ·split at h
   ·cases h
   ·rename_i r1 v1 fl1 h1
    obtain ⟨hI,_⟩:=lstAll_inv (σ:=Sp.V × Sp.Fl) (fun _ s=>Sp.OkF d x s.2 → Sp.OkF d x (fl.1,(max fl.2.1 lv,fl.2.2)) ∧ ∃ es,s.1 = Sp.vObj es ∧ es.Pairwise (fun p q=>p.1.before q.1 = true) ∧ (∀ p ∈ es,(∃ s,p.1 = .string s ∧ Sp.Ut s) ∧ Sp.gd d x f (lv + 1) p.2))
     (fun _ _ _ h _=>h) (by
      rintro a s a' s' hI hm hok2
      unfold Sp.memb at hm
      split at hm
      ·cases hm
      ·rename_i k l1 hq
       split at hm
       ·split at hm
        ·cases hm
        ·rename_i w r2 fl2 hv
         injection hm with hm; injection hm with h1 h2; subst h1; subst h2
         obtain ⟨k1,k2,k3⟩:=hok2
         simp only [Bool.or_eq_false_iff] at k1 k2 k3
         obtain ⟨hok3,hg⟩:=ih _ _ _ _ _ _ hv ⟨k1.1,k2,k3⟩
         obtain ⟨hb,es,e1,e2,e3⟩:=hI hok3
         refine ⟨hb,?_⟩
         have hno:=k1.2
         rw [e1] at hno ⊢
         have hno2:∀ p ∈ es,p.1.sameKey (.string k) = false:=by
          simpa [Sp.vObj,Maps.has] using hno
         have hfil:(es.filter fun p=>!p.1.sameKey (.string k)) = es:=List.filter_eq_self.2 fun p hp=>by rw [hno2 p hp]; rfl
         refine ⟨DataW.insert (.string k,w) es,by simp only [Sp.vObj,DataW.put,hfil],?_,?_⟩
         ·refine insert_rising ⟨k,rfl⟩ (fun p hp=>?_) (fun p hp=>?_) e2
          ·obtain ⟨⟨s,hs,_⟩,_⟩:=e3 p hp
           exact ⟨s,hs⟩
          ·intro e
           have:=hno2 p hp
           rw [e] at this
           simp [Lit.sameKey] at this
         ·intro p hp
          rcases List.mem_cons.1 ((Go.WideShapes.insert_perm _ _).mem_iff.1 hp) with rfl | hp
          ·exact ⟨⟨k,rfl,quo_ut hq⟩,hg⟩
          ·exact e3 p hp
       ·cases hm) (fun h=>⟨h,[],rfl,List.Pairwise.nil,by simp⟩) h1
    injection h with h; injection h with h2 h3; injection h3 with h3 h4; subst h2; subst h4
    obtain ⟨hb,es,e1,e2,e3⟩:=hI hok
    obtain ⟨b1,b2⟩:=hbase hb (Int.le_refl _)
    exact ⟨b1,b2,Or.inr (Or.inr (Or.inr (Or.inr ⟨es,e2,e3,e1⟩)))⟩
  ·split at h
   ·split at h
    ·cases h
    ·rename_i r1 es1 fl1 h1
     obtain ⟨hI,_⟩:=lstAll_inv (σ:=List Sp.V × Sp.Fl) (fun _ s=>Sp.OkF d x s.2 → Sp.OkF d x (fl.1,(max fl.2.1 lv,fl.2.2)) ∧ ∀ e ∈ s.1,Sp.gd d x f (lv + 1) e)
      (fun _ _ _ h _=>h) (by
       rintro a s a' s' hI hm hok2
       unfold Sp.elem at hm
       split at hm
       ·cases hm
       ·rename_i w r2 fl2 hv
        injection hm with hm; injection hm with h1 h2; subst h1; subst h2
        obtain ⟨hok3,hg⟩:=ih _ _ _ _ _ _ hv hok2
        obtain ⟨hb,hall⟩:=hI hok3
        refine ⟨hb,fun e he=>?_⟩
        rcases List.mem_append.1 he with he | he
        ·exact hall e he
        ·rw [List.mem_singleton] at he; subst he; exact hg) (fun h=>⟨h,by simp⟩) h1
     injection h with h; injection h with h2 h3; injection h3 with h3 h4; subst h2; subst h4
     obtain ⟨hb,hall⟩:=hI hok
     obtain ⟨b1,b2⟩:=hbase hb (Int.le_refl _)
     exact ⟨b1,b2,Or.inr (Or.inr (Or.inr (Or.inl ⟨es1,hall,rfl⟩)))⟩
   ·split at h
    ·split at h
     ·cases h
     ·rename_i s r1 h1
      injection h with h; injection h with h2 h3; injection h3 with h3 h4; subst h2; subst h4
      obtain ⟨b1,b2⟩:=hbase hok (Int.le_refl _)
      exact ⟨b1,b2,Or.inr (Or.inl ⟨s,quo_ut h1,rfl⟩)⟩
    ·split at h
     ·split at h
      ·cases h
      ·rename_i n r1 h1
       injection h with h; injection h with h2 h3; injection h3 with h3 h4; subst h2; subst h4
       obtain ⟨b1,b2⟩:=hbase hok (by omega)
       have h5:max (max fl.2.2 n.2.2) (-n.2.2) ≤ x:=hok.2.2
       exact ⟨b1,b2,Or.inr (Or.inr (Or.inl ⟨n,num_good h1,by omega,by omega,rfl⟩))⟩
     ·split at h
      ·cases h
      ·rename_i k r1 h1
       injection h with h; injection h with h2 h3; injection h3 with h3 h4; subst h2; subst h4
       obtain ⟨b1,b2⟩:=hbase hok (Int.le_refl _)
       refine ⟨b1,b2,Or.inl ⟨k,?_,rfl⟩⟩
       have hk:∀ (ws:List Sp.By) (k0:Nat),Sp.wordIn l k0 ws = some (k,r1) → k < k0 + ws.length:=by
        intro ws
        induction ws with
        | nil=>intro k0 h; cases h
        | cons w ws ihw =>
         intro k0 h
         unfold Sp.wordIn at h
         split at h
         ·injection h with h; injection h with h1 h2; simp; omega
         ·have:=ihw _ h
          simp; omega
       simpa [Sp.words] using hk _ _ h1
end Go.Proofs.YtdpomdelmdofmaaGreatDoor

namespace Go.Proofs.YtdpomdelmdofmaaGreatDoor
open Go.Maps
def Sp.Hd (l:Sp.By):Prop:=∃ c t,l = c :: t ∧ Sp.isB c = false ∧ c ≠ 93 ∧ c ≠ 125
theorem Sp.Hd.skB {l:Sp.By} (h:Sp.Hd l) (r:Sp.By):Sp.skB (l ++ r) = l ++ r:=by
 obtain ⟨c,t,rfl,hb,_⟩:=h
 simp [Sp.skB,hb]
theorem Sp.Hd.tk {l:Sp.By} (h:Sp.Hd l) (r:Sp.By) {k:UInt8} (hk:k = 93 ∨ k = 125):Sp.tk (l ++ r) k = false:=by
 obtain ⟨c,t,rfl,_,h1,h2⟩:=h
 rw [List.cons_append,tk_hd,beq_eq_false_iff_ne]
 rcases hk with rfl | rfl
 ·exact h1
 ·exact h2
theorem isD_hd {c:UInt8} (h:Sp.isD c = true):Sp.isB c = false ∧ c ≠ 93 ∧ c ≠ 125:=by
 refine ⟨?_,?_,?_⟩
 ·have h1:48 ≤ c.toNat:=by unfold Sp.isD at h; simp at h; omega
  unfold Sp.isB
  simp only [Bool.or_eq_false_iff,beq_eq_false_iff_ne]
  refine ⟨⟨⟨?_,?_⟩,?_⟩,?_⟩
  all_goals (rintro rfl; simp at h1)
 ·rintro rfl; exact absurd h (by decide)
 ·rintro rfl; exact absurd h (by decide)
theorem numT_hd {n:Sp.Nm} (hg:Sp.Gn n):∃ c t,Sp.numT n = c :: t ∧ (c = 45 ∨ Sp.isD c = true):=by
 rcases hg with rfl | ⟨hne,hd,_⟩
 ·exact ⟨48,[],rfl,Or.inr (by decide)⟩
 ·obtain ⟨ng,ds,ex⟩:=n
  simp only at hne hd
  unfold Sp.numT
  rw [if_neg hne]
  cases ng with
  | true=>exact ⟨45,_,rfl,Or.inl rfl⟩
  | false =>
   cases ds with
   | nil=>exact absurd rfl hne
   | cons c t=>exact ⟨c,_,rfl,Or.inr (hd c (by simp))⟩
theorem gd_hd {d x:Int} {f:Nat} {lv:Int} {v:Sp.V} (h:Sp.gd d x f lv v):Sp.Hd (Sp.can f v):=by
 cases f with
 | zero=>cases h
 | succ f =>
  obtain ⟨_,⟨k,hk,rfl⟩ | ⟨s,_,rfl⟩ | ⟨n,hn,_,_,rfl⟩ | ⟨es,_,rfl⟩ | ⟨es,_,_,rfl⟩⟩:=h
  ·rw [Sp.can_word]
   match k,hk with
   | 0,_=>exact ⟨110,_,rfl,by decide,by decide,by decide⟩
   | 1,_=>exact ⟨116,_,rfl,by decide,by decide,by decide⟩
   | 2,_=>exact ⟨102,_,rfl,by decide,by decide,by decide⟩
  ·rw [Sp.can_str]; exact ⟨34,_,rfl,by decide,by decide,by decide⟩
  ·rw [Sp.can_num]
   obtain ⟨c,t,e,hc⟩:=numT_hd hn
   refine ⟨c,t,e,?_⟩
   rcases hc with rfl | hc
   ·exact ⟨by decide,by decide,by decide⟩
   ·exact isD_hd hc
  ·rw [Sp.can_arr]; exact ⟨91,_,rfl,by decide,by decide,by decide⟩
  ·rw [Sp.can_obj]; exact ⟨123,_,rfl,by decide,by decide,by decide⟩
theorem nd_close {cl:UInt8} (h:cl = 93 ∨ cl = 125) (r:Sp.By):Sp.Nd (cl :: r):=by
 intro c t e
 injection e with e1 e2
 subst e1
 rcases h with rfl | rfl
 ·exact ⟨by decide,by decide,by decide,by decide⟩
 ·exact ⟨by decide,by decide,by decide,by decide⟩
theorem nd_comma (r:Sp.By):Sp.Nd (44 :: r):=by
 intro c t e
 injection e with e1 e2
 subst e1
 exact ⟨by decide,by decide,by decide,by decide⟩
theorem skB_close {cl:UInt8} (h:cl = 93 ∨ cl = 125) (r:Sp.By):Sp.skB (cl :: r) = cl :: r:=by
 rcases h with rfl | rfl
 ·rfl
 ·rfl
theorem lst_join {σ:Type} (cl:UInt8) (hcl:cl = 93 ∨ cl = 125) (item:Sp.By → σ → Option (Sp.By × σ)) (P:Nat → σ → Prop) (r:Sp.By):∀ (xs:List Sp.By) (k:Nat) (s:σ) (n:Nat),
  (∀ i (h:i < xs.length) s rest,P (k + i) s → Sp.Nd rest → ∃ s',item (xs[i] ++ rest) s = some (rest,s') ∧ P (k + i + 1) s') → (∀ y ∈ xs,Sp.Hd y) → xs ≠ [] → xs.length ≤ n → P k s →
  ∃ s',Sp.lst cl item n (Sp.joinC xs ++ cl :: r) s = some (r,s') ∧ P (k + xs.length) s':=by
 intro xs
 induction xs with
 | nil=>intro k s n _ _ h; exact absurd rfl h
 | cons y ys ih =>
  intro k s n hit hhd _ hn hP
  match n,hn with
  | n + 1,hn =>
   have hy:=hhd y (by simp)
   have e1:Sp.joinC (y :: ys) ++ cl :: r = y ++ (Sp.joinR ys ++ cl :: r):=by simp [Sp.joinC]
   rw [e1]
   unfold Sp.lst
   rw [hy.skB]
   cases ys with
   | nil =>
    obtain ⟨s',h1,h2⟩:=hit 0 (by simp) s (cl :: r) hP (nd_close hcl r)
    simp only [List.getElem_cons_zero] at h1
    simp only [Sp.joinR,List.nil_append]
    rw [h1]
    simp only
    rw [skB_close hcl,if_pos (by rw [tk_hd]; simp)]
    exact ⟨s',rfl,h2⟩
   | cons z zs =>
    have e2:Sp.joinR (z :: zs) ++ cl :: r = 44 :: (Sp.joinC (z :: zs) ++ cl :: r):=by simp [Sp.joinR,Sp.joinC]
    rw [e2]
    obtain ⟨s',h1,h2⟩:=hit 0 (by simp) s (44 :: (Sp.joinC (z :: zs) ++ cl :: r)) hP (nd_comma _)
    simp only [List.getElem_cons_zero] at h1
    rw [h1]
    simp only
    have e3:Sp.skB (44 :: (Sp.joinC (z :: zs) ++ cl :: r)) = 44 :: (Sp.joinC (z :: zs) ++ cl :: r):=rfl
    have e4:Sp.tk (44 :: (Sp.joinC (z :: zs) ++ cl :: r)) cl = false:=by
     rw [tk_hd]
     rcases hcl with rfl | rfl
     ·rfl
     ·rfl
    rw [e3,e4,if_neg (by decide),if_pos (by rfl),List.tail_cons]
    obtain ⟨s2,h3,h4⟩:=ih (k + 1) s' n (fun i hi s rest hp hr=>by
     have:=hit (i + 1) (by simpa using hi) s rest (by rw [show k + (i + 1) = k + 1 + i by omega]; exact hp) hr
     simp only [List.getElem_cons_succ] at this
     rw [show k + 1 + i = k + (i + 1) by omega]
     exact this) (fun y hy=>hhd y (by simp [hy])) (by simp) (by simp at hn ⊢; omega) h2
    exact ⟨s2,h3,by rw [show k + (y :: z :: zs).length = k + 1 + (z :: zs).length by simp; omega]; exact h4⟩
theorem joinC_ge (xs:List Sp.By) (h:∀ y ∈ xs,Sp.Hd y):xs.length ≤ (Sp.joinC xs).length:=by
 have hr:∀ ys:List Sp.By,ys.length ≤ (Sp.joinR ys).length:=by
  intro ys
  induction ys with
  | nil=>simp
  | cons y r ih=>simp [Sp.joinR]; omega
 cases xs with
 | nil=>simp
 | cons y r =>
  obtain ⟨c,t,e,_⟩:=h y (by simp)
  have:=hr r
  simp [Sp.joinC,e]; omega
theorem lstAll_join {σ:Type} (op cl:UInt8) (hcl:cl = 93 ∨ cl = 125) (item:Sp.By → σ → Option (Sp.By × σ)) (P:Nat → σ → Prop) (r:Sp.By) (xs:List Sp.By) (s:σ)
  (hit:∀ i (h:i < xs.length) s rest,P i s → Sp.Nd rest → ∃ s',item (xs[i] ++ rest) s = some (rest,s') ∧ P (i + 1) s') (hhd:∀ y ∈ xs,Sp.Hd y) (hP:P 0 s) :
  ∃ s',Sp.lstAll op cl item (op :: (Sp.joinC xs ++ cl :: r)) s = some (r,s') ∧ P xs.length s':=by
 unfold Sp.lstAll
 rw [if_pos (by rw [tk_hd]; simp),List.tail_cons]
 cases xs with
 | nil =>
  rw [show Sp.joinC [] ++ cl :: r = cl :: r from rfl,skB_close hcl,if_pos (by rw [tk_hd]; simp),List.tail_cons]
  exact ⟨s,rfl,hP⟩
 | cons y ys =>
  have hy:=hhd y (by simp)
  have e1:Sp.joinC (y :: ys) ++ cl :: r = y ++ (Sp.joinR ys ++ cl :: r):=by simp [Sp.joinC]
  have e2:Sp.skB (Sp.joinC (y :: ys) ++ cl :: r) = Sp.joinC (y :: ys) ++ cl :: r:=by rw [e1,hy.skB]
  have e3:Sp.tk (Sp.joinC (y :: ys) ++ cl :: r) cl = false:=by rw [e1]; exact hy.tk _ hcl
  rw [e2,e3,if_neg (by decide)]
  have hj:=joinC_ge (y :: ys) hhd
  obtain ⟨s',h1,h2⟩:=lst_join cl hcl item P r (y :: ys) 0 s ((Sp.joinC (y :: ys) ++ cl :: r).length + 1) (fun i hi s rest hp hr=>by
   rw [Nat.zero_add] at hp ⊢
   exact hit i hi s rest hp hr) hhd (by simp) (by rw [List.length_append]; omega) hP
  rw [Nat.zero_add] at h2
  exact ⟨s',h1,h2⟩
theorem before_le:∀ (a b:Sp.By),bytesBefore a b = true → a < b
 | [],[],h=>by simp [bytesBefore] at h
 | _ :: _,[],h=>by simp [bytesBefore] at h
 | [],_ :: _,_=>List.nil_lt_cons _ _
 | a :: r,b :: s,h=>by
  simp only [bytesBefore,Bool.or_eq_true,Bool.and_eq_true,decide_eq_true_eq,beq_iff_eq] at h
  rw [List.cons_lt_cons_iff]
  rcases h with h | ⟨h1,h2⟩
  ·exact Or.inl h
  ·exact Or.inr ⟨h1,before_le r s h2⟩
theorem skeys_id {es:List (Lit × Sp.V)} (hp:es.Pairwise (fun p q=>p.1.before q.1 = true)) (hk:∀ p ∈ es,∃ s,p.1 = .string s):(Sp.keys es).mergeSort (fun a b=>decide (a ≤ b)) = Sp.keys es:=by
 apply List.mergeSort_of_pairwise
 unfold Sp.keys
 rw [List.pairwise_map]
 refine (List.Pairwise.and_mem.1 hp).imp ?_
 rintro p q ⟨h1,h2,h3⟩
 obtain ⟨s,hs⟩:=hk p h1
 obtain ⟨t,ht⟩:=hk q h2
 rw [hs,ht] at h3 ⊢
 simp only [decide_eq_true_eq]
 exact List.le_of_lt (before_le s t h3)
theorem rising_ne {es:List (Lit × Sp.V)} (hp:es.Pairwise (fun p q=>p.1.before q.1 = true)) (hk:∀ p ∈ es,∃ s,p.1 = .string s):es.Pairwise (fun p q=>p.1 ≠ q.1):=by
 refine (List.Pairwise.and_mem.1 hp).imp ?_
 rintro p q ⟨h1,h2,h3⟩ e
 obtain ⟨s,hs⟩:=hk p h1
 rw [← e,hs] at h3
 have:=WideAt.bytes_irrefl s
 rw [show (Lit.string s).before (Lit.string s) = bytesBefore s s from rfl,this] at h3
 cases h3
def Sp.entT (f:Nat) (p:Lit × Sp.V):Sp.By:=Sp.quoT (strOf p.1) ++ 58 :: Sp.can f p.2
theorem obj_text {f:Nat} {es:List (Lit × Sp.V)} (hp:es.Pairwise (fun p q=>p.1.before q.1 = true)) (hk:∀ p ∈ es,∃ s,p.1 = .string s):Sp.can (f + 1) (Sp.vObj es) = 123 :: (Sp.joinC (es.map (Sp.entT f)) ++ [125]):=by
 rw [Sp.can_obj,skeys_id hp hk]
 have:(Sp.keys es).map (fun k=>Sp.quoT k ++ 58 :: Sp.can f (Sp.look es k)) = es.map (Sp.entT f):=by
  unfold Sp.keys
  rw [List.map_map]
  apply List.map_congr_left
  intro p hpm
  obtain ⟨s,hs⟩:=hk p hpm
  have h2:Sp.look es s = p.2:=by
   unfold Sp.look
   exact WideAt.atKey_mem .nil trivial (rising_ne hp hk) (by rw [← hs]; exact hpm)
  obtain ⟨k,v⟩:=p
  simp only at hs h2
  subst hs
  simp only [Function.comp,Sp.entT,strOf]
  rw [h2]
 rw [this]
theorem insert_last {x:Lit × Sp.V} {l:List (Lit × Sp.V)} (h:∀ p ∈ l,x.1.before p.1 = false):DataW.insert x l = l ++ [x]:=by
 induction l with
 | nil=>rfl
 | cons y r ih =>
  unfold DataW.insert
  rw [h y (by simp),if_neg (by decide),ih (fun p hp=>h p (by simp [hp]))]
  rfl
end Go.Proofs.YtdpomdelmdofmaaGreatDoor
