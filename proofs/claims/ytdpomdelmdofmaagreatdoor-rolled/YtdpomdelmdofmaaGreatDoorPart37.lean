/-
  Walk of the statement's own dumped: what a text says, loaded by itself.
-/
import Derived.Test.YtdpomdelmdofmaaGreatDoorPart36
import Derived.Test.YtdpomdelmdofmaaGreatDoorPart17
import Derived.Test.YtdpomdelmdofmaaGreatDoorPart35
import Derived.DeepKeys4
import Derived.Test.YtdpomdelmdofmaaGreatDoorPart21
import Derived.Test.YtdpomdelmdofmaaGreatDoorPart16
namespace Go.Proofs.YtdpomdelmdofmaaGreatDoor
open Go.RowKit
def Sp.dmp (d e:Int) (t:Sp.By):Nat × Sp.By:=match Sp.readTo t d e with
 | (c,some v)=>(c,Sp.can top v)
 | (c,none)=>(c,[])
theorem run_dmp {d e n:Int} (hc:Sp.cfg d e n = true) (t:Sp.By):∃ k,Sp.run d e n none [(1,t,[]),(2,[],[])] = [((Sp.dmp d e t).1,0,[]),(k,0,(Sp.dmp d e t).2)]:=by
 have s1:Sp.step d e n none (1,t,[]) = Sp.ldd (Sp.readTo t d e) none:=by
  unfold Sp.step; rw [hc,if_pos rfl,if_neg (by simp),if_pos rfl]
 have s2:∀ v,Sp.step d e n (some v) (2,[],[]) = ((0,0,Sp.can top v.1),some v):=fun v=>by
  unfold Sp.step; rw [hc,if_pos rfl,if_neg (by simp),if_neg (by simp)]; rfl
 have s3:Sp.step d e n none (2,[],[]) = ((3,0,[]),none):=by
  unfold Sp.step; rw [hc,if_pos rfl,if_neg (by simp),if_neg (by simp)]
 simp only [Sp.run,s1]
 unfold Sp.dmp
 match Sp.readTo t d e with
 | (c,some v)=>exact ⟨0,by simp only [Sp.ldd,s2]⟩
 | (c,none)=>exact ⟨3,by simp only [Sp.ldd,s3]⟩
theorem plain_dmp (t:Sp.By):Plain [(1,t,[]),(2,[],[])]:=by
 intro o ho
 simp only [List.mem_cons,List.not_mem_nil,or_false] at ho
 rcases ho with rfl | rfl
 ·exact Or.inl (Or.inl (show (1:Int) < 3 by decide))
 ·exact Or.inl (Or.inl (show (2:Int) < 3 by decide))
def dmpCells (t:ByteArray):Array Value:=#[.int .i64 1,.string t,.string ⟨#[]⟩,.int .i64 2,.string ⟨#[]⟩,.string ⟨#[]⟩]
theorem scr_dmp {w:World} {g:Nat} {t:ByteArray} (h:w.heap[g]? = some (.cells (dmpCells t) 49 (0,0))):Scr w g 0 [(1,t.data.toList,[]),(2,[],[])]:=by
 intro i hi
 have hc:∀ j,w.cell? ⟨g,j,none⟩ = (dmpCells t)[j]?:=fun j=>by simp [World.cell?,h]
 rw [hc,hc,hc]
 match i,hi with
 | 0,_=>exact ⟨rfl,by simp [dmpCells],rfl⟩
 | 1,_=>exact ⟨rfl,rfl,rfl⟩
theorem bel_any {B:Nat} {a w w':World} (h:Below B a w) (e:w'.heap = w.heap:=by rfl) (e1:w'.os = w.os:=by rfl) (e2:w'.tape = w.tape:=by rfl) (e3:w'.output = w.output:=by rfl):Below B a w' :=
 ⟨e1.trans h.os,e2.trans h.tape,e3.trans h.output,by rw [e]; exact h.size,fun k hk=>by rw [e]; exact h.block k hk⟩
theorem bel_from {B:Nat} {a a' w:World} (h:Below B a w) (e:a.heap = a'.heap:=by rfl) (e1:a.os = a'.os:=by rfl) (e2:a.tape = a'.tape:=by rfl) (e3:a.output = a'.output:=by rfl):Below B a' w :=
 ⟨h.os.trans e1,h.tape.trans e2,h.output.trans e3,by rw [← e]; exact h.size,fun k hk=>by rw [← e]; exact h.block k hk⟩
set_option maxRecDepth 100000 in
set_option maxHeartbeats 8000000 in
theorem dumped_any {d e n:Int} (hc:Sp.cfg d e n = true) (t:ByteArray) (w:World) (hT:Laid w) :
  Calls Tryz.prog 19 #[.agg #[.int .i64 d,.int .i64 e,.int .i64 n],.string t] w fun x w'=>x = .returned (.tuple #[.string ⟨(Sp.dmp d e t.data.toList).2.toArray⟩,.int .i64 (Sp.dmp d e t.data.toList).1]) ∧ Below w.heap.size w w':=by
 have HT:=hide hT
 have hng:=hT.ng
 have HC:=hide hc
 have hz:(w.alloc (.cells #[.int .i64 d,.int .i64 e,.int .i64 n] 23)).heap[w.heap.size]? = some (.cells #[.int .i64 d,.int .i64 e,.int .i64 n] 23 (0,0)):=heap_new _ _ _ rfl
 have hba:Below w.heap.size w (w.alloc (.cells #[.int .i64 d,.int .i64 e,.int .i64 n] 23)):=(Below.refl _ _).alloc (Nat.le_refl _) _
 clear hT hc
 go_enter Tryz.func19,Tryz.ntmps19
 go_wp2_with (fail)
 generalize w.alloc (.cells #[.int .i64 d,.int .i64 e,.int .i64 n] 23) = wa at *
 have hsa:w.heap.size < wa.heap.size:=(Array.getElem?_eq_some_iff.1 hz).1
 have z0:wa.cell? ⟨w.heap.size,0,none⟩ = some (.int .i64 d):=by simp [World.cell?,hz]
 have z1:wa.cell? ⟨w.heap.size,1,none⟩ = some (.int .i64 e):=by simp [World.cell?,hz]
 have z2:wa.cell? ⟨w.heap.size,2,none⟩ = some (.int .i64 n):=by simp [World.cell?,hz]
 have HZ:=hide hz
 have HBA:=hide hba
 have HRUN:Hid (∀ (w0:World) (g:Nat),Below w.heap.size w w0 → w0.heap[g]? = some (.cells (dmpCells t) 49 (0,0)) → Calls Tryz.prog 24 #[.agg #[.int .i64 d,.int .i64 e,.int .i64 n],.slice (some ⟨g,0,none⟩) 2 2] w0 fun x w'=>RunEnd 2 (Sp.run d e n none [(1,t.data.toList,[]),(2,[],[])]) w0 x w'):=by
  intro w0 g h0 h1
  exact Run_some (d:=d) (e:=e) (n:=n) (l:=[(1,t.data.toList,[]),(2,[],[])]) (m:=2) (cap:=2) (scr_dmp h1) (plain_dmp _) rfl (by decide) (by decide) (by decide) (Array.getElem?_eq_some_iff.1 h1).1 ((unhide HT).below (h0.mono hng))
 clear hz hba
 go_region_with (first
  | (go_at_call_of 26 t; refine (kstep_any 1 t _ _).mono ?_; rintro x w1 ⟨rfl,hb1⟩; have y0:=(hb1.cell (p:=⟨w.heap.size,0,none⟩) hsa).trans z0; have y1:=(hb1.cell (p:=⟨w.heap.size,1,none⟩) hsa).trans z1; have y2:=(hb1.cell (p:=⟨w.heap.size,2,none⟩) hsa).trans z2; have hs1:=Nat.lt_of_lt_of_le hsa hb1.size)
  | (go_at_call 26; refine (kstep_any 2 _ _ _).mono ?_; rintro x w2 ⟨rfl,hb2⟩; have x0:=(hb2.cell (p:=⟨w.heap.size,0,none⟩) hs1).trans y0; have x1:=(hb2.cell (p:=⟨w.heap.size,1,none⟩) hs1).trans y1; have x2:=(hb2.cell (p:=⟨w.heap.size,2,none⟩) hs1).trans y2; have hs2:=Nat.lt_of_lt_of_le hs1 hb2.size)
  | (go_at_call 24; refine (unhide HRUN _ _ ?_ ?_).mono ?_; exact bel_any ((((unhide HBA).trans (bel_from (hb1.mono (Nat.le_of_lt hsa)))).trans (bel_from (hb2.mono (Nat.le_of_lt hs1)))).alloc (Nat.le_of_lt hs2) _); exact heap_new _ _ _ rfl; rintro x w3 ⟨A,cs,rfl,hA,hrow,hans,hb3⟩; have hb4:=bel_any ((((unhide HBA).trans (bel_from (hb1.mono (Nat.le_of_lt hsa)))).trans (bel_from (hb2.mono (Nat.le_of_lt hs1)))).alloc (Nat.le_of_lt hs2) _) |>.trans (hb3.mono (Nat.le_trans (Nat.le_of_lt hs2) (by simp)))))
 all_goals (
  replace hb4:Below w.heap.size w w3:=hb4
  have HB4:=hide hb4
  obtain ⟨k,hk⟩:=run_dmp (unhide HC) t.data.toList
  rw [hk] at hans
  obtain ⟨hsz,hc⟩:=hans
  have q0:=hc 0 (by simp)
  have q1:=hc 1 (by simp)
  simp only [List.getElem_cons_zero,List.getElem_cons_succ] at q0 q1
  have hcell:∀ j,w3.cell? ⟨A,j,none⟩ = cs[j]?:=fun j=>by simp [World.cell?,hrow]
  have g00:=(hcell 0).trans q0.1
  have g12:=(hcell 5).trans q1.2.2
  clear q0 q1 hc hcell hrow hsz hb4 hb1 hb2 hb3 hk x0 x1 x2 y0 y1 y2 z0 z1 z2
  go_wp2_with (fail)
  go_quiet (fail)
  go_wp2_with (fail)
  go_ret2
  exact ⟨rfl,bel_any (unhide HB4)⟩)
end Go.Proofs.YtdpomdelmdofmaaGreatDoor

namespace Go.Proofs.YtdpomdelmdofmaaGreatDoor
open Go.RowKit
theorem read_two {t:Sp.By} {d x:Int}:(∃ c,Sp.readTo t d x = (c,none) ∧ 0 < c) ∨ ∃ v,Sp.readTo t d x = (0,some v):=by
 unfold Sp.readTo
 split
 ·exact Or.inl ⟨4,rfl,by omega⟩
 ·split
  ·exact Or.inl ⟨5,rfl,by omega⟩
  ·rename_i v r fl hv
   split
   ·split
    ·exact Or.inl ⟨6,rfl,by omega⟩
    ·split
     ·exact Or.inl ⟨7,rfl,by omega⟩
     ·split
      ·exact Or.inl ⟨8,rfl,by omega⟩
      ·exact Or.inr ⟨v,rfl⟩
   ·exact Or.inl ⟨5,rfl,by omega⟩
end Go.Proofs.YtdpomdelmdofmaaGreatDoor

namespace Go.Proofs.YtdpomdelmdofmaaGreatDoor
open Go.RowKit Go.Maps
namespace Sp
theorem dops_fit {d x:Int} (hd:d ≤ 100):∀ (l:List Op2) (i:Nat) (v:V) (j0:List Opn) {v':V} {j:List Opn},Fit d x 200000 v → (∀ o ∈ l,OpOk (d + 2) x 200000 o) → dops d i v j0 l = .ok (v',j) → Fit d x 200000 v' ∧ ((can top v).length ≤ 80000 → (can top v').length ≤ 80000)
 | [],i,v,j0,v',j,hv,_,h=>by
  unfold dops at h
  injection h with h
  injection h with h1 h2
  subst h1
  exact ⟨hv,id⟩
 | o :: r,i,v,j0,v',j,hv,ho,h=>by
  unfold dops at h
  split at h
  ·cases h
  ·rename_i d1 j1 hdo
   split at h
   ·rename_i hm
    obtain ⟨f1,_,_⟩:=do1_fit hv (ho o List.mem_cons_self) hd hdo
    obtain ⟨f2,f3⟩:=meas_fit f1 hd hm
    obtain ⟨f4,f5⟩:=dops_fit hd r _ d1 _ (f2.mono (Int.le_refl _) (by omega) (by omega)) (fun o h=>ho o (List.mem_cons_of_mem _ h)) h
    exact ⟨f4,fun _=>f5 (by omega)⟩
   ·cases h
theorem dops_ne {d:Int}:∀ (l:List Op2) (i:Nat) (v:V) (j0:List Opn) {c k:Nat},dops d i v j0 l = .error (c,k) → c ≠ 0
 | [],i,v,j0,c,k,h=>by unfold dops at h; cases h
 | o :: r,i,v,j0,c,k,h=>by
  unfold dops at h
  split at h
  ·rename_i c' hdo
   injection h with h
   injection h with h1 h2
   subst h1
   exact do1_ne hdo
  ·split at h
   ·exact dops_ne r _ _ _ h
   ·rename_i hm
    injection h with h
    injection h with h1 h2
    subst h1
    exact hm
end Sp
theorem cfg_d {d e n:Int} (hc:Sp.cfg d e n = true):1 ≤ d ∧ d ≤ 20 ∧ 0 ≤ e ∧ e ≤ 400:=by
 unfold Sp.cfg Sp.inB at hc
 simp at hc
 omega
theorem patch_two {d e n:Int} (hc:Sp.cfg d e n = true) (v:Sp.V × Sp.Inv) (hg:Sp.gd d e top 1 v.1) (hl:(Sp.can top v.1).length ≤ 80000) (s:Sp.By) :
  (∃ c i,0 < c ∧ Sp.stPatch d e v s = ((c,i,[]),v)) ∨ ∃ x j,Sp.stPatch d e v s = ((0,0,[]),(x,some j)) ∧ Sp.gd d e top 1 x ∧ (Sp.can top x).length ≤ 80000:=by
 obtain ⟨h1,h2,h3,h4⟩:=cfg_d hc
 unfold Sp.stPatch
 rcases read_two (t:=s) (d:=d + 2) (x:=e) with ⟨c,hr,hpos⟩ | ⟨p,hr⟩
 ·rw [hr]
  exact Or.inl ⟨c,0,hpos,rfl⟩
 ·rw [hr]
  simp only
  have hpg:=read_gd hr
  have hpl:=read_bd hr top
  cases hp:Sp.pread p with
  | error i=>exact Or.inl ⟨10,i,by omega,rfl⟩
  | ok l =>
   simp only
   obtain ⟨hn,hok⟩:=Sp.pread_ok hpg hpl (by omega) hp
   cases hd:Sp.dops d 0 v.1 [] l with
   | error ci =>
    obtain ⟨c,i⟩:=ci
    exact Or.inl ⟨c,i,Nat.pos_of_ne_zero (Sp.dops_ne l _ _ _ hd),rfl⟩
   | ok xj =>
    obtain ⟨x,j⟩:=xj
    have hfit:Sp.Fit d e 200000 v.1:=⟨hg,by omega,by have:=(Sp.can_sz hg).2; omega⟩
    obtain ⟨f1,f2⟩:=Sp.dops_fit (by omega) l _ _ _ hfit hok hd
    exact Or.inr ⟨x,j.reverse,rfl,f1.gd,f2 hl⟩
theorem dmp_can {d e:Int} {v:Sp.V} (hg:Sp.gd d e top 1 v) (h0:0 ≤ e) (h4:e ≤ 400):(Sp.dmp d e (Sp.can top v)).1 = 0 ∨ (Sp.dmp d e (Sp.can top v)).1 = 4:=by
 by_cases hl:(Sp.can top v).length ≤ 2000
 ·have h:=reread hg h0 (by omega) [] [] (fun l=>rfl) rfl (by intro c t e; cases e) (by simpa using hl)
  simp only [List.nil_append,List.append_nil] at h
  unfold Sp.dmp
  rw [h]
  exact Or.inl rfl
 ·right
  unfold Sp.dmp Sp.readTo
  rw [if_pos (by omega)]
def Sp.rls (doc pt:Sp.By):List Sp.St:=[(1,doc,[]),(2,[],[]),(5,pt,[]),(2,[],[]),(7,[],[]),(3,[],[])]
theorem got_all (v:Sp.V):Sp.gotA v [] = (0,0,Sp.can top v):=by
 have h:Sp.toks [] = some []:=by kernel_rfl
 unfold Sp.gotA
 rw [h]
 rfl
theorem run_rls {d e n:Int} (hc:Sp.cfg d e n = true) (doc pt:Sp.By) :
  (∃ c,0 < c ∧ Sp.run d e n none (Sp.rls doc pt) = [(c,0,[]),(3,0,[]),(3,0,[]),(3,0,[]),(3,0,[]),(3,0,[])]) ∨
  (∃ (s:Sp.By) (c i:Nat),0 < c ∧ Sp.run d e n none (Sp.rls doc pt) = [(0,0,[]),(0,0,s),(c,i,[]),(0,0,s),(3,0,[]),(0,0,s)]) ∨
  (∃ (s t u:Sp.By),Sp.run d e n none (Sp.rls doc pt) = [(0,0,[]),(0,0,s),(0,0,[]),(0,0,t),(0,0,u),(0,0,t)] ∧ ((Sp.dmp d e t).1 = 0 ∨ (Sp.dmp d e t).1 = 4)):=by
 obtain ⟨h1,h2,h3,h4⟩:=cfg_d hc
 rcases read_two (t:=doc) (d:=d) (x:=e) with ⟨c,hr,hpos⟩ | ⟨v,hr⟩
 ·refine Or.inl ⟨c,hpos,?_⟩
  simp only [Sp.rls,Sp.run,step_load hc,hr,Sp.ldd,step_none hc 2 (by omega) (by omega),step_none hc 5 (by omega) (by omega),step_none hc 7 (by omega) (by omega),step_none hc 3 (by omega) (by omega)]
 ·right
  have hg:=read_gd hr
  have hl:=read_bd hr top
  rcases patch_two hc (v,none) hg hl pt with ⟨c,i,hpos,hp⟩ | ⟨x,j,hp,hgx,hlx⟩
  ·refine Or.inl ⟨Sp.can top v,c,i,hpos,?_⟩
   simp only [Sp.rls,Sp.run,step_load hc,hr,Sp.ldd,step_dump hc,step_patch hc,hp,step_invert hc,step_get hc,got_all,Sp.stInvert]
  ·refine Or.inr ⟨Sp.can top v,Sp.can top x,Sp.ptext j,?_,dmp_can hgx h3 h4⟩
   simp only [Sp.rls,Sp.run,step_load hc,hr,Sp.ldd,step_dump hc,step_patch hc,hp,step_invert hc,step_get hc,got_all,Sp.stInvert]
end Go.Proofs.YtdpomdelmdofmaaGreatDoor

namespace Go.Proofs.YtdpomdelmdofmaaGreatDoor
open Go.RowKit Go.Maps
def nv (x:Sp.By × Bool × Bool):Value:=.agg #[.string ⟨x.1.toArray⟩,.bool x.2.1,.bool x.2.2]
def nlit (x:Sp.By × Bool × Bool):Lit:=.string (keyBytes [.string x.1,.bool x.2.1,.bool x.2.2])
theorem nlaid:laidOutB Tryz.prog = true:=by kernel_rfl
theorem nrow:(219:TypeId) < Tryz.prog.types.size:=of_decide_eq_true (by kernel_rfl)
theorem nka:Tryz.prog.keyTypeAt 2 219 = true:=by kernel_rfl
theorem nlaw:Keyed Tryz.prog 219:=Keyed.of_law (deep_law_laid nlaid (m:=2) (by omega) nrow nka (by rw [Tryz.underlying219]))
theorem nkl (x:Sp.By × Bool × Bool):WideAt.IsKeyLit (nlit x):=by unfold nlit; exact trivial
theorem nkt:Tryz.prog.keyType 219 = true:=by kernel_rfl
theorem ncells:Tryz.prog.cellsOf 219 = 3:=by kernel_rfl
theorem ncs:Tryz.prog.cellsOf 9 = 1:=by kernel_rfl
theorem ncb:Tryz.prog.cellsOf 4 = 1:=by kernel_rfl
theorem nsz:∃ m,Tryz.prog.types.size = m + 1:=⟨Tryz.prog.types.size - 1,by have:=nrow; unfold TypeId at this; omega⟩
theorem nkey (x:Sp.By × Bool × Bool) (h:x.1.length ≤ 1048576):keyOf Tryz.prog 219 (nv x) = some (nlit x):=by
 obtain ⟨m,hm⟩:=nsz
 have hl:(⟨x.1.toArray⟩:ByteArray).size ≤ maxLen:=by rw [bs_size]; unfold maxLen; omega
 unfold keyOf nv nlit
 rw [Tryz.underlying219]
 simp only [nkt,Value.formed,Tryz.underlying219,ncells,hm]
 simp [Program.keyLits,Tryz.underlying219,Tryz.underlying9,Tryz.underlying4,ncells,ncs,ncb,Value.cells,hl]
theorem nlit_inj {x y:Sp.By × Bool × Bool} (h1:x.1.length ≤ 1048576) (h2:y.1.length ≤ 1048576) (h:nlit x = nlit y):x = y:=by
 have:=nlaw.inj (nkey x h1) (h ▸ nkey y h2)
 obtain ⟨a,b,c⟩:=x
 obtain ⟨a',b',c'⟩:=y
 unfold nv at this
 simp at this
 obtain ⟨e1,e2,e3⟩:=this
 rw [e1,e2,e3]
def opsTab:List (Sp.By × Bool × Bool):=[(Sp.add_,true,false),(Sp.remove_,false,false),(Sp.replace_,true,false),(Sp.move_,false,true),(Sp.copy_,false,true),(Sp.test_,true,false)]
def opN (k:Nat):Sp.By × Bool × Bool:=opsTab.getD k ([],false,false)
theorem op_i0 (w:World):(Instr.index 220 (.agg opsCells) (.int .i64 0)).run Tryz.prog w = .ok (nv (opN 0)) w:=by kernel_rfl
theorem op_i1 (w:World):(Instr.index 220 (.agg opsCells) (.int .i64 1)).run Tryz.prog w = .ok (nv (opN 1)) w:=by kernel_rfl
theorem op_i2 (w:World):(Instr.index 220 (.agg opsCells) (.int .i64 2)).run Tryz.prog w = .ok (nv (opN 2)) w:=by kernel_rfl
theorem op_i3 (w:World):(Instr.index 220 (.agg opsCells) (.int .i64 3)).run Tryz.prog w = .ok (nv (opN 3)) w:=by kernel_rfl
theorem op_i4 (w:World):(Instr.index 220 (.agg opsCells) (.int .i64 4)).run Tryz.prog w = .ok (nv (opN 4)) w:=by kernel_rfl
theorem op_i5 (w:World):(Instr.index 220 (.agg opsCells) (.int .i64 5)).run Tryz.prog w = .ok (nv (opN 5)) w:=by kernel_rfl
theorem op_idx (k:Nat) (hk:k < 6) (w:World):(Instr.index 220 (.agg opsCells) (.int .i64 k)).run Tryz.prog w = .ok (nv (opN k)) w:=by
 match k,hk with
 | 0,_=>exact op_i0 w
 | 1,_=>exact op_i1 w
 | 2,_=>exact op_i2 w
 | 3,_=>exact op_i3 w
 | 4,_=>exact op_i4 w
 | 5,_=>exact op_i5 w
theorem opN_len (k:Nat) (hk:k < 6):(opN k).1.length ≤ 1048576:=by
 match k,hk with
 | 0,_=>decide
 | 1,_=>decide
 | 2,_=>decide
 | 3,_=>decide
 | 4,_=>decide
 | 5,_=>decide
theorem opN_inj {i j:Nat} (hi:i < 6) (hj:j < 6) (h:opN i = opN j):i = j:=by
 have:∀ i,i < 6 → ∀ j,j < 6 → opN i = opN j → i = j:=by decide
 exact this i hi j hj h
def nD:Nat → DataW Value
 | 0=>.map []
 | k + 1=>(nD k).put (nlit (opN k)) (.lit (.int .i64 k))
theorem nD_map:∀ k,IsMap (nD k)
 | 0=>⟨[],rfl⟩
 | k + 1=>(nD_map k).put _ _
theorem nD_yes {i:Nat}:∀ {k:Nat},k ≤ 6 → i < k → has (nD k) (nlit (opN i)) = true ∧ ∀ z,(nD k).atKey (nlit (opN i)) z = .lit (.int .i64 i)
 | 0,_,h=>absurd h (by omega)
 | k + 1,hk,h=>by
  by_cases e:i = k
  ·subst e
   exact ⟨has_put_same (nD_map _) (nkl _) _,fun z=>atKey_put_same (nD_map _) (nkl _) _ _⟩
  ·have hne:nlit (opN i) ≠ nlit (opN k):=fun h2=>e (opN_inj (by omega) (by omega) (nlit_inj (opN_len _ (by omega)) (opN_len _ (by omega)) h2))
   obtain ⟨h1,h2⟩:=nD_yes (k:=k) (i:=i) (by omega) (by omega)
   exact ⟨(has_put_other hne _).trans h1,fun z=>(atKey_put_other hne _ _).trans (h2 z)⟩
theorem nD_no {x:Sp.By × Bool × Bool} (hx:x.1.length ≤ 1048576):∀ {k:Nat},k ≤ 6 → (∀ i,i < k → x ≠ opN i) → has (nD k) (nlit x) = false
 | 0,_,_=>rfl
 | k + 1,hk,h=>by
  have hne:nlit x ≠ nlit (opN k):=fun h2=>h k (by omega) (nlit_inj hx (opN_len _ (by omega)) h2)
  exact (has_put_other hne _).trans (nD_no hx (by omega) fun i hi=>h i (by omega))
def Sp.nOf (x:Sp.By × Bool × Bool):Option Nat:=opsTab.findIdx? (· == x)
theorem Sp.nOf_none {x:Sp.By × Bool × Bool} (h:Sp.nOf x = none) (i:Nat) (hi:i < 6):x ≠ opN i:=by
 rintro rfl
 have:∀ i,i < 6 → Sp.nOf (opN i) ≠ none:=by decide
 exact this i hi h
theorem Sp.nOf_some {x:Sp.By × Bool × Bool} {k:Nat} (h:Sp.nOf x = some k):k < 6 ∧ x = opN k:=by
 unfold Sp.nOf at h
 obtain ⟨h1,h2,_⟩:=List.findIdx?_eq_some_iff_getElem.1 h
 have h3:opsTab[k] = x:=by simpa using h2
 exact ⟨h1,by rw [← h3]; unfold opN; simp [List.getD,List.getElem?_eq_getElem h1]⟩
def Sp.findOf (x:Sp.By × Bool × Bool):Option Nat:=(Sp.nOf (x.1,false,false)).orElse fun _=>(Sp.nOf (x.1,x.2.1,false)).orElse fun _=>Sp.nOf (x.1,false,x.2.2)
theorem Sp.findOf_kind (x:Sp.By × Bool × Bool):Sp.findOf x = Sp.kindOf x.1 x.2.1 x.2.2:=by
 obtain ⟨n,a,b⟩:=x
 by_cases h0:n = Sp.remove_
 ·subst h0; revert a b; decide
 by_cases h1:n = Sp.add_
 ·subst h1; revert a b; decide
 by_cases h2:n = Sp.replace_
 ·subst h2; revert a b; decide
 by_cases h3:n = Sp.test_
 ·subst h3; revert a b; decide
 by_cases h4:n = Sp.move_
 ·subst h4; revert a b; decide
 by_cases h5:n = Sp.copy_
 ·subst h5; revert a b; decide
 have e0:(Sp.remove_ == n) = false:=by simpa using fun h=>h0 h.symm
 have e1:(Sp.add_ == n) = false:=by simpa using fun h=>h1 h.symm
 have e2:(Sp.replace_ == n) = false:=by simpa using fun h=>h2 h.symm
 have e3:(Sp.test_ == n) = false:=by simpa using fun h=>h3 h.symm
 have e4:(Sp.move_ == n) = false:=by simpa using fun h=>h4 h.symm
 have e5:(Sp.copy_ == n) = false:=by simpa using fun h=>h5 h.symm
 have pe:∀ (m:Sp.By) (c d e f:Bool),((m,c,d) == (n,e,f)) = (m == n && ((c,d) == (e,f))):=fun _ _ _ _ _=>rfl
 unfold Sp.findOf Sp.nOf Sp.kindOf opsTab
 simp only [List.findIdx?_cons,List.findIdx?_nil,pe,e0,e1,e2,e3,e4,e5,Bool.false_and,Bool.false_eq_true,if_false,if_neg h0,if_neg h1,if_neg h2,if_neg h3,if_neg h4,if_neg h5]
 rfl
end Go.Proofs.YtdpomdelmdofmaaGreatDoor
