import PyProof.Rows.All
import Wide.All
import OpenK.AllK
import Wide.FinOn
import HandS.ForMost
import HandS.EndTab
import HandS.AnyAll
import HandS.GenList
import HandS.TupAny
import HandS.Zip
import HandS.FStr
import HandS.Deep
import HandS.DeepEq
import HandS.SetKeys
import HandS.IsInst
import HandS.NoneIn
import HandS.TupLe
import HandS.StrSplit
import HandS.Wide
import PyProof.P3In
import HandS.Style
import HandS.Star
import HandS.WordsDict
import HandS.Conv
import HandS.Codes
import HandS.Defaults
import HandS.HeadWalk
import KE.KUnpack
import HandS.Strs
import HandS.DictComp
import KE.KDictPairs
import HandS.SetFor
import HandS.SetTxt0
import HandS.HeadHook4
import HandS.Head0
import HandS.Head1
import HandS.Head2
import HandS.HeadEnd
import PySem.Challenge.RW_signalhouse_k03_stations_written_and_rea
section
set_option Elab.async false
set_option linter.all false
set_option maxRecDepth 100000
set_option maxHeartbeats 2000000
/-! Gx1: the frame of a generator expression, as a context of the hand layer. -/
namespace Gx
open PySem PySem.Spec PyProof.Rows L2 GxR GenW

abbrev gblk (X : Cx) (s : Shared) (H : Hp) (cenv : Env) (fp : List Addr) (A : Around) (pn : List (Addr × Obj)) : Cx :=
  { X with s_0 := s, H_0 := H, env := cenv, outer := X.stack, stack := cenv :: X.stack, ex := fp, fn := fun _ => false, pn := pn, A := A, xe := fun _ _ => False }

section
variable {X : Cx} {pins : List (Addr × Obj)} {σ : L2.St} {H : Hp} {s s' : Shared}
theorem gen_start {scope : Scope} {own : List (Str × Nat)} {fp : List Addr} {code : Value} {A : Around} {a : Addr} {go : Obj} {m : Str → Option Value} (I : Inv X pins σ H s) (ok : BlkOk X.N X.env.scope scope own)
    (hcell : ∀ y ∈ scope.names, y.2 ≠ .cell) (hN : X.N.Nodup) (hfp : ∀ b ∈ fp, FpOk X pins H b ∧ b < s.heap.objs.size)
    (kp : ∀ b o, s.heap.get? b = some o → s'.heap.get? b = some o) (hos : s'.os = s.os) (hb : AllBare s'.gens)
    (hns : s'.heap.Ns s.heap.objs.size m) (ha : s'.heap.get? a = some go) (hsa : s.heap.objs.size < a) (hgo : ∀ v, go.data ≠ .cell v)
    (hfr : A.frames = some (genEnv scope (cloFrom X.env.cells scope.names []) s.heap.objs.size code builtinsNs X.env :: X.stack)) (hh : A.handled = none) :
    Inv (gblk X s H (genEnv scope (cloFrom X.env.cells scope.names []) s.heap.objs.size code builtinsNs X.env) fp A [(a, go)]) [] (wipe σ (own.map (·.2))) H s' := by
  have hfree : ∀ y ∈ scope.names, y.2 = .free → ∃ c, X.env.cells.lookup y.1 = some c := fun y hy e => by
    rcases ok.free y hy e with k | k
    · exact I.ok.has _ (.inl k)
    · exact I.ok.has _ (.inr k)
  generalize hcenv : genEnv scope (cloFrom X.env.cells scope.names []) s.heap.objs.size code builtinsNs X.env = cenv at hfr ⊢
  have hL : cenv.locals = s.heap.objs.size := by rw [← hcenv]; rfl
  have hcl : cenv.cells = cloFrom X.env.cells scope.names [] := by rw [← hcenv]; rfl
  have hsc : cenv.scope = scope := by rw [← hcenv]; rfl
  have hframe : cenv.frame = some cenv.locals := by rw [← hcenv]; rfl
  have mem : ∀ {y c}, cenv.cells.lookup y = some c → X.env.cells.lookup y = some c ∧ c < s.heap.objs.size := fun {y c} e => by
    rw [hcl] at e
    rcases cloFrom_mem (PySem.mem_of_lookup e) with hm | ⟨h1, rfl⟩
    · cases hm
    · obtain ⟨c, hc⟩ := hfree _ h1 rfl
      rw [hc]
      obtain ⟨w, z⟩ := I.cell _ _ hc
      exact ⟨rfl, z.lt⟩
  have look : ∀ {y}, scope.names.lookup y = some .free → ∃ c, cenv.cells.lookup y = some c ∧ X.env.cells.lookup y = some c := fun {y} hl => by
    have hy : (y, NameKind.free) ∈ scope.names := PySem.mem_of_lookup hl
    obtain ⟨c', e'⟩ := mem_lookup (cloFrom_has (cells := X.env.cells) (acc := []) hy)
    rw [← hcl] at e'
    exact ⟨c', e', (mem e').1⟩
  have nocell : ∀ y, cenv.kindOf y ≠ some .cell := fun y hy => by
    unfold Env.kindOf at hy
    rw [hsc] at hy
    exact hcell _ (PySem.mem_of_lookup hy) rfl
  have frmem : ∀ b, b ∈ frs X.stack → b < s.heap.objs.size := fun b hb => by
    rcases List.mem_cons.mp (I.stkSub b hb) with z | z
    · rw [z]; exact I.lt
    · obtain ⟨_, o, ho, _⟩ := I.ok.funs.mem z
      exact Nat.lt_of_lt_of_le (Heap.lt_size ho) I.sz
  have okB : (gblk X s H cenv fp A [(a, go)]).Ok := by
    refine ⟨I.ok.mod, by show cenv.scope.kind = _; rw [hsc]; exact ok.kind, by show cenv.globals = _; rw [← hcenv]; exact I.ok.glob, by show cenv.builtins = _; rw [← hcenv]; rfl, by show s.heap.objs.size ≤ cenv.locals; rw [hL]; exact Nat.le_refl _,
      fun y z c e1 e2 => I.ok.inj y z c (mem e1).1 (mem e2).1, fun y hy => ?_, fun y c z e => ?_, fun _ => hh, hfr, .inr ⟨rfl, hframe⟩, fun b hb => ⟨?_, fun y c e z => ?_⟩, I.bs, Nat.le_trans I.ok.bsz I.sz, fun b o e hb => ?_, fun b hb z => ?_, I.stack, I.stkFree⟩
    · show ∃ c, cenv.cells.lookup y = some c
      rcases hy with hy | hy
      · exact absurd hy (nocell y)
      · have hy : cenv.kindOf y = some .free := hy
        unfold Env.kindOf at hy
        rw [hsc] at hy
        obtain ⟨c, h1, _⟩ := look hy
        exact ⟨c, h1⟩
    · cases z
    · show b ≠ cenv.locals
      rw [hL]; exact Nat.ne_of_lt (hfp b hb).2
    · exact (hfp b hb).1.2.2.2.2.1 y c (mem e).1 z
    · rcases (hfp b hb).1.2.2.2.1 with z | z
      · exact I.ok.noex b o e z
      · exact absurd (Nat.lt_of_lt_of_le (Heap.lt_size e) (Nat.le_trans I.ok.bsz z)) (Nat.lt_irrefl _)
    · rcases List.mem_cons.mp (I.stkSub b z) with z | z
      · exact (hfp b hb).1.2.1 z
      · exact (hfp b hb).1.2.2.1 z
  refine ⟨okB, hos, hb, Un.kept kp, ⟨m, ?_, fun i y av e1 e2 e3 => ?_⟩, fun y c e => ?_, ?_, fun y c e => ?_, fun p hp => ?_, I.hok.kept kp, by rw [wipe_length]; exact I.len⟩
  · show Heap.Ns _ cenv.locals _
    rw [hL]; exact hns
  · obtain ⟨e2, hne⟩ := wipe_some e2
    have hfr2 : scope.names.lookup y = some .free := by
      have key : ∀ k, scope.names.lookup y = some k → k = .local ∨ k = .cell ∨ k = .free → scope.names.lookup y = some .free := fun k e hk' => by
        have no : ¬ (k = .local ∨ k = .cell) := fun hh => by
          rcases ok.own _ (PySem.mem_of_lookup e) hh with e' | e'
          · obtain ⟨p, hp, hpy⟩ := List.mem_map.mp e'
            have e3 := ok.ix p hp
            have : p.1 = y := hpy
            rw [this] at e3
            exact hne (List.mem_map.mpr ⟨p, hp, nodup_ix hN e3 e1⟩)
          · exact e' (List.mem_of_getElem? e1)
        rcases hk' with rfl | rfl | rfl
        · exact absurd (.inl rfl) no
        · exact absurd (.inr rfl) no
        · exact e
      have e3 : Vis cenv.scope y := e3
      rw [hsc] at e3
      rcases e3 with e3 | e3 | e3
      · exact key _ e3 (.inl rfl)
      · exact key _ e3 (.inr (.inl rfl))
      · exact key _ e3 (.inr (.inr rfl))
    obtain ⟨m0, hn, hl⟩ := I.loc
    have hvis : Vis X.env.scope y := (ok.free _ (PySem.mem_of_lookup hfr2) rfl).elim (fun k => .inr (.inl k)) (fun k => .inr (.inr k))
    obtain ⟨w, r, q⟩ := hl i y av e1 e2 hvis
    refine ⟨w, r, .inr ⟨.inr (by show cenv.scope.names.lookup y = _; rw [hsc]; exact hfr2), ?_⟩⟩
    obtain ⟨c, h1, h2⟩ := look hfr2
    rcases q with ⟨k, _⟩ | ⟨_, c', e', z⟩
    · have k : X.env.scope.names.lookup y = some .local := k
      rcases ok.free _ (PySem.mem_of_lookup hfr2) rfl with k' | k' <;> rw [show X.env.scope.names.lookup y = _ from k'] at k <;> cases k
    · rw [h2] at e'; cases e'
      exact ⟨c, h1, z.keeps kp⟩
  · obtain ⟨w, z⟩ := I.cell y c (mem e).1
    exact ⟨w, z.keeps kp⟩
  · show H cenv.locals = none
    rw [hL]; exact I.hok.fresh (Nat.le_refl _)
  · exact I.freeC y c (mem e).1
  · have e : p = (a, go) := by
      rcases List.mem_append.mp hp with hp | hp
      · rcases List.mem_cons.mp hp with hp | hp
        · exact hp
        · cases hp
      · cases hp
    subst e
    refine ⟨ha, I.hok.fresh (Nat.le_of_lt hsa), ?_, fun z => ?_, hgo⟩
    · show a ≠ cenv.locals
      rw [hL]; exact Nat.ne_of_gt hsa
    · exact absurd (Nat.lt_trans hsa (frmem a z)) (Nat.lt_irrefl _)
end
end Gx
end

section
set_option Elab.async false
set_option linter.all false
set_option maxRecDepth 100000
set_option maxHeartbeats 2000000
/-! Gx2: the turns of a generator expression, one clause or two, any element. -/
namespace Gx
open PySem PySem.Spec PyProof.Rows L2 GxR GenW

theorem inv_same {X : Cx} {pins : List (Addr × Obj)} {σ : L2.St} {H : Hp} {s s' : Shared} (I : Inv X pins σ H s) (hh : s'.heap = s.heap) (ho : s'.os = s.os) (hb : AllBare s'.gens) : Inv X pins σ H s' := by
  obtain ⟨h', g', d', t', o'⟩ := s'
  have e1 : h' = s.heap := hh
  have e2 : o' = s.os := ho
  subst e1 e2
  exact ⟨I.ok, I.os, hb, I.base, I.loc, I.cell, I.free, I.freeC, I.pin, I.hok, I.len⟩

/-- a block of a generator expression: what is wanted behind it (with the hands-out that are left), where it stops, slots, heap -/
abbrev GB := (Nat → Hp → Prop) → (Hp → Prop) → Nat → L2.St → Hp → Prop
def gbYield (b : Bool) (te : TE) : GB := fun fin stp k σ H => te σ H fun y H1 => ∃ c k', y = .bl c ∧ k = k' + 1 ∧ if c = b then stp H1 else fin k' H1
def gbFor (wi : TI) (g : TG) (tt : TT) (body : GB) (vs : List Nat) : GB := fun fin stp k σ H => wi σ H fun J H1 => ∃ W : Nat → Nat → Nat → Hp → Prop, (∃ m, W 0 m k H1) ∧ ∀ i m k H, W i m k H →
  (J.stop i H ∧ fin k H) ∨ (J.go i H ∧ ∃ Nx : Nat → Hp → Prop, (∀ k' H', Nx k' H' → ∃ m', m' < m ∧ W (i + 1) m' k' H') ∧ ∀ x H', J.yld i H x H' → g x (wipe σ vs) H' fun σ2 H2 => wipe σ2 vs = wipe σ vs ∧ tt σ2 H2 fun b H3 =>
    if b = true then body Nx stp k σ2 H3 else Nx k H3)

/-- what is told where a truth is handed out -/
def GYs (X : Cx) (g : Nat) (b : Bool) (stp : Hp → Prop) : Protocol := fun n s₀ v s kap =>
  ∃ c σ H, v = .bool c ∧ Inv X [] σ H s ∧ g < s.gens.size ∧ if c = b then stp H else ∀ s'', s''.heap = s.heap → s''.os = s.os → AllBare s''.gens → g < s''.gens.size → kap (.send .none) s''
def GRs (X : Cx) (g : Nat) (fin : Nat → Hp → Prop) : Nat → Shared → Shared → Prop := fun n s₀ s => ∃ σ H, Inv X [] σ H s ∧ g < s.gens.size ∧ fin n H

abbrev GSeg (X : Cx) (A : Around) (g : Nat) (b : Bool) (fin : Nat → Hp → Prop) (stp : Hp → Prop) := Seg (model X.prog X.w) A (fun n s₀ r s₁ => r = .ok .next ∧ GRs X g fin n s₀ s₁) (GYs X g b stp)

theorem compTurn_one (elt tg iter : Expr) (ifs : List Expr) (scope : Scope) (pos : Pos) (it acc : Value) (env : Env) :
    compTurn (.GeneratorExp elt [⟨tg, iter, ifs, 0⟩] scope pos) 0 it acc env = (do
      standAt iter.pos
      match ← pyNext it with
      | none => pure (.done .next)
      | some v =>
        letOwnedTupleGo tg it v
        assign tg env v
        let mut ok := true
        for c in ifs do
          if ok then ok ← isTrue c env (eval c env)
        if ok then
          (do let v ← eval elt env; standAt elt.pos; let _ ← yieldOut env v)
        again (.compLoop (.GeneratorExp elt [⟨tg, iter, ifs, 0⟩] scope pos) 0 it acc env)) := by rfl
theorem compTurn_two1 (elt tg0 iter0 tg iter : Expr) (ifs0 ifs : List Expr) (scope : Scope) (pos : Pos) (it acc : Value) (env : Env) :
    compTurn (.GeneratorExp elt [⟨tg0, iter0, ifs0, 0⟩, ⟨tg, iter, ifs, 0⟩] scope pos) 1 it acc env = (do
      standAt iter.pos
      match ← pyNext it with
      | none => pure (.done .next)
      | some v =>
        letOwnedTupleGo tg it v
        assign tg env v
        let mut ok := true
        for c in ifs do
          if ok then ok ← isTrue c env (eval c env)
        if ok then
          (do let v ← eval elt env; standAt elt.pos; let _ ← yieldOut env v)
        again (.compLoop (.GeneratorExp elt [⟨tg0, iter0, ifs0, 0⟩, ⟨tg, iter, ifs, 0⟩] scope pos) 1 it acc env)) := by rfl
theorem compTurn_two0 (elt tg0 iter0 tg iter : Expr) (ifs0 ifs : List Expr) (scope : Scope) (pos : Pos) (it acc : Value) (env : Env) :
    compTurn (.GeneratorExp elt [⟨tg0, iter0, ifs0, 0⟩, ⟨tg, iter, ifs, 0⟩] scope pos) 0 it acc env = (do
      standAt iter0.pos
      match ← pyNext it with
      | none => pure (.done .next)
      | some v =>
        letOwnedTupleGo tg0 it v
        assign tg0 env v
        let mut ok := true
        for c in ifs0 do
          if ok then ok ← isTrue c env (eval c env)
        if ok then
          let x ← eval iter env
          standAt iter.pos
          let x ← foldedSetIterable iter env x
          let _ ← runOwn (.compStart (.GeneratorExp elt [⟨tg0, iter0, ifs0, 0⟩, ⟨tg, iter, ifs, 0⟩] scope pos) 1 (← holding [x] (pyIter x)) acc env) env
        again (.compLoop (.GeneratorExp elt [⟨tg0, iter0, ifs0, 0⟩, ⟨tg, iter, ifs, 0⟩] scope pos) 0 it acc env)) := by rfl

section
variable {X : Cx}
/-- where the generator's code stands -/
structure GAt (X : Cx) (A : Around) (c : Code) (fs : List Frame) : Prop where
  over : A.over c fs = X.A
  split : splitAtGen fs = none
  guard : fs.any Frame.guarded = false

/-- the last clause's loop, from a turn on -/
theorem seg_last {A : Around} {g : Nat} {b : Bool} {fin fin0 : Nat → Hp → Prop} {stp : Hp → Prop} {e elt tg iter : Expr} {ifs : List Expr} {d : Nat} {acc : Value} {it : Addr} {fp : List Addr} {tn : Nat → Heap → Prop} {J : It} {tgt : TG} {tt : TT} {te : TE} {vs : List Nat} {σ : L2.St}
    {fs : List Frame} {hdl : Value → Sem Unit} {pins : List (Addr × Obj)} {W : Nat → Nat → Nat → Hp → Prop}
    (hc : X.calm = true) (hco : X.env.scope.isCoroutine = false)
    (hden : (model X.prog X.w).den (.compLoop e d (.ref it) acc X.env) = (compTurn e d (.ref it) acc X.env).onRaise hdl)
    (hturn : compTurn e d (.ref it) acc X.env = (do
      standAt iter.pos
      match ← pyNext (.ref it) with
      | none => pure (.done .next)
      | some v =>
        letOwnedTupleGo tg (.ref it) v
        assign tg X.env v
        let mut ok := true
        for c in ifs do
          if ok then ok ← isTrue c X.env (eval c X.env)
        if ok then
          (do let v ← eval elt X.env; standAt elt.pos; let _ ← yieldOut X.env v)
        again (.compLoop e d (.ref it) acc X.env)))
    (hat : GAt X A (.compLoop e d (.ref it) acc X.env) fs)
    (T : Turn X.prog X.w X.K tg J fp it tn) (hpn : ∀ p ∈ X.pn ++ pins, ∀ b ∈ fp, p.1 ≠ b) (hfp : ∀ b ∈ fp, (b ∈ X.ex ∨ X.s_0.heap.objs.size ≤ b) ∧ b ≠ X.env.locals ∧ b ∉ X.fs ∧ (∀ x c, X.env.cells.lookup x = some c → c ≠ b))
    (pg : PG X tg tgt) (pt : PTs X ifs tt) (pe : PE X elt te) (hx : X.xe = fun _ _ => False)
    (turn : ∀ i m k H, W i m k H →
      (J.stop i H ∧ fin k H) ∨ (J.go i H ∧ ∃ Nx : Nat → Hp → Prop, (∀ k' H', Nx k' H' → ∃ m', m' < m ∧ W (i + 1) m' k' H') ∧ ∀ x H', J.yld i H x H' → tgt x (wipe σ vs) H' fun σ2 H2 => wipe σ2 vs = wipe σ vs ∧ tt σ2 H2 fun bb H3 =>
        if bb = true then gbYield b te Nx stp k σ2 H3 else Nx k H3))
    (hend : ∀ k s₀ s H, Inv X pins (wipe σ vs) H s → g < s.gens.size → fin k H → GSeg X A g b fin0 stp k s₀ (.compLoop e d (.ref it) acc X.env) (.pure (.done .next)) fs s) :
    ∀ (m i k : Nat) (s₀ s : Shared) (H : Hp), W i m k H → Inv X pins (wipe σ vs) H s → tn i s.heap → (∀ b ∈ fp, H b = none) → g < s.gens.size →
      GSeg X A g b fin0 stp k s₀ (.compLoop e d (.ref it) acc X.env) ((model X.prog X.w).den (.compLoop e d (.ref it) acc X.env)) fs s := by
  have stat : ∀ {H' : Hp}, (∀ b ∈ fp, H' b = none) → ∀ b ∈ fp, FpOk X pins H' b := fun {H'} hn b hb =>
    ⟨hn b hb, (hfp b hb).2.1, (hfp b hb).2.2.1, (hfp b hb).1, (hfp b hb).2.2.2, fun p hp => hpn p hp b hb⟩
  have hy : ∀ v, yieldOut X.env v = yieldValue v := fun v => by simp only [yieldOut, hco, Bool.false_eq_true, if_false]
  intro m
  induction m using Nat.strongRecOn with
  | ind m ih =>
    intro i k s₀ s H hw I st n0 hg
    rw [hden, hturn, Sem.onRaise_eq_wrap]
    refine seg_bind_wrap (wpAny_standAt ?_)
    refine seg_bind_wrap ?_
    rw [hat.over]
    rcases turn i m k H hw with ⟨stop, qq⟩ | ⟨go, Nx, hNx, step⟩
    · refine wpAny_gsz (Nat.succ_le_of_lt hg) (wpAny_mono (T.done X rfl rfl rfl hc i pins s _ H (fun _ _ => False) I (stat n0) st stop) (fun r s6 h6 hgs => ?_) fun _ _ z => z.elim)
      obtain ⟨rfl, I6⟩ := h6
      exact hend k s₀ s6 H I6 hgs qq
    · refine wpAny_gsz (Nat.succ_le_of_lt hg) (wpAny_mono (T.item X rfl rfl rfl hc i pins s _ H (fun _ _ => False) I (stat n0) st go) (fun r s6 h6 hg6 => ?_) fun _ _ z => z.elim)
      obtain ⟨u, rfl, h6⟩ := h6
      refine seg_bind_wrap ?_
      rw [hat.over]
      refine wpAny_gsz hg6 (wpAny_mono h6 (fun _ s7 h7 hg7 => ?_) fun _ _ z => z.elim)
      obtain ⟨x, H7, I7, r7, y7, st7, n7⟩ := h7
      have I7' := I7.pinned (stat n7) (T.obj _ _ st7)
      refine seg_bind_wrap ?_
      rw [hat.over]
      refine wpAny_gsz hg7 (wpAny_mono (pg.run _ s7 _ H7 x u _ I7' r7 (step x H7 y7)) (fun _ s8 h8 hg8 => ?_) fun e s' z => by rw [hx] at z; exact z.elim)
      obtain ⟨σ8, H8, I8, hw8, q8⟩ := h8
      refine seg_bind_wrap ?_
      rw [hat.over]
      refine wpAny_gsz hg8 (wpAny_mono (pt.run _ s8 σ8 H8 _ I8 q8) (fun bb s9 h9 hg9 => ?_) fun e s' z => by rw [hx] at z; exact z.elim)
      obtain ⟨H9, I9, q9⟩ := h9
      have fin2 : ∀ {s' : Shared} {H' : Hp} (k' : Nat) (s₀' : Shared), Inv X (pins ++ pinsAt fp s7.heap) σ8 H' s' → g < s'.gens.size → Nx k' H' →
          GSeg X A g b fin0 stp k' s₀' (.compLoop e d (.ref it) acc X.env) ((model X.prog X.w).den (.compLoop e d (.ref it) acc X.env)) fs s' := fun {s' H'} k' s₀' I' hg' nx => by
        obtain ⟨m', hm, w'⟩ := hNx k' H' nx
        have pin' : ∀ b ∈ fp, ∀ o, s7.heap.get? b = some o → s'.heap.get? b = some o ∧ H' b = none := fun b hb o e =>
          let z := I'.pin (b, o) (List.mem_append_right _ (List.mem_append_right _ (mem_pinsAt hb e)))
          ⟨z.1, z.2.1⟩
        have hl : (wipe σ vs).length = σ8.length := by rw [← hw8, wipe_length]
        refine ih m' hm (i + 1) k' s₀' s' H' w' ((I'.unpinned (pins := pins)).weak hl (fun j v e => ?_)) (T.keep _ _ _ st7 fun b hb o e => (pin' b hb o e).1) (fun b hb => ?_) hg'
        · rw [← hw8] at e
          exact (wipe_some e).1
        · obtain ⟨o, e, _⟩ := T.obj _ _ st7 b hb
          exact (pin' b hb o e).2
      cases bb with
      | false =>
        simp only [Bool.false_eq_true, if_false] at q9 ⊢
        exact seg_again rfl (fin2 k s₀ I9 hg9 q9)
      | true =>
        simp only [if_true] at q9 ⊢
        simp only [hy]
        rw [Sem.bind_eq_wrap', Sem.bind_eq_wrap', Sem.wrap_wrap, Sem.wrap_wrap]
        refine seg_wrap ?_
        rw [hat.over]
        refine wpAny_gsz hg9 (wpAny_mono (pe.run _ s9 σ8 H9 _ I9 q9) (fun yv s10 h10 hg10 => ?_) fun e s' z => by rw [hx] at z; exact z.elim)
        obtain ⟨z, H10, I10, r10, c, k', rfl, rfl, q10⟩ := h10
        cases r10
        refine seg_at (seg_yield hat.split rfl hat.guard ⟨c, σ8, H10, rfl, I10.pins_of (fun p hp => nomatch hp), hg10, ?_⟩)
        by_cases hcb : c = b
        · rw [if_pos hcb] at q10 ⊢
          exact q10
        · rw [if_neg hcb] at q10 ⊢
          intro s'' h1 h2 h3 h4
          exact seg_again rfl (fin2 k' s'' (inv_same I10 h1 h2 h3) h4 q10)
end
end Gx
end

section
set_option Elab.async false
set_option linter.all false
set_option maxRecDepth 100000
set_option maxHeartbeats 2000000
/-! Gx3: starts, the outer one of two clauses. -/
namespace Gx
open PySem PySem.Spec PyProof.Rows L2 GxR GenW
theorem wipe_keep {σ : L2.St} {i : Nat} {x : V} : ∀ {vs : List Nat}, σ[i]? = some (some x) → i ∉ vs → (wipe σ vs)[i]? = some (some x)
  | [], h, _ => h
  | v :: vs, h, hi => by
    unfold wipe
    rw [List.getElem?_set_ne (fun e => hi (List.mem_cons.mpr (.inl e.symm)))]
    exact wipe_keep h fun hm => hi (List.mem_cons_of_mem _ hm)
section
variable {X : Cx}
theorem seg_start {A : Around} {g : Nat} {b : Bool} {fin0 : Nat → Hp → Prop} {stp : Hp → Prop} {e : Expr} {d : Nat} {acc : Value} {it : Addr} {fp : List Addr} {tg : Expr} {tn : Nat → Heap → Prop} {J : It} {fs : List Frame} {hdl : Value → Sem Unit} {ipos : Pos} {k : Nat} {s₀ s : Shared}
    (hden : (model X.prog X.w).den (.compStart e d (.ref it) acc X.env) = (compStart e d (.ref it) acc X.env).onRaise hdl)
    (hst : compStart e d (.ref it) acc X.env = (do
      if (← ask).params.followText "comprehension-iter-twice" then return ← again (.compLoop e d (.ref it) acc X.env)
      rule "comprehension.iter-twice"
      standAt ipos
      again (.compLoop e d (← pyIter (.ref it)) acc X.env)))
    (hq : (Code.compLoop e d (.ref it) acc X.env).quiet = true)
    (T : Turn X.prog X.w X.K tg J fp it tn) {i : Nat} (st : tn i s.heap)
    (loop : GSeg X A g b fin0 stp k s₀ (.compLoop e d (.ref it) acc X.env) ((model X.prog X.w).den (.compLoop e d (.ref it) acc X.env)) fs s) :
    GSeg X A g b fin0 stp k s₀ (.compStart e d (.ref it) acc X.env) ((model X.prog X.w).den (.compStart e d (.ref it) acc X.env)) fs s := by
  rw [hden, hst, Sem.onRaise_eq_wrap]
  refine seg_bind_wrap (wpAny_askSetting ?_)
  split
  · exact seg_again hq loop
  · refine seg_bind_wrap (wpAny_rule (seg_bind_wrap (wpAny_standAt (seg_bind_wrap ?_))))
    exact T.self _ i s _ _ st (seg_again hq loop)

/-- the first of two clauses, from a turn on -/
theorem seg_outer {A : Around} {g : Nat} {b : Bool} {fin fin0 : Nat → Hp → Prop} {stp : Hp → Prop} {elt tg0 iter0 tg iter : Expr} {ifs0 ifs : List Expr} {scope : Scope} {pos : Pos} {acc : Value} {it : Addr} {fp : List Addr} {tn : Nat → Heap → Prop} {J : It} {tgt0 tgt : TG} {tt0 tt : TT} {te : TE} {wi : TI} {vs vs1 : List Nat} {σ : L2.St}
    {fs : List Frame} {pins : List (Addr × Obj)} {W : Nat → Nat → Nat → Hp → Prop}
    (hc : X.calm = true) (hco : X.env.scope.isCoroutine = false)
    (hat : GAt X A (.compLoop (.GeneratorExp elt [⟨tg0, iter0, ifs0, 0⟩, ⟨tg, iter, ifs, 0⟩] scope pos) 0 (.ref it) acc X.env) fs)
    (T : Turn X.prog X.w X.K tg0 J fp it tn) (hpn : ∀ p ∈ X.pn ++ pins, ∀ b ∈ fp, p.1 ≠ b) (hfp : ∀ b ∈ fp, (b ∈ X.ex ∨ X.s_0.heap.objs.size ≤ b) ∧ b ≠ X.env.locals ∧ b ∉ X.fs ∧ (∀ x c, X.env.cells.lookup x = some c → c ≠ b))
    (hvs : ∀ j ∈ vs1, j ∈ vs)
    (pg0 : PG X tg0 tgt0) (pt0 : PTs X ifs0 tt0) (pi : PI X tg iter wi) (hfo : ∀ v, foldedSetIterable iter X.env v = pure v) (pg : PG X tg tgt) (pt : PTs X ifs tt) (pe : PE X elt te) (hx : X.xe = fun _ _ => False)
    (turn : ∀ i m k H, W i m k H →
      (J.stop i H ∧ fin k H) ∨ (J.go i H ∧ ∃ Nx : Nat → Hp → Prop, (∀ k' H', Nx k' H' → ∃ m', m' < m ∧ W (i + 1) m' k' H') ∧ ∀ x H', J.yld i H x H' → tgt0 x (wipe σ vs) H' fun σ2 H2 => wipe σ2 vs = wipe σ vs ∧ tt0 σ2 H2 fun bb H3 =>
        if bb = true then gbFor wi tgt tt (gbYield b te) vs1 Nx stp k σ2 H3 else Nx k H3))
    (hend : ∀ k s₀ s H, Inv X pins (wipe σ vs) H s → g < s.gens.size → fin k H →
      GSeg X A g b fin0 stp k s₀ (.compLoop (.GeneratorExp elt [⟨tg0, iter0, ifs0, 0⟩, ⟨tg, iter, ifs, 0⟩] scope pos) 0 (.ref it) acc X.env) (.pure (.done .next)) fs s) :
    ∀ (m i k : Nat) (s₀ s : Shared) (H : Hp), W i m k H → Inv X pins (wipe σ vs) H s → tn i s.heap → (∀ b ∈ fp, H b = none) → g < s.gens.size →
      GSeg X A g b fin0 stp k s₀ (.compLoop (.GeneratorExp elt [⟨tg0, iter0, ifs0, 0⟩, ⟨tg, iter, ifs, 0⟩] scope pos) 0 (.ref it) acc X.env)
        ((model X.prog X.w).den (.compLoop (.GeneratorExp elt [⟨tg0, iter0, ifs0, 0⟩, ⟨tg, iter, ifs, 0⟩] scope pos) 0 (.ref it) acc X.env)) fs s := by
  have stat : ∀ {H' : Hp}, (∀ b ∈ fp, H' b = none) → ∀ b ∈ fp, FpOk X pins H' b := fun {H'} hn b hb =>
    ⟨hn b hb, (hfp b hb).2.1, (hfp b hb).2.2.1, (hfp b hb).1, (hfp b hb).2.2.2, fun p hp => hpn p hp b hb⟩
  intro m
  induction m using Nat.strongRecOn with
  | ind m ih =>
    intro i k s₀ s H hw I st n0 hg
    show GSeg X A g b fin0 stp k s₀ _ ((compTurn (.GeneratorExp elt [⟨tg0, iter0, ifs0, 0⟩, ⟨tg, iter, ifs, 0⟩] scope pos) 0 (.ref it) acc X.env).onRaise (leaving X.env)) fs s
    rw [compTurn_two0, Sem.onRaise_eq_wrap]
    refine seg_bind_wrap (wpAny_standAt ?_)
    refine seg_bind_wrap ?_
    rw [hat.over]
    rcases turn i m k H hw with ⟨stop, qq⟩ | ⟨go, Nx, hNx, step⟩
    · refine wpAny_gsz (Nat.succ_le_of_lt hg) (wpAny_mono (T.done X rfl rfl rfl hc i pins s _ H (fun _ _ => False) I (stat n0) st stop) (fun r s6 h6 hgs => ?_) fun _ _ z => z.elim)
      obtain ⟨rfl, I6⟩ := h6
      exact hend k s₀ s6 H I6 hgs qq
    · refine wpAny_gsz (Nat.succ_le_of_lt hg) (wpAny_mono (T.item X rfl rfl rfl hc i pins s _ H (fun _ _ => False) I (stat n0) st go) (fun r s6 h6 hg6 => ?_) fun _ _ z => z.elim)
      obtain ⟨u, rfl, h6⟩ := h6
      refine seg_bind_wrap ?_
      rw [hat.over]
      refine wpAny_gsz hg6 (wpAny_mono h6 (fun _ s7 h7 hg7 => ?_) fun _ _ z => z.elim)
      obtain ⟨x, H7, I7, r7, y7, st7, n7⟩ := h7
      have I7' := I7.pinned (stat n7) (T.obj _ _ st7)
      refine seg_bind_wrap ?_
      rw [hat.over]
      refine wpAny_gsz hg7 (wpAny_mono (pg0.run _ s7 _ H7 x u _ I7' r7 (step x H7 y7)) (fun _ s8 h8 hg8 => ?_) fun e s' z => by rw [hx] at z; exact z.elim)
      obtain ⟨σ8, H8, I8, hw8, q8⟩ := h8
      refine seg_bind_wrap ?_
      rw [hat.over]
      refine wpAny_gsz hg8 (wpAny_mono (pt0.run _ s8 σ8 H8 _ I8 q8) (fun bb s9 h9 hg9 => ?_) fun e s' z => by rw [hx] at z; exact z.elim)
      obtain ⟨H9, I9, q9⟩ := h9
      have fin2 : ∀ {s' : Shared} {H' : Hp} {σ' : L2.St} (k' : Nat) (s₀' : Shared), Inv X (pins ++ pinsAt fp s7.heap) σ' H' s' → σ'.length = σ8.length → (∀ j v, (wipe σ8 vs)[j]? = some (some v) → σ'[j]? = some (some v)) → g < s'.gens.size → Nx k' H' →
          GSeg X A g b fin0 stp k' s₀' (.compLoop (.GeneratorExp elt [⟨tg0, iter0, ifs0, 0⟩, ⟨tg, iter, ifs, 0⟩] scope pos) 0 (.ref it) acc X.env)
            ((model X.prog X.w).den (.compLoop (.GeneratorExp elt [⟨tg0, iter0, ifs0, 0⟩, ⟨tg, iter, ifs, 0⟩] scope pos) 0 (.ref it) acc X.env)) fs s' := fun {s' H' σ'} k' s₀' I' hl' hσ hg' nx => by
        obtain ⟨m', hm, w'⟩ := hNx k' H' nx
        have pin' : ∀ b ∈ fp, ∀ o, s7.heap.get? b = some o → s'.heap.get? b = some o ∧ H' b = none := fun b hb o e =>
          let z := I'.pin (b, o) (List.mem_append_right _ (List.mem_append_right _ (mem_pinsAt hb e)))
          ⟨z.1, z.2.1⟩
        have hl : (wipe σ vs).length = σ'.length := by rw [← hw8, wipe_length, hl']
        refine ih m' hm (i + 1) k' s₀' s' H' w' ((I'.unpinned (pins := pins)).weak hl (fun j v e => ?_)) (T.keep _ _ _ st7 fun b hb o e => (pin' b hb o e).1) (fun b hb => ?_) hg'
        · rw [← hw8] at e
          exact hσ j v e
        · obtain ⟨o, e, _⟩ := T.obj _ _ st7 b hb
          exact (pin' b hb o e).2
      cases bb with
      | false =>
        simp only [Bool.false_eq_true, if_false] at q9 ⊢
        exact seg_again rfl (fin2 k s₀ I9 rfl (fun j v e => (wipe_some e).1) hg9 q9)
      | true =>
        simp only [if_true] at q9 ⊢
        refine seg_bind_wrap ?_
        rw [hat.over]
        refine wpAny_gsz hg9 (wpAny_mono (pi.run _ s9 σ8 H9 _ I9 q9) (fun xv s10 h10 hg10 => ?_) fun e s' z => by rw [hx] at z; exact z.elim)
        refine seg_bind_wrap (wpAny_standAt ?_)
        refine seg_bind_wrap (wpAny_of_eq (hfo xv) ?_)
        refine seg_bind_wrap (wpAny_holding ?_)
        rw [hat.over]
        refine wpAny_gsz hg10 (wpAny_mono h10 (fun itv s11 h11 hg11 => ?_) fun e s' z => by rw [hx] at z; exact z.elim)
        obtain ⟨it1, fp1, tn1, J1, H11, rfl, I11, T1, st11, f11, W1, ⟨m1, w1⟩, turn1⟩ := h11
        refine seg_call fun p => ?_
        have hat1 : ∀ c', c'.weight = 0 → c'.cUnits = 0 → ∀ {kk : Result → Sem PySem.Fin} {lv : List Value}, GAt X A c' (.ret kk none false lv (.compLoop (.GeneratorExp elt [⟨tg0, iter0, ifs0, 0⟩, ⟨tg, iter, ifs, 0⟩] scope pos) 0 (.ref it) acc X.env) p [] :: fs) := fun c' hw' hu' kk lv =>
          ⟨(over_loop hw' hu').trans hat.over, by show (splitAtGen fs).map _ = none; rw [hat.split]; rfl, by show (false || fs.any Frame.guarded) = false; rw [hat.guard]; rfl⟩
        have I11w : Inv X (pins ++ pinsAt fp s7.heap) (wipe σ8 vs1) H11 s11 := I11.weak (wipe_length _ _) fun j v e => (wipe_some e).1
        refine seg_start (hdl := fun x => do noteFrame x X.env; standAt theWindowsPlace) (ipos := iter.pos) rfl rfl rfl T1 st11 ?_
        refine seg_last (hdl := fun x => do noteFrame x X.env; theTreesLotGoes x) (iter := iter) (ifs := ifs) (tg := tg) (elt := elt) (fin := Nx) (vs := vs1) (σ := σ8) hc hco rfl (compTurn_two1 ..) (hat1 _ rfl rfl) T1 (fun p hp b hb => (f11 b hb).2.2.2.2.2 p hp)
          (fun b hb => ⟨(f11 b hb).2.2.2.1, (f11 b hb).2.1, (f11 b hb).2.2.1, (f11 b hb).2.2.2.2.1⟩) pg pt pe hx turn1 (fun k' s₀' s' H' I' hg' nx => ?_) m1 0 k s₀ s11 H11 w1 I11w st11 (fun b hb => (f11 b hb).1) hg11
        refine seg_leaf (.ok .next) ?_
        refine seg_again rfl (fin2 k' s₀' I' (wipe_length _ _) (fun j v e => ?_) hg' nx)
        obtain ⟨e1, e2⟩ := wipe_some e
        exact wipe_keep e1 fun hj => e2 (hvs j hj)
end
end Gx
end

section
set_option Elab.async false
set_option linter.all false
set_option maxRecDepth 100000
set_option maxHeartbeats 2000000
/-! Gx4: any and all draw a generator expression. -/
namespace Gx
open PySem PySem.Spec PyProof.Rows L2 GxR GenW
open Sem (wp)

theorem bare_setGen {s : Shared} {g : Nat} {x : GenState} (h : AllBare s.gens) (hx : x.bare = true) : AllBare (s.setGen g x).gens := fun y hy => by
  have hy : y ∈ s.gens.setIfInBounds g x := hy
  rcases Array.mem_or_eq_of_mem_setIfInBounds hy with h1 | h1
  · exact h y h1
  · rw [h1]; exact hx
theorem isGen_of {X : Cx} {pins : List (Addr × Obj)} {σ : L2.St} {H : Hp} {s : Shared} {a : Addr} {go : Obj} {g : Nat} (I : Inv X pins σ H s) (hp : (a, go) ∈ X.pn) (hgo : ∃ nm qn, go.cls = .type "generator" ∧ go.data = .fields #[.int g 0, nm, qn] ∧ go.slots = #[]) : s.heap.IsGen a g := by
  obtain ⟨nm, qn, h1, h2, h3⟩ := hgo
  exact ⟨go, nm, qn, (I.pin (a, go) (List.mem_append_left _ hp)).1, h1, h2, h3⟩

section
variable {X : Cx} {b : Bool} {fin : Nat → Hp → Prop} {stp : Hp → Prop} {g : Nat} {a : Addr} {A : Around}
/-- the generator sleeps (or is fresh) and will go on -/
def Wait (X : Cx) (A : Around) (g : Nat) (a : Addr) (b : Bool) (fin : Nat → Hp → Prop) (stp : Hp → Prop) (n : Nat) (s : Shared) : Prop :=
  s.heap.IsGen a g ∧ s.heap.NoLimit ∧ g < s.gens.size ∧ ∃ gs, s.gens[g]? = some gs ∧ gs.Goes (model X.prog X.w) A.in1.in1 (fun n s₀ r s₁ => r = .ok .next ∧ GRs X g fin n s₀ s₁) (GYs X g b stp) n (.send .none) (s.setGen g .running)
/-- what the drawing ends with -/
def GRes (X : Cx) (b : Bool) (fin : Nat → Hp → Prop) (stp : Hp → Prop) (c : Bool) (s : Shared) : Prop :=
  ∃ σ H, Inv X [] σ H s ∧ ((c = b ∧ stp H) ∨ (c = !b ∧ ∃ n, fin n H))

theorem draw {go : Obj} (hgo : ∃ nm qn, go.cls = .type "generator" ∧ go.data = .fields #[.int g 0, nm, qn] ∧ go.slots = #[]) (hp : (a, go) ∈ X.pn) (hh : A.handled = none) (hd : A.depth < recursionLimit)
    {n : Nat} {s : Shared} (wt : Wait X A g a b fin stp n s) {Q : Option Value → Shared → Prop} {E : Value → Shared → Prop}
    (hstop : ∀ s', GRes X b fin stp b s' → Q (some (.bool b)) s') (hmore : ∀ m s', n = m + 1 → Wait X A g a b fin stp m s' → Q (some (.bool (!b))) s') (hend : ∀ s', GRes X b fin stp (!b) s' → Q none s') :
    wpAny (model X.prog X.w) A.in1 (pyNext (.ref a)) Q E s := by
  obtain ⟨h1, h2, h3, gs, h4, h5⟩ := wt
  refine wpAny_pyNext_genexpQ (A := A.in1) hh h2 hd h1 h4 (P := GRs X g fin) h5 (fun v s₁ gs' hb' hy => ?_) fun s₁ hP h' hk => ?_
  · obtain ⟨c, σ, H, rfl, I, hg, hc⟩ := hy
    have I2 : Inv X [] σ H (s₁.setGen g gs') := inv_same I rfl rfl (bare_setGen I.bare hb')
    by_cases hcb : c = b
    · rw [if_pos hcb] at hc
      rw [hcb]
      exact hstop _ ⟨σ, H, I2, .inl ⟨rfl, hc⟩⟩
    · rw [if_neg hcb] at hc
      have e : c = !b := by cases c <;> cases b <;> simp_all
      rw [e]
      have hz := hc ((s₁.setGen g gs').setGen g .running) rfl rfl (bare_setGen I2.bare rfl) (by rw [setGen_size, setGen_size]; exact hg)
      cases n with
      | zero => exact hz.elim
      | succ m =>
        exact hmore m _ rfl ⟨isGen_of I2 hp hgo, I2.nolimit, by rw [setGen_size]; exact hg, gs', setGen_at hg, hz⟩
  · obtain ⟨σ, H, I, hg, hf⟩ := hP
    refine hend _ ⟨σ, H, ?_, .inr ⟨rfl, n, hf⟩⟩
    have I2 : Inv X [] σ H (s₁.setGen g .finished) := inv_same I rfl rfl (bare_setGen I.bare rfl)
    exact I2.kept (t' := s₁.toks) hk

theorem any_loop {go : Obj} (hb : b = true) (hgo : ∃ nm qn, go.cls = .type "generator" ∧ go.data = .fields #[.int g 0, nm, qn] ∧ go.slots = #[]) (hp : (a, go) ∈ X.pn) (hh : A.handled = none) (hd : A.depth < recursionLimit) {R : Result → Shared → Prop}
    (hR : ∀ c s', GRes X b fin stp c s' → R (.ok (.ret (.bool c))) s') :
    ∀ n s, Wait X A g a b fin stp n s → codeAny (model X.prog X.w) A (.builtin "any.loop" ⟨[.ref a], []⟩) R s := by
  subst hb
  intro n
  induction n with
  | zero =>
    intro s wt
    refine codeAny_builtin F.entry_any_loop ?_
    rw [Around.under_plainId F.plain_any_loop _]
    show wpAny _ A.in1 (pyNext (.ref a) >>= _) _ _ s
    refine wpAny_bind (draw hgo hp hh hd wt (fun s' hs => ?_) (fun m s' hm _ => by cases hm) fun s' hs => ?_)
    · refine wpAny_bind (wpAny_holding (wpAny_truthy_bool ?_))
      refine wpAny_bind (wpAny_letGo ?_)
      simp only [if_true]
      exact wpAny_bind (wpAny_rule (wpAny_pure (hR true s' hs)))
    · exact wpAny_bind (wpAny_rule (wpAny_pure (hR false s' hs)))
  | succ n ih =>
    intro s wt
    refine codeAny_builtin F.entry_any_loop ?_
    rw [Around.under_plainId F.plain_any_loop _]
    show wpAny _ A.in1 (pyNext (.ref a) >>= _) _ _ s
    refine wpAny_bind (draw hgo hp hh hd wt (fun s' hs => ?_) (fun m s' hm wt' => ?_) fun s' hs => ?_)
    · refine wpAny_bind (wpAny_holding (wpAny_truthy_bool ?_))
      refine wpAny_bind (wpAny_letGo ?_)
      simp only [if_true]
      exact wpAny_bind (wpAny_rule (wpAny_pure (hR true s' hs)))
    · cases hm
      refine wpAny_bind (wpAny_holding (wpAny_truthy_bool ?_))
      refine wpAny_bind (wpAny_letGo ?_)
      simp only [Bool.not_true, Bool.false_eq_true, if_false]
      exact wpAny_pure ⟨plainId_quiet F.plain_any_loop _, ih s' wt'⟩
    · exact wpAny_bind (wpAny_rule (wpAny_pure (hR false s' hs)))
theorem all_loop {go : Obj} (hb : b = false) (hgo : ∃ nm qn, go.cls = .type "generator" ∧ go.data = .fields #[.int g 0, nm, qn] ∧ go.slots = #[]) (hp : (a, go) ∈ X.pn) (hh : A.handled = none) (hd : A.depth < recursionLimit) {R : Result → Shared → Prop}
    (hR : ∀ c s', GRes X b fin stp c s' → R (.ok (.ret (.bool c))) s') :
    ∀ n s, Wait X A g a b fin stp n s → codeAny (model X.prog X.w) A (.builtin "all.loop" ⟨[.ref a], []⟩) R s := by
  subst hb
  intro n
  induction n with
  | zero =>
    intro s wt
    refine codeAny_builtin F.entry_all_loop ?_
    rw [Around.under_plainId F.plain_all_loop _]
    show wpAny _ A.in1 (pyNext (.ref a) >>= _) _ _ s
    refine wpAny_bind (draw hgo hp hh hd wt (fun s' hs => ?_) (fun m s' hm _ => by cases hm) fun s' hs => ?_)
    · refine wpAny_bind (wpAny_holding (wpAny_truthy_bool ?_))
      refine wpAny_bind (wpAny_letGo ?_)
      simp only [Bool.false_eq_true, if_false]
      exact wpAny_bind (wpAny_rule (wpAny_pure (hR false s' hs)))
    · exact wpAny_bind (wpAny_rule (wpAny_pure (hR true s' hs)))
  | succ n ih =>
    intro s wt
    refine codeAny_builtin F.entry_all_loop ?_
    rw [Around.under_plainId F.plain_all_loop _]
    show wpAny _ A.in1 (pyNext (.ref a) >>= _) _ _ s
    refine wpAny_bind (draw hgo hp hh hd wt (fun s' hs => ?_) (fun m s' hm wt' => ?_) fun s' hs => ?_)
    · refine wpAny_bind (wpAny_holding (wpAny_truthy_bool ?_))
      refine wpAny_bind (wpAny_letGo ?_)
      simp only [Bool.false_eq_true, if_false]
      exact wpAny_bind (wpAny_rule (wpAny_pure (hR false s' hs)))
    · cases hm
      refine wpAny_bind (wpAny_holding (wpAny_truthy_bool ?_))
      refine wpAny_bind (wpAny_letGo ?_)
      simp only [Bool.not_false, if_true]
      exact wpAny_pure ⟨plainId_quiet F.plain_all_loop _, ih s' wt'⟩
    · exact wpAny_bind (wpAny_rule (wpAny_pure (hR true s' hs)))
/-- any(g), all(g) -/
theorem call_any_gen {go : Obj} (hgo : ∃ nm qn, go.cls = .type "generator" ∧ go.data = .fields #[.int g 0, nm, qn] ∧ go.slots = #[]) (hp : (a, go) ∈ X.pn) (hh : A.handled = none) (hd : A.depth < recursionLimit) {Q : Value → Shared → Prop} {E : Value → Shared → Prop} {n : Nat} {s : Shared}
    (wt : Wait X A g a true fin stp n s) (hR : ∀ c s', GRes X true fin stp c s' → Q (.bool c) s') : wpAny (model X.prog X.w) A (call (.builtin "any") [.ref a]) Q E s := by
  refine call_function_tree F.kind_any F.plain_any F.entry_any (F.args_any1 _) ?_
  unfold Builtin.«any»
  refine wpAny_bind (m := oneArg "any" _) (wpAny_pure ?_)
  refine wpAny_bind (wpAny_pyIter_gen wt.1 ?_)
  exact wpAny_pure ⟨plainId_quiet F.plain_any_loop _, any_loop rfl hgo hp hh hd hR n s wt⟩
theorem call_all_gen {go : Obj} (hgo : ∃ nm qn, go.cls = .type "generator" ∧ go.data = .fields #[.int g 0, nm, qn] ∧ go.slots = #[]) (hp : (a, go) ∈ X.pn) (hh : A.handled = none) (hd : A.depth < recursionLimit) {Q : Value → Shared → Prop} {E : Value → Shared → Prop} {n : Nat} {s : Shared}
    (wt : Wait X A g a false fin stp n s) (hR : ∀ c s', GRes X false fin stp c s' → Q (.bool c) s') : wpAny (model X.prog X.w) A (call (.builtin "all") [.ref a]) Q E s := by
  refine call_function_tree F.kind_all F.plain_all F.entry_all (F.args_all1 _) ?_
  unfold Builtin.«all»
  refine wpAny_bind (m := oneArg "all" _) (wpAny_pure ?_)
  refine wpAny_bind (wpAny_pyIter_gen wt.1 ?_)
  exact wpAny_pure ⟨plainId_quiet F.plain_all_loop _, all_loop rfl hgo hp hh hd hR n s wt⟩
end
end Gx
end

section
set_option Elab.async false
set_option linter.all false
set_option maxRecDepth 100000
set_option maxHeartbeats 2000000
/-! Gx5: a generator expression made and drawn by any or all: the rules. -/
namespace Gx
open PySem PySem.Spec PyProof.Rows L2 GxR GenW
open Sem (wp)

theorem eval_Gx (elt target iter : Expr) (ifs : List Expr) (more : List Comprehension) (scope : Scope) (pos : Pos) (env : Env) (hco : scope.isCoroutine = false) :
    eval (.GeneratorExp elt (⟨target, iter, ifs, 0⟩ :: more) scope pos) env = (do
      let x ← eval iter env
      standAt iter.pos
      let x ← genFold iter env x
      let it ← holding [x] (pyIter x)
      enterFrame
      let cl ← closureFor scope env
      let code ← genexprCode env pos (env.qual ++ "<genexpr>") scope
      let bi ← builtinsFor env.globals env.builtins
      let cenv ← newFunctionEnv scope env.globals cl [(".0", it)] (env.qual ++ "<genexpr>.") none code none bi
      newGenerator (.compStart (.GeneratorExp elt (⟨target, iter, ifs, 0⟩ :: more) scope pos) 0 it .none cenv) "<genexpr>" (env.qual ++ "<genexpr>")) := by
  rw [arm_eval_GeneratorExp]
  simp only [hco, Bool.false_eq_true, if_false]
  cases iter <;> rfl

section
variable {M : Model} {A : Around} {E : Value → Shared → Prop} {s : Shared}
theorem make_Gx {env : Env} {elt target iter : Expr} {ifs : List Expr} {more : List Comprehension} {scope : Scope} {cl : List (Str × Addr)} {pos : Pos} {Q : Value → Shared → Prop}
    (hco : scope.isCoroutine = false) (hclos : closureFor scope env = pure cl) (hcell : ∀ y ∈ scope.names, y.2 ≠ .cell) (h0 : scope.names.lookup (".0" : Str) = some NameKind.local) (hkind : scope.kind = .function)
    (hroom : A.depth < recursionLimit)
    (h : wpAny M A (eval iter env) (fun xv s₁ => wpAny M A (pyIter xv) (fun it s₂ => s₂.heap.NoLimit ∧
      wpAny M A (genexprCode env pos (env.qual ++ "<genexpr>") scope) (fun code s₃ => wpAny M A (builtinsFor env.globals env.builtins) (fun bi s₄ =>
        ∀ h', h'.Ns s₄.heap.objs.size (fun y => if y = ".0" then some it else none) → Heap.SameBut s₄.heap.objs.size (s₄.heap.push { cls := .type "frame", data := .dict #[] }) h' →
          Q (.ref h'.objs.size) { s₄ with
            gens := s₄.gens.push (.fresh (.compStart (.GeneratorExp elt (⟨target, iter, ifs, 0⟩ :: more) scope pos) 0 it .none (genEnv scope cl s₄.heap.objs.size code bi env))),
            toks := s₄.toks + 1 + 1 + 1,
            heap := h'.push { cls := .type "generator", data := .fields #[.int s₄.gens.size 0, .str "<genexpr>" (s₄.toks + 1), .str (env.qual ++ "<genexpr>") (s₄.toks + 1 + 1)] } }) E s₃) E s₂) E s₁) E s)
    (hs : ∀ x, genFold iter env x = pure x) :
    wpAny M A (eval (.GeneratorExp elt (⟨target, iter, ifs, 0⟩ :: more) scope pos) env) Q E s := by
  rw [eval_Gx _ _ _ _ _ _ _ _ hco, hclos]
  refine wpAny_bind (wpAny_mono h (fun xv s₁ h₁ => ?_) fun _ _ e => e)
  refine wpAny_bind (wpAny_standAt ?_)
  refine wpAny_bind (wpAny_of_eq (hs xv) ?_)
  refine wpAny_bind (wpAny_holding (wpAny_mono h₁ (fun it s₂ h₂ => ?_) fun _ _ e => e))
  refine wpAny_bind (wpAny_enterFrame h₂.1 hroom ?_)
  refine wpAny_bind (wpAny_pure ?_)
  refine wpAny_bind (wpAny_mono h₂.2 (fun code s₃ h₃ => ?_) fun _ _ e => e)
  refine wpAny_bind (wpAny_mono h₃ (fun bi s₄ h₄ => ?_) fun _ _ e => e)
  have hbinds : ∀ y ∈ ([((".0" : Str), it)] : List (Str × Value)), scope.names.lookup y.1 = some NameKind.local := by
    intro y hy
    rcases List.mem_cons.mp hy with rfl | hy
    · exact h0
    · cases hy
  refine wpAny_bind (wpAny_newFunctionEnv hcell hbinds (fun h' hn' hs' => ?_) hkind)
  have e : (fun y : Str => ([((".0" : Str), it)] : List (Str × Value)).reverse.lookup y) = fun y : Str => if y = (".0" : Str) then some it else none := by
    funext y
    by_cases hy : y = ".0"
    · subst hy; simp
    · have : (y == (".0" : Str)) = false := by simpa using hy
      simp [List.lookup, this, hy]
  rw [e] at hn'
  simp only [newGenerator, newFields]
  refine wpAny_bind (wpAny_newGen (wpAny_bind (wpAny_mkText (wpAny_bind (wpAny_mkText (wpAny_newObj_type ?_ (by size_fits)))))))
  exact h₄ h' hn' hs'
end

/-- the scope of a generator expression -/
structure GSc (scope : Scope) : Prop where
  co : scope.isCoroutine = false
  cell : ∀ y ∈ scope.names, y.2 ≠ .cell
  dot : scope.names.lookup (".0" : Str) = some NameKind.local

abbrev genAr (A : Around) (e : Expr) (it : Value) (cenv : Env) : Around := A.in1.in1.over (.compLoop e 0 it .none cenv) []
abbrev genCx (X : Cx) (s : Shared) (H : Hp) (scope : Scope) (C : Addr) (code : Value) (fp : List Addr) (A : Around) (pn : List (Addr × Obj)) : Cx :=
  gblk X s H (genEnv scope (cloFrom X.env.cells scope.names []) C code builtinsNs X.env) fp A pn

theorem genAr_room {k : Nat} {A : Around} {elt : Expr} {gs : List Comprehension} {sc : Scope} {p : Pos} {it : Value} {cenv : Env} (r : Room (k + 1) A) : Room k (genAr A (.GeneratorExp elt gs sc p) it cenv) := by
  refine ⟨r.hd, ?_, ?_⟩
  · have := r.dp
    show A.depth + 0 + 1 + 3 * k + 5 < _
    omega
  · have := r.un
    show A.units + 1 + 1 + 0 + 3 * 1 + 16 * k + 200 < _
    omega

section
variable {X : Cx}
/-- what a generator expression that is about to be drawn asks: wi the first clause's walked thing -/
def tGx (b : Bool) (P : Addr) (wi : TI) (rd : It → Nat → (Nat → Hp → Prop) → (Hp → Prop) → L2.St → Hp → Prop) : TE := fun σ H Q => wi σ H fun J H1 => TabG H1 P ∧ ∀ H2, Tabbed P H1 H2 → ∃ k, rd J k (fun _ H => Q (.bl (!b)) H) (fun H => Q (.bl b) H) σ H2
/-- one clause -/
def rd1 (b : Bool) (g : TG) (tt : TT) (te : TE) (vs : List Nat) : It → Nat → (Nat → Hp → Prop) → (Hp → Prop) → L2.St → Hp → Prop := fun J k fin stp σ H2 =>
  ∃ W : Nat → Nat → Nat → Hp → Prop, (∃ m, W 0 m k H2) ∧ ∀ i m k H, W i m k H →
    (J.stop i H ∧ fin k H) ∨ (J.go i H ∧ ∃ Nx : Nat → Hp → Prop, (∀ k' H', Nx k' H' → ∃ m', m' < m ∧ W (i + 1) m' k' H') ∧ ∀ x H', J.yld i H x H' → g x (wipe σ vs) H' fun σ2 H2 => wipe σ2 vs = wipe σ vs ∧ tt σ2 H2 fun bb H3 =>
      if bb = true then gbYield b te Nx stp k σ2 H3 else Nx k H3)
/-- two clauses -/
def rd2 (b : Bool) (g0 : TG) (tt0 : TT) (wi : TI) (g : TG) (tt : TT) (te : TE) (vs vs1 : List Nat) : It → Nat → (Nat → Hp → Prop) → (Hp → Prop) → L2.St → Hp → Prop := fun J k fin stp σ H2 =>
  ∃ W : Nat → Nat → Nat → Hp → Prop, (∃ m, W 0 m k H2) ∧ ∀ i m k H, W i m k H →
    (J.stop i H ∧ fin k H) ∨ (J.go i H ∧ ∃ Nx : Nat → Hp → Prop, (∀ k' H', Nx k' H' → ∃ m', m' < m ∧ W (i + 1) m' k' H') ∧ ∀ x H', J.yld i H x H' → g0 x (wipe σ vs) H' fun σ2 H2 => wipe σ2 vs = wipe σ vs ∧ tt0 σ2 H2 fun bb H3 =>
      if bb = true then gbFor wi g tt (gbYield b te) vs1 Nx stp k σ2 H3 else Nx k H3)

/-- the generator's making, then what it waits for -/
theorem gx_make {c P : Addr} {b : Bool} {elt tg iter : Expr} {ifs : List Expr} {more : List Comprehension} {scope : Scope} {own : List (Str × Nat)} {gpos : Pos} {wi : TI} {k : Nat} {rd : It → Nat → (Nat → Hp → Prop) → (Hp → Prop) → L2.St → Hp → Prop}
    {pins : List (Addr × Obj)} {σ : L2.St} {H : Hp} {s : Shared} {Q : VK} {Q' : Value → Shared → Prop}
    (hr : Room (k + 1) X.A) (hcalm : X.calm = true) (hN : X.N.Nodup) (TB : TabB X.base X.mg c P) (hcode : X.env.code = .ref c) (S : GSc scope) (ok : BlkOk X.N X.env.scope scope own) (hi : PI X tg iter wi)
    (hs : ∀ v, genFold iter X.env v = pure v) (I : Inv X pins σ H s) (h : tGx b P wi rd σ H Q)
    (hgo : ∀ (s4 : Shared) (H4 : Hp) (code : Value) (it : Addr) (fp : List Addr) (tn : Nat → Heap → Prop) (J : It) (a : Addr) (go : Obj) (s : Shared) (s₀ : Shared) (n g : Nat),
      Inv (genCx X s4 H4 scope s4.heap.objs.size code fp (genAr X.A (.GeneratorExp elt (⟨tg, iter, ifs, 0⟩ :: more) scope gpos) (.ref it) (genEnv scope (cloFrom X.env.cells scope.names []) s4.heap.objs.size code builtinsNs X.env)) [(a, go)]) [] (wipe σ (own.map (·.2))) H4 s →
      Turn X.prog X.w X.K tg J fp it tn → tn 0 s.heap → (∀ b ∈ fp, H4 b = none) → (∀ b ∈ fp, a ≠ b) → g < s.gens.size → rd J n (fun _ H => Q (.bl (!b)) H) (fun H => Q (.bl b) H) σ H4 →
      GSeg (genCx X s4 H4 scope s4.heap.objs.size code fp (genAr X.A (.GeneratorExp elt (⟨tg, iter, ifs, 0⟩ :: more) scope gpos) (.ref it) (genEnv scope (cloFrom X.env.cells scope.names []) s4.heap.objs.size code builtinsNs X.env)) [(a, go)])
        X.A.in1.in1 g b (fun _ H => Q (.bl (!b)) H) (fun H => Q (.bl b) H) n s₀ (.compStart (.GeneratorExp elt (⟨tg, iter, ifs, 0⟩ :: more) scope gpos) 0 (.ref it) .none (genEnv scope (cloFrom X.env.cells scope.names []) s4.heap.objs.size code builtinsNs X.env))
        ((model X.prog X.w).den (.compStart (.GeneratorExp elt (⟨tg, iter, ifs, 0⟩ :: more) scope gpos) 0 (.ref it) .none (genEnv scope (cloFrom X.env.cells scope.names []) s4.heap.objs.size code builtinsNs X.env))) [] s)
    (hQ : ∀ (X' : Cx) (a : Addr) (go : Obj) (g n : Nat) (s5 : Shared), X'.prog = X.prog → X'.w = X.w → (∃ nm qn, go.cls = .type "generator" ∧ go.data = .fields #[.int g 0, nm, qn] ∧ go.slots = #[]) → (a, go) ∈ X'.pn →
      Wait X' X.A g a b (fun _ H => Q (.bl (!b)) H) (fun H => Q (.bl b) H) n s5 → (∀ cc s', GRes X' b (fun _ H => Q (.bl (!b)) H) (fun H => Q (.bl b) H) cc s' → EP X pins σ Q (.bool cc) s') → Q' (.ref a) s5) :
    wpAny (model X.prog X.w) X.A (eval (.GeneratorExp elt (⟨tg, iter, ifs, 0⟩ :: more) scope gpos) X.env) Q' X.xe s := by
  have hfree : ∀ y ∈ scope.names, y.2 = .free → ∃ c, X.env.cells.lookup y.1 = some c := fun y hy e => by
    rcases ok.free y hy e with k | k
    · exact I.ok.has _ (.inl k)
    · exact I.ok.has _ (.inr k)
  refine make_Gx S.co (closure_ok hfree) S.cell S.dot ok.kind (by have := hr.dp; omega) ?_ hs
  refine thn (hi.run pins s σ H _ I h) fun xv s1 h1 => thn h1 fun itv s2 h2 => ?_
  obtain ⟨it, fp, tn, J, H1, rfl, I1, T, st1, f1, ⟨ps, hP, ht⟩, q1⟩ := h2
  refine ⟨I1.nolimit, ?_⟩
  have hPs : s2.heap.get? P = some { cls := .none, data := .fields ps } := I1.hok P _ hP
  have cd : PySem.W.CodeHd s2.heap c P := TB.code.keeps fun b u e => I1.bk b u e
  have cont : ∀ (code : Value) (h3 : Heap) (tk : Nat) (ps' : Array Value), Heap.ExtBut P s2.heap h3 → s2.heap.objs.size ≤ h3.objs.size → h3.get? P = some { cls := .none, data := .fields ps' } → (∃ more, ps' = ps ++ more) → TriplesOk ps'.toList →
      wpAny (model X.prog X.w) X.A (builtinsFor X.env.globals X.env.builtins) (fun bi s₄ =>
        ∀ h', h'.Ns s₄.heap.objs.size (fun y => if y = ".0" then some (.ref it) else none) → Heap.SameBut s₄.heap.objs.size (s₄.heap.push { cls := .type "frame", data := .dict #[] }) h' →
          Q' (.ref h'.objs.size) { s₄ with
            gens := s₄.gens.push (.fresh (.compStart (.GeneratorExp elt (⟨tg, iter, ifs, 0⟩ :: more) scope gpos) 0 (.ref it) .none (genEnv scope (cloFrom X.env.cells scope.names []) s₄.heap.objs.size code bi X.env))),
            toks := s₄.toks + 1 + 1 + 1,
            heap := h'.push { cls := .type "generator", data := .fields #[.int s₄.gens.size 0, .str "<genexpr>" (s₄.toks + 1), .str (X.env.qual ++ "<genexpr>") (s₄.toks + 1 + 1)] } }) X.xe { s2 with heap := h3, toks := tk } := by
    intro code h3 tk ps' hx hsz hP3 hmore ht3
    obtain ⟨bm, ob, e1, e2, e3, e4, e5, e6, e7, e8⟩ := TB.bm
    have keep3 : ∀ b u, b ≠ P → s2.heap.get? b = some u → h3.get? b = some u := fun b u hb e => hx b u hb e
    refine wpAny_builtinsFor (m := X.mg) (by rw [I1.ok.glob]; exact (I1.mod.glob.keeps I1.bk).extBut hx TB.gP) e1 e2 (keep3 _ _ e4 (I1.bk _ _ e5)) e6 e7 e8 ?_
    intro h' hn' hs'
    obtain ⟨mre, em⟩ := hmore
    have J4 := inv_tab (more := mre) (h' := h3) (g' := s2.gens) (d' := s2.drawn) (t' := tk) I1 hP keep3 (by rw [← em]; exact hP3) I1.bare
    generalize hs4 : ({ s2 with heap := h3, gens := s2.gens, drawn := s2.drawn, toks := tk } : Shared) = s4 at J4 hn' hs' ⊢
    have e4h : s4.heap = h3 := by rw [← hs4]
    have e4g : s4.gens = s2.gens := by rw [← hs4]
    have e4o : s4.os = s2.os := by rw [← hs4]
    generalize hH4 : upd H1 P (.tbl (ps ++ mre)) = H4 at J4
    have hTb : Tabbed P H1 H4 := by rw [← hH4]; exact ⟨⟨ps ++ mre, upd_same, by rw [← em]; exact ht3⟩, fun b hb => upd_ne hb⟩
    obtain ⟨n, hrd⟩ := q1 H4 hTb
    have nP : ∀ b ∈ fp, b ≠ P := fun b hb z => by
      have := (f1 b hb).1
      rw [z, hP] at this
      cases this
    have sz : ∀ b ∈ fp, b < s2.heap.objs.size := fun b hb => by
      obtain ⟨o, e, _⟩ := T.obj _ _ st1 b hb
      exact Heap.lt_size e
    have n4 : ∀ b ∈ fp, H4 b = none := fun b hb => by rw [hTb.2 b (nP b hb)]; exact (f1 b hb).1
    have f4 : ∀ b ∈ fp, FpOk X pins H4 b ∧ b < s4.heap.objs.size := fun b hb =>
      ⟨⟨n4 b hb, (f1 b hb).2⟩, by rw [e4h]; exact Nat.lt_of_lt_of_le (sz b hb) hsz⟩
    have st4 : tn 0 s4.heap := T.keep _ _ _ st1 fun b hb o e => by rw [e4h]; exact keep3 b o (nP b hb) e
    have hsz' : h'.objs.size = s4.heap.objs.size + 1 := by rw [hs'.1, Heap.size_push]
    have keep' : ∀ b o, s4.heap.get? b = some o → h'.get? b = some o := fun b o e => hs'.extBut b o (Nat.ne_of_lt (Heap.lt_size e)) (Heap.get?_push_of_some _ e)
    -- the state in which the generator stands
    have stand : ∀ (g' : Array GenState) (tk' : Nat) (go : Obj), AllBare g' → go.isFreed = false → (∀ v, go.data ≠ .cell v) → ∀ it' : Value,
        Inv (genCx X s4 H4 scope s4.heap.objs.size code fp (genAr X.A (.GeneratorExp elt (⟨tg, iter, ifs, 0⟩ :: more) scope gpos) it' (genEnv scope (cloFrom X.env.cells scope.names []) s4.heap.objs.size code builtinsNs X.env)) [(h'.objs.size, go)]) [] (wipe σ (own.map (·.2))) H4
          { s4 with gens := g', toks := tk', heap := h'.push go } := fun g' tk' go hb hf hgc it' => by
      refine gen_start (m := fun y => if y = ".0" then some (.ref it) else none) J4 ok S.cell hN f4 (fun b o e => Heap.get?_push_of_some _ (keep' b o e)) rfl hb (hn'.push _) (Heap.get?_push_size _ hf) (by rw [hsz']; exact Nat.lt_succ_self _) hgc ?_ hr.hd
      generalize genEnv scope (cloFrom X.env.cells scope.names []) s4.heap.objs.size code builtinsNs X.env = ce
      show pushEnvs [ce] (pushEnvs [] X.A.frames) = some (ce :: X.stack)
      rw [I1.ok.frames]
      rfl
    have hbare : AllBare (s4.gens.push (.fresh (.compStart (.GeneratorExp elt (⟨tg, iter, ifs, 0⟩ :: more) scope gpos) 0 (.ref it) .none (genEnv scope (cloFrom X.env.cells scope.names []) s4.heap.objs.size code builtinsNs X.env)))) := AllBare.push (by rw [e4g]; exact I1.bare) rfl
    have I5 := stand _ (s4.toks + 1 + 1 + 1) { cls := .type "generator", data := .fields #[.int s4.gens.size 0, .str "<genexpr>" (s4.toks + 1), .str (X.env.qual ++ "<genexpr>") (s4.toks + 1 + 1)] } hbare rfl (fun v z => by cases z) (.ref it)
    have st5 : tn 0 (h'.push { cls := .type "generator", data := .fields #[.int s4.gens.size 0, .str "<genexpr>" (s4.toks + 1), .str (X.env.qual ++ "<genexpr>") (s4.toks + 1 + 1)] }) := T.keep _ _ _ st4 fun b hb o e => Heap.get?_push_of_some _ (keep' b o e)
    have aNe : ∀ b ∈ fp, h'.objs.size ≠ b := fun b hb => by
      have h9 := (f4 b hb).2
      have h10 : b ≠ h'.objs.size := by
        intro z
        rw [z, hsz'] at h9
        exact absurd (Nat.lt_of_succ_lt h9) (Nat.lt_irrefl _)
      exact fun z => h10 z.symm
    refine hQ (genCx X s4 H4 scope s4.heap.objs.size code fp (genAr X.A (.GeneratorExp elt (⟨tg, iter, ifs, 0⟩ :: more) scope gpos) (.ref it) (genEnv scope (cloFrom X.env.cells scope.names []) s4.heap.objs.size code builtinsNs X.env)) [(h'.objs.size, { cls := .type "generator", data := .fields #[.int s4.gens.size 0, .str "<genexpr>" (s4.toks + 1), .str (X.env.qual ++ "<genexpr>") (s4.toks + 1 + 1)] })]) h'.objs.size { cls := .type "generator", data := .fields #[.int s4.gens.size 0, .str "<genexpr>" (s4.toks + 1), .str (X.env.qual ++ "<genexpr>") (s4.toks + 1 + 1)] } s4.gens.size n _ rfl rfl ⟨_, _, rfl, rfl, rfl⟩ (List.mem_cons_self) ⟨⟨_, _, _, Heap.get?_push_size _ rfl, rfl, rfl, rfl⟩, I5.nolimit, by simp, _, Array.getElem?_push_size .., ⟨rfl, ?_⟩⟩ fun cc s' hres => ?_
    · refine hgo s4 H4 code it fp tn J h'.objs.size _ _ _ n s4.gens.size (inv_same I5 rfl rfl (bare_setGen hbare rfl)) T st5 n4 aNe (by rw [setGen_size]; simp) hrd
    · obtain ⟨σ', H', I', hq⟩ := hres
      have I7 : Inv X pins σ H' s' := J4.call' (ch := fp) I'.os I'.base I'.hok I'.bare fun b hb => ⟨(f4 b hb).1.2.2.2.1, (f4 b hb).1.2.1, (f4 b hb).1.2.2.2.2.1, (f4 b hb).1.2.2.2.2.2⟩
      rcases hq with ⟨rfl, hq⟩ | ⟨rfl, _, hq⟩
      · exact ⟨.bl _, H', I7, rfl, hq⟩
      · exact ⟨.bl _, H', I7, rfl, hq⟩
  cases hf : codeAmong gpos ps.toList with
  | none =>
    refine wpAny_genexprCodeX hcode (cd.code hPs ht) (cd.tab hPs) hf fun c' h' tk hx hge hlt hco' _ htab' _ => ?_
    obtain ⟨o1, vs, f1, tf, fl, tg, inF, tx, tt, op, _, _, _, _, _, _, _, _, _, htr, _⟩ := hco'
    exact cont _ h' tk _ hx (Nat.le_trans hge (Nat.le_of_lt hlt)) htab'.2 ⟨_, rfl⟩ htr
  | some cv =>
    refine wpAny_genexprCode_hit hcode (cd.code hPs ht) hf ?_
    exact cont cv s2.heap s2.toks ps (Heap.ExtBut.refl _ _) (Nat.le_refl _) hPs ⟨#[], by simp⟩ ht
end
end Gx
end

section
set_option Elab.async false
set_option linter.all false
set_option maxRecDepth 100000
set_option maxHeartbeats 2000000
/-! Gx6: any(.. for ..), all(.. for ..) as rules. -/
namespace Gx
open PySem PySem.Spec PyProof.Rows L2 GxR GenW

/-- in every frame of this generator expression -/
abbrev GAll (X : Cx) (scope : Scope) (k : Nat) (Pr : Cx → Prop) : Prop := ∀ (s : Shared) (H : Hp) (C : Addr) (code : Value) (fp : List Addr) (A : Around) (pn : List (Addr × Obj)), Room k A → Pr (genCx X s H scope C code fp A pn)

section
variable {X : Cx} {c P : Addr} {elt tg iter tg1 iter1 : Expr} {ifs ifs1 : List Expr} {scope : Scope} {own : List (Str × Nat)} {gpos p pos : Pos} {wi wi1 : TI} {g g1 : TG} {tt tt1 : TT} {te : TE} {k : Nat} {vs1 : List Nat}
theorem go1 {b : Bool} {Q : VK} {σ : L2.St} (hr : Room (k + 1) X.A) (hcalm : X.calm = true) (S : GSc scope)
    (pg : GAll X scope k fun X' => PG X' tg g) (pt : GAll X scope k fun X' => PTs X' ifs tt) (pe : GAll X scope k fun X' => PE X' elt te) :
    ∀ (s4 : Shared) (H4 : Hp) (code : Value) (it : Addr) (fp : List Addr) (tn : Nat → Heap → Prop) (J : It) (a : Addr) (go : Obj) (s : Shared) (s₀ : Shared) (n g0 : Nat),
      Inv (genCx X s4 H4 scope s4.heap.objs.size code fp (genAr X.A (.GeneratorExp elt [⟨tg, iter, ifs, 0⟩] scope gpos) (.ref it) (genEnv scope (cloFrom X.env.cells scope.names []) s4.heap.objs.size code builtinsNs X.env)) [(a, go)]) [] (wipe σ (own.map (·.2))) H4 s →
      Turn X.prog X.w X.K tg J fp it tn → tn 0 s.heap → (∀ b ∈ fp, H4 b = none) → (∀ b ∈ fp, a ≠ b) → g0 < s.gens.size → rd1 b g tt te (own.map (·.2)) J n (fun _ H => Q (.bl (!b)) H) (fun H => Q (.bl b) H) σ H4 →
      GSeg (genCx X s4 H4 scope s4.heap.objs.size code fp (genAr X.A (.GeneratorExp elt [⟨tg, iter, ifs, 0⟩] scope gpos) (.ref it) (genEnv scope (cloFrom X.env.cells scope.names []) s4.heap.objs.size code builtinsNs X.env)) [(a, go)])
        X.A.in1.in1 g0 b (fun _ H => Q (.bl (!b)) H) (fun H => Q (.bl b) H) n s₀ (.compStart (.GeneratorExp elt [⟨tg, iter, ifs, 0⟩] scope gpos) 0 (.ref it) .none (genEnv scope (cloFrom X.env.cells scope.names []) s4.heap.objs.size code builtinsNs X.env))
        ((model X.prog X.w).den (.compStart (.GeneratorExp elt [⟨tg, iter, ifs, 0⟩] scope gpos) 0 (.ref it) .none (genEnv scope (cloFrom X.env.cells scope.names []) s4.heap.objs.size code builtinsNs X.env))) [] s := by
  intro s4 H4 code it fp tn J a go s s₀ n g0 I T st n0 hne hg hrd
  obtain ⟨W, ⟨m0, w0⟩, turn⟩ := hrd
  have rm := genAr_room (elt := elt) (gs := [⟨tg, iter, ifs, 0⟩]) (sc := scope) (p := gpos) (it := .ref it) (cenv := genEnv scope (cloFrom X.env.cells scope.names []) s4.heap.objs.size code builtinsNs X.env) hr
  refine seg_start (X := genCx X s4 H4 scope s4.heap.objs.size code fp _ [(a, go)]) (hdl := leaving (genEnv scope (cloFrom X.env.cells scope.names []) s4.heap.objs.size code builtinsNs X.env)) (ipos := iter.pos) rfl rfl rfl T st ?_
  refine seg_last (X := genCx X s4 H4 scope s4.heap.objs.size code fp _ [(a, go)]) (hdl := leaving (genEnv scope (cloFrom X.env.cells scope.names []) s4.heap.objs.size code builtinsNs X.env)) (pins := []) (iter := iter) (ifs := ifs) (tg := tg) (elt := elt) (σ := σ) (vs := own.map (·.2)) hcalm S.co rfl (compTurn_one ..) ⟨rfl, rfl, rfl⟩ T (fun q hq b hb => ?_)
    (fun b hb => ⟨.inl hb, (I.ok.exf b hb).1, I.ok.exfs b hb, fun x c e => (I.ok.exf b hb).2 x c e⟩) (pg _ _ _ _ _ _ _ rm) (pt _ _ _ _ _ _ _ rm) (pe _ _ _ _ _ _ _ rm) rfl turn (fun k' s₀' s' H' I' hg' hf => ?_) m0 0 n s₀ s H4 w0 I st n0 hg
  · have e : q = (a, go) := by
      rcases List.mem_append.mp hq with hq | hq
      · rcases List.mem_cons.mp hq with hq | hq
        · exact hq
        · cases hq
      · cases hq
    rw [e]
    exact hne b hb
  · exact seg_end (.ok .next) ⟨rfl, _, H', I', hg', hf⟩
theorem go2 {b : Bool} {Q : VK} {σ : L2.St} (hr : Room (k + 1) X.A) (hcalm : X.calm = true) (S : GSc scope) (hvs : ∀ j ∈ vs1, j ∈ own.map (·.2))
    (pg : GAll X scope k fun X' => PG X' tg g) (pt : GAll X scope k fun X' => PTs X' ifs tt) (pi1 : GAll X scope k fun X' => PI X' tg1 iter1 wi1) (hfo : GAll X scope k fun X' => ∀ v, foldedSetIterable iter1 X'.env v = pure v)
    (pg1 : GAll X scope k fun X' => PG X' tg1 g1) (pt1 : GAll X scope k fun X' => PTs X' ifs1 tt1) (pe : GAll X scope k fun X' => PE X' elt te) :
    ∀ (s4 : Shared) (H4 : Hp) (code : Value) (it : Addr) (fp : List Addr) (tn : Nat → Heap → Prop) (J : It) (a : Addr) (go : Obj) (s : Shared) (s₀ : Shared) (n g0 : Nat),
      Inv (genCx X s4 H4 scope s4.heap.objs.size code fp (genAr X.A (.GeneratorExp elt [⟨tg, iter, ifs, 0⟩, ⟨tg1, iter1, ifs1, 0⟩] scope gpos) (.ref it) (genEnv scope (cloFrom X.env.cells scope.names []) s4.heap.objs.size code builtinsNs X.env)) [(a, go)]) [] (wipe σ (own.map (·.2))) H4 s →
      Turn X.prog X.w X.K tg J fp it tn → tn 0 s.heap → (∀ b ∈ fp, H4 b = none) → (∀ b ∈ fp, a ≠ b) → g0 < s.gens.size → rd2 b g tt wi1 g1 tt1 te (own.map (·.2)) vs1 J n (fun _ H => Q (.bl (!b)) H) (fun H => Q (.bl b) H) σ H4 →
      GSeg (genCx X s4 H4 scope s4.heap.objs.size code fp (genAr X.A (.GeneratorExp elt [⟨tg, iter, ifs, 0⟩, ⟨tg1, iter1, ifs1, 0⟩] scope gpos) (.ref it) (genEnv scope (cloFrom X.env.cells scope.names []) s4.heap.objs.size code builtinsNs X.env)) [(a, go)])
        X.A.in1.in1 g0 b (fun _ H => Q (.bl (!b)) H) (fun H => Q (.bl b) H) n s₀ (.compStart (.GeneratorExp elt [⟨tg, iter, ifs, 0⟩, ⟨tg1, iter1, ifs1, 0⟩] scope gpos) 0 (.ref it) .none (genEnv scope (cloFrom X.env.cells scope.names []) s4.heap.objs.size code builtinsNs X.env))
        ((model X.prog X.w).den (.compStart (.GeneratorExp elt [⟨tg, iter, ifs, 0⟩, ⟨tg1, iter1, ifs1, 0⟩] scope gpos) 0 (.ref it) .none (genEnv scope (cloFrom X.env.cells scope.names []) s4.heap.objs.size code builtinsNs X.env))) [] s := by
  intro s4 H4 code it fp tn J a go s s₀ n g0 I T st n0 hne hg hrd
  obtain ⟨W, ⟨m0, w0⟩, turn⟩ := hrd
  have rm := genAr_room (elt := elt) (gs := [⟨tg, iter, ifs, 0⟩, ⟨tg1, iter1, ifs1, 0⟩]) (sc := scope) (p := gpos) (it := .ref it) (cenv := genEnv scope (cloFrom X.env.cells scope.names []) s4.heap.objs.size code builtinsNs X.env) hr
  refine seg_start (X := genCx X s4 H4 scope s4.heap.objs.size code fp _ [(a, go)]) (hdl := leaving (genEnv scope (cloFrom X.env.cells scope.names []) s4.heap.objs.size code builtinsNs X.env)) (ipos := iter.pos) rfl rfl rfl T st ?_
  refine seg_outer (X := genCx X s4 H4 scope s4.heap.objs.size code fp _ [(a, go)]) (pins := []) (σ := σ) (vs := own.map (·.2)) (vs1 := vs1) hcalm S.co ⟨rfl, rfl, rfl⟩ T (fun q hq b hb => ?_)
    (fun b hb => ⟨.inl hb, (I.ok.exf b hb).1, I.ok.exfs b hb, fun x c e => (I.ok.exf b hb).2 x c e⟩) hvs (pg _ _ _ _ _ _ _ rm) (pt _ _ _ _ _ _ _ rm) (pi1 _ _ _ _ _ _ _ rm) (hfo _ _ _ _ _ _ _ rm) (pg1 _ _ _ _ _ _ _ rm) (pt1 _ _ _ _ _ _ _ rm) (pe _ _ _ _ _ _ _ rm) rfl turn (fun k' s₀' s' H' I' hg' hf => ?_) m0 0 n s₀ s H4 w0 I st n0 hg
  · have e : q = (a, go) := by
      rcases List.mem_append.mp hq with hq | hq
      · rcases List.mem_cons.mp hq with hq | hq
        · exact hq
        · cases hq
      · cases hq
    rw [e]
    exact hne b hb
  · exact seg_end (.ok .next) ⟨rfl, _, H', I', hg', hf⟩

theorem boot_all2 : bootBuiltins "all" = some (.builtin "all") := by first | rfl | decide +kernel | kernel_rfl
theorem pe_any1 (hr : Room (k + 1) X.A) (hcalm : X.calm = true) (hN : X.N.Nodup) (hgl : Gl X "any") (hm : X.mg "any" = none) (TB : TabB X.base X.mg c P) (hcode : X.env.code = .ref c) (S : GSc scope) (ok : BlkOk X.N X.env.scope scope own) (hi : PI X tg iter wi) (hs : ∀ v, genFold iter X.env v = pure v)
    (pg : GAll X scope k fun X' => PG X' tg g) (pt : GAll X scope k fun X' => PTs X' ifs tt) (pe : GAll X scope k fun X' => PE X' elt te) :
    PE X (.Call (.Name "any" p) [.GeneratorExp elt [⟨tg, iter, ifs, 0⟩] scope gpos] [] pos) (tGx true P wi (rd1 true g tt te (own.map (·.2)))) := by
  have he : starEach [.GeneratorExp elt [⟨tg, iter, ifs, 0⟩] scope gpos] X.env = (false, eval (.GeneratorExp elt [⟨tg, iter, ifs, 0⟩] scope gpos) X.env) :: starEach [] X.env := by rfl
  refine ⟨fun pins s σ H Q I h => ?_⟩
  refine wpAny_Call_Name_kw (ld_blt I hgl hm boot_any ?_)
  refine PyProof.Rows.callWith_builtin1 ?_ he (by rfl)
  rw [he]
  show wpAny _ _ (spliced ((false, eval (.GeneratorExp elt [⟨tg, iter, ifs, 0⟩] scope gpos) X.env) :: backTo pos (starEach [] X.env))) _ _ s
  refine Calls.spliced_cons (gx_make (own := own) (Q := Q) hr hcalm hN TB hcode S ok hi hs I h (go1 (own := own) hr hcalm S pg pt pe) fun X' a go g n s5 e1 e2 hgo hp wt fin => ?_)
  refine Calls.spliced_nil ?_
  rw [← e1, ← e2]
  exact call_any_gen hgo hp hr.hd (by have := hr.dp; omega) wt fin
theorem pe_all1 (hr : Room (k + 1) X.A) (hcalm : X.calm = true) (hN : X.N.Nodup) (hgl : Gl X "all") (hm : X.mg "all" = none) (TB : TabB X.base X.mg c P) (hcode : X.env.code = .ref c) (S : GSc scope) (ok : BlkOk X.N X.env.scope scope own) (hi : PI X tg iter wi) (hs : ∀ v, genFold iter X.env v = pure v)
    (pg : GAll X scope k fun X' => PG X' tg g) (pt : GAll X scope k fun X' => PTs X' ifs tt) (pe : GAll X scope k fun X' => PE X' elt te) :
    PE X (.Call (.Name "all" p) [.GeneratorExp elt [⟨tg, iter, ifs, 0⟩] scope gpos] [] pos) (tGx false P wi (rd1 false g tt te (own.map (·.2)))) := by
  have he : starEach [.GeneratorExp elt [⟨tg, iter, ifs, 0⟩] scope gpos] X.env = (false, eval (.GeneratorExp elt [⟨tg, iter, ifs, 0⟩] scope gpos) X.env) :: starEach [] X.env := by rfl
  refine ⟨fun pins s σ H Q I h => ?_⟩
  refine wpAny_Call_Name_kw (ld_blt I hgl hm boot_all2 ?_)
  refine PyProof.Rows.callWith_builtin1 ?_ he (by rfl)
  rw [he]
  show wpAny _ _ (spliced ((false, eval (.GeneratorExp elt [⟨tg, iter, ifs, 0⟩] scope gpos) X.env) :: backTo pos (starEach [] X.env))) _ _ s
  refine Calls.spliced_cons (gx_make (own := own) (Q := Q) hr hcalm hN TB hcode S ok hi hs I h (go1 (own := own) hr hcalm S pg pt pe) fun X' a go g n s5 e1 e2 hgo hp wt fin => ?_)
  refine Calls.spliced_nil ?_
  rw [← e1, ← e2]
  exact call_all_gen hgo hp hr.hd (by have := hr.dp; omega) wt fin
theorem pe_any2 (hr : Room (k + 1) X.A) (hcalm : X.calm = true) (hN : X.N.Nodup) (hgl : Gl X "any") (hm : X.mg "any" = none) (TB : TabB X.base X.mg c P) (hcode : X.env.code = .ref c) (S : GSc scope) (ok : BlkOk X.N X.env.scope scope own) (hi : PI X tg iter wi) (hs : ∀ v, genFold iter X.env v = pure v)
    (hvs : ∀ j ∈ vs1, j ∈ own.map (·.2)) (pg : GAll X scope k fun X' => PG X' tg g) (pt : GAll X scope k fun X' => PTs X' ifs tt) (pi1 : GAll X scope k fun X' => PI X' tg1 iter1 wi1) (hfo : GAll X scope k fun X' => ∀ v, foldedSetIterable iter1 X'.env v = pure v)
    (pg1 : GAll X scope k fun X' => PG X' tg1 g1) (pt1 : GAll X scope k fun X' => PTs X' ifs1 tt1) (pe : GAll X scope k fun X' => PE X' elt te) :
    PE X (.Call (.Name "any" p) [.GeneratorExp elt [⟨tg, iter, ifs, 0⟩, ⟨tg1, iter1, ifs1, 0⟩] scope gpos] [] pos) (tGx true P wi (rd2 true g tt wi1 g1 tt1 te (own.map (·.2)) vs1)) := by
  have he : starEach [.GeneratorExp elt [⟨tg, iter, ifs, 0⟩, ⟨tg1, iter1, ifs1, 0⟩] scope gpos] X.env = (false, eval (.GeneratorExp elt [⟨tg, iter, ifs, 0⟩, ⟨tg1, iter1, ifs1, 0⟩] scope gpos) X.env) :: starEach [] X.env := by rfl
  refine ⟨fun pins s σ H Q I h => ?_⟩
  refine wpAny_Call_Name_kw (ld_blt I hgl hm boot_any ?_)
  refine PyProof.Rows.callWith_builtin1 ?_ he (by rfl)
  rw [he]
  show wpAny _ _ (spliced ((false, eval (.GeneratorExp elt [⟨tg, iter, ifs, 0⟩, ⟨tg1, iter1, ifs1, 0⟩] scope gpos) X.env) :: backTo pos (starEach [] X.env))) _ _ s
  refine Calls.spliced_cons (gx_make (own := own) (Q := Q) hr hcalm hN TB hcode S ok hi hs I h (go2 (own := own) hr hcalm S hvs pg pt pi1 hfo pg1 pt1 pe) fun X' a go g n s5 e1 e2 hgo hp wt fin => ?_)
  refine Calls.spliced_nil ?_
  rw [← e1, ← e2]
  exact call_any_gen hgo hp hr.hd (by have := hr.dp; omega) wt fin
end
end Gx
end

section
set_option Elab.async false
set_option linter.all false
set_option maxRecDepth 100000
set_option maxHeartbeats 2000000
/-! Dy1: own values, own heap, and how they stand in the abstract heap of the hand layer. -/
namespace Dy
open PySem PySem.Spec PyProof.Rows L2 GxR

inductive D where
  | non | bl (b : Bool) | int (i : Int) | str (x : Str)
  | tup (ds : List D) | kt (ds : List D) | lst (ds : List D) | dk (kvs : List (Key × D)) | dt (kvs : List (List Key × D)) | ref (n : Nat) | pt (ds : List D)
instance : Inhabited D := ⟨.non⟩
/-- a thing that may be changed -/
inductive C where
  | lst (ds : List D) | dk (kvs : List (Key × D)) | dt (kvs : List (List Key × D)) | ins (c : Nat) (fs : List (Str × D)) | lk (c : C)
abbrev Hq := List C
inductive R (α : Type) where
  | ok (a : α) (h : Hq) | er (c : Nat) (fs : List (Str × D)) (h : Hq) | st
def R.bind {α β : Type} : R α → (α → Hq → R β) → R β
  | .ok a h, f => f a h
  | .er c fs h, _ => .er c fs h
  | .st, _ => .st
def look {κ α : Type} [DecidableEq κ] (kvs : List (κ × α)) (k : κ) : Option α := (kvs.find? fun kv => decide (kv.1 = k)).map (·.2)
def put {κ α : Type} [DecidableEq κ] (kvs : List (κ × α)) (k : κ) (v : α) : List (κ × α) :=
  if kvs.any (fun kv => decide (kv.1 = k)) = true then kvs.map (fun kv => if kv.1 = k then (kv.1, v) else kv) else kvs ++ [(k, v)]
def drop {κ α : Type} [DecidableEq κ] (kvs : List (κ × α)) (k : κ) : List (κ × α) := kvs.filter fun kv => decide (kv.1 ≠ k)

/-- what is fixed for one program: what the top has written, its classes, the tables of code -/
structure G where
  K : PySem.W.Frag
  cls : List Addr
  tabs : List Addr

/-- a tuple that the top has written -/
def KtA (K : PySem.W.Frag) (a : Addr) (xs : List V) : Prop :=
  ∃ (o : Obj) (its : Array Value) (n : Nat), K.lookup a = some o ∧ o.cls = .type "tuple" ∧ o.data = .seq its n ∧ its.size ≤ sizeLine ∧ Vals xs its.toList ∧ o.dict = none
theorem KtA.sq {K : PySem.W.Frag} {H : Hp} {a : Addr} {xs : List V} (h : KtA K a xs) : SqT K H a xs := let ⟨o, its, n, h1, h2, h3, h4, h5, _⟩ := h; .inr ⟨o, its, n, h1, h2, h3, h4, h5⟩
/-- a frozen list -/
def FzL (al : List Addr) (H : Hp) (a : Addr) (xs : List V) : Prop := ∃ o, H a = some (.frz o (.lst xs)) ∧ a ∉ al
theorem FzL.sq {K : PySem.W.Frag} {al : List Addr} {H : Hp} {a : Addr} {xs : List V} (h : FzL al H a xs) : SqL K H a xs := let ⟨o, z, _⟩ := h; .inl (.inr ⟨o, z⟩)

section
variable (K : PySem.W.Frag) (al : List Addr) (H : Hp)
mutual
inductive Rv : D → V → Prop
  | non : Rv .non .non
  | bl (b : Bool) : Rv (.bl b) (.bl b)
  | int (i : Int) : Rv (.int i) (.int i)
  | str (x : Str) : Rv (.str x) (.str x)
  | tup {a : Addr} {ds : List D} {vs : List V} : H a = some (.tup vs) → Rvs ds vs → Rv (.tup ds) (.ref a)
  | kt {a : Addr} {ds : List D} {vs : List V} : KtA K a vs → Rvs ds vs → Rv (.kt ds) (.ref a)
  | lst {a : Addr} {ds : List D} {vs : List V} : FzL al H a vs → Rvs ds vs → Rv (.lst ds) (.ref a)
  | dk {a : Addr} {o : Obj} {kvs : List (Key × D)} {vvs : List (Key × V)} : H a = some (.frz o (.dK vvs)) → a ∉ al → kvs.map (·.1) = vvs.map (·.1) → Rvs (kvs.map (·.2)) (vvs.map (·.2)) → Rv (.dk kvs) (.ref a)
  | dt {a : Addr} {o : Obj} {kvs : List (List Key × D)} {vvs : List (List Key × V)} : H a = some (.frz o (.dT vvs)) → a ∉ al → kvs.map (·.1) = vvs.map (·.1) → Rvs (kvs.map (·.2)) (vvs.map (·.2)) → Rv (.dt kvs) (.ref a)
  | ref {n : Nat} {a : Addr} : al[n]? = some a → Rv (.ref n) (.ref a)
  | pt {a : Addr} {o : Obj} {ds : List D} {vs : List V} : H a = some (.frz o (.tup vs)) → a ∉ al → o.dict = none → Rvs ds vs → Rv (.pt ds) (.ref a)
inductive Rvs : List D → List V → Prop
  | nil : Rvs [] []
  | cons {d : D} {v : V} {ds : List D} {vs : List V} : Rv d v → Rvs ds vs → Rvs (d :: ds) (v :: vs)
end
end

/-- values may be carried from one heap to a later one -/
structure Mo (al al' : List Addr) (H H' : Hp) : Prop where
  pre : ∃ m, al' = al ++ m ∧ ∀ b ∈ m, ∀ o u, H b ≠ some (.frz o u)
  tup : ∀ b xs, H b = some (.tup xs) → H' b = some (.tup xs)
  frz : ∀ b o u, b ∉ al → H b = some (.frz o u) → H' b = some (.frz o u)
theorem Mo.refl (al : List Addr) (H : Hp) : Mo al al H H := ⟨⟨[], by simp, by simp⟩, fun _ _ h => h, fun _ _ _ _ h => h⟩
theorem Mo.nin {al al' : List Addr} {H H' : Hp} (m : Mo al al' H H') {a : Addr} {o : Obj} {u : HO} (h : H a = some (.frz o u)) (n : a ∉ al) : a ∉ al' := by
  obtain ⟨m', rfl, hm⟩ := m.pre
  intro z
  rcases List.mem_append.mp z with z | z
  · exact n z
  · exact hm a z _ _ h
theorem FzL.mo {al al' : List Addr} {H H' : Hp} {a : Addr} {xs : List V} (h : FzL al H a xs) (m : Mo al al' H H') : FzL al' H' a xs :=
  let ⟨o, z, n⟩ := h; ⟨o, m.frz _ _ _ n z, m.nin z n⟩
mutual
theorem Rv.mo {K : PySem.W.Frag} {al al' : List Addr} {H H' : Hp} (m : Mo al al' H H') : ∀ {d : D} {v : V}, Rv K al H d v → Rv K al' H' d v
  | _, _, .non => .non
  | _, _, .bl b => .bl b
  | _, _, .int i => .int i
  | _, _, .str x => .str x
  | _, _, .tup h r => .tup (m.tup _ _ h) (Rvs.mo m r)
  | _, _, .kt h r => .kt h (Rvs.mo m r)
  | _, _, .lst h r => .lst (h.mo m) (Rvs.mo m r)
  | _, _, .dk h n e r => .dk (m.frz _ _ _ n h) (m.nin h n) e (Rvs.mo m r)
  | _, _, .dt h n e r => .dt (m.frz _ _ _ n h) (m.nin h n) e (Rvs.mo m r)
  | _, _, .pt h n e r => .pt (m.frz _ _ _ n h) (m.nin h n) e (Rvs.mo m r)
  | _, _, .ref h => .ref (by
    obtain ⟨m', rfl, _⟩ := m.pre
    rw [List.getElem?_append_left (List.getElem?_eq_some_iff.mp h).1]
    exact h)
theorem Rvs.mo {K : PySem.W.Frag} {al al' : List Addr} {H H' : Hp} (m : Mo al al' H H') : ∀ {ds : List D} {vs : List V}, Rvs K al H ds vs → Rvs K al' H' ds vs
  | _, _, .nil => .nil
  | _, _, .cons r t => .cons (Rv.mo m r) (Rvs.mo m t)
end
section
variable {K : PySem.W.Frag} {al : List Addr} {H : Hp}
theorem Rvs.length : ∀ {ds : List D} {vs : List V}, Rvs K al H ds vs → ds.length = vs.length
  | _, _, .nil => rfl
  | _, _, .cons _ t => by rw [List.length_cons, List.length_cons, Rvs.length t]
theorem Rvs.get : ∀ {ds : List D} {vs : List V} {i : Nat} {d : D}, Rvs K al H ds vs → ds[i]? = some d → ∃ v, vs[i]? = some v ∧ Rv K al H d v
  | _, _, _, _, .nil, e => by simp at e
  | _, _, 0, _, .cons r _, e => by simp at e; subst e; exact ⟨_, rfl, r⟩
  | _, _, i + 1, d, .cons _ t, e => by
    obtain ⟨v, h1, h2⟩ := Rvs.get (i := i) (d := d) t (by simpa using e)
    exact ⟨v, by simpa using h1, h2⟩
theorem Rvs.get' : ∀ {ds : List D} {vs : List V} {i : Nat} {v : V}, Rvs K al H ds vs → vs[i]? = some v → ∃ d, ds[i]? = some d ∧ Rv K al H d v
  | _, _, _, _, .nil, e => by simp at e
  | _, _, 0, _, .cons r _, e => by simp at e; subst e; exact ⟨_, rfl, r⟩
  | _, _, i + 1, d, .cons _ t, e => by
    obtain ⟨v, h1, h2⟩ := Rvs.get' (i := i) (v := d) t (by simpa using e)
    exact ⟨v, by simpa using h1, h2⟩
theorem Rvs.append : ∀ {ds es : List D} {vs ws : List V}, Rvs K al H ds vs → Rvs K al H es ws → Rvs K al H (ds ++ es) (vs ++ ws)
  | _, _, _, _, .nil, s => s
  | _, _, _, _, .cons r t, s => .cons r (Rvs.append t s)
theorem Rvs.drop : ∀ {ds : List D} {vs : List V} (n : Nat), Rvs K al H ds vs → Rvs K al H (ds.drop n) (vs.drop n)
  | _, _, 0, r => r
  | _, _, _ + 1, .nil => .nil
  | _, _, n + 1, .cons _ t => Rvs.drop n t
theorem Rvs.take : ∀ {ds : List D} {vs : List V} (n : Nat), Rvs K al H ds vs → Rvs K al H (ds.take n) (vs.take n)
  | _, _, 0, _ => .nil
  | _, _, _ + 1, .nil => .nil
  | _, _, n + 1, .cons r t => .cons r (Rvs.take n t)
theorem Rvs.set {d : D} {v : V} (r : Rv K al H d v) : ∀ {ds : List D} {vs : List V} (n : Nat), Rvs K al H ds vs → Rvs K al H (ds.set n d) (vs.set n v)
  | _, _, _, .nil => .nil
  | _, _, 0, .cons _ t => .cons r t
  | _, _, n + 1, .cons q t => .cons q (Rvs.set r n t)
theorem Rvs.eraseIdx : ∀ {ds : List D} {vs : List V} (n : Nat), Rvs K al H ds vs → Rvs K al H (ds.eraseIdx n) (vs.eraseIdx n)
  | _, _, _, .nil => .nil
  | _, _, 0, .cons _ t => t
  | _, _, n + 1, .cons q t => .cons q (Rvs.eraseIdx n t)
end

/-- a dict's pairs -/
def Rk (K : PySem.W.Frag) (al : List Addr) (H : Hp) {κ : Type} (kvs : List (κ × D)) (vvs : List (κ × V)) : Prop := kvs.map (·.1) = vvs.map (·.1) ∧ Rvs K al H (kvs.map (·.2)) (vvs.map (·.2))
section
variable {K : PySem.W.Frag} {al : List Addr} {H : Hp} {κ : Type}
theorem Rk.nil : Rk K al H ([] : List (κ × D)) [] := ⟨rfl, .nil⟩
theorem Rk.inv : ∀ {p : κ × D} {r : List (κ × D)} {w : List (κ × V)}, Rk K al H (p :: r) w → ∃ q t, w = q :: t ∧ p.1 = q.1 ∧ Rv K al H p.2 q.2 ∧ Rk K al H r t
  | p, r, [], h => by obtain ⟨h1, _⟩ := h; simp at h1
  | p, r, q :: t, h => by
    obtain ⟨h1, h2⟩ := h
    simp only [List.map_cons, List.cons.injEq] at h1 h2
    cases h2 with
    | cons a b => exact ⟨q, t, rfl, h1.1, a, h1.2, b⟩
theorem Rk.nil_inv {w : List (κ × V)} (h : Rk K al H ([] : List (κ × D)) w) : w = [] := by
  obtain ⟨h1, _⟩ := h
  cases w with
  | nil => rfl
  | cons => simp at h1
theorem Rk.cons {p : κ × D} {r : List (κ × D)} {q : κ × V} {t : List (κ × V)} (e : p.1 = q.1) (v : Rv K al H p.2 q.2) (h : Rk K al H r t) : Rk K al H (p :: r) (q :: t) :=
  ⟨by rw [List.map_cons, List.map_cons, e, h.1], by rw [List.map_cons, List.map_cons]; exact .cons v h.2⟩
theorem Rk.length {k : List (κ × D)} {w : List (κ × V)} (h : Rk K al H k w) : k.length = w.length := by
  have := congrArg List.length h.1
  simpa using this
theorem Rk.mo {al' : List Addr} {H' : Hp} (m : Mo al al' H H') {k : List (κ × D)} {w : List (κ × V)} (h : Rk K al H k w) : Rk K al' H' k w := ⟨h.1, h.2.mo m⟩
theorem Rk.append : ∀ {k k' : List (κ × D)} {w w' : List (κ × V)}, Rk K al H k w → Rk K al H k' w' → Rk K al H (k ++ k') (w ++ w') := fun h h' =>
  ⟨by rw [List.map_append, List.map_append, h.1, h'.1], by rw [List.map_append, List.map_append]; exact h.2.append h'.2⟩
variable [DecidableEq κ]
theorem Rk.look : ∀ {k : List (κ × D)} {w : List (κ × V)} (x : κ), Rk K al H k w → (∃ d v, Dy.look k x = some d ∧ valV w x = some v ∧ Rv K al H d v) ∨ (Dy.look k x = none ∧ valV w x = none)
  | [], w, x, h => by cases h.nil_inv; exact .inr ⟨rfl, rfl⟩
  | p :: r, w, x, h => by
    obtain ⟨q, t, rfl, e, v, h'⟩ := h.inv
    by_cases hx : p.1 = x
    · refine .inl ⟨p.2, q.2, ?_, valV_pos (e ▸ hx), v⟩
      simp [Dy.look, List.find?_cons, hx]
    · rcases Rk.look x h' with ⟨d, v', h1, h2, h3⟩ | ⟨h1, h2⟩
      · refine .inl ⟨d, v', ?_, by rw [valV_neg (fun z => hx (e.trans z))]; exact h2, h3⟩
        rw [← h1]; simp [Dy.look, List.find?_cons, hx]
      · refine .inr ⟨?_, by rw [valV_neg (fun z => hx (e.trans z))]; exact h2⟩
        rw [← h1]; simp [Dy.look, List.find?_cons, hx]
theorem Rk.any (x : κ) : ∀ {k : List (κ × D)} {w : List (κ × V)}, Rk K al H k w → (k.any fun kv => decide (kv.1 = x)) = w.any fun kv => decide (kv.1 = x)
  | [], w, h => by cases h.nil_inv; rfl
  | p :: r, w, h => by
    obtain ⟨q, t, rfl, e, v, h'⟩ := h.inv
    rw [List.any_cons, List.any_cons, Rk.any x h', e]
theorem Rk.rep {d : D} {v : V} (rv : Rv K al H d v) (x : κ) : ∀ {k : List (κ × D)} {w : List (κ × V)}, Rk K al H k w → Rk K al H (k.map fun kv => if kv.1 = x then (kv.1, d) else kv) (w.map fun kv => if kv.1 = x then (kv.1, v) else kv)
  | [], w, h => by cases h.nil_inv; exact .nil
  | p :: r, w, h => by
    obtain ⟨q, t, rfl, e, v', h'⟩ := h.inv
    rw [List.map_cons, List.map_cons]
    refine Rk.cons ?_ ?_ (Rk.rep rv x h')
    · by_cases hx : p.1 = x
      · rw [if_pos hx, if_pos (e ▸ hx)]; exact e
      · rw [if_neg hx, if_neg (fun z => hx (e.trans z))]; exact e
    · by_cases hx : p.1 = x
      · rw [if_pos hx, if_pos (e ▸ hx)]; exact rv
      · rw [if_neg hx, if_neg (fun z => hx (e.trans z))]; exact v'
theorem Rk.put {d : D} {v : V} (rv : Rv K al H d v) (x : κ) {k : List (κ × D)} {w : List (κ × V)} (h : Rk K al H k w) : Rk K al H (Dy.put k x d) (putK w x v) := by
  unfold Dy.put putK
  rw [h.any x]
  split
  · exact h.rep rv x
  · exact h.append (.cons rfl rv .nil)
theorem Rk.drop (x : κ) : ∀ {k : List (κ × D)} {w : List (κ × V)}, Rk K al H k w → Rk K al H (Dy.drop k x) (dropK w x)
  | [], w, h => by cases h.nil_inv; exact .nil
  | p :: r, w, h => by
    obtain ⟨q, t, rfl, e, v', h'⟩ := h.inv
    have ih := Rk.drop x h'
    unfold Dy.drop dropK at ih ⊢
    rw [List.filter_cons, List.filter_cons, e]
    split
    · exact .cons e v' ih
    · exact ih
theorem put_length (k : List (κ × D)) (x : κ) (d : D) : (Dy.put k x d).length ≤ k.length + 1 := by
  unfold Dy.put
  split
  · rw [List.length_map]; omega
  · rw [List.length_append]; simp
end

/-- a cell's contents -/
def RC0 (g : G) (al : List Addr) (H : Hp) (c : C) (o : HO) : Prop :=
  match c with
  | .lst ds => ∃ vs, o = .lst vs ∧ Rvs g.K al H ds vs
  | .dk k => ∃ w, o = .dK w ∧ Rk g.K al H k w
  | .dt k => ∃ w, o = .dT w ∧ Rk g.K al H k w
  | .ins c fs => ∃ Ca dx w, o = .ins Ca dx w ∧ g.cls[c]? = some Ca ∧ Rk g.K al H fs w
  | .lk _ => False
def RC (g : G) (al : List Addr) (H : Hp) (c : C) (o : HO) : Prop :=
  match c with
  | .lk c => ∃ ob u, o = .frz ob u ∧ RC0 g al H c u
  | c => RC0 g al H c o
/-- what a cell may be -/
def Cel0 : HO → Prop
  | .lst _ => True
  | .dK _ => True
  | .dT _ => True
  | .ins _ _ _ => True
  | _ => False
def Cel (o : HO) : Prop := Cel0 o ∨ ∃ ob u, o = .frz ob u ∧ Cel0 u
theorem RC0.cel {g : G} {al : List Addr} {H : Hp} {c : C} {o : HO} (h : RC0 g al H c o) : Cel0 o := by
  cases c with
  | lst ds => obtain ⟨_, rfl, _⟩ := h; trivial
  | dk k => obtain ⟨_, rfl, _⟩ := h; trivial
  | dt k => obtain ⟨_, rfl, _⟩ := h; trivial
  | ins c fs => obtain ⟨_, _, _, rfl, _⟩ := h; trivial
  | lk c => exact False.elim h
theorem RC.cel {g : G} {al : List Addr} {H : Hp} {c : C} {o : HO} (h : RC g al H c o) : Cel o := by
  cases c with
  | lk c => obtain ⟨ob, u, rfl, h⟩ := h; exact .inr ⟨ob, u, rfl, h.cel⟩
  | lst ds => exact .inl (RC0.cel (c := .lst ds) h)
  | dk k => exact .inl (RC0.cel (c := .dk k) h)
  | dt k => exact .inl (RC0.cel (c := .dt k) h)
  | ins c fs => exact .inl (RC0.cel (c := .ins c fs) h)
theorem RC0.mo {g : G} {al al' : List Addr} {H H' : Hp} (m : Mo al al' H H') {c : C} {o : HO} (h : RC0 g al H c o) : RC0 g al' H' c o := by
  cases c with
  | lst ds => obtain ⟨vs, e, r⟩ := h; exact ⟨vs, e, r.mo m⟩
  | dk k => obtain ⟨w, e, r⟩ := h; exact ⟨w, e, r.mo m⟩
  | dt k => obtain ⟨w, e, r⟩ := h; exact ⟨w, e, r.mo m⟩
  | ins c fs => obtain ⟨Ca, dx, w, e, q, r⟩ := h; exact ⟨Ca, dx, w, e, q, r.mo m⟩
  | lk c => exact False.elim h
theorem RC.mo {g : G} {al al' : List Addr} {H H' : Hp} (m : Mo al al' H H') {c : C} {o : HO} (h : RC g al H c o) : RC g al' H' c o := by
  cases c with
  | lk c => obtain ⟨ob, u, e, h⟩ := h; exact ⟨ob, u, e, h.mo m⟩
  | lst ds => exact RC0.mo (c := .lst ds) m h
  | dk k => exact RC0.mo (c := .dk k) m h
  | dt k => exact RC0.mo (c := .dt k) m h
  | ins c fs => exact RC0.mo (c := .ins c fs) m h

structure RH (g : G) (al : List Addr) (hq : Hq) (H : Hp) : Prop where
  len : al.length = hq.length
  nd : al.Nodup
  at_ : ∀ (n : Nat) (c : C), hq[n]? = some c → ∃ a o, al[n]? = some a ∧ H a = some o ∧ RC g al H c o
  tab : ∀ P ∈ g.tabs, TabG H P
theorem RH.cel {g : G} {al : List Addr} {hq : Hq} {H : Hp} (r : RH g al hq H) {a : Addr} (ha : a ∈ al) : ∃ o, H a = some o ∧ Cel o := by
  obtain ⟨n, hn, e⟩ := List.getElem_of_mem ha
  have hn' : n < hq.length := by rw [← r.len]; exact hn
  obtain ⟨b, o, h1, h2, h3⟩ := r.at_ n _ (List.getElem?_eq_getElem hn')
  have e2 : al[n]? = some a := by rw [List.getElem?_eq_getElem hn, e]
  rw [e2] at h1
  cases h1
  exact ⟨o, h2, h3.cel⟩
theorem RH.nin {g : G} {al : List Addr} {hq : Hq} {H : Hp} (r : RH g al hq H) {a : Addr} {o : HO} (h : H a = some o) (hc : ¬ Cel o) : a ∉ al := fun z => by
  obtain ⟨o', h1, h2⟩ := r.cel z
  rw [h] at h1
  cases h1
  exact hc h2
theorem RH.ninN {g : G} {al : List Addr} {hq : Hq} {H : Hp} (r : RH g al hq H) {a : Addr} (h : H a = none) : a ∉ al := fun z => by
  obtain ⟨o', h1, h2⟩ := r.cel z
  rw [h] at h1
  cases h1

/-- from one heap to a later one: cells may have changed, new ones may have come; all else but the tables of code stays -/
structure Ex (al al' : List Addr) (H H' : Hp) : Prop where
  pre : ∃ m, al' = al ++ m ∧ ∀ b ∈ m, H b = none
  tup : ∀ b xs, H b = some (.tup xs) → H' b = some (.tup xs)
  keep : ∀ b o, b ∉ al → (∀ ps, o ≠ .tbl ps) → H b = some o → H' b = some o
  live : ∀ b, H b ≠ none → H' b ≠ none
  frz : ∀ b o u, H b = some (.frz o u) → H' b = some (.frz o u)
theorem Ex.mo {al al' : List Addr} {H H' : Hp} (e : Ex al al' H H') : Mo al al' H H' := ⟨let ⟨m, h1, h2⟩ := e.pre; ⟨m, h1, fun b hb o u z => by rw [h2 b hb] at z; cases z⟩, e.tup, fun b o u n h => e.keep b _ n (fun ps z => by cases z) h⟩
theorem Ex.refl (al : List Addr) (H : Hp) : Ex al al H H := ⟨⟨[], by simp, by simp⟩, fun _ _ h => h, fun _ _ _ _ h => h, fun _ h => h, fun _ _ _ h => h⟩
theorem Ex.nin {al al' : List Addr} {H H' : Hp} (m : Ex al al' H H') {a : Addr} {o : HO} (h : H a = some o) (n : a ∉ al) : a ∉ al' := by
  obtain ⟨m', rfl, hm⟩ := m.pre
  intro z
  rcases List.mem_append.mp z with z | z
  · exact n z
  · rw [hm a z] at h; cases h
theorem Ex.trans {al al1 al2 : List Addr} {H H1 H2 : Hp} (a : Ex al al1 H H1) (b : Ex al1 al2 H1 H2) : Ex al al2 H H2 := by
  obtain ⟨m1, e1, n1⟩ := a.pre
  obtain ⟨m2, e2, n2⟩ := b.pre
  refine ⟨⟨m1 ++ m2, by rw [e2, e1, List.append_assoc], fun c hc => ?_⟩, fun c xs h => b.tup c xs (a.tup c xs h), fun c o n t h => b.keep c o (a.nin h n) t (a.keep c o n t h), fun c h => b.live c (a.live c h), fun c o u h => b.frz c o u (a.frz c o u h)⟩
  rcases List.mem_append.mp hc with hc | hc
  · exact n1 c hc
  · cases q : H c with
    | none => rfl
    | some o => exact absurd (n2 c hc) (a.live c (by rw [q]; exact fun z => by cases z))
/-- a new thing at p -/
theorem Ex.new {al : List Addr} {H : Hp} {p : Addr} {o : HO} (n : H p = none) : Ex al al H (upd H p o) := by
  have ne : ∀ b u, H b = some u → b ≠ p := fun b u h z => by rw [z, n] at h; cases h
  refine ⟨⟨[], by simp, by simp⟩, fun b xs h => by rw [upd_ne (ne b _ h)]; exact h, fun b u _ _ h => by rw [upd_ne (ne b _ h)]; exact h, fun b h => ?_, fun b o u h => by rw [upd_ne (ne b _ h)]; exact h⟩
  cases q : H b with
  | none => exact absurd q h
  | some u => rw [upd_ne (ne b _ q), q]; exact fun z => by cases z
theorem Mo.new {al : List Addr} {H : Hp} {p : Addr} {o : HO} (n : H p = none) : Mo al al H (upd H p o) := (Ex.new n).mo
theorem RH.new {g : G} {al : List Addr} {hq : Hq} {H : Hp} {p : Addr} {o : HO} (r : RH g al hq H) (n : H p = none) : RH g al hq (upd H p o) := by
  refine ⟨r.len, r.nd, fun i c h => ?_, fun P hP => ?_⟩
  · obtain ⟨a, u, h1, h2, h3⟩ := r.at_ i c h
    exact ⟨a, u, h1, by rw [upd_ne (fun z => by rw [z, n] at h2; cases h2)]; exact h2, h3.mo (Mo.new n)⟩
  · obtain ⟨ps, h1, h2⟩ := r.tab P hP
    exact ⟨ps, by rw [upd_ne (fun z => by rw [z, n] at h1; cases h1)]; exact h1, h2⟩
end Dy
end

section
set_option Elab.async false
set_option linter.all false
set_option maxRecDepth 100000
set_option maxHeartbeats 2000000
/-! Dy2: slots, what an expression's own evaluation says of the model's run, freezing. -/
namespace Dy
open PySem PySem.Spec PyProof.Rows L2 GxR

inductive Sl where
  | no | va (d : D) | ow (c : C)
structure RSl (g : G) (al : List Addr) (H H0 : Hp) (sl : List Sl) (σ : L2.St) : Prop where
  len : sl.length = σ.length
  va : ∀ (i : Nat) (d : D), sl[i]? = some (.va d) → ∃ v, σ[i]? = some (some v) ∧ Rv g.K al H d v
  ow : ∀ (i : Nat) (c : C), sl[i]? = some (.ow c) → ∃ a o, σ[i]? = some (some (.ref a)) ∧ H a = some o ∧ RC0 g al H c o ∧ a ∉ al ∧ H0 a = none
  one : ∀ (i j : Nat) (c c' : C) (a : Addr), sl[i]? = some (.ow c) → sl[j]? = some (.ow c') → σ[i]? = some (some (.ref a)) → σ[j]? = some (some (.ref a)) → i = j
/-- the slots as an expression reads them -/
structure RSe (g : G) (al : List Addr) (H : Hp) (sl : List Sl) (σ : L2.St) : Prop where
  len : sl.length = σ.length
  va : ∀ (i : Nat) (d : D), sl[i]? = some (.va d) → ∃ v, σ[i]? = some (some v) ∧ Rv g.K al H d v
section
variable {g : G} {al al' : List Addr} {H H' H0 : Hp} {sl : List Sl} {σ : L2.St} {hq : Hq}
theorem RSl.se (r : RSl g al H H0 sl σ) : RSe g al H sl σ := ⟨r.len, r.va⟩
theorem RSe.ex (r : RSe g al H sl σ) (e : Ex al al' H H') : RSe g al' H' sl σ := ⟨r.len, fun i d h => let ⟨v, h1, h2⟩ := r.va i d h; ⟨v, h1, h2.mo e.mo⟩⟩
theorem notbl {c : C} {o : HO} (h : RC0 g al H c o) : ∀ ps, o ≠ .tbl ps := fun ps e => by
  have := h.cel
  rw [e] at this
  exact this
theorem RSl.ex (r : RSl g al H H0 sl σ) (e : Ex al al' H H') : RSl g al' H' H0 sl σ where
  len := r.len
  va := fun i d h => let ⟨v, h1, h2⟩ := r.va i d h; ⟨v, h1, h2.mo e.mo⟩
  ow := fun i c h => let ⟨a, o, h1, h2, h3, h4, h5⟩ := r.ow i c h; ⟨a, o, h1, e.keep a o h4 (notbl h3) h2, h3.mo e.mo, e.nin h2 h4, h5⟩
  one := r.one
/-- a thing that is no cell is written -/
theorem Mo.wr {p : Addr} {o o' : HO} (hp : H p = some o) (hc : Cel0 o) : Mo al al H (upd H p o') := by
  refine ⟨⟨[], by simp, by simp⟩, fun b xs h => ?_, fun b ob u _ h => ?_⟩
  · rw [upd_ne (fun z => by rw [z, hp] at h; cases h; exact hc)]; exact h
  · rw [upd_ne (fun z => by rw [z, hp] at h; cases h; exact hc)]; exact h
theorem RH.wr {p : Addr} {o o' : HO} (r : RH g al hq H) (n : p ∉ al) (hp : H p = some o) (hc : Cel0 o) : RH g al hq (upd H p o') := by
  refine ⟨r.len, r.nd, fun i c h => ?_, fun P hP => ?_⟩
  · obtain ⟨a, u, h1, h2, h3⟩ := r.at_ i c h
    exact ⟨a, u, h1, by rw [upd_ne (fun z => n (by rw [← z]; exact List.mem_of_getElem? h1))]; exact h2, h3.mo (Mo.wr hp hc)⟩
  · obtain ⟨ps, h1, h2⟩ := r.tab P hP
    exact ⟨ps, by rw [upd_ne (fun z => by rw [z, hp] at h1; cases h1; exact hc)]; exact h1, h2⟩
theorem Ex.wr {p : Addr} {o' : HO} (e : Ex al al' H H') (n : H p = none) : Ex al al' H (upd H' p o') := by
  have ne : ∀ b u, H b = some u → b ≠ p := fun b u h z => by rw [z, n] at h; cases h
  refine ⟨e.pre, fun b xs h => by rw [upd_ne (ne b _ h)]; exact e.tup b xs h, fun b u hb ht h => by rw [upd_ne (ne b _ h)]; exact e.keep b u hb ht h, fun b h => ?_, fun b o u h => by rw [upd_ne (ne b _ h)]; exact e.frz b o u h⟩
  cases q : H b with
  | none => exact absurd q h
  | some u => rw [upd_ne (ne b _ q)]; exact e.live b h
end

/-- the cell that a value would be -/
def cellOf : D → Option C
  | .lst ds => some (.lst ds)
  | .dk k => some (.dk k)
  | .dt k => some (.dt k)
  | _ => none
def RO (g : G) (al : List Addr) (H : Hp) (d : D) (o : HO) : Prop := ∃ c, cellOf d = some c ∧ RC0 g al H c o
theorem RO.cel {g : G} {al : List Addr} {H : Hp} {d : D} {o : HO} (r : RO g al H d o) : Cel0 o := let ⟨_, _, h⟩ := r; h.cel
theorem RO.mut {g : G} {al : List Addr} {H : Hp} {d : D} {o : HO} (r : RO g al H d o) : Mut (some o) := by
  obtain ⟨c, e, h⟩ := r
  cases d with
  | lst ds => cases e; obtain ⟨_, rfl, _⟩ := h; trivial
  | dk k => cases e; obtain ⟨_, rfl, _⟩ := h; trivial
  | dt k => cases e; obtain ⟨_, rfl, _⟩ := h; trivial
  | _ => cases e
/-- frozen, it is the value -/
theorem RO.frz {g : G} {al : List Addr} {H : Hp} {d : D} {o : HO} {p : Addr} {ob : Obj} (r : RO g al H d o) (n : p ∉ al) (hp : H p = some o) : Rv g.K al (upd H p (.frz ob o)) d (.ref p) := by
  have m : Mo al al H (upd H p (.frz ob o)) := Mo.wr hp r.cel
  obtain ⟨c, e, h⟩ := r
  cases d with
  | lst ds => cases e; obtain ⟨vs, rfl, h⟩ := h; exact .lst ⟨ob, upd_same, n⟩ (h.mo m)
  | dk k => cases e; obtain ⟨w, rfl, h⟩ := h; exact .dk (o := ob) upd_same n h.1 (h.2.mo m)
  | dt k => cases e; obtain ⟨w, rfl, h⟩ := h; exact .dt (o := ob) upd_same n h.1 (h.2.mo m)
  | _ => cases e

/-- an expression by its own evaluation f -/
def TDe (g : G) (f : List Sl → Hq → R D) : TE := fun σ H Q => ∃ al sl hq, RH g al hq H ∧ RSe g al H sl σ ∧ match f sl hq with
  | .ok d hq' => ∀ al' v H', RH g al' hq' H' → Ex al al' H H' → Rv g.K al' H' d v → Q v H'
  | _ => False
/-- .. its value a new list or dict that nobody else has -/
def TDo (g : G) (f : List Sl → Hq → R D) : TE := fun σ H Q => ∃ al sl hq, RH g al hq H ∧ RSe g al H sl σ ∧ match f sl hq with
  | .ok d hq' => ∀ al' p H' o, RH g al' hq' H' → Ex al al' H H' → p ∉ al' → H p = none → H' p = some o → RO g al' H' d o → Q (.ref p) H'
  | _ => False
/-- a test -/
def TDt (g : G) (f : List Sl → Hq → R Bool) : TT := fun σ H Q => ∃ al sl hq, RH g al hq H ∧ RSe g al H sl σ ∧ match f sl hq with
  | .ok b hq' => ∀ al' H', RH g al' hq' H' → Ex al al' H H' → Q b H'
  | _ => False
/-- an argument list -/
def TDa (g : G) (f : List Sl → Hq → R (List D)) : TA := fun σ H Q => ∃ al sl hq, RH g al hq H ∧ RSe g al H sl σ ∧ match f sl hq with
  | .ok ds hq' => ∀ al' vs H', RH g al' hq' H' → Ex al al' H H' → Rvs g.K al' H' ds vs → Q vs H'
  | _ => False

abbrev SE (g : G) (X : Cx) (e : Expr) (f : List Sl → Hq → R D) : Prop := PE X e (TDe g f)
abbrev SO (g : G) (X : Cx) (e : Expr) (f : List Sl → Hq → R D) : Prop := PE X e (TDo g f)
abbrev SB (g : G) (X : Cx) (e : Expr) (f : List Sl → Hq → R Bool) : Prop := PT X e (TDt g f)
abbrev SA (g : G) (X : Cx) (es : List Expr) (f : List Sl → Hq → R (List D)) : Prop := PA X es (TDa g f)

section
variable {X : Cx} {e : Expr} {es : List Expr}
theorem PE.le {t t' : TE} (h : PE X e t) (k : ∀ σ H Q, t' σ H Q → t σ H Q) : PE X e t' := ⟨fun pins s σ H Q I q => h.run pins s σ H Q I (k σ H Q q)⟩
theorem PT.le {t t' : TT} (h : PT X e t) (k : ∀ σ H Q, t' σ H Q → t σ H Q) : PT X e t' := ⟨fun pins s σ H Q I q => h.run pins s σ H Q I (k σ H Q q)⟩
theorem PA.le {t t' : TA} (h : PA X es t) (k : ∀ σ H Q, t' σ H Q → t σ H Q) : PA X es t' := ⟨fun pos pins s σ H Q I q => h.run pos pins s σ H Q I (k σ H Q q)⟩
/-- what is wanted, or wanted once the new thing is frozen -/
def Frzd (Q : VK) : VK := fun v H => Q v H ∨ ∃ p u, v = .ref p ∧ H p = some u ∧ Mut (some u) ∧ ∀ o, Q v (upd H p (.frz o u))
theorem PE.frz {t : TE} (h : PE X e t) : PE X e (fun σ H Q => t σ H (Frzd Q)) := by
  refine ⟨fun pins s σ H Q I q => thn (h.run pins s σ H (Frzd Q) I q) fun v s1 ⟨x, H1, I1, r1, q1⟩ => ?_⟩
  rcases q1 with q1 | ⟨p, u, rfl, hp, mu, q1⟩
  · exact ⟨x, H1, I1, r1, q1⟩
  · obtain ⟨od, I2⟩ := I1.lock hp mu
    exact ⟨_, _, I2, r1, q1 od⟩
theorem OpR.frz {f : Value → Value → Sem Value} {r : R2} (h : OpR X f r) : OpR X f (fun x y H Q => r x y H (Frzd Q)) := by
  intro pins s σ H x y v u Q I rx ry q
  refine thn (h pins s σ H x y v u (Frzd Q) I rx ry q) fun v s1 ⟨x, H1, I1, r1, q1⟩ => ?_
  rcases q1 with q1 | ⟨p, u, rfl, hp, mu, q1⟩
  · exact ⟨x, H1, I1, r1, q1⟩
  · obtain ⟨od, I2⟩ := I1.lock hp mu
    exact ⟨_, _, I2, r1, q1 od⟩
variable {g : G} {f : List Sl → Hq → R D}
/-- a new list or dict, frozen -/
theorem SO.se (h : SO g X e f) : SE g X e f := by
  refine PE.le (PE.frz h) fun σ H Q q => ?_
  obtain ⟨al, sl, hq, rh, rs, q⟩ := q
  refine ⟨al, sl, hq, rh, rs, ?_⟩
  cases hf : f sl hq with
  | ok d hq' =>
    rw [hf] at q
    intro al' p H' o rh' ex np hn hp ro
    refine .inr ⟨p, o, rfl, hp, ro.mut, fun ob => ?_⟩
    exact q al' (.ref p) (upd H' p (.frz ob o)) (rh'.wr np hp ro.cel) (ex.wr hn) (ro.frz np hp)
  | er c fs h => rw [hf] at q; exact q
  | st => rw [hf] at q; exact q
/-- a new cell -/
def newCell (f : List Sl → Hq → R D) : List Sl → Hq → R D := fun sl h => (f sl h).bind fun d h1 => match cellOf d with
  | some c => .ok (.ref h1.length) (h1 ++ [c])
  | none => .st
theorem Mo.more {al : List Addr} {H : Hp} {p : Addr} {o : HO} (hp : H p = some o) (h0 : Cel0 o) : Mo al (al ++ [p]) H H :=
  ⟨⟨[p], rfl, fun b hb ob u z => by
    have e : b = p := by simpa using hb
    rw [e, hp] at z
    cases z
    exact h0⟩, fun _ _ h => h, fun _ _ _ _ h => h⟩
theorem RH.snoc {al : List Addr} {hq : Hq} {H : Hp} {p : Addr} {c : C} {o : HO} (r : RH g al hq H) (n : p ∉ al) (hp : H p = some o) (h0 : Cel0 o) (rc : RC g (al ++ [p]) H c o) : RH g (al ++ [p]) (hq ++ [c]) H := by
  refine ⟨by rw [List.length_append, List.length_append, r.len]; rfl, ?_, fun i c' h => ?_, r.tab⟩
  · rw [List.nodup_append]
    refine ⟨r.nd, by simp, fun a ha b hb => ?_⟩
    have : b = p := by simpa using hb
    rw [this]
    intro z
    exact n (z ▸ ha)
  · by_cases hi : i < hq.length
    · rw [List.getElem?_append_left hi] at h
      obtain ⟨a, u, h1, h2, h3⟩ := r.at_ i c' h
      have hi2 : i < al.length := by rw [r.len]; exact hi
      exact ⟨a, u, by rw [List.getElem?_append_left hi2]; exact h1, h2, h3.mo (Mo.more hp h0)⟩
    · have e : i = hq.length := by
        have := (List.getElem?_eq_some_iff.mp h).1
        rw [List.length_append] at this
        simp at this
        omega
      subst e
      rw [List.getElem?_append_right (Nat.le_refl _)] at h
      simp at h
      subst h
      exact ⟨p, o, by rw [List.getElem?_append_right (by rw [r.len]; exact Nat.le_refl _), r.len]; simp, hp, rc⟩
theorem RC0.rc {al : List Addr} {H : Hp} {c : C} {o : HO} (h : RC0 g al H c o) : RC g al H c o := by
  cases c with
  | lk c => exact False.elim h
  | _ => exact h
theorem Ex.more {al al' : List Addr} {H H' : Hp} {p : Addr} (e : Ex al al' H H') (n : H p = none) : Ex al (al' ++ [p]) H H' := by
  obtain ⟨m, rfl, hm⟩ := e.pre
  refine ⟨⟨m ++ [p], by rw [List.append_assoc], fun b hb => ?_⟩, e.tup, e.keep, e.live, e.frz⟩
  rcases List.mem_append.mp hb with hb | hb
  · exact hm b hb
  · have : b = p := by simpa using hb
    rw [this]; exact n
theorem SO.cell (h : SO g X e f) : SE g X e (newCell f) := by
  refine PE.le h fun σ H Q q => ?_
  obtain ⟨al, sl, hq, rh, rs, q⟩ := q
  refine ⟨al, sl, hq, rh, rs, ?_⟩
  unfold newCell at q
  cases hf : f sl hq with
  | ok d hq' =>
    rw [hf] at q
    intro al' p H' o rh' ex np hn hp ro
    obtain ⟨c, ec, rc⟩ := ro
    simp only [R.bind, ec] at q
    refine q (al' ++ [p]) (.ref p) H' (rh'.snoc np hp rc.cel ((rc.mo (Mo.more hp rc.cel)).rc)) (ex.more hn) (.ref ?_)
    rw [← rh'.len, List.getElem?_append_right (Nat.le_refl _)]
    simp
  | er c fs h => rw [hf] at q; exact q
  | st => rw [hf] at q; exact q
end
end Dy
end

section
set_option Elab.async false
set_option linter.all false
set_option maxRecDepth 100000
set_option maxHeartbeats 2000000
/-! Dy3: expressions, one rule a construct: the hand layer's rule, said by own evaluation. -/
namespace Dy
open PySem PySem.Spec PyProof.Rows L2 GxR

abbrev LIM : Nat := 16777216
theorem lim_eq : sizeLine = LIM := sizeLine_eq
/-- what is wanted behind an own result -/
def Then (g : G) (al : List Addr) (H : Hp) (r : R D) (Q : VK) : Prop := match r with
  | .ok d hq' => ∀ al' v H', RH g al' hq' H' → Ex al al' H H' → Rv g.K al' H' d v → Q v H'
  | _ => False
theorem TDe.eq {g : G} {f : List Sl → Hq → R D} {σ : L2.St} {H : Hp} {Q : VK} : TDe g f σ H Q = ∃ al sl hq, RH g al hq H ∧ RSe g al H sl σ ∧ Then g al H (f sl hq) Q := rfl
theorem Then.ok {g : G} {al : List Addr} {H : Hp} {d : D} {hq : Hq} {Q : VK} {v : V} (q : Then g al H (.ok d hq) Q) (rh : RH g al hq H) (r : Rv g.K al H d v) : Q v H := q al v H rh (Ex.refl _ _) r
/-- from a later heap on -/
theorem Then.later {g : G} {al al1 : List Addr} {H H1 : Hp} {r : R D} {Q : VK} (q : Then g al H r Q) (e : Ex al al1 H H1) : Then g al1 H1 r Q := by
  cases r with
  | ok d hq => exact fun al' v H' rh ex rv => q al' v H' rh (e.trans ex) rv
  | er c fs h => exact q
  | st => exact q
/-- a bind is there: its first part came through -/
theorem Then.split {α : Type} {g : G} {al : List Addr} {H : Hp} {r : R α} {k : α → Hq → R D} {Q : VK} (q : Then g al H (r.bind k) Q) : ∃ a h, r = .ok a h ∧ Then g al H (k a h) Q := by
  cases r with
  | ok a h => exact ⟨a, h, rfl, q⟩
  | er c fs h => exact False.elim q
  | st => exact False.elim q

/-! ### small ones -/
def fVar (i : Nat) : List Sl → Hq → R D := fun sl h => match sl[i]? with
  | some (.va d) => .ok d h
  | _ => .st
def fC (d : D) : List Sl → Hq → R D := fun _ h => .ok d h
section
variable {X : Cx} {g : G} {pos : Pos} {a b c : Expr} {fa fb fc : List Sl → Hq → R D} {es : List Expr} {fs : List Sl → Hq → R (List D)}
theorem se_var {i : Nat} {x : Str} (hN : X.N[i]? = some x) (hv : Vis X.env.scope x) (hd : (x == ("__debug__" : Str)) = false) (hcd : (x == ("__classdict__" : Str)) = false) : SE g X (.Name x pos) (fVar i) := by
  refine PE.le (pe_var hN hv hd hcd) fun σ H Q q => ?_
  obtain ⟨al, sl, hq, rh, rs, q⟩ := q
  unfold fVar at q
  cases e : sl[i]? with
  | none => rw [e] at q; exact False.elim q
  | some z =>
    rw [e] at q
    cases z with
    | va d =>
      obtain ⟨v, h1, h2⟩ := rs.va i d e
      exact ⟨v, h1, Then.ok q rh h2⟩
    | _ => exact False.elim q
theorem se_const {t : TE} {d : D} {v : V} (h : PE X a t) (ht : ∀ σ H Q, Q v H → t σ H Q) (r : ∀ al H, Rv g.K al H d v) : SE g X a (fC d) := by
  refine PE.le h fun σ H Q q => ?_
  obtain ⟨al, sl, hq, rh, rs, q⟩ := q
  exact ht _ _ _ (Then.ok q rh (r al H))
theorem se_int {k : Nat} {i : Int} : SE g X (.Constant (.int i) k pos) (fC (.int i)) := se_const (t := tC (.int i)) (v := .int i) pe_int (fun _ _ _ q => q) fun _ _ => .int i
theorem se_bl {k : Nat} {i : Bool} : SE g X (.Constant (.bool i) k pos) (fC (.bl i)) := se_const (t := tC (.bl i)) (v := .bl i) pe_bl (fun _ _ _ q => q) fun _ _ => .bl i
theorem se_non {k : Nat} : SE g X (.Constant .none k pos) (fC .non) := se_const (t := tC .non) (v := .non) pe_non (fun _ _ _ q => q) fun _ _ => .non
theorem se_str {k : Nat} {x : Str} : SE g X (.Constant (.str x) k pos) (fC (.str x)) := se_const (t := tC (.str x)) (v := .str x) pe_str (fun _ _ _ q => q) fun _ _ => .str x
theorem se_glob {x : Str} {d : D} {v : V} {u : Value} (hg : Gl X x) (hm : X.mg x = some u) (ru : RelV v u) (hd : (x == ("__debug__" : Str)) = false) (r : ∀ al H, Rv g.K al H d v) : SE g X (.Name x pos) (fC d) :=
  se_const (t := tC v) (v := v) (pe_glob hg hm ru hd) (fun _ _ _ q => q) r

/-! ### argument lists, displays -/
def aNil : List Sl → Hq → R (List D) := fun _ h => .ok [] h
def aCons (fa : List Sl → Hq → R D) (fs : List Sl → Hq → R (List D)) : List Sl → Hq → R (List D) := fun sl h => (fa sl h).bind fun d h1 => (fs sl h1).bind fun ds h2 => .ok (d :: ds) h2
theorem sa_nil : SA g X [] aNil := by
  refine PA.le pa_nil fun σ H Q q => ?_
  obtain ⟨al, sl, hq, rh, rs, q⟩ := q
  exact q al [] H rh (Ex.refl _ _) .nil
theorem sa_cons (ha : SE g X a fa) (hr : SA g X es fs) (hs : starEach (a :: es) X.env = (false, eval a X.env) :: starEach es X.env) : SA g X (a :: es) (aCons fa fs) := by
  refine PA.le (pa_cons ha hr hs) fun σ H Q q => ?_
  obtain ⟨al, sl, hq, rh, rs, q⟩ := q
  refine ⟨al, sl, hq, rh, rs, ?_⟩
  unfold aCons at q
  cases e : fa sl hq with
  | ok d h1 =>
    rw [e] at q
    intro al1 v H1 rh1 ex1 rv
    refine ⟨al1, sl, h1, rh1, rs.ex ex1, ?_⟩
    simp only [R.bind] at q
    cases e2 : fs sl h1 with
    | ok ds h2 =>
      rw [e2] at q
      intro al2 vs H2 rh2 ex2 rvs
      exact q al2 (v :: vs) H2 rh2 (ex1.trans ex2) (.cons (rv.mo ex2.mo) rvs)
    | er c fs h => rw [e2] at q; exact q
    | st => rw [e2] at q; exact q
  | er c fs h => rw [e] at q; exact q
  | st => rw [e] at q; exact q
def fTup (fs : List Sl → Hq → R (List D)) : List Sl → Hq → R D := fun sl h => (fs sl h).bind fun ds h1 => if ds.length ≤ LIM then .ok (.tup ds) h1 else .st
def fLst (fs : List Sl → Hq → R (List D)) : List Sl → Hq → R D := fun sl h => (fs sl h).bind fun ds h1 => if ds.length ≤ LIM then .ok (.lst ds) h1 else .st
theorem se_tup {k : Nat} (h : SA g X es fs) : SE g X (.Tuple es k pos) (fTup fs) := by
  refine PE.le (pe_tup h) fun σ H Q q => ?_
  obtain ⟨al, sl, hq, rh, rs, q⟩ := q
  have q : Then g al H (fTup fs sl hq) Q := q
  unfold fTup at q
  obtain ⟨ds, h1, e, q⟩ := q.split
  refine ⟨al, sl, hq, rh, rs, ?_⟩
  rw [e]
  intro al1 vs H1 rh1 ex1 rvs
  by_cases hl : ds.length ≤ LIM
  · rw [if_pos hl] at q
    refine ⟨by rw [lim_eq, ← rvs.length]; exact hl, fun p np => ?_⟩
    exact q al1 (.ref p) _ (rh1.new np) (ex1.trans (Ex.new np)) (.tup upd_same (rvs.mo (Mo.new np)))
  · rw [if_neg hl] at q
    exact False.elim q
/-- what is wanted behind an own result that is new -/
def ThenO (g : G) (al : List Addr) (H : Hp) (r : R D) (Q : VK) : Prop := match r with
  | .ok d hq' => ∀ al' p H' o, RH g al' hq' H' → Ex al al' H H' → p ∉ al' → H p = none → H' p = some o → RO g al' H' d o → Q (.ref p) H'
  | _ => False
theorem ThenO.split {α : Type} {g : G} {al : List Addr} {H : Hp} {r : R α} {k : α → Hq → R D} {Q : VK} (q : ThenO g al H (r.bind k) Q) : ∃ a h, r = .ok a h ∧ ThenO g al H (k a h) Q := by
  cases r with
  | ok a h => exact ⟨a, h, rfl, q⟩
  | er c fs h => exact False.elim q
  | st => exact False.elim q
/-- a list or dict just laid at p -/
theorem ThenO.new {g : G} {al al1 : List Addr} {H H1 : Hp} {d : D} {hq : Hq} {Q : VK} {p : Addr} {o : HO} (q : ThenO g al H (.ok d hq) Q) (rh : RH g al1 hq H1) (ex : Ex al al1 H H1) (np : H1 p = none) (ro : RO g al1 (upd H1 p o) d o) : Q (.ref p) (upd H1 p o) := by
  have hp : H p = none := by
    cases z : H p with
    | none => rfl
    | some u => exact absurd np (ex.live p (by rw [z]; exact fun y => by cases y))
  exact q al1 p _ o (rh.new np) (ex.wr hp) (rh.ninN np) hp upd_same ro
theorem so_lst (h : SA g X es fs) : SO g X (.List es pos) (fLst fs) := by
  refine PE.le (pe_lst h) fun σ H Q q => ?_
  obtain ⟨al, sl, hq, rh, rs, q⟩ := q
  have q : ThenO g al H (fLst fs sl hq) Q := q
  unfold fLst at q
  obtain ⟨ds, h1, e, q⟩ := q.split
  refine ⟨al, sl, hq, rh, rs, ?_⟩
  rw [e]
  intro al1 vs H1 rh1 ex1 rvs
  by_cases hl : ds.length ≤ LIM
  · rw [if_pos hl] at q
    exact ⟨by rw [lim_eq, ← rvs.length]; exact hl, fun p np => q.new rh1 ex1 np ⟨_, rfl, vs, rfl, rvs.mo (Mo.new np)⟩⟩
  · rw [if_neg hl] at q
    exact False.elim q

/-! ### operators -/
/-- an operation on two own values, by a rule of the hand layer -/
def OpS (g : G) (o : D → D → Hq → R D) (r : R2) : Prop := ∀ al hq H x y vx vy Q, RH g al hq H → Rv g.K al H x vx → Rv g.K al H y vy → Then g al H (o x y hq) Q → r vx vy H Q
def OpO (g : G) (o : D → D → Hq → R D) (r : R2) : Prop := ∀ al hq H x y vx vy Q, RH g al hq H → Rv g.K al H x vx → Rv g.K al H y vy → ThenO g al H (o x y hq) Q → r vx vy H Q
def fBin (o : D → D → Hq → R D) (fa fb : List Sl → Hq → R D) : List Sl → Hq → R D := fun sl h => (fa sl h).bind fun x h1 => (fb sl h1).bind fun y h2 => o x y h2
/-- two operands in a row -/
theorem two {r : R2} {o : D → D → Hq → R D} (hs : OpS g o r) {σ : L2.St} {H : Hp} {Q : VK} (q : TDe g (fBin o fa fb) σ H Q) : tOp r (TDe g fa) (TDe g fb) σ H Q := by
  obtain ⟨al, sl, hq, rh, rs, q⟩ := q
  have q : Then g al H (fBin o fa fb sl hq) Q := q
  unfold fBin at q
  obtain ⟨x, h1, e1, q⟩ := q.split
  obtain ⟨y, h2, e2, q⟩ := q.split
  refine ⟨al, sl, hq, rh, rs, ?_⟩
  rw [e1]
  intro al1 vx H1 rh1 ex1 rx
  refine ⟨al1, sl, h1, rh1, rs.ex ex1, ?_⟩
  rw [e2]
  intro al2 vy H2 rh2 ex2 ry
  exact hs al2 h2 H2 x y vx vy Q rh2 (rx.mo ex2.mo) ry (Then.later q (ex1.trans ex2))
theorem ThenO.later {g : G} {al al1 : List Addr} {H H1 : Hp} {r : R D} {Q : VK} (q : ThenO g al H r Q) (e : Ex al al1 H H1) : ThenO g al1 H1 r Q := by
  cases r with
  | ok d hq => exact fun al' p H' o rh ex np hp h' ro => q al' p H' o rh (e.trans ex) np (by
      cases z : H p with
      | none => rfl
      | some u => exact absurd hp (e.live p (by rw [z]; exact fun y => by cases y))) h' ro
  | er c fs h => exact q
  | st => exact q
theorem twoO {r : R2} {o : D → D → Hq → R D} (hs : OpO g o r) {σ : L2.St} {H : Hp} {Q : VK} (q : TDo g (fBin o fa fb) σ H Q) : tOp r (TDe g fa) (TDe g fb) σ H Q := by
  obtain ⟨al, sl, hq, rh, rs, q⟩ := q
  have q : ThenO g al H (fBin o fa fb sl hq) Q := q
  unfold fBin at q
  obtain ⟨x, h1, e1, q⟩ := q.split
  obtain ⟨y, h2, e2, q⟩ := q.split
  refine ⟨al, sl, hq, rh, rs, ?_⟩
  rw [e1]
  intro al1 vx H1 rh1 ex1 rx
  refine ⟨al1, sl, h1, rh1, rs.ex ex1, ?_⟩
  rw [e2]
  intro al2 vy H2 rh2 ex2 ry
  exact hs al2 h2 H2 x y vx vy Q rh2 (rx.mo ex2.mo) ry (q.later (ex1.trans ex2))
theorem se_bin {op : Operator} {r : R2} {o : D → D → Hq → R D} (ho : OpR X (binaryOp op) r) (hs : OpS g o r) (ha : SE g X a fa) (hb : SE g X b fb) : SE g X (.BinOp a op b pos) (fBin o fa fb) :=
  PE.le (pe_op ho ha hb) fun _ _ _ q => two hs q
theorem so_bin {op : Operator} {r : R2} {o : D → D → Hq → R D} (ho : OpR X (binaryOp op) r) (hs : OpO g o r) (ha : SE g X a fa) (hb : SE g X b fb) : SO g X (.BinOp a op b pos) (fBin o fa fb) :=
  PE.le (pe_op ho ha hb) fun _ _ _ q => twoO hs q
theorem se_cmp {op : CmpOp} {r : R2} {o : D → D → Hq → R D} (ho : OpR X (compareOp op) r) (hs : OpS g o r) (ha : SE g X a fa) (hb : SE g X b fb) (hm : behindInMarks op b = false) : SE g X (.Compare a [op] [b] pos) (fBin o fa fb) :=
  PE.le (pe_cmpR ho ha hb hm) fun _ _ _ q => two hs q
end
end Dy
end

section
set_option Elab.async false
set_option linter.all false
set_option maxRecDepth 100000
set_option maxHeartbeats 2000000
/-! Dy4: operators and comparisons on own values. -/
namespace Dy
open PySem PySem.Spec PyProof.Rows L2 GxR

section
variable {X : Cx} {g : G}
/-- a rule for some values, another for others -/
theorem OpS.or {o : D → D → Hq → R D} {r r' : R2} (p : D → D → Bool) (h : OpS g (fun x y h => if p x y = true then o x y h else .st) r) (h' : OpS g (fun x y h => if p x y = true then .st else o x y h) r') : OpS g o (fun x y H Q => r x y H Q ∨ r' x y H Q) := by
  intro al hq H x y vx vy Q rh rx ry q
  by_cases hp : p x y = true
  · exact .inl (h al hq H x y vx vy Q rh rx ry (by simp only [hp, if_true]; exact q))
  · exact .inr (h' al hq H x y vx vy Q rh rx ry (by simp only [hp, if_false]; exact q))

/-! ### + -/
def opAdd (x y : D) (h : Hq) : R D := match x, y with
  | .int i, .int j => .ok (.int (i + j)) h
  | .str a, .str b => if a.length + b.length ≤ LIM then .ok (.str (a ++ b)) h else .st
  | .tup a, .tup b => if a.length + b.length ≤ LIM then .ok (.tup (a ++ b)) h else .st
  | _, _ => .st
def rAddA (K : PySem.W.Frag) : R2 := fun x y H Q => (rI0 fun i j => .int (i + j)) x y H Q ∨ ((fun x y H Q => ∃ i j, x = .str i ∧ y = .str j ∧ i.length + j.length ≤ sizeLine ∧ Q (.str (i ++ j)) H) : R2) x y H Q ∨ rCatA K x y H Q
theorem op_addA : OpR X (binaryOp .Add) (rAddA X.K) := op_add.or (op_add_str.or op_catA)
theorem os_add : OpS g opAdd (rAddA g.K) := by
  intro al hq H x y vx vy Q rh rx ry q
  unfold opAdd at q
  split at q
  · cases rx; cases ry
    exact .inl ⟨_, _, rfl, rfl, q.ok rh (.int _)⟩
  · cases rx; cases ry
    split at q
    · rename_i hl
      exact .inr (.inl ⟨_, _, rfl, rfl, by rw [lim_eq]; exact hl, q.ok rh (.str _)⟩)
    · exact False.elim q
  · cases rx with
    | tup ha ra =>
      cases ry with
      | tup hb rb =>
        split at q
        · rename_i hl
          refine .inr (.inr ⟨_, _, _, _, rfl, rfl, .inl (.inl ha), .inl (.inl hb), by rw [lim_eq, ← ra.length, ← rb.length]; exact hl, fun e => ?_, fun e1 e2 => ?_, fun e1 e2 p np => ?_⟩)
          · refine q.ok rh (.tup hb ?_)
            have := ra.length
            rw [e] at this
            rw [List.length_eq_zero_iff.mp this]
            exact rb
          · refine q.ok rh (.tup ha ?_)
            have := rb.length
            rw [e2] at this
            rw [List.length_eq_zero_iff.mp this, List.append_nil]
            exact ra
          · exact q al (.ref p) _ (rh.new np) (Ex.new np) (.tup upd_same ((ra.append rb).mo (Mo.new np)))
        · exact False.elim q
  · exact False.elim q

/-! ### numbers -/
def opSub (x y : D) (h : Hq) : R D := match x, y with
  | .int i, .int j => .ok (.int (i - j)) h
  | _, _ => .st
theorem os_sub : OpS g opSub (rI0 fun i j => .int (i - j)) := by
  intro al hq H x y vx vy Q rh rx ry q
  unfold opSub at q
  split at q
  · cases rx; cases ry
    exact ⟨_, _, rfl, rfl, q.ok rh (.int _)⟩
  · exact False.elim q
def opMul (x y : D) (h : Hq) : R D := match x, y with
  | .int i, .int j => if (-(2 ^ 64) < i ∧ i < 2 ^ 64) ∨ (-(2 ^ 64) < j ∧ j < 2 ^ 64) then .ok (.int (i * j)) h else .st
  | _, _ => .st
theorem os_mul : OpS g opMul (rI CMul fun i j => .int (i * j)) := by
  intro al hq H x y vx vy Q rh rx ry q
  unfold opMul at q
  split at q
  · cases rx; cases ry
    split at q
    · rename_i hc
      exact ⟨_, _, rfl, rfl, hc, q.ok rh (.int _)⟩
    · exact False.elim q
  · exact False.elim q
def opDiv (x y : D) (h : Hq) : R D := match x, y with
  | .int i, .int j => if 0 < j ∧ j < 2 ^ 64 then .ok (.int (i / j)) h else .st
  | _, _ => .st
theorem os_div : OpS g opDiv (rI CDivW fun i j => .int (i / j)) := by
  intro al hq H x y vx vy Q rh rx ry q
  unfold opDiv at q
  split at q
  · cases rx; cases ry
    split at q
    · rename_i i j hc
      refine ⟨_, _, rfl, rfl, ⟨hc.1, ?_⟩, q.ok rh (.int _)⟩
      have h1 : j.natAbs < 2 ^ 64 := by have := hc.1; have := hc.2; omega
      have h0 : j.natAbs ≠ 0 := by have := hc.1; omega
      have := (Nat.log2_lt h0).mpr h1
      omega
    · exact False.elim q
  · exact False.elim q
def opMod (x y : D) (h : Hq) : R D := match x, y with
  | .int i, .int j => if 0 < j then .ok (.int (i % j)) h else .st
  | _, _ => .st
theorem os_mod : OpS g opMod (rI (fun _ j => 0 < j) fun i j => .int (i % j)) := by
  intro al hq H x y vx vy Q rh rx ry q
  unfold opMod at q
  split at q
  · cases rx; cases ry
    split at q
    · rename_i hc
      exact ⟨_, _, rfl, rfl, hc, q.ok rh (.int _)⟩
    · exact False.elim q
  · exact False.elim q
def opPow (x y : D) (h : Hq) : R D := match x, y with
  | .int i, .int j => if 0 ≤ j ∧ j ≤ 1000 ∧ i.natAbs < 2 ^ 64 then .ok (.int (i ^ j.toNat)) h else .st
  | _, _ => .st
theorem os_pow : OpS g opPow (rI CPow fun i j => .int (i ^ j.toNat)) := by
  intro al hq H x y vx vy Q rh rx ry q
  unfold opPow at q
  split at q
  · cases rx; cases ry
    split at q
    · rename_i hc
      exact ⟨_, _, rfl, rfl, ⟨hc.1, by have := hc.2.1; omega, hc.2.2⟩, q.ok rh (.int _)⟩
    · exact False.elim q
  · exact False.elim q
/-- a text a number of times -/
def repS (x : Str) (n : Nat) : Str := ⟨(List.replicate n x.cps).foldl (· ++ ·) #[]⟩
def opRep (x y : D) (h : Hq) : R D := match x, y with
  | .str a, .int n => if 1 ≤ n ∧ n ≤ 1000 ∧ a.length ≤ 1000 then .ok (.str (repS a n.toNat)) h else .st
  | _, _ => .st
def rRepS : R2 := fun x y H Q => ∃ a n, x = .str a ∧ y = .int n ∧ 1 ≤ n ∧ n ≤ 1000 ∧ a.length ≤ 1000 ∧ Q (.str (repS a n.toNat)) H
theorem os_rep : OpS g opRep rRepS := by
  intro al hq H x y vx vy Q rh rx ry q
  unfold opRep at q
  split at q
  · cases rx; cases ry
    split at q
    · rename_i hc
      exact ⟨_, _, rfl, rfl, hc.1, hc.2.1, hc.2.2, q.ok rh (.str _)⟩
    · exact False.elim q
  · exact False.elim q
theorem op_rep2 : OpR X (binaryOp .Mult) rRepS := by
  intro pins s σ H x y v u Q I rx ry h
  obtain ⟨a, n, rfl, rfl, h1, h2, h3, q⟩ := h
  obtain ⟨t, rfl⟩ := rx
  obtain ⟨t', rfl⟩ := ry
  have hlen : a.length * n.toNat ≤ 1000 * 1000 := Nat.mul_le_mul h3 (by omega)
  have n1 : ¬ n < 1 := by omega
  have tl : Builtin.Str.tooLong (a.length * n.toNat) = false := by
    unfold Builtin.Str.tooLong
    exact decide_eq_false (by rw [sizeLine_eq]; omega)
  refine PySem.P.mul_str ?_ (fun _ _ => ?_) (fun _ _ => ?_) ?_
  · rw [decide_eq_false (by omega), decide_eq_false (by omega)]; rfl
  · have hn : (0 : Int) < n := by omega
    have h4 : (1000 : Int) ≤ (2 ^ 63 - 1) / n := by
      rw [Int.le_ediv_iff_mul_le hn]
      omega
    omega
  · exact tl
  · rw [if_neg n1]
    by_cases he : (n == 1 || a.length == 0) = true
    · rw [if_pos he]
      refine ⟨.str (repS a n.toNat), H, I, ⟨t, ?_⟩, q⟩
      have e : repS a n.toNat = a := by
        rw [Bool.or_eq_true] at he
        rcases he with he | he
        · have : n = 1 := by simpa using he
          subst this
          simp [repS]
        · have hz : a.cps.size = 0 := by
            have : a.length = 0 := by simpa using he
            exact this
          have hz2 : a.cps = #[] := Array.eq_empty_of_size_eq_zero hz
          have : ∀ k, (List.replicate k (#[] : Array Nat)).foldl (· ++ ·) #[] = #[] := by
            intro k
            induction k with
            | zero => rfl
            | succ k ih => rw [List.replicate_succ, List.foldl_cons]; simpa using ih
          have e2 : a = ⟨#[]⟩ := by cases a; simp_all
          rw [e2]
          simp [repS, this]
      rw [e]
    · rw [if_neg he]
      exact ⟨PySem.fits_reps tl, ⟨.str (repS a n.toNat), H, I.tok _, ⟨_, rfl⟩, q⟩⟩
end
end Dy
end

section
set_option Elab.async false
set_option linter.all false
set_option maxRecDepth 100000
set_option maxHeartbeats 2000000
/-! Dy5: comparisons, in, is, subscripts, slices. -/
namespace Dy
open PySem PySem.Spec PyProof.Rows L2 GxR

mutual
/-- a value that is data all through -/
def toPy : D → Option PyData
  | .non => some .none
  | .bl b => some (.bool b)
  | .int i => some (.int i)
  | .str x => some (.str x)
  | .tup ds => (toPys ds).map .tuple
  | .kt ds => (toPys ds).map .tuple
  | .lst ds => (toPys ds).map .list
  | .dk _ => none
  | .dt _ => none
  | .ref _ => none
  | .pt ds => (toPys ds).map .tuple
def toPys : List D → Option (List PyData)
  | [] => some []
  | d :: ds => (toPy d).bind fun p => (toPys ds).map (p :: ·)
end
mutual
theorem toPy_dp {K : PySem.W.Frag} {al : List Addr} {H : Hp} : ∀ {d : D} {v : V} {p : PyData}, Rv K al H d v → toPy d = some p → Dp K H v p
  | _, _, _, .non, e => by cases e; exact .non
  | _, _, _, .bl b, e => by cases e; exact .bl b
  | _, _, _, .int i, e => by cases e; exact .int i
  | _, _, _, .str x, e => by cases e; exact .str x
  | _, _, _, .tup h r, e => by
    obtain ⟨q, h1, rfl⟩ := Option.map_eq_some_iff.mp (show (toPys _).map PyData.tuple = _ from e)
    exact .tup (.inl (.inl h)) (toPys_dp r h1)
  | _, _, _, .kt h r, e => by
    obtain ⟨q, h1, rfl⟩ := Option.map_eq_some_iff.mp (show (toPys _).map PyData.tuple = _ from e)
    exact .tup h.sq (toPys_dp r h1)
  | _, _, _, .lst h r, e => by
    obtain ⟨q, h1, rfl⟩ := Option.map_eq_some_iff.mp (show (toPys _).map PyData.list = _ from e)
    exact .lst h.sq (toPys_dp r h1)
  | _, _, _, .dk _ _ _ _, e => by cases e
  | _, _, _, .dt _ _ _ _, e => by cases e
  | _, _, _, .ref _, e => by cases e
  | _, _, _, .pt h n _ r, e => by
    obtain ⟨q, h1, rfl⟩ := Option.map_eq_some_iff.mp (show (toPys _).map PyData.tuple = _ from e)
    exact .tup (.inl (.inr ⟨_, h⟩)) (toPys_dp r h1)
theorem toPys_dp {K : PySem.W.Frag} {al : List Addr} {H : Hp} : ∀ {ds : List D} {vs : List V} {ps : List PyData}, Rvs K al H ds vs → toPys ds = some ps → DpAll K H vs ps
  | _, _, _, .nil, e => by cases e; exact .nil
  | _, _, _, .cons r t, e => by
    obtain ⟨p, h1, e⟩ := Option.bind_eq_some_iff.mp (show (toPy _).bind _ = _ from e)
    obtain ⟨q, h2, rfl⟩ := Option.map_eq_some_iff.mp e
    exact .cons (toPy_dp r h1) (toPys_dp t h2)
end
/-- the own data of a value that may be compared -/
def cmpb (x : D) : Option PyData := (toPy x).bind fun p => if SeqAt.shaped p = true then some p else none
theorem cmpb_ok {x : D} {p : PyData} (h : cmpb x = some p) : toPy x = some p ∧ SeqAt.shaped p = true := by
  unfold cmpb at h
  obtain ⟨q, h1, h2⟩ := Option.bind_eq_some_iff.mp h
  split at h2
  · cases h2; exact ⟨h1, by assumption⟩
  · cases h2
def eqD (x y : D) : Option Bool := (cmpb x).bind fun p => (cmpb y).map fun q => PyData.eqv p q

section
variable {X : Cx} {g : G}
def ofB (r : Option Bool) (h : Hq) : R D := match r with
  | some b => .ok (.bl b) h
  | none => .st
theorem ofB_q {al : List Addr} {H : Hp} {r : Option Bool} {hq : Hq} {Q : VK} (q : Then g al H (ofB r hq) Q) (rh : RH g al hq H) : ∃ b, r = some b ∧ Q (.bl b) H := by
  cases r with
  | none => exact False.elim q
  | some b => exact ⟨b, rfl, q.ok rh (.bl b)⟩
def opEq (x y : D) (h : Hq) : R D := ofB (eqD x y) h
def opNe (x y : D) (h : Hq) : R D := ofB ((eqD x y).map (!·)) h
def rNeD (K : PySem.W.Frag) : R2 := fun x y H Q => ∃ d e, Dp K H x d ∧ Dp K H y e ∧ SeqAt.shaped d = true ∧ SeqAt.shaped e = true ∧ Q (.bl (!PyData.eqv d e)) H
theorem os_eq : OpS g opEq (rEqD g.K) := by
  intro al hq H x y vx vy Q rh rx ry q
  obtain ⟨b, e, q⟩ := ofB_q q rh
  obtain ⟨p, h1, e⟩ := Option.bind_eq_some_iff.mp e
  obtain ⟨p2, h2, rfl⟩ := Option.map_eq_some_iff.mp e
  obtain ⟨a1, a2⟩ := cmpb_ok h1
  obtain ⟨b1, b2⟩ := cmpb_ok h2
  exact ⟨p, p2, toPy_dp rx a1, toPy_dp ry b1, a2, b2, q⟩
theorem os_ne {r : R2} (hr : ∀ x y H Q, rNeD g.K x y H Q → r x y H Q) : OpS g opNe r := by
  intro al hq H x y vx vy Q rh rx ry q
  obtain ⟨b, e, q⟩ := ofB_q q rh
  obtain ⟨b', e3, rfl⟩ := Option.map_eq_some_iff.mp e
  obtain ⟨p, h1, e4⟩ := Option.bind_eq_some_iff.mp (show (cmpb x).bind _ = _ from e3)
  obtain ⟨p2, h2, rfl⟩ := Option.map_eq_some_iff.mp e4
  obtain ⟨a1, a2⟩ := cmpb_ok h1
  obtain ⟨b1, b2⟩ := cmpb_ok h2
  exact hr _ _ _ _ ⟨p, p2, toPy_dp rx a1, toPy_dp ry b1, a2, b2, q⟩

inductive CI where | lt | le | gt | ge
def CI.b : CI → Int → Int → Bool
  | .lt, i, j => decide (i < j)
  | .le, i, j => decide (i ≤ j)
  | .gt, i, j => decide (j < i)
  | .ge, i, j => decide (j ≤ i)
def opCI (c : CI) (x y : D) (h : Hq) : R D := match x, y with
  | .int i, .int j => .ok (.bl (c.b i j)) h
  | _, _ => .st
theorem os_ci (c : CI) : OpS g (opCI c) (rI0 fun i j => .bl (c.b i j)) := by
  intro al hq H x y vx vy Q rh rx ry q
  unfold opCI at q
  split at q
  · cases rx; cases ry
    exact ⟨_, _, rfl, rfl, q.ok rh (.bl _)⟩
  · exact False.elim q
def opIsN (x y : D) (h : Hq) : R D := match x, y with
  | .non, .non => .ok (.bl true) h
  | .bl _, .non | .int _, .non | .str _, .non | .tup _, .non | .kt _, .non | .lst _, .non | .dk _, .non | .dt _, .non | .ref _, .non | .pt _, .non => .ok (.bl false) h
  | _, _ => .st
def opNotN (x y : D) (h : Hq) : R D := match x, y with
  | .non, .non => .ok (.bl false) h
  | .bl _, .non | .int _, .non | .str _, .non | .tup _, .non | .kt _, .non | .lst _, .non | .dk _, .non | .dt _, .non | .ref _, .non | .pt _, .non => .ok (.bl true) h
  | _, _ => .st
theorem os_isN : OpS g opIsN (fun x y H Q => y = .non ∧ Q (.bl (decide (x = .non))) H) := by
  intro al hq H x y vx vy Q rh rx ry q
  cases ry <;> first | (cases rx <;> exact False.elim q) | skip
  refine ⟨rfl, ?_⟩
  cases rx <;> exact q.ok rh (.bl _)
theorem os_notN : OpS g opNotN (fun x y H Q => y = .non ∧ Q (.bl (!decide (x = .non))) H) := by
  intro al hq H x y vx vy Q rh rx ry q
  cases ry <;> first | (cases rx <;> exact False.elim q) | skip
  refine ⟨rfl, ?_⟩
  cases rx <;> exact q.ok rh (.bl _)

/-! ### x in y: texts, data in a tuple or a list, keys -/
def keyOf : D → Option Key
  | .int i => some (.inl i)
  | .str x => some (.inr x)
  | _ => none
theorem keyOf_ok {K : PySem.W.Frag} {al : List Addr} {H : Hp} {d : D} {v : V} {k : Key} (r : Rv K al H d v) (h : keyOf d = some k) : v = kV k := by
  cases r <;> first | (cases h; rfl) | cases h
def keysOf : List D → Option (List Key)
  | [] => some []
  | d :: ds => (keyOf d).bind fun k => (keysOf ds).map (k :: ·)
theorem keysOf_ok {K : PySem.W.Frag} {al : List Addr} {H : Hp} : ∀ {ds : List D} {vs : List V} {ks : List Key}, Rvs K al H ds vs → keysOf ds = some ks → vs = ks.map kV
  | _, _, _, .nil, h => by cases h; rfl
  | _, _, _, .cons r t, h => by
    obtain ⟨k, h1, h⟩ := Option.bind_eq_some_iff.mp (show (keyOf _).bind _ = _ from h)
    obtain ⟨ks, h2, rfl⟩ := Option.map_eq_some_iff.mp h
    rw [List.map_cons, keyOf_ok r h1, keysOf_ok t h2]
/-- a cell's contents as they may be read -/
def open_ : C → C
  | .lk c => c
  | c => c
def rdC (h : Hq) (n : Nat) : Option C := (h[n]?).map open_
def tkeys : D → Option (List Key)
  | .tup ks => keysOf ks
  | _ => none
/-- what the dict d holds at the key k: none where d is no dict or k no key of its kind -/
def dget (h : Hq) (d k : D) : Option (Option D) := match d with
  | .dk kvs => (keyOf k).map (look kvs)
  | .dt kvs => (tkeys k).map (look kvs)
  | .ref n => match rdC h n with
    | some (.dk kvs) => (keyOf k).map (look kvs)
    | some (.dt kvs) => (tkeys k).map (look kvs)
    | _ => none
  | _ => none
theorem cell_dk {al : List Addr} {hq : Hq} {H : Hp} {n : Nat} {kvs : List (Key × D)} {v : V} (rh : RH g al hq H) (r : Rv g.K al H (.ref n) v) (h : rdC hq n = some (.dk kvs)) : ∃ a w, v = .ref a ∧ Rd H a (.dK w) ∧ Rk g.K al H kvs w := by
  cases r with
  | @ref _ a e =>
    obtain ⟨c, h1, h2⟩ := Option.map_eq_some_iff.mp h
    obtain ⟨a', o, e1, e2, e3⟩ := rh.at_ n c h1
    rw [e] at e1; cases e1
    cases c with
    | dk k => cases h2; obtain ⟨w, rfl, r⟩ := e3; exact ⟨a, w, rfl, .inl e2, r⟩
    | lk c =>
      have h2 : c = .dk kvs := h2
      subst h2
      obtain ⟨ob, u, rfl, w, rfl, r⟩ := e3
      exact ⟨a, w, rfl, .inr ⟨ob, e2⟩, r⟩
    | _ => cases h2
theorem cell_dt {al : List Addr} {hq : Hq} {H : Hp} {n : Nat} {kvs : List (List Key × D)} {v : V} (rh : RH g al hq H) (r : Rv g.K al H (.ref n) v) (h : rdC hq n = some (.dt kvs)) : ∃ a w, v = .ref a ∧ Rd H a (.dT w) ∧ Rk g.K al H kvs w := by
  cases r with
  | @ref _ a e =>
    obtain ⟨c, h1, h2⟩ := Option.map_eq_some_iff.mp h
    obtain ⟨a', o, e1, e2, e3⟩ := rh.at_ n c h1
    rw [e] at e1; cases e1
    cases c with
    | dt k => cases h2; obtain ⟨w, rfl, r⟩ := e3; exact ⟨a, w, rfl, .inl e2, r⟩
    | lk c =>
      have h2 : c = .dt kvs := h2
      subst h2
      obtain ⟨ob, u, rfl, w, rfl, r⟩ := e3
      exact ⟨a, w, rfl, .inr ⟨ob, e2⟩, r⟩
    | _ => cases h2
/-- an own look-up and the hand layer's -/
theorem dget_ok {al : List Addr} {hq : Hq} {H : Hp} {d k : D} {vd vk : V} {r : Option D} (rh : RH g al hq H) (rd : Rv g.K al H d vd) (rk : Rv g.K al H k vk) (h : dget hq d k = some r) :
    ∃ a o, vd = .ref a ∧ DGet H a vk o ∧ IsD H a ∧ ((∃ x v, r = some x ∧ o = some v ∧ Rv g.K al H x v) ∨ (r = none ∧ o = none)) := by
  have fin : ∀ {a : Addr} {κ : Type} [DecidableEq κ] {kvs : List (κ × D)} {w : List (κ × V)} {x : κ}, Rk g.K al H kvs w → r = look kvs x → DGet H a vk (valV w x) → IsD H a →
      ∃ o, DGet H a vk o ∧ IsD H a ∧ ((∃ x v, r = some x ∧ o = some v ∧ Rv g.K al H x v) ∨ (r = none ∧ o = none)) := fun {a κ _ kvs w x} r1 e g1 g2 => by
    refine ⟨_, g1, g2, ?_⟩
    rcases r1.look x with ⟨d', v', h1, h2, h3⟩ | ⟨h1, h2⟩
    · exact .inl ⟨d', v', e.trans h1, h2, h3⟩
    · exact .inr ⟨e.trans h1, h2⟩
  have tk : ∀ {ks' : List Key}, tkeys k = some ks' → ∃ b, vk = .ref b ∧ H b = some (.tup (ks'.map kV)) := fun {ks'} hk => by
    cases rk with
    | tup hb rb => exact ⟨_, rfl, by rw [← keysOf_ok rb hk]; exact hb⟩
    | _ => cases hk
  have key : ∀ {κd : List (Key × D)} {a : Addr} {w : List (Key × V)}, Rd H a (.dK w) → Rk g.K al H κd w → (keyOf k).map (look κd) = some r → ∃ o, DGet H a vk o ∧ IsD H a ∧ ((∃ x v, r = some x ∧ o = some v ∧ Rv g.K al H x v) ∨ (r = none ∧ o = none)) := fun {κd a w} ha rw' hk => by
    obtain ⟨k', h1, h2⟩ := Option.map_eq_some_iff.mp hk
    exact fin rw' h2.symm (.inl ⟨w, k', ha, keyOf_ok rk h1, rfl⟩) (.inl ⟨w, ha⟩)
  have keyt : ∀ {κd : List (List Key × D)} {a : Addr} {w : List (List Key × V)}, Rd H a (.dT w) → Rk g.K al H κd w → (tkeys k).map (look κd) = some r → ∃ o, DGet H a vk o ∧ IsD H a ∧ ((∃ x v, r = some x ∧ o = some v ∧ Rv g.K al H x v) ∨ (r = none ∧ o = none)) := fun {κd a w} ha rw' hk => by
    obtain ⟨k', h1, h2⟩ := Option.map_eq_some_iff.mp hk
    obtain ⟨b, e1, e2⟩ := tk h1
    exact fin rw' h2.symm (.inr ⟨w, k', b, ha, e1, e2, rfl⟩) (.inr ⟨w, ha⟩)
  cases rd with
  | @dk a o kvs vvs hh nn ee rr =>
    obtain ⟨o2, h1⟩ := key (.inr ⟨o, hh⟩) ⟨ee, rr⟩ h
    exact ⟨a, o2, rfl, h1⟩
  | @dt a o kvs vvs hh nn ee rr =>
    obtain ⟨o2, h1⟩ := keyt (.inr ⟨o, hh⟩) ⟨ee, rr⟩ h
    exact ⟨a, o2, rfl, h1⟩
  | @ref n a e =>
    have h' : (match rdC hq n with
      | some (.dk kvs) => (keyOf k).map (look kvs)
      | some (.dt kvs) => (tkeys k).map (look kvs)
      | _ => none) = some r := h
    cases z : rdC hq n with
    | none => rw [z] at h'; cases h'
    | some c =>
      rw [z] at h'
      cases c with
      | dk kvs =>
        obtain ⟨a', w, e1, e2, e3⟩ := cell_dk rh (.ref e) z
        cases e1
        obtain ⟨o2, h1⟩ := key e2 e3 h'
        exact ⟨a, o2, rfl, h1⟩
      | dt kvs =>
        obtain ⟨a', w, e1, e2, e3⟩ := cell_dt rh (.ref e) z
        cases e1
        obtain ⟨o2, h1⟩ := keyt e2 e3 h'
        exact ⟨a, o2, rfl, h1⟩
      | _ => cases h'
  | _ => cases h
end
end Dy
end

section
set_option Elab.async false
set_option linter.all false
set_option maxRecDepth 100000
set_option maxHeartbeats 2000000
/-! Dy6: in, subscripts, slices, fields, tests. -/
namespace Dy
open PySem PySem.Spec PyProof.Rows L2 GxR

section
variable {X : Cx} {g : G}
/-- the items of what is no dict -/
def items (h : Hq) : D → Option (List D)
  | .tup ds => some ds
  | .kt ds => some ds
  | .lst ds => some ds
  | .pt ds => some ds
  | .ref n => match rdC h n with
    | some (.lst ds) => some ds
    | _ => none
  | _ => none
theorem cell_lst {al : List Addr} {hq : Hq} {H : Hp} {n : Nat} {ds : List D} {v : V} (rh : RH g al hq H) (r : Rv g.K al H (.ref n) v) (h : rdC hq n = some (.lst ds)) : ∃ a w, v = .ref a ∧ Rd H a (.lst w) ∧ Rvs g.K al H ds w := by
  cases r with
  | @ref _ a e =>
    obtain ⟨c, h1, h2⟩ := Option.map_eq_some_iff.mp h
    obtain ⟨a', o, e1, e2, e3⟩ := rh.at_ n c h1
    rw [e] at e1; cases e1
    cases c with
    | lst k => cases h2; obtain ⟨w, rfl, r⟩ := e3; exact ⟨a, w, rfl, .inl e2, r⟩
    | lk c =>
      have h2 : c = .lst ds := h2
      subst h2
      obtain ⟨ob, u, rfl, w, rfl, r⟩ := e3
      exact ⟨a, w, rfl, .inr ⟨ob, e2⟩, r⟩
    | _ => cases h2
/-- its items, in the hand layer: a list or a tuple -/
theorem items_ok {al : List Addr} {hq : Hq} {H : Hp} {d : D} {v : V} {ds : List D} (rh : RH g al hq H) (r : Rv g.K al H d v) (h : items hq d = some ds) : ∃ a vs, v = .ref a ∧ (SqL g.K H a vs ∨ SqT g.K H a vs) ∧ Rvs g.K al H ds vs := by
  cases r with
  | tup ha ra => cases h; exact ⟨_, _, rfl, .inr (.inl (.inl ha)), ra⟩
  | kt ha ra => cases h; exact ⟨_, _, rfl, .inr ha.sq, ra⟩
  | lst ha ra => cases h; exact ⟨_, _, rfl, .inl ha.sq, ra⟩
  | pt ha _ _ ra => cases h; exact ⟨_, _, rfl, .inr (.inl (.inr ⟨_, ha⟩)), ra⟩
  | @ref n a e =>
    have h' : (match rdC hq n with
      | some (.lst ds) => some ds
      | _ => none) = some ds := h
    cases z : rdC hq n with
    | none => rw [z] at h'; cases h'
    | some c =>
      rw [z] at h'
      cases c with
      | lst ks =>
        cases h'
        obtain ⟨a', w, e1, e2, e3⟩ := cell_lst rh (.ref e) z
        cases e1
        exact ⟨a, w, rfl, .inl (.inl e2), e3⟩
      | _ => cases h'
  | _ => cases h
/-- .. of a list alone -/
def litems (h : Hq) : D → Option (List D)
  | .lst ds => some ds
  | .ref n => match rdC h n with
    | some (.lst ds) => some ds
    | _ => none
  | _ => none
theorem litems_ok {al : List Addr} {hq : Hq} {H : Hp} {d : D} {v : V} {ds : List D} (rh : RH g al hq H) (r : Rv g.K al H d v) (h : litems hq d = some ds) : ∃ a vs, v = .ref a ∧ SqL g.K H a vs ∧ Rvs g.K al H ds vs := by
  cases r with
  | lst ha ra => cases h; exact ⟨_, _, rfl, ha.sq, ra⟩
  | @ref n a e =>
    have h' : (match rdC hq n with
      | some (.lst ds) => some ds
      | _ => none) = some ds := h
    cases z : rdC hq n with
    | none => rw [z] at h'; cases h'
    | some c =>
      rw [z] at h'
      cases c with
      | lst ks =>
        cases h'
        obtain ⟨a', w, e1, e2, e3⟩ := cell_lst rh (.ref e) z
        cases e1
        exact ⟨a, w, rfl, .inl e2, e3⟩
      | _ => cases h'
  | _ => cases h
/-- .. of a tuple alone -/
def titems : D → Option (List D)
  | .tup ds => some ds
  | .kt ds => some ds
  | .pt ds => some ds
  | _ => none
theorem titems_ok {al : List Addr} {H : Hp} {d : D} {v : V} {ds : List D} (r : Rv g.K al H d v) (h : titems d = some ds) : ∃ a vs, v = .ref a ∧ SqT g.K H a vs ∧ Rvs g.K al H ds vs := by
  cases r with
  | tup ha ra => cases h; exact ⟨_, _, rfl, .inl (.inl ha), ra⟩
  | kt ha ra => cases h; exact ⟨_, _, rfl, ha.sq, ra⟩
  | pt ha _ _ ra => cases h; exact ⟨_, _, rfl, .inl (.inr ⟨_, ha⟩), ra⟩
  | _ => cases h

def subS (a b : Str) : Bool := !(Builtin.Str.occurrences b a 0 b.length 1).isEmpty
def inD (h : Hq) (x y : D) : Option Bool := match y with
  | .str b => match x with
    | .str a => some (subS a b)
    | _ => none
  | y => match items h y with
    | some ds => (cmpb x).bind fun p => (toPys ds).bind fun ps => if SeqAt.shaped (.list ps) = true then some (ps.any fun z => PyData.eqv z p) else none
    | none => (dget h y x).map (·.isSome)
def opIn (x y : D) (h : Hq) : R D := ofB (inD h x y) h
def opNin (x y : D) (h : Hq) : R D := ofB ((inD h x y).map (!·)) h
def rInA (K : PySem.W.Frag) (n : Bool) : R2 := fun x y H Q => (∃ i j, x = .str i ∧ y = .str j ∧ Q (.bl (if n then !subS i j else subS i j)) H) ∨
  (∃ d ds, Dp K H x d ∧ (Dp K H y (.list ds) ∨ Dp K H y (.tuple ds)) ∧ SeqAt.shaped d = true ∧ SeqAt.shaped (.list ds) = true ∧ Q (.bl (if n then !ds.any fun z => PyData.eqv z d else ds.any fun z => PyData.eqv z d)) H) ∨
  (∃ a o, y = .ref a ∧ DGet H a x o ∧ Q (.bl (if n then !o.isSome else o.isSome)) H)
theorem room_in {p : PyData} {ds : List PyData} {u : Nat} (h : SeqAt.shaped p = true) (hu : u + 65 < cLine) : u + 1 + min (PyData.depthAll ds) p.depth < cLine := by
  have : p.depth ≤ 64 := by
    unfold SeqAt.shaped at h
    rw [Bool.and_eq_true] at h
    exact of_decide_eq_true h.2
  have := Nat.min_le_right (PyData.depthAll ds) p.depth
  omega
theorem op_inA (hu : X.A.units + 65 < cLine) : OpR X (compareOp .In) (rInA X.K false) := by
  intro pins s σ H x y v u Q I rx ry h
  rcases h with ⟨i, j, rfl, rfl, q⟩ | ⟨d, ds, hd, he, sd, se, q⟩ | ⟨a, o, rfl, hg, q⟩
  · exact op_in_str pins s σ H _ _ v u Q I rx ry ⟨i, j, rfl, rfl, q⟩
  · obtain ⟨as, r1⟩ := Dp.reads I d x v hd rx
    rcases he with he | he
    · obtain ⟨bs, r2⟩ := Dp.reads I (.list ds) y u he ry
      exact SeqAt.in_list_reads r2 r1 (SeqAt.canLay_of_shaped se) (SeqAt.canLay_of_shaped sd) (room_in sd hu) ⟨.bl _, H, I, rfl, q⟩
    · obtain ⟨bs, r2⟩ := Dp.reads I (.tuple ds) y u he ry
      exact SeqAt.in_tuple_reads r2 r1 (SeqAt.canLay_of_shaped se) (SeqAt.canLay_of_shaped sd) (room_in sd hu) ⟨.bl _, H, I, rfl, q⟩
  · cases ry
    exact d_in (by omega) I hg rx fun s' I' => ⟨.bl _, H, I', rfl, q⟩
theorem op_ninA (hu : X.A.units + 65 < cLine) : OpR X (compareOp .NotIn) (rInA X.K true) := by
  intro pins s σ H x y v u Q I rx ry h
  rcases h with ⟨i, j, rfl, rfl, q⟩ | ⟨d, ds, hd, he, sd, se, q⟩ | ⟨a, o, rfl, hg, q⟩
  · exact op_notin_str pins s σ H _ _ v u Q I rx ry ⟨i, j, rfl, rfl, q⟩
  · obtain ⟨as, r1⟩ := Dp.reads I d x v hd rx
    rcases he with he | he
    · obtain ⟨bs, r2⟩ := Dp.reads I (.list ds) y u he ry
      exact SeqAt.notIn_list_reads r2 r1 (SeqAt.canLay_of_shaped se) (SeqAt.canLay_of_shaped sd) (room_in sd hu) ⟨.bl _, H, I, rfl, q⟩
    · obtain ⟨bs, r2⟩ := Dp.reads I (.tuple ds) y u he ry
      exact SeqAt.notIn_tuple_reads r2 r1 (SeqAt.canLay_of_shaped se) (SeqAt.canLay_of_shaped sd) (room_in sd hu) ⟨.bl _, H, I, rfl, q⟩
  · cases ry
    exact d_notIn (by omega) I hg rx fun s' I' => ⟨.bl _, H, I', rfl, q⟩
theorem inD_ok {al : List Addr} {hq : Hq} {H : Hp} {x y : D} {vx vy : V} {b : Bool} {n : Bool} {Q : VK} (rh : RH g al hq H) (rx : Rv g.K al H x vx) (ry : Rv g.K al H y vy) (h : inD hq x y = some b) (q : Q (.bl (if n then !b else b)) H) : rInA g.K n vx vy H Q := by
  have other : ∀ {y : D}, Rv g.K al H y vy → (match items hq y with
      | some ds => (cmpb x).bind fun p => (toPys ds).bind fun ps => if SeqAt.shaped (.list ps) = true then some (ps.any fun z => PyData.eqv z p) else none
      | none => (dget hq y x).map (·.isSome)) = some b → rInA g.K n vx vy H Q := fun {y} ry h => by
    cases z : items hq y with
    | some ds =>
      rw [z] at h
      obtain ⟨p, h1, h⟩ := Option.bind_eq_some_iff.mp (show (cmpb x).bind _ = _ from h)
      obtain ⟨ps, h2, h⟩ := Option.bind_eq_some_iff.mp h
      split at h
      · rename_i hs
        cases h
        obtain ⟨a1, a2⟩ := cmpb_ok h1
        obtain ⟨a, vs, rfl, hl, rvs⟩ := items_ok rh ry z
        refine .inr (.inl ⟨p, ps, toPy_dp rx a1, ?_, a2, hs, q⟩)
        exact hl.elim (fun hl => .inl (.lst hl (toPys_dp rvs h2))) fun hl => .inr (.tup hl (toPys_dp rvs h2))
      · cases h
    | none =>
      rw [z] at h
      obtain ⟨r, h1, rfl⟩ := Option.map_eq_some_iff.mp (show (dget hq y x).map _ = _ from h)
      obtain ⟨a, o, rfl, hg, _, ho⟩ := dget_ok rh ry rx h1
      refine .inr (.inr ⟨a, o, rfl, hg, ?_⟩)
      rcases ho with ⟨x', v', rfl, rfl, _⟩ | ⟨rfl, rfl⟩ <;> exact q
  cases y with
  | str c =>
    cases x with
    | str a =>
      cases rx; cases ry
      cases h
      exact .inl ⟨a, c, rfl, rfl, q⟩
    | _ => cases h
  | _ => exact other ry h
theorem os_in : OpS g opIn (rInA g.K false) := by
  intro al hq H x y vx vy Q rh rx ry q
  obtain ⟨b, e, q⟩ := ofB_q q rh
  exact inD_ok rh rx ry e q
theorem os_nin : OpS g opNin (rInA g.K true) := by
  intro al hq H x y vx vy Q rh rx ry q
  obtain ⟨b, e, q⟩ := ofB_q q rh
  obtain ⟨b', e3, rfl⟩ := Option.map_eq_some_iff.mp e
  exact inD_ok rh rx ry e3 q

/-! ### subscripts -/
def opIdx (x y : D) (h : Hq) : R D := match y with
  | .int i => match x with
    | .str z => if z.length ≤ LIM then (match atI z.cps.toList i with
      | some c => .ok (.str ⟨#[c]⟩) h
      | none => .st) else .st
    | x => match items h x with
      | some ds => (match atI ds i with
        | some d => .ok d h
        | none => .st)
      | none => .st
  | _ => .st
theorem atI_rvs {al : List Addr} {H : Hp} {ds : List D} {vs : List V} {i : Int} {d : D} (r : Rvs g.K al H ds vs) (h : atI ds i = some d) : ∃ v, atI vs i = some v ∧ Rv g.K al H d v := by
  unfold atI at h ⊢
  rw [← r.length]
  obtain ⟨j, h1, h2⟩ := Option.bind_eq_some_iff.mp h
  obtain ⟨v, h3, h4⟩ := r.get h2
  exact ⟨v, by rw [h1]; exact h3, h4⟩
theorem os_idx : OpS g opIdx (rIx g.K) := by
  intro al hq H x y vx vy Q rh rx ry q
  unfold opIdx at q
  cases y with
  | int i =>
    have other : ∀ {x : D}, Rv g.K al H x vx → Then g al H (match items hq x with
      | some ds => (match atI ds i with
        | some d => .ok d hq
        | none => .st)
      | none => .st) Q → rIx g.K vx vy H Q := fun {x} rx q => by
      cases z : items hq x with
      | none => rw [z] at q; exact False.elim q
      | some ds =>
        rw [z] at q
        cases e : atI ds i with
        | none => simp only [e] at q; exact False.elim q
        | some d =>
          simp only [e] at q
          obtain ⟨a, vs, rfl, hl, rvs⟩ := items_ok rh rx z
          obtain ⟨v, e1, rv⟩ := atI_rvs rvs e
          cases ry
          rcases hl with hl | hl
          · exact .inl ⟨a, vs, i, v, rfl, rfl, hl, e1, q.ok rh rv⟩
          · exact .inr (.inl ⟨a, vs, i, v, rfl, rfl, hl, e1, q.ok rh rv⟩)
    cases x with
    | str z =>
      dsimp only at q
      split at q
      · rename_i hl
        cases e : atI z.cps.toList i with
        | none => simp only [e] at q; exact False.elim q
        | some c =>
          simp only [e] at q
          cases rx; cases ry
          exact .inr (.inr ⟨z, i, c, rfl, rfl, by rw [lim_eq]; exact hl, e, q.ok rh (.str _)⟩)
      · exact False.elim q
    | _ => exact other rx q
  | _ => exact False.elim q
theorem se_idx {a b : Expr} {pos : Pos} {fa fb : List Sl → Hq → R D} (hK : X.K = g.K) (ha : SE g X a fa) (hb : SE g X b fb) (hs : PlainIx b) : SE g X (.Subscript a b pos) (fBin opIdx fa fb) :=
  PE.le (pe_ix (hK ▸ ix_seq) ha hb hs) fun _ _ _ q => two os_idx q
def opDix (x y : D) (h : Hq) : R D := match dget h x y with
  | some (some d) => .ok d h
  | _ => .st
theorem se_dix {a b : Expr} {pos : Pos} {fa fb : List Sl → Hq → R D} (hu : X.A.units + 1 < cLine) (ha : SE g X a fa) (hb : SE g X b fb) (hs : NoSl b) : SE g X (.Subscript a b pos) (fBin opDix fa fb) := by
  refine PE.le (pe_dget hu ha hb hs) fun σ H Q q => ?_
  have hop : OpS g opDix (fun x y H Q => ∃ a v, x = .ref a ∧ DGet H a y (some v) ∧ Q v H) := by
    intro al hq H x y vx vy Q rh rx ry q
    unfold opDix at q
    cases z : dget hq x y with
    | none => rw [z] at q; exact False.elim q
    | some r =>
      rw [z] at q
      cases r with
      | none => exact False.elim q
      | some d =>
        obtain ⟨a, o, rfl, hg, _, ho⟩ := dget_ok rh rx ry z
        rcases ho with ⟨x', v', e1, rfl, rv⟩ | ⟨e1, _⟩
        · cases e1; exact ⟨a, v', rfl, hg, q.ok rh rv⟩
        · cases e1
  exact two hop q
/-! ### == of anything, a list that may be written too -/
def toPyH (h : Hq) (x : D) : Option PyData := match litems h x with
  | some ds => (toPys ds).map .list
  | none => toPy x
def cmpH (h : Hq) (x : D) : Option PyData := (toPyH h x).bind fun p => if SeqAt.shaped p = true then some p else none
theorem cmpH_ok {al : List Addr} {hq : Hq} {H : Hp} {x : D} {v : V} {p : PyData} (rh : RH g al hq H) (r : Rv g.K al H x v) (h : cmpH hq x = some p) : Dp g.K H v p ∧ SeqAt.shaped p = true := by
  unfold cmpH at h
  obtain ⟨q, h1, h2⟩ := Option.bind_eq_some_iff.mp h
  split at h2
  · rename_i hs
    cases h2
    refine ⟨?_, hs⟩
    unfold toPyH at h1
    cases z : litems hq x with
    | none => rw [z] at h1; exact toPy_dp r h1
    | some ds =>
      rw [z] at h1
      obtain ⟨ps, h3, rfl⟩ := Option.map_eq_some_iff.mp h1
      obtain ⟨a, vs, rfl, hl, rvs⟩ := litems_ok rh r z
      exact .lst hl (toPys_dp rvs h3)
  · cases h2
def eqH (h : Hq) (x y : D) : Option Bool := (cmpH h x).bind fun p => (cmpH h y).map fun q => PyData.eqv p q
def opEqH (x y : D) (h : Hq) : R D := ofB (eqH h x y) h
def opNeH (x y : D) (h : Hq) : R D := ofB ((eqH h x y).map (!·)) h
theorem os_eqH : OpS g opEqH (rEqD g.K) := by
  intro al hq H x y vx vy Q rh rx ry q
  obtain ⟨b, e, q⟩ := ofB_q q rh
  obtain ⟨p, h1, e⟩ := Option.bind_eq_some_iff.mp e
  obtain ⟨p2, h2, rfl⟩ := Option.map_eq_some_iff.mp e
  obtain ⟨a1, a2⟩ := cmpH_ok rh rx h1
  obtain ⟨b1, b2⟩ := cmpH_ok rh ry h2
  exact ⟨p, p2, a1, b1, a2, b2, q⟩
theorem os_neH {r : R2} (hr : ∀ x y H Q, rNeD g.K x y H Q → r x y H Q) : OpS g opNeH r := by
  intro al hq H x y vx vy Q rh rx ry q
  obtain ⟨b, e, q⟩ := ofB_q q rh
  obtain ⟨b', e3, rfl⟩ := Option.map_eq_some_iff.mp e
  obtain ⟨p, h1, e4⟩ := Option.bind_eq_some_iff.mp (show (cmpH hq x).bind _ = _ from e3)
  obtain ⟨p2, h2, rfl⟩ := Option.map_eq_some_iff.mp e4
  obtain ⟨a1, a2⟩ := cmpH_ok rh rx h1
  obtain ⟨b1, b2⟩ := cmpH_ok rh ry h2
  exact hr _ _ _ _ ⟨p, p2, a1, b1, a2, b2, q⟩
end
end Dy
end

section
set_option Elab.async false
set_option linter.all false
set_option maxRecDepth 100000
set_option maxHeartbeats 2000000
/-! Dy7: tests, and, or, not, if-else, fields, calls. -/
namespace Dy
open PySem PySem.Spec PyProof.Rows L2 GxR

section
variable {X : Cx} {g : G} {pos : Pos} {a b c e : Expr} {fa fb fc : List Sl → Hq → R D} {ba bb bc : List Sl → Hq → R Bool} {es rest : List Expr} {fs : List Sl → Hq → R (List D)}
/-! ### tests -/
def truD (h : Hq) (d : D) : Option Bool := match d with
  | .non => some false
  | .bl b => some b
  | .int i => some (i != 0)
  | .str x => if x.length ≤ LIM then some ((x.length : Int) != 0) else none
  | d => (items h d).map fun ds => !ds.isEmpty
def fTru (fa : List Sl → Hq → R D) : List Sl → Hq → R Bool := fun sl h => (fa sl h).bind fun d h1 => match truD h1 d with
  | some b => .ok b h1
  | none => .st
def fAsB (fa : List Sl → Hq → R D) : List Sl → Hq → R Bool := fun sl h => (fa sl h).bind fun d h1 => match d with
  | .bl b => .ok b h1
  | _ => .st
def ThenB (g : G) (al : List Addr) (H : Hp) (r : R Bool) (Q : Bool → Hp → Prop) : Prop := match r with
  | .ok b hq' => ∀ al' H', RH g al' hq' H' → Ex al al' H H' → Q b H'
  | _ => False
theorem ThenB.split {α : Type} {al : List Addr} {H : Hp} {r : R α} {k : α → Hq → R Bool} {Q : Bool → Hp → Prop} (q : ThenB g al H (r.bind k) Q) : ∃ a h, r = .ok a h ∧ ThenB g al H (k a h) Q := by
  cases r with
  | ok a h => exact ⟨a, h, rfl, q⟩
  | er c fs h => exact False.elim q
  | st => exact False.elim q
theorem ThenB.later {al al1 : List Addr} {H H1 : Hp} {r : R Bool} {Q : Bool → Hp → Prop} (q : ThenB g al H r Q) (e : Ex al al1 H H1) : ThenB g al1 H1 r Q := by
  cases r with
  | ok d hq => exact fun al' H' rh ex => q al' H' rh (e.trans ex)
  | er c fs h => exact q
  | st => exact q
theorem ThenB.ok {al : List Addr} {H : Hp} {b : Bool} {hq : Hq} {Q : Bool → Hp → Prop} (q : ThenB g al H (.ok b hq) Q) (rh : RH g al hq H) : Q b H := q al H rh (Ex.refl _ _)
theorem asB_q {σ : L2.St} {H : Hp} {Q : Bool → Hp → Prop} (q : TDt g (fAsB fa) σ H Q) : TDe g fa σ H (fun x H' => ∃ k, x = .bl k ∧ Q k H') := by
  obtain ⟨al, sl, hq, rh, rs, q⟩ := q
  have q : ThenB g al H (fAsB fa sl hq) Q := q
  unfold fAsB at q
  obtain ⟨d, h1, e, q⟩ := q.split
  refine ⟨al, sl, hq, rh, rs, ?_⟩
  rw [e]
  intro al1 v H1 rh1 ex1 rv
  cases rv with
  | bl k => exact ⟨k, rfl, (q.later ex1).ok rh1⟩
  | _ => exact False.elim q
theorem sb_cmp {op : CmpOp} {r : R2} {o : D → D → Hq → R D} (ho : OpR X (compareOp op) r) (hs : OpS g o r) (ha : SE g X a fa) (hb : SE g X b fb) (hm : behindInMarks op b = false) : SB g X (.Compare a [op] [b] pos) (fAsB (fBin o fa fb)) :=
  PT.le (pt_cmpR ho ha hb hm) fun _ _ _ q => two hs (asB_q q)
theorem tru_q (hK : X.K = g.K) {σ : L2.St} {H : Hp} {Q : Bool → Hp → Prop} (q : TDt g (fTru fa) σ H Q) : TDe g fa σ H (fun x H' => ∃ k, TruV X.K x H' k ∧ Q k H') := by
  obtain ⟨al, sl, hq, rh, rs, q⟩ := q
  have q : ThenB g al H (fTru fa sl hq) Q := q
  unfold fTru at q
  obtain ⟨d, h1, e, q⟩ := q.split
  refine ⟨al, sl, hq, rh, rs, ?_⟩
  rw [e]
  intro al1 v H1 rh1 ex1 rv
  have q := q.later ex1
  cases z : truD h1 d with
  | none => rw [z] at q; exact False.elim q
  | some k =>
    rw [z] at q
    refine ⟨k, ?_, ThenB.ok q rh1⟩
    rw [hK]
    have seq : ∀ {ds : List D}, items h1 d = some ds → k = !ds.isEmpty → TruV g.K v H1 k := fun {ds} hi hk => by
      obtain ⟨a, vs, rfl, hl, rvs⟩ := items_ok rh1 rv hi
      have e2 : (!ds.isEmpty) = !vs.isEmpty := by
        have := rvs.length
        cases ds <;> cases vs <;> simp_all
      rw [hk, e2]
      exact hl.elim (fun hl => .inl ⟨vs, hl, rfl⟩) fun hl => .inr (.inl ⟨vs, hl, rfl⟩)
    cases rv with
    | non => cases z; rfl
    | bl b => cases z; rfl
    | int i => cases z; rfl
    | str x =>
      have z : (if x.length ≤ LIM then some ((x.length : Int) != 0) else none) = some k := z
      split at z
      · rename_i hl
        cases z
        exact ⟨by rw [lim_eq]; exact hl, rfl⟩
      · cases z
    | @tup a ds vs ha ra =>
      obtain ⟨ds', z1, z2⟩ := Option.map_eq_some_iff.mp (show (items h1 (.tup ds)).map (fun ds => !ds.isEmpty) = some k from z)
      exact seq z1 z2.symm
    | @kt a ds vs ha ra =>
      obtain ⟨ds', z1, z2⟩ := Option.map_eq_some_iff.mp (show (items h1 (.kt ds)).map (fun ds => !ds.isEmpty) = some k from z)
      exact seq z1 z2.symm
    | @lst a ds vs ha ra =>
      obtain ⟨ds', z1, z2⟩ := Option.map_eq_some_iff.mp (show (items h1 (.lst ds)).map (fun ds => !ds.isEmpty) = some k from z)
      exact seq z1 z2.symm
    | @dk a o kvs vvs a1 a2 a3 a4 =>
      obtain ⟨ds', z1, z2⟩ := Option.map_eq_some_iff.mp (show (items h1 (.dk kvs)).map (fun ds => !ds.isEmpty) = some k from z)
      exact seq z1 z2.symm
    | @dt a o kvs vvs a1 a2 a3 a4 =>
      obtain ⟨ds', z1, z2⟩ := Option.map_eq_some_iff.mp (show (items h1 (.dt kvs)).map (fun ds => !ds.isEmpty) = some k from z)
      exact seq z1 z2.symm
    | @pt a o ds vs ha _ _ ra =>
      obtain ⟨ds', z1, z2⟩ := Option.map_eq_some_iff.mp (show (items h1 (.pt ds)).map (fun ds => !ds.isEmpty) = some k from z)
      exact seq z1 z2.symm
    | @ref n a e =>
      obtain ⟨ds', z1, z2⟩ := Option.map_eq_some_iff.mp (show (items h1 (.ref n)).map (fun ds => !ds.isEmpty) = some k from z)
      exact seq z1 z2.symm
theorem sb_tru (hK : X.K = g.K) (ha : SE g X a fa) (he : ∀ whole, isTrue a X.env whole = (do let v ← whole; standAt a.pos; holding [v] (truthy v))) : SB g X a (fTru fa) :=
  PT.le (pt_truth ha he) fun _ _ _ q => tru_q hK q
/-- a test whatever its whole is -/
abbrev SW (g : G) (X : Cx) (e : Expr) (f : List Sl → Hq → R Bool) : Prop := PW X e (TDt g f)
theorem PW.le {t t' : TT} (h : PW X e t) (k : ∀ σ H Q, t' σ H Q → t σ H Q) : PW X e t' := ⟨fun wh pins s σ H Q I q => h.run wh pins s σ H Q I (k σ H Q q)⟩
def bAnd (ba bb : List Sl → Hq → R Bool) : List Sl → Hq → R Bool := fun sl h => (ba sl h).bind fun c h1 => if c = true then bb sl h1 else .ok false h1
def bOr (ba bb : List Sl → Hq → R Bool) : List Sl → Hq → R Bool := fun sl h => (ba sl h).bind fun c h1 => if c = true then .ok true h1 else bb sl h1
def bNot (ba : List Sl → Hq → R Bool) : List Sl → Hq → R Bool := fun sl h => (ba sl h).bind fun c h1 => .ok (!c) h1
theorem sw_one1 (h : SB g X a ba) : SW g X (.BoolOp .And [a] pos) ba := PW.le (pw_and1 h) fun _ _ _ q => q
theorem sw_one2 (h : SB g X a ba) : SW g X (.BoolOp .Or [a] pos) ba := PW.le (pw_or1 h) fun _ _ _ q => q
theorem sw_and (ha : SB g X a ba) (hb : SW g X (.BoolOp .And (b :: rest) pos) bb) : SW g X (.BoolOp .And (a :: b :: rest) pos) (bAnd ba bb) := by
  refine PW.le (pw_and ha hb) fun σ H Q q => ?_
  obtain ⟨al, sl, hq, rh, rs, q⟩ := q
  have q : ThenB g al H (bAnd ba bb sl hq) Q := q
  unfold bAnd at q
  obtain ⟨k, h1, e, q⟩ := q.split
  refine ⟨al, sl, hq, rh, rs, ?_⟩
  rw [e]
  intro al1 H1 rh1 ex1
  have q := q.later ex1
  cases k with
  | true => exact ⟨al1, sl, h1, rh1, rs.ex ex1, q⟩
  | false => exact ThenB.ok q rh1
theorem sw_or (ha : SB g X a ba) (hb : SW g X (.BoolOp .Or (b :: rest) pos) bb) : SW g X (.BoolOp .Or (a :: b :: rest) pos) (bOr ba bb) := by
  refine PW.le (pw_or ha hb) fun σ H Q q => ?_
  obtain ⟨al, sl, hq, rh, rs, q⟩ := q
  have q : ThenB g al H (bOr ba bb sl hq) Q := q
  unfold bOr at q
  obtain ⟨k, h1, e, q⟩ := q.split
  refine ⟨al, sl, hq, rh, rs, ?_⟩
  rw [e]
  intro al1 H1 rh1 ex1
  have q := q.later ex1
  cases k with
  | false => exact ⟨al1, sl, h1, rh1, rs.ex ex1, q⟩
  | true => exact ThenB.ok q rh1
theorem sb_not (ha : SB g X a ba) : SB g X (.UnaryOp .Not a pos) (bNot ba) := by
  refine PT.le (pt_not ha) fun σ H Q q => ?_
  obtain ⟨al, sl, hq, rh, rs, q⟩ := q
  have q : ThenB g al H (bNot ba sl hq) Q := q
  unfold bNot at q
  obtain ⟨k, h1, e, q⟩ := q.split
  refine ⟨al, sl, hq, rh, rs, ?_⟩
  rw [e]
  intro al1 H1 rh1 ex1
  exact (q.later ex1).ok rh1
/-! ### as values -/
def fAnd (fa fb : List Sl → Hq → R D) : List Sl → Hq → R D := fun sl h => (fa sl h).bind fun d h1 => match d with
  | .bl c => if c = true then fb sl h1 else .ok (.bl false) h1
  | _ => .st
def fOr (fa fb : List Sl → Hq → R D) : List Sl → Hq → R D := fun sl h => (fa sl h).bind fun d h1 => match d with
  | .bl c => if c = true then .ok (.bl true) h1 else fb sl h1
  | _ => .st
def fNot (fa : List Sl → Hq → R D) : List Sl → Hq → R D := fun sl h => (fa sl h).bind fun d h1 => match d with
  | .bl c => .ok (.bl (!c)) h1
  | _ => .st
def fIte (bc : List Sl → Hq → R Bool) (fa fb : List Sl → Hq → R D) : List Sl → Hq → R D := fun sl h => (bc sl h).bind fun c h1 => if c = true then fa sl h1 else fb sl h1
theorem se_one {op : BoolOp} (h : SE g X a fa) : SE g X (.BoolOp op [a] pos) fa := PE.le (pe_one h) fun _ _ _ q => q
theorem se_and (ha : SE g X a fa) (hb : SE g X (.BoolOp .And (b :: rest) pos) fb) : SE g X (.BoolOp .And (a :: b :: rest) pos) (fAnd fa fb) := by
  refine PE.le (pe_and ha hb) fun σ H Q q => ?_
  obtain ⟨al, sl, hq, rh, rs, q⟩ := q
  have q : Then g al H (fAnd fa fb sl hq) Q := q
  unfold fAnd at q
  obtain ⟨d, h1, e, q⟩ := q.split
  refine ⟨al, sl, hq, rh, rs, ?_⟩
  rw [e]
  intro al1 v H1 rh1 ex1 rv
  have q := q.later ex1
  cases rv with
  | bl k =>
    refine ⟨k, rfl, ?_⟩
    cases k with
    | true => exact ⟨al1, sl, h1, rh1, rs.ex ex1, q⟩
    | false => exact Then.ok q rh1 (.bl false)
  | _ => exact False.elim q
theorem se_or (ha : SE g X a fa) (hb : SE g X (.BoolOp .Or (b :: rest) pos) fb) : SE g X (.BoolOp .Or (a :: b :: rest) pos) (fOr fa fb) := by
  refine PE.le (pe_or ha hb) fun σ H Q q => ?_
  obtain ⟨al, sl, hq, rh, rs, q⟩ := q
  have q : Then g al H (fOr fa fb sl hq) Q := q
  unfold fOr at q
  obtain ⟨d, h1, e, q⟩ := q.split
  refine ⟨al, sl, hq, rh, rs, ?_⟩
  rw [e]
  intro al1 v H1 rh1 ex1 rv
  have q := q.later ex1
  cases rv with
  | bl k =>
    refine ⟨k, rfl, ?_⟩
    cases k with
    | false => exact ⟨al1, sl, h1, rh1, rs.ex ex1, q⟩
    | true => exact Then.ok q rh1 (.bl true)
  | _ => exact False.elim q
theorem se_not (ha : SE g X a fa) : SE g X (.UnaryOp .Not a pos) (fNot fa) := by
  refine PE.le (pe_not ha) fun σ H Q q => ?_
  obtain ⟨al, sl, hq, rh, rs, q⟩ := q
  have q : Then g al H (fNot fa sl hq) Q := q
  unfold fNot at q
  obtain ⟨d, h1, e, q⟩ := q.split
  refine ⟨al, sl, hq, rh, rs, ?_⟩
  rw [e]
  intro al1 v H1 rh1 ex1 rv
  have q := q.later ex1
  cases rv with
  | bl k => exact ⟨k, rfl, Then.ok q rh1 (.bl _)⟩
  | _ => exact False.elim q
theorem se_ite (hc : SB g X c bc) (ha : SE g X a fa) (hb : SE g X b fb) : SE g X (.IfExp c a b pos) (fIte bc fa fb) := by
  refine PE.le (pe_ifExp hc ha hb) fun σ H Q q => ?_
  obtain ⟨al, sl, hq, rh, rs, q⟩ := q
  have q : Then g al H (fIte bc fa fb sl hq) Q := q
  unfold fIte at q
  obtain ⟨k, h1, e, q⟩ := q.split
  refine ⟨al, sl, hq, rh, rs, ?_⟩
  rw [e]
  intro al1 H1 rh1 ex1
  have q := q.later ex1
  cases k with
  | true => exact ⟨al1, sl, h1, rh1, rs.ex ex1, q⟩
  | false => exact ⟨al1, sl, h1, rh1, rs.ex ex1, q⟩
def fChn (o o' : D → D → Hq → R D) (fa fb fc : List Sl → Hq → R D) : List Sl → Hq → R D := fun sl h => (fa sl h).bind fun x h1 => (fb sl h1).bind fun y h2 => (o x y h2).bind fun k h3 => match k with
  | .bl k => if k = true then (fc sl h3).bind fun z h4 => o' y z h4 else .ok (.bl false) h3
  | _ => .st
theorem chn_q {r r' : R2} {o o' : D → D → Hq → R D} (hs : OpS g o r) (hs' : OpS g o' r') {σ : L2.St} {H : Hp} {Q : VK} (q : TDe g (fChn o o' fa fb fc) σ H Q) : tChain r r' (TDe g fa) (TDe g fb) (TDe g fc) σ H Q := by
  obtain ⟨al, sl, hq, rh, rs, q⟩ := q
  have q : Then g al H (fChn o o' fa fb fc sl hq) Q := q
  unfold fChn at q
  obtain ⟨x, h1, e1, q⟩ := q.split
  obtain ⟨y, h2, e2, q⟩ := q.split
  obtain ⟨k, h3, e3, q⟩ := q.split
  refine ⟨al, sl, hq, rh, rs, ?_⟩
  rw [e1]
  intro al1 vx H1 rh1 ex1 rx
  refine ⟨al1, sl, h1, rh1, rs.ex ex1, ?_⟩
  rw [e2]
  intro al2 vy H2 rh2 ex2 ry
  have q := (q.later ex1).later ex2
  refine hs al2 h2 H2 x y vx vy _ rh2 (rx.mo ex2.mo) ry ?_
  rw [e3]
  intro al3 vk H3 rh3 ex3 rk
  have q := q.later ex3
  cases rk with
  | bl k =>
    refine ⟨k, rfl, ?_⟩
    cases k with
    | false => exact Then.ok q rh3 (.bl false)
    | true =>
      rw [if_pos rfl]
      have q : Then g al3 H3 ((fc sl h3).bind fun z h4 => o' y z h4) Q := q
      obtain ⟨z, h4, e4, q⟩ := q.split
      refine ⟨al3, sl, h3, rh3, ((rs.ex ex1).ex ex2).ex ex3, ?_⟩
      rw [e4]
      intro al4 vz H4 rh4 ex4 rz
      exact hs' al4 h4 H4 y z vy vz Q rh4 ((ry.mo ex3.mo).mo ex4.mo) rz (q.later ex4)
  | _ => exact False.elim q
theorem se_chn {op op' : CmpOp} {r r' : R2} {o o' : D → D → Hq → R D} (ho : OpR X (compareOp op) r) (ho' : OpR X (compareOp op') r') (hs : OpS g o r) (hs' : OpS g o' r') (ha : SE g X a fa) (hb : SE g X b fb) (hc : SE g X c fc) (hm : lastMarks [op, op'] [b, c] = false) :
    SE g X (.Compare a [op, op'] [b, c] pos) (fChn o o' fa fb fc) := PE.le (pe_chain ho ho' ha hb hc hm) fun _ _ _ q => chn_q hs hs' q
theorem sb_chn {op op' : CmpOp} {r r' : R2} {o o' : D → D → Hq → R D} (ho : OpR X (compareOp op) r) (ho' : OpR X (compareOp op') r') (hs : OpS g o r) (hs' : OpS g o' r') (ha : SE g X a fa) (hb : SE g X b fb) (hc : SE g X c fc) (hm : lastMarks [op, op'] [b, c] = false) :
    SB g X (.Compare a [op, op'] [b, c] pos) (fAsB (fChn o o' fa fb fc)) := PT.le (pt_chain ho ho' ha hb hc hm) fun _ _ _ q => chn_q hs hs' (asB_q q)

/-! ### fields -/
theorem lookup_valV {κ : Type} [DecidableEq κ] [BEq κ] [LawfulBEq κ] (k : κ) : ∀ l : List (κ × V), l.lookup k = valV l k
  | [] => rfl
  | (x, v) :: r => by
    by_cases h : x = k
    · subst h
      rw [valV_pos rfl, List.lookup_cons]
      simp
    · have h2 : (k == x) = false := by
        rw [beq_eq_false_iff_ne]
        exact fun z => h z.symm
      rw [valV_neg h, List.lookup_cons, h2]
      exact lookup_valV k r
def fFld (c : Nat) (f : Str) (fa : List Sl → Hq → R D) : List Sl → Hq → R D := fun sl h => (fa sl h).bind fun d h1 => match d with
  | .ref n => (match h1[n]? with
    | some (.ins c' fs) => if c' = c then (match look fs f with
      | some d => .ok d h1
      | none => .st) else .st
    | _ => .st)
  | _ => .st
theorem cell_ins {al : List Addr} {hq : Hq} {H : Hp} {n c : Nat} {fs : List (Str × D)} {v : V} (rh : RH g al hq H) (r : Rv g.K al H (.ref n) v) (h : hq[n]? = some (.ins c fs)) : ∃ a Ca dx w, v = .ref a ∧ al[n]? = some a ∧ g.cls[c]? = some Ca ∧ H a = some (.ins Ca dx w) ∧ Rk g.K al H fs w := by
  cases r with
  | @ref _ a e =>
    obtain ⟨a', o, e1, e2, e3⟩ := rh.at_ n _ h
    rw [e] at e1; cases e1
    obtain ⟨Ca, dx, w, rfl, q, r⟩ := e3
    exact ⟨a, Ca, dx, w, rfl, e, q, e2, r⟩
theorem se_fld {f : Str} {ci : Nat} {Ca : Addr} (hK : X.K = g.K) (hc : g.cls[ci]? = some Ca) (cl : Cls g.K Ca) (na : NoAttr g.K Ca f) (ha : SE g X a fa) (hb : attributeBase a f X.env (eval a X.env) = eval a X.env) : SE g X (.Attribute a f pos) (fFld ci f fa) := by
  refine PE.le (pe_fld ha hb) fun σ H Q q => ?_
  obtain ⟨al, sl, hq, rh, rs, q⟩ := q
  have q : Then g al H (fFld ci f fa sl hq) Q := q
  unfold fFld at q
  obtain ⟨d, h1, e1, q⟩ := q.split
  refine ⟨al, sl, hq, rh, rs, ?_⟩
  rw [e1]
  intro al1 v H1 rh1 ex1 rv
  have q := q.later ex1
  cases d with
  | ref n =>
    cases z : h1[n]? with
    | none => simp only [z] at q; exact False.elim q
    | some cc =>
      simp only [z] at q
      cases cc with
      | ins c' fs =>
        by_cases hcc : c' = ci
        · subst hcc
          simp only [if_true] at q
          cases y : look fs f with
          | none => simp only [y] at q; exact False.elim q
          | some d' =>
            simp only [y] at q
            obtain ⟨a', Ca', dx, w, rfl, _, hc', ha', rw'⟩ := cell_ins rh1 rv z
            rw [hc] at hc'; cases hc'
            rcases rw'.look f with ⟨d2, v2, g1, g2, g3⟩ | ⟨g1, _⟩
            · rw [y] at g1; cases g1
              refine ⟨a', Ca, dx, w, v2, rfl, ha', by rw [hK]; exact cl, by rw [hK]; exact na, ?_, q.ok rh1 g3⟩
              rw [lookup_valV]; exact g2
            · rw [y] at g1; cases g1
        · simp only [hcc, if_false] at q
          exact False.elim q
      | _ => exact False.elim q
  | _ => exact False.elim q

/-! ### calls of defs -/
/-- a def's promise: what its own function says -/
def spOf (g : G) (n : Nat) (F : List D → Hq → R D) : Sp := fun vs H Q _ => ∃ al hq ds, RH g al hq H ∧ Rvs g.K al H ds vs ∧ ds.length = n ∧ Then g al H (F ds hq) Q
def fCall (n : Nat) (F : List D → Hq → R D) (fs : List Sl → Hq → R (List D)) : List Sl → Hq → R D := fun sl h => (fs sl h).bind fun ds h1 => if ds.length = n then F ds h1 else .st
theorem TDa.split {al : List Addr} {H : Hp} {σ : L2.St} {sl : List Sl} {hq : Hq} (rh : RH g al hq H) (rs : RSe g al H sl σ) {ds : List D} {h1 : Hq} (e : fs sl hq = .ok ds h1) {Q : List V → Hp → Prop} (k : ∀ al1 vs H1, RH g al1 h1 H1 → Ex al al1 H H1 → Rvs g.K al1 H1 ds vs → Q vs H1) : TDa g fs σ H Q :=
  ⟨al, sl, hq, rh, rs, by rw [e]; exact k⟩
theorem call_q {n : Nat} {F : List D → Hq → R D} {σ : L2.St} {H : Hp} {Q : VK} {E : XK} (q : TDe g (fCall n F fs) σ H Q) : tCall (spOf g n F) [] E (TDa g fs) σ H Q := by
  obtain ⟨al, sl, hq, rh, rs, q⟩ := q
  have q : Then g al H (fCall n F fs sl hq) Q := q
  unfold fCall at q
  obtain ⟨ds, h1, e, q⟩ := q.split
  refine TDa.split rh rs e fun al1 vs H1 rh1 ex1 rvs => ?_
  by_cases hn : ds.length = n
  · rw [if_pos hn] at q
    exact ⟨al1, h1, ds, rh1, by rw [List.append_nil]; exact rvs, hn, q.later ex1⟩
  · rw [if_neg hn] at q
    exact False.elim q
theorem se_call {k n : Nat} {f : Addr} {fd : FuncData} {ps : List Str} {x : Str} {p : Pos} {F : List D → Hq → R D} (G1 : FnOk X.prog X.w X.K X.mg X.base CX0 k f fd ps (spOf g n F)) (hr : Room k X.A) (hg : Gl X x) (hm : X.mg x = some (.ref f)) (hk : PySem.W.keepIn X.K (.ref f) = true) (hb : Binds X.K fd ps [])
    (ha : SA g X (a :: es) fs) (hdb : (x == ("__debug__" : Str)) = false) (he : starEach (a :: es) X.env = (false, eval a X.env) :: starEach es X.env) (hpl : (backTo pos (starEach es X.env)).any (·.1) = false) : SE g X (.Call (.Name x p) (a :: es) [] pos) (fCall n F fs) :=
  PE.le (pe_call G1 hr hg hm hk hb .nil pass0 ha hdb he hpl) fun _ _ _ q => call_q q
def fMeth (c : Nat) (m : Str) (n : Nat) (F : List D → Hq → R D) (fo : List Sl → Hq → R D) (fs : List Sl → Hq → R (List D)) : List Sl → Hq → R D := fun sl h => (fo sl h).bind fun d h1 => match d with
  | .ref i => (match h1[i]? with
    | some (.ins c' fl) => if c' = c then (match look fl m with
      | some _ => .st
      | none => (fs sl h1).bind fun ds h2 => if ds.length + 1 = n then F (.ref i :: ds) h2 else .st) else .st
    | _ => .st)
  | _ => .st
theorem meth_q {ci n : Nat} {m : Str} {Ca : Addr} (hc : g.cls[ci]? = some Ca) {F : List D → Hq → R D} {fo : List Sl → Hq → R D} {σ : L2.St} {H : Hp} {Q : VK} {E : XK} (q : TDe g (fMeth ci m n F fo fs) σ H Q) : tMeth Ca m (spOf g n F) [] E (TDe g fo) (TDa g fs) σ H Q := by
  obtain ⟨al, sl, hq, rh, rs, q⟩ := q
  have q : Then g al H (fMeth ci m n F fo fs sl hq) Q := q
  unfold fMeth at q
  obtain ⟨d, h1, e1, q⟩ := q.split
  refine ⟨al, sl, hq, rh, rs, ?_⟩
  rw [e1]
  intro al1 v H1 rh1 ex1 rv
  have q := q.later ex1
  cases d with
  | ref i =>
    cases z : h1[i]? with
    | none => simp only [z] at q; exact False.elim q
    | some cc =>
      simp only [z] at q
      cases cc with
      | ins c' fl =>
        by_cases hcc : c' = ci
        · subst hcc
          simp only [if_true] at q
          cases y : look fl m with
          | some d' => simp only [y] at q; exact False.elim q
          | none =>
            simp only [y] at q
            obtain ⟨ds, h2, e2, q⟩ := q.split
            obtain ⟨a', Ca', dx, w, rfl, _, hc', ha', rw'⟩ := cell_ins rh1 rv z
            rw [hc] at hc'; cases hc'
            refine ⟨a', dx, w, rfl, ha', ?_, ?_⟩
            · rcases rw'.look m with ⟨d2, v2, g1, _⟩ | ⟨_, g2⟩
              · rw [y] at g1; cases g1
              · rw [lookup_valV]; exact g2
            · refine TDa.split rh1 (rs.ex ex1) e2 fun al2 vs H2 rh2 ex2 rvs => ?_
              by_cases hn : ds.length + 1 = n
              · simp only [hn, if_true] at q
                exact ⟨al2, h2, .ref i :: ds, rh2, .cons (rv.mo ex2.mo) (by rw [List.append_nil]; exact rvs), hn, q.later ex2⟩
              · simp only [hn, if_false] at q
                exact False.elim q
        · simp only [hcc, if_false] at q
          exact False.elim q
      | _ => exact False.elim q
  | _ => exact False.elim q
/-- a new instance -/
def fMake (c : Nat) (n : Nat) (F : List D → Hq → R D) (fs : List Sl → Hq → R (List D)) : List Sl → Hq → R D := fun sl h => (fs sl h).bind fun ds h1 => if ds.length + 1 = n then (F (.ref h1.length :: ds) (h1 ++ [.ins c []])).bind fun d h2 => match d with
  | .non => .ok (.ref h1.length) h2
  | _ => .st else .st
theorem make_q {ci n : Nat} {Ca : Addr} (hc : g.cls[ci]? = some Ca) {F : List D → Hq → R D} {σ : L2.St} {H : Hp} {Q : VK} {E : XK} (q : TDe g (fMake ci n F fs) σ H Q) : tMake Ca (spOf g n F) [] E (TDa g fs) σ H Q := by
  obtain ⟨al, sl, hq, rh, rs, q⟩ := q
  have q : Then g al H (fMake ci n F fs sl hq) Q := q
  unfold fMake at q
  obtain ⟨ds, h1, e1, q⟩ := q.split
  refine TDa.split rh rs e1 fun al1 vs H1 rh1 ex1 rvs => ?_
  intro x dx nx ndx hne
  by_cases hn : ds.length + 1 = n
  · rw [if_pos hn] at q
    obtain ⟨d, h2, e2, q⟩ := q.split
    -- the heap with the new instance
    have rhd : RH g al1 h1 (upd H1 dx (.own x)) := rh1.new ndx
    have nx2 : (upd H1 dx (.own x)) x = none := by rw [upd_ne (Ne.symm hne)]; exact nx
    have rhx : RH g al1 h1 (upd (upd H1 dx (.own x)) x (.ins Ca dx [])) := rhd.new nx2
    have ninx : x ∉ al1 := rh1.ninN nx
    have rh2 : RH g (al1 ++ [x]) (h1 ++ [.ins ci []]) (upd (upd H1 dx (.own x)) x (.ins Ca dx [])) :=
      rhx.snoc ninx upd_same trivial ⟨Ca, dx, [], rfl, hc, .nil⟩
    have ex2 : Ex al1 (al1 ++ [x]) H1 (upd (upd H1 dx (.own x)) x (.ins Ca dx [])) := ((Ex.new ndx).trans (Ex.new nx2)).more nx
    have hlen : al1.length = h1.length := rh1.len
    have rself : ∀ {al' : List Addr} {H' : Hp}, Ex (al1 ++ [x]) al' (upd (upd H1 dx (.own x)) x (.ins Ca dx [])) H' → Rv g.K al' H' (.ref h1.length) (.ref x) := fun {al' H'} ex => .ref (by
      obtain ⟨m, rfl, _⟩ := ex.pre
      rw [List.append_assoc, List.getElem?_append_right (by rw [hlen]; exact Nat.le_refl _), hlen, Nat.sub_self]
      rfl)
    refine ⟨al1 ++ [x], h1 ++ [.ins ci []], .ref h1.length :: ds, rh2, .cons (rself (Ex.refl _ _)) (by rw [List.append_nil]; exact rvs.mo ex2.mo), hn, ?_⟩
    rw [e2]
    intro al3 v H3 rh3 ex3 rv
    have q := (q.later ex1).later (ex2.trans ex3)
    cases rv with
    | non => exact ⟨rfl, Then.ok q rh3 (rself ex3)⟩
    | _ => exact False.elim q
  · rw [if_neg hn] at q
    exact False.elim q
end
end Dy
end

section
set_option Elab.async false
set_option linter.all false
set_option maxRecDepth 100000
set_option maxHeartbeats 2000000
/-! Dy8: what is walked, targets, list comprehensions. -/
namespace Dy
open PySem PySem.Spec PyProof.Rows L2 GxR Gx

/-- J walks the items ds from the heap H0 on -/
def Wk (g : G) (al0 : List Addr) (H0 : Hp) (ds : List D) (J : It) : Prop := ∀ al hq H i, RH g al hq H → Ex al0 al H0 H →
  (∀ d, ds[i]? = some d → J.go i H ∧ ∀ x H2, J.yld i H x H2 → RH g al hq H2 ∧ Ex al al H H2 ∧ Rv g.K al H2 d x) ∧ (ds.length ≤ i → J.stop i H)
def ThenI (g : G) (al : List Addr) (H : Hp) (r : R (List D)) (Q : It → Hp → Prop) : Prop := match r with
  | .ok ds hq' => ∀ al' H' J, RH g al' hq' H' → Ex al al' H H' → Wk g al' H' ds J → Q J H'
  | _ => False
def TDi (g : G) (fI : List Sl → Hq → R (List D)) : TI := fun σ H Q => ∃ al sl hq, RH g al hq H ∧ RSe g al H sl σ ∧ ThenI g al H (fI sl hq) Q
abbrev SI (g : G) (X : Cx) (tg iter : Expr) (fI : List Sl → Hq → R (List D)) : Prop := PI X tg iter (TDi g fI)
theorem ThenI.split {α : Type} {g : G} {al : List Addr} {H : Hp} {r : R α} {k : α → Hq → R (List D)} {Q : It → Hp → Prop} (q : ThenI g al H (r.bind k) Q) : ∃ a h, r = .ok a h ∧ ThenI g al H (k a h) Q := by
  cases r with
  | ok a h => exact ⟨a, h, rfl, q⟩
  | er c fs h => exact False.elim q
  | st => exact False.elim q
theorem ThenI.later {g : G} {al al1 : List Addr} {H H1 : Hp} {r : R (List D)} {Q : It → Hp → Prop} (q : ThenI g al H r Q) (e : Ex al al1 H H1) : ThenI g al1 H1 r Q := by
  cases r with
  | ok d hq => exact fun al' H' J rh ex wk => q al' H' J rh (e.trans ex) wk
  | er c fs h => exact q
  | st => exact q
theorem PI.le {X : Cx} {tg iter : Expr} {t t' : TI} (h : PI X tg iter t) (k : ∀ σ H Q, t' σ H Q → t σ H Q) : PI X tg iter t' := ⟨fun pins s σ H Q I q => h.run pins s σ H Q I (k σ H Q q)⟩

section
variable {X : Cx} {g : G} {tg a : Expr} {fa : List Sl → Hq → R D} {fs : List Sl → Hq → R (List D)} {p pos : Pos}
/-! ### lists and tuples -/
def seqF : D → Option (List D)
  | .tup ds => some ds
  | .kt ds => some ds
  | .lst ds => some ds
  | _ => none
def iSeq (fa : List Sl → Hq → R D) : List Sl → Hq → R (List D) := fun sl h => (fa sl h).bind fun d h1 => match seqF d with
  | some ds => .ok ds h1
  | none => .st
theorem pi_seq {l : Expr} {tl : TE} (hl : PE X l tl) : PI X tg l (fun σ H R => tl σ H fun x H1 => ∃ a, x = .ref a ∧ (((∃ xs, SqL X.K H1 a xs) ∧ R (Itl X.K a) H1) ∨ ((∃ xs, SqT X.K H1 a xs) ∧ R (Itt X.K a) H1))) := by
  refine ⟨fun pins s σ H R I h => ?_⟩
  refine thn (hl.run pins s σ H _ I h) fun v s1 ⟨x, H1, I1, r1, q1⟩ => ?_
  obtain ⟨a, e, q⟩ := q1
  subst e
  cases r1
  have fin : ∀ b ∈ [s1.heap.objs.size], FpOk X pins H1 b := fun b hb => by
    have e : b = s1.heap.objs.size := by simpa using hb
    subst e
    exact I1.fpOk (Nat.le_refl _) (I1.hok.fresh (Nat.le_refl _))
  rcases q with ⟨⟨xs, hq⟩, q⟩ | ⟨⟨xs, hq⟩, q⟩
  · obtain ⟨its, rv, p, hz⟩ := I1.list hq
    refine wpAny_pyIter_list p.isList ?_
    exact ⟨s1.heap.objs.size, [s1.heap.objs.size], _, _, H1, rfl, I1.kept (t' := s1.toks) fun b o e => Heap.get?_push_of_some _ e, turn_list a _, ⟨_, Heap.get?_push_size _ rfl, rfl, rfl⟩, fin, q⟩
  · obtain ⟨its, rv, p, hz⟩ := I1.tuple hq
    refine wpAny_pyIter_tuple (show s1.heap.IsTuple a its.toArray from p) ?_
    exact ⟨s1.heap.objs.size, [s1.heap.objs.size], _, _, H1, rfl, I1.kept (t' := s1.toks) fun b o e => Heap.get?_push_of_some _ e, turn_tuple a _, ⟨_, Heap.get?_push_size _ rfl, rfl, rfl⟩, fin, q⟩
theorem Rvs.uniq {K : PySem.W.Frag} {al : List Addr} {H : Hp} {ds : List D} {vs : List V} {i : Nat} {d : D} {x : V} (r : Rvs K al H ds vs) (e : ds[i]? = some d) (h : vs[i]? = some x) : Rv K al H d x := by
  obtain ⟨v, h1, h2⟩ := r.get e
  rw [h] at h1
  cases h1
  exact h2
theorem wk_list {al : List Addr} {H : Hp} {b : Addr} {ds : List D} {vs : List V} (h : FzL al H b vs) (r : Rvs g.K al H ds vs) : Wk g al H ds (Itl g.K b) := by
  intro al1 hq1 H1 i rh1 ex1
  have h1 : SqL g.K H1 b vs := (h.mo ex1.mo).sq
  have r1 := r.mo ex1.mo
  refine ⟨fun d hd => ?_, fun hi => ⟨vs, h1, by rw [← r.length]; exact hi⟩⟩
  obtain ⟨v, e1, rv⟩ := r1.get hd
  refine ⟨⟨vs, v, h1, e1⟩, fun x H2 hy => ?_⟩
  obtain ⟨rfl, hy⟩ := hy
  have e2 := hy vs h1
  rw [e1] at e2
  cases e2
  exact ⟨rh1, Ex.refl _ _, rv⟩
theorem wk_tup {al : List Addr} {H : Hp} {b : Addr} {ds : List D} {vs : List V} (h : ∀ al1 H1, Ex al al1 H H1 → SqT g.K H1 b vs) (r : Rvs g.K al H ds vs) : Wk g al H ds (Itt g.K b) := by
  intro al1 hq1 H1 i rh1 ex1
  have h1 := h al1 H1 ex1
  have r1 := r.mo ex1.mo
  refine ⟨fun d hd => ?_, fun hi => ⟨vs, h1, by rw [← r.length]; exact hi⟩⟩
  obtain ⟨v, e1, rv⟩ := r1.get hd
  refine ⟨⟨vs, v, h1, e1⟩, fun x H2 hy => ?_⟩
  obtain ⟨rfl, hy⟩ := hy
  have e2 := hy vs h1
  rw [e1] at e2
  cases e2
  exact ⟨rh1, Ex.refl _ _, rv⟩
theorem si_seq (hK : X.K = g.K) (ha : SE g X a fa) : SI g X tg a (iSeq fa) := by
  refine PI.le (pi_seq ha) fun σ H Q q => ?_
  obtain ⟨al, sl, hq, rh, rs, q⟩ := q
  unfold iSeq at q
  obtain ⟨d, h1, e, q⟩ := q.split
  refine ⟨al, sl, hq, rh, rs, ?_⟩
  rw [e]
  intro al1 v H1 rh1 ex1 rv
  have q := q.later ex1
  rw [hK]
  cases rv with
  | @tup b ds vs hb rb =>
    exact ⟨b, rfl, .inr ⟨⟨vs, .inl (.inl hb)⟩, q al1 H1 _ rh1 (Ex.refl _ _) (wk_tup (fun al2 H2 ex2 => .inl (.inl (ex2.tup _ _ hb))) rb)⟩⟩
  | @kt b ds vs hb rb =>
    exact ⟨b, rfl, .inr ⟨⟨vs, hb.sq⟩, q al1 H1 _ rh1 (Ex.refl _ _) (wk_tup (fun al2 H2 ex2 => hb.sq) rb)⟩⟩
  | @lst b ds vs hb rb =>
    exact ⟨b, rfl, .inl ⟨⟨vs, hb.sq⟩, q al1 H1 _ rh1 (Ex.refl _ _) (wk_list hb rb)⟩⟩
  | _ => exact False.elim q
/-! ### a text's signs -/
def signs (x : Str) : List D := x.cps.toList.map fun c => .str ⟨#[c]⟩
def iTxt (fa : List Sl → Hq → R D) : List Sl → Hq → R (List D) := fun sl h => (fa sl h).bind fun d h1 => match d with
  | .str x => .ok (signs x) h1
  | _ => .st
theorem wk_str {al : List Addr} {H : Hp} {x : Str} : Wk g al H (signs x) (Its x) := by
  intro al1 hq1 H1 i rh1 ex1
  refine ⟨fun d hd => ?_, fun hi => ?_⟩
  rotate_left
  · show x.cps.size ≤ i
    simpa [signs] using hi
  unfold signs at hd
  rw [List.getElem?_map] at hd
  obtain ⟨c, hc, rfl⟩ := Option.map_eq_some_iff.mp hd
  rw [Array.getElem?_toList] at hc
  refine ⟨(Array.getElem?_eq_some_iff.mp hc).1, fun v H2 hy => ?_⟩
  obtain ⟨rfl, c', hc', rfl⟩ := hy
  rw [hc] at hc'
  cases hc'
  exact ⟨rh1, Ex.refl _ _, .str _⟩
theorem si_str (ha : SE g X a fa) : SI g X tg a (iTxt fa) := by
  refine PI.le (pi_str ha) fun σ H Q q => ?_
  obtain ⟨al, sl, hq, rh, rs, q⟩ := q
  unfold iTxt at q
  obtain ⟨d, h1, e, q⟩ := q.split
  refine ⟨al, sl, hq, rh, rs, ?_⟩
  rw [e]
  intro al1 v H1 rh1 ex1 rv
  have q := q.later ex1
  cases rv with
  | str x => exact ⟨x, rfl, q al1 H1 _ rh1 (Ex.refl _ _) wk_str⟩
  | _ => exact False.elim q
/-! ### ranges -/
def iR1 (fs : List Sl → Hq → R (List D)) : List Sl → Hq → R (List D) := fun sl h => (fs sl h).bind fun ds h1 => match ds with
  | [.int j] => if -(2 ^ 62) ≤ j ∧ j < 2 ^ 62 then .ok ((List.range j.toNat).map fun (k : Nat) => .int k) h1 else .st
  | _ => .st
theorem wk_rng {al : List Addr} {H : Hp} {lo : Int} {n : Nat} : Wk g al H ((List.range n).map fun (k : Nat) => .int (lo + k)) (Itr lo n) := by
  intro al1 hq1 H1 i rh1 ex1
  refine ⟨fun d hd => ?_, fun hi => ?_⟩
  rotate_left
  · show n ≤ i
    simpa using hi
  rw [List.getElem?_map] at hd
  obtain ⟨c, hc, rfl⟩ := Option.map_eq_some_iff.mp hd
  have hc2 := List.getElem?_eq_some_iff.mp hc
  obtain ⟨hi, hc2⟩ := hc2
  rw [List.getElem_range] at hc2
  subst hc2
  refine ⟨show i < n by simpa using hi, fun v H2 hy => ?_⟩
  obtain ⟨rfl, rfl⟩ := hy
  exact ⟨rh1, Ex.refl _ _, .int _⟩
theorem si_rng1 (hg : Gl X "range") (hm : X.mg "range" = none) (ha : SA g X [a] fs) (hs : starEach [a] X.env = [(false, eval a X.env)]) : SI g X tg (.Call (.Name "range" p) [a] [] pos) (iR1 fs) := by
  refine PI.le (pi_range1 hg hm ha hs) fun σ H Q q => ?_
  obtain ⟨al, sl, hq, rh, rs, q⟩ := q
  unfold iR1 at q
  obtain ⟨ds, h1, e, q⟩ := q.split
  refine TDa.split rh rs e fun al1 vs H1 rh1 ex1 rvs => ?_
  have q := q.later ex1
  cases rvs with
  | nil => exact False.elim q
  | cons r t =>
    cases t with
    | cons r2 t2 => cases r <;> exact False.elim q
    | nil =>
      cases r with
      | int j =>
        dsimp only at q
        split at q
        · rename_i hj
          refine ⟨j, rfl, hj.1, hj.2, q al1 H1 _ rh1 (Ex.refl _ _) ?_⟩
          have := wk_rng (g := g) (al := al1) (H := H1) (lo := 0) (n := j.toNat)
          simpa using this
        · exact False.elim q
      | _ => exact False.elim q
/-- range(i, j, c), c positive -/
def iR3 (fs : List Sl → Hq → R (List D)) : List Sl → Hq → R (List D) := fun sl h => (fs sl h).bind fun ds h1 => match ds with
  | [.int i, .int j, .int c] => if 0 ≤ i ∧ i < 2 ^ 30 ∧ 0 ≤ j ∧ j < 2 ^ 30 ∧ 0 < c ∧ c < 2 ^ 20 then .ok ((List.range ((j - i + c - 1) / c).toNat).map fun (k : Nat) => .int (i + (k : Int) * c)) h1 else .st
  | _ => .st
theorem wk_rngC {al : List Addr} {H : Hp} {lo c : Int} {n : Nat} : Wk g al H ((List.range n).map fun (k : Nat) => .int (lo + (k : Int) * c)) (Itc lo c n) := by
  intro al1 hq1 H1 i rh1 ex1
  refine ⟨fun d hd => ?_, fun hi => ?_⟩
  rotate_left
  · show n ≤ i
    simpa using hi
  rw [List.getElem?_map] at hd
  obtain ⟨k, hc, rfl⟩ := Option.map_eq_some_iff.mp hd
  have hc2 := List.getElem?_eq_some_iff.mp hc
  obtain ⟨hi, hc2⟩ := hc2
  rw [List.getElem_range] at hc2
  subst hc2
  refine ⟨show i < n by simpa using hi, fun v H2 hy => ?_⟩
  obtain ⟨rfl, rfl⟩ := hy
  exact ⟨rh1, Ex.refl _ _, .int _⟩
/-! ### enumerate -/
def numb : Nat → List D → List D
  | _, [] => []
  | n, d :: ds => .tup [.int n, d] :: numb (n + 1) ds
theorem numb_get : ∀ (n i : Nat) (ds : List D), (numb n ds)[i]? = (ds[i]?).map fun d => .tup [.int ((n + i : Nat) : Int), d]
  | _, _, [] => by simp [numb]
  | n, 0, d :: ds => by simp [numb]
  | n, i + 1, d :: ds => by
    show (numb (n + 1) ds)[i]? = _
    rw [numb_get (n + 1) i ds]
    simp only [List.getElem?_cons_succ]
    have : n + 1 + i = n + (i + 1) := by omega
    rw [this]
theorem numb_length : ∀ (n : Nat) (ds : List D), (numb n ds).length = ds.length
  | _, [] => rfl
  | n, d :: ds => by simp [numb, numb_length]
def iEn (fa : List Sl → Hq → R (List D)) : List Sl → Hq → R (List D) := fun sl h => (fa sl h).bind fun ds h1 => match ds with
  | [.lst ds] => .ok (numb 0 ds) h1
  | _ => .st
/-! ### keys of a frozen dict -/
def keyD : Key → D
  | .inl i => .int i
  | .inr x => .str x
theorem keyD_rv {K : PySem.W.Frag} {al : List Addr} {H : Hp} (k : Key) : Rv K al H (keyD k) (kV k) := by cases k with
  | inl i => exact .int i
  | inr x => exact .str x
def iKy (fa : List Sl → Hq → R D) : List Sl → Hq → R (List D) := fun sl h => (fa sl h).bind fun d h1 => match d with
  | .dk kvs => .ok (kvs.map fun p => keyD p.1) h1
  | _ => .st
/-! ### range of three, enumerate, keys: the rules -/
/-- range(i, j, c) -/
def iR3' (fs : List Sl → Hq → R (List D)) : List Sl → Hq → R (List D) := fun sl h => (fs sl h).bind fun ds h1 => match ds with
  | [.int i, .int j, .int c] => if c ≠ 0 ∧ c.natAbs < 1073741824 ∧ Builtin.Range.small i j c = true ∧ 0 ≤ Builtin.Range.rangeSize i j c then .ok ((List.range (Builtin.Range.rangeSize i j c).toNat).map fun (k : Nat) => .int (i + (k : Int) * c)) h1 else .st
  | _ => .st
theorem si_rng3 {b c : Expr} (hg : Gl X "range") (hm : X.mg "range" = none) (ha : SA g X [a, b, c] fs) (hs : starEach [a, b, c] X.env = (false, eval a X.env) :: starEach [b, c] X.env) (hpl : (backTo pos (starEach [b, c] X.env)).any (·.1) = false) :
    SI g X tg (.Call (.Name "range" p) [a, b, c] [] pos) (iR3' fs) := by
  refine PI.le (pi_range3 hg hm ha hs hpl) fun σ H Q q => ?_
  obtain ⟨al, sl, hq, rh, rs, q⟩ := q
  unfold iR3' at q
  obtain ⟨ds, h1, e, q⟩ := q.split
  refine TDa.split rh rs e fun al1 vs H1 rh1 ex1 rvs => ?_
  have q := q.later ex1
  cases rvs with
  | nil => exact False.elim q
  | cons r t =>
    cases t with
    | nil => cases r <;> exact False.elim q
    | cons r2 t =>
      cases t with
      | nil => cases r <;> first | exact False.elim q | (cases r2 <;> exact False.elim q)
      | cons r3 t =>
        cases t with
        | cons r4 t => cases r <;> first | exact False.elim q | (cases r2 <;> first | exact False.elim q | (cases r3 <;> exact False.elim q))
        | nil =>
          cases r with
          | int i =>
            cases r2 with
            | int j =>
              cases r3 with
              | int k =>
                dsimp only at q
                split at q
                · rename_i hj
                  exact ⟨i, j, k, _, rfl, ⟨hj.1, hj.2.1, hj.2.2.1, (Int.toNat_of_nonneg hj.2.2.2).symm⟩, q al1 H1 _ rh1 (Ex.refl _ _) wk_rngC⟩
                · exact False.elim q
              | _ => exact False.elim q
            | _ => exact False.elim q
          | _ => exact False.elim q
theorem wk_enum {al : List Addr} {H : Hp} {b : Addr} {ds : List D} {vs : List V} (h : FzL al H b vs) (r : Rvs g.K al H ds vs) : Wk g al H (numb 0 ds) (Ite g.K b) := by
  intro al1 hq1 H1 i rh1 ex1
  have h1 : SqL g.K H1 b vs := (h.mo ex1.mo).sq
  have r1 := r.mo ex1.mo
  refine ⟨fun d hd => ?_, fun hi => ⟨vs, h1, by rw [← r.length, ← numb_length 0 ds]; exact hi⟩⟩
  rw [numb_get] at hd
  obtain ⟨d', hd', rfl⟩ := Option.map_eq_some_iff.mp hd
  obtain ⟨v, e1, rv⟩ := r1.get hd'
  refine ⟨⟨vs, v, h1, e1⟩, fun x H2 hy => ?_⟩
  obtain ⟨T, x', rfl, nT, rfl, hy⟩ := hy
  have e2 := hy vs h1
  rw [e1] at e2
  cases e2
  refine ⟨rh1.new nT, Ex.new nT, .tup upd_same (.cons ?_ (.cons (rv.mo (Mo.new nT)) .nil))⟩
  rw [Nat.zero_add]
  exact .int _
theorem si_enum {tpos : Pos} {elts : List Expr} {kk : Nat} (hK : X.K = g.K) (hg : Gl X "enumerate") (hm : X.mg "enumerate" = none) (ha : SA g X [a] fs) (hs : starEach [a] X.env = [(false, eval a X.env)]) :
    SI g X (.Tuple elts kk tpos) (.Call (.Name "enumerate" p) [a] [] pos) (iEn fs) := by
  refine PI.le (pi_enum hg hm ha hs) fun σ H Q q => ?_
  obtain ⟨al, sl, hq, rh, rs, q⟩ := q
  unfold iEn at q
  obtain ⟨ds, h1, e, q⟩ := q.split
  refine TDa.split rh rs e fun al1 vs H1 rh1 ex1 rvs => ?_
  have q := q.later ex1
  rw [hK]
  cases rvs with
  | nil => exact False.elim q
  | cons r t =>
    cases t with
    | cons r2 t2 => cases r <;> exact False.elim q
    | nil =>
      cases r with
      | lst ha ra => exact ⟨_, _, rfl, ha.sq, q al1 H1 _ rh1 (Ex.refl _ _) (wk_enum ha ra)⟩
      | _ => exact False.elim q
theorem wk_keys {al : List Addr} {H : Hp} {b : Addr} {o : Obj} {kvs : List (Key × D)} {w : List (Key × V)} (h : ∀ al1 H1, Ex al al1 H H1 → H1 b = some (.frz o (.dK w))) (r : kvs.map (·.1) = w.map (·.1)) : Wk g al H (kvs.map fun p => keyD p.1) (Itk b o w) := by
  intro al1 hq1 H1 i rh1 ex1
  have h1 := h al1 H1 ex1
  have hl : kvs.length = w.length := by
    have := congrArg List.length r
    simpa using this
  refine ⟨fun d hd => ?_, fun hi => ⟨h1, by rw [← hl]; simpa using hi⟩⟩
  rw [List.getElem?_map] at hd
  obtain ⟨kv, hk, rfl⟩ := Option.map_eq_some_iff.mp hd
  have e1 : (kvs.map (·.1))[i]? = some kv.1 := by rw [List.getElem?_map, hk]; rfl
  rw [r, List.getElem?_map] at e1
  obtain ⟨kw, hw, ew⟩ := Option.map_eq_some_iff.mp e1
  refine ⟨⟨h1, (List.getElem?_eq_some_iff.mp hw).1⟩, fun x H2 hy => ?_⟩
  obtain ⟨rfl, k, v, e2, rfl⟩ := hy
  rw [hw] at e2
  cases e2
  have ew : k = kv.1 := ew
  rw [ew]
  exact ⟨rh1, Ex.refl _ _, keyD_rv _⟩
theorem si_keys (ha : SE g X a fa) : SI g X tg a (iKy fa) := by
  refine PI.le (pi_keys ha) fun σ H Q q => ?_
  obtain ⟨al, sl, hq, rh, rs, q⟩ := q
  unfold iKy at q
  obtain ⟨d, h1, e, q⟩ := q.split
  refine ⟨al, sl, hq, rh, rs, ?_⟩
  rw [e]
  intro al1 v H1 rh1 ex1 rv
  have q := q.later ex1
  cases rv with
  | @dk b o kvs w hb nb ek rk => exact ⟨b, o, rfl, .inl ⟨w, hb, q al1 H1 _ rh1 (Ex.refl _ _) (wk_keys (fun al2 H2 ex2 => ex2.mo.frz _ _ _ nb hb) ek)⟩⟩
  | _ => exact False.elim q
end
end Dy
end

section
set_option Elab.async false
set_option linter.all false
set_option maxRecDepth 100000
set_option maxHeartbeats 2000000
/-! Dy9: targets, list comprehensions, any and all. -/
namespace Dy
open PySem PySem.Spec PyProof.Rows L2 GxR Gx

/-! ### slots set -/
abbrev Bs := List (Nat × D)
def sets (sl : List Sl) : Bs → List Sl
  | [] => sl
  | b :: bs => sets (sl.set b.1 (.va b.2)) bs
def setsV (σ : L2.St) : List (Nat × V) → L2.St
  | [] => σ
  | b :: bs => setsV (σ.set b.1 (some b.2)) bs
def wipeS (sl : List Sl) : List Nat → List Sl
  | [] => sl
  | v :: vs => (wipeS sl vs).set v .no
section
variable {g : G} {al : List Addr} {H : Hp}
theorem RSe.set1 {sl : List Sl} {σ : L2.St} (r : RSe g al H sl σ) {i : Nat} {d : D} {v : V} (rv : Rv g.K al H d v) : RSe g al H (sl.set i (.va d)) (σ.set i (some v)) := by
  refine ⟨by rw [List.length_set, List.length_set]; exact r.len, fun j d' h => ?_⟩
  by_cases e : i = j
  · subst e
    by_cases hl : i < sl.length
    · rw [List.getElem?_set_self hl] at h
      cases h
      exact ⟨v, by rw [List.getElem?_set_self (by rw [← r.len]; exact hl)], rv⟩
    · rw [List.getElem?_eq_none (by simpa using hl)] at h; cases h
  · rw [List.getElem?_set_ne e] at h ⊢
    exact r.va j d' h
theorem RSe.no1 {sl : List Sl} {σ : L2.St} (r : RSe g al H sl σ) (i : Nat) : RSe g al H (sl.set i .no) (σ.set i none) := by
  refine ⟨by rw [List.length_set, List.length_set]; exact r.len, fun j d' h => ?_⟩
  by_cases e : i = j
  · subst e
    by_cases hl : i < sl.length
    · rw [List.getElem?_set_self hl] at h; cases h
    · rw [List.getElem?_eq_none (by simpa using hl)] at h; cases h
  · rw [List.getElem?_set_ne e] at h ⊢
    exact r.va j d' h
theorem RSe.sets : ∀ {bs : Bs} {ws : List (Nat × V)} {sl : List Sl} {σ : L2.St}, RSe g al H sl σ → Rk g.K al H bs ws → RSe g al H (Dy.sets sl bs) (setsV σ ws)
  | [], ws, sl, σ, r, k => by cases k.nil_inv; exact r
  | b :: bs, ws, sl, σ, r, k => by
    obtain ⟨q, t, rfl, e, v, k'⟩ := k.inv
    show RSe g al H (Dy.sets (sl.set b.1 (.va b.2)) bs) (setsV (σ.set q.1 (some q.2)) t)
    rw [← e]
    exact RSe.sets (r.set1 v) k'
theorem RSe.wipe {sl : List Sl} {σ : L2.St} (r : RSe g al H sl σ) : ∀ (vs : List Nat), RSe g al H (wipeS sl vs) (L2.wipe σ vs)
  | [] => r
  | v :: vs => (RSe.wipe r vs).no1 v
end
theorem setsV_length : ∀ (ws : List (Nat × V)) (σ : L2.St), (setsV σ ws).length = σ.length
  | [], _ => rfl
  | w :: ws, σ => by
    show (setsV (σ.set w.1 (some w.2)) ws).length = _
    rw [setsV_length ws, List.length_set]
theorem setsV_out : ∀ (ws : List (Nat × V)) (σ : L2.St) (i : Nat), i ∉ ws.map (·.1) → (setsV σ ws)[i]? = σ[i]?
  | [], _, _, _ => rfl
  | w :: ws, σ, i, h => by
    show (setsV (σ.set w.1 (some w.2)) ws)[i]? = _
    rw [List.map_cons, List.mem_cons, not_or] at h
    rw [setsV_out ws _ i h.2, List.getElem?_set_ne (fun z => h.1 z.symm)]
theorem wipe_get (σ : L2.St) (i : Nat) : ∀ vs : List Nat, (wipe σ vs)[i]? = if i ∈ vs then (σ[i]?).map fun _ => none else σ[i]?
  | [] => by simp [wipe]
  | v :: vs => by
    unfold wipe
    by_cases e : v = i
    · subst e
      simp only [List.mem_cons, true_or, if_true]
      by_cases hl : v < (wipe σ vs).length
      · rw [List.getElem?_set_self hl]
        rw [wipe_length] at hl
        rw [List.getElem?_eq_getElem hl]
        rfl
      · rw [List.getElem?_eq_none (by simpa using hl)]
        rw [wipe_length] at hl
        rw [List.getElem?_eq_none (by simpa using hl)]
        rfl
    · rw [List.getElem?_set_ne e, wipe_get σ i vs]
      have : (i ∈ v :: vs) ↔ i ∈ vs := by
        rw [List.mem_cons]
        exact ⟨fun h => h.elim (fun z => absurd z.symm e) id, .inr⟩
      by_cases h : i ∈ vs
      · rw [if_pos h, if_pos (this.mpr h)]
      · rw [if_neg h, if_neg (fun z => h (this.mp z))]
/-- targets set within a block are gone at its next turn -/
theorem wipe_sets {σ : L2.St} {vs : List Nat} {ws : List (Nat × V)} (h : ∀ i ∈ ws.map (·.1), i ∈ vs) : wipe (setsV (wipe σ vs) ws) vs = wipe σ vs := by
  apply List.ext_getElem?
  intro i
  rw [wipe_get]
  by_cases hi : i ∈ vs
  · rw [if_pos hi]
    have hl : (setsV (wipe σ vs) ws).length = σ.length := by rw [setsV_length, wipe_length]
    rw [wipe_get, if_pos hi]
    by_cases z : i < σ.length
    · rw [List.getElem?_eq_getElem (by rw [hl]; exact z), List.getElem?_eq_getElem z]; first | done | rfl
    · rw [List.getElem?_eq_none (by omega), List.getElem?_eq_none (by omega)]
  · rw [if_neg hi, setsV_out _ _ _ (fun z => hi (h i z))]

/-! ### targets -/
def TDg (g : G) (f : D → Option Bs) : TG := fun v σ H Q => ∃ al hq d bs, RH g al hq H ∧ Rv g.K al H d v ∧ f d = some bs ∧ ∀ ws, Rk g.K al H bs ws → Q (setsV σ ws) H
def TDgs (g : G) (f : List D → Option Bs) : TGs := fun vs σ H Q => ∃ al hq ds bs, RH g al hq H ∧ Rvs g.K al H ds vs ∧ f ds = some bs ∧ ∀ ws, Rk g.K al H bs ws → Q (setsV σ ws) H
/-- a target, the slots it sets -/
structure STg (g : G) (X : Cx) (tg : Expr) (is : List Nat) (f : D → Option Bs) : Prop where
  pg : PG X tg (TDg g f)
  ix : ∀ d bs, f d = some bs → bs.map (·.1) = is
structure STs (g : G) (X : Cx) (ts : List Expr) (is : List Nat) (f : List D → Option Bs) : Prop where
  pg : PGs X ts (TDgs g f)
  ix : ∀ d bs, f d = some bs → bs.map (·.1) = is
def gNm (i : Nat) : D → Option Bs := fun d => some [(i, d)]
def gsNil : List D → Option Bs
  | [] => some []
  | _ => none
def gsCons (f : D → Option Bs) (fs : List D → Option Bs) : List D → Option Bs
  | [] => none
  | d :: ds => (f d).bind fun b => (fs ds).map (b ++ ·)
def gTu (fs : List D → Option Bs) : D → Option Bs := fun d => (titems d).bind fs
section
variable {X : Cx} {g : G} {pos : Pos}
theorem PG.le {tg : Expr} {t t' : TG} (h : PG X tg t) (k : ∀ v σ H Q, t' v σ H Q → t v σ H Q) : PG X tg t' := ⟨fun pins s σ H v u Q I r q => h.run pins s σ H v u Q I r (k v σ H Q q)⟩
theorem PGs.le {tg : List Expr} {t t' : TGs} (h : PGs X tg t) (k : ∀ v σ H Q, t' v σ H Q → t v σ H Q) : PGs X tg t' := ⟨fun pins s σ H v u Q I r q => h.run pins s σ H v u Q I r (k v σ H Q q)⟩
theorem st_nm {i : Nat} {x : Str} (hN : X.N.Nodup) (hi : X.N[i]? = some x) (hx : Loc X.env.scope x) (hf : X.fn x = true ∨ X.env.scope.names.lookup x = some .local) : STg g X (.Name x pos) [i] (gNm i) := by
  refine ⟨PG.le (pg_name hN hi hx hf) fun v σ H Q q => ?_, fun d bs h => ?_⟩
  · obtain ⟨al, hq, d, bs, rh, rv, e, q⟩ := q
    cases e
    exact q [(i, v)] (.cons rfl rv .nil)
  · cases h; rfl
theorem sts_nil : STs g X [] [] gsNil := by
  refine ⟨PGs.le pgs_nil fun vs σ H Q q => ?_, fun d bs h => ?_⟩
  · obtain ⟨al, hq, ds, bs, rh, rv, e, q⟩ := q
    cases rv with
    | nil => cases e; exact ⟨rfl, q [] .nil⟩
    | cons _ _ => cases e
  · cases d with
    | nil => cases h; rfl
    | cons _ _ => cases h
theorem Rk.split {K : PySem.W.Frag} {al : List Addr} {H : Hp} {κ : Type} : ∀ {k k' : List (κ × D)} {w w' : List (κ × V)}, Rk K al H k w → Rk K al H k' w' → Rk K al H (k ++ k') (w ++ w') := fun h h' => h.append h'
theorem setsV_append : ∀ (a b : List (Nat × V)) (σ : L2.St), setsV σ (a ++ b) = setsV (setsV σ a) b
  | [], _, _ => rfl
  | _ :: a, b, σ => setsV_append a b _
theorem sts_cons {e : Expr} {es : List Expr} {is js : List Nat} {f : D → Option Bs} {fs : List D → Option Bs} (h1 : STg g X e is f) (h2 : STs g X es js fs)
    (hs : (assignEach (e :: es) X.env).map (·.2) = assign e X.env :: (assignEach es X.env).map (·.2)) : STs g X (e :: es) (is ++ js) (gsCons f fs) := by
  refine ⟨PGs.le (pgs_cons h1.pg h2.pg hs) fun vs σ H Q q => ?_, fun d bs h => ?_⟩
  · obtain ⟨al, hq, ds, bs, rh, rv, e, q⟩ := q
    cases rv with
    | nil => cases e
    | cons r t =>
      obtain ⟨b1, e1, e⟩ := Option.bind_eq_some_iff.mp (show (f _).bind _ = _ from e)
      obtain ⟨b2, e2, rfl⟩ := Option.map_eq_some_iff.mp e
      exact ⟨_, _, rfl, al, hq, _, b1, rh, r, e1, fun ws1 k1 => ⟨al, hq, _, b2, rh, t, e2, fun ws2 k2 => by
        rw [← setsV_append]; exact q _ (k1.append k2)⟩⟩
  · cases d with
    | nil => cases h
    | cons d ds =>
      obtain ⟨b1, e1, e⟩ := Option.bind_eq_some_iff.mp (show (f _).bind _ = _ from h)
      obtain ⟨b2, e2, rfl⟩ := Option.map_eq_some_iff.mp e
      rw [List.map_append, h1.ix _ _ e1, h2.ix _ _ e2]
theorem gs_len {e : List Expr} {is : List Nat} {f : List D → Option Bs} (n : Nat) (h : ∀ ds, f ds ≠ none → ds.length = n) : True := trivial
def gTuN (n : Nat) (fs : List D → Option Bs) : D → Option Bs := fun d => (titems d).bind fun ds => if ds.length = n then fs ds else none
theorem st_tup {es : List Expr} {k n : Nat} {is : List Nat} {fs : List D → Option Bs} (hK : X.K = g.K) (hc : X.calm = true) (h : STs g X es is fs) (hn : (assignEach es X.env).length = n) (hst : (assignEach es X.env).findIdx? (·.1) = none) :
    STg g X (.Tuple es k pos) is (gTuN n fs) := by
  refine ⟨PG.le (pg_tup hc h.pg hn hst) fun v σ H Q q => ?_, fun d bs hh => ?_⟩
  · obtain ⟨al, hq, d, bs, rh, rv, e, q⟩ := q
    obtain ⟨ds, e1, e⟩ := Option.bind_eq_some_iff.mp (show (titems d).bind _ = _ from e)
    split at e
    · rename_i hl
      obtain ⟨a, xs, rfl, hs, rvs⟩ := titems_ok rv e1
      exact ⟨a, xs, rfl, by rw [hK]; exact hs, by rw [← rvs.length]; exact hl, al, hq, ds, bs, rh, rvs, e, q⟩
    · cases e
  · obtain ⟨ds, e1, e⟩ := Option.bind_eq_some_iff.mp (show (titems d).bind _ = _ from hh)
    split at e
    · exact h.ix _ _ e
    · cases e
end
end Dy
end

section
set_option Elab.async false
set_option linter.all false
set_option maxRecDepth 100000
set_option maxHeartbeats 2000000
/-! Dy10: list comprehensions, any and all. -/
namespace Dy
open PySem PySem.Spec PyProof.Rows L2 GxR Gx

abbrev FE := List Sl → Hq → R D
abbrev FT := List Sl → Hq → R Bool
abbrev FI := List Sl → Hq → R (List D)
/-! ### tests of a clause -/
def bYes : FT := fun _ h => .ok true h
abbrev SIf (g : G) (X : Cx) (ifs : List Expr) (f : FT) : Prop := PTs X ifs (TDt g f)
theorem PTs.le {X : Cx} {e : List Expr} {t t' : TT} (h : PTs X e t) (k : ∀ σ H Q, t' σ H Q → t σ H Q) : PTs X e t' := ⟨fun pins s σ H Q I q => h.run pins s σ H Q I (k σ H Q q)⟩
theorem sif_nil {g : G} {X : Cx} : SIf g X [] bYes := PTs.le pts_nil fun σ H Q q => by
  obtain ⟨al, sl, hq, rh, rs, q⟩ := q
  exact q al H rh (Ex.refl _ _)
theorem sif_one {g : G} {X : Cx} {c : Expr} {f : FT} (h : SB g X c f) : SIf g X [c] f := pts_one h

/-! ### lists -/
def lcGo (ft : D → Option Bs) (bt : FT) (fe : FE) (sl : List Sl) : List D → Hq → R (List D)
  | [], h => .ok [] h
  | d :: ds, h => match ft d with
    | none => .st
    | some bs => (bt (sets sl bs) h).bind fun b h1 => if b = true then (fe (sets sl bs) h1).bind fun y h2 => (lcGo ft bt fe sl ds h2).bind fun ys h3 => .ok (y :: ys) h3 else lcGo ft bt fe sl ds h1
def fLc (fI : FI) (ft : D → Option Bs) (bt : FT) (fe : FE) (vs : List Nat) : FE := fun sl h => (fI sl h).bind fun ds h1 => if ds.length ≤ LIM then (lcGo ft bt fe (wipeS sl vs) ds h1).bind fun ys h2 => .ok (.lst ys) h2 else .st
theorem R.split {α β : Type} {r : R α} {k : α → Hq → R β} {b : β} {h : Hq} (q : r.bind k = .ok b h) : ∃ a h1, r = .ok a h1 ∧ k a h1 = .ok b h := by
  cases r with
  | ok a h1 => exact ⟨a, h1, rfl, q⟩
  | er c fs h => cases q
  | st => cases q
section
variable {g : G} {ft : D → Option Bs} {bt : FT} {fe : FE} {fI : FI} {vs is : List Nat}
theorem lc_q (hft : ∀ d bs, ft d = some bs → bs.map (·.1) = is) (hvs : ∀ i ∈ is, i ∈ vs) {σ : L2.St} {H : Hp} {Q : VK} (q : TDo g (fLc fI ft bt fe vs) σ H Q) : tLc (TDi g fI) (TDg g ft) (TDt g bt) (TDe g fe) vs σ H Q := by
  obtain ⟨al, sl, hq, rh, rs, q⟩ := q
  have q : ThenO g al H (fLc fI ft bt fe vs sl hq) Q := q
  unfold fLc at q
  obtain ⟨ds, h1, e1, q⟩ := q.split
  by_cases hz : ds.length ≤ LIM
  · rw [if_pos hz] at q
    obtain ⟨ys, h2, e2, q⟩ := q.split
    refine ⟨al, sl, hq, rh, rs, ?_⟩
    rw [e1]
    intro al1 H1 J rh1 ex1 wk Dd nD
    have nDl : Dd ∉ al1 := rh1.ninN nD
    have nDH : H Dd = none := by
      cases z : H Dd with
      | none => rfl
      | some u => exact absurd nD (ex1.live Dd (by rw [z]; exact fun y => by cases y))
    refine ⟨fun i m H' => m = ds.length - i ∧ i ≤ ds.length ∧ ∃ al' hq' acc accv rest, RH g al' hq' H' ∧ Ex al1 al' H1 H' ∧ Dd ∉ al' ∧ H' Dd = some (.lst accv) ∧ Rvs g.K al' H' acc accv ∧ acc.length ≤ i ∧ lcGo ft bt fe (wipeS sl vs) (ds.drop i) hq' = .ok rest h2 ∧ ys = acc ++ rest, ?_, ?_⟩
    · refine ⟨ds.length, by simp, Nat.zero_le _, al1, h1, [], [], ys, rh1.new nD, Ex.new nD, nDl, upd_same, .nil, Nat.le_refl _, by rw [List.drop_zero]; exact e2, rfl⟩
    · rintro i m H' ⟨rfl, hi, al', hq', acc, accv, rest, rh', ex', nl, hD, ra, hal, eg, ey⟩
      by_cases hlt : i < ds.length
      · right
        have hd : ds[i]? = some ds[i] := List.getElem?_eq_getElem hlt
        obtain ⟨hgo, hy⟩ := (wk al' hq' H' i rh' ex').1 _ hd
        have edrop : ds.drop i = ds[i] :: ds.drop (i + 1) := List.drop_eq_getElem_cons hlt
        rw [edrop] at eg
        unfold lcGo at eg
        cases eft : ft ds[i] with
        | none => rw [eft] at eg; cases eg
        | some bs =>
          rw [eft] at eg
          obtain ⟨b, hb, eb, eg⟩ := R.split eg
          refine ⟨hgo, fun H3 => ∃ al' hq' acc accv rest, RH g al' hq' H3 ∧ Ex al1 al' H1 H3 ∧ Dd ∉ al' ∧ H3 Dd = some (.lst accv) ∧ Rvs g.K al' H3 acc accv ∧ acc.length ≤ i + 1 ∧ lcGo ft bt fe (wipeS sl vs) (ds.drop (i + 1)) hq' = .ok rest h2 ∧ ys = acc ++ rest, fun H3 h3 => ⟨ds.length - (i + 1), by omega, rfl, hlt, h3⟩, fun x H2 hyx => ?_⟩
          obtain ⟨rh2, ex2, rx⟩ := hy x H2 hyx
          have hD2 := ex2.keep _ _ nl (fun _ => by intro z; cases z) hD
          have ra2 := ra.mo ex2.mo
          refine ⟨al', hq', ds[i], bs, rh2, rx, eft, fun ws kw => ⟨?_, ?_⟩⟩
          · refine wipe_sets fun j hj => hvs j ?_
            rw [← kw.1] at hj
            rwa [hft _ _ eft] at hj
          · have rse : RSe g al' H2 (sets (wipeS sl vs) bs) (setsV (wipe σ vs) ws) := RSe.sets ((((rs.ex ex1).ex (ex'.trans ex2))).wipe vs) kw
            refine ⟨al', sets (wipeS sl vs) bs, hq', rh2, rse, ?_⟩
            rw [eb]
            intro al3 H3 rh3 ex3
            have hD3 := ex3.keep _ _ nl (fun _ => by intro z; cases z) hD2
            have nl3 := ex3.nin hD2 nl
            cases b with
            | false =>
              simp only [Bool.false_eq_true, if_false] at eg ⊢
              exact ⟨al3, hb, acc, accv, rest, rh3, ex'.trans (ex2.trans ex3), nl3, hD3, ra2.mo ex3.mo, by omega, eg, ey⟩
            | true =>
              simp only [if_true] at eg ⊢
              obtain ⟨y, hb2, ee, eg⟩ := R.split eg
              obtain ⟨ys2, hb3, eg2, eg⟩ := R.split eg
              cases eg
              refine ⟨al3, sets (wipeS sl vs) bs, hb, rh3, rse.ex ex3, ?_⟩
              rw [ee]
              intro al4 vy H4 rh4 ex4 ry
              have hD4 := ex4.keep _ _ nl3 (fun _ => by intro z; cases z) hD3
              have nl4 := ex4.nin hD3 nl3
              have ra4 := (ra2.mo ex3.mo).mo ex4.mo
              have mo5 : Mo al4 al4 H4 (upd H4 Dd (.lst (accv ++ [vy]))) := Mo.wr hD4 trivial
              have hl4 : accv.length = acc.length := ra4.length.symm
              refine ⟨accv, hD4, by rw [lim_eq]; omega, al4, hb2, acc ++ [y], accv ++ [vy], ys2, rh4.wr nl4 hD4 trivial, (ex'.trans (ex2.trans (ex3.trans ex4))).wr nD, nl4, upd_same, (ra4.append (.cons ry .nil)).mo mo5, ?_, eg2, by rw [ey, List.append_assoc]; rfl⟩
              rw [List.length_append]
              simp only [List.length_cons, List.length_nil]
              omega
      · left
        have hle : ds.length ≤ i := Nat.le_of_not_lt hlt
        rw [List.drop_eq_nil_of_le hle] at eg
        cases eg
        rw [List.append_nil] at ey
        subst ey
        refine ⟨(wk al' _ H' i rh' ex').2 hle, ?_⟩
        exact (q.later ex1) al' Dd H' _ rh' ex' nl nD hD ⟨_, rfl, _, rfl, ra⟩
  · rw [if_neg hz] at q
    exact False.elim q
end
/-- in every block of a comprehension -/
abbrev LAll (X : Cx) (scope : Scope) (Pr : Cx → Prop) : Prop := ∀ (s : Shared) (H : Hp) (C : Addr) (cl : List (Str × Addr)) (fp : List Addr), Pr (X.blk s H scope (compEnvC scope cl C X.env) fp)
section
variable {X : Cx} {g : G} {elt tg iter : Expr} {ifs : List Expr} {scope : Scope} {own : List (Str × Nat)} {pos spos py : Pos} {ft : D → Option Bs} {bt : FT} {fe : FE} {fI : FI} {is : List Nat}
theorem so_lc (hc : X.calm = true) (hN : X.N.Nodup) (hi : SI g X tg iter fI) (ok : BlkOk X.N X.env.scope scope own) (hg : LAll X scope fun X' => STg g X' tg is ft) (hvs : ∀ i ∈ is, i ∈ own.map (·.2))
    (ht : LAll X scope fun X' => SIf g X' ifs bt) (he : LAll X scope fun X' => SE g X' elt fe) (hs : ∀ x, foldedSetIterable iter X.env x = pure x) : SO g X (.ListComp elt [⟨tg, iter, ifs, 0⟩] scope pos) (fLc fI ft bt fe (own.map (·.2))) :=
  ⟨fun pins s σ H Q I q => (pe_lc hc hN hi ok (fun s H C cl fp => (hg s H C cl fp).pg) ht he hs).run pins s σ H Q I (lc_q (hg s H 0 [] []).ix hvs q)⟩
end
/-! ### any, all -/
/-- is there an item whose body says so? -/
def exGo (ft : D → Option Bs) (bt : FT) (body : FT) (sl : List Sl) : List D → Hq → R Bool
  | [], h => .ok false h
  | d :: ds, h => match ft d with
    | none => .st
    | some bs => (bt (sets sl bs) h).bind fun b h1 => if b = true then (body (sets sl bs) h1).bind fun r h2 => if r = true then .ok true h2 else exGo ft bt body sl ds h2 else exGo ft bt body sl ds h1
def yB (b : Bool) (fe : FE) : FT := fun sl h => (fe sl h).bind fun d h1 => match d with
  | .bl c => .ok (c == b) h1
  | _ => .st
def forB (fI : FI) (ft : D → Option Bs) (bt : FT) (body : FT) (vs : List Nat) : FT := fun sl h => (fI sl h).bind fun ds h1 => if ds.length ≤ LIM then exGo ft bt body (wipeS sl vs) ds h1 else .st
def fGx (b : Bool) (fI : FI) (ft : D → Option Bs) (bt : FT) (body : FT) (vs : List Nat) : FE := fun sl h => (forB fI ft bt body vs sl h).bind fun r h1 => .ok (.bl (if r = true then b else !b)) h1
/-- a body as it is read, by its own function; u yields at most -/
def GBok (g : G) (u : Nat) (body : GB) (fb : FT) : Prop := ∀ al hq H sl σ k fin stp r hq2, RH g al hq H → RSe g al H sl σ → fb sl hq = .ok r hq2 → u ≤ k →
  (r = true → ∀ al' H', RH g al' hq2 H' → Ex al al' H H' → stp H') → (r = false → ∀ al' H' k', RH g al' hq2 H' → Ex al al' H H' → k ≤ k' + u → fin k' H') → body fin stp k σ H
section
variable {g : G} {ft : D → Option Bs} {bt : FT} {fe : FE} {fI : FI} {vs is : List Nat} {fb : FT} {body : GB} {u : Nat}
theorem gb_yield {b : Bool} : GBok g 1 (gbYield b (TDe g fe)) (yB b fe) := by
  intro al hq H sl σ k fin stp r hq2 rh rs e hk h1 h2
  unfold yB at e
  obtain ⟨d, h3, e1, e⟩ := R.split e
  refine ⟨al, sl, hq, rh, rs, ?_⟩
  rw [e1]
  intro al1 v H1 rh1 ex1 rv
  cases rv with
  | bl c =>
    have e : R.ok (c == b) h3 = .ok r hq2 := e
    cases e
    obtain ⟨k', rfl⟩ : ∃ k', k = k' + 1 := ⟨k - 1, by omega⟩
    refine ⟨c, k', rfl, rfl, ?_⟩
    by_cases hc : c = b
    · rw [if_pos hc]
      exact h1 (by simp [hc]) al1 H1 rh1 ex1
    · rw [if_neg hc]
      exact h2 (by simp [hc]) al1 H1 k' rh1 ex1 (Nat.le_refl _)
  | _ => cases e
theorem gx_loop (hb : GBok g u body fb) (hft : ∀ d bs, ft d = some bs → bs.map (·.1) = is) (hvs : ∀ i ∈ is, i ∈ vs) {al : List Addr} {hq hq2 : Hq} {H : Hp} {sl : List Sl} {σ : L2.St} {J : It} {ds : List D} {k : Nat} {fin : Nat → Hp → Prop} {stp : Hp → Prop} {r : Bool}
    (rh : RH g al hq H) (rs : RSe g al H sl σ) (wk : Wk g al H ds J) (e : exGo ft bt fb (wipeS sl vs) ds hq = .ok r hq2) (hk : ds.length * u ≤ k)
    (h1 : r = true → ∀ al' H', RH g al' hq2 H' → Ex al al' H H' → stp H') (h2 : r = false → ∀ al' H' k', RH g al' hq2 H' → Ex al al' H H' → k ≤ k' + ds.length * u → fin k' H') :
    ∃ W : Nat → Nat → Nat → Hp → Prop, (∃ m, W 0 m k H) ∧ ∀ i m k H, W i m k H →
      (J.stop i H ∧ fin k H) ∨ (J.go i H ∧ ∃ Nx : Nat → Hp → Prop, (∀ k' H', Nx k' H' → ∃ m', m' < m ∧ W (i + 1) m' k' H') ∧ ∀ x H', J.yld i H x H' → TDg g ft x (wipe σ vs) H' fun σ2 H2 => wipe σ2 vs = wipe σ vs ∧ TDt g bt σ2 H2 fun bb H3 =>
        if bb = true then body Nx stp k σ2 H3 else Nx k H3) := by
  refine ⟨fun i m k' H' => m = ds.length - i ∧ i ≤ ds.length ∧ ∃ al' hq', RH g al' hq' H' ∧ Ex al al' H H' ∧ exGo ft bt fb (wipeS sl vs) (ds.drop i) hq' = .ok r hq2 ∧ (ds.length - i) * u ≤ k' ∧ k ≤ k' + i * u, ⟨ds.length, rfl, Nat.zero_le _, al, hq, rh, Ex.refl _ _, by rw [List.drop_zero]; exact e, hk, by omega⟩, ?_⟩
  rintro i m k' H' ⟨rfl, hi, al', hq', rh', ex', eg, hk', hkk⟩
  by_cases hlt : i < ds.length
  · right
    have hd : ds[i]? = some ds[i] := List.getElem?_eq_getElem hlt
    obtain ⟨hgo, hy⟩ := (wk al' hq' H' i rh' ex').1 _ hd
    have edrop : ds.drop i = ds[i] :: ds.drop (i + 1) := List.drop_eq_getElem_cons hlt
    rw [edrop] at eg
    unfold exGo at eg
    have hu : (ds.length - i) * u = (ds.length - (i + 1)) * u + u := by
      have z : ds.length - i = (ds.length - (i + 1)) + 1 := by omega
      rw [z, Nat.succ_mul]
    have hu2 : (i + 1) * u = i * u + u := Nat.succ_mul i u
    cases eft : ft ds[i] with
    | none => rw [eft] at eg; cases eg
    | some bs =>
      rw [eft] at eg
      obtain ⟨b, hb1, eb, eg⟩ := R.split eg
      refine ⟨hgo, fun k3 H3 => ∃ al' hq', RH g al' hq' H3 ∧ Ex al al' H H3 ∧ exGo ft bt fb (wipeS sl vs) (ds.drop (i + 1)) hq' = .ok r hq2 ∧ (ds.length - (i + 1)) * u ≤ k3 ∧ k ≤ k3 + (i + 1) * u, fun k3 H3 h3 => ⟨ds.length - (i + 1), by omega, rfl, hlt, h3⟩, fun x H2 hyx => ?_⟩
      obtain ⟨rh2, ex2, rx⟩ := hy x H2 hyx
      refine ⟨al', hq', ds[i], bs, rh2, rx, eft, fun ws kw => ⟨?_, ?_⟩⟩
      · refine wipe_sets fun j hj => hvs j ?_
        rw [← kw.1] at hj
        rwa [hft _ _ eft] at hj
      · have rse : RSe g al' H2 (sets (wipeS sl vs) bs) (setsV (wipe σ vs) ws) := RSe.sets ((rs.ex (ex'.trans ex2)).wipe vs) kw
        refine ⟨al', sets (wipeS sl vs) bs, hq', rh2, rse, ?_⟩
        rw [eb]
        intro al3 H3 rh3 ex3
        cases b with
        | false =>
          simp only [Bool.false_eq_true, if_false] at eg ⊢
          exact ⟨al3, hb1, rh3, ex'.trans (ex2.trans ex3), eg, by omega, by omega⟩
        | true =>
          simp only [if_true] at eg ⊢
          obtain ⟨y, hb2, ee, eg⟩ := R.split eg
          refine hb al3 hb1 H3 _ _ k' _ _ y hb2 rh3 (rse.ex ex3) ee (by omega) (fun hy al4 H4 rh4 ex4 => ?_) (fun hy al4 H4 k4 rh4 ex4 hk4 => ?_)
          · subst hy
            simp only [if_true] at eg
            cases eg
            exact h1 rfl al4 H4 rh4 (ex'.trans (ex2.trans (ex3.trans ex4)))
          · subst hy
            simp only [Bool.false_eq_true, if_false] at eg
            exact ⟨al4, hb2, rh4, ex'.trans (ex2.trans (ex3.trans ex4)), eg, by omega, by omega⟩
  · left
    have hle : ds.length ≤ i := Nat.le_of_not_lt hlt
    rw [List.drop_eq_nil_of_le hle] at eg
    cases eg
    have e : i = ds.length := by omega
    subst e
    exact ⟨(wk al' _ H' _ rh' ex').2 hle, h2 rfl al' H' k' rh' ex' hkk⟩
theorem gb_for (hb : GBok g 1 body fb) (hft : ∀ d bs, ft d = some bs → bs.map (·.1) = is) (hvs : ∀ i ∈ is, i ∈ vs) : GBok g LIM (gbFor (TDi g fI) (TDg g ft) (TDt g bt) body vs) (forB fI ft bt fb vs) := by
  intro al hq H sl σ k fin stp r hq2 rh rs e hk h1 h2
  unfold forB at e
  obtain ⟨ds, h3, e1, e⟩ := R.split e
  by_cases hz : ds.length ≤ LIM
  · rw [if_pos hz] at e
    refine ⟨al, sl, hq, rh, rs, ?_⟩
    rw [e1]
    intro al1 H1 J rh1 ex1 wk
    exact gx_loop hb hft hvs rh1 (rs.ex ex1) wk e (by omega) (fun hr al' H' rh' ex' => h1 hr al' H' rh' (ex1.trans ex')) (fun hr al' H' k' rh' ex' hk' => h2 hr al' H' k' rh' (ex1.trans ex') (by omega))
  · rw [if_neg hz] at e
    cases e
/-- the table of code may have changed -/
theorem Tabbed.ex {P : Addr} {al : List Addr} {H1 H2 : Hp} (h : TabG H1 P) (t : Tabbed P H1 H2) : Ex al al H1 H2 := by
  obtain ⟨ps, hp, _⟩ := h
  obtain ⟨⟨ps2, hp2, _⟩, t⟩ := t
  refine ⟨⟨[], by simp, by simp⟩, fun b xs hb => ?_, fun b o hb ht ho => ?_, fun b hb => ?_, fun b o u hb => by rw [t b (fun z => by rw [z, hp] at hb; cases hb)]; exact hb⟩
  · rw [t b (fun z => by rw [z, hp] at hb; cases hb)]; exact hb
  · rw [t b (fun z => by rw [z, hp] at ho; cases ho; exact ht ps rfl)]; exact ho
  · by_cases z : b = P
    · rw [z, hp2]; intro y; cases y
    · rw [t b z]; exact hb
theorem RH.tabbed {P : Addr} {al : List Addr} {hq : Hq} {H1 H2 : Hp} (rh : RH g al hq H1) (h : TabG H1 P) (t : Tabbed P H1 H2) : RH g al hq H2 := by
  have ex := Tabbed.ex (al := al) h t
  obtain ⟨ps, hp, _⟩ := h
  refine ⟨rh.len, rh.nd, fun n c hn => ?_, fun P' hP => ?_⟩
  · obtain ⟨a, o, h1, h2, h3⟩ := rh.at_ n c hn
    refine ⟨a, o, h1, ?_, h3.mo ex.mo⟩
    rw [t.2 a (fun z => by
      rw [z, hp] at h2
      cases h2
      rcases h3.cel with h | ⟨_, _, h, _⟩
      · exact h
      · cases h)]
    exact h2
  · by_cases z : P' = P
    · rw [z]; exact t.1
    · obtain ⟨ps', h1, h2⟩ := rh.tab P' hP
      exact ⟨ps', by rw [t.2 P' z]; exact h1, h2⟩
theorem gx_q {b : Bool} {P : Addr} (hP : P ∈ g.tabs) (hb : GBok g u body fb) (hft : ∀ d bs, ft d = some bs → bs.map (·.1) = is) (hvs : ∀ i ∈ is, i ∈ vs) {σ : L2.St} {H : Hp} {Q : VK} (q : TDe g (fGx b fI ft bt fb vs) σ H Q) :
    tGx b P (TDi g fI) (fun J k fin stp σ H2 => ∃ W : Nat → Nat → Nat → Hp → Prop, (∃ m, W 0 m k H2) ∧ ∀ i m k H, W i m k H →
      (J.stop i H ∧ fin k H) ∨ (J.go i H ∧ ∃ Nx : Nat → Hp → Prop, (∀ k' H', Nx k' H' → ∃ m', m' < m ∧ W (i + 1) m' k' H') ∧ ∀ x H', J.yld i H x H' → TDg g ft x (wipe σ vs) H' fun σ2 H2 => wipe σ2 vs = wipe σ vs ∧ TDt g bt σ2 H2 fun bb H3 =>
        if bb = true then body Nx stp k σ2 H3 else Nx k H3)) σ H Q := by
  obtain ⟨al, sl, hq, rh, rs, q⟩ := q
  have q : Then g al H (fGx b fI ft bt fb vs sl hq) Q := q
  unfold fGx forB at q
  obtain ⟨r, h2, e1, q⟩ := q.split
  obtain ⟨ds, h1, e2, e⟩ := R.split e1
  by_cases hz : ds.length ≤ LIM
  · rw [if_pos hz] at e
    refine ⟨al, sl, hq, rh, rs, ?_⟩
    rw [e2]
    intro al1 H1 J rh1 ex1 wk
    refine ⟨rh1.tab P hP, fun H2 ht => ⟨ds.length * u, ?_⟩⟩
    have exT := Tabbed.ex (al := al1) (rh1.tab P hP) ht
    refine gx_loop (r := r) hb hft hvs (rh1.tabbed (rh1.tab P hP) ht) ((rs.ex ex1).ex exT) (fun al' hq' H' i rh' ex' => wk al' hq' H' i rh' (exT.trans ex')) e (Nat.le_refl _) (fun hr al' H' rh' ex' => ?_) (fun hr al' H' k' rh' ex' _ => ?_)
    · subst hr
      exact (q.later (ex1.trans (exT.trans ex'))).ok rh' (.bl _)
    · subst hr
      exact (q.later (ex1.trans (exT.trans ex'))).ok rh' (.bl _)
  · rw [if_neg hz] at e
    cases e
end
section
variable {X : Cx} {g : G} {c P : Addr} {elt tg iter tg1 iter1 : Expr} {ifs ifs1 : List Expr} {scope : Scope} {own : List (Str × Nat)} {gpos p pos : Pos} {fI fI1 : FI} {k : Nat} {ft ft1 : D → Option Bs} {bt bt1 : FT} {fe : FE} {is is1 vs1 : List Nat}
theorem se_any1 (hP : P ∈ g.tabs) (hr : Room (k + 1) X.A) (hcalm : X.calm = true) (hN : X.N.Nodup) (hgl : Gl X "any") (hm : X.mg "any" = none) (TB : TabB X.base X.mg c P) (hcode : X.env.code = .ref c) (S : GSc scope) (ok : BlkOk X.N X.env.scope scope own) (hi : SI g X tg iter fI) (hs : ∀ v, genFold iter X.env v = pure v)
    (pg : GAll X scope k fun X' => STg g X' tg is ft) (hvs : ∀ i ∈ is, i ∈ own.map (·.2)) (pt : GAll X scope k fun X' => SIf g X' ifs bt) (pe : GAll X scope k fun X' => SE g X' elt fe) :
    SE g X (.Call (.Name "any" p) [.GeneratorExp elt [⟨tg, iter, ifs, 0⟩] scope gpos] [] pos) (fGx true fI ft bt (yB true fe) (own.map (·.2))) :=
  ⟨fun pins s σ H Q I q => (pe_any1 hr hcalm hN hgl hm TB hcode S ok hi hs (fun s H C co fp A pn rm => (pg s H C co fp A pn rm).pg) pt pe).run pins s σ H Q I (gx_q hP gb_yield (pg s H 0 .none [] X.A [] (hr.mono (Nat.le_succ k))).ix hvs q)⟩
theorem se_all1 (hP : P ∈ g.tabs) (hr : Room (k + 1) X.A) (hcalm : X.calm = true) (hN : X.N.Nodup) (hgl : Gl X "all") (hm : X.mg "all" = none) (TB : TabB X.base X.mg c P) (hcode : X.env.code = .ref c) (S : GSc scope) (ok : BlkOk X.N X.env.scope scope own) (hi : SI g X tg iter fI) (hs : ∀ v, genFold iter X.env v = pure v)
    (pg : GAll X scope k fun X' => STg g X' tg is ft) (hvs : ∀ i ∈ is, i ∈ own.map (·.2)) (pt : GAll X scope k fun X' => SIf g X' ifs bt) (pe : GAll X scope k fun X' => SE g X' elt fe) :
    SE g X (.Call (.Name "all" p) [.GeneratorExp elt [⟨tg, iter, ifs, 0⟩] scope gpos] [] pos) (fGx false fI ft bt (yB false fe) (own.map (·.2))) :=
  ⟨fun pins s σ H Q I q => (pe_all1 hr hcalm hN hgl hm TB hcode S ok hi hs (fun s H C co fp A pn rm => (pg s H C co fp A pn rm).pg) pt pe).run pins s σ H Q I (gx_q hP gb_yield (pg s H 0 .none [] X.A [] (hr.mono (Nat.le_succ k))).ix hvs q)⟩
theorem se_any2 (hP : P ∈ g.tabs) (hr : Room (k + 1) X.A) (hcalm : X.calm = true) (hN : X.N.Nodup) (hgl : Gl X "any") (hm : X.mg "any" = none) (TB : TabB X.base X.mg c P) (hcode : X.env.code = .ref c) (S : GSc scope) (ok : BlkOk X.N X.env.scope scope own) (hi : SI g X tg iter fI) (hs : ∀ v, genFold iter X.env v = pure v)
    (hv1 : ∀ j ∈ vs1, j ∈ own.map (·.2)) (pg : GAll X scope k fun X' => STg g X' tg is ft) (hvs : ∀ i ∈ is, i ∈ own.map (·.2)) (pt : GAll X scope k fun X' => SIf g X' ifs bt) (pi1 : GAll X scope k fun X' => SI g X' tg1 iter1 fI1) (hfo : GAll X scope k fun X' => ∀ v, foldedSetIterable iter1 X'.env v = pure v)
    (pg1 : GAll X scope k fun X' => STg g X' tg1 is1 ft1) (hvs1 : ∀ i ∈ is1, i ∈ vs1) (pt1 : GAll X scope k fun X' => SIf g X' ifs1 bt1) (pe : GAll X scope k fun X' => SE g X' elt fe) :
    SE g X (.Call (.Name "any" p) [.GeneratorExp elt [⟨tg, iter, ifs, 0⟩, ⟨tg1, iter1, ifs1, 0⟩] scope gpos] [] pos) (fGx true fI ft bt (forB fI1 ft1 bt1 (yB true fe) vs1) (own.map (·.2))) :=
  ⟨fun pins s σ H Q I q => (pe_any2 hr hcalm hN hgl hm TB hcode S ok hi hs hv1 (fun s H C co fp A pn rm => (pg s H C co fp A pn rm).pg) pt pi1 hfo (fun s H C co fp A pn rm => (pg1 s H C co fp A pn rm).pg) pt1 pe).run pins s σ H Q I
    (gx_q hP (gb_for gb_yield (pg1 s H 0 .none [] X.A [] (hr.mono (Nat.le_succ k))).ix hvs1) (pg s H 0 .none [] X.A [] (hr.mono (Nat.le_succ k))).ix hvs q)⟩
end
end Dy
end

section
set_option Elab.async false
set_option linter.all false
set_option maxRecDepth 100000
set_option maxHeartbeats 2000000
/-! Dy11: statements. -/
namespace Dy
open PySem PySem.Spec PyProof.Rows L2 GxR Gx

/-- how a statement ends -/
inductive RS where
  | nx (sl : List Sl) (h : Hq) | rt (d : D) (h : Hq) | bk (sl : List Sl) (h : Hq) | ct (sl : List Sl) (h : Hq) | er (c : Nat) (fs : List (Str × D)) (h : Hq) | st
abbrev FS := List Sl → Hq → RS
def R.toS {α : Type} : R α → (α → Hq → RS) → RS
  | .ok a h, f => f a h
  | .er c fs h, _ => .er c fs h
  | .st, _ => .st
def ThenS (g : G) (al : List Addr) (H : Hp) (r : RS) (E : Ends) : Prop := match r with
  | .nx sl hq' => ∀ al' σ' H', RH g al' hq' H' → Ex al al' H H' → RSe g al' H' sl σ' → E.nx σ' H'
  | .rt d hq' => ∀ al' v H', RH g al' hq' H' → Ex al al' H H' → Rv g.K al' H' d v → E.rt v H'
  | .bk sl hq' => ∀ al' σ' H', RH g al' hq' H' → Ex al al' H H' → RSe g al' H' sl σ' → E.bk σ' H'
  | .ct sl hq' => ∀ al' σ' H', RH g al' hq' H' → Ex al al' H H' → RSe g al' H' sl σ' → E.ct σ' H'
  | _ => False
def TDs (g : G) (F : FS) : TS := fun E σ H => ∃ al sl hq, RH g al hq H ∧ RSe g al H sl σ ∧ ThenS g al H (F sl hq) E
abbrev SS (g : G) (X : Cx) (st : Stmt) (F : FS) : Prop := PS X st (TDs g F)
abbrev SSs (g : G) (X : Cx) (st : List Stmt) (F : FS) : Prop := PSs X st (TDs g F)
theorem ThenS.later {g : G} {al al1 : List Addr} {H H1 : Hp} {r : RS} {E : Ends} (q : ThenS g al H r E) (e : Ex al al1 H H1) : ThenS g al1 H1 r E := by
  cases r with
  | nx sl h => exact fun al' v H' rh ex rv => q al' v H' rh (e.trans ex) rv
  | rt d h => exact fun al' v H' rh ex rv => q al' v H' rh (e.trans ex) rv
  | bk sl h => exact fun al' v H' rh ex rv => q al' v H' rh (e.trans ex) rv
  | ct sl h => exact fun al' v H' rh ex rv => q al' v H' rh (e.trans ex) rv
  | er c fs h => exact q
  | st => exact q
theorem ThenS.split {α : Type} {g : G} {al : List Addr} {H : Hp} {r : R α} {k : α → Hq → RS} {E : Ends} (q : ThenS g al H (r.toS k) E) : ∃ a h, r = .ok a h ∧ ThenS g al H (k a h) E := by
  cases r with
  | ok a h => exact ⟨a, h, rfl, q⟩
  | er c fs h => exact False.elim q
  | st => exact False.elim q
section
variable {X : Cx} {g : G} {st : Stmt} {sts rest : List Stmt} {F F2 : FS} {e tg o i : Expr} {fe fo fi : FE} {fb : FT} {pos pos' : Pos}
theorem PS.le {t t' : TS} (h : PS X st t) (k : ∀ E σ H, t' E σ H → t E σ H) : PS X st t' := ⟨fun pins s σ H E I q => h.run pins s σ H E I (k E σ H q)⟩
theorem PSs.le {t t' : TS} (h : PSs X sts t) (k : ∀ E σ H, t' E σ H → t E σ H) : PSs X sts t' := ⟨fun pins s σ H E I q => h.run pins s σ H E I (k E σ H q)⟩
def fNx : FS := fun sl h => .nx sl h
def fNever : FS := fun _ _ => .st
def fSeq (F F2 : FS) : FS := fun sl h => match F sl h with
  | .nx sl' h' => F2 sl' h'
  | r => r
theorem nx_q {E : Ends} {σ : L2.St} {H : Hp} (q : TDs g fNx E σ H) : E.nx σ H := by
  obtain ⟨al, sl, hq, rh, rs, q⟩ := q
  exact q al σ H rh (Ex.refl _ _) rs
theorem ss_pass : SS g X (.Pass pos) fNx := PS.le ps_pass fun _ _ _ q => nx_q q
theorem ss_doc {x : Str} {j : Nat} : SS g X (.Expr (.Constant (.str x) j pos) pos') fNx := PS.le ps_doc fun _ _ _ q => nx_q q
theorem ss_never : SS g X st fNever := PS.le ps_never fun E σ H q => by
  obtain ⟨al, sl, hq, rh, rs, q⟩ := q
  exact q
theorem sss_never : SSs g X sts fNever := PSs.le pss_never fun E σ H q => by
  obtain ⟨al, sl, hq, rh, rs, q⟩ := q
  exact q
theorem sss_nil : SSs g X [] fNx := PSs.le pss_nil fun _ _ _ q => nx_q q
theorem seq_q {E : Ends} {σ : L2.St} {H : Hp} (q : TDs g (fSeq F F2) E σ H) : tSeq (TDs g F) (TDs g F2) E σ H := by
  obtain ⟨al, sl, hq, rh, rs, q⟩ := q
  refine ⟨al, sl, hq, rh, rs, ?_⟩
  unfold fSeq at q
  cases hf : F sl hq with
  | nx sl' h' =>
    rw [hf] at q
    exact fun al' σ' H' rh' ex' rs' => ⟨al', sl', h', rh', rs', ThenS.later q ex'⟩
  | rt d h' => rw [hf] at q; exact q
  | bk sl' h' => rw [hf] at q; exact q
  | ct sl' h' => rw [hf] at q; exact q
  | er c fs h' => rw [hf] at q; exact q
  | st => rw [hf] at q; exact q
theorem sss_cons (h1 : SS g X st F) (h2 : SSs g X rest F2) : SSs g X (st :: rest) (fSeq F F2) := PSs.le (pss_cons h1 h2) fun _ _ _ q => seq_q q
theorem sss_one (h1 : SS g X st F) : SSs g X [st] F := pss_one h1
def fBrk : FS := fun sl h => .bk sl h
def fCnt : FS := fun sl h => .ct sl h
theorem ss_brk : SS g X (.Break pos) fBrk := PS.le ps_break fun E σ H q => by
  obtain ⟨al, sl, hq, rh, rs, q⟩ := q
  exact q al σ H rh (Ex.refl _ _) rs
theorem ss_cnt : SS g X (.Continue pos) fCnt := PS.le ps_continue fun E σ H q => by
  obtain ⟨al, sl, hq, rh, rs, q⟩ := q
  exact q al σ H rh (Ex.refl _ _) rs
def fDrop (fe : FE) : FS := fun sl h => (fe sl h).toS fun _ h1 => .nx sl h1
theorem ss_expr (he : SE g X e fe) (hs : swapsWith e none pos.line X.env = pure false) : SS g X (.Expr e pos) (fDrop fe) := PS.le (ps_expr he hs) fun E σ H q => by
  obtain ⟨al, sl, hq, rh, rs, q⟩ := q
  have q : ThenS g al H (fDrop fe sl hq) E := q
  unfold fDrop at q
  obtain ⟨d, h1, e1, q⟩ := q.split
  refine ⟨al, sl, hq, rh, rs, ?_⟩
  rw [e1]
  exact fun al1 v H1 rh1 ex1 rv => q al1 σ H1 rh1 ex1 (rs.ex ex1)
def fRet (fe : FE) : FS := fun sl h => (fe sl h).toS fun d h1 => .rt d h1
theorem ss_ret (he : SE g X e fe) : SS g X (.Return (some e) pos) (fRet fe) := PS.le (ps_ret he) fun E σ H q => by
  obtain ⟨al, sl, hq, rh, rs, q⟩ := q
  have q : ThenS g al H (fRet fe sl hq) E := q
  unfold fRet at q
  obtain ⟨d, h1, e1, q⟩ := q.split
  refine ⟨al, sl, hq, rh, rs, ?_⟩
  rw [e1]
  exact q
def fRetN : FS := fun _ h => .rt .non h
theorem ss_retN : SS g X (.Return none pos) fRetN := PS.le ps_retN fun E σ H q => by
  obtain ⟨al, sl, hq, rh, rs, q⟩ := q
  exact q al .non H rh (Ex.refl _ _) .non
def fIf (fb : FT) (F F2 : FS) : FS := fun sl h => (fb sl h).toS fun b h1 => if b = true then F sl h1 else F2 sl h1
theorem ss_if {a b : List Stmt} (hc : SB g X e fb) (ha : SSs g X a F) (hb : SSs g X b F2) : SS g X (.If e a b pos) (fIf fb F F2) := PS.le (ps_if hc ha hb) fun E σ H q => by
  obtain ⟨al, sl, hq, rh, rs, q⟩ := q
  have q : ThenS g al H (fIf fb F F2 sl hq) E := q
  unfold fIf at q
  obtain ⟨c, h1, e1, q⟩ := q.split
  refine ⟨al, sl, hq, rh, rs, ?_⟩
  rw [e1]
  intro al1 H1 rh1 ex1
  have q := q.later ex1
  cases c with
  | true => exact ⟨al1, sl, h1, rh1, rs.ex ex1, q⟩
  | false => exact ⟨al1, sl, h1, rh1, rs.ex ex1, q⟩
/-! ### assignments -/
def fSet (i : Nat) (fe : FE) : FS := fun sl h => (fe sl h).toS fun d h1 => .nx (sl.set i (.va d)) h1
theorem set_q {i : Nat} {E : Ends} {σ : L2.St} {H : Hp} (q : TDs g (fSet i fe) E σ H) : tAsg (TDe g fe) (gName i) E σ H := by
  obtain ⟨al, sl, hq, rh, rs, q⟩ := q
  have q : ThenS g al H (fSet i fe sl hq) E := q
  unfold fSet at q
  obtain ⟨d, h1, e1, q⟩ := q.split
  refine ⟨al, sl, hq, rh, rs, ?_⟩
  rw [e1]
  exact fun al1 v H1 rh1 ex1 rv => q al1 _ H1 rh1 ex1 ((rs.ex ex1).set1 rv)
theorem ss_set {i : Nat} {x : Str} (hN : X.N.Nodup) (hi : X.N[i]? = some x) (hx : Loc X.env.scope x) (he : SE g X e fe) (hs : swapsWith e (some (.Name x pos')) pos.line X.env = pure false) (hf : X.fn x = true ∨ X.env.scope.names.lookup x = some .local) :
    SS g X (.Assign [.Name x pos'] e pos) (fSet i fe) := PS.le (ps_set hN hi hx he hs hf) fun _ _ _ q => set_q q
def fAsg (fe : FE) (ft : D → Option Bs) : FS := fun sl h => (fe sl h).toS fun d h1 => match ft d with
  | some bs => .nx (sets sl bs) h1
  | none => .st
theorem ss_asg {is : List Nat} {ft : D → Option Bs} (he : SE g X e fe) (hg : STg g X tg is ft) (hs : swapsWithSole [tg] e pos.line X.env = pure false) (hw : swappedStores [tg] e X.env = pure none)
    (h1 : (assignEach [tg] X.env).map (·.2) = [assign tg X.env]) : SS g X (.Assign [tg] e pos) (fAsg fe ft) := PS.le (ps_asg he hg.pg hs hw h1) fun E σ H q => by
  obtain ⟨al, sl, hq, rh, rs, q⟩ := q
  have q : ThenS g al H (fAsg fe ft sl hq) E := q
  unfold fAsg at q
  obtain ⟨d, h1, e1, q⟩ := q.split
  refine ⟨al, sl, hq, rh, rs, ?_⟩
  rw [e1]
  intro al1 v H1 rh1 ex1 rv
  cases e2 : ft d with
  | none => simp only [e2] at q; exact False.elim q
  | some bs =>
    simp only [e2] at q
    exact ⟨al1, h1, d, bs, rh1, rv, e2, fun ws kw => q al1 _ H1 rh1 ex1 ((rs.ex ex1).sets kw)⟩
/-- a new list or dict, frozen or a cell, once it has been made: over the statement that stores it -/
def FrzS (N : L2.St → Hp → Prop) : L2.St → Hp → Prop := fun σ H => N σ H ∨ ∃ p u, H p = some u ∧ Mut (some u) ∧ ∀ ob, N σ (upd H p (.frz ob u))
theorem PS.frz {t : TS} (h : PS X st t) : PS X st (fun E σ H => t { E with nx := FrzS E.nx } σ H) := by
  refine ⟨fun pins s σ H E I q => thn (h.run pins s σ H _ I q) fun f s1 sp => ?_⟩
  cases f with
  | next =>
    obtain ⟨σ', H', I', q'⟩ := sp
    rcases q' with q' | ⟨p, u, hp, mu, q'⟩
    · exact ⟨σ', H', I', q'⟩
    · obtain ⟨od, I2⟩ := I'.lock hp mu
      exact ⟨σ', _, I2, q' od⟩
  | brk => exact sp
  | cont => exact sp
  | ret u => exact sp
/-- x = [..], on one line: the model hands the list over unseen -/
theorem setO_q {i : Nat} {E : Ends} {σ : L2.St} {H : Hp} (q : TDs g (fSet i fe) E σ H) : tAsg (TDo g fe) (gName i) { E with nx := FrzS E.nx } σ H := by
  obtain ⟨al, sl, hq, rh, rs, q⟩ := q
  have q : ThenS g al H (fSet i fe sl hq) E := q
  unfold fSet at q
  obtain ⟨d, h1, e1, q⟩ := q.split
  refine ⟨al, sl, hq, rh, rs, ?_⟩
  rw [e1]
  intro al1 p H1 u rh1 ex1 np hn hp ro
  exact .inr ⟨p, u, hp, ro.mut, fun ob => q al1 _ _ (rh1.wr np hp ro.cel) (ex1.wr hn) ((rs.ex (ex1.wr hn)).set1 (ro.frz np hp))⟩
theorem setC_q {i : Nat} {E : Ends} {σ : L2.St} {H : Hp} (q : TDs g (fSet i (newCell fe)) E σ H) : tAsg (TDo g fe) (gName i) E σ H := by
  obtain ⟨al, sl, hq, rh, rs, q⟩ := q
  have q : ThenS g al H (fSet i (newCell fe) sl hq) E := q
  unfold fSet newCell at q
  obtain ⟨d1, h2, e1, q⟩ := q.split
  obtain ⟨d, h1, e1, e3⟩ := R.split e1
  refine ⟨al, sl, hq, rh, rs, ?_⟩
  rw [e1]
  intro al1 p H1 u rh1 ex1 np hn hp ro
  obtain ⟨c, ec, rc⟩ := ro
  simp only [ec] at e3
  cases e3
  exact q (al1 ++ [p]) _ H1 (rh1.snoc np hp rc.cel ((rc.mo (Mo.more hp rc.cel)).rc)) (ex1.more hn) ((rs.ex (ex1.more hn)).set1 (.ref (by rw [← rh1.len, List.getElem?_append_right (Nat.le_refl _)]; simp)))
theorem ss_setC {i : Nat} {x : Str} (hN : X.N.Nodup) (hi : X.N[i]? = some x) (hx : Loc X.env.scope x) (he : SO g X e fe) (hs : swapsWith e (some (.Name x pos')) pos.line X.env = pure false) (hf : X.fn x = true ∨ X.env.scope.names.lookup x = some .local) :
    SS g X (.Assign [.Name x pos'] e pos) (fSet i (newCell fe)) := PS.le (ps_set hN hi hx he hs hf) fun _ _ _ q => setC_q q
section
variable {elt iter : Expr} {ifs : List Expr} {scope : Scope} {own : List (Str × Nat)} {py lpos spos : Pos} {ft : D → Option Bs} {bt : FT} {fI : FI} {is : List Nat}
theorem tAsg_le {t t' : TE} {gg : TG} (h : ∀ σ H Q, t' σ H Q → t σ H Q) {E : Ends} {σ : L2.St} {H : Hp} (q : tAsg t' gg E σ H) : tAsg t gg E σ H := h _ _ _ q
theorem ss_setLc {i : Nat} {y : Str} (hc : X.calm = true) (hN : X.N.Nodup) (hy : X.N[i]? = some y) (hyl : X.env.scope.names.lookup y = some .local)
    (hsw : swapsWith (.ListComp elt [⟨tg, iter, ifs, 0⟩] scope lpos) (some (.Name y py)) spos.line X.env = pure true) (hi : SI g X tg iter fI) (ok : BlkOk X.N X.env.scope scope own) (hg : LAll X scope fun X' => STg g X' tg is ft) (hvs : ∀ i ∈ is, i ∈ own.map (·.2))
    (ht : LAll X scope fun X' => SIf g X' ifs bt) (he : LAll X scope fun X' => SE g X' elt fe) (hs : ∀ x, foldedSetIterable iter X.env x = pure x) :
    SS g X (.Assign [.Name y py] (.ListComp elt [⟨tg, iter, ifs, 0⟩] scope lpos) spos) (fSet i (fLc fI ft bt fe (own.map (·.2)))) :=
  ⟨fun pins s σ H E I q => (PS.frz (ps_setLc hc hN hy hyl hsw hi ok (fun s H C cl fp => (hg s H C cl fp).pg) ht he hs)).run pins s σ H E I (tAsg_le (fun _ _ _ q => lc_q (hg s H 0 [] []).ix hvs q) (setO_q q))⟩
theorem ss_setLcC {i : Nat} {y : Str} (hc : X.calm = true) (hN : X.N.Nodup) (hy : X.N[i]? = some y) (hyl : X.env.scope.names.lookup y = some .local)
    (hsw : swapsWith (.ListComp elt [⟨tg, iter, ifs, 0⟩] scope lpos) (some (.Name y py)) spos.line X.env = pure true) (hi : SI g X tg iter fI) (ok : BlkOk X.N X.env.scope scope own) (hg : LAll X scope fun X' => STg g X' tg is ft) (hvs : ∀ i ∈ is, i ∈ own.map (·.2))
    (ht : LAll X scope fun X' => SIf g X' ifs bt) (he : LAll X scope fun X' => SE g X' elt fe) (hs : ∀ x, foldedSetIterable iter X.env x = pure x) :
    SS g X (.Assign [.Name y py] (.ListComp elt [⟨tg, iter, ifs, 0⟩] scope lpos) spos) (fSet i (newCell (fLc fI ft bt fe (own.map (·.2))))) :=
  ⟨fun pins s σ H E I q => (ps_setLc hc hN hy hyl hsw hi ok (fun s H C cl fp => (hg s H C cl fp).pg) ht he hs).run pins s σ H E I (tAsg_le (fun _ _ _ q => lc_q (hg s H 0 [] []).ix hvs q) (setC_q q))⟩
end
/-! ### for -/
def forGo (ft : D → Option Bs) (F : FS) : List D → FS
  | [], sl, h => .nx sl h
  | d :: ds, sl, h => match ft d with
    | none => .st
    | some bs => match F (sets sl bs) h with
      | .nx sl' h' => forGo ft F ds sl' h'
      | .ct sl' h' => forGo ft F ds sl' h'
      | .bk sl' h' => .nx sl' h'
      | r => r
def fFor (fI : FI) (ft : D → Option Bs) (F : FS) : FS := fun sl h => (fI sl h).toS fun ds h1 => forGo ft F ds sl h1
theorem for_q {fI : FI} {ft : D → Option Bs} {E : Ends} {σ : L2.St} {H : Hp} (q : TDs g (fFor fI ft F) E σ H) : tFor (TDi g fI) (TDg g ft) (TDs g F) E σ H := by
  obtain ⟨al, sl, hq, rh, rs, q⟩ := q
  have q : ThenS g al H (fFor fI ft F sl hq) E := q
  unfold fFor at q
  obtain ⟨ds, h1, e1, q⟩ := q.split
  refine ⟨al, sl, hq, rh, rs, ?_⟩
  rw [e1]
  intro al1 H1 J rh1 ex1 wk
  have q := q.later ex1
  refine ⟨fun i m σ' H' => m = ds.length - i ∧ i ≤ ds.length ∧ ∃ al' sl' hq', RH g al' hq' H' ∧ Ex al1 al' H1 H' ∧ RSe g al' H' sl' σ' ∧ ThenS g al' H' (forGo ft F (ds.drop i) sl' hq') E,
    ⟨ds.length, rfl, Nat.zero_le _, al1, sl, h1, rh1, Ex.refl _ _, rs.ex ex1, by rw [List.drop_zero]; exact q⟩, ?_⟩
  rintro i m σ' H' ⟨rfl, hi, al', sl', hq', rh', ex', rs', q⟩
  by_cases hlt : i < ds.length
  · right
    have hd : ds[i]? = some ds[i] := List.getElem?_eq_getElem hlt
    obtain ⟨hgo, hy⟩ := (wk al' hq' H' i rh' ex').1 _ hd
    have edrop : ds.drop i = ds[i] :: ds.drop (i + 1) := List.drop_eq_getElem_cons hlt
    rw [edrop] at q
    unfold forGo at q
    refine ⟨hgo, fun σ2 H2 => ∃ al' sl' hq', RH g al' hq' H2 ∧ Ex al1 al' H1 H2 ∧ RSe g al' H2 sl' σ2 ∧ ThenS g al' H2 (forGo ft F (ds.drop (i + 1)) sl' hq') E, fun σ2 H2 h => ⟨ds.length - (i + 1), by omega, rfl, hlt, h⟩, fun x H2 hyx => ?_⟩
    obtain ⟨rh2, ex2, rx⟩ := hy x H2 hyx
    cases eft : ft ds[i] with
    | none => simp only [eft] at q; exact False.elim q
    | some bs =>
      simp only [eft] at q
      have q := q.later ex2
      refine ⟨al', hq', ds[i], bs, rh2, rx, eft, fun ws kw => ⟨al', sets sl' bs, hq', rh2, (rs'.ex ex2).sets kw, ?_⟩⟩
      cases hF : F (sets sl' bs) hq' with
      | nx sl3 h3 =>
        simp only [hF] at q
        exact fun al3 σ3 H3 rh3 ex3 rs3 => ⟨al3, sl3, h3, rh3, ex'.trans (ex2.trans ex3), rs3, q.later ex3⟩
      | ct sl3 h3 =>
        simp only [hF] at q
        exact fun al3 σ3 H3 rh3 ex3 rs3 => ⟨al3, sl3, h3, rh3, ex'.trans (ex2.trans ex3), rs3, q.later ex3⟩
      | bk sl3 h3 =>
        simp only [hF] at q
        exact q
      | rt d h3 =>
        simp only [hF] at q
        exact q
      | er c fs h3 => simp only [hF] at q; exact False.elim q
      | st => simp only [hF] at q; exact False.elim q
  · left
    have hle : ds.length ≤ i := Nat.le_of_not_lt hlt
    rw [List.drop_eq_nil_of_le hle] at q
    exact ⟨(wk al' hq' H' i rh' ex').2 hle, q al' σ' H' rh' (Ex.refl _ _) rs'⟩
theorem ss_for {iter : Expr} {body : List Stmt} {is : List Nat} {fI : FI} {ft : D → Option Bs} (hp : PassesOwn (model X.prog X.w) X.A X.env X.xe) (hc : X.calm = true) (hi : SI g X tg iter fI) (hg : STg g X tg is ft) (hb : SSs g X body F)
    (hs : ∀ x, foldedSetIterable iter X.env x = pure x) : SS g X (.For tg iter body [] pos) (fFor fI ft F) := PS.le (ps_for hp hc hi hg.pg hb hs) fun _ _ _ q => for_q q
/-! ### x += a -/
def OpA (g : G) (o : D → D → Hq → R D) (t : TIp) : Prop := ∀ al hq H x y vx vy Q, RH g al hq H → Rv g.K al H x vx → Rv g.K al H y vy → Then g al H (o x y hq) Q → t vx vy H Q
def fAug (i : Nat) (o : D → D → Hq → R D) (fe : FE) : FS := fun sl h => match sl[i]? with
  | some (.va x) => (fe sl h).toS fun y h1 => (o x y h1).toS fun d h2 => .nx (sl.set i (.va d)) h2
  | _ => .st
theorem aug_q {i : Nat} {o : D → D → Hq → R D} {ti : TIp} (ho : OpA g o ti) {E : Ends} {σ : L2.St} {H : Hp} (q : TDs g (fAug i o fe) E σ H) : tAug i (TDe g fe) ti E σ H := by
  obtain ⟨al, sl, hq, rh, rs, q⟩ := q
  have q : ThenS g al H (fAug i o fe sl hq) E := q
  unfold fAug at q
  cases hs : sl[i]? with
  | none => simp only [hs] at q; exact False.elim q
  | some z =>
    cases z with
    | va x =>
      simp only [hs] at q
      obtain ⟨y, h1, e1, q⟩ := q.split
      obtain ⟨d, h2, e2, q⟩ := q.split
      obtain ⟨v, hv, rv⟩ := rs.va i x hs
      refine ⟨v, hv, al, sl, hq, rh, rs, ?_⟩
      rw [e1]
      intro al1 vy H1 rh1 ex1 ry
      have q := q.later ex1
      refine ho al1 h1 H1 x y v vy _ rh1 (rv.mo ex1.mo) ry ?_
      rw [e2]
      intro al2 vd H2 rh2 ex2 rd
      exact q al2 _ H2 rh2 ex2 (((rs.ex ex1).ex ex2).set1 rd)
    | _ => simp only [hs] at q; exact False.elim q
theorem ss_aug {i : Nat} {x : Str} {op : Operator} {o : D → D → Hq → R D} {ti : TIp} (hN : X.N.Nodup) (hi : X.N[i]? = some x) (hx : Loc X.env.scope x) (he : SE g X e fe) (hp : PIp X op ti) (ho : OpA g o ti) (hf : X.fn x = true ∨ X.env.scope.names.lookup x = some .local) :
    SS g X (.AugAssign (.Name x pos') op e pos) (fAug i o fe) := PS.le (ps_aug hN hi hx he hp hf) fun _ _ _ q => aug_q ho q
end
end Dy
end

section
set_option Elab.async false
set_option linter.all false
set_option maxRecDepth 100000
set_option maxHeartbeats 2000000
/-! Dy12: cells written; methods of built-in types. -/
namespace Dy
open PySem PySem.Spec PyProof.Rows L2 GxR Gx

section
variable {g : G} {al : List Addr} {hq : Hq} {H : Hp}
theorem Ex.put {a : Addr} {o o' : HO} (ha : a ∈ al) (h : H a = some o) (hc : Cel0 o) : Ex al al H (upd H a o') := by
  refine ⟨⟨[], by simp, by simp⟩, fun b xs hb => ?_, fun b u hb ht hu => ?_, fun b hb => ?_, fun b ob u hb => by rw [upd_ne (fun z => by rw [z, h] at hb; cases hb; exact hc)]; exact hb⟩
  · rw [upd_ne (fun z => by rw [z, h] at hb; cases hb; exact hc)]; exact hb
  · rw [upd_ne (fun z => hb (by rw [z]; exact ha))]; exact hu
  · by_cases z : b = a
    · rw [z, upd_same]; intro y; cases y
    · rw [upd_ne z]; exact hb
theorem RH.put {n : Nat} {a : Addr} {o o' : HO} {c' : C} (r : RH g al hq H) (hn : al[n]? = some a) (h : H a = some o) (hc : Cel0 o) (rc : RC g al (upd H a o') c' o') : RH g al (hq.set n c') (upd H a o') := by
  refine ⟨by rw [List.length_set]; exact r.len, r.nd, fun i c hi => ?_, fun P hP => ?_⟩
  · by_cases e : n = i
    · subst e
      by_cases hl : n < hq.length
      · rw [List.getElem?_set_self hl] at hi
        cases hi
        exact ⟨a, o', hn, upd_same, rc⟩
      · rw [List.getElem?_eq_none (by simpa using hl)] at hi; cases hi
    · rw [List.getElem?_set_ne e] at hi
      obtain ⟨b, u, h1, h2, h3⟩ := r.at_ i c hi
      have ne : b ≠ a := fun z => by
        subst z
        have l2 := (List.getElem?_eq_some_iff.mp hn)
        obtain ⟨l3, _⟩ := l2
        exact e ((List.getElem?_inj l3 r.nd).mp (hn.trans h1.symm))
      exact ⟨b, u, h1, by rw [upd_ne ne]; exact h2, h3.mo (Mo.wr h hc)⟩
  · obtain ⟨ps, h1, h2⟩ := r.tab P hP
    exact ⟨ps, by rw [upd_ne (fun z => by rw [z, h] at h1; cases h1; exact hc)]; exact h1, h2⟩
/-- a cell that may be written -/
theorem cell_wr {n : Nat} {c : C} {v : V} (rh : RH g al hq H) (r : Rv g.K al H (.ref n) v) (h : hq[n]? = some c) : ∃ a o, v = .ref a ∧ al[n]? = some a ∧ a ∈ al ∧ H a = some o ∧ RC g al H c o := by
  cases r with
  | @ref _ a e =>
    obtain ⟨a', o, e1, e2, e3⟩ := rh.at_ n c h
    rw [e] at e1; cases e1
    exact ⟨a, o, rfl, e, List.mem_of_getElem? e, e2, e3⟩
/-- its new contents -/
theorem cell_go {n : Nat} {a : Addr} {o o' : HO} {c' : C} {d : D} {v : V} {Q : VK} (rh : RH g al hq H) (hn : al[n]? = some a) (h : H a = some o) (hc : Cel0 o) (rc : Mo al al H (upd H a o') → RC0 g al (upd H a o') c' o') (rd : Rv g.K al H d v)
    (q : Then g al H (.ok d (hq.set n c')) Q) : Q v (upd H a o') :=
  q al v _ (rh.put hn h hc (rc (Mo.wr h hc)).rc) (Ex.put (List.mem_of_getElem? hn) h hc) (rd.mo (Mo.wr h hc))
end

/-! ### methods of built-in types -/
inductive BT where | str | list | tup | dict
def BT.nm : BT → String
  | .str => "str"
  | .list => "list"
  | .tup => "tuple"
  | .dict => "dict"
def BT.ok : BT → D → Hq → Bool
  | .str, .str _, _ => true
  | .list, .lst _, _ => true
  | .tup, .kt _, _ => true
  | .list, .ref n, h => match h[n]? with
    | some (.lst _) => true
    | _ => false
  | _, _, _ => false
theorem BT.ty {T : BT} {g : G} {al : List Addr} {hq : Hq} {H : Hp} {d : D} {v : V} (rh : RH g al hq H) (r : Rv g.K al H d v) (h : T.ok d hq = true) : tyV g.K T.nm v H := by
  cases T with
  | str => cases r <;> first | rfl | cases h
  | list =>
    cases r with
    | lst ha ra => exact .inl ⟨rfl, _, ha.sq⟩
    | @ref n a e =>
      have h : (match hq[n]? with
        | some (.lst _) => true
        | _ => false) = true := h
      cases z : hq[n]? with
      | none => rw [z] at h; cases h
      | some c =>
        rw [z] at h
        cases c with
        | lst ds =>
          obtain ⟨a', o, ev, _, _, e2, e3⟩ := cell_wr rh (.ref e) z
          cases ev
          obtain ⟨w, rfl, rw'⟩ := e3
          exact .inl ⟨rfl, w, .inl (.inl e2)⟩
        | _ => cases h
    | _ => cases h
  | tup =>
    cases r with
    | kt ha ra =>
      obtain ⟨o, its, n, h1, h2, h3, h4, h5, h6⟩ := ha
      exact .inr (.inl ⟨rfl, o, h1, h2, h6⟩)
    | _ => cases h
  | dict => cases r <;> cases h
def OpM (g : G) (o : D → List D → Hq → R D) (r : V → List V → Hp → VK → Prop) : Prop := ∀ al hq H x xs vx vxs Q, RH g al hq H → Rv g.K al H x vx → Rvs g.K al H xs vxs → Then g al H (o x xs hq) Q → r vx vxs H Q
def OpMO (g : G) (o : D → List D → Hq → R D) (r : V → List V → Hp → VK → Prop) : Prop := ∀ al hq H x xs vx vxs Q, RH g al hq H → Rv g.K al H x vx → Rvs g.K al H xs vxs → ThenO g al H (o x xs hq) Q → r vx vxs H Q
def fBm (T : BT) (o : D → List D → Hq → R D) (fo : FE) (fs : FI) : FE := fun sl h => (fo sl h).bind fun x h1 => if T.ok x h1 = true then (fs sl h1).bind fun xs h2 => o x xs h2 else .st
section
variable {X : Cx} {g : G} {o e : Expr} {es : List Expr} {fo : FE} {fs : FI} {name : Str} {apos cpos : Pos} {T : BT} {id : String} {r : V → List V → Hp → VK → Prop} {op : D → List D → Hq → R D}
theorem bm_q (ho : OpM g op r) {σ : L2.St} {H : Hp} {Q : VK} (q : TDe g (fBm T op fo fs) σ H Q) : tBM g.K T.nm r (TDe g fo) (TDa g fs) σ H Q := by
  obtain ⟨al, sl, hq, rh, rs, q⟩ := q
  have q : Then g al H (fBm T op fo fs sl hq) Q := q
  unfold fBm at q
  obtain ⟨x, h1, e1, q⟩ := q.split
  refine ⟨al, sl, hq, rh, rs, ?_⟩
  rw [e1]
  intro al1 vx H1 rh1 ex1 rx
  have q := q.later ex1
  by_cases hT : T.ok x h1 = true
  · rw [if_pos hT] at q
    obtain ⟨xs, h2, e2, q⟩ := q.split
    refine ⟨BT.ty rh1 rx hT, TDa.split rh1 (rs.ex ex1) e2 fun al2 vs H2 rh2 ex2 rvs => ?_⟩
    exact ho al2 h2 H2 x xs vx vs Q rh2 (rx.mo ex2.mo) rvs (q.later ex2)
  · rw [if_neg hT] at q
    exact False.elim q
theorem bmO_q (ho : OpMO g op r) {σ : L2.St} {H : Hp} {Q : VK} (q : TDo g (fBm T op fo fs) σ H Q) : tBM g.K T.nm r (TDe g fo) (TDa g fs) σ H Q := by
  obtain ⟨al, sl, hq, rh, rs, q⟩ := q
  have q : ThenO g al H (fBm T op fo fs sl hq) Q := q
  unfold fBm at q
  obtain ⟨x, h1, e1, q⟩ := q.split
  refine ⟨al, sl, hq, rh, rs, ?_⟩
  rw [e1]
  intro al1 vx H1 rh1 ex1 rx
  have q := q.later ex1
  by_cases hT : T.ok x h1 = true
  · rw [if_pos hT] at q
    obtain ⟨xs, h2, e2, q⟩ := q.split
    refine ⟨BT.ty rh1 rx hT, TDa.split rh1 (rs.ex ex1) e2 fun al2 vs H2 rh2 ex2 rvs => ?_⟩
    exact ho al2 h2 H2 x xs vx vs Q rh2 (rx.mo ex2.mo) rvs (q.later ex2)
  · rw [if_neg hT] at q
    exact False.elim q
theorem se_bm (hK : X.K = g.K) (pa : PlainAttrs T.nm) (slot : Slot T.nm name id) (hty : typeOf (.builtin id) = pure (.type "method_descriptor")) (hm : MtR X id r) (ho : OpM g op r) (h : SE g X o fo) (ha : SA g X (e :: es) fs)
    (hbase : attributeBase o name X.env (eval o X.env) = eval o X.env)
    (hfew : ((backTo cpos (starEach (e :: es) X.env)).all (fun x => !x.1) && (backToKw cpos (keywordEach [] X.env)).all (fun x => x.1.isSome)
      && decide ((e :: es).length + ([] : List Keyword).length + (if ([] : List Keyword).isEmpty then 0 else 1) < 30)) = true)
    (hline : (apos.endLine == cpos.line) = true) (hs : starEach (e :: es) X.env = (false, eval e X.env) :: starEach es X.env) (hplain : (backTo cpos (starEach es X.env)).any (·.1) = false) :
    SE g X (.Call (.Attribute o name apos) (e :: es) [] cpos) (fBm T op fo fs) :=
  PE.le (pe_bm pa slot hty hm h ha hbase hfew hline hs hplain) fun _ _ _ q => by rw [hK]; exact bm_q ho q
theorem so_bm (hK : X.K = g.K) (pa : PlainAttrs T.nm) (slot : Slot T.nm name id) (hty : typeOf (.builtin id) = pure (.type "method_descriptor")) (hm : MtR X id r) (ho : OpMO g op r) (h : SE g X o fo) (ha : SA g X (e :: es) fs)
    (hbase : attributeBase o name X.env (eval o X.env) = eval o X.env)
    (hfew : ((backTo cpos (starEach (e :: es) X.env)).all (fun x => !x.1) && (backToKw cpos (keywordEach [] X.env)).all (fun x => x.1.isSome)
      && decide ((e :: es).length + ([] : List Keyword).length + (if ([] : List Keyword).isEmpty then 0 else 1) < 30)) = true)
    (hline : (apos.endLine == cpos.line) = true) (hs : starEach (e :: es) X.env = (false, eval e X.env) :: starEach es X.env) (hplain : (backTo cpos (starEach es X.env)).any (·.1) = false) :
    SO g X (.Call (.Attribute o name apos) (e :: es) [] cpos) (fBm T op fo fs) :=
  PE.le (pe_bm pa slot hty hm h ha hbase hfew hline hs hplain) fun _ _ _ q => by rw [hK]; exact bmO_q ho q
end
section
variable {X : Cx} {g : G}
/-- list.append -/
def opAppend (x : D) (xs : List D) (h : Hq) : R D := match x, xs with
  | .ref n, [y] => match h[n]? with
    | some (.lst ds) => if ds.length < LIM then .ok .non (h.set n (.lst (ds ++ [y]))) else .st
    | _ => .st
  | _, _ => .st
theorem om_append : OpM g opAppend rAppend := by
  intro al hq H x xs vx vxs Q rh rx rxs q
  unfold opAppend at q
  split at q
  · rename_i n y
    cases z : hq[n]? with
    | none => simp only [z] at q; exact False.elim q
    | some c =>
      cases c with
      | lst ds =>
        simp only [z] at q
        by_cases hl : ds.length < LIM
        · rw [if_pos hl] at q
          obtain ⟨a, o, rfl, hn, ha, hH, rc⟩ := cell_wr rh rx z
          obtain ⟨w, rfl, rw'⟩ := rc
          cases rxs with
          | cons ry t =>
            cases t
            refine ⟨a, w, _, rfl, rfl, hH, by rw [lim_eq, ← rw'.length]; exact hl, ?_⟩
            exact cell_go (c' := .lst (ds ++ [y])) rh hn hH trivial (fun m => ⟨_, rfl, (rw'.mo m).append (.cons (ry.mo m) .nil)⟩) .non q
        · rw [if_neg hl] at q; exact False.elim q
      | _ => simp only [z] at q; exact False.elim q
  · exact False.elim q
/-- list.pop(i) -/
def opPopAt (x : D) (xs : List D) (h : Hq) : R D := match x, xs with
  | .ref n, [.int i] => match h[n]? with
    | some (.lst ds) => if -(2 ^ 63) ≤ i ∧ i < 2 ^ 63 then (match seqIndex? i ds.length with
      | some k => (match ds[k]? with
        | some y => .ok y (h.set n (.lst (ds.eraseIdx k)))
        | none => .st)
      | none => .st) else .st
    | _ => .st
  | _, _ => .st
theorem om_popAt : OpM g opPopAt rPopAt := by
  intro al hq H x xs vx vxs Q rh rx rxs q
  unfold opPopAt at q
  split at q
  · rename_i n i
    cases z : hq[n]? with
    | none => simp only [z] at q; exact False.elim q
    | some c =>
      cases c with
      | lst ds =>
        simp only [z] at q
        by_cases hl : -(2 ^ 63) ≤ i ∧ i < 2 ^ 63
        · rw [if_pos hl] at q
          obtain ⟨a, o, rfl, hn, ha, hH, rc⟩ := cell_wr rh rx z
          obtain ⟨w, rfl, rw'⟩ := rc
          cases rxs with
          | cons ry t =>
            cases t
            cases ry
            cases e1 : seqIndex? i ds.length with
            | none => simp only [e1] at q; exact False.elim q
            | some k =>
              simp only [e1] at q
              cases e2 : ds[k]? with
              | none => simp only [e2] at q; exact False.elim q
              | some y =>
                simp only [e2] at q
                obtain ⟨v, hv, rv⟩ := rw'.get e2
                refine ⟨a, w, i, k, v, rfl, rfl, hH, hl.1, hl.2, by rw [← rw'.length]; exact e1, hv, ?_⟩
                exact cell_go (c' := .lst (ds.eraseIdx k)) rh hn hH trivial (fun m => ⟨_, rfl, (rw'.mo m).eraseIdx k⟩) rv q
        · rw [if_neg hl] at q; exact False.elim q
      | _ => simp only [z] at q; exact False.elim q
  · exact False.elim q
end
end Dy
end

section
set_option Elab.async false
set_option linter.all false
set_option maxRecDepth 100000
set_option maxHeartbeats 2000000
/-! Dy13: stores into fields, dicts, lists; lists that grow; built-in functions. -/
namespace Dy
open PySem PySem.Spec PyProof.Rows L2 GxR Gx

/-! ### o.f = value -/
def putFd (f : Str) (d : D) : List (Str × D) → List (Str × D)
  | [] => [(f, d)]
  | (g, x) :: r => if g = f then (g, d) :: r else (g, x) :: putFd f d r
theorem Rk.putF {K : PySem.W.Frag} {al : List Addr} {H : Hp} {f : Str} {d : D} {v : V} (rv : Rv K al H d v) : ∀ {k : List (Str × D)} {w : List (Str × V)}, Rk K al H k w → Rk K al H (putFd f d k) (L2.putF f v w)
  | [], w, h => by cases h.nil_inv; exact .cons rfl rv .nil
  | (p1, p2) :: r, w, h => by
    obtain ⟨⟨q1, q2⟩, t, rfl, e, v', h'⟩ := h.inv
    have e : p1 = q1 := e
    subst e
    show Rk K al H (if p1 = f then (p1, d) :: r else (p1, p2) :: putFd f d r) (if p1 = f then (p1, v) :: t else (p1, q2) :: L2.putF f v t)
    split
    · exact .cons rfl rv h'
    · exact .cons rfl v' (Rk.putF rv h')
def fFldS (c : Nat) (f : Str) (fo fv : FE) : FS := fun sl h => (fv sl h).toS fun y h1 => (fo sl h1).toS fun x h2 => match x with
  | .ref n => (match h2[n]? with
    | some (.ins c' fs) => if c' = c ∧ fs.length < 1000 then .nx sl (h2.set n (.ins c' (putFd f y fs))) else .st
    | _ => .st)
  | _ => .st
section
variable {X : Cx} {g : G} {o i e value : Expr} {fo fv fi : FE} {pos pos' : Pos}
theorem ss_fld {f : Str} {ci : Nat} {Ca : Addr} (hK : X.K = g.K) (hc : g.cls[ci]? = some Ca) (cl : Cls g.K Ca) (na : NoAttr g.K Ca f) (ha : SE g X o fo) (hv : SE g X value fv) (hs : swapsWith value (some (.Attribute o f pos')) pos.line X.env = pure false) :
    SS g X (.Assign [.Attribute o f pos'] value pos) (fFldS ci f fo fv) := PS.le (ps_fld ha hv hs) fun E σ H q => by
  obtain ⟨al, sl, hq, rh, rs, q⟩ := q
  replace q : ThenS g al H (fFldS ci f fo fv sl hq) E := q
  unfold fFldS at q
  obtain ⟨y, h1, e1, q⟩ := q.split
  obtain ⟨x, h2, e2, q⟩ := q.split
  refine ⟨al, sl, hq, rh, rs, ?_⟩
  rw [e1]
  intro al1 vy H1 rh1 ex1 ry
  refine ⟨al1, sl, h1, rh1, rs.ex ex1, ?_⟩
  rw [e2]
  intro al2 vx H2 rh2 ex2 rx
  replace q := (q.later ex1).later ex2
  cases x with
  | ref n =>
    cases z : h2[n]? with
    | none => simp only [z] at q; exact False.elim q
    | some cc =>
      cases cc with
      | ins c' fs =>
        simp only [z] at q
        by_cases hcc : c' = ci ∧ fs.length < 1000
        · rw [if_pos hcc] at q
          have hl := hcc.2
          obtain ⟨a', Ca', dx, w, rfl, hal, hc', ha', rw'⟩ := cell_ins rh2 rx z
          rw [hcc.1, hc] at hc'; cases hc'
          refine ⟨a', Ca, dx, w, rfl, ha', by rw [hK]; exact cl, by rw [hK]; exact na, by rw [← rw'.length]; exact hl, ?_⟩
          have m : Mo al2 al2 H2 (upd H2 a' (.ins Ca dx (L2.putF f vy w))) := Mo.wr ha' trivial
          refine q al2 σ _ (rh2.put hal ha' trivial (RC0.rc (c := .ins c' (putFd f y fs)) ⟨Ca, dx, _, rfl, by rw [hcc.1]; exact hc, Rk.putF ((ry.mo ex2.mo).mo m) (rw'.mo m)⟩)) (Ex.put (List.mem_of_getElem? hal) ha' trivial) ?_
          exact ((rs.ex ex1).ex ex2).ex (Ex.put (List.mem_of_getElem? hal) ha' trivial)
        · rw [if_neg hcc] at q; exact False.elim q
      | _ => simp only [z] at q; exact False.elim q
  | _ => exact False.elim q
/-! ### d[k] = value -/
def fPutD (fo fi fv : FE) : FS := fun sl h => (fv sl h).toS fun y h1 => (fo sl h1).toS fun x h2 => (fi sl h2).toS fun k h3 => match x with
  | .ref n => (match h3[n]? with
    | some (.dk kvs) => (match keyOf k with
      | some k => if kvs.length < LIM then .nx sl (h3.set n (.dk (put kvs k y))) else .st
      | none => .st)
    | some (.dt kvs) => (match tkeys k with
      | some k => if kvs.length < LIM then .nx sl (h3.set n (.dt (put kvs k y))) else .st
      | none => .st)
    | _ => .st)
  | _ => .st
theorem tkeys_ok {K : PySem.W.Frag} {al : List Addr} {H : Hp} {k : D} {vk : V} {ks : List Key} (rk : Rv K al H k vk) (hk : tkeys k = some ks) : ∃ b, vk = .ref b ∧ H b = some (.tup (ks.map kV)) := by
  cases rk with
  | tup hb rb => exact ⟨_, rfl, by rw [← keysOf_ok rb hk]; exact hb⟩
  | _ => cases hk
theorem ss_dput (hu : X.A.units + 1 < cLine) (ho : SE g X o fo) (hi : SE g X i fi) (hv : SE g X value fv) (hs : swapsWith value (some (.Subscript o i pos')) pos.line X.env = pure false) :
    SS g X (.Assign [.Subscript o i pos'] value pos) (fPutD fo fi fv) := PS.le (ps_dput hu ho hi hv hs) fun E σ H q => by
  obtain ⟨al, sl, hq, rh, rs, q⟩ := q
  replace q : ThenS g al H (fPutD fo fi fv sl hq) E := q
  unfold fPutD at q
  obtain ⟨y, h1, e1, q⟩ := q.split
  obtain ⟨x, h2, e2, q⟩ := q.split
  obtain ⟨k, h3, e3, q⟩ := q.split
  refine ⟨al, sl, hq, rh, rs, ?_⟩
  rw [e1]
  intro al1 vy H1 rh1 ex1 ry
  refine ⟨al1, sl, h1, rh1, rs.ex ex1, ?_⟩
  rw [e2]
  intro al2 vx H2 rh2 ex2 rx
  refine ⟨al2, sl, h2, rh2, (rs.ex ex1).ex ex2, ?_⟩
  rw [e3]
  intro al3 vk H3 rh3 ex3 rk
  replace q := ((q.later ex1).later ex2).later ex3
  have rx3 := rx.mo ex3.mo
  have ry3 := (ry.mo ex2.mo).mo ex3.mo
  have rs3 := ((rs.ex ex1).ex ex2).ex ex3
  cases x with
  | ref n =>
    cases z : h3[n]? with
    | none => simp only [z] at q; exact False.elim q
    | some cc =>
      cases cc with
      | dk kvs =>
        simp only [z] at q
        cases ek : keyOf k with
        | none => simp only [ek] at q; exact False.elim q
        | some kk =>
          simp only [ek] at q
          by_cases hl : kvs.length < LIM
          · rw [if_pos hl] at q
            obtain ⟨a, ob, rfl, hn, ha, hH, rc⟩ := cell_wr rh3 rx3 z
            obtain ⟨w, rfl, rw'⟩ := rc
            have m : Mo al3 al3 H3 (upd H3 a (.dK (putK w kk vy))) := Mo.wr hH trivial
            refine ⟨a, _, rfl, .inl ⟨w, kk, hH, keyOf_ok rk ek, by rw [lim_eq, ← rw'.length]; exact hl, rfl⟩, ?_⟩
            exact q al3 σ _ (rh3.put hn hH trivial (RC0.rc (c := .dk (put kvs kk y)) ⟨_, rfl, Rk.put (ry3.mo m) kk (rw'.mo m)⟩)) (Ex.put ha hH trivial) (rs3.ex (Ex.put ha hH trivial))
          · rw [if_neg hl] at q; exact False.elim q
      | dt kvs =>
        simp only [z] at q
        cases ek : tkeys k with
        | none => simp only [ek] at q; exact False.elim q
        | some kk =>
          simp only [ek] at q
          by_cases hl : kvs.length < LIM
          · rw [if_pos hl] at q
            obtain ⟨a, ob, rfl, hn, ha, hH, rc⟩ := cell_wr rh3 rx3 z
            obtain ⟨w, rfl, rw'⟩ := rc
            have m : Mo al3 al3 H3 (upd H3 a (.dT (putK w kk vy))) := Mo.wr hH trivial
            obtain ⟨b, ev, hb⟩ := tkeys_ok rk ek
            refine ⟨a, _, rfl, .inr ⟨w, kk, b, hH, ev, hb, by rw [lim_eq, ← rw'.length]; exact hl, rfl⟩, ?_⟩
            exact q al3 σ _ (rh3.put hn hH trivial (RC0.rc (c := .dt (put kvs kk y)) ⟨_, rfl, Rk.put (ry3.mo m) kk (rw'.mo m)⟩)) (Ex.put ha hH trivial) (rs3.ex (Ex.put ha hH trivial))
          · rw [if_neg hl] at q; exact False.elim q
      | _ => simp only [z] at q; exact False.elim q
  | _ => exact False.elim q
/-! ### xs[i] = value -/
def fPutL (fo fi fv : FE) : FS := fun sl h => (fv sl h).toS fun y h1 => (fo sl h1).toS fun x h2 => (fi sl h2).toS fun k h3 => match x, k with
  | .ref n, .int k => (match h3[n]? with
    | some (.lst ds) => (match ixN ds.length k with
      | some j => .nx sl (h3.set n (.lst (ds.set j y)))
      | none => .st)
    | _ => .st)
  | _, _ => .st
theorem ss_lput (ho : SE g X o fo) (hi : SE g X i fi) (hv : SE g X value fv)
    (ha : ∀ v, assign (.Subscript o i pos') X.env v = (do
      let ov ← holding [v] (eval o X.env)
      let iv ← holding [v, ov] (eval i X.env)
      standAt pos'
      holding [v, ov, iv] (setItem ov iv v)
      release [v, ov, iv] []))
    (hs : swapsWithSole [.Subscript o i pos'] value pos.line X.env = pure false) (hw : swappedStores [.Subscript o i pos'] value X.env = pure none)
    (h1 : (assignEach [.Subscript o i pos'] X.env).map (·.2) = [assign (.Subscript o i pos') X.env]) :
    SS g X (.Assign [.Subscript o i pos'] value pos) (fPutL fo fi fv) := PS.le (ps_asg hv (pg_sub ho hi set_list ha) hs hw h1) fun E σ H q => by
  obtain ⟨al, sl, hq, rh, rs, q⟩ := q
  replace q : ThenS g al H (fPutL fo fi fv sl hq) E := q
  unfold fPutL at q
  obtain ⟨y, h1, e1, q⟩ := q.split
  obtain ⟨x, h2, e2, q⟩ := q.split
  obtain ⟨k, h3, e3, q⟩ := q.split
  refine ⟨al, sl, hq, rh, rs, ?_⟩
  rw [e1]
  intro al1 vy H1 rh1 ex1 ry
  refine ⟨al1, sl, h1, rh1, rs.ex ex1, ?_⟩
  rw [e2]
  intro al2 vx H2 rh2 ex2 rx
  refine ⟨al2, sl, h2, rh2, (rs.ex ex1).ex ex2, ?_⟩
  rw [e3]
  intro al3 vk H3 rh3 ex3 rk
  replace q := ((q.later ex1).later ex2).later ex3
  have rx3 := rx.mo ex3.mo
  have ry3 := (ry.mo ex2.mo).mo ex3.mo
  have rs3 := ((rs.ex ex1).ex ex2).ex ex3
  cases x with
  | ref n =>
    cases rk with
    | int k =>
      cases z : h3[n]? with
      | none => simp only [z] at q; exact False.elim q
      | some cc =>
        cases cc with
        | lst ds =>
          simp only [z] at q
          cases ek : ixN ds.length k with
          | none => simp only [ek] at q; exact False.elim q
          | some j =>
            simp only [ek] at q
            obtain ⟨a, ob, rfl, hn, ha, hH, rc⟩ := cell_wr rh3 rx3 z
            obtain ⟨w, rfl, rw'⟩ := rc
            have m : Mo al3 al3 H3 (upd H3 a (.lst (w.set j vy))) := Mo.wr hH trivial
            refine ⟨a, w, k, j, rfl, rfl, hH, by rw [← rw'.length]; exact ek, ?_⟩
            exact q al3 σ _ (rh3.put hn hH trivial (RC0.rc (c := .lst (ds.set j y)) ⟨_, rfl, Rvs.set (ry3.mo m) j (rw'.mo m)⟩)) (Ex.put ha hH trivial) (rs3.ex (Ex.put ha hH trivial))
        | _ => simp only [z] at q; exact False.elim q
    | _ => cases rx <;> exact False.elim q
  | _ => exact False.elim q
/-! ### x += y -/
def opIAdd (x y : D) (h : Hq) : R D := match x, y with
  | .int i, .int j => .ok (.int (i + j)) h
  | .str a, .str b => if a.length + b.length ≤ LIM then .ok (.str (a ++ b)) h else .st
  | _, _ => .st
theorem op_iadd : PIp X .Add (fun x y H Q => (rI0 fun i j => .int (i + j)) x y H Q ∨ ((fun x y H Q => ∃ i j, x = .str i ∧ y = .str j ∧ i.length + j.length ≤ sizeLine ∧ Q (.str (i ++ j)) H) : R2) x y H Q) := (OpR.or iop_add iop_add_str : OpR X (inplaceOp .Add) _)
theorem oa_iadd : OpA g opIAdd (fun x y H Q => (rI0 fun i j => .int (i + j)) x y H Q ∨ ((fun x y H Q => ∃ i j, x = .str i ∧ y = .str j ∧ i.length + j.length ≤ sizeLine ∧ Q (.str (i ++ j)) H) : R2) x y H Q) := by
  intro al hq H x y vx vy Q rh rx ry q
  unfold opIAdd at q
  split at q
  · cases rx; cases ry
    exact .inl ⟨_, _, rfl, rfl, q.ok rh (.int _)⟩
  · cases rx; cases ry
    split at q
    · rename_i hl
      exact .inr ⟨_, _, rfl, rfl, by rw [lim_eq]; exact hl, q.ok rh (.str _)⟩
    · exact False.elim q
  · exact False.elim q
end
end Dy
end

section
set_option Elab.async false
set_option linter.all false
set_option maxRecDepth 100000
set_option maxHeartbeats 2000000
/-! Dy14: built-in functions, texts, slices, f-strings. -/
namespace Dy
open PySem PySem.Spec PyProof.Rows L2 GxR Gx

def OpC (g : G) (o : List D → Hq → R D) (r : List V → Hp → VK → Prop) : Prop := ∀ al hq H xs vxs Q, RH g al hq H → Rvs g.K al H xs vxs → Then g al H (o xs hq) Q → r vxs H Q
def OpCO (g : G) (o : List D → Hq → R D) (r : List V → Hp → VK → Prop) : Prop := ∀ al hq H xs vxs Q, RH g al hq H → Rvs g.K al H xs vxs → ThenO g al H (o xs hq) Q → r vxs H Q
def fCb (o : List D → Hq → R D) (fs : FI) : FE := fun sl h => (fs sl h).bind fun xs h1 => o xs h1
section
variable {X : Cx} {g : G} {e : Expr} {es : List Expr} {fs : FI} {fe fa : FE} {x : Str} {p pos apos cpos : Pos} {r : List V → Hp → VK → Prop} {o : List D → Hq → R D} {id T : String}
theorem cb_q (ho : OpC g o r) {σ : L2.St} {H : Hp} {Q : VK} (q : TDe g (fCb o fs) σ H Q) : tCB r (TDa g fs) σ H Q := by
  obtain ⟨al, sl, hq, rh, rs, q⟩ := q
  have q : Then g al H (fCb o fs sl hq) Q := q
  unfold fCb at q
  obtain ⟨xs, h1, e1, q⟩ := q.split
  exact TDa.split rh rs e1 fun al1 vs H1 rh1 ex1 rvs => ho al1 h1 H1 xs vs Q rh1 rvs (q.later ex1)
theorem cbO_q (ho : OpCO g o r) {σ : L2.St} {H : Hp} {Q : VK} (q : TDo g (fCb o fs) σ H Q) : tCB r (TDa g fs) σ H Q := by
  obtain ⟨al, sl, hq, rh, rs, q⟩ := q
  have q : ThenO g al H (fCb o fs sl hq) Q := q
  unfold fCb at q
  obtain ⟨xs, h1, e1, q⟩ := q.split
  exact TDa.split rh rs e1 fun al1 vs H1 rh1 ex1 rvs => ho al1 h1 H1 xs vs Q rh1 rvs (q.later ex1)
theorem se_callB (hc : CallR X (.builtin id) r) (ho : OpC g o r) (hg : Gl X x) (hm : X.mg x = none) (hv : bootBuiltins x = some (.builtin id)) (ha : SA g X (e :: es) fs) (hn : x ≠ "__name__") (hdb : (x == ("__debug__" : Str)) = false)
    (he : starEach (e :: es) X.env = (false, eval e X.env) :: starEach es X.env) (hpl : (backTo pos (starEach es X.env)).any (·.1) = false) : SE g X (.Call (.Name x p) (e :: es) [] pos) (fCb o fs) :=
  PE.le (pe_callB hc hg hm hv ha hn hdb he hpl) fun _ _ _ q => cb_q ho q
theorem se_callTy (hc : CallR X (.type T) r) (ho : OpC g o r) (hg : Gl X x) (hm : X.mg x = none) (hv : bootBuiltins x = some (.type T)) (ha : SA g X (e :: es) fs) (hn : x ≠ "__name__") (hdb : (x == ("__debug__" : Str)) = false)
    (he : starEach (e :: es) X.env = (false, eval e X.env) :: starEach es X.env) (hpl : (backTo pos (starEach es X.env)).any (·.1) = false) : SE g X (.Call (.Name x p) (e :: es) [] pos) (fCb o fs) :=
  PE.le (pe_callTy hc hg hm hv ha hn hdb he hpl) fun _ _ _ q => cb_q ho q
/-! ### len, str, tuple -/
def opLen (xs : List D) (h : Hq) : R D := match xs with
  | [.str a] => if a.length ≤ LIM then .ok (.int a.length) h else .st
  | [.tup ds] => .ok (.int ds.length) h
  | [.kt ds] => .ok (.int ds.length) h
  | [.pt ds] => .ok (.int ds.length) h
  | [.lst ds] => .ok (.int ds.length) h
  | [.ref n] => match h[n]? with
    | some (.lst ds) => .ok (.int ds.length) h
    | some (.dk kvs) => .ok (.int kvs.length) h
    | _ => .st
  | _ => .st
def rLenA (K : PySem.W.Frag) : List V → Hp → VK → Prop := fun xs H Q => ((fun xs H Q => ∃ x n, xs = [x] ∧ LenV K x H n ∧ Q (.int n) H) : List V → Hp → VK → Prop) xs H Q ∨ ((fun xs H Q => ∃ a kvs, xs = [V.ref a] ∧ H a = some (.dK kvs) ∧ Q (.int kvs.length) H) : List V → Hp → VK → Prop) xs H Q
theorem CallR.or {f : Value} {r r' : List V → Hp → VK → Prop} (h : CallR X f r) (h' : CallR X f r') : CallR X f (fun xs H Q => r xs H Q ∨ r' xs H Q) := by
  intro pins s σ H xs us Q I rx q
  rcases q with q | q
  · exact h pins s σ H xs us Q I rx q
  · exact h' pins s σ H xs us Q I rx q
theorem call_lenA : CallR X (.builtin "len") (rLenA X.K) := CallR.or call_len call_lenD
theorem oc_len : OpC g opLen (rLenA g.K) := by
  intro al hq H xs vxs Q rh rxs q
  unfold opLen at q
  split at q
  · cases rxs with
    | cons r t =>
      cases t; cases r
      split at q
      · rename_i hl
        exact .inl ⟨_, _, rfl, ⟨by rw [lim_eq]; exact hl, rfl⟩, q.ok rh (.int _)⟩
      · exact False.elim q
  · cases rxs with
    | cons r t =>
      cases t
      cases r with
      | tup ha ra => exact .inl ⟨_, _, rfl, .inr ⟨_, .inl (.inl ha), rfl⟩, by rw [← ra.length]; exact q.ok rh (.int _)⟩
  · cases rxs with
    | cons r t =>
      cases t
      cases r with
      | kt ha ra => exact .inl ⟨_, _, rfl, .inr ⟨_, ha.sq, rfl⟩, by rw [← ra.length]; exact q.ok rh (.int _)⟩
  · cases rxs with
    | cons r t =>
      cases t
      cases r with
      | pt ha _ _ ra => exact .inl ⟨_, _, rfl, .inr ⟨_, .inl (.inr ⟨_, ha⟩), rfl⟩, by rw [← ra.length]; exact q.ok rh (.int _)⟩
  · cases rxs with
    | cons r t =>
      cases t
      cases r with
      | lst ha ra => exact .inl ⟨_, _, rfl, .inl ⟨_, ha.sq, rfl⟩, by rw [← ra.length]; exact q.ok rh (.int _)⟩
  · rename_i n
    cases rxs with
    | cons r t =>
      cases t
      cases z : hq[n]? with
      | none => simp only [z] at q; exact False.elim q
      | some c =>
        cases c with
        | lst ds =>
          simp only [z] at q
          obtain ⟨a, ob, rfl, hn, ha, hH, rc⟩ := cell_wr rh r z
          obtain ⟨w, rfl, rw'⟩ := rc
          exact .inl ⟨_, _, rfl, .inl ⟨_, .inl (.inl hH), rfl⟩, by rw [← rw'.length]; exact q.ok rh (.int _)⟩
        | dk kvs =>
          simp only [z] at q
          obtain ⟨a, ob, rfl, hn, ha, hH, rc⟩ := cell_wr rh r z
          obtain ⟨w, rfl, rw'⟩ := rc
          exact .inr ⟨_, _, rfl, hH, by rw [← rw'.length]; exact q.ok rh (.int _)⟩
        | _ => simp only [z] at q; exact False.elim q
  · exact False.elim q
def opStr (xs : List D) (h : Hq) : R D := match xs with
  | [.int i] => if i.natAbs < 2 ^ 1920 then .ok (.str (toString i)) h else .st
  | _ => .st
theorem oc_str : OpC g opStr (fun xs H Q => ∃ i, xs = [.int i] ∧ i.natAbs.log2 < 1920 ∧ Q (.str (toString i)) H) := by
  intro al hq H xs vxs Q rh rxs q
  unfold opStr at q
  split at q
  · cases rxs with
    | cons r t =>
      cases t; cases r
      split at q
      · rename_i i hl
        refine ⟨i, rfl, ?_, q.ok rh (.str _)⟩
        by_cases h0 : i.natAbs = 0
        · rw [h0]; decide
        · exact (Nat.log2_lt h0).mpr hl
      · exact False.elim q
  · exact False.elim q
def fTupOf (fa : FE) : FE := fun sl h => (fa sl h).bind fun d h1 => match d with
  | .lst ds => .ok (.tup ds) h1
  | .tup ds => .ok (.tup ds) h1
  | .ref n => (match h1[n]? with
    | some (.lst ds) => .ok (.tup ds) h1
    | _ => .st)
  | _ => .st
theorem se_tupleOf {a : Expr} (hK : X.K = g.K) (hg : Gl X "tuple") (hm : X.mg "tuple" = none) (ha : SE g X a fa) (na : starEach [a] X.env = (false, eval a X.env) :: starEach [] X.env) : SE g X (.Call (.Name "tuple" p) [a] [] pos) (fTupOf fa) := by
  refine PE.le (pe_tupleOf hg hm ha na) fun σ H Q q => ?_
  obtain ⟨al, sl, hq, rh, rs, q⟩ := q
  have q : Then g al H (fTupOf fa sl hq) Q := q
  unfold fTupOf at q
  obtain ⟨d, h1, e1, q⟩ := q.split
  refine ⟨al, sl, hq, rh, rs, ?_⟩
  rw [e1, hK]
  intro al1 v H1 rh1 ex1 rv
  replace q := q.later ex1
  cases rv with
  | lst ha ra => exact .inl ⟨_, _, rfl, ha.sq, fun p np => q al1 _ _ (rh1.new np) (Ex.new np) (.tup upd_same (ra.mo (Mo.new np)))⟩
  | tup ha ra => exact .inr ⟨_, _, rfl, .inl (.inl ha), q.ok rh1 (.tup ha ra)⟩
  | @ref n a e =>
    cases z : h1[n]? with
    | none => simp only [z] at q; exact False.elim q
    | some c =>
      cases c with
      | lst ds =>
        simp only [z] at q
        obtain ⟨a', ob, ev, hn, ha, hH, rc⟩ := cell_wr rh1 (.ref e) z
        cases ev
        obtain ⟨w, rfl, rw'⟩ := rc
        exact .inl ⟨_, _, rfl, .inl (.inl hH), fun p np => q al1 _ _ (rh1.new np) (Ex.new np) (.tup upd_same (rw'.mo (Mo.new np)))⟩
      | _ => simp only [z] at q; exact False.elim q
  | _ => exact False.elim q
/-! ### slices -/
abbrev FO := List Sl → Hq → R (Option Int)
def TDp (g : G) (f : FO) : TO := fun σ H Q => ∃ al sl hq, RH g al hq H ∧ RSe g al H sl σ ∧ match f sl hq with
  | .ok o hq' => ∀ al' H', RH g al' hq' H' → Ex al al' H H' → Q o H'
  | _ => False
abbrev SP_ (g : G) (X : Cx) (e : Option Expr) (f : FO) : Prop := PO X e (TDp g f)
theorem PO.le {e : Option Expr} {t t' : TO} (h : PO X e t) (k : ∀ σ H Q, t' σ H Q → t σ H Q) : PO X e t' := ⟨fun pins s σ H Q I q => h.run pins s σ H Q I (k σ H Q q)⟩
def oNo : FO := fun _ h => .ok none h
def oSo (fe : FE) : FO := fun sl h => (fe sl h).bind fun d h1 => match d with
  | .int i => .ok (some i) h1
  | _ => .st
theorem sp_no : SP_ g X none oNo := PO.le po_none fun σ H Q q => by
  obtain ⟨al, sl, hq, rh, rs, q⟩ := q
  exact q al H rh (Ex.refl _ _)
theorem sp_so (h : SE g X e fe) : SP_ g X (some e) (oSo fe) := PO.le (po_some h) fun σ H Q q => by
  obtain ⟨al, sl, hq, rh, rs, q⟩ := q
  unfold oSo at q
  cases hf : fe sl hq with
  | ok d h1 =>
    rw [hf] at q
    refine ⟨al, sl, hq, rh, rs, ?_⟩
    rw [hf]
    intro al1 v H1 rh1 ex1 rv
    cases rv with
    | int i => exact ⟨i, rfl, q al1 H1 rh1 ex1⟩
    | _ => exact False.elim q
  | er c fs h => rw [hf] at q; exact False.elim q
  | st => rw [hf] at q; exact False.elim q
def cutD (xs : List D) (lo hi : Option Int) : List D := (xs.drop (HT.sIx xs.length 0 lo)).take (HT.sIx xs.length xs.length hi - HT.sIx xs.length 0 lo)
theorem cutD_rv {K : PySem.W.Frag} {al : List Addr} {H : Hp} {ds : List D} {vs : List V} (r : Rvs K al H ds vs) (lo hi : Option Int) : Rvs K al H (cutD ds lo hi) (cutV vs lo hi) := by
  unfold cutD cutV
  rw [r.length]
  exact (r.drop _).take _
def fSl (fe : FE) (fl fh : FO) : FE := fun sl h => (fe sl h).bind fun d h1 => (fl sl h1).bind fun lo h2 => (fh sl h2).bind fun hi h3 => match d with
  | .str a => if a.length ≤ LIM then .ok (.str (cutS a lo hi)) h3 else .st
  | .tup ds => .ok (if HT.sIx ds.length 0 lo = 0 ∧ HT.sIx ds.length ds.length hi = ds.length then .tup ds else .tup (cutD ds lo hi)) h3
  | .kt ds => .ok (if HT.sIx ds.length 0 lo = 0 ∧ HT.sIx ds.length ds.length hi = ds.length then .kt ds else .tup (cutD ds lo hi)) h3
  | _ => .st
def fSlL (fe : FE) (fl fh : FO) : FE := fun sl h => (fe sl h).bind fun d h1 => (fl sl h1).bind fun lo h2 => (fh sl h2).bind fun hi h3 => match litems h3 d with
  | some ds => .ok (.lst (cutD ds lo hi)) h3
  | none => .st
def rSlX (K : PySem.W.Frag) : V → Option Int → Option Int → Hp → VK → Prop := fun x lo hi H Q => rSlS x lo hi H Q ∨ rSlA K x lo hi H Q
theorem sl_X : SlR X (rSlX X.K) := sl_str.or sl_tupA
theorem TDp.split {fl : FO} {al : List Addr} {H : Hp} {σ : L2.St} {sl : List Sl} {hq : Hq} (rh : RH g al hq H) (rs : RSe g al H sl σ) {lo : Option Int} {h1 : Hq} (e : fl sl hq = .ok lo h1) {Q : Option Int → Hp → Prop} (k : ∀ al1 H1, RH g al1 h1 H1 → Ex al al1 H H1 → Q lo H1) : TDp g fl σ H Q :=
  ⟨al, sl, hq, rh, rs, by rw [e]; exact k⟩
theorem se_sl {lo hi : Option Expr} {fl fh : FO} {p2 : Pos} (hK : X.K = g.K) (he : SE g X e fe) (hl : SP_ g X lo fl) (hh : SP_ g X hi fh) : SE g X (.Subscript e (.Slice lo hi none p2) pos) (fSl fe fl fh) := by
  refine PE.le (pe_slice sl_X he hl hh) fun σ H Q q => ?_
  obtain ⟨al, sl, hq, rh, rs, q⟩ := q
  have q : Then g al H (fSl fe fl fh sl hq) Q := q
  unfold fSl at q
  obtain ⟨d, h1, e1, q⟩ := q.split
  obtain ⟨l, h2, e2, q⟩ := q.split
  obtain ⟨u, h3, e3, q⟩ := q.split
  refine ⟨al, sl, hq, rh, rs, ?_⟩
  rw [e1]
  intro al1 v H1 rh1 ex1 rv
  refine TDp.split rh1 (rs.ex ex1) e2 fun al2 H2 rh2 ex2 => TDp.split rh2 ((rs.ex ex1).ex ex2) e3 fun al3 H3 rh3 ex3 => ?_
  replace q := q.later (ex1.trans (ex2.trans ex3))
  replace rv := (rv.mo ex2.mo).mo ex3.mo
  rw [hK]
  cases rv with
  | str a =>
    by_cases hz : a.length ≤ LIM
    · simp only [hz, if_true] at q
      exact .inl ⟨a, rfl, by rw [lim_eq]; exact hz, q.ok rh3 (.str _)⟩
    · simp only [hz, if_false] at q; exact False.elim q
  | tup ha ra =>
    refine .inr ⟨_, _, rfl, .inl (.inl ha), fun c => ?_, fun c p np => ?_⟩
    · rw [← ra.length] at c
      simp only [c, and_self, if_true] at q
      exact q.ok rh3 (.tup ha ra)
    · rw [← ra.length] at c
      simp only [c, if_false] at q
      exact q al3 _ _ (rh3.new np) (Ex.new np) (.tup upd_same ((cutD_rv ra l u).mo (Mo.new np)))
  | kt ha ra =>
    refine .inr ⟨_, _, rfl, ha.sq, fun c => ?_, fun c p np => ?_⟩
    · rw [← ra.length] at c
      simp only [c, and_self, if_true] at q
      exact q.ok rh3 (.kt ha ra)
    · rw [← ra.length] at c
      simp only [c, if_false] at q
      exact q al3 _ _ (rh3.new np) (Ex.new np) (.tup upd_same ((cutD_rv ra l u).mo (Mo.new np)))
  | _ => exact False.elim q
end
end Dy
end

section
set_option Elab.async false
set_option linter.all false
set_option maxRecDepth 100000
set_option maxHeartbeats 2000000
/-! Dy15: slices of lists, split, join, f-strings, dict displays, dict.get, stars. -/
namespace Dy
open PySem PySem.Spec PyProof.Rows L2 GxR Gx

section
variable {X : Cx} {g : G} {e o f : Expr} {es : List Expr} {fs : FI} {fe fa fo ff : FE} {x : Str} {p pos apos cpos : Pos}
theorem so_sl {lo hi : Option Expr} {fl fh : FO} {p2 : Pos} (hK : X.K = g.K) (he : SE g X e fe) (hl : SP_ g X lo fl) (hh : SP_ g X hi fh) : SO g X (.Subscript e (.Slice lo hi none p2) pos) (fSlL fe fl fh) := by
  refine PE.le (pe_slice sl_list he hl hh) fun σ H Q q => ?_
  obtain ⟨al, sl, hq, rh, rs, q⟩ := q
  have q : ThenO g al H (fSlL fe fl fh sl hq) Q := q
  unfold fSlL at q
  obtain ⟨d, h1, e1, q⟩ := q.split
  obtain ⟨l, h2, e2, q⟩ := q.split
  obtain ⟨u, h3, e3, q⟩ := q.split
  refine ⟨al, sl, hq, rh, rs, ?_⟩
  rw [e1]
  intro al1 v H1 rh1 ex1 rv
  refine TDp.split rh1 (rs.ex ex1) e2 fun al2 H2 rh2 ex2 => TDp.split rh2 ((rs.ex ex1).ex ex2) e3 fun al3 H3 rh3 ex3 => ?_
  replace q := q.later (ex1.trans (ex2.trans ex3))
  replace rv := (rv.mo ex2.mo).mo ex3.mo
  rw [hK]
  cases z : litems h3 d with
  | none => simp only [z] at q; exact False.elim q
  | some ds =>
    simp only [z] at q
    obtain ⟨a, vs, rfl, hs, rvs⟩ := litems_ok rh3 rv z
    exact ⟨a, vs, rfl, hs, fun p np => q.new rh3 (Ex.refl _ _) np ⟨_, rfl, _, rfl, (cutD_rv rvs l u).mo (Mo.new np)⟩⟩
/-! ### split and join -/
def strsD (ys : List Str) : List D := ys.map .str
theorem strsD_rv {K : PySem.W.Frag} {al : List Addr} {H : Hp} : ∀ ys : List Str, Rvs K al H (strsD ys) (ys.map V.str)
  | [] => .nil
  | y :: ys => .cons (.str y) (strsD_rv ys)
def unstrs : List D → Option (List Str)
  | [] => some []
  | .str y :: ds => (unstrs ds).map (y :: ·)
  | _ :: _ => none
theorem unstrs_rv {K : PySem.W.Frag} {al : List Addr} {H : Hp} : ∀ {ds : List D} {vs : List V} {ys : List Str}, Rvs K al H ds vs → unstrs ds = some ys → vs = ys.map V.str
  | _, _, _, .nil, h => by cases h; rfl
  | _, _, _, .cons r t, h => by
    cases r with
    | str y =>
      obtain ⟨zs, h1, rfl⟩ := Option.map_eq_some_iff.mp (show (unstrs _).map _ = _ from h)
      rw [List.map_cons, ← unstrs_rv t h1]
    | _ => cases h
theorem unstrs_strsD : ∀ ys : List Str, unstrs (strsD ys) = some ys
  | [] => rfl
  | y :: ys => by
    show (unstrs (strsD ys)).map _ = _
    rw [unstrs_strsD ys]; rfl
def opSplit (x : D) (xs : List D) (h : Hq) : R D := match x, xs with
  | .str a, [.str b] => if (b.length == 0) = false ∧ a.length + 2 ≤ LIM then .ok (.lst (strsD (Txt.split a b))) h else .st
  | _, _ => .st
theorem om_split : OpMO g opSplit (fun x xs H Q => ∃ a b, x = .str a ∧ xs = [.str b] ∧ (b.length == 0) = false ∧ a.length + 2 ≤ sizeLine ∧ rNewStrs (Txt.split a b) H Q) := by
  intro al hq H x xs vx vxs Q rh rx rxs q
  unfold opSplit at q
  split at q
  · rename_i a b
    cases rx
    cases rxs with
    | cons r t =>
      cases t; cases r
      by_cases hc : (b.length == 0) = false ∧ a.length + 2 ≤ LIM
      · rw [if_pos hc] at q
        exact ⟨a, b, rfl, rfl, hc.1, by rw [lim_eq]; exact hc.2, fun p np => q.new rh (Ex.refl _ _) np ⟨_, rfl, _, rfl, strsD_rv _⟩⟩
      · rw [if_neg hc] at q; exact False.elim q
  · exact False.elim q
def opJoin (x : D) (xs : List D) (h : Hq) : R D := match x, xs with
  | .str a, [y] => match (items h y).bind unstrs with
    | some ys => if (ys.map (·.length)).sum + ys.length * a.length ≤ 16777216 then .ok (.str (Txt.join a ys)) h else .st
    | none => .st
  | _, _ => .st
theorem om_join : OpM g opJoin (fun x xs H Q => ∃ a p, ∃ ys : List Str, x = .str a ∧ xs = [.ref p] ∧ (SqL g.K H p (ys.map V.str) ∨ SqT g.K H p (ys.map V.str)) ∧
    (ys.map (·.length)).sum + ys.length * a.length ≤ 16777216 ∧ Q (.str (Txt.join a ys)) H) := by
  intro al hq H x xs vx vxs Q rh rx rxs q
  unfold opJoin at q
  split at q
  · rename_i a y
    cases rx
    cases rxs with
    | cons r t =>
      cases t
      cases z : (items hq y).bind unstrs with
      | none => simp only [z] at q; exact False.elim q
      | some ys =>
        simp only [z] at q
        obtain ⟨ds, e1, e2⟩ := Option.bind_eq_some_iff.mp z
        obtain ⟨p, vs, rfl, hs, rvs⟩ := items_ok rh r e1
        have ev := unstrs_rv rvs e2
        subst ev
        split at q
        · rename_i hl
          exact ⟨a, p, ys, rfl, rfl, hs, hl, q.ok rh (.str _)⟩
        · exact False.elim q
  · exact False.elim q
/-! ### f-strings -/
def fFmt (fe : FE) : FE := fun sl h => (fe sl h).bind fun d h1 => match d with
  | .str a => if a.length ≤ LIM then .ok (.str a) h1 else .st
  | .int i => if i.natAbs < 2 ^ 1920 then .ok (.str (toString i)) h1 else .st
  | _ => .st
theorem se_fmt (he : SE g X e fe) : SE g X (.FormattedValue e (-1) none pos) (fFmt fe) := by
  refine PE.le (pe_fmt he) fun σ H Q q => ?_
  obtain ⟨al, sl, hq, rh, rs, q⟩ := q
  have q : Then g al H (fFmt fe sl hq) Q := q
  unfold fFmt at q
  obtain ⟨d, h1, e1, q⟩ := q.split
  refine ⟨al, sl, hq, rh, rs, ?_⟩
  rw [e1]
  intro al1 v H1 rh1 ex1 rv
  replace q := q.later ex1
  cases rv with
  | str a =>
    by_cases hl : a.length ≤ LIM
    · simp only [hl, if_true] at q
      exact .inl ⟨a, rfl, by rw [lim_eq]; exact hl, q.ok rh1 (.str _)⟩
    · simp only [hl, if_false] at q; exact False.elim q
  | int i =>
    by_cases hl : i.natAbs < 2 ^ 1920
    · simp only [hl, if_true] at q
      refine .inr ⟨i, rfl, ?_, q.ok rh1 (.str _)⟩
      by_cases h0 : i.natAbs = 0
      · rw [h0]; decide
      · exact (Nat.log2_lt h0).mpr hl
    · simp only [hl, if_false] at q; exact False.elim q
  | _ => exact False.elim q
/-- the parts -/
inductive SJ (g : G) (X : Cx) : List Expr → List FE → Prop where
  | nil : SJ g X [] []
  | cons {e : Expr} {f : FE} {es : List Expr} {fs : List FE} (h : SE g X e f) (r : SJ g X es fs) : SJ g X (e :: es) (f :: fs)
def jGo : List FE → Str → List Sl → Hq → R D
  | [], acc, _, h => .ok (.str acc) h
  | f :: fs, acc, sl, h => (f sl h).bind fun d h1 => match d with
    | .str y => if (acc ++ y).length ≤ LIM then jGo fs (acc ++ y) sl h1 else .st
    | _ => .st
def fJs (fs : List FE) : FE := fun sl h => jGo fs Str.empty sl h
theorem SJ.pj {es : List Expr} {fs : List FE} (h : SJ g X es fs) : PJ X es (fs.map (TDe g)) := by
  induction h with
  | nil => exact .nil
  | cons h r ih => exact .cons h ih
theorem js_q : ∀ (fs : List FE) (acc : Str) (al : List Addr) (sl : List Sl) (hq : Hq) (σ : L2.St) (H : Hp) (Q : Str → Hp → Prop), RH g al hq H → RSe g al H sl σ → Then g al H (jGo fs acc sl hq) (fun v H' => ∀ z, v = .str z → Q z H') → tJs (fs.map (TDe g)) acc σ H Q
  | [], acc, al, sl, hq, σ, H, Q, rh, rs, q => (q.ok rh (.str acc)) acc rfl
  | f :: fs, acc, al, sl, hq, σ, H, Q, rh, rs, q => by
    unfold jGo at q
    obtain ⟨d, h1, e1, q⟩ := q.split
    refine ⟨al, sl, hq, rh, rs, ?_⟩
    rw [e1]
    intro al1 v H1 rh1 ex1 rv
    replace q := q.later ex1
    cases rv with
    | str y =>
      by_cases hl : (acc ++ y).length ≤ LIM
      · simp only [hl, if_true] at q
        exact ⟨y, rfl, by rw [lim_eq]; exact hl, js_q fs (acc ++ y) al1 sl h1 σ H1 Q rh1 (rs.ex ex1) q⟩
      · simp only [hl, if_false] at q; exact False.elim q
    | _ => exact False.elim q
theorem se_joined {v1 v2 : Expr} {rest : List Expr} {fs : List FE} (h : SJ g X (v1 :: v2 :: rest) fs) : SE g X (.JoinedStr (v1 :: v2 :: rest) pos) (fJs fs) := by
  refine PE.le (pe_joined h.pj) fun σ H Q q => ?_
  obtain ⟨al, sl, hq, rh, rs, q⟩ := q
  have q : Then g al H (jGo fs Str.empty sl hq) Q := q
  refine js_q fs Str.empty al sl hq σ H _ rh rs ?_
  cases hr : jGo fs Str.empty sl hq with
  | ok d h1 =>
    rw [hr] at q
    intro al' v H' rh' ex' rv z ez
    have := q al' v H' rh' ex' rv
    rw [ez] at this
    exact this
  | er c f h => rw [hr] at q; exact q
  | st => rw [hr] at q; exact q
theorem se_joined1 (he : SE g X e fe) : SE g X (.JoinedStr [e] pos) fe := pe_joined1 he
/-! ### stars -/
def aStar (fe : FE) (fs : FI) : FI := fun sl h => (fe sl h).bind fun d h1 => match d with
  | .tup xs => (fs sl h1).bind fun ys h2 => .ok (xs ++ ys) h2
  | .kt xs => (fs sl h1).bind fun ys h2 => .ok (xs ++ ys) h2
  | .pt xs => (fs sl h1).bind fun ys h2 => .ok (xs ++ ys) h2
  | .lst xs => (fs sl h1).bind fun ys h2 => .ok (xs ++ ys) h2
  | _ => .st
theorem sa_star (hK : X.K = g.K) (he : SE g X e fe) (hr : SA g X es fs) (hs : starEach (.Starred e p :: es) X.env = (true, eval e X.env) :: starEach es X.env) : SA g X (.Starred e p :: es) (aStar fe fs) := by
  refine PA.le (StX.pa_star he hr hs) fun σ H Q q => ?_
  obtain ⟨al, sl, hq, rh, rs, q⟩ := q
  unfold aStar at q
  cases hf : fe sl hq with
  | er c fs h => rw [hf] at q; exact False.elim q
  | st => rw [hf] at q; exact False.elim q
  | ok d h1 =>
    rw [hf] at q
    refine ⟨al, sl, hq, rh, rs, ?_⟩
    rw [hf, hK]
    intro al1 v H1 rh1 ex1 rv
    have fin : ∀ {a : Addr} {ds : List D} {vs : List V}, (SqT g.K H1 a vs ∨ SqL g.K H1 a vs) → Rvs g.K al1 H1 ds vs → (match (fs sl h1).bind fun ys h2 => R.ok (ds ++ ys) h2 with
        | .ok ds hq' => ∀ al' vs H', RH g al' hq' H' → Ex al al' H H' → Rvs g.K al' H' ds vs → Q vs H'
        | _ => False) → ∃ p xs, V.ref a = V.ref p ∧ (SqT g.K H1 p xs ∨ SqL g.K H1 p xs) ∧ TDa g fs σ H1 fun ys H2 => Q (xs ++ ys) H2 := fun {a ds vs} hs ra q => by
      refine ⟨a, vs, rfl, hs, ?_⟩
      cases hf2 : fs sl h1 with
      | er c fs h => rw [hf2] at q; exact False.elim q
      | st => rw [hf2] at q; exact False.elim q
      | ok ys h2 =>
        rw [hf2] at q
        exact TDa.split rh1 (rs.ex ex1) hf2 fun al2 ws H2 rh2 ex2 rw2 => q al2 _ H2 rh2 (ex1.trans ex2) ((ra.mo ex2.mo).append rw2)
    cases rv with
    | tup ha ra => exact fin (.inl (.inl (.inl ha))) ra q
    | kt ha ra => exact fin (.inl ha.sq) ra q
    | pt ha _ _ ra => exact fin (.inl (.inl (.inr ⟨_, ha⟩))) ra q
    | lst ha ra => exact fin (.inr ha.sq) ra q
    | _ => exact False.elim q
/-! ### dicts -/
def fNewK : FE := fun _ h => .ok (.dk []) h
def fNewT : FE := fun _ h => .ok (.dt []) h
theorem so_newK : SO g X (.Dict [] [] pos) fNewK := by
  refine PE.le pe_dnewK fun σ H Q q => ?_
  obtain ⟨al, sl, hq, rh, rs, q⟩ := q
  have q : ThenO g al H (.ok (.dk []) hq) Q := q
  exact fun p np => q.new rh (Ex.refl _ _) np ⟨_, rfl, _, rfl, .nil⟩
theorem so_newT : SO g X (.Dict [] [] pos) fNewT := by
  refine PE.le pe_dnewT fun σ H Q q => ?_
  obtain ⟨al, sl, hq, rh, rs, q⟩ := q
  have q : ThenO g al H (.ok (.dt []) hq) Q := q
  exact fun p np => q.new rh (Ex.refl _ _) np ⟨_, rfl, _, rfl, .nil⟩
/-- a dict is there -/
def dictD (h : Hq) (d : D) : Bool := match d with
  | .dk _ => true
  | .dt _ => true
  | .ref n => match rdC h n with
    | some (.dk _) => true
    | some (.dt _) => true
    | _ => false
  | _ => false
theorem dictD_ok {al : List Addr} {hq : Hq} {H : Hp} {d : D} {v : V} (rh : RH g al hq H) (r : Rv g.K al H d v) (h : dictD hq d = true) : ∃ a, v = .ref a ∧ IsD H a := by
  cases r with
  | dk ha _ _ _ => exact ⟨_, rfl, .inl ⟨_, .inr ⟨_, ha⟩⟩⟩
  | dt ha _ _ _ => exact ⟨_, rfl, .inr ⟨_, .inr ⟨_, ha⟩⟩⟩
  | @ref n a e =>
    have h : (match rdC hq n with
      | some (.dk _) => true
      | some (.dt _) => true
      | _ => false) = true := h
    cases z : rdC hq n with
    | none => rw [z] at h; cases h
    | some c =>
      rw [z] at h
      cases c with
      | dk kvs =>
        obtain ⟨a', w, ev, h1, _⟩ := cell_dk rh (.ref e) z
        cases ev
        exact ⟨a, rfl, .inl ⟨_, h1⟩⟩
      | dt kvs =>
        obtain ⟨a', w, ev, h1, _⟩ := cell_dt rh (.ref e) z
        cases ev
        exact ⟨a, rfl, .inr ⟨_, h1⟩⟩
      | _ => cases h
  | _ => cases h
def fGet1 (fo fe : FE) : FE := fun sl h => (fo sl h).bind fun d h1 => if dictD h1 d = true then (fe sl h1).bind fun k h2 => (match dget h2 d k with
  | some (some x) => .ok x h2
  | some none => .ok .non h2
  | none => .st) else .st
theorem se_get1 (hu : X.A.units + 1 < cLine) (ho : SE g X o fo) (he : SE g X e fe) (m : M1 X o "get" apos e cpos) : SE g X (.Call (.Attribute o "get" apos) [e] [] cpos) (fGet1 fo fe) := by
  refine PE.le (pe_dget1 hu ho he m) fun σ H Q q => ?_
  obtain ⟨al, sl, hq, rh, rs, q⟩ := q
  replace q : Then g al H (fGet1 fo fe sl hq) Q := q
  unfold fGet1 at q
  obtain ⟨d, h1, e1, q⟩ := q.split
  refine ⟨al, sl, hq, rh, rs, ?_⟩
  rw [e1]
  intro al1 v H1 rh1 ex1 rv
  replace q := q.later ex1
  by_cases hd : dictD h1 d = true
  · rw [if_pos hd] at q
    obtain ⟨k, h2, e2, q⟩ := q.split
    obtain ⟨a, rfl, isd⟩ := dictD_ok rh1 rv hd
    refine ⟨a, rfl, isd, al1, sl, h1, rh1, rs.ex ex1, ?_⟩
    rw [e2]
    intro al2 vk H2 rh2 ex2 rk
    replace q := q.later ex2
    cases z : dget h2 d k with
    | none => simp only [z] at q; exact False.elim q
    | some r =>
      obtain ⟨a', o', ev, g1, g2, g3⟩ := dget_ok rh2 (rv.mo ex2.mo) rk z
      cases ev
      refine ⟨o', g1, ?_⟩
      rcases g3 with ⟨x, w, rfl, rfl, rx⟩ | ⟨rfl, rfl⟩
      · simp only [z] at q
        exact q.ok rh2 rx
      · simp only [z] at q
        exact q.ok rh2 .non
  · rw [if_neg hd] at q; exact False.elim q
def fGet2 (fo fe ff : FE) : FE := fun sl h => (fo sl h).bind fun d h1 => if dictD h1 d = true then (fe sl h1).bind fun k h2 => (ff sl h2).bind fun y h3 => (match dget h3 d k with
  | some (some x) => .ok x h3
  | some none => .ok y h3
  | none => .st) else .st
theorem se_get2 (hu : X.A.units + 1 < cLine) (ho : SE g X o fo) (he : SE g X e fe) (hf : SE g X f ff) (m : M2 X o "get" apos e f cpos) : SE g X (.Call (.Attribute o "get" apos) [e, f] [] cpos) (fGet2 fo fe ff) := by
  refine PE.le (pe_dget2 hu ho he hf m) fun σ H Q q => ?_
  obtain ⟨al, sl, hq, rh, rs, q⟩ := q
  replace q : Then g al H (fGet2 fo fe ff sl hq) Q := q
  unfold fGet2 at q
  obtain ⟨d, h1, e1, q⟩ := q.split
  refine ⟨al, sl, hq, rh, rs, ?_⟩
  rw [e1]
  intro al1 v H1 rh1 ex1 rv
  replace q := q.later ex1
  by_cases hd : dictD h1 d = true
  · rw [if_pos hd] at q
    obtain ⟨k, h2, e2, q⟩ := q.split
    obtain ⟨y, h3, e3, q⟩ := q.split
    obtain ⟨a, rfl, isd⟩ := dictD_ok rh1 rv hd
    refine ⟨a, rfl, isd, al1, sl, h1, rh1, rs.ex ex1, ?_⟩
    rw [e2]
    intro al2 vk H2 rh2 ex2 rk
    refine ⟨al2, sl, h2, rh2, (rs.ex ex1).ex ex2, ?_⟩
    rw [e3]
    intro al3 vy H3 rh3 ex3 ry
    replace q := (q.later ex2).later ex3
    cases z : dget h3 d k with
    | none => simp only [z] at q; exact False.elim q
    | some r =>
      obtain ⟨a', o', ev, g1, g2, g3⟩ := dget_ok rh3 ((rv.mo ex2.mo).mo ex3.mo) (rk.mo ex3.mo) z
      cases ev
      refine ⟨o', g1, ?_⟩
      rcases g3 with ⟨x, w, rfl, rfl, rx⟩ | ⟨rfl, rfl⟩
      · simp only [z] at q
        exact q.ok rh3 rx
      · simp only [z] at q
        exact q.ok rh3 ry
  · rw [if_neg hd] at q; exact False.elim q
/-! ### {k: v, ..} -/
abbrev FP := List (FE × FE)
inductive SPs (g : G) (X : Cx) (pos : Pos) : List (Option Expr) → List Expr → FP → Prop where
  | nil : SPs g X pos [] [] []
  | cons {k v : Expr} {ks : List (Option Expr)} {vs : List Expr} {fk fv : FE} {fs : FP} (hk : SE g X k fk) (hv : SE g X v fv) (r : SPs g X pos ks vs fs) : SPs g X pos (some k :: ks) (v :: vs) ((fk, fv) :: fs)
theorem SPs.pps {ks : List (Option Expr)} {vs : List Expr} {fs : FP} (h : SPs g X pos ks vs fs) : PPs X pos ks vs (fs.map fun p => (TDe g p.1, TDe g p.2)) := by
  induction h with
  | nil => exact pps_nil
  | cons hk hv r ih => exact pps_cons hk hv ih
def dpGo : FP → List Sl → Hq → R (List (Key × D))
  | [], _, h => .ok [] h
  | (fk, fv) :: r, sl, h => (fk sl h).bind fun k h1 => (fv sl h1).bind fun v h2 => match keyOf k with
    | some k => (dpGo r sl h2).bind fun ps h3 => .ok ((k, v) :: ps) h3
    | none => .st
def mergeD (kvs more : List (Key × D)) : List (Key × D) := more.foldl (fun acc kv => put acc kv.1 kv.2) kvs
theorem rk_merge {K : PySem.W.Frag} {al : List Addr} {H : Hp} : ∀ {more : List (Key × D)} {kvs : List (Key × D)} {mv wv : List (Key × V)}, Rk K al H more mv → Rk K al H kvs wv → Rk K al H (mergeD kvs more) (mergeK wv mv)
  | [], kvs, mv, wv, h, h' => by cases h.nil_inv; exact h'
  | p :: r, kvs, mv, wv, h, h' => by
    obtain ⟨q, t, rfl, e, v, h2⟩ := h.inv
    show Rk K al H (mergeD (put kvs p.1 p.2) r) (mergeK (putK wv q.1 q.2) t)
    rw [← e]
    exact rk_merge h2 (Dy.Rk.put v p.1 h')
def fDisp (fs : FP) : FE := fun sl h => (dpGo fs sl h).bind fun ps h1 => if ps.length ≤ 15 then .ok (.dk (mergeD [] ps)) h1 else .st
theorem dp_q : ∀ (fs : FP) (al : List Addr) (sl : List Sl) (hq : Hq) (σ : L2.St) (H : Hp) (Q : List (V × V) → Hp → Prop) (ps : List (Key × D)) (h2 : Hq), RH g al hq H → RSe g al H sl σ → dpGo fs sl hq = .ok ps h2 →
    (∀ al' H' w, RH g al' h2 H' → Ex al al' H H' → Rk g.K al' H' ps w → Q (w.map fun kv => (kV kv.1, kv.2)) H') → tPairs (fs.map fun p => (TDe g p.1, TDe g p.2)) σ H Q
  | [], al, sl, hq, σ, H, Q, ps, h2, rh, rs, e, q => by
    cases e
    exact q al H [] rh (Ex.refl _ _) .nil
  | (fk, fv) :: r, al, sl, hq, σ, H, Q, ps, h2, rh, rs, e, q => by
    unfold dpGo at e
    obtain ⟨k, ha, e1, e⟩ := R.split e
    obtain ⟨v, hb, e2, e⟩ := R.split e
    refine ⟨al, sl, hq, rh, rs, ?_⟩
    show match fk sl hq with
      | .ok d hq' => _
      | _ => False
    rw [e1]
    intro al1 vk H1 rh1 ex1 rk
    refine ⟨al1, sl, ha, rh1, rs.ex ex1, ?_⟩
    show match fv sl ha with
      | .ok d hq' => _
      | _ => False
    rw [e2]
    intro al2 vv H2 rh2 ex2 rv
    cases ek : keyOf k with
    | none => simp only [ek] at e; cases e
    | some kk =>
      simp only [ek] at e
      obtain ⟨ps', hc, e3, e⟩ := R.split e
      cases e
      refine dp_q r al2 sl hb σ H2 _ ps' _ rh2 ((rs.ex ex1).ex ex2) e3 fun al3 H3 w rh3 ex3 rw3 => ?_
      have := q al3 H3 ((kk, vv) :: w) rh3 (ex1.trans (ex2.trans ex3)) (.cons rfl (rv.mo ex3.mo) rw3)
      rw [List.map_cons] at this
      rw [keyOf_ok rk ek]
      exact this
theorem so_disp {ks : List (Option Expr)} {vs : List Expr} {fs : FP} (h : SPs g X pos ks vs fs) (hall : ks.all (·.isSome) = true) (hl : ks.length = vs.length) (h0 : ks ≠ []) (h15 : ks.length ≤ 15) : SO g X (.Dict ks vs pos) (fDisp fs) := by
  refine PE.le (pe_disp h.pps hall hl h0 h15) fun σ H Q q => ?_
  obtain ⟨al, sl, hq, rh, rs, q⟩ := q
  replace q : ThenO g al H (fDisp fs sl hq) Q := q
  unfold fDisp at q
  obtain ⟨ps, h1, e1, q⟩ := q.split
  intro p np
  refine dp_q fs al sl hq σ _ _ ps h1 (rh.new np) (rs.ex (Ex.new np)) e1 fun al' H' w rh' ex' rw' => ?_
  have nl : p ∉ al := rh.ninN np
  have hp := ex'.keep p _ nl (fun _ => by intro z; cases z) upd_same
  by_cases hc : ps.length ≤ 15
  · rw [if_pos hc] at q
    refine ⟨hp, w, rfl, by rw [← rw'.length]; exact hc, ?_⟩
    have nl' : p ∉ al' := ex'.nin upd_same nl
    have m : Mo al' al' H' (upd H' p (.dK (mergeK [] w))) := Mo.wr hp trivial
    exact q al' p _ _ (rh'.wr nl' hp trivial) (((Ex.new np).trans ex').wr np) nl' np upd_same ⟨_, rfl, _, rfl, (rk_merge rw' .nil).mo m⟩
  · rw [if_neg hc] at q; exact False.elim q
end
end Dy
end

section
set_option Elab.async false
set_option linter.all false
set_option maxRecDepth 100000
set_option maxHeartbeats 2000000
/-! Dy16: defs. -/
namespace Dy
open PySem PySem.Spec PyProof.Rows L2 GxR Gx

/-- a def's own run: its body from the parameters on -/
def runF (n : Nat) (F : FS) : List D → Hq → R D := fun ds h => match F (ds.map .va ++ List.replicate (n - ds.length) .no) h with
  | .nx _ h' => .ok .non h'
  | .rt d h' => .ok d h'
  | .er c fs h' => .er c fs h'
  | _ => .st
theorem rse_start {g : G} {al : List Addr} {H : Hp} {N : List Str} {ds : List D} {vs : List V} (r : Rvs g.K al H ds vs) : RSe g al H (ds.map .va ++ List.replicate (N.length - ds.length) .no) (L2.start N vs) := by
  unfold L2.start
  refine ⟨by simp [r.length], fun i d h => ?_⟩
  by_cases hi : i < ds.length
  · rw [List.getElem?_append_left (by simpa using hi), List.getElem?_map] at h
    obtain ⟨d', h1, h2⟩ := Option.map_eq_some_iff.mp h
    cases h2
    obtain ⟨v, h3, h4⟩ := r.get h1
    refine ⟨v, ?_, h4⟩
    rw [List.getElem?_append_left (by rw [List.length_map, ← r.length]; exact hi), List.getElem?_map, h3]
    rfl
  · rw [List.getElem?_append_right (by simpa using hi)] at h
    rw [List.getElem?_replicate] at h
    split at h <;> cases h
theorem run_q {g : G} {n : Nat} {N : List Str} {F : FS} {vs : List V} {H : Hp} {Q : VK} {E : XK} (h : spOf g n (runF N.length F) vs H Q E) : TDs g F { nx := fun _ H' => Q .non H', rt := Q } (L2.start N vs) H := by
  obtain ⟨al, hq, ds, rh, rvs, hl, q⟩ := h
  refine ⟨al, _, hq, rh, rse_start rvs, ?_⟩
  unfold runF at q
  cases hF : F (ds.map .va ++ List.replicate (N.length - ds.length) .no) hq with
  | nx sl h' =>
    rw [hF] at q
    exact fun al' σ' H' rh' ex' rs' => q al' .non H' rh' ex' .non
  | rt d h' => rw [hF] at q; exact q
  | bk sl h' => rw [hF] at q; exact False.elim q
  | ct sl h' => rw [hF] at q; exact False.elim q
  | er c fs h' => rw [hF] at q; exact False.elim q
  | st => rw [hF] at q; exact False.elim q
theorem sp_len {g : G} {n : Nat} {F : List D → Hq → R D} : ∀ vs H Q E, spOf g n F vs H Q E → vs.length = n := fun vs H Q E h => by
  obtain ⟨al, hq, ds, rh, rvs, hl, q⟩ := h
  rw [← rvs.length]; exact hl
section
variable {P : Program} {w : World} {K : PySem.W.Frag} {mg : Str → Option Value} {base : Heap} {g : G}
abbrev CalD (P : Program) (w : World) (K : PySem.W.Frag) (mg : Str → Option Value) (base : Heap) (g : G) (k : Nat) (x : Str) (n : Nat) (F : List D → Hq → R D) : Prop := C8.Cal P w K mg base k x (spOf g n F) []
abbrev MetD (P : Program) (w : World) (K : PySem.W.Frag) (mg : Str → Option Value) (base : Heap) (g : G) (k : Nat) (C : Addr) (m : Str) (n : Nat) (F : List D → Hq → R D) : Prop := C8.Met P w K mg base k C m (spOf g n F) []
abbrev MakD (P : Program) (w : World) (K : PySem.W.Frag) (mg : Str → Option Value) (base : Heap) (g : G) (k : Nat) (x : Str) (C : Addr) (n : Nat) (F : List D → Hq → R D) : Prop := C8.Mak P w K mg base k x C (spOf g n F) []
/-- the body of a def, wherever it is run -/
abbrev BodyD (P : Program) (w : World) (K : PySem.W.Frag) (mg : Str → Option Value) (base : Heap) (g : G) (k : Nat) (N : List Str) (qual : Str) (scope : Scope) (f : Addr) (cdv : Value) (body : List Stmt) (Fb : FS) : Prop :=
  ∀ (A : Around) (outer : List Env) (s : Shared) (H : Hp) (E : XK), Room k (A.deeper (envOfC qual scope s.heap.objs.size f cdv)) → SSs g (cxOf C8.CX0 P w K mg base N qual scope f cdv A outer s H E).nox body Fb
theorem fnD {x qual : Str} {params : Arguments} {body : List Stmt} {scope : Scope} {f : Addr} {fd : FuncData} {N ps : List Str} {k : Nat} {Fb : FS} (F : FunD K x qual params body scope [] [] f fd) (S : FnScope N ps scope) (n : Nat) (hn : ps.length = n)
    (hbody : ∀ cdv, BodyD P w K mg base g k N qual scope f cdv body Fb) : FnOk P w K mg base C8.CX0 (k + 1) f fd ps (spOf g n (runF N.length Fb)) :=
  F.ok S (fun vs H Q E h => by rw [hn]; exact sp_len vs H Q E h) fun cdv A outer s H vs Q E hr h => ⟨TDs g Fb, (hbody cdv A outer s H E hr).nox, run_q h⟩
end
section
variable {X : Cx} {g : G} {k j : Nat} {C : Addr} {x m : Str} {F : List D → Hq → R D} {p pos apos : Pos} {e o : Expr} {es : List Expr} {fo : FE} {fs : FI} {n : Nat}
theorem se_c (c : CalD X.prog X.w X.K X.mg X.base g k x n F) (hr : Room j X.A) (hk : k ≤ j) (hg : Gl X x) (ha : SA g X (e :: es) fs)
    (hdb : (x == ("__debug__" : Str)) = false) (he : starEach (e :: es) X.env = (false, eval e X.env) :: starEach es X.env) (hpl : (backTo pos (starEach es X.env)).any (·.1) = false) :
    SE g X (.Call (.Name x p) (e :: es) [] pos) (fCall n F fs) := PE.le (C8.pe_c c hr hk hg ha hdb he hpl) fun _ _ _ q => call_q q
theorem se_mk {ci : Nat} (hc : g.cls[ci]? = some C) (c : MakD X.prog X.w X.K X.mg X.base g k x C n F) (hr : Room j X.A) (hk : k + 1 ≤ j) (hg : Gl X x) (ha : SA g X (e :: es) fs)
    (hdb : (x == ("__debug__" : Str)) = false) (he : starEach (e :: es) X.env = (false, eval e X.env) :: starEach es X.env) (hpl : (backTo pos (starEach es X.env)).any (·.1) = false) :
    SE g X (.Call (.Name x p) (e :: es) [] pos) (fMake ci n F fs) := PE.le (C8.pe_mk c hr hk hg ha hdb he hpl) fun _ _ _ q => make_q hc q
theorem tNil_q {σ : L2.St} {H : Hp} {Q : List V → Hp → Prop} (q : TDa g aNil σ H Q) : tNil σ H Q := by
  obtain ⟨al, sl, hq, rh, rs, q⟩ := q
  exact q al [] H rh (Ex.refl _ _) .nil
theorem se_mk0 {ci : Nat} (hc : g.cls[ci]? = some C) (c : MakD X.prog X.w X.K X.mg X.base g k x C n F) (hr : Room j X.A) (hk : k + 1 ≤ j) (hg : Gl X x) (hdb : (x == ("__debug__" : Str)) = false) :
    SE g X (.Call (.Name x p) [] [] pos) (fMake ci n F aNil) := by
  obtain ⟨f, fd, ps, ds, M, Fn, hm, b, d⟩ := c.ex
  exact PE.le (pe_make0 (E := C8.E0) M Fn (hr.mono hk) hg hm b d C8.pass0 hdb) fun _ _ _ q => tNil_q (make_q hc q)
theorem se_mt {ci : Nat} {pl : Sem Bool} (hc : g.cls[ci]? = some C) (c : MetD X.prog X.w X.K X.mg X.base g k C m n F) (hr : Room j X.A) (hk : k ≤ j) (he : SE g X o fo) (ha : SA g X (e :: es) fs)
    (hst : starEach (e :: es) X.env = (false, eval e X.env) :: starEach es X.env) (hpl : (backTo pos (starEach es X.env)).any (·.1) = false)
    (ht : eval (.Call (.Attribute o m apos) (e :: es) [] pos) X.env = (do
      let ov ← eval o X.env
      standAt apos.atName
      let (f, first) ← holding [ov] (getMethod ov m pl)
      callWith pos f first (backTo pos (starEach (e :: es) X.env)) (backToKw pos (keywordEach [] X.env)))) :
    SE g X (.Call (.Attribute o m apos) (e :: es) [] pos) (fMeth ci m n F fo fs) := PE.le (C8.pe_mt (pl := pl) c hr hk he ha hst hpl ht) fun _ _ _ q => meth_q hc q
end
end Dy
end

section
set_option Elab.async false
set_option linter.all false
set_option maxRecDepth 100000
set_option maxHeartbeats 2000000
/-! Dy17: one rule for each construct, whatever the values are. -/
namespace Dy
open PySem PySem.Spec PyProof.Rows L2 GxR Gx

section
variable {X : Cx} {g : G}
theorem litems_rd {al : List Addr} {hq : Hq} {H : Hp} {d : D} {v : V} {ds : List D} (rh : RH g al hq H) (r : Rv g.K al H d v) (h : litems hq d = some ds) : ∃ a vs, v = .ref a ∧ Rd H a (.lst vs) ∧ Rvs g.K al H ds vs := by
  cases r with
  | lst ha ra =>
    cases h
    obtain ⟨o, z, _⟩ := ha
    exact ⟨_, _, rfl, .inr ⟨o, z⟩, ra⟩
  | @ref n a e =>
    have h' : (match rdC hq n with
      | some (.lst ds) => some ds
      | _ => none) = some ds := h
    cases z : rdC hq n with
    | none => rw [z] at h'; cases h'
    | some c =>
      rw [z] at h'
      cases c with
      | lst ks =>
        cases h'
        obtain ⟨a', w, e1, e2, e3⟩ := cell_lst rh (.ref e) z
        cases e1
        exact ⟨a, w, rfl, e2, e3⟩
      | _ => cases h'
  | _ => cases h
/-! ### list + list -/
def rCatX : R2 := fun x y H Q => ∃ l b xs zs, x = .ref l ∧ y = .ref b ∧ Rd H l (.lst xs) ∧ Rd H b (.lst zs) ∧ xs.length + zs.length ≤ sizeLine ∧ ∀ p, H p = none → Q (.ref p) (upd H p (.lst (xs ++ zs)))
theorem op_catX : OpR X (binaryOp .Add) rCatX := by
  intro pins s σ H x y v u Q I rx ry h
  obtain ⟨l, b, xs, zs, rfl, rfl, hH, hB, hz, q⟩ := h
  cases rx
  cases ry
  obtain ⟨z, its, n, r, e⟩ := hH.ok I.hok
  obtain ⟨z2, its2, n2, r2, e2⟩ := hB.ok I.hok
  have hl := r.length
  have hl2 := r2.length
  refine PySem.P.add_list e e2 ?_ (by rw [List.size_toArray, List.size_toArray]; omega)
  have ea : its.toArray ++ its2.toArray = (its ++ its2).toArray := by simp
  rw [ea]
  exact ⟨.ref _, _, I.lnew (t' := s.toks) (r.append r2) (by rw [List.length_append]; omega), rfl, q _ I.fresh⟩
/-- + of any values; a list's is frozen -/
def opAddX (x y : D) (h : Hq) : R D := match litems h x, litems h y with
  | some a, some b => if a.length + b.length ≤ LIM then .ok (.lst (a ++ b)) h else .st
  | _, _ => opAdd x y h
theorem op_addX : OpR X (binaryOp .Add) (fun x y H Q => rCatX x y H (Frzd Q) ∨ rAddA X.K x y H Q) := OpR.or (OpR.frz op_catX) op_addA
theorem os_addX : OpS g opAddX (fun x y H Q => rCatX x y H (Frzd Q) ∨ rAddA g.K x y H Q) := by
  intro al hq H x y vx vy Q rh rx ry q
  unfold opAddX at q
  cases zx : litems hq x with
  | none => simp only [zx] at q; exact .inr (os_add al hq H x y vx vy Q rh rx ry q)
  | some a =>
    cases zy : litems hq y with
    | none => simp only [zx, zy] at q; exact .inr (os_add al hq H x y vx vy Q rh rx ry q)
    | some b =>
      simp only [zx, zy] at q
      by_cases hl : a.length + b.length ≤ LIM
      · rw [if_pos hl] at q
        obtain ⟨l, xs, rfl, h1, r1⟩ := litems_rd rh rx zx
        obtain ⟨m, ys, rfl, h2, r2⟩ := litems_rd rh ry zy
        refine .inl ⟨l, m, xs, ys, rfl, rfl, h1, h2, by rw [lim_eq, ← r1.length, ← r2.length]; exact hl, fun p np => .inr ⟨p, _, rfl, upd_same, trivial, fun ob => ?_⟩⟩
        have nin := rh.ninN np
        have ex : Ex al al H (upd (upd H p (.lst (xs ++ ys))) p (.frz ob (.lst (xs ++ ys)))) := (Ex.new np).wr np
        exact q al (.ref p) _ ((rh.new np).wr nin upd_same trivial) ex (.lst ⟨ob, upd_same, nin⟩ ((r1.append r2).mo ex.mo))
      · rw [if_neg hl] at q; exact False.elim q
def opCat (x y : D) (h : Hq) : R D := match litems h x, litems h y with
  | some a, some b => if a.length + b.length ≤ LIM then .ok (.lst (a ++ b)) h else .st
  | _, _ => .st
theorem os_cat : OpO g opCat rCatX := by
  intro al hq H x y vx vy Q rh rx ry q
  unfold opCat at q
  cases zx : litems hq x with
  | none => simp only [zx] at q; exact False.elim q
  | some a =>
    cases zy : litems hq y with
    | none => simp only [zx, zy] at q; exact False.elim q
    | some b =>
      simp only [zx, zy] at q
      by_cases hl : a.length + b.length ≤ LIM
      · rw [if_pos hl] at q
        obtain ⟨l, xs, rfl, h1, r1⟩ := litems_rd rh rx zx
        obtain ⟨m, ys, rfl, h2, r2⟩ := litems_rd rh ry zy
        exact ⟨l, m, xs, ys, rfl, rfl, h1, h2, by rw [lim_eq, ← r1.length, ← r2.length]; exact hl, fun p np => q.new rh (Ex.refl _ _) np ⟨_, rfl, _, rfl, (r1.append r2).mo (Mo.new np)⟩⟩
      · rw [if_neg hl] at q; exact False.elim q
/-! ### x[i] of anything -/
def rIxD : R2 := fun x y H Q => ∃ a v, x = .ref a ∧ DGet H a y (some v) ∧ Q v H
theorem ix_dict (hu : X.A.units + 1 < cLine) : IxR X rIxD := by
  intro value slice pins s σ H x y v u Q I rx ry h hs
  obtain ⟨a, w, rfl, hg, q⟩ := h
  cases rx
  exact tail_any (dict_typeIs I hg) PySem.F.slot_dict_getitem.lookup (d_getItem hu I hg ry fun w' s3 I3 rw' => ⟨w, H, I3, rw', q⟩) hs
def opSub_ (x y : D) (h : Hq) : R D := if dictD h x = true then opDix x y h else opIdx x y h
theorem os_sub_ : OpS g opSub_ (fun x y H Q => rIx g.K x y H Q ∨ rIxD x y H Q) := by
  intro al hq H x y vx vy Q rh rx ry q
  unfold opSub_ at q
  split at q
  · right
    unfold opDix at q
    cases z : dget hq x y with
    | none => rw [z] at q; exact False.elim q
    | some r =>
      rw [z] at q
      cases r with
      | none => exact False.elim q
      | some d =>
        obtain ⟨a, o, rfl, hg, _, ho⟩ := dget_ok rh rx ry z
        rcases ho with ⟨x', v', e1, rfl, rv⟩ | ⟨e1, _⟩
        · cases e1; exact ⟨a, v', rfl, hg, q.ok rh rv⟩
        · cases e1
  · exact .inl (os_idx al hq H x y vx vy Q rh rx ry q)
theorem se_sub {a b : Expr} {pos : Pos} {fa fb : FE} (hK : X.K = g.K) (hu : X.A.units + 1 < cLine) (ha : SE g X a fa) (hb : SE g X b fb) (hs : PlainIx b) : SE g X (.Subscript a b pos) (fBin opSub_ fa fb) :=
  PE.le (pe_ix (IxR.or (hK ▸ ix_seq) (ix_dict hu)) ha hb hs) fun _ _ _ q => two os_sub_ q
end
/-! ### what is walked, of any kind -/
def itemsW (h : Hq) : D → Option (List D × Hq)
  | .tup ds => some (ds, h)
  | .kt ds => some (ds, h)
  | .pt ds => some (ds, h)
  | .lst ds => some (ds, h)
  | .str x => some (signs x, h)
  | .dk kvs => some (kvs.map fun p => keyD p.1, h)
  | .ref n => match h[n]? with
    | some (.dk kvs) => some (kvs.map fun p => keyD p.1, h.set n (.lk (.dk kvs)))
    | some (.lk (.dk kvs)) => some (kvs.map fun p => keyD p.1, h)
    | some (.lst ds) => some (ds, h.set n (.lk (.lst ds)))
    | some (.lk (.lst ds)) => some (ds, h)
    | _ => none
  | _ => none
def iAny (fa : FE) : FI := fun sl h => (fa sl h).bind fun d h1 => match itemsW h1 d with
  | some (ds, h2) => .ok ds h2
  | none => .st
section
variable {X : Cx} {g : G} {tg a : Expr} {fa : FE}
theorem pi_any {l : Expr} {tl : TE} (hl : PE X l tl) : PI X tg l (fun σ H R => tl σ H fun x H1 =>
    (∃ a, x = .ref a ∧ (((∃ xs, SqL X.K H1 a xs) ∧ R (Itl X.K a) H1) ∨ ((∃ xs, SqT X.K H1 a xs) ∧ R (Itt X.K a) H1) ∨ (∃ o kvs, H1 a = some (.frz o (.dK kvs)) ∧ R (Itk a o kvs) H1) ∨ (∃ kvs, H1 a = some (.dK kvs) ∧ ∀ o, R (Itk a o kvs) (upd H1 a (.frz o (.dK kvs)))) ∨ ∃ xs, H1 a = some (.lst xs) ∧ ∀ o, R (Itl X.K a) (upd H1 a (.frz o (.lst xs))))) ∨
      ∃ z, x = .str z ∧ R (Its z) H1) := by
  refine ⟨fun pins s σ H R I h => ?_⟩
  refine thn (hl.run pins s σ H _ I h) fun v s1 ⟨x, H1, I1, r1, q1⟩ => ?_
  have keys : ∀ {H1 : Hp} {d : Addr} {o : Obj} {kvs : List (Key × V)}, Inv X pins σ H1 s1 → H1 d = some (.frz o (.dK kvs)) → R (Itk d o kvs) H1 → wpAny (model X.prog X.w) X.A (pyIter (.ref d)) (PIE X pins σ tg R) X.xe s1 := fun {H1 d o kvs} I1 hd q => by
    obtain ⟨hs, hgd, hx, es, ep, vs, hdt, hsz, kv, hm⟩ := I1.frzK hd
    refine iter_keys hs hgd hx hdt (pi_one (tk := s1.toks) I1 _ (turn_keys _ hdt) ⟨_, Heap.get?_push_size _ rfl, rfl, ?_⟩ q)
    rw [hsz] <;> rfl
  rcases q1 with ⟨a, rfl, q1⟩ | ⟨z, rfl, q1⟩
  · cases r1
    have fin : ∀ b ∈ [s1.heap.objs.size], FpOk X pins H1 b := fun b hb => by
      have e : b = s1.heap.objs.size := by simpa using hb
      subst e
      exact I1.fpOk (Nat.le_refl _) (I1.hok.fresh (Nat.le_refl _))
    rcases q1 with ⟨⟨xs, hq⟩, q⟩ | ⟨⟨xs, hq⟩, q⟩ | ⟨o, kvs, hq, q⟩ | ⟨kvs, hq, q⟩ | ⟨xs, hq, q⟩
    · obtain ⟨its, rv, p, hz⟩ := I1.list hq
      refine wpAny_pyIter_list p.isList ?_
      exact ⟨s1.heap.objs.size, [s1.heap.objs.size], _, _, H1, rfl, I1.kept (t' := s1.toks) fun b o e => Heap.get?_push_of_some _ e, turn_list a _, ⟨_, Heap.get?_push_size _ rfl, rfl, rfl⟩, fin, q⟩
    · obtain ⟨its, rv, p, hz⟩ := I1.tuple hq
      refine wpAny_pyIter_tuple (show s1.heap.IsTuple a its.toArray from p) ?_
      exact ⟨s1.heap.objs.size, [s1.heap.objs.size], _, _, H1, rfl, I1.kept (t' := s1.toks) fun b o e => Heap.get?_push_of_some _ e, turn_tuple a _, ⟨_, Heap.get?_push_size _ rfl, rfl, rfl⟩, fin, q⟩
    · exact keys I1 hq q
    · obtain ⟨od, I2⟩ := I1.lock hq trivial
      exact keys I2 upd_same (q od)
    · obtain ⟨od, I2⟩ := I1.lock hq trivial
      have hq2 : SqL X.K (upd H1 a (.frz od (.lst xs))) a xs := .inl (.inr ⟨od, upd_same⟩)
      obtain ⟨its, rv, p, hz⟩ := I2.list hq2
      refine wpAny_pyIter_list p.isList (pi_one (tk := s1.toks) I2 _ (turn_list a _) ⟨_, Heap.get?_push_size _ rfl, rfl, rfl⟩ (q od))
  · obtain ⟨t, rfl⟩ := r1
    cases ha : z.cps.all (· < 128)
    · exact wpAny_pyIter_wide ha (pi_one (tk := s1.toks) I1 _ (turn_str _ z t "str_iterator" (.inr rfl)) ⟨_, Heap.get?_push_size _ rfl, rfl, rfl⟩ q1)
    · exact wpAny_pyIter_ascii ha (pi_one (tk := s1.toks) I1 _ (turn_str _ z t "str_ascii_iterator" (.inl rfl)) ⟨_, Heap.get?_push_size _ rfl, rfl, rfl⟩ q1)
theorem wk_listK {al : List Addr} {H : Hp} {b : Addr} {ds : List D} {vs : List V} (h : ∀ al1 H1, Ex al al1 H H1 → SqL g.K H1 b vs) (r : Rvs g.K al H ds vs) : Wk g al H ds (Itl g.K b) := by
  intro al1 hq1 H1 i rh1 ex1
  have h1 := h al1 H1 ex1
  have r1 := r.mo ex1.mo
  refine ⟨fun d hd => ?_, fun hi => ⟨vs, h1, by rw [← r.length]; exact hi⟩⟩
  obtain ⟨v, e1, rv⟩ := r1.get hd
  refine ⟨⟨vs, v, h1, e1⟩, fun x H2 hy => ?_⟩
  obtain ⟨rfl, hy⟩ := hy
  have e2 := hy vs h1
  rw [e1] at e2
  cases e2
  exact ⟨rh1, Ex.refl _ _, rv⟩
theorem si_any (hK : X.K = g.K) (ha : SE g X a fa) : SI g X tg a (iAny fa) := by
  refine PI.le (pi_any ha) fun σ H Q q => ?_
  obtain ⟨al, sl, hq, rh, rs, q⟩ := q
  unfold iAny at q
  obtain ⟨d, h1, e, q⟩ := q.split
  refine ⟨al, sl, hq, rh, rs, ?_⟩
  rw [e]
  intro al1 v H1 rh1 ex1 rv
  replace q := q.later ex1
  rw [hK]
  cases rv with
  | @tup b ds vs hb rb => exact .inl ⟨b, rfl, .inr (.inl ⟨⟨vs, .inl (.inl hb)⟩, q al1 H1 _ rh1 (Ex.refl _ _) (wk_tup (fun al2 H2 ex2 => .inl (.inl (ex2.tup _ _ hb))) rb)⟩)⟩
  | @kt b ds vs hb rb => exact .inl ⟨b, rfl, .inr (.inl ⟨⟨vs, hb.sq⟩, q al1 H1 _ rh1 (Ex.refl _ _) (wk_tup (fun al2 H2 ex2 => hb.sq) rb)⟩)⟩
  | @lst b ds vs hb rb => exact .inl ⟨b, rfl, .inl ⟨⟨vs, hb.sq⟩, q al1 H1 _ rh1 (Ex.refl _ _) (wk_list hb rb)⟩⟩
  | @pt b o ds vs hb nb _ rb => exact .inl ⟨b, rfl, .inr (.inl ⟨⟨vs, .inl (.inr ⟨o, hb⟩)⟩, q al1 H1 _ rh1 (Ex.refl _ _) (wk_tup (fun al2 H2 ex2 => .inl (.inr ⟨o, ex2.frz _ _ _ hb⟩)) rb)⟩)⟩
  | str x => exact .inr ⟨x, rfl, q al1 H1 _ rh1 (Ex.refl _ _) wk_str⟩
  | @dk b o kvs w hb nb ek rk => exact .inl ⟨b, rfl, .inr (.inr (.inl ⟨o, w, hb, q al1 H1 _ rh1 (Ex.refl _ _) (wk_keys (fun al2 H2 ex2 => ex2.frz _ _ _ hb) ek)⟩))⟩
  | @ref n b e0 =>
    cases z : h1[n]? with
    | none => simp only [itemsW, z] at q; exact False.elim q
    | some c =>
      cases c with
      | dk kvs =>
        simp only [itemsW, z] at q
        obtain ⟨a', ob, ev, hn, hal, hH, rc⟩ := cell_wr rh1 (.ref e0) z
        cases ev
        obtain ⟨w, rfl, rw'⟩ := rc
        refine .inl ⟨b, rfl, .inr (.inr (.inr (.inl ⟨w, hH, fun od => ?_⟩)))⟩
        have m : Mo al1 al1 H1 (upd H1 b (.frz od (.dK w))) := Mo.wr hH trivial
        have rh2 : RH g al1 (h1.set n (.lk (.dk kvs))) (upd H1 b (.frz od (.dK w))) := rh1.put hn hH trivial ⟨od, _, rfl, w, rfl, rw'.mo m⟩
        exact q al1 _ _ rh2 (Ex.put hal hH trivial) (wk_keys (fun al2 H2 ex2 => ex2.frz _ _ _ upd_same) rw'.1)
      | lk c =>
        cases c with
        | dk kvs =>
          simp only [itemsW, z] at q
          obtain ⟨a', ob, ev, hn, hal, hH, rc⟩ := cell_wr rh1 (.ref e0) z
          cases ev
          obtain ⟨od, u, rfl, w, rfl, rw'⟩ := rc
          exact .inl ⟨b, rfl, .inr (.inr (.inl ⟨od, w, hH, q al1 H1 _ rh1 (Ex.refl _ _) (wk_keys (fun al2 H2 ex2 => ex2.frz _ _ _ hH) rw'.1)⟩))⟩
        | lst ds =>
          simp only [itemsW, z] at q
          obtain ⟨a', ob, ev, hn, hal, hH, rc⟩ := cell_wr rh1 (.ref e0) z
          cases ev
          obtain ⟨od, u, rfl, w, rfl, rw'⟩ := rc
          exact .inl ⟨b, rfl, .inl ⟨⟨w, .inl (.inr ⟨od, hH⟩)⟩, q al1 H1 _ rh1 (Ex.refl _ _) (wk_listK (fun al2 H2 ex2 => .inl (.inr ⟨od, ex2.frz _ _ _ hH⟩)) rw')⟩⟩
        | _ => simp only [itemsW, z] at q; exact False.elim q
      | lst ds =>
        simp only [itemsW, z] at q
        obtain ⟨a', ob, ev, hn, hal, hH, rc⟩ := cell_wr rh1 (.ref e0) z
        cases ev
        obtain ⟨w, rfl, rw'⟩ := rc
        refine .inl ⟨b, rfl, .inr (.inr (.inr (.inr ⟨w, hH, fun od => ?_⟩)))⟩
        have m : Mo al1 al1 H1 (upd H1 b (.frz od (.lst w))) := Mo.wr hH trivial
        have rh2 : RH g al1 (h1.set n (.lk (.lst ds))) (upd H1 b (.frz od (.lst w))) := rh1.put hn hH trivial ⟨od, _, rfl, w, rfl, rw'.mo m⟩
        exact q al1 _ _ rh2 (Ex.put hal hH trivial) (wk_listK (fun al2 H2 ex2 => .inl (.inr ⟨od, ex2.frz _ _ _ upd_same⟩)) (rw'.mo m))
      | _ => simp only [itemsW, z] at q; exact False.elim q
  | _ => exact False.elim q
/-! ### slices of anything -/
theorem SlR.frz {r : V → Option Int → Option Int → Hp → VK → Prop} (h : SlR X r) : SlR X (fun x lo hi H Q => r x lo hi H (Frzd Q)) := by
  intro pins s σ H x v vl vu lo hi sl Q I rx hs pl pu q
  obtain ⟨T, id, h1, h2, h3⟩ := h pins s σ H x v vl vu lo hi sl (Frzd Q) I rx hs pl pu q
  refine ⟨T, id, h1, h2, thn h3 fun v s1 ⟨x, H1, I1, r1, q1⟩ => ?_⟩
  rcases q1 with q1 | ⟨p, u, rfl, hp, mu, q1⟩
  · exact ⟨x, H1, I1, r1, q1⟩
  · obtain ⟨od, I2⟩ := I1.lock hp mu
    exact ⟨_, _, I2, r1, q1 od⟩
def fSlA (fe : FE) (fl fh : FO) : FE := fun sl h => (fe sl h).bind fun d h1 => (fl sl h1).bind fun lo h2 => (fh sl h2).bind fun hi h3 => match litems h3 d with
  | some ds => .ok (.lst (cutD ds lo hi)) h3
  | none => match d with
    | .str a => if a.length ≤ LIM then .ok (.str (cutS a lo hi)) h3 else .st
    | .tup ds => .ok (if HT.sIx ds.length 0 lo = 0 ∧ HT.sIx ds.length ds.length hi = ds.length then .tup ds else .tup (cutD ds lo hi)) h3
    | .kt ds => .ok (if HT.sIx ds.length 0 lo = 0 ∧ HT.sIx ds.length ds.length hi = ds.length then .kt ds else .tup (cutD ds lo hi)) h3
    | _ => .st
theorem se_slA {e : Expr} {fe : FE} {lo hi : Option Expr} {fl fh : FO} {p2 pos : Pos} (hK : X.K = g.K) (he : SE g X e fe) (hl : SP_ g X lo fl) (hh : SP_ g X hi fh) : SE g X (.Subscript e (.Slice lo hi none p2) pos) (fSlA fe fl fh) := by
  refine PE.le (pe_slice (SlR.or (SlR.frz sl_list) sl_X) he hl hh) fun σ H Q q => ?_
  obtain ⟨al, sl, hq, rh, rs, q⟩ := q
  replace q : Then g al H (fSlA fe fl fh sl hq) Q := q
  unfold fSlA at q
  obtain ⟨d, h1, e1, q⟩ := q.split
  obtain ⟨l, h2, e2, q⟩ := q.split
  obtain ⟨u, h3, e3, q⟩ := q.split
  refine ⟨al, sl, hq, rh, rs, ?_⟩
  rw [e1]
  intro al1 v H1 rh1 ex1 rv
  refine TDp.split rh1 (rs.ex ex1) e2 fun al2 H2 rh2 ex2 => TDp.split rh2 ((rs.ex ex1).ex ex2) e3 fun al3 H3 rh3 ex3 => ?_
  replace q := q.later (ex1.trans (ex2.trans ex3))
  replace rv := (rv.mo ex2.mo).mo ex3.mo
  rw [hK]
  cases z : litems h3 d with
  | some ds =>
    simp only [z] at q
    obtain ⟨a, vs, rfl, hs, rvs⟩ := litems_ok rh3 rv z
    refine .inl ⟨a, vs, rfl, hs, fun p np => .inr ⟨p, _, rfl, upd_same, trivial, fun ob => ?_⟩⟩
    have nin := rh3.ninN np
    have ex : Ex al3 al3 H3 (upd (upd H3 p (.lst (cutV vs l u))) p (.frz ob (.lst (cutV vs l u)))) := (Ex.new np).wr np
    exact q al3 (.ref p) _ ((rh3.new np).wr nin upd_same trivial) ex (.lst ⟨ob, upd_same, nin⟩ ((cutD_rv rvs l u).mo ex.mo))
  | none =>
    simp only [z] at q
    right
    cases rv with
    | str a =>
      by_cases hz : a.length ≤ LIM
      · simp only [hz, if_true] at q
        exact .inl ⟨a, rfl, by rw [lim_eq]; exact hz, q.ok rh3 (.str _)⟩
      · simp only [hz, if_false] at q; exact False.elim q
    | tup ha ra =>
      refine .inr ⟨_, _, rfl, .inl (.inl ha), fun c => ?_, fun c p np => ?_⟩
      · rw [← ra.length] at c
        simp only [c, and_self, if_true] at q
        exact q.ok rh3 (.tup ha ra)
      · rw [← ra.length] at c
        simp only [c, if_false] at q
        exact q al3 _ _ (rh3.new np) (Ex.new np) (.tup upd_same ((cutD_rv ra l u).mo (Mo.new np)))
    | kt ha ra =>
      refine .inr ⟨_, _, rfl, ha.sq, fun c => ?_, fun c p np => ?_⟩
      · rw [← ra.length] at c
        simp only [c, and_self, if_true] at q
        exact q.ok rh3 (.kt ha ra)
      · rw [← ra.length] at c
        simp only [c, if_false] at q
        exact q al3 _ _ (rh3.new np) (Ex.new np) (.tup upd_same ((cutD_rv ra l u).mo (Mo.new np)))
    | _ => exact False.elim q
/-! ### x[i] = v of anything -/
def cellL (h : Hq) : D → Bool
  | .ref n => match h[n]? with
    | some (.lst _) => true
    | _ => false
  | _ => false
def fPut (fo fi fv : FE) : FS := fun sl h => (fv sl h).toS fun y h1 => (fo sl h1).toS fun x h2 => (fi sl h2).toS fun k h3 => match x with
  | .ref n => (match h3[n]? with
    | some (.lst ds) => (match k with
      | .int k => (match ixN ds.length k with
        | some j => .nx sl (h3.set n (.lst (ds.set j y)))
        | none => .st)
      | _ => .st)
    | some (.dk kvs) => (match keyOf k with
      | some k => if kvs.length < LIM then .nx sl (h3.set n (.dk (put kvs k y))) else .st
      | none => .st)
    | some (.dt kvs) => (match tkeys k with
      | some k => if kvs.length < LIM then .nx sl (h3.set n (.dt (put kvs k y))) else .st
      | none => .st)
    | _ => .st)
  | _ => .st
theorem PSet.or {t t' : TSet} (h : PSet X t) (h' : PSet X t') : PSet X (fun o i v H Q => t o i v H Q ∨ t' o i v H Q) := by
  intro pins s σ H o i v ov iv u Q I ro ri rv q
  rcases q with q | q
  · exact h pins s σ H o i v ov iv u Q I ro ri rv q
  · exact h' pins s σ H o i v ov iv u Q I ro ri rv q
theorem set_dictD (hu : X.A.units + 1 < cLine) : PSet X (fun o i v H Q => ∃ a H', o = .ref a ∧ DPut H a i v H' ∧ Q H') := by
  intro pins s σ H o i v ov iv u Q I ro ri rv h
  obtain ⟨a, H', eo, g, q⟩ := h
  subst eo
  cases (show ov = Value.ref a from ro)
  exact d_setItem hu I g ri rv fun s' I' => ⟨H', I', q⟩
theorem ss_put {o i value : Expr} {fo fi fv : FE} {pos pos' : Pos} (hu : X.A.units + 1 < cLine) (ho : SE g X o fo) (hi : SE g X i fi) (hv : SE g X value fv)
    (ha : ∀ v, assign (.Subscript o i pos') X.env v = (do
      let ov ← holding [v] (eval o X.env)
      let iv ← holding [v, ov] (eval i X.env)
      standAt pos'
      holding [v, ov, iv] (setItem ov iv v)
      release [v, ov, iv] []))
    (hs : swapsWithSole [.Subscript o i pos'] value pos.line X.env = pure false) (hw : swappedStores [.Subscript o i pos'] value X.env = pure none)
    (h1 : (assignEach [.Subscript o i pos'] X.env).map (·.2) = [assign (.Subscript o i pos') X.env]) :
    SS g X (.Assign [.Subscript o i pos'] value pos) (fPut fo fi fv) := PS.le (ps_asg hv (pg_sub ho hi (PSet.or set_list (set_dictD hu)) ha) hs hw h1) fun E σ H q => by
  obtain ⟨al, sl, hq, rh, rs, q⟩ := q
  replace q : ThenS g al H (fPut fo fi fv sl hq) E := q
  unfold fPut at q
  obtain ⟨y, h1, e1, q⟩ := q.split
  obtain ⟨x, h2, e2, q⟩ := q.split
  obtain ⟨k, h3, e3, q⟩ := q.split
  refine ⟨al, sl, hq, rh, rs, ?_⟩
  rw [e1]
  intro al1 vy H1 rh1 ex1 ry
  refine ⟨al1, sl, h1, rh1, rs.ex ex1, ?_⟩
  rw [e2]
  intro al2 vx H2 rh2 ex2 rx
  refine ⟨al2, sl, h2, rh2, (rs.ex ex1).ex ex2, ?_⟩
  rw [e3]
  intro al3 vk H3 rh3 ex3 rk
  replace q := ((q.later ex1).later ex2).later ex3
  have rx3 := rx.mo ex3.mo
  have ry3 := (ry.mo ex2.mo).mo ex3.mo
  have rs3 := ((rs.ex ex1).ex ex2).ex ex3
  cases x with
  | ref n =>
    cases z : h3[n]? with
    | none => simp only [z] at q; exact False.elim q
    | some cc =>
      cases cc with
      | lst ds =>
        cases rk with
        | int k =>
          simp only [z] at q
          cases ek : ixN ds.length k with
          | none => simp only [ek] at q; exact False.elim q
          | some j =>
            simp only [ek] at q
            obtain ⟨a, ob, rfl, hn, ha, hH, rc⟩ := cell_wr rh3 rx3 z
            obtain ⟨w, rfl, rw'⟩ := rc
            have m : Mo al3 al3 H3 (upd H3 a (.lst (w.set j vy))) := Mo.wr hH trivial
            refine .inl ⟨a, w, k, j, rfl, rfl, hH, by rw [← rw'.length]; exact ek, ?_⟩
            exact q al3 σ _ (rh3.put hn hH trivial (RC0.rc (c := .lst (ds.set j y)) ⟨_, rfl, Rvs.set (ry3.mo m) j (rw'.mo m)⟩)) (Ex.put ha hH trivial) (rs3.ex (Ex.put ha hH trivial))
        | _ => simp only [z] at q; exact False.elim q
      | dk kvs =>
        simp only [z] at q
        cases ek : keyOf k with
        | none => simp only [ek] at q; exact False.elim q
        | some kk =>
          simp only [ek] at q
          by_cases hl : kvs.length < LIM
          · rw [if_pos hl] at q
            obtain ⟨a, ob, rfl, hn, ha, hH, rc⟩ := cell_wr rh3 rx3 z
            obtain ⟨w, rfl, rw'⟩ := rc
            have m : Mo al3 al3 H3 (upd H3 a (.dK (putK w kk vy))) := Mo.wr hH trivial
            refine .inr ⟨a, _, rfl, .inl ⟨w, kk, hH, keyOf_ok rk ek, by rw [lim_eq, ← rw'.length]; exact hl, rfl⟩, ?_⟩
            exact q al3 σ _ (rh3.put hn hH trivial (RC0.rc (c := .dk (put kvs kk y)) ⟨_, rfl, Rk.put (ry3.mo m) kk (rw'.mo m)⟩)) (Ex.put ha hH trivial) (rs3.ex (Ex.put ha hH trivial))
          · rw [if_neg hl] at q; exact False.elim q
      | dt kvs =>
        simp only [z] at q
        cases ek : tkeys k with
        | none => simp only [ek] at q; exact False.elim q
        | some kk =>
          simp only [ek] at q
          by_cases hl : kvs.length < LIM
          · rw [if_pos hl] at q
            obtain ⟨a, ob, rfl, hn, ha, hH, rc⟩ := cell_wr rh3 rx3 z
            obtain ⟨w, rfl, rw'⟩ := rc
            have m : Mo al3 al3 H3 (upd H3 a (.dT (putK w kk vy))) := Mo.wr hH trivial
            obtain ⟨b, ev, hb⟩ := tkeys_ok rk ek
            refine .inr ⟨a, _, rfl, .inr ⟨w, kk, b, hH, ev, hb, by rw [lim_eq, ← rw'.length]; exact hl, rfl⟩, ?_⟩
            exact q al3 σ _ (rh3.put hn hH trivial (RC0.rc (c := .dt (put kvs kk y)) ⟨_, rfl, Rk.put (ry3.mo m) kk (rw'.mo m)⟩)) (Ex.put ha hH trivial) (rs3.ex (Ex.put ha hH trivial))
          · rw [if_neg hl] at q; exact False.elim q
      | _ => simp only [z] at q; exact False.elim q
  | _ => exact False.elim q
end
end Dy
end

section
set_option Elab.async false
set_option linter.all false
set_option maxRecDepth 100000
set_option maxHeartbeats 2000000
/-! Dy18: the rules in short, side conditions by default. -/
namespace Dy
open PySem PySem.Spec PyProof.Rows L2 GxR Gx

/-- * of ints, of a text and an int -/
def opMulX (x y : D) (h : Hq) : R D := match x with
  | .str _ => opRep x y h
  | _ => opMul x y h
section
variable {X : Cx} {g : G}
theorem op_mulX : OpR X (binaryOp .Mult) (fun x y H Q => rRepS x y H Q ∨ (rI CMul fun i j => .int (i * j)) x y H Q) := OpR.or op_rep2 op_mul
theorem os_mulX : OpS g opMulX (fun x y H Q => rRepS x y H Q ∨ (rI CMul fun i j => .int (i * j)) x y H Q) := by
  intro al hq H x y vx vy Q rh rx ry q
  unfold opMulX at q
  split at q
  · exact .inl (os_rep al hq H _ y vx vy Q rh rx ry q)
  · exact .inr (os_mul al hq H x y vx vy Q rh rx ry q)
end
theorem hu0 {A : Around} {k : Nat} (hr : Room k A) : A.units < cLine := by have := hr.un; omega
theorem hu1 {A : Around} {k : Nat} (hr : Room k A) : A.units + 1 < cLine := by have := hr.un; omega
theorem hu64 {A : Around} {k : Nat} (hr : Room k A) : A.units + 64 < cLine := by have := hr.un; omega
theorem hu65 {A : Around} {k : Nat} (hr : Room k A) : A.units + 65 < cLine := by have := hr.un; omega
/-- a constant of the top -/
structure GlD (K : PySem.W.Frag) (mg : Str → Option Value) (x : Str) (d : D) : Prop where
  ex : ∃ v u, mg x = some u ∧ RelV v u ∧ ∀ al H, Rv K al H d v

namespace W
section
variable {X : Cx} {g : G} {a b c e o tg value : Expr} {es rest : List Expr} {fa fb fc fe fo fi fv ff : FE} {fs : FI} {ba bb bc : FT} {p pos pos' apos cpos : Pos} {k j n : Nat} {x f : Str} {op : Operator} {cop cop' : CmpOp} {r r' : R2} {oo oo' : D → D → Hq → R D}
theorem v (i : Nat) (hN : X.N[i]? = some x := by rfl) (hv : Vis X.env.scope x := by first | exact Or.inl rfl | exact Or.inr (Or.inl rfl) | exact Or.inr (Or.inr rfl)) (hd : (x == ("__debug__" : Str)) = false := by decide)
    (hcd : (x == ("__classdict__" : Str)) = false := by decide) : SE g X (.Name x pos) (fVar i) := se_var hN hv hd hcd
theorem gl {d : D} (h : GlD g.K X.mg x d) (hg : Gl X x := by rfl) (hd : (x == ("__debug__" : Str)) = false := by decide) : SE g X (.Name x pos) (fC d) := by
  obtain ⟨v, u, h1, h2, h3⟩ := h.ex
  exact se_glob hg h1 h2 hd h3
theorem neg {k : Nat} {i : Int} {p2 : Pos} : SE g X (.UnaryOp .USub (.Constant (.int i) k p2) pos) (fC (.int (-i))) := by
  refine PE.le (pe_un un_neg pe_int) fun σ H Q q => ?_
  obtain ⟨al, sl, hq, rh, rs, q⟩ := q
  exact ⟨i, rfl, Then.ok q rh (.int _)⟩
theorem an : SA g X [] aNil := sa_nil
theorem ac (ha : SE g X a fa) (hr : SA g X es fs) (hs : starEach (a :: es) X.env = (false, eval a X.env) :: starEach es X.env := by rfl) : SA g X (a :: es) (aCons fa fs) := sa_cons ha hr hs
theorem as_ (he : SE g X e fe) (hr : SA g X es fs) (hK : X.K = g.K := by rfl) (hs : starEach (.Starred e p :: es) X.env = (true, eval e X.env) :: starEach es X.env := by rfl) : SA g X (.Starred e p :: es) (aStar fe fs) := sa_star hK he hr hs
theorem bi (ho : OpR X (binaryOp op) r) (hs : OpS g oo r) (ha : SE g X a fa) (hb : SE g X b fb) : SE g X (.BinOp a op b pos) (fBin oo fa fb) := se_bin ho hs ha hb
theorem cm (ho : OpR X (compareOp cop) r) (hs : OpS g oo r) (ha : SE g X a fa) (hb : SE g X b fb) (hm : behindInMarks cop b = false := by rfl) : SE g X (.Compare a [cop] [b] pos) (fBin oo fa fb) := se_cmp ho hs ha hb hm
theorem cmB (ho : OpR X (compareOp cop) r) (hs : OpS g oo r) (ha : SE g X a fa) (hb : SE g X b fb) (hm : behindInMarks cop b = false := by rfl) : SB g X (.Compare a [cop] [b] pos) (fAsB (fBin oo fa fb)) := sb_cmp ho hs ha hb hm
theorem ch (ho : OpR X (compareOp cop) r) (ho' : OpR X (compareOp cop') r') (hs : OpS g oo r) (hs' : OpS g oo' r') (ha : SE g X a fa) (hb : SE g X b fb) (hc : SE g X c fc) (hm : lastMarks [cop, cop'] [b, c] = false := by rfl) :
    SE g X (.Compare a [cop, cop'] [b, c] pos) (fChn oo oo' fa fb fc) := se_chn ho ho' hs hs' ha hb hc hm
theorem chB (ho : OpR X (compareOp cop) r) (ho' : OpR X (compareOp cop') r') (hs : OpS g oo r) (hs' : OpS g oo' r') (ha : SE g X a fa) (hb : SE g X b fb) (hc : SE g X c fc) (hm : lastMarks [cop, cop'] [b, c] = false := by rfl) :
    SB g X (.Compare a [cop, cop'] [b, c] pos) (fAsB (fChn oo oo' fa fb fc)) := sb_chn ho ho' hs hs' ha hb hc hm
theorem ne (hu : X.A.units + 64 < cLine) (ha : SE g X a fa) (hb : SE g X b fb) (hK : X.K = g.K := by rfl) (hm : behindInMarks .NotEq b = false := by rfl) : SE g X (.Compare a [.NotEq] [b] pos) (fBin opNeH fa fb) :=
  se_cmp (op_neD hu) (os_neH fun _ _ _ _ q => hK ▸ q) ha hb hm
theorem neB (hu : X.A.units + 64 < cLine) (ha : SE g X a fa) (hb : SE g X b fb) (hK : X.K = g.K := by rfl) (hm : behindInMarks .NotEq b = false := by rfl) : SB g X (.Compare a [.NotEq] [b] pos) (fAsB (fBin opNeH fa fb)) :=
  sb_cmp (op_neD hu) (os_neH fun _ _ _ _ q => hK ▸ q) ha hb hm
theorem eq (hu : X.A.units + 64 < cLine) (ha : SE g X a fa) (hb : SE g X b fb) (hK : X.K = g.K := by rfl) (hm : behindInMarks .Eq b = false := by rfl) : SE g X (.Compare a [.Eq] [b] pos) (fBin opEqH fa fb) :=
  se_cmp (r := rEqD g.K) (hK ▸ op_eqD hu) os_eqH ha hb hm
theorem eqB (hu : X.A.units + 64 < cLine) (ha : SE g X a fa) (hb : SE g X b fb) (hK : X.K = g.K := by rfl) (hm : behindInMarks .Eq b = false := by rfl) : SB g X (.Compare a [.Eq] [b] pos) (fAsB (fBin opEqH fa fb)) :=
  sb_cmp (r := rEqD g.K) (hK ▸ op_eqD hu) os_eqH ha hb hm
theorem inn (hu : X.A.units + 65 < cLine) (ha : SE g X a fa) (hb : SE g X b fb) (hK : X.K = g.K := by rfl) (hm : behindInMarks .In b = false := by rfl) : SE g X (.Compare a [.In] [b] pos) (fBin opIn fa fb) :=
  se_cmp (r := rInA g.K false) (hK ▸ op_inA hu) os_in ha hb hm
theorem innB (hu : X.A.units + 65 < cLine) (ha : SE g X a fa) (hb : SE g X b fb) (hK : X.K = g.K := by rfl) (hm : behindInMarks .In b = false := by rfl) : SB g X (.Compare a [.In] [b] pos) (fAsB (fBin opIn fa fb)) :=
  sb_cmp (r := rInA g.K false) (hK ▸ op_inA hu) os_in ha hb hm
theorem nin (hu : X.A.units + 65 < cLine) (ha : SE g X a fa) (hb : SE g X b fb) (hK : X.K = g.K := by rfl) (hm : behindInMarks .NotIn b = false := by rfl) : SE g X (.Compare a [.NotIn] [b] pos) (fBin opNin fa fb) :=
  se_cmp (r := rInA g.K true) (hK ▸ op_ninA hu) os_nin ha hb hm
theorem ninB (hu : X.A.units + 65 < cLine) (ha : SE g X a fa) (hb : SE g X b fb) (hK : X.K = g.K := by rfl) (hm : behindInMarks .NotIn b = false := by rfl) : SB g X (.Compare a [.NotIn] [b] pos) (fAsB (fBin opNin fa fb)) :=
  sb_cmp (r := rInA g.K true) (hK ▸ op_ninA hu) os_nin ha hb hm
theorem add (ha : SE g X a fa) (hb : SE g X b fb) (hK : X.K = g.K := by rfl) : SE g X (.BinOp a .Add b pos) (fBin opAddX fa fb) := se_bin (r := fun x y H Q => rCatX x y H (Frzd Q) ∨ rAddA g.K x y H Q) (hK ▸ op_addX) os_addX ha hb
theorem tru (ha : SE g X a fa) (hK : X.K = g.K := by rfl) (he : ∀ whole, isTrue a X.env whole = (do let v ← whole; standAt a.pos; holding [v] (truthy v)) := by intro _; rfl) : SB g X a (fTru fa) := sb_tru hK ha he
theorem andB (h : SW g X e ba) : SB g X e ba := h.pt
theorem fl {C : Addr} (c : Cls g.K C) (na : NoAttr g.K C f) (ci : Nat) (ha : SE g X a fa) (hc : g.cls[ci]? = some C := by rfl) (hK : X.K = g.K := by rfl) (hb : attributeBase a f X.env (eval a X.env) = eval a X.env := by rfl) : SE g X (.Attribute a f pos) (fFld ci f fa) := se_fld hK hc c na ha hb
theorem sub (hu : X.A.units + 1 < cLine) (ha : SE g X a fa) (hb : SE g X b fb) (hK : X.K = g.K := by rfl) (hs : PlainIx b := by intro _ _; rfl) : SE g X (.Subscript a b pos) (fBin opSub_ fa fb) := se_sub hK hu ha hb hs
theorem sl {lo hi : Option Expr} {fl fh : FO} {p2 : Pos} (he : SE g X e fe) (hl : SP_ g X lo fl) (hh : SP_ g X hi fh) (hK : X.K = g.K := by rfl) : SE g X (.Subscript e (.Slice lo hi none p2) pos) (fSlA fe fl fh) := se_slA hK he hl hh
theorem call {F : List D → Hq → R D} (h : CalD X.prog X.w X.K X.mg X.base g k x n F) (hr : Room j X.A) (ha : SA g X (e :: es) fs) (hk : k ≤ j := by decide) (hg : Gl X x := by rfl)
    (hdb : (x == ("__debug__" : Str)) = false := by decide) (he : starEach (e :: es) X.env = (false, eval e X.env) :: starEach es X.env := by rfl) (hpl : (backTo pos (starEach es X.env)).any (·.1) = false := by rfl) :
    SE g X (.Call (.Name x p) (e :: es) [] pos) (fCall n F fs) := se_c h hr hk hg ha hdb he hpl
theorem mk0 {F : List D → Hq → R D} {C : Addr} (ci : Nat) (h : MakD X.prog X.w X.K X.mg X.base g k x C n F) (hr : Room j X.A) (hc : g.cls[ci]? = some C := by rfl) (hk : k + 1 ≤ j := by decide) (hg : Gl X x := by rfl) (hdb : (x == ("__debug__" : Str)) = false := by decide) :
    SE g X (.Call (.Name x p) [] [] pos) (fMake ci n F aNil) := se_mk0 hc h hr hk hg hdb
theorem mt {F : List D → Hq → R D} {C : Addr} {m : Str} (ci : Nat) (h : MetD X.prog X.w X.K X.mg X.base g k C m n F) (hr : Room j X.A) (he : SE g X o fo) (ha : SA g X (e :: es) fs) (hc : g.cls[ci]? = some C := by rfl) (hk : k ≤ j := by decide)
    (hst : starEach (e :: es) X.env = (false, eval e X.env) :: starEach es X.env := by rfl) (hpl : (backTo pos (starEach es X.env)).any (·.1) = false := by rfl)
    (ht : eval (.Call (.Attribute o m apos) (e :: es) [] pos) X.env = (do
      let ov ← eval o X.env
      standAt apos.atName
      let (f, first) ← holding [ov] (getMethod ov m (plainOf o X.env))
      callWith pos f first (backTo pos (starEach (e :: es) X.env)) (backToKw pos (keywordEach [] X.env))) := by rfl) :
    SE g X (.Call (.Attribute o m apos) (e :: es) [] pos) (fMeth ci m n F fo fs) := se_mt (pl := plainOf o X.env) hc h hr hk he ha hst hpl ht
theorem len (hm : X.mg "len" = none) (ha : SA g X (e :: es) fs) (hK : X.K = g.K := by rfl) (hg : Gl X "len" := by rfl)
    (he : starEach (e :: es) X.env = (false, eval e X.env) :: starEach es X.env := by rfl) (hpl : (backTo pos (starEach es X.env)).any (·.1) = false := by rfl) : SE g X (.Call (.Name "len" p) (e :: es) [] pos) (fCb opLen fs) :=
  se_callB (r := rLenA g.K) (hK ▸ call_lenA) oc_len hg hm boot_len ha (by decide) (by decide) he hpl
theorem str (hm : X.mg "str" = none) (ha : SA g X (e :: es) fs) (hg : Gl X "str" := by rfl)
    (he : starEach (e :: es) X.env = (false, eval e X.env) :: starEach es X.env := by rfl) (hpl : (backTo pos (starEach es X.env)).any (·.1) = false := by rfl) : SE g X (.Call (.Name "str" p) (e :: es) [] pos) (fCb opStr fs) :=
  se_callTy call_str_int oc_str hg hm boot_str ha (by decide) (by decide) he hpl
theorem tupO (hm : X.mg "tuple" = none) (ha : SE g X a fa) (hK : X.K = g.K := by rfl) (hg : Gl X "tuple" := by rfl) (na : starEach [a] X.env = (false, eval a X.env) :: starEach [] X.env := by rfl) : SE g X (.Call (.Name "tuple" p) [a] [] pos) (fTupOf fa) := se_tupleOf hK hg hm ha na
theorem rng1 (hm : X.mg "range" = none) (ha : SA g X [a] fs) (hg : Gl X "range" := by rfl) (hs : starEach [a] X.env = [(false, eval a X.env)] := by rfl) : SI g X tg (.Call (.Name "range" p) [a] [] pos) (iR1 fs) := si_rng1 hg hm ha hs
theorem rng3 (hm : X.mg "range" = none) (ha : SA g X [a, b, c] fs) (hg : Gl X "range" := by rfl) (hs : starEach [a, b, c] X.env = (false, eval a X.env) :: starEach [b, c] X.env := by rfl) (hpl : (backTo pos (starEach [b, c] X.env)).any (·.1) = false := by rfl) :
    SI g X tg (.Call (.Name "range" p) [a, b, c] [] pos) (iR3' fs) := si_rng3 hg hm ha hs hpl
theorem enu {tpos : Pos} {elts : List Expr} {kk : Nat} (hm : X.mg "enumerate" = none) (ha : SA g X [a] fs) (hK : X.K = g.K := by rfl) (hg : Gl X "enumerate" := by rfl) (hs : starEach [a] X.env = [(false, eval a X.env)] := by rfl) :
    SI g X (.Tuple elts kk tpos) (.Call (.Name "enumerate" p) [a] [] pos) (iEn fs) := si_enum hK hg hm ha hs
theorem it (ha : SE g X a fa) (hK : X.K = g.K := by rfl) : SI g X tg a (iAny fa) := si_any hK ha
theorem tn (i : Nat) (hN : X.N.Nodup) (hi : X.N[i]? = some x := by rfl) (hx : Loc X.env.scope x := by first | exact Or.inl rfl | exact Or.inr rfl) (hf : X.fn x = true ∨ X.env.scope.names.lookup x = some .local := by first | exact .inl rfl | exact .inr rfl) : STg g X (.Name x pos) [i] (gNm i) := st_nm hN hi hx hf
theorem tsn : STs g X [] [] gsNil := sts_nil
theorem tsc {is js : List Nat} {f : D → Option Bs} {fs : List D → Option Bs} (h1 : STg g X e is f) (h2 : STs g X es js fs) (hs : (assignEach (e :: es) X.env).map (·.2) = assign e X.env :: (assignEach es X.env).map (·.2) := by rfl) : STs g X (e :: es) (is ++ js) (gsCons f fs) := sts_cons h1 h2 hs
theorem tt {is : List Nat} {fs : List D → Option Bs} (n : Nat) (h : STs g X es is fs) (hK : X.K = g.K := by rfl) (hc : X.calm = true := by rfl) (hn : (assignEach es X.env).length = n := by rfl) (hst : (assignEach es X.env).findIdx? (·.1) = none := by rfl) : STg g X (.Tuple es k pos) is (gTuN n fs) := st_tup hK hc h hn hst
end
end W
end Dy
end

section
set_option Elab.async false
set_option linter.all false
set_option maxRecDepth 100000
set_option maxHeartbeats 2000000
/-! Dy19: statements and the rest in short. -/
namespace Dy
open PySem PySem.Spec PyProof.Rows L2 GxR Gx

theorem genFold_pure {iter : Expr} {env : Env} (h : ∀ v, genFold iter env v = pure v) : ∀ v, genFold iter env v = pure v := h
namespace W
section
variable {X : Cx} {g : G} {a b c e o f tg value iter elt st : Expr} {es rest : List Expr} {fa fb fc fe fo fi fv ff : FE} {fs : FI} {ba bb bc bt : FT} {p pos pos' apos cpos spos py gpos : Pos} {k j n : Nat} {x y : Str} {fI : FI} {ft : D → Option Bs} {is : List Nat} {F F2 : FS} {scope : Scope} {own : List (Str × Nat)} {ifs : List Expr}
/-! ### comprehensions -/
theorem lc (own : List (Str × Nat)) (hN : X.N.Nodup) (hi : SI g X tg iter fI) (ok : BlkOk X.N X.env.scope scope own) (hg : LAll X scope fun X' => STg g X' tg is ft)
    (ht : LAll X scope fun X' => SIf g X' ifs bt) (he : LAll X scope fun X' => SE g X' elt fe) (hvs : ∀ i ∈ is, i ∈ own.map (·.2) := by decide) (hc : X.calm = true := by rfl) (hs : ∀ x, foldedSetIterable iter X.env x = pure x := by intro _; rfl) : SO g X (.ListComp elt [⟨tg, iter, ifs, 0⟩] scope pos) (fLc fI ft bt fe (own.map (·.2))) :=
  so_lc hc hN hi ok hg hvs ht he hs
theorem setLc (i : Nat) (own : List (Str × Nat)) (hN : X.N.Nodup) (hi : SI g X tg iter fI) (ok : BlkOk X.N X.env.scope scope own) (hg : LAll X scope fun X' => STg g X' tg is ft)
    (ht : LAll X scope fun X' => SIf g X' ifs bt) (he : LAll X scope fun X' => SE g X' elt fe) (hvs : ∀ i ∈ is, i ∈ own.map (·.2) := by decide) (hc : X.calm = true := by rfl) (hy : X.N[i]? = some y := by rfl) (hyl : X.env.scope.names.lookup y = some .local := by rfl)
    (hsw : swapsWith (.ListComp elt [⟨tg, iter, ifs, 0⟩] scope pos) (some (.Name y py)) spos.line X.env = pure true := by exact sw_true rfl rfl rfl rfl) (hs : ∀ x, foldedSetIterable iter X.env x = pure x := by intro _; rfl) :
    SS g X (.Assign [.Name y py] (.ListComp elt [⟨tg, iter, ifs, 0⟩] scope pos) spos) (fSet i (fLc fI ft bt fe (own.map (·.2)))) := ss_setLc hc hN hy hyl hsw hi ok hg hvs ht he hs
theorem setLcC (i : Nat) (own : List (Str × Nat)) (hN : X.N.Nodup) (hi : SI g X tg iter fI) (ok : BlkOk X.N X.env.scope scope own) (hg : LAll X scope fun X' => STg g X' tg is ft)
    (ht : LAll X scope fun X' => SIf g X' ifs bt) (he : LAll X scope fun X' => SE g X' elt fe) (hvs : ∀ i ∈ is, i ∈ own.map (·.2) := by decide) (hc : X.calm = true := by rfl) (hy : X.N[i]? = some y := by rfl) (hyl : X.env.scope.names.lookup y = some .local := by rfl)
    (hsw : swapsWith (.ListComp elt [⟨tg, iter, ifs, 0⟩] scope pos) (some (.Name y py)) spos.line X.env = pure true := by exact sw_true rfl rfl rfl rfl) (hs : ∀ x, foldedSetIterable iter X.env x = pure x := by intro _; rfl) :
    SS g X (.Assign [.Name y py] (.ListComp elt [⟨tg, iter, ifs, 0⟩] scope pos) spos) (fSet i (newCell (fLc fI ft bt fe (own.map (·.2))))) := ss_setLcC hc hN hy hyl hsw hi ok hg hvs ht he hs
/-! ### any, all -/
theorem any1 {cd P : Addr} (own : List (Str × Nat)) (hP : P ∈ g.tabs) (hr : Room (k + 1) X.A) (hN : X.N.Nodup) (hm : X.mg "any" = none) (TB : TabB X.base X.mg cd P) (hcode : X.env.code = .ref cd) (S : GSc scope) (ok : BlkOk X.N X.env.scope scope own) (hi : SI g X tg iter fI)
    (pg : GAll X scope k fun X' => STg g X' tg is ft) (pt : GAll X scope k fun X' => SIf g X' ifs bt) (pe : GAll X scope k fun X' => SE g X' elt fe) (hvs : ∀ i ∈ is, i ∈ own.map (·.2) := by decide) (hgl : Gl X "any" := by rfl) (hcalm : X.calm = true := by rfl) (hs : ∀ v, genFold iter X.env v = pure v := by intro _; rfl) :
    SE g X (.Call (.Name "any" p) [.GeneratorExp elt [⟨tg, iter, ifs, 0⟩] scope gpos] [] pos) (fGx true fI ft bt (yB true fe) (own.map (·.2))) := se_any1 hP hr hcalm hN hgl hm TB hcode S ok hi hs pg hvs pt pe
theorem all1 {cd P : Addr} (own : List (Str × Nat)) (hP : P ∈ g.tabs) (hr : Room (k + 1) X.A) (hN : X.N.Nodup) (hm : X.mg "all" = none) (TB : TabB X.base X.mg cd P) (hcode : X.env.code = .ref cd) (S : GSc scope) (ok : BlkOk X.N X.env.scope scope own) (hi : SI g X tg iter fI)
    (pg : GAll X scope k fun X' => STg g X' tg is ft) (pt : GAll X scope k fun X' => SIf g X' ifs bt) (pe : GAll X scope k fun X' => SE g X' elt fe) (hvs : ∀ i ∈ is, i ∈ own.map (·.2) := by decide) (hgl : Gl X "all" := by rfl) (hcalm : X.calm = true := by rfl) (hs : ∀ v, genFold iter X.env v = pure v := by intro _; rfl) :
    SE g X (.Call (.Name "all" p) [.GeneratorExp elt [⟨tg, iter, ifs, 0⟩] scope gpos] [] pos) (fGx false fI ft bt (yB false fe) (own.map (·.2))) := se_all1 hP hr hcalm hN hgl hm TB hcode S ok hi hs pg hvs pt pe
theorem any2 {cd P : Addr} {tg1 iter1 : Expr} {ifs1 : List Expr} {fI1 : FI} {ft1 : D → Option Bs} {bt1 : FT} {is1 : List Nat} (own : List (Str × Nat)) (vs1 : List Nat) (hP : P ∈ g.tabs) (hr : Room (k + 1) X.A) (hN : X.N.Nodup) (hm : X.mg "any" = none) (TB : TabB X.base X.mg cd P) (hcode : X.env.code = .ref cd) (S : GSc scope) (ok : BlkOk X.N X.env.scope scope own) (hi : SI g X tg iter fI)
    (pg : GAll X scope k fun X' => STg g X' tg is ft) (pt : GAll X scope k fun X' => SIf g X' ifs bt) (pi1 : GAll X scope k fun X' => SI g X' tg1 iter1 fI1) (pg1 : GAll X scope k fun X' => STg g X' tg1 is1 ft1) (pt1 : GAll X scope k fun X' => SIf g X' ifs1 bt1) (pe : GAll X scope k fun X' => SE g X' elt fe)
    (hv1 : ∀ j ∈ vs1, j ∈ own.map (·.2) := by decide) (hvs : ∀ i ∈ is, i ∈ own.map (·.2) := by decide) (hvs1 : ∀ i ∈ is1, i ∈ vs1 := by decide) (hfo : GAll X scope k fun X' => ∀ v, foldedSetIterable iter1 X'.env v = pure v := by intro _ _ _ _ _ _ _ _ _; rfl) (hgl : Gl X "any" := by rfl) (hcalm : X.calm = true := by rfl) (hs : ∀ v, genFold iter X.env v = pure v := by intro _; rfl) :
    SE g X (.Call (.Name "any" p) [.GeneratorExp elt [⟨tg, iter, ifs, 0⟩, ⟨tg1, iter1, ifs1, 0⟩] scope gpos] [] pos) (fGx true fI ft bt (forB fI1 ft1 bt1 (yB true fe) vs1) (own.map (·.2))) := se_any2 hP hr hcalm hN hgl hm TB hcode S ok hi hs hv1 pg hvs pt pi1 hfo pg1 hvs1 pt1 pe
/-! ### methods of built-in types -/
theorem append (h : SE g X o fo) (ha : SA g X [e] fs) (hK : X.K = g.K := by rfl) (hbase : attributeBase o "append" X.env (eval o X.env) = eval o X.env := by rfl)
    (hfew : ((backTo cpos (starEach [e] X.env)).all (fun x => !x.1) && (backToKw cpos (keywordEach [] X.env)).all (fun x => x.1.isSome)
      && decide (([e] : List Expr).length + ([] : List Keyword).length + (if ([] : List Keyword).isEmpty then 0 else 1) < 30)) = true := by rfl)
    (hline : (apos.endLine == cpos.line) = true := by rfl) (hs : starEach [e] X.env = (false, eval e X.env) :: starEach [] X.env := by rfl) : SE g X (.Call (.Attribute o "append" apos) [e] [] cpos) (fBm .list opAppend fo fs) :=
  se_bm hK PySem.F.plainAttrs_list PySem.F.slot_list_append PySem.F.type_list_append mt_append om_append h ha hbase hfew hline hs (by rfl)
theorem popAt (h : SE g X o fo) (ha : SA g X [e] fs) (hK : X.K = g.K := by rfl) (hbase : attributeBase o "pop" X.env (eval o X.env) = eval o X.env := by rfl)
    (hfew : ((backTo cpos (starEach [e] X.env)).all (fun x => !x.1) && (backToKw cpos (keywordEach [] X.env)).all (fun x => x.1.isSome)
      && decide (([e] : List Expr).length + ([] : List Keyword).length + (if ([] : List Keyword).isEmpty then 0 else 1) < 30)) = true := by rfl)
    (hline : (apos.endLine == cpos.line) = true := by rfl) (hs : starEach [e] X.env = (false, eval e X.env) :: starEach [] X.env := by rfl) : SE g X (.Call (.Attribute o "pop" apos) [e] [] cpos) (fBm .list opPopAt fo fs) :=
  se_bm hK PySem.F.plainAttrs_list PySem.F.slot_list_pop PySem.F.type_list_pop mt_popAt om_popAt h ha hbase hfew hline hs (by rfl)
theorem split (h : SE g X o fo) (ha : SA g X [e] fs) (hK : X.K = g.K := by rfl) (hbase : attributeBase o "split" X.env (eval o X.env) = eval o X.env := by rfl)
    (hfew : ((backTo cpos (starEach [e] X.env)).all (fun x => !x.1) && (backToKw cpos (keywordEach [] X.env)).all (fun x => x.1.isSome)
      && decide (([e] : List Expr).length + ([] : List Keyword).length + (if ([] : List Keyword).isEmpty then 0 else 1) < 30)) = true := by rfl)
    (hline : (apos.endLine == cpos.line) = true := by rfl) (hs : starEach [e] X.env = (false, eval e X.env) :: starEach [] X.env := by rfl) : SO g X (.Call (.Attribute o "split" apos) [e] [] cpos) (fBm .str opSplit fo fs) :=
  so_bm hK PySem.F.plainAttrs_str PySem.F.slot_str_split PySem.F.type_str_split mt_split om_split h ha hbase hfew hline hs (by rfl)
theorem join (h : SE g X o fo) (ha : SA g X [e] fs) (hK : X.K = g.K := by rfl) (hbase : attributeBase o "join" X.env (eval o X.env) = eval o X.env := by rfl)
    (hfew : ((backTo cpos (starEach [e] X.env)).all (fun x => !x.1) && (backToKw cpos (keywordEach [] X.env)).all (fun x => x.1.isSome)
      && decide (([e] : List Expr).length + ([] : List Keyword).length + (if ([] : List Keyword).isEmpty then 0 else 1) < 30)) = true := by rfl)
    (hline : (apos.endLine == cpos.line) = true := by rfl) (hs : starEach [e] X.env = (false, eval e X.env) :: starEach [] X.env := by rfl) : SE g X (.Call (.Attribute o "join" apos) [e] [] cpos) (fBm .str opJoin fo fs) :=
  se_bm hK PySem.F.plainAttrs_str PySem.F.slot_str_join PySem.F.type_str_join (hK ▸ mt_join) om_join h ha hbase hfew hline hs (by rfl)
theorem get1 (hu : X.A.units + 1 < cLine) (ho : SE g X o fo) (he : SE g X e fe) (m : M1 X o "get" apos e cpos := by exact ⟨rfl, rfl, rfl, rfl⟩) : SE g X (.Call (.Attribute o "get" apos) [e] [] cpos) (fGet1 fo fe) := se_get1 hu ho he m
theorem get2 (hu : X.A.units + 1 < cLine) (ho : SE g X o fo) (he : SE g X e fe) (hf : SE g X f ff) (m : M2 X o "get" apos e f cpos := by exact ⟨rfl, rfl, rfl, rfl⟩) : SE g X (.Call (.Attribute o "get" apos) [e, f] [] cpos) (fGet2 fo fe ff) := se_get2 hu ho he hf m
/-! ### statements -/
theorem set (i : Nat) (hN : X.N.Nodup) (he : SE g X e fe) (hi : X.N[i]? = some x := by rfl) (hx : Loc X.env.scope x := by first | exact Or.inl rfl | exact Or.inr rfl) (hs : swapsWith e (some (.Name x pos')) pos.line X.env = pure false := by rfl) (hf : X.fn x = true ∨ X.env.scope.names.lookup x = some .local := by first | exact .inl rfl | exact .inr rfl) :
    SS g X (.Assign [.Name x pos'] e pos) (fSet i fe) := ss_set hN hi hx he hs hf
theorem asg (he : SE g X e fe) (hg : STg g X tg is ft) (hs : swapsWithSole [tg] e pos.line X.env = pure false := by rfl) (hw : swappedStores [tg] e X.env = pure none := by rfl) (h1 : (assignEach [tg] X.env).map (·.2) = [assign tg X.env] := by rfl) : SS g X (.Assign [tg] e pos) (fAsg fe ft) := ss_asg he hg hs hw h1
theorem fld {f : Str} {C : Addr} (c : Cls g.K C) (na : NoAttr g.K C f) (ci : Nat) (ha : SE g X o fo) (hv : SE g X value fv) (hc : g.cls[ci]? = some C := by rfl) (hK : X.K = g.K := by rfl) (hs : swapsWith value (some (.Attribute o f pos')) pos.line X.env = pure false := by rfl) :
    SS g X (.Assign [.Attribute o f pos'] value pos) (fFldS ci f fo fv) := ss_fld hK hc c na ha hv hs
theorem put {i : Expr} (hu : X.A.units + 1 < cLine) (ho : SE g X o fo) (hi : SE g X i fi) (hv : SE g X value fv)
    (ha : ∀ v, assign (.Subscript o i pos') X.env v = (do
      let ov ← holding [v] (eval o X.env)
      let iv ← holding [v, ov] (eval i X.env)
      standAt pos'
      holding [v, ov, iv] (setItem ov iv v)
      release [v, ov, iv] []) := by intro _; rfl)
    (hs : swapsWithSole [.Subscript o i pos'] value pos.line X.env = pure false := by rfl) (hw : swappedStores [.Subscript o i pos'] value X.env = pure none := by rfl)
    (h1 : (assignEach [.Subscript o i pos'] X.env).map (·.2) = [assign (.Subscript o i pos') X.env] := by rfl) :
    SS g X (.Assign [.Subscript o i pos'] value pos) (fPut fo fi fv) := ss_put hu ho hi hv ha hs hw h1
theorem aug (i : Nat) (hN : X.N.Nodup) (he : SE g X e fe) (hi : X.N[i]? = some x := by rfl) (hx : Loc X.env.scope x := by first | exact Or.inl rfl | exact Or.inr rfl) (hf : X.fn x = true ∨ X.env.scope.names.lookup x = some .local := by first | exact .inl rfl | exact .inr rfl) :
    SS g X (.AugAssign (.Name x pos') .Add e pos) (fAug i opIAdd fe) := ss_aug hN hi hx he op_iadd oa_iadd hf
theorem ex (he : SE g X e fe) (hs : swapsWith e none pos.line X.env = pure false := by rfl) : SS g X (.Expr e pos) (fDrop fe) := ss_expr he hs
theorem for_ {body : List Stmt} (hp : PassesOwn (model X.prog X.w) X.A X.env X.xe) (hi : SI g X tg iter fI) (hg : STg g X tg is ft) (hb : SSs g X body F) (hc : X.calm = true := by rfl)
    (hs : ∀ x, foldedSetIterable iter X.env x = pure x := by intro _; rfl) : SS g X (.For tg iter body [] pos) (fFor fI ft F) := ss_for hp hc hi hg hb hs
end
end W
end Dy
end

section
set_option Elab.async false
set_option linter.all false
set_option maxRecDepth 100000
set_option maxHeartbeats 2000000
/-! Dy20: match. -/
namespace Dy
open PySem PySem.Spec PyProof.Rows L2 GxR Gx

/-- a captured list of values, under the names ns -/
def RelB (ns : List (Str × Nat)) : Option (List V) → Option (List (Str × Value)) → Prop
  | none, none => True
  | some vs, some bs => bs.map (·.1) = ns.map (·.1) ∧ Vals vs (bs.map (·.2))
  | _, _ => False
def ThenP (g : G) (al : List Addr) (hq : Hq) (H : Hp) (r : Option (Option (List D))) (Q : Option (List V) → Hp → Prop) : Prop := match r with
  | none => False
  | some none => ∀ H', RH g al hq H' → Ex al al H H' → Q none H'
  | some (some ds) => ∀ H' vs, RH g al hq H' → Ex al al H H' → Rvs g.K al H' ds vs → Q (some vs) H'
theorem ThenP.later {g : G} {al : List Addr} {hq : Hq} {H H1 : Hp} {r : Option (Option (List D))} {Q : Option (List V) → Hp → Prop} (q : ThenP g al hq H r Q) (e : Ex al al H H1) : ThenP g al hq H1 r Q := by
  cases r with
  | none => exact q
  | some r =>
    cases r with
    | none => exact fun H' rh ex => q H' rh (e.trans ex)
    | some ds => exact fun H' vs rh ex rv => q H' vs rh (e.trans ex) rv
/-- a pattern -/
structure SPt (g : G) (X : Cx) (p : Pattern) (ns : List (Str × Nat)) (f : D → Option (Option (List D))) : Prop where
  run : ∀ (pins : List (Addr × Obj)) (s : Shared) (σ : L2.St) (H : Hp) (al : List Addr) (hq : Hq) (v : V) (u : Value) (d : D) (Q : Option (List V) → Hp → Prop), Inv X pins σ H s → RelV v u → RH g al hq H → Rv g.K al H d v → ThenP g al hq H (f d) Q →
    wpAny (model X.prog X.w) X.A (matchPattern p X.env u) (fun r s' => ∃ r' H', Inv X pins σ H' s' ∧ RelB ns r' r ∧ Q r' H') X.xe s
/-- the items of a sequence pattern -/
structure SEa (g : G) (X : Cx) (ps : List Pattern) (ns : List (Str × Nat)) (f : List D → Option (Option (List D))) : Prop where
  run : ∀ (pins : List (Addr × Obj)) (s : Shared) (σ : L2.St) (H : Hp) (al : List Addr) (hq : Hq) (vs : List V) (us : List Value) (ds : List D) (Q : Option (List V) → Hp → Prop), Inv X pins σ H s → Vals vs us → RH g al hq H → Rvs g.K al H ds vs → ThenP g al hq H (f ds) Q →
    wpAny (model X.prog X.w) X.A (matchEach ps X.env us) (fun r s' => ∃ r' H', Inv X pins σ H' s' ∧ RelB ns r' r ∧ Q r' H') X.xe s
def mVal (z : Str) : D → Option (Option (List D)) := fun d => (eqD d (.str z)).map fun b => if b = true then some [] else none
def mCap : D → Option (Option (List D)) := fun d => some (some [d])
def mWild : D → Option (Option (List D)) := fun _ => some (some [])
def mNil : List D → Option (Option (List D))
  | [] => some (some [])
  | _ => none
def mCons (f : D → Option (Option (List D))) (fs : List D → Option (Option (List D))) : List D → Option (Option (List D))
  | [] => none
  | d :: ds => (f d).bind fun r => match r with
    | none => some none
    | some a => (fs ds).map fun r => r.map (a ++ ·)
def mLast : List D → Option (Option (List D))
  | [d] => some (some [d])
  | _ => none
section
variable {X : Cx} {g : G} {pos pos' : Pos}
theorem spt_str {z : Str} {k : Nat} (hu : X.A.units + 64 < cLine) (hK : X.K = g.K) : SPt g X (.MatchValue (.Constant (.str z) k pos) pos') [] (mVal z) := by
  refine ⟨fun pins s σ H al hq v u d Q I rv rh rd q => ?_⟩
  refine wpAny_matchPattern_Value (Calls.Constant_str ?_)
  unfold mVal at q
  cases e : eqD d (.str z) with
  | none => rw [e] at q; exact False.elim q
  | some b =>
    rw [e] at q
    have q : ThenP g al hq H (some (if b = true then some [] else none)) Q := q
    obtain ⟨p, h1, e1⟩ := Option.bind_eq_some_iff.mp (show (cmpb d).bind _ = _ from e)
    obtain ⟨p2, h2, rfl⟩ := Option.map_eq_some_iff.mp e1
    obtain ⟨a1, a2⟩ := cmpb_ok h1
    obtain ⟨b1, b2⟩ := cmpb_ok h2
    have I1 : Inv X pins σ H { s with toks := s.toks + 1 } := I.tok _
    refine thn (op_eqD hu pins _ σ H v (.str z) u (.str z s.toks) (fun w H' => w = .bl (PyData.eqv p p2) ∧ H' = H) I1 rv ⟨_, rfl⟩ ⟨p, p2, by rw [hK]; exact toPy_dp rd a1, by rw [hK]; exact toPy_dp (.str z : Rv g.K al H (.str z) (.str z)) b1, a2, b2, rfl, rfl⟩) fun c s2 ⟨w, H2, I2, rc, ew, eH⟩ => ?_
    subst ew eH
    cases (show c = Value.bool (PyData.eqv p p2) from rc)
    refine wpAny_truthy_bool ?_
    cases hb : PyData.eqv p p2 with
    | true =>
      rw [hb] at q
      exact ⟨some [], H2, I2, ⟨rfl, .nil⟩, q H2 [] rh (Ex.refl _ _) .nil⟩
    | false =>
      rw [hb] at q
      exact ⟨none, H2, I2, trivial, q H2 rh (Ex.refl _ _)⟩
theorem spt_cap {x : Str} (i : Nat) : SPt g X (.MatchAs none (some x) pos) [(x, i)] mCap := by
  refine ⟨fun pins s σ H al hq v u d Q I rv rh rd q => wpAny_matchPattern_Capture ?_⟩
  exact ⟨some [v], H, I, ⟨rfl, .cons rv .nil⟩, q H [v] rh (Ex.refl _ _) (.cons rd .nil)⟩
theorem spt_wild : SPt g X (.MatchAs none none pos) [] mWild := by
  refine ⟨fun pins s σ H al hq v u d Q I rv rh rd q => wpAny_matchPattern_Capture ?_⟩
  exact ⟨some [], H, I, ⟨rfl, .nil⟩, q H [] rh (Ex.refl _ _) .nil⟩
theorem sea_nil : SEa g X [] [] mNil := by
  refine ⟨fun pins s σ H al hq vs us ds Q I rv rh rd q => wpAny_matchEach_nil ?_⟩
  cases rd with
  | nil => exact ⟨some [], H, I, ⟨rfl, .nil⟩, q H [] rh (Ex.refl _ _) .nil⟩
  | cons _ _ => exact False.elim q
theorem sea_cons {p : Pattern} {ps : List Pattern} {ns ms : List (Str × Nat)} {f : D → Option (Option (List D))} {fs : List D → Option (Option (List D))} (h : SPt g X p ns f) (hr : SEa g X ps ms fs) (hp : p.isStar = false := by rfl) : SEa g X (p :: ps) (ns ++ ms) (mCons f fs) := by
  refine ⟨fun pins s σ H al hq vs us ds Q I rv rh rd q => ?_⟩
  cases rd with
  | nil => exact False.elim q
  | @cons d v ds vs r t =>
    cases rv with
    | @cons _ u _ us ru rt =>
      refine wpAny_matchEach_cons ?_ hp
      have q : ThenP g al hq H ((f d).bind fun r => match r with
        | none => some none
        | some a => (fs ds).map fun r => r.map (a ++ ·)) Q := q
      cases e : f d with
      | none => rw [e] at q; exact False.elim q
      | some o =>
        rw [e] at q
        cases o with
        | none =>
          refine thn (h.run pins s σ H al hq v u d (fun r H' => r = none ∧ RH g al hq H' ∧ Ex al al H H') I ru rh r (by rw [e]; exact fun H' rh' ex' => ⟨rfl, rh', ex'⟩)) fun w s1 ⟨r', H1, I1, rb, er, rh1, ex1⟩ => ?_
          subst er
          cases w with
          | some _ => exact False.elim rb
          | none => exact ⟨none, H1, I1, trivial, q H1 rh1 ex1⟩
        | some a =>
          refine thn (h.run pins s σ H al hq v u d (fun r H' => ∃ vs', r = some vs' ∧ RH g al hq H' ∧ Ex al al H H' ∧ Rvs g.K al H' a vs') I ru rh r (by rw [e]; exact fun H' vs' rh' ex' rv' => ⟨vs', rfl, rh', ex', rv'⟩)) fun w s1 ⟨r', H1, I1, rb, vs', er, rh1, ex1, rva⟩ => ?_
          subst er
          cases w with
          | none => exact False.elim rb
          | some bs =>
            obtain ⟨hb1, hb2⟩ := rb
            have q : ThenP g al hq H ((fs ds).map fun r => r.map (a ++ ·)) Q := q
            refine thn (hr.run pins s1 σ H1 al hq vs us ds (fun r H' => Q (r.map (vs' ++ ·)) H') I1 rt rh1 (t.mo ex1.mo) ?_) fun w2 s2 ⟨r2, H2, I2, rb2, q2⟩ => ?_
            · cases e2 : fs ds with
              | none => rw [e2] at q; exact False.elim q
              | some o2 =>
                rw [e2] at q
                cases o2 with
                | none => exact fun H' rh' ex' => q H' rh' (ex1.trans ex')
                | some b => exact fun H' ws rh' ex' rw' => q H' (vs' ++ ws) rh' (ex1.trans ex') ((rva.mo ex'.mo).append rw')
            · cases r2 with
              | none =>
                cases w2 with
                | some _ => exact False.elim rb2
                | none => exact ⟨none, H2, I2, trivial, q2⟩
              | some ws =>
                cases w2 with
                | none => exact False.elim rb2
                | some more =>
                  obtain ⟨hc1, hc2⟩ := rb2
                  exact ⟨some (vs' ++ ws), H2, I2, ⟨by rw [List.map_append, List.map_append, hb1, hc1], by rw [List.map_append]; exact hb2.append hc2⟩, q2⟩
/-- *name, the last -/
theorem sea_star {x : Str} (i : Nat) : SEa g X [.MatchStar (some x) pos] [(x, i)] mLast := by
  refine ⟨fun pins s σ H al hq vs us ds Q I rv rh rd q => ?_⟩
  cases rd with
  | nil => exact False.elim q
  | @cons d v ds vs r t =>
    cases t with
    | cons _ _ => exact False.elim q
    | nil =>
      cases rv with
      | @cons _ u _ us ru rt =>
        cases rt
        have e : matchEach [.MatchStar (some x) pos] X.env [u] = (do
            match ← holding [u] (matchEach [] X.env []) with
            | none => pure none
            | some bs => pure (some ([(x, u)] ++ bs))) := by rfl
        rw [e]
        refine wpAny_bind (wpAny_holding (wpAny_matchEach_nil (wpAny_pure ?_)))
        exact ⟨some [v], H, I, ⟨rfl, .cons ru .nil⟩, q H [v] rh (Ex.refl _ _) (.cons r .nil)⟩
end
end Dy
end

section
set_option Elab.async false
set_option linter.all false
set_option maxRecDepth 100000
set_option maxHeartbeats 2000000
/-! Dy21: sequence patterns over lists and tuples. -/
namespace Dy
open PySem PySem.Spec PyProof.Rows L2 GxR Gx

def mSeq (n : Nat) (fs : List D → Option (Option (List D))) : D → Option (Option (List D))
  | .lst ds => if ds.length = n then fs ds else some none
  | .tup ds => if ds.length = n then fs ds else some none
  | .kt ds => if ds.length = n then fs ds else some none
  | _ => none
/-- with a star at the end: n patterns ahead of it -/
def mStar (n : Nat) (fs : List D → Option (Option (List D))) : D → Option (Option (List D))
  | .lst ds => if n ≤ ds.length then fs (ds.take n ++ [.lst (ds.drop n)]) else some none
  | _ => none
section
variable {X : Cx} {g : G} {pos pos' : Pos}
theorem spt_seq {ps : List Pattern} {ns : List (Str × Nat)} {fs : List D → Option (Option (List D))} (hK : X.K = g.K) (hc : X.calm = true) (h : SEa g X ps ns fs) (hstar : ps.findIdx? (·.isStar) = none) (hwild : (ps.all fun p => p.isWildcard || (p.isStar && p.names.isEmpty)) = false) : SPt g X (.MatchSequence ps pos) ns (mSeq ps.length fs) := by
  refine ⟨fun pins s σ H al hq v u d Q I rv rh rd q => ?_⟩
  have hn := line63
  have lst : ∀ {a : Addr} {ds : List D} {vs : List V}, v = .ref a → SqL g.K H a vs → Rvs g.K al H ds vs → ThenP g al hq H (if ds.length = ps.length then fs ds else some none) Q → wpAny (model X.prog X.w) X.A (matchPattern (.MatchSequence ps pos) X.env u) (fun r s' => ∃ r' H', Inv X pins σ H' s' ∧ RelB ns r' r ∧ Q r' H') X.xe s := fun {a ds vs} ev hs rvs q => by
    subst ev
    cases rv
    rw [← hK] at hs
    obtain ⟨its, r, p, hz⟩ := I.list hs
    have hl := r.length
    have hl2 := rvs.length
    by_cases hd : ds.length = ps.length
    · rw [if_pos hd] at q
      refine matchSeq_list_hit p.isList (by rw [List.size_toArray]; omega) (by rw [List.size_toArray]; omega) ?_ hstar hwild
      have e : ps.length = its.toArray.size := by rw [List.size_toArray]; omega
      rw [e]
      refine PySem.W.kun_itemsOf (I.ok.hd hc) p.isList fun h' ex => ?_
      rw [List.toList_toArray]
      exact h.run pins _ σ H al hq vs its ds Q (I.kept (t' := s.toks + 1 + 1) fun b o eb => ex b o (Nat.ne_of_lt (Heap.lt_size eb)) eb) r rh rvs q
    · rw [if_neg hd] at q
      refine matchSeq_list_miss p.isList (by rw [List.size_toArray]; omega) (by rw [List.size_toArray]; omega) ?_ hstar hwild
      exact ⟨none, H, I.tok _, trivial, q H rh (Ex.refl _ _)⟩
  have tup : ∀ {a : Addr} {ds : List D} {vs : List V}, v = .ref a → SqT g.K H a vs → Rvs g.K al H ds vs → ThenP g al hq H (if ds.length = ps.length then fs ds else some none) Q → wpAny (model X.prog X.w) X.A (matchPattern (.MatchSequence ps pos) X.env u) (fun r s' => ∃ r' H', Inv X pins σ H' s' ∧ RelB ns r' r ∧ Q r' H') X.xe s := fun {a ds vs} ev hs rvs q => by
    subst ev
    cases rv
    rw [← hK] at hs
    obtain ⟨its, r, p, hz⟩ := I.tuple hs
    have hl := r.length
    have hl2 := rvs.length
    by_cases hd : ds.length = ps.length
    · rw [if_pos hd] at q
      refine matchSeq_tuple_hit p (by rw [List.size_toArray]; omega) (by rw [List.size_toArray]; omega) ?_ hstar hwild
      have e : ps.length = its.toArray.size := by rw [List.size_toArray]; omega
      rw [e]
      refine unpackItems_tuple (I.ok.hd hc) p fun h' ex => ?_
      rw [List.toList_toArray]
      exact h.run pins _ σ H al hq vs its ds Q (I.kept (t' := s.toks + 1 + 1) fun b o eb => ex b o (Nat.ne_of_lt (Heap.lt_size eb)) eb) r rh rvs q
    · rw [if_neg hd] at q
      refine matchSeq_tuple_miss p (by rw [List.size_toArray]; omega) (by rw [List.size_toArray]; omega) ?_ hstar hwild
      exact ⟨none, H, I.tok _, trivial, q H rh (Ex.refl _ _)⟩
  cases rd with
  | lst ha ra => exact lst rfl ha.sq ra q
  | tup ha ra => exact tup rfl (.inl (.inl ha)) ra q
  | kt ha ra => exact tup rfl ha.sq ra q
  | _ => exact False.elim q
end
/-! ### a star at the end -/
section
variable {prog : Program} {w : World} {A : Around} {E : Value → Shared → Prop} {s : Shared}
/-- the rest of a list, from a place on -/
theorem collect_rest {it l : Addr} {items : Array Value} {i : Nat} {Q : List Value → Shared → Prop} (hh : A.handled = none) (hne : l ≠ it) (hi : i ≤ items.size) (hit : s.heap.IsListIter it l i) (hl : s.heap.IsList l items) (hz : items.size ≤ sizeLine)
    (hQ : ∀ s', (∀ b o, b ≠ it → s.heap.get? b = some o → s'.heap.get? b = some o) → s'.gens = s.gens → s'.drawn = s.drawn → s'.os = s.os → Q (items.toList.drop i) s') : wpAny (model prog w) A (collect (.ref it)) Q E s := by
  have hh1 : A.in1.handled = none := hh
  have W0 := (Walks.list (prog := prog) (w := w) hh1 it l hne items).toS
  have W : WalksS prog w A.in1 it [it, l] [it] (fun a b => b = a) (items.size - i) (fun j v => items[j + i]? = some v) (fun j s => s.heap.IsListIter it l (j + i) ∧ s.heap.IsList l items) :=
    { sub := W0.sub, grefl := W0.grefl, gtrans := W0.gtrans, frame := fun j s h' tk st ht hk => W0.frame (j + i) s h' tk st ht hk
      item := fun j s Q E hj st hQ => W0.item (j + i) s Q E (by omega) st fun v s' hP st' mv => hQ v s' hP (by rw [show j + 1 + i = j + i + 1 by omega]; exact st') mv
      done := fun s Q E st hQ => W0.done s Q E (by rw [show items.size - i + i = items.size by omega] at st; exact st) hQ
      self := fun j s Q E st hQ => W0.self (j + i) s Q E st hQ }
  refine wpAny_collect_iter (T := "list_iterator") (.inr (.inr (.inl rfl))) W (fun j s st => ?_) (by rw [Nat.zero_add]; exact ⟨hit, hl⟩) (fun b hb => ?_) (by simp) (fun s' acc mv ho => ?_) (by omega)
  · obtain ⟨⟨o, e, c, _⟩, _⟩ := st
    exact ⟨o, e, c⟩
  · have e : b = it ∨ b = l := by simpa using hb
    rcases e with e | e
    · obtain ⟨o, h1, _⟩ := hit
      rw [e]; exact Heap.lt_size h1
    · obtain ⟨o, h1, _⟩ := hl
      rw [e]; exact Heap.lt_size h1
  · obtain ⟨hs, ha⟩ := ho
    have e : acc.toList = items.toList.drop i := by
      apply List.ext_getElem?
      intro j
      rw [Array.getElem?_toList, List.getElem?_drop, Array.getElem?_toList]
      by_cases hj : j < acc.size
      · rw [Array.getElem?_eq_getElem hj]
        have this : items[j + i]? = some acc[j] := ha j acc[j] (Array.getElem?_eq_getElem hj)
        rw [Nat.add_comm] at this
        exact this.symm
      · rw [Array.getElem?_eq_none (by omega), Array.getElem?_eq_none (by omega)]
    rw [e]
    exact hQ s' (fun b o hb eb => mv.heap b o (by simpa using hb) eb) mv.gens mv.drawn mv.os
/-- the values for n patterns and a star behind them -/
theorem unp_star {l : Addr} {items : Array Value} {n : Nat} {Q : List Value → Shared → Prop} (hh : A.handled = none) (hl : s.heap.IsList l items) (hi : n ≤ items.size) (hz : items.size ≤ sizeLine)
    (hQ : ∀ s' : Shared, (∀ b o, b < s.heap.objs.size → s.heap.get? b = some o → s'.heap.get? b = some o) → s'.gens = s.gens → s'.drawn = s.drawn → s'.os = s.os → Q (items.toList.take n ++ [.ref s'.heap.objs.size]) { s' with heap := s'.heap.push { cls := .type "list", data := .seq (items.toList.drop n).toArray } }) :
    wpAny (model prog w) A (unpackItems (.ref l) (n + 1) (some n)) Q E s := by
  have hlt : l ≠ s.heap.objs.size := by obtain ⟨o, ho, _⟩ := hl; exact Nat.ne_of_lt (Heap.lt_size ho)
  unfold unpackItems
  refine wpAny_bind ?_
  unfold notIterableAtAll
  refine wpAny_bind (wpAny_specialOf hl.typeIs PySem.F.slot_list_iter.lookup ?_)
  refine wpAny_pure ?_
  simp only [Bool.false_eq_true, if_false]
  refine wpAny_bind (wpAny_holding (wpAny_pyIter_list hl ?_))
  refine wpAny_bind (wpAny_holding (PySem.W.kun_draw hlt n 0 _ _ ⟨_, Heap.get?_push_size _ rfl, rfl, rfl⟩ (hl.push _) (by omega) fun h₁ hit₁ hs₁ => ?_))
  rw [List.drop_zero, if_neg (by rw [List.length_take, Array.length_toList]; omega)]
  have hl₁ : h₁.IsList l items := (hl.push _).extBut hs₁.extBut hlt
  rw [Nat.zero_add] at hit₁
  refine wpAny_bind (wpAny_holding (collect_rest (s := { s with heap := h₁ }) hh hlt hi hit₁ hl₁ hz fun s' k1 k2 k3 k4 => ?_))
  have e0 : n + 1 - 1 - n = 0 := by omega
  rw [e0]
  rw [if_neg (by omega), Nat.sub_zero, List.take_length, List.drop_length]
  refine wpAny_bind (wpAny_newObj_type (wpAny_pure ?_) (by
    show (items.toList.drop n).toArray.size ≤ sizeLine
    rw [List.size_toArray, List.length_drop, Array.length_toList]
    omega))
  rw [List.append_nil]
  refine hQ s' (fun b o hb e => k1 b o (Nat.ne_of_lt hb) (hs₁.extBut b o (Nat.ne_of_lt hb) (Heap.get?_push_of_some _ e))) k2 k3 k4
end
section
variable {X : Cx} {g : G} {pos pos' : Pos}
theorem spt_star {ps : List Pattern} {ns : List (Str × Nat)} {fs : List D → Option (Option (List D))} {n : Nat} (hK : X.K = g.K) (hc : X.calm = true) (h : SEa g X ps ns fs) (hn : ps.length = n + 1) (hstar : ps.findIdx? (·.isStar) = some n) (h0 : 0 < n) (hnames : (ps[n]?.elim [] (·.names)).isEmpty = false)
    (hwild : (ps.all fun p => p.isWildcard || (p.isStar && p.names.isEmpty)) = false) : SPt g X (.MatchSequence ps pos) ns (mStar n fs) := by
  refine ⟨fun pins s σ H al hq v u d Q I rv rh rd q => ?_⟩
  have h63 := line63
  cases rd with
  | @lst a ds vs ha ra =>
    have q : ThenP g al hq H (if n ≤ ds.length then fs (ds.take n ++ [.lst (ds.drop n)]) else some none) Q := q
    cases rv
    have hs := ha.sq (K := g.K)
    rw [← hK] at hs
    obtain ⟨its, r, p, hz⟩ := I.list hs
    have hl := r.length
    have hl2 := ra.length
    rw [arm_matchPattern_MatchSequence]
    refine wpAny_bind (wpAny_standAt ?_)
    refine wpAny_bind (wpAny_collectionFlag p.isList.typeIs flag_seq_list ?_)
    simp only [hstar, hwild, hn, hnames, Bool.not_true, Bool.false_eq_true, if_false, if_true]
    rw [if_pos (by omega)]
    refine wpAny_bind (pyLen_list p.isList (by rw [List.size_toArray]; omega) ?_)
    by_cases hd : n ≤ ds.length
    · rw [if_pos hd] at q
      rw [if_neg (by rw [List.size_toArray]; omega)]
      have ht : IsTup s.heap a its.toArray ∨ True := .inr trivial
      refine wpAny_bind (unp_star (s := { s with toks := s.toks + 1 + 1 }) (I.ok.hd hc) p.isList (by rw [List.size_toArray]; omega) (by rw [List.size_toArray]; omega) fun s' k1 k2 k3 k4 => ?_)
      obtain ⟨h', g', d', t', o'⟩ := s'
      have k2 : g' = s.gens := k2
      have k3 : d' = s.drawn := k3
      have k4 : o' = s.os := k4
      subst k2 k3 k4
      have I1 : Inv X pins σ H { s with heap := h', toks := t' } := I.kept (t' := t') fun b o eb => k1 b o (Heap.lt_size eb) eb
      rw [List.toList_toArray]
      have rd' : Vals (vs.drop n) (its.drop n) := r.drop n
      have I2 := I1.lnew (t' := t') rd' (by rw [List.length_drop]; omega)
      have np : H h'.objs.size = none := I1.fresh
      obtain ⟨od, I3⟩ := I2.lock (d := h'.objs.size) upd_same trivial
      have nin := rh.ninN np
      have ex : Ex al al H (upd (upd H h'.objs.size (.lst (vs.drop n))) h'.objs.size (.frz od (.lst (vs.drop n)))) := (Ex.new np).wr np
      refine h.run pins _ σ _ al hq (vs.take n ++ [.ref h'.objs.size]) _ (ds.take n ++ [.lst (ds.drop n)]) Q I3 ((r.take n).append (.cons (show RelV (.ref h'.objs.size) (.ref h'.objs.size) from rfl) .nil)) ((rh.new np).wr nin upd_same trivial) (((ra.mo ex.mo).take n).append (.cons (.lst ⟨od, upd_same, nin⟩ ((ra.mo ex.mo).drop n)) .nil)) (q.later ex)
    · rw [if_neg hd] at q
      rw [if_pos (by rw [List.size_toArray]; omega)]
      exact wpAny_pure ⟨none, H, I.tok _, trivial, q H rh (Ex.refl _ _)⟩
  | _ => exact False.elim q
end
end Dy
end

section
set_option Elab.async false
set_option linter.all false
set_option maxRecDepth 100000
set_option maxHeartbeats 2000000
/-! Dy22: the match statement. -/
namespace Dy
open PySem PySem.Spec PyProof.Rows L2 GxR Gx

def csNil : D → FS := fun _ => fNx
def csCons (f : D → Option (Option (List D))) (is : List Nat) (F : FS) (R : D → FS) : D → FS := fun d sl h => match f d with
  | none => .st
  | some none => R d sl h
  | some (some ds) => F (sets sl (is.zip ds)) h
structure SCs (g : G) (X : Cx) (cases : List MatchCase) (F : D → FS) : Prop where
  run : ∀ (first : Bool) (pins : List (Addr × Obj)) (s : Shared) (σ : L2.St) (H : Hp) (E : Ends) (al : List Addr) (hq : Hq) (sl : List Sl) (v : V) (u : Value) (d : D), Inv X pins σ H s → RelV v u → RH g al hq H → RSe g al H sl σ → Rv g.K al H d v → ThenS g al H (F d sl hq) E →
    wpAny (model X.prog X.w) X.A (matchCases cases X.env u first) (SP X pins E) X.xe s
theorem rk_zip {K : PySem.W.Frag} {al : List Addr} {H : Hp} : ∀ {is : List Nat} {ds : List D} {vs : List V}, is.length = ds.length → Rvs K al H ds vs → Rk K al H (is.zip ds) (is.zip vs)
  | [], [], _, _, r => by cases r; exact .nil
  | i :: is, d :: ds, _, h, r => by
    cases r with
    | cons a b => exact .cons rfl a (rk_zip (by simpa using h) b)
section
variable {X : Cx} {g : G}
theorem assign_names (hN : X.N.Nodup) {pins : List (Addr × Obj)} {H : Hp} {Q : Shared → Prop} : ∀ (ns : List (Str × Nat)) (bs : List (Str × Value)) (vs : List V) (σ : L2.St) (s : Shared), Inv X pins σ H s → bs.map (·.1) = ns.map (·.1) → Vals vs (bs.map (·.2)) →
    (∀ p ∈ ns, X.N[p.2]? = some p.1 ∧ Loc X.env.scope p.1 ∧ (X.fn p.1 = true ∨ X.env.scope.names.lookup p.1 = some .local)) → (∀ s', Inv X pins (setsV σ ((ns.map (·.2)).zip vs)) H s' → Q s') →
    wpAny (model X.prog X.w) X.A (assignInOrder (bs.map fun (n, _) => bindName X.env n) (bs.map (·.2))) (fun _ => Q) X.xe s
  | [], [], vs, σ, s, I, e, r, _, h => by
    cases r
    exact assignInOrder_nil (h s I)
  | n :: ns, [], vs, σ, s, I, e, r, _, h => by simp at e
  | [], b :: bs, vs, σ, s, I, e, r, _, h => by simp at e
  | n :: ns, b :: bs, vs, σ, s, I, e, r, hns, h => by
    obtain ⟨x, u⟩ := b
    obtain ⟨y, i⟩ := n
    simp only [List.map_cons, List.cons.injEq] at e
    obtain ⟨e1, e2⟩ := e
    have e1 : x = y := e1
    subst e1
    rw [List.map_cons] at r
    cases r with
    | @cons v _ vs _ rv rt =>
      obtain ⟨h1, h2, h3⟩ := hns (x, i) List.mem_cons_self
      refine assignInOrder_cons (wpAny_bindName (store_ok I hN h1 h2 rv (fun s' I' => ?_) h3))
      exact assign_names hN ns bs vs _ s' I' e2 rt (fun p hp => hns p (List.mem_cons_of_mem _ hp)) h
theorem scs_nil : SCs g X [] csNil := by
  refine ⟨fun first pins s σ H E al hq sl v u d I rv rh rs rd q => wpAny_matchCases_nil ?_⟩
  exact ⟨σ, H, I, q al σ H rh (Ex.refl _ _) rs⟩
theorem scs_cons {p : Pattern} {body : List Stmt} {rest : List MatchCase} {ns : List (Str × Nat)} {f : D → Option (Option (List D))} {F : FS} {R : D → FS} (hN : X.N.Nodup) (hp : SPt g X p ns f) (hb : SSs g X body F) (hr : SCs g X rest R)
    (hns : ∀ p ∈ ns, X.N[p.2]? = some p.1 ∧ Loc X.env.scope p.1 ∧ (X.fn p.1 = true ∨ X.env.scope.names.lookup p.1 = some .local)) : SCs g X (⟨p, none, body⟩ :: rest) (csCons f (ns.map (·.2)) F R) := by
  refine ⟨fun first pins s σ H E al hq sl v u d I rv rh rs rd q => wpAny_matchCases_cons ?_⟩
  unfold csCons at q
  cases e : f d with
  | none => simp only [e] at q; exact False.elim q
  | some o =>
    cases o with
    | none =>
      simp only [e] at q
      refine thn (hp.run pins s σ H al hq v u d (fun r H' => r = none ∧ RH g al hq H' ∧ Ex al al H H') I rv rh rd (by rw [e]; exact fun H' rh' ex' => ⟨rfl, rh', ex'⟩)) fun w s1 ⟨r', H1, I1, rb, er, rh1, ex1⟩ => ?_
      subst er
      cases w with
      | some _ => exact False.elim rb
      | none => exact hr.run false pins s1 σ H1 E al hq sl v u d I1 rv rh1 (rs.ex ex1) (rd.mo ex1.mo) (q.later ex1)
    | some ds =>
      simp only [e] at q
      refine thn (hp.run pins s σ H al hq v u d (fun r H' => ∃ vs', r = some vs' ∧ RH g al hq H' ∧ Ex al al H H' ∧ Rvs g.K al H' ds vs') I rv rh rd (by rw [e]; exact fun H' vs' rh' ex' rv' => ⟨vs', rfl, rh', ex', rv'⟩)) fun w s1 ⟨r', H1, I1, rb, vs', er, rh1, ex1, rva⟩ => ?_
      subst er
      cases w with
      | none => exact False.elim rb
      | some bs =>
        obtain ⟨hb1, hb2⟩ := rb
        refine assign_names hN ns bs vs' σ s1 I1 hb1 hb2 hns fun s2 I2 => ?_
        refine hb.run pins s2 _ H1 E I2 ⟨al, _, hq, rh1, (rs.ex ex1).sets (rk_zip ?_ rva), q.later ex1⟩
        have l1 := hb2.length
        have l2 := congrArg List.length hb1
        rw [List.length_map, List.length_map] at l2
        rw [List.length_map] at l1
        rw [List.length_map, rva.length, l1, l2]
def fMatch (fe : FE) (F : D → FS) : FS := fun sl h => (fe sl h).toS fun d h1 => F d sl h1
theorem ss_match {e : Expr} {fe : FE} {cases : List MatchCase} {F : D → FS} {pos : Pos} (he : SE g X e fe) (hc : SCs g X cases F) : SS g X (.Match e cases pos) (fMatch fe F) := by
  refine ⟨fun pins s σ H E I q => wpAny_Match ?_⟩
  obtain ⟨al, sl, hq, rh, rs, q⟩ := q
  replace q : ThenS g al H (fMatch fe F sl hq) E := q
  unfold fMatch at q
  obtain ⟨d, h1, e1, q⟩ := q.split
  refine thn (he.run pins s σ H (fun v H' => ∃ al', RH g al' h1 H' ∧ Ex al al' H H' ∧ Rv g.K al' H' d v) I ⟨al, sl, hq, rh, rs, by rw [e1]; exact fun al' v H' rh' ex' rv' => ⟨al', rh', ex', rv'⟩⟩) fun u s1 ⟨v, H1, I1, rv, al1, rh1, ex1, rd⟩ => ?_
  exact hc.run true pins s1 σ H1 E al1 h1 sl v u d I1 rv rh1 (rs.ex ex1) rd (q.later ex1)
end
end Dy
end

section
set_option Elab.async false
set_option linter.all false
set_option maxRecDepth 100000
set_option maxHeartbeats 2000000
/-! Dy23: isinstance(x, str), a written tuple's index, a written dict's get. -/
namespace Dy
open PySem PySem.Spec PyProof.Rows L2 GxR Gx

def fIsStr (fa : FE) : FE := fun sl h => (fa sl h).bind fun d h1 => match d with
  | .str _ => .ok (.bl true) h1
  | .int _ => .ok (.bl false) h1
  | .bl _ => .ok (.bl false) h1
  | .non => .ok (.bl false) h1
  | _ => .st
section
variable {X : Cx} {g : G} {a e : Expr} {fa fe : FE} {p p2 pos apos cpos : Pos}
theorem pe_tyName {x : Str} {T : String} (hg : Gl X x) (hm : X.mg x = none) (hv : bootBuiltins x = some (.type T)) (hn : x ≠ "__name__") (hd : (x == ("__debug__" : Str)) = false) : PE X (.Name x p) (tC (.ty T)) :=
  ⟨fun pins s σ H Q I h => ld_blt I hg hm hv ⟨.ty T, H, I, rfl, h⟩ hn hd⟩
theorem se_isStr (hK : X.K = g.K) (hm : X.mg "isinstance" = none) (hm2 : X.mg "str" = none) (ha : SE g X a fa) (hg : Gl X "isinstance") (hg2 : Gl X "str") (he : starEach [a, .Name "str" p2] X.env = (false, eval a X.env) :: starEach [.Name "str" p2] X.env) (he2 : starEach [.Name "str" p2] X.env = (false, eval (.Name "str" p2) X.env) :: starEach [] X.env)
    (hpl : (backTo pos (starEach [.Name "str" p2] X.env)).any (·.1) = false) : SE g X (.Call (.Name "isinstance" p) [a, .Name "str" p2] [] pos) (fIsStr fa) := by
  refine PE.le (pe_callB call_isi hg hm PyProof.Rows.boot_isinstance (pa_cons ha (pa_cons (pe_tyName hg2 hm2 boot_str (by decide) (by decide)) pa_nil he2) he) (by decide) (by decide) he hpl) fun σ H Q q => ?_
  obtain ⟨al, sl, hq, rh, rs, q⟩ := q
  replace q : Then g al H (fIsStr fa sl hq) Q := q
  unfold fIsStr at q
  obtain ⟨d, h1, e1, q⟩ := q.split
  refine ⟨al, sl, hq, rh, rs, ?_⟩
  rw [e1]
  intro al1 v H1 rh1 ex1 rv
  replace q := q.later ex1
  cases rv with
  | str z => exact ⟨.str z, .ty "str", .type "str", .type "str", true, rfl, .ty "str", .base (.str z), kit_ty (by decide +kernel), q.ok rh1 (.bl true)⟩
  | int i => exact ⟨.int i, .ty "str", .type "int", .type "str", false, rfl, .ty "str", .base (.int i), kit_ty (by decide +kernel), q.ok rh1 (.bl false)⟩
  | bl i => exact ⟨.bl i, .ty "str", .type "bool", .type "str", false, rfl, .ty "str", .base (.bl i), kit_ty (by decide +kernel), q.ok rh1 (.bl false)⟩
  | non => exact ⟨.non, .ty "str", .type "NoneType", .type "str", false, rfl, .ty "str", .base .non, kit_ty (by decide +kernel), q.ok rh1 (.bl false)⟩
  | _ => exact False.elim q
/-! ### index of a written tuple of texts -/
def opTIndex (x : D) (xs : List D) (h : Hq) : R D := match x, xs with
  | .kt ds, [.str z] => match unstrs ds with
    | some ys => (match ys.findIdx? (fun y => decide (y = z)) with
      | some j => .ok (.int j) h
      | none => .st)
    | none => .st
  | _, _ => .st
theorem om_tindex : OpM g opTIndex (fun x xs H Q => ∃ p, ∃ ys : List Str, ∃ z j, x = .ref p ∧ xs = [.str z] ∧ SqT g.K H p (ys.map V.str) ∧ ys[j]? = some z ∧ (∀ m, m < j → ys[m]? ≠ some z) ∧ Q (.int (j : Nat)) H) := by
  intro al hq H x xs vx vxs Q rh rx rxs q
  unfold opTIndex at q
  split at q
  · rename_i ds z
    cases rxs with
    | cons r t =>
      cases t; cases r
      cases rx with
      | kt ha ra =>
        cases e1 : unstrs ds with
        | none => simp only [e1] at q; exact False.elim q
        | some ys =>
          simp only [e1] at q
          cases e2 : ys.findIdx? (fun y => decide (y = z)) with
          | none => simp only [e2] at q; exact False.elim q
          | some j =>
            simp only [e2] at q
            have ev := unstrs_rv ra e1
            subst ev
            obtain ⟨hj, h1, h2⟩ := List.findIdx?_eq_some_iff_getElem.mp e2
            refine ⟨_, ys, z, j, rfl, rfl, ha.sq, ?_, fun m hm => ?_, q.ok rh (.int _)⟩
            · rw [List.getElem?_eq_getElem hj]
              exact congrArg some (of_decide_eq_true h1)
            · rw [List.getElem?_eq_getElem (Nat.lt_trans hm hj)]
              intro h3
              have := h2 m hm
              rw [Option.some.inj h3] at this
              simp at this
  · exact False.elim q
/-! ### get of a written dict -/
structure KTab (K : PySem.W.Frag) (w : World) (mg : Str → Option Value) (x : Str) (kvs : List (Str × D)) : Prop where
  ex : ∃ d es n, mg x = some (.ref d) ∧ KDict K w d es n ∧ ∀ z, match look kvs z with
    | some dv => ∃ u v, PySem.W.nsIn K d z = some (some u) ∧ RelV v u ∧ ∀ al H, Rv K al H dv v
    | none => PySem.W.nsIn K d z = some none
def fGetK (kvs : List (Str × D)) (fe : FE) : FE := fun sl h => (fe sl h).bind fun d h1 => match d with
  | .str z => (match look kvs z with
    | some x => .ok x h1
    | none => .ok .non h1)
  | _ => .st
theorem se_getK {x : Str} {kvs : List (Str × D)} (T : KTab g.K X.w X.mg x kvs) (hK : X.K = g.K) (hg : Gl X x) (he : SE g X e fe) (hd : (x == ("__debug__" : Str)) = false) (m : M1 X (.Name x p) "get" apos e cpos) : SE g X (.Call (.Attribute (.Name x p) "get" apos) [e] [] cpos) (fGetK kvs fe) := by
  obtain ⟨d, es, n, hm, D, look_ok⟩ := T.ex
  rw [← hK] at D
  refine ⟨fun pins s σ H Q I q => ?_⟩
  obtain ⟨al, sl, hq, rh, rs, q⟩ := q
  replace q : Then g al H (fGetK kvs fe sl hq) Q := q
  unfold fGetK at q
  obtain ⟨dk, h1, e1, q⟩ := q.split
  have ty : ∀ {s : Shared} {H : Hp}, Inv X pins σ H s → s.heap.MapOf (strKind X.prog X.w) d (fun k => findBy Value.isStrOf es k) := fun I => PySem.W.mapOf_K (prog := X.prog) (w := X.w) I.kIn D.at_ D.lit
  refine wpAny_Call_method m.base m.few m.line PySem.F.plainAttrs_dict PySem.F.slot_dict_get PySem.F.type_dict_get (ld_glob I hg hm ?_ hd)
  refine ⟨(ty I).typeIs, fun b eb => ?_, ?_⟩
  · cases eb
    exact ⟨_, I.kIn _ _ D.at_, rfl⟩
  · rw [m.trees]
    refine Calls.callWith_builtin rfl (Calls.evalArgs_plain (Calls.spliced_cons (thn (he.run pins s σ H (fun v H' => ∃ al', RH g al' h1 H' ∧ Ex al al' H H' ∧ Rv g.K al' H' dk v) I ⟨al, sl, hq, rh, rs, by rw [e1]; exact fun al' v H' rh' ex' rv' => ⟨al', rh', ex', rv'⟩⟩) fun iv s2 ⟨y, H2, I2, ry, al2, rh2, ex2, rk⟩ => Calls.spliced_nil ?_)))
    replace q := q.later ex2
    cases rk with
    | str z =>
      obtain ⟨t, rfl⟩ := ry
      refine call_meetsIn PySem.F.slot_dict_get (ty I2).typeIs PySem.F.entry_dict_get (PySem.F.args_dict_get_2 _ _) (meets_dict_get (strKind X.prog X.w) d (strKind_is _ _ z t) D.low) ⟨_, ty I2, ?_⟩
      have hz := look_ok z
      cases el : look kvs z with
      | none =>
        rw [el] at hz
        rw [← hK] at hz
        rw [PySem.W.find_K D.at_ hz]
        simp only [el] at q
        exact ⟨.non, H2, I2.tok _, rfl, q.ok rh2 .non⟩
      | some dv =>
        rw [el] at hz
        obtain ⟨u, v, n1, n2, n3⟩ := hz
        rw [← hK] at n1
        rw [PySem.W.find_K D.at_ n1]
        simp only [el] at q
        exact ⟨v, H2, I2.tok _, n2, q.ok rh2 (n3 _ _)⟩
    | _ => exact False.elim q
end
namespace W
section
variable {X : Cx} {g : G} {a e o : Expr} {fa fe fo : FE} {fs : FI} {p p2 pos apos cpos : Pos}
theorem isStr (hm : X.mg "isinstance" = none) (hm2 : X.mg "str" = none) (ha : SE g X a fa) (hK : X.K = g.K := by rfl) (hg : Gl X "isinstance" := by rfl) (hg2 : Gl X "str" := by rfl) (he : starEach [a, .Name "str" p2] X.env = (false, eval a X.env) :: starEach [.Name "str" p2] X.env := by rfl) (he2 : starEach [.Name "str" p2] X.env = (false, eval (.Name "str" p2) X.env) :: starEach [] X.env := by rfl)
    (hpl : (backTo pos (starEach [.Name "str" p2] X.env)).any (·.1) = false := by rfl) : SE g X (.Call (.Name "isinstance" p) [a, .Name "str" p2] [] pos) (fIsStr fa) := se_isStr hK hm hm2 ha hg hg2 he he2 hpl
theorem tindex (h : SE g X o fo) (ha : SA g X [e] fs) (hK : X.K = g.K := by rfl) (hbase : attributeBase o "index" X.env (eval o X.env) = eval o X.env := by rfl)
    (hfew : ((backTo cpos (starEach [e] X.env)).all (fun x => !x.1) && (backToKw cpos (keywordEach [] X.env)).all (fun x => x.1.isSome)
      && decide (([e] : List Expr).length + ([] : List Keyword).length + (if ([] : List Keyword).isEmpty then 0 else 1) < 30)) = true := by rfl)
    (hline : (apos.endLine == cpos.line) = true := by rfl) (hs : starEach [e] X.env = (false, eval e X.env) :: starEach [] X.env := by rfl) : SE g X (.Call (.Attribute o "index" apos) [e] [] cpos) (fBm .tup opTIndex fo fs) :=
  se_bm hK PySem.F.plainAttrs_tuple PySem.F.slot_tuple_index PySem.F.type_tuple_index (hK ▸ mt_tup_index) om_tindex h ha hbase hfew hline hs (by rfl)
theorem getK {x : Str} {kvs : List (Str × D)} (T : KTab g.K X.w X.mg x kvs) (he : SE g X e fe) (hK : X.K = g.K := by rfl) (hg : Gl X x := by rfl) (hd : (x == ("__debug__" : Str)) = false := by decide) (m : M1 X (.Name x p) "get" apos e cpos := by exact ⟨rfl, rfl, rfl, rfl⟩) : SE g X (.Call (.Attribute (.Name x p) "get" apos) [e] [] cpos) (fGetK kvs fe) := se_getK T hK hg he hd m
end
end W
end Dy
end

section
set_option Elab.async false
set_option linter.all false
set_option maxRecDepth 100000
set_option maxHeartbeats 2000000
/-! Dy24: a dict and {}, sorted(dict), sorted(list). -/
namespace Dy
open PySem PySem.Spec PyProof.Rows L2 GxR Gx
section
variable {X : Cx} {g : G}
def rNeE : R2 := fun x y H Q => ∃ a b kvs, x = .ref a ∧ y = .ref b ∧ Rd H a (.dK kvs) ∧ Rd H b (.dK []) ∧ Q (.bl (!decide (kvs.length = 0))) H
theorem op_neE (hu : X.A.units < cLine) : OpR X (compareOp .NotEq) rNeE := by
  intro pins s σ H x y v u Q I rx ry h
  obtain ⟨a, b, kvs, rfl, rfl, ea, eb, q⟩ := h
  obtain rfl : v = Value.ref a := rx
  obtain rfl : u = Value.ref b := ry
  obtain ⟨_, ya, va, ra, da⟩ := dk_rd I.hok ea
  obtain ⟨_, yb, vb, rb, db⟩ := dk_rd I.hok eb
  have h1 := ra.length
  have h2 := rb.length
  have hb : vb = [] := List.length_eq_zero_iff.mp h2.symm
  subst hb
  refine PySem.W.keq_ne (knd := mixKind X.prog X.w) (r := true) ya yb da db hu (fun hl => ?_) (fin_bl I q (by rw [← h1]; cases kvs <;> simp))
  have : va = [] := List.length_eq_zero_iff.mp hl
  subst this
  exact .nil
/-- the dict that a value is -/
def dkD (h : Hq) : D → Option (List (Key × D))
  | .dk kvs => some kvs
  | .ref n => match rdC h n with
    | some (.dk kvs) => some kvs
    | _ => none
  | _ => none
theorem dkD_ok {al : List Addr} {hq : Hq} {H : Hp} {d : D} {v : V} {kvs : List (Key × D)} (rh : RH g al hq H) (r : Rv g.K al H d v) (h : dkD hq d = some kvs) : ∃ a w, v = .ref a ∧ Rd H a (.dK w) ∧ Rk g.K al H kvs w := by
  cases r with
  | dk ha na ek rk => cases h; exact ⟨_, _, rfl, .inr ⟨_, ha⟩, ek, rk⟩
  | @ref n a e =>
    have h' : (match rdC hq n with
      | some (.dk kvs) => some kvs
      | _ => none) = some kvs := h
    cases z : rdC hq n with
    | none => rw [z] at h'; cases h'
    | some c =>
      rw [z] at h'
      cases c with
      | dk ks =>
        cases h'
        exact cell_dk rh (.ref e) z
      | _ => cases h'
  | _ => cases h
def fNeE (fa : FE) : FE := fun sl h => (fa sl h).bind fun d h1 => match dkD h1 d with
  | some kvs => .ok (.bl (!decide (kvs.length = 0))) h1
  | none => .st
theorem neE_q {a : Expr} {fa : FE} {pd : Pos} {σ : L2.St} {H : Hp} {Q : VK} (q : TDe g (fNeE fa) σ H Q) : tOp rNeE (TDe g fa) tDNewK σ H Q := by
  obtain ⟨al, sl, hq, rh, rs, q⟩ := q
  replace q : Then g al H (fNeE fa sl hq) Q := q
  unfold fNeE at q
  obtain ⟨d, h1, e1, q⟩ := q.split
  refine ⟨al, sl, hq, rh, rs, ?_⟩
  rw [e1]
  intro al1 v H1 rh1 ex1 rv
  replace q := q.later ex1
  intro p np
  cases z : dkD h1 d with
  | none => simp only [z] at q; exact False.elim q
  | some kvs =>
    simp only [z] at q
    obtain ⟨a, w, rfl, hr, rk⟩ := dkD_ok rh1 rv z
    refine ⟨a, p, w, rfl, rfl, ?_, .inl upd_same, by rw [← rk.length]; exact q al1 _ _ (rh1.new np) (Ex.new np) (.bl _)⟩
    have ne : a ≠ p := fun e => by
      subst e
      rcases hr with hr | ⟨o, hr⟩ <;> · rw [np] at hr; cases hr
    rcases hr with hr | ⟨o, hr⟩
    · exact .inl (by rw [upd_ne ne]; exact hr)
    · exact .inr ⟨o, by rw [upd_ne ne]; exact hr⟩
theorem se_neE {a : Expr} {fa : FE} {pd pos : Pos} (hu : X.A.units < cLine) (ha : SE g X a fa) (hm : behindInMarks .NotEq (.Dict [] [] pd) = false) : SE g X (.Compare a [.NotEq] [.Dict [] [] pd] pos) (fNeE fa) :=
  PE.le (pe_cmpR (op_neE hu) ha pe_dnewK hm) fun _ _ _ q => neE_q (a := a) (pd := pd) q
theorem sb_neE {a : Expr} {fa : FE} {pd pos : Pos} (hu : X.A.units < cLine) (ha : SE g X a fa) (hm : behindInMarks .NotEq (.Dict [] [] pd) = false) : SB g X (.Compare a [.NotEq] [.Dict [] [] pd] pos) (fAsB (fNeE fa)) :=
  PT.le (pt_cmpR (op_neE hu) ha pe_dnewK hm) fun _ _ _ q => neE_q (a := a) (pd := pd) (asB_q q)
end
/-! ### sorted -/
def leS (a b : Str) : Bool := decide (a.cps.toList ≤ b.cps.toList)
def sortS (ks : List Str) : List Str := ks.mergeSort leS
theorem leS_of {a b : Str} (h : ltCps b.cps.toList a.cps.toList = false) : leS a b = true := by
  rw [ltCps_eq] at h
  unfold leS
  rw [decide_eq_true_eq]
  exact List.not_lt.mp (of_decide_eq_false h)
theorem leS_trans (a b c : Str) (h1 : leS a b = true) (h2 : leS b c = true) : leS a c = true := by
  unfold leS at *
  rw [decide_eq_true_eq] at *
  exact List.le_trans h1 h2
theorem leS_total (a b : Str) : (leS a b || leS b a) = true := by
  unfold leS
  rw [Bool.or_eq_true, decide_eq_true_eq, decide_eq_true_eq]
  exact List.le_total _ _
theorem leS_anti (a b : Str) (h1 : leS a b = true) (h2 : leS b a = true) : a = b := by
  unfold leS at *
  rw [decide_eq_true_eq] at *
  have := List.le_antisymm h1 h2
  cases a; cases b
  simp only [Str.mk.injEq]
  exact Array.toList_inj.mp this
theorem rising_pw : ∀ (l : List Str) (p : Str), risingS p l = true → (p :: l).Pairwise (fun a b => leS a b = true)
  | [], p, _ => by simp
  | x :: r, p, h => by
    unfold risingS at h
    rw [Bool.and_eq_true] at h
    have h1 : leS p x = true := leS_of (by simpa using h.1)
    have ih := rising_pw r x h.2
    rw [List.pairwise_cons] at ih ⊢
    refine ⟨fun b hb => ?_, List.pairwise_cons.mpr ih⟩
    rcases List.mem_cons.mp hb with rfl | hb
    · exact h1
    · exact leS_trans _ _ _ h1 (ih.1 b hb)
theorem sorted_uniq {ys ks : List Str} (p : ys.Perm ks) (h : sortedS ys = true) : ys = sortS ks := by
  have hy : ys.Pairwise (fun a b => leS a b = true) := by
    cases ys with
    | nil => exact .nil
    | cons x r => exact rising_pw r x h
  refine List.Perm.eq_of_pairwise (le := fun a b => leS a b = true) (fun a b _ _ h1 h2 => leS_anti a b h1 h2) hy (List.pairwise_mergeSort leS_trans leS_total ks) (p.trans (List.mergeSort_perm ks leS).symm)
def txtKeys : List (Key × D) → Option (List Str)
  | [] => some []
  | (.inr x, _) :: r => (txtKeys r).map (x :: ·)
  | _ :: _ => none
theorem txtKeys_ok : ∀ {kvs : List (Key × D)} {ks : List Str}, txtKeys kvs = some ks → kvs.map (·.1) = ks.map Sum.inr
  | [], _, h => by cases h; rfl
  | (.inr x, d) :: r, ks, h => by
    obtain ⟨k2, h1, rfl⟩ := Option.map_eq_some_iff.mp (show (txtKeys r).map _ = _ from h)
    rw [List.map_cons, List.map_cons, txtKeys_ok h1]
  | (.inl i, d) :: r, ks, h => by cases h
/-- sorted(a dict with text keys, a list of texts) -/
def opSorted (xs : List D) (h : Hq) : R D := match xs with
  | [x] => match dkD h x with
    | some kvs => (match txtKeys kvs with
      | some ks => if ks.length < 64 then .ok (.lst (strsD (sortS ks))) h else .st
      | none => .st)
    | none => match (litems h x).bind unstrs with
      | some ks => if ks.length < 64 then .ok (.lst (strsD (sortS ks))) h else .st
      | none => .st
  | _ => .st
def rSortedX (K : PySem.W.Frag) : List V → Hp → VK → Prop := fun xs H Q => ((fun xs H Q => ∃ (a : Addr) (kvs : List (Key × V)) (ks : List Str), xs = [.ref a] ∧ Rd H a (.dK kvs) ∧ kvs.map (·.1) = ks.map Sum.inr ∧ ks.length < 64 ∧
    ∀ ys p, ys.Perm ks → sortedS ys = true → H p = none → Q (.ref p) (upd H p (.lst (ys.map V.str)))) : List V → Hp → VK → Prop) xs H Q ∨ rSortedS K xs H Q
section
variable {X : Cx} {g : G}
theorem call_sortedX (hc : X.calm = true) : CallR X (.builtin "sorted") (rSortedX X.K) := CallR.or (call_sortedD hc) cr_sortedS
theorem oc_sorted : OpCO g opSorted (rSortedX g.K) := by
  intro al hq H xs vxs Q rh rxs q
  unfold opSorted at q
  split at q
  · rename_i x
    cases rxs with
    | cons r t =>
      cases t
      cases z : dkD hq x with
      | some kvs =>
        simp only [z] at q
        cases e : txtKeys kvs with
        | none => simp only [e] at q; exact False.elim q
        | some ks =>
          simp only [e] at q
          by_cases hl : ks.length < 64
          · rw [if_pos hl] at q
            obtain ⟨a, w, rfl, hr, rk⟩ := dkD_ok rh r z
            refine .inl ⟨a, w, ks, rfl, hr, by rw [← rk.1]; exact txtKeys_ok e, hl, fun ys p hp hs np => ?_⟩
            rw [sorted_uniq hp hs]
            exact q.new rh (Ex.refl _ _) np ⟨_, rfl, _, rfl, strsD_rv _⟩
          · rw [if_neg hl] at q; exact False.elim q
      | none =>
        simp only [z] at q
        cases e : (litems hq x).bind unstrs with
        | none => simp only [e] at q; exact False.elim q
        | some ks =>
          simp only [e] at q
          by_cases hl : ks.length < 64
          · rw [if_pos hl] at q
            obtain ⟨ds, e1, e2⟩ := Option.bind_eq_some_iff.mp e
            obtain ⟨a, vs, rfl, hs, rvs⟩ := litems_ok rh r e1
            have ev := unstrs_rv rvs e2
            subst ev
            refine .inr ⟨a, ks, rfl, hs, hl, fun ys p hp hs np => ?_⟩
            rw [sorted_uniq hp hs]
            exact q.new rh (Ex.refl _ _) np ⟨_, rfl, _, rfl, strsD_rv _⟩
          · rw [if_neg hl] at q; exact False.elim q
  · exact False.elim q
end
end Dy
end

section
set_option Elab.async false
set_option linter.all false
set_option maxRecDepth 100000
set_option maxHeartbeats 2000000
/-! Dy25: tuples known to be plain; dict(such a tuple of pairs). -/
namespace Dy
open PySem PySem.Spec PyProof.Rows L2 GxR Gx
section
variable {X : Cx} {g : G}
def tTupF (t : TA) : TE := fun σ H Q => t σ H fun xs H1 => xs.length ≤ sizeLine ∧ ∀ p, H1 p = none → ∀ ob : Obj, ob.dict = none → Q (.ref p) (upd H1 p (.frz ob (.tup xs)))
theorem pe_tupF {es : List Expr} {t : TA} {x1 : Nat} {pos : Pos} (h : PA X es t) : PE X (.Tuple es x1 pos) (tTupF t) := by
  refine ⟨fun pins s σ H Q I hq => wpAny_Tuple_spliced (thn (h.run pos pins s σ H _ I hq) fun us s1 ⟨xs, H1, I1, r, z, q⟩ => ⟨by rw [← r.length]; exact z, ?_⟩)⟩
  have np : H1 s1.heap.objs.size = none := I1.fresh
  have at_ := Heap.get?_push_size s1.heap (o := { cls := .type "tuple", data := .seq us.toArray }) rfl
  have new : ObjOk X.prog X.w (upd H1 s1.heap.objs.size (.frz { cls := .type "tuple", data := .seq us.toArray } (.tup xs))) (s1.heap.push { cls := .type "tuple", data := .seq us.toArray }) s1.heap.objs.size (.frz { cls := .type "tuple", data := .seq us.toArray } (.tup xs)) :=
    ⟨at_, z, us, r, ⟨_, at_, rfl, _, rfl⟩⟩
  exact ⟨.ref s1.heap.objs.size, _, I1.laid (t' := s1.toks) (fun b u e => Heap.get?_push_of_some _ e) (Nat.le_refl _) new, rfl, q _ np _ rfl⟩
def fTupF (fs : FI) : FE := fun sl h => (fs sl h).bind fun ds h1 => if ds.length ≤ LIM then .ok (.pt ds) h1 else .st
theorem se_tupF {es : List Expr} {fs : FI} {k : Nat} {pos : Pos} (h : SA g X es fs) : SE g X (.Tuple es k pos) (fTupF fs) := by
  refine PE.le (pe_tupF h) fun σ H Q q => ?_
  obtain ⟨al, sl, hq, rh, rs, q⟩ := q
  replace q : Then g al H (fTupF fs sl hq) Q := q
  unfold fTupF at q
  obtain ⟨ds, h1, e, q⟩ := q.split
  refine TDa.split rh rs e fun al1 vs H1 rh1 ex1 rvs => ?_
  replace q := q.later ex1
  by_cases hl : ds.length ≤ LIM
  · rw [if_pos hl] at q
    refine ⟨by rw [lim_eq, ← rvs.length]; exact hl, fun p np ob hd => ?_⟩
    exact q al1 (.ref p) _ (rh1.new np) (Ex.new np) (.pt upd_same (rh1.ninN np) hd (rvs.mo (Mo.new np)))
  · rw [if_neg hl] at q; exact False.elim q
def rCatF (K : PySem.W.Frag) : R2 := fun x y H Q => ∃ a b xs ys, x = .ref a ∧ y = .ref b ∧ SqT K H a xs ∧ SqT K H b ys ∧ xs.length + ys.length ≤ sizeLine ∧
  (xs = [] → Q (.ref b) H) ∧ (xs ≠ [] → ys = [] → Q (.ref a) H) ∧ (xs ≠ [] → ys ≠ [] → ∀ p, H p = none → ∀ ob : Obj, ob.dict = none → Q (.ref p) (upd H p (.frz ob (.tup (xs ++ ys)))))
theorem op_catF : OpR X (binaryOp .Add) (rCatF X.K) := by
  intro pins s σ H x y v u Q I rx ry h
  obtain ⟨a, b, xs, ys, rfl, rfl, ha, hb, hz, q0, q1, q2⟩ := h
  cases rx
  cases ry
  obtain ⟨its, r1, p1, _⟩ := I.tuple ha
  obtain ⟨its2, r2, p2, _⟩ := I.tuple hb
  by_cases hx : xs = []
  · subst hx
    cases r1
    exact cat_tup0 p1 p2 ⟨.ref b, H, I, rfl, q0 rfl⟩
  · refine HT.cat_tup p1 p2 (fun z => hx (r1.nil_iff.mp z)) (fun z => ⟨.ref a, H, I, rfl, q1 hx (r2.nil_iff.mp z)⟩) (fun z => ?_) (by rw [← r1.length, ← r2.length]; exact hz)
    have np : H s.heap.objs.size = none := I.fresh
    have at_ := Heap.get?_push_size s.heap (o := { cls := .type "tuple", data := .seq (its ++ its2).toArray }) rfl
    refine ⟨.ref s.heap.objs.size, _, I.laid (t' := s.toks) (o := .frz { cls := .type "tuple", data := .seq (its ++ its2).toArray } (.tup (xs ++ ys))) (fun b ob q => Heap.get?_push_of_some _ q) (Nat.le_refl _) ?_, rfl, q2 hx (fun w => z (r2.nil_iff.mpr w)) _ np _ rfl⟩
    exact ⟨at_, by rw [List.length_append]; exact hz, _, r1.append r2, ⟨_, at_, rfl, _, rfl⟩⟩
/-- + of any values, plain tuples with them -/
def opAddY (x y : D) (h : Hq) : R D := match x, y with
  | .tup [], .pt b => if b.length ≤ LIM then .ok (.pt b) h else .st
  | .pt a, .pt b => if a.length + b.length ≤ LIM then .ok (.pt (a ++ b)) h else .st
  | _, _ => opAddX x y h
theorem op_addY : OpR X (binaryOp .Add) (fun x y H Q => rCatF X.K x y H Q ∨ (rCatX x y H (Frzd Q) ∨ rAddA X.K x y H Q)) := OpR.or op_catF op_addX
theorem os_addY : OpS g opAddY (fun x y H Q => rCatF g.K x y H Q ∨ (rCatX x y H (Frzd Q) ∨ rAddA g.K x y H Q)) := by
  intro al hq H x y vx vy Q rh rx ry q
  unfold opAddY at q
  split at q
  · rename_i b
    cases rx with
    | tup ha ra =>
      cases ra
      cases ry with
      | pt hb nb eb rb =>
        by_cases hl : b.length ≤ LIM
        · rw [if_pos hl] at q
          exact .inl ⟨_, _, _, _, rfl, rfl, .inl (.inl ha), .inl (.inr ⟨_, hb⟩), by rw [lim_eq, ← rb.length]; simpa using hl, fun _ => q.ok rh (.pt hb nb eb rb), fun h => absurd rfl h, fun h => absurd rfl h⟩
        · rw [if_neg hl] at q; exact False.elim q
  · rename_i a b
    cases rx with
    | pt ha na ea ra =>
      cases ry with
      | pt hb nb eb rb =>
        by_cases hl : a.length + b.length ≤ LIM
        · rw [if_pos hl] at q
          refine .inl ⟨_, _, _, _, rfl, rfl, .inl (.inr ⟨_, ha⟩), .inl (.inr ⟨_, hb⟩), by rw [lim_eq, ← ra.length, ← rb.length]; exact hl, fun e => ?_, fun e1 e2 => ?_, fun e1 e2 p np ob hd => ?_⟩
          · have := ra.length
            rw [e] at this
            rw [List.length_eq_zero_iff.mp this] at q
            exact q.ok rh (.pt hb nb eb rb)
          · have := rb.length
            rw [e2] at this
            rw [List.length_eq_zero_iff.mp this, List.append_nil] at q
            exact q.ok rh (.pt ha na ea ra)
          · exact q al (.ref p) _ (rh.new np) (Ex.new np) (.pt upd_same (rh.ninN np) hd ((ra.append rb).mo (Mo.new np)))
        · rw [if_neg hl] at q; exact False.elim q
  · exact .inr (os_addX al hq H x y vx vy Q rh rx ry q)
/-! ### dict(pairs) -/
theorem firsts_of {h : Heap} : ∀ (prs : List (Key × Value)) (ps : List Addr), prs.length = ps.length → (∀ (j : Nat) (q : Key × Value), prs[j]? = some q → ∃ (b : Addr) (u : Value), ps[j]? = some b ∧ IsTup h b #[u, q.2] ∧ keyIs q.1 u = true) →
    ∃ us : List Value, us.length = prs.length ∧ ∀ (j : Nat) (q : Key × Value) (u : Value), prs[j]? = some q → us[j]? = some u → ∃ b, ps[j]? = some b ∧ IsTup h b #[u, q.2] ∧ keyIs q.1 u = true
  | [], ps, _, _ => ⟨[], rfl, fun j q u h => by simp at h⟩
  | q0 :: prs, [], hl, _ => by simp at hl
  | q0 :: prs, p :: ps, hl, hp => by
    obtain ⟨us, h1, h2⟩ := firsts_of prs ps (by simpa using hl) fun j q hq => by
      obtain ⟨b, u, e1, e2, e3⟩ := hp (j + 1) q (by simpa using hq)
      exact ⟨b, u, by simpa using e1, e2, e3⟩
    obtain ⟨b, u, e1, e2, e3⟩ := hp 0 q0 rfl
    refine ⟨u :: us, by rw [List.length_cons, List.length_cons, h1], fun j q w hq hw => ?_⟩
    cases j with
    | zero =>
      cases hq; cases hw
      exact ⟨b, e1, e2, e3⟩
    | succ j =>
      obtain ⟨b', f1, f2, f3⟩ := h2 j q w (by simpa using hq) (by simpa using hw)
      exact ⟨b', by simpa using f1, f2, f3⟩
def rDictT : List V → Hp → VK → Prop := fun xs H Q => ∃ (a : Addr) (ob : Obj) (ps : List Addr) (kvs : List (Key × V)), xs = [.ref a] ∧ H a = some (.frz ob (.tup (ps.map V.ref))) ∧ ob.dict = none ∧ Paired (fun p kv => SqT X.K H p [kV kv.1, kv.2]) ps kvs ∧
    ∀ p, H p = none → Q (.ref p) (upd H p (.dK (mergeK [] kvs)))
theorem call_dictT (hcalm : X.calm = true) : CallR X (.type "dict") (rDictT (X := X)) := by
  intro pins s σ H xs us Q I r q
  obtain ⟨a, ob, ps, kvs, rfl, hq, hd, hp, q⟩ := q
  obtain ⟨u, rfl, rx⟩ := vals1 r
  cases rx
  obtain ⟨e0, hz, its, rv, ⟨o2, e2, hc, n, hdat⟩⟩ := I.hok a _ hq
  rw [e0] at e2
  cases e2
  have ei := refs_at rv
  subst ei
  rw [List.length_map] at hz
  obtain ⟨prs, rel, hl, hpr⟩ := pairs_of I hp
  obtain ⟨us, hul, hus⟩ := firsts_of prs ps hl hpr
  have hzl : (us.zip (prs.map (·.2))).length = ps.length := by rw [List.length_zip, List.length_map, hul, hl]; exact Nat.min_self _
  have zget : ∀ {j : Nat} {k v : Value}, (us.zip (prs.map (·.2)))[j]? = some (k, v) → ∃ q, prs[j]? = some q ∧ q.2 = v ∧ us[j]? = some k := fun {j k v} e => by
    obtain ⟨h1, h2⟩ := List.getElem?_zip_eq_some.mp e
    rw [List.getElem?_map] at h2
    obtain ⟨q, h3, h4⟩ := Option.map_eq_some_iff.mp h2
    exact ⟨q, h3, h4, h1⟩
  refine PySem.call_dict_pairs (knd := mixKind X.prog X.w) (kvs := prs) (PairArg.tuple a (ps.map Value.ref).toArray (fun j => ps.getD j 0) (us.zip (prs.map (·.2)))) (I.ok.hd hcalm) ⟨⟨ob, n, e0, hc, hd, hdat⟩, ?_, fun j k v e => ?_⟩ ⟨by rw [hzl]; exact hl, fun j k v e => ?_⟩ (by rw [hzl]; exact hz) fun h' tk hd' k => ?_
  · rw [List.size_toArray, List.length_map, hzl]
  · obtain ⟨q', h1, rfl, h3⟩ := zget e
    obtain ⟨b, f1, f2, f3⟩ := hus j q' k h1 h3
    have hg : ps.getD j 0 = b := by rw [List.getD_eq_getElem?_getD, f1]; rfl
    refine ⟨by show (ps.map Value.ref).toArray[j]? = some (.ref (ps.getD j 0)); rw [hg]; simp [f1], ?_⟩
    show PairAt s.heap (ps.getD j 0) k q'.2
    rw [hg]
    exact .inl f2
  · obtain ⟨q', h1, rfl, h3⟩ := zget e
    obtain ⟨b, f1, f2, f3⟩ := hus j q' k h1 h3
    exact ⟨q'.1, h1, f3⟩
  · have hm : (s.heap.objs.size == sysModules) = false := beq_eq_false_iff_ne.mpr (Nat.ne_of_gt I.big)
    have hlen : (mergeK [] kvs).length ≤ sizeLine := by
      have := length_mergeK kvs []
      rw [List.length_nil, Nat.zero_add, rel.length, hl] at this
      omega
    exact ⟨.ref s.heap.objs.size, _, I.laid (t' := tk) (o := .dK (mergeK [] kvs)) (fun b o e => k b o (by simp) e) (Nat.le_refl _) ⟨hlen, hm, merged [] prs, KV.merge rel .nil, hd'⟩, rfl, q _ I.fresh⟩
/-- the pairs of a list of values -/
def prsD : List D → Option (List (Key × D))
  | [] => some []
  | d :: ds => match titems d with
    | some [k, v] => (keyOf k).bind fun k => (prsD ds).map ((k, v) :: ·)
    | _ => none
theorem prsD_ok {al : List Addr} {H : Hp} : ∀ {ds : List D} {vs : List V} {ps : List (Key × D)}, Rvs g.K al H ds vs → prsD ds = some ps → ∃ (bs : List Addr) (kvs : List (Key × V)), vs = bs.map V.ref ∧ Paired (fun p kv => SqT g.K H p [kV kv.1, kv.2]) bs kvs ∧ Rk g.K al H ps kvs
  | _, _, _, .nil, h => by cases h; exact ⟨[], [], rfl, .nil, .nil⟩
  | d :: ds, _, _, .cons r t, h => by
    unfold prsD at h
    split at h
    · rename_i k v e
      obtain ⟨kk, h1, h⟩ := Option.bind_eq_some_iff.mp h
      obtain ⟨ps, h2, rfl⟩ := Option.map_eq_some_iff.mp h
      obtain ⟨bs, kvs, rfl, h4, h5⟩ := prsD_ok t h2
      obtain ⟨b, ws, rfl, hs, rw'⟩ := titems_ok r e
      cases rw' with
      | cons rk rr =>
        cases rr with
        | cons rv rn =>
          cases rn
          have ek := keyOf_ok rk h1
          subst ek
          exact ⟨b :: bs, (kk, _) :: kvs, rfl, .cons hs h4, .cons rfl rv h5⟩
    · cases h
def opDictT (xs : List D) (h : Hq) : R D := match xs with
  | [.pt ds] => match prsD ds with
    | some ps => .ok (.dk (mergeD [] ps)) h
    | none => .st
  | _ => .st
theorem oc_dictT (hK : X.K = g.K) : OpCO g opDictT (rDictT (X := X)) := by
  intro al hq H xs vxs Q rh rxs q
  unfold opDictT at q
  split at q
  · rename_i ds
    cases rxs with
    | cons r t =>
      cases t
      cases r with
      | pt ha na ea ra =>
        cases e : prsD ds with
        | none => simp only [e] at q; exact False.elim q
        | some ps =>
          simp only [e] at q
          obtain ⟨bs, kvs, rfl, h4, h5⟩ := prsD_ok ra e
          exact ⟨_, _, bs, kvs, rfl, ha, ea, by rw [hK]; exact h4, fun p np => q.new rh (Ex.refl _ _) np ⟨_, rfl, _, rfl, (rk_merge h5 .nil).mo (Mo.new np)⟩⟩
  · exact False.elim q
end
end Dy
end

section
set_option Elab.async false
set_option linter.all false
set_option maxRecDepth 100000
set_option maxHeartbeats 2000000
/-! Dy26: more words. -/
namespace Dy
open PySem PySem.Spec PyProof.Rows L2 GxR Gx
section
variable {X : Cx} {g : G} {e : Expr} {es : List Expr} {fs : FI} {x : Str} {p pos : Pos} {r : List V → Hp → VK → Prop} {o : List D → Hq → R D} {id T : String}
theorem so_callB (hc : CallR X (.builtin id) r) (ho : OpCO g o r) (hg : Gl X x) (hm : X.mg x = none) (hv : bootBuiltins x = some (.builtin id)) (ha : SA g X (e :: es) fs) (hn : x ≠ "__name__") (hdb : (x == ("__debug__" : Str)) = false)
    (he : starEach (e :: es) X.env = (false, eval e X.env) :: starEach es X.env) (hpl : (backTo pos (starEach es X.env)).any (·.1) = false) : SO g X (.Call (.Name x p) (e :: es) [] pos) (fCb o fs) :=
  PE.le (pe_callB hc hg hm hv ha hn hdb he hpl) fun _ _ _ q => cbO_q ho q
theorem so_callTy (hc : CallR X (.type T) r) (ho : OpCO g o r) (hg : Gl X x) (hm : X.mg x = none) (hv : bootBuiltins x = some (.type T)) (ha : SA g X (e :: es) fs) (hn : x ≠ "__name__") (hdb : (x == ("__debug__" : Str)) = false)
    (he : starEach (e :: es) X.env = (false, eval e X.env) :: starEach es X.env) (hpl : (backTo pos (starEach es X.env)).any (·.1) = false) : SO g X (.Call (.Name x p) (e :: es) [] pos) (fCb o fs) :=
  PE.le (pe_callTy hc hg hm hv ha hn hdb he hpl) fun _ _ _ q => cbO_q ho q
end
/-! ### xs += ys -/
section
variable {X : Cx} {g : G}
def rExtX : R2 := fun x y H Q => ∃ l b xs zs, x = .ref l ∧ y = .ref b ∧ H l = some (.lst xs) ∧ Rd H b (.lst zs) ∧ xs.length + zs.length ≤ sizeLine ∧ Q (.ref l) (upd H l (.lst (xs ++ zs)))
theorem op_extX : OpR X (inplaceOp .Add) rExtX := by
  intro pins s σ H x y v u Q I rx ry h
  obtain ⟨l, b, xs, zs, rfl, rfl, hH, hB, hz, q⟩ := h
  cases rx
  cases ry
  obtain ⟨z, its, n, r, hl, e⟩ := I.lstM hH
  obtain ⟨z2, its2, n2, r2, e2⟩ := hB.ok I.hok
  have hl2 := r2.length
  have hlong : (!its.toArray.isEmpty && Builtin.List.listTooLong (its.toArray.size + its2.toArray.size)) = false := by
    rw [notLongL (by rw [List.size_toArray, List.size_toArray]; omega), Bool.and_false]
  exact iadd_road ⟨_, e, rfl⟩ ⟨_, e2, rfl⟩ (call_meets PySem.F.slot_list_iadd ⟨_, e, rfl⟩ PySem.F.entry_list_iadd (PySem.F.args_list_iadd_2 _ _)
    (AutoSeq1.list___iadd___list_list_0 l its.toArray n b its2.toArray n2 (by rw [hlong]; exact Bool.false_ne_true) (by simp only [List.size_toArray]; omega) (by simp only [List.size_toArray]; omega)) ⟨e, e2, .ref l, _, I.lset (its' := its ++ its2) (t' := s.toks) hH e (by simp) (r.append r2) (by rw [List.length_append]; omega), rfl, q⟩)
def opIAddX (x y : D) (h : Hq) : R D := match x with
  | .ref n => (match h[n]? with
    | some (.lst ds) => (match litems h y with
      | some bs => if ds.length + bs.length ≤ LIM then .ok (.ref n) (h.set n (.lst (ds ++ bs))) else .st
      | none => .st)
    | _ => .st)
  | _ => opIAdd x y h
def rIAddX : R2 := fun x y H Q => rExtX x y H Q ∨ ((rI0 fun i j => .int (i + j)) x y H Q ∨ ((fun x y H Q => ∃ i j, x = .str i ∧ y = .str j ∧ i.length + j.length ≤ sizeLine ∧ Q (.str (i ++ j)) H) : R2) x y H Q)
theorem op_iaddX : PIp X .Add rIAddX := (OpR.or op_extX (OpR.or iop_add iop_add_str) : OpR X (inplaceOp .Add) _)
theorem oa_iaddX : OpA g opIAddX rIAddX := by
  intro al hq H x y vx vy Q rh rx ry q
  cases x with
  | ref n =>
    unfold opIAddX at q
    cases z : hq[n]? with
    | none => simp only [z] at q; exact False.elim q
    | some c =>
      cases c with
      | lst ds =>
        simp only [z] at q
        cases zy : litems hq y with
        | none => simp only [zy] at q; exact False.elim q
        | some bs =>
          simp only [zy] at q
          by_cases hl : ds.length + bs.length ≤ LIM
          · rw [if_pos hl] at q
            have rx0 := rx
            obtain ⟨a, o, rfl, hn, ha, hH, rc⟩ := cell_wr rh rx z
            obtain ⟨w, rfl, rw'⟩ := rc
            obtain ⟨b, zs, rfl, hB, rb⟩ := litems_rd rh ry zy
            refine .inl ⟨a, b, w, zs, rfl, rfl, hH, hB, by rw [lim_eq, ← rw'.length, ← rb.length]; exact hl, ?_⟩
            exact cell_go (c' := .lst (ds ++ bs)) rh hn hH trivial (fun m => ⟨_, rfl, (rw'.mo m).append (rb.mo m)⟩) rx0 q
          · rw [if_neg hl] at q; exact False.elim q
      | _ => simp only [z] at q; exact False.elim q
  | _ => exact .inr (oa_iadd al hq H _ y vx vy Q rh rx ry q)
end
namespace W
section
variable {X : Cx} {g : G} {x : Str} {pos' : Pos} {a b e : Expr} {es : List Expr} {fa fb fe : FE} {fs : FI} {p pos pd : Pos} {body : List Stmt} {rest : List MatchCase} {F : FS} {Rr : D → FS}
theorem addY (ha : SE g X a fa) (hb : SE g X b fb) (hK : X.K = g.K := by rfl) : SE g X (.BinOp a .Add b pos) (fBin opAddY fa fb) := se_bin (r := fun x y H Q => rCatF g.K x y H Q ∨ (rCatX x y H (Frzd Q) ∨ rAddA g.K x y H Q)) (hK ▸ op_addY) os_addY ha hb
theorem augX (i : Nat) (hN : X.N.Nodup) (he : SE g X e fe) (hi : X.N[i]? = some x := by rfl) (hx : Loc X.env.scope x := by first | exact Or.inl rfl | exact Or.inr rfl) (hf : X.fn x = true ∨ X.env.scope.names.lookup x = some .local := by first | exact .inl rfl | exact .inr rfl) :
    SS g X (.AugAssign (.Name x pos') .Add e pos) (fAug i opIAddX fe) := ss_aug hN hi hx he op_iaddX oa_iaddX hf
theorem dictT (hm : X.mg "dict" = none) (ha : SA g X [e] fs) (hK : X.K = g.K := by rfl) (hc : X.calm = true := by rfl) (hg : Gl X "dict" := by rfl) (he : starEach [e] X.env = (false, eval e X.env) :: starEach [] X.env := by rfl) : SO g X (.Call (.Name "dict" p) [e] [] pos) (fCb opDictT fs) :=
  so_callTy (r := rDictT (X := X)) (call_dictT hc) (oc_dictT hK) hg hm (by rfl) ha (by decide) (by decide) he (by rfl)
theorem sorted (hm : X.mg "sorted" = none) (ha : SA g X [e] fs) (hK : X.K = g.K := by rfl) (hc : X.calm = true := by rfl) (hg : Gl X "sorted" := by rfl) (he : starEach [e] X.env = (false, eval e X.env) :: starEach [] X.env := by rfl) : SO g X (.Call (.Name "sorted" p) [e] [] pos) (fCb opSorted fs) :=
  so_callB (r := rSortedX g.K) (hK ▸ call_sortedX hc) oc_sorted hg hm (by rfl) ha (by decide) (by decide) he (by rfl)
theorem neE (hu : X.A.units < cLine) (ha : SE g X a fa) (hm : behindInMarks .NotEq (.Dict [] [] pd) = false := by rfl) : SE g X (.Compare a [.NotEq] [.Dict [] [] pd] pos) (fNeE fa) := se_neE hu ha hm
theorem neEB (hu : X.A.units < cLine) (ha : SE g X a fa) (hm : behindInMarks .NotEq (.Dict [] [] pd) = false := by rfl) : SB g X (.Compare a [.NotEq] [.Dict [] [] pd] pos) (fAsB (fNeE fa)) := sb_neE hu ha hm
/-! ### match -/
theorem pstr {z : Str} {k : Nat} {pos' : Pos} (hu : X.A.units + 64 < cLine) (hK : X.K = g.K := by rfl) : SPt g X (.MatchValue (.Constant (.str z) k pos) pos') [] (mVal z) := spt_str hu hK
theorem pseq {ps : List Pattern} {ns : List (Str × Nat)} {fs : List D → Option (Option (List D))} (h : SEa g X ps ns fs) (hK : X.K = g.K := by rfl) (hc : X.calm = true := by rfl) (hstar : ps.findIdx? (·.isStar) = none := by rfl) (hwild : (ps.all fun p => p.isWildcard || (p.isStar && p.names.isEmpty)) = false := by rfl) : SPt g X (.MatchSequence ps pos) ns (mSeq ps.length fs) := spt_seq hK hc h hstar hwild
theorem pstar (n : Nat) {ps : List Pattern} {ns : List (Str × Nat)} {fs : List D → Option (Option (List D))} (h : SEa g X ps ns fs) (hK : X.K = g.K := by rfl) (hc : X.calm = true := by rfl) (hn : ps.length = n + 1 := by rfl) (hstar : ps.findIdx? (·.isStar) = some n := by rfl) (h0 : 0 < n := by decide) (hnames : (ps[n]?.elim [] (·.names)).isEmpty = false := by rfl)
    (hwild : (ps.all fun p => p.isWildcard || (p.isStar && p.names.isEmpty)) = false := by rfl) : SPt g X (.MatchSequence ps pos) ns (mStar n fs) := spt_star hK hc h hn hstar h0 hnames hwild
theorem names_nil : ∀ p ∈ ([] : List (Str × Nat)), X.N[p.2]? = some p.1 ∧ Loc X.env.scope p.1 ∧ (X.fn p.1 = true ∨ X.env.scope.names.lookup p.1 = some .local) := fun p hp => by cases hp
theorem names_cons {x : Str} {i : Nat} {ns : List (Str × Nat)} (h : ∀ p ∈ ns, X.N[p.2]? = some p.1 ∧ Loc X.env.scope p.1 ∧ (X.fn p.1 = true ∨ X.env.scope.names.lookup p.1 = some .local)) (hi : X.N[i]? = some x := by rfl) (hx : Loc X.env.scope x := by first | exact Or.inl rfl | exact Or.inr rfl) (hf : X.fn x = true ∨ X.env.scope.names.lookup x = some .local := by first | exact .inl rfl | exact .inr rfl) :
    ∀ p ∈ (x, i) :: ns, X.N[p.2]? = some p.1 ∧ Loc X.env.scope p.1 ∧ (X.fn p.1 = true ∨ X.env.scope.names.lookup p.1 = some .local) := fun p hp => by
  rcases List.mem_cons.mp hp with rfl | hp
  · exact ⟨hi, hx, hf⟩
  · exact h p hp
theorem case_ {pt : Pattern} {ns : List (Str × Nat)} {f : D → Option (Option (List D))} (hN : X.N.Nodup) (hp : SPt g X pt ns f) (hns : ∀ p ∈ ns, X.N[p.2]? = some p.1 ∧ Loc X.env.scope p.1 ∧ (X.fn p.1 = true ∨ X.env.scope.names.lookup p.1 = some .local)) (hb : SSs g X body F) (hr : SCs g X rest Rr) : SCs g X (⟨pt, none, body⟩ :: rest) (csCons f (ns.map (·.2)) F Rr) := scs_cons hN hp hb hr hns
end
end W
end Dy
end

section
set_option Elab.async false
set_option linter.all false
set_option maxRecDepth 100000
set_option maxHeartbeats 4000000
/-! Dy27: sorted(set(a list of texts, each once)). -/
namespace Dy
open PySem PySem.Spec PyProof.Rows L2 GxR Gx PySem.Froz

section
variable {P : Program} {w : World} {A : Around} {E : Value → Shared → Prop} {s : Shared}
/-- a set's payload that holds the texts l and whose order can be told -/
structure TsOk (P : Program) (w : World) (D : SD) (l : List Str) : Prop where
  tx : TxOk P w D l
  ris : Ris D.2.2.place.toList
  led : w.params.followText "set-order" = true ∨ D.2.2.led = true
theorem tail_ris {ep : Nat} {es : Array (Int × Value)} {t : SetTable} {d : Bool} (r : Ris t.place.toList) : Ris (tailTx ep es t d).2.2.place.toList := by
  unfold tailTx
  by_cases c : (!d && t.tooFull) = true
  · rw [if_pos c]; exact relayAll_ris _ _ _
  · rw [if_neg c]; exact r
theorem tail_led {ep : Nat} {es : Array (Int × Value)} {t : SetTable} {d : Bool} (r : t.led = true) : (tailTx ep es t d).2.2.led = true := by
  unfold tailTx
  by_cases c : (!d && t.tooFull) = true
  · rw [if_pos c]; exact (relayAll_led _ _ _).trans r
  · rw [if_neg c]; exact r
theorem TsOk.add {D : SD} {l : List Str} {k : Str} (u : Tok) (T : TsOk P w D l) : TsOk P w (addTx (hashStr w k) (.str k u) D) (k :: l) := by
  obtain ⟨es, ep, t⟩ := D
  have r1 := layNew_ris t es (hashStr w k) (.str k u) T.ris
  have l1 := layNew_led t es (hashStr w k) (.str k u)
  refine ⟨add_ok u T.tx, tail_ris ?_, T.led.imp id fun hl => tail_led ?_⟩
  · by_cases c : (layNew t es (hashStr w k) (.str k u)).2.1.plain = true
    · rw [if_pos c]; exact r1
    · rw [if_neg c]; exact r1
  · by_cases c : (layNew t es (hashStr w k) (.str k u)).2.1.plain = true
    · rw [if_pos c]; exact l1.trans hl
    · rw [if_neg c]; exact l1.trans hl
/-- the set at S holds l -/
def TsAt (P : Program) (w : World) (h : Heap) (S : Addr) (l : List Str) : Prop := ∃ D : SD, h.get? S = some (sObj "set" D) ∧ TsOk P w D l
/-- the walk that adds the texts, one after another -/
theorem add_loop {I : Addr} {fp wr : List Addr} {GG : Array GenState → Array GenState → Prop} {n : Nat} {Pv : Nat → Value → Prop} {St : Nat → Shared → Prop} {RR : Result → Shared → Prop} (W : WalksS P w A.in1 I fp wr GG n Pv St) (S : Addr) (hSf : S ∉ fp) (ks : List Str) (hn : n = ks.length) (nd : ks.Nodup) (hb : ks.length + 1 < scanBound)
    (hval : ∀ i v, Pv i v → ∃ k t, ks[i]? = some k ∧ v = .str k t) : ∀ (m i : Nat) (s : Shared), i + m = n → St i s → TsAt P w s.heap S (ks.take i).reverse → (∀ s', Moved (S :: wr) GG s s' → TsAt P w s'.heap S ks.reverse → RR (.ok (.ret .none)) s') →
      codeAny (model P w) A (.builtin "set.update.loop" ⟨[.ref S, .ref I], []⟩) RR s := by
  have hSw : S ∉ wr := fun h => hSf (W.sub _ h)
  have up : ∀ b ∈ wr, b ∈ S :: wr := fun b hb => List.mem_cons_of_mem _ hb
  have stay : ∀ {s s' : Shared} {l : List Str}, Moved wr GG s s' → TsAt P w s.heap S l → TsAt P w s'.heap S l := fun mv ⟨D, h1, h2⟩ => ⟨D, mv.heap S _ hSw h1, h2⟩
  intro m
  induction m with
  | zero =>
    intro i s hi st ts hR
    have e : i = n := by omega
    subst e
    refine codeAny_builtin PyProof.Rows.F.entry_set_update_loop ?_
    rw [Around.under_plainId PyProof.Rows.F.plain_set_update_loop _]
    show wpAny _ A.in1 (pyNext (.ref I) >>= _) _ _ s
    refine wpAny_bind (W.done s _ _ st fun s' mv => wpAny_pure (hR s' (mv.mono up) ?_))
    have := stay mv ts
    rwa [List.take_of_length_le (by omega)] at this
  | succ m ih =>
    intro i s hi st ts hR
    refine codeAny_builtin PyProof.Rows.F.entry_set_update_loop ?_
    rw [Around.under_plainId PyProof.Rows.F.plain_set_update_loop _]
    show wpAny _ A.in1 (pyNext (.ref I) >>= _) _ _ s
    refine wpAny_bind (W.item i s _ _ (by omega) st fun v s1 hv st1 mv => ?_)
    obtain ⟨k, t, hk, rfl⟩ := hval i v hv
    obtain ⟨D, hD, T⟩ := stay mv ts
    show wpAny _ A.in1 (holding [Value.str k t] (setAdd S (.str k t)) >>= _) _ _ s1
    refine wpAny_bind (wpAny_holding ?_)
    unfold setAdd
    refine wpAny_holding (wpAny_bind ((strKind P w).pyHash (k := k) (strKind_is _ _ _ _) ?_))
    have new : k ∉ (ks.take i).reverse := fun h => by
      rw [List.mem_reverse] at h
      obtain ⟨j, hj, e⟩ := List.getElem_of_mem h
      rw [List.length_take] at hj
      rw [List.getElem_take] at e
      obtain ⟨hi2, e2⟩ := List.getElem?_eq_some_iff.mp hk
      have := (List.getElem_inj nd).mp (e.trans e2.symm)
      omega
    have hlen : (ks.take i).reverse.length + 1 < scanBound := by
      rw [List.length_reverse, List.length_take]
      omega
    refine add_x (s := { s1 with toks := s1.toks + 1 }) hD T.tx new hlen ?_
    have ext : Heap.SameBut S s1.heap (s1.heap.update S fun _ => sObj "set" (addTx (hashStr w k) (.str k t) D)) := Heap.SameBut.update ..
    refine wpAny_pure ⟨plainId_quiet PyProof.Rows.F.plain_set_update_loop _, ih (i + 1) _ (by omega) (W.frame _ s1 _ _ st1 (Nat.le_succ _) fun b hb o e => ?_) ⟨_, get_upd _ hD rfl, ?_⟩ fun s' mv' ts' => hR s' (Moved.trans W.gtrans ((mv.mono up).then_heap (Nat.le_succ _) fun b o hb e => ?_) mv') ts'⟩
    · exact ext.extBut b o (fun h => hSf (h ▸ hb)) e
    · rw [List.take_add_one, hk, List.reverse_append]
      exact T.add t
    · exact ext.extBut b o (fun h => hb (by rw [h]; exact List.mem_cons_self)) e
theorem ts_new (h : Heap) (led : Bool) (hl : led = (!w.params.followText "set-order")) : TsAt P w (h.push { cls := .type "set", dict := none, data := .set #[] 0 (.fresh 0 0 led) }) h.objs.size [] := by
  refine ⟨(#[], 0, .fresh 0 0 led), Heap.get?_push_size _ rfl, TxOk.nil (by rfl), List.Pairwise.nil, ?_⟩
  show _ ∨ led = true
  rw [hl]
  cases w.params.followText "set-order" <;> simp
theorem strs_get : ∀ {us : List Value} {ks : List Str}, StrsAre us ks → ∀ (i : Nat) (v : Value), us[i]? = some v → ∃ k t, ks[i]? = some k ∧ v = .str k t
  | _, _, .nil, i, v, h => by simp at h
  | _, _, .cons k t r, 0, v, h => by
    cases h
    exact ⟨k, t, rfl, rfl⟩
  | _, _, .cons k t r, i + 1, v, h => by
    obtain ⟨k', t', h1, h2⟩ := strs_get r i v (by simpa using h)
    exact ⟨k', t', by simpa using h1, h2⟩
/-- set(l), texts that are each there once -/
theorem call_setS {l : Addr} {items : Array Value} {ks : List Str} {Q : Value → Shared → Prop} (hh : A.handled = none) (hl : s.heap.IsList l items) (hi : StrsAre items.toList ks) (nd : ks.Nodup) (hb : ks.length + 1 < scanBound)
    (h : ∀ s' : Shared, TsAt P w s'.heap s.heap.objs.size ks.reverse → (∀ b o, s.heap.get? b = some o → s'.heap.get? b = some o) → s'.gens = s.gens → s'.drawn = s.drawn → s'.os = s.os → Q (.ref s.heap.objs.size) s') :
    wpAny (model P w) A (call (.type "set") [.ref l]) Q E s := by
  have hn : items.size = ks.length := by rw [← Array.length_toList]; exact StrsAre.len_eq hi
  have lS : l < s.heap.objs.size := by obtain ⟨o, e, _⟩ := hl; exact Heap.lt_size e
  have fS := PySem.F.called_set
  obtain ⟨c, tl, hmro⟩ := fS.mro
  have g1 := fS.made
  have g2 := fS.sub
  have g3 := fS.notType
  have g4 := fS.canCreate
  have g5 := PySem.F.typeCall_set_1 (.ref l)
  refine wpAny_call (codeAny_of_tree (show wpAny _ _ (callAny (.type "set") _) _ _ _ from wpAny_pure ⟨Code.quiet_builtin _ (by decide +kernel), codeAny_builtin PySem.F.entry_type_call ?_⟩))
  rw [Around.under_plain (weight_type_call_type "set" [.ref l] []) rfl]
  repeat (any_goals (first | assumption | wp_step))
  refine codeAny_mono (code_set_led1 (.ref l) (E := E) (Q₁ := fun obj s₁ => obj = .ref s.heap.objs.size ∧ s₁ = { s with heap := s.heap.push { cls := .type "set", dict := none, data := .set #[] 0 (.fresh 0 0 (!w.params.followText "set-order")) } }) ⟨rfl, rfl⟩) fun r s₁ hr => ?_
  match r, hr with
  | .error e, hr => exact hr
  | .ok .next, hr => exact hr.elim
  | .ok .brk, hr => exact hr.elim
  | .ok .cont, hr => exact hr.elim
  | .ok (.ret obj), hr =>
    obtain ⟨rfl, rfl⟩ := hr
    generalize hs0 : s.heap.push { cls := .type "set", dict := none, data := .set #[] 0 (.fresh 0 0 (!w.params.followText "set-order")) } = h0
    have ts0 : TsAt P w h0 s.heap.objs.size [] := by rw [← hs0]; exact ts_new _ _ rfl
    have kp0 : ∀ b o, s.heap.get? b = some o → h0.get? b = some o := fun b o e => by rw [← hs0]; exact Heap.get?_push_of_some _ e
    have z0 : h0.objs.size = s.heap.objs.size + 1 := by rw [← hs0]; exact Heap.size_push ..
    have l0 : h0.IsList l items := hl.at fun o e => kp0 l o e
    have hS : h0.get? s.heap.objs.size = some { cls := .type "set", dict := none, data := .set #[] 0 (.fresh 0 0 (!w.params.followText "set-order")) } := by rw [← hs0]; exact Heap.get?_push_size _ rfl
    have hT : Shared.TypeIs { s with heap := h0 } (.ref s.heap.objs.size) "set" := ⟨_, hS, rfl⟩
    have g6 := fS.init.lookup
    have g7 := fS.init.bind (.ref s.heap.objs.size)
    repeat (any_goals (first | assumption | wp_step))
    refine codeAny_mono (codeAny_call_builtin (R := wants (fun r s₂ => r = .none ∧ TsAt P w s₂.heap s.heap.objs.size ks.reverse ∧ (∀ b o, s.heap.get? b = some o → s₂.heap.get? b = some o) ∧ s₂.gens = s.gens ∧ s₂.drawn = s.drawn ∧ s₂.os = s.os) E) fS.init.plain PySem.F.entry_set_init (check_set_init_1 hT ?_)) fun r₂ s₂ hr₂ => ?_
    · obtain ⟨ol, hol, hcl, nl, hdl⟩ := id l0
      obtain ⟨ocls, odict, odata, oslots⟩ := ol
      simp only at hcl hdl
      subst hcl hdl
      have q1 := PySem.F.sub_list_set
      have q2 := PySem.F.sub_list_frozenset
      have q3 : (Value.type "list" == Value.type "dict") = false := by decide
      unfold Builtin.«set.__init__» noKeywords Builtin.Frozenset.updateFrom
      generalize hPI : pyIter = PI
      wp_walk
      subst hPI
      have hh3 : A.in1.in1.in1.handled = none := hh
      have neI : l ≠ h0.objs.size := Nat.ne_of_lt (by rw [z0]; exact Nat.lt_succ_of_lt lS)
      have nin : s.heap.objs.size ∉ [h0.objs.size, l] := by
        rw [z0]
        simp only [List.mem_cons, List.not_mem_nil, or_false, not_or]
        exact ⟨Nat.ne_of_lt (Nat.lt_succ_self _), Nat.ne_of_gt lS⟩
      refine wpAny_pyIter_list l0 (wpAny_bind (wpAny_runValue ?_))
      refine add_loop ((Walks.list hh3 _ l neI items).toS) s.heap.objs.size nin ks hn nd hb (fun i v hv => strs_get hi i v (by rw [Array.getElem?_toList]; exact hv)) items.size 0 _ (Nat.zero_add _) ⟨⟨_, Heap.get?_push_size _ rfl, rfl, rfl⟩, l0.push _⟩ ?_ fun s' mv ts => ?_
      · obtain ⟨D0, hD0, T0⟩ := ts0
        exact ⟨D0, Heap.get?_push_of_some _ hD0, T0⟩
      · refine wpAny_pure (show wpAny _ _ (ret Value.none) _ _ _ from wpAny_pure ⟨rfl, ts, fun b o e => ?_, mv.gens, mv.drawn, mv.os⟩)
        have hb0 := Heap.lt_size e
        refine mv.heap b o ?_ (Heap.get?_push_of_some _ (kp0 b o e))
        rw [z0]
        simp only [List.mem_cons, List.not_mem_nil, or_false, not_or]
        exact ⟨Nat.ne_of_lt hb0, Nat.ne_of_lt (Nat.lt_succ_of_lt hb0)⟩
    · match r₂, hr₂ with
      | .error e, hr₂ => exact hr₂
      | .ok .next, hr₂ => exact hr₂.elim
      | .ok .brk, hr₂ => exact hr₂.elim
      | .ok .cont, hr₂ => exact hr₂.elim
      | .ok (.ret v), hr₂ =>
        obtain ⟨rfl, t1, t2, t3, t4, t5⟩ := hr₂
        repeat (any_goals (first | assumption | wp_step))
        exact h _ t1 t2 t3 t4 t5
end
end Dy
end

section
set_option Elab.async false
set_option linter.all false
set_option maxRecDepth 100000
set_option maxHeartbeats 4000000
/-! Dy28: sorted of such a set. -/
namespace Dy
open PySem PySem.Spec PyProof.Rows L2 GxR Gx PySem.Froz

theorem perm_of_all {α : Type} [DecidableEq α] : ∀ (l m : List α), l.Nodup → (∀ x ∈ l, x ∈ m) → l.length = m.length → m.Perm l
  | [], m, _, _, h => by
    have : m = [] := List.length_eq_zero_iff.mp h.symm
    rw [this]
  | x :: l, m, nd, hs, h => by
    have hx : x ∈ m := hs x List.mem_cons_self
    have p := List.perm_cons_erase hx
    rw [List.nodup_cons] at nd
    refine p.trans (List.Perm.cons x (perm_of_all l (m.erase x) nd.2 (fun y hy => ?_) ?_))
    · have ne : y ≠ x := fun e => nd.1 (e ▸ hy)
      exact (List.mem_erase_of_ne ne).mpr (hs y (List.mem_cons_of_mem _ hy))
    · have := p.length_eq
      rw [List.length_cons] at this h
      omega
theorem strs_of : ∀ (vs : List Value), (∀ v ∈ vs, ∃ k t, v = .str k t) → ∃ ks, StrsAre vs ks
  | [], _ => ⟨[], .nil⟩
  | v :: vs, h => by
    obtain ⟨k, t, rfl⟩ := h v List.mem_cons_self
    obtain ⟨ks, hk⟩ := strs_of vs fun u hu => h u (List.mem_cons_of_mem _ hu)
    exact ⟨k :: ks, .cons k t hk⟩
theorem strs_mem : ∀ {vs : List Value} {ks : List Str}, StrsAre vs ks → ∀ {k : Str} {t : Tok}, .str k t ∈ vs → k ∈ ks
  | _, _, .nil, k, t, h => by cases h
  | _, _, .cons y u r, k, t, h => by
    rcases List.mem_cons.mp h with h | h
    · cases h; exact List.mem_cons_self
    · exact List.mem_cons_of_mem _ (strs_mem r h)
section
variable {P : Program} {w : World} {A : Around} {E : Value → Shared → Prop} {s : Shared}
theorem sorted_ts {a : Addr} {l : List Str} {Q : Value → Shared → Prop} (T : TsAt P w s.heap a l) (nd : l.Nodup) (hh : A.handled = none) (h64 : l.length < 64)
    (hQ : ∀ (s' : Shared) p (ys : List Str) (out : Array Value) (c : Nat), (∀ b o, s.heap.get? b = some o → s'.heap.get? b = some o) → s'.gens = s.gens → s'.os = s.os → s.heap.objs.size ≤ p → s'.heap.get? p = some (seqObj "list" out c) → StrsAre out.toList ys → ys.Perm l → sortedS ys = true → Q (.ref p) s') :
    wpAny (model P w) A (call (.builtin "sorted") [.ref a]) Q E s := by
  obtain ⟨⟨es, ep, t⟩, hD, tx, ris, led⟩ := T
  have hsz : es.size = l.length := tx.sz
  refine Calls.call_function_entry PyProof.Rows.kind_sorted PyProof.Rows.plain_sorted PyProof.Rows.entry_sorted (PyProof.Rows.args_sorted1 _) ?_
  unfold Builtin.«sorted»
  refine wpAny_bind (m := checkCount "sorted" 1 1 _) (wpAny_pure ?_)
  refine wpAny_bind (collect_set (A := A.in1) hh ⟨_, hD, rfl, rfl⟩ tx.fit (by show es.size < scanBound; unfold scanBound; omega) ris led fun s1 vs k1 z1 g1 o1 pm => ?_)
  have hvl : vs.length = l.length := by rw [pm.length_eq, List.length_map, Array.length_toList]; exact hsz
  obtain ⟨ks, hS⟩ := strs_of vs fun v hv => by
    obtain ⟨e, he, rfl⟩ := List.mem_map.mp (pm.mem_iff.mp hv)
    obtain ⟨⟨k, hk, _⟩, _⟩ := tx.el e he
    obtain ⟨t, et⟩ := Value.isStrOf_shape (x := k) (v := e.2) hk
    exact ⟨k, t, et⟩
  have hkl : ks.length = vs.length := (StrsAre.len_eq hS).symm
  have pk : ks.Perm l := perm_of_all l ks nd (fun x hx => by
    obtain ⟨e, he, hk⟩ := (tx.mem x).mp hx
    obtain ⟨t, et⟩ := Value.isStrOf_shape (x := x) (v := e.2) hk
    exact strs_mem hS (k := x) (t := t) (pm.mem_iff.mpr (List.mem_map.mpr ⟨e, he, et⟩))) (by omega)
  refine wpAny_bind (wpAny_newList ?_ (by rw [hvl, sizeLine_eq]; omega))
  have hoL : (s1.heap.push (seqObj "list" vs.toArray 0)).get? s1.heap.objs.size = some (seqObj "list" vs.toArray 0) := Heap.get?_push_size _ rfl
  refine wpAny_bind (wpAny_holding (wpAny_call_entry PyProof.Rows.slot_list_sort ⟨_, hoL, rfl⟩ PyProof.Rows.entry_list_sort
    (list_sort_treeK strKind_oneLt hoL hS.keysOf (fun v₁ v₂ rest e => keyKind_strs (by rw [← e]; exact hS)) (by rw [hvl]; exact h64) fun st' hp hs => ?_) (PyProof.Rows.args_list_sort _)))
  obtain ⟨ys, r1, r2, r3⟩ := sorted_out_str hS hp hs
  obtain ⟨c, hc⟩ := PyProof.Rows.sortedHeap_at (vs := vs) (out := (arrOf st').map (·.2)) hoL
  refine ⟨_, rfl, wpAny_pure ⟨_, rfl, hQ _ s1.heap.objs.size ys _ c (fun b u e => ?_) g1 o1 z1 hc r1 (r2.trans pk) r3⟩⟩
  have q := k1 b u e
  have hlt := Heap.lt_size q
  exact (PyProof.Rows.sortedHeap_old (Nat.ne_of_lt hlt) (by rw [size_push']; exact Nat.lt_succ_of_lt hlt)).trans (Heap.get?_push_of_some _ q)
end
end Dy
end

section
set_option Elab.async false
set_option linter.all false
set_option maxRecDepth 100000
set_option maxHeartbeats 4000000
/-! Dy29: sorted(set(texts)), the rule. -/
namespace Dy
open PySem PySem.Spec PyProof.Rows L2 GxR Gx PySem.Froz

section
variable {X : Cx} {g : G} {a : Expr} {ta : TE} {fa : FE} {p p2 pos pos2 : Pos}
def tSortedSet (K : PySem.W.Frag) (ta : TE) : TE := fun σ H Q => ta σ H fun x H1 => ∃ l, ∃ ks : List Str, x = .ref l ∧ SqL K H1 l (ks.map V.str) ∧ ks.Nodup ∧ ks.length < 64 ∧ ∀ q, H1 q = none → Q (.ref q) (upd H1 q (.lst ((sortS ks).map V.str)))
theorem Inv.whole {pins : List (Addr × Obj)} {σ : L2.St} {H : Hp} {s s' : Shared} (I : Inv X pins σ H s) (k : ∀ b o, s.heap.get? b = some o → s'.heap.get? b = some o) (hg : s'.gens = s.gens) (hd : s'.drawn = s.drawn) (ho : s'.os = s.os) : Inv X pins σ H s' := by
  obtain ⟨h', g', d', t', o'⟩ := s'
  have hg : g' = s.gens := hg
  have hd : d' = s.drawn := hd
  have ho : o' = s.os := ho
  subst hg hd ho
  exact I.kept (t' := t') k
theorem pe_sortedSet (hc : X.calm = true) (hg : Gl X "sorted") (hm : X.mg "sorted" = none) (hg2 : Gl X "set") (hm2 : X.mg "set" = none) (ha : PE X a ta) (na : starEach [a] X.env = (false, eval a X.env) :: starEach [] X.env) :
    PE X (.Call (.Name "sorted" p) [.Call (.Name "set" p2) [a] [] pos2] [] pos) (tSortedSet X.K ta) := by
  refine ⟨fun pins s σ H Q I h => Call_ (ld_blt I hg hm (by rfl) ?_)⟩
  refine PyProof.Rows.callWith_builtin1 (PyProof.Rows.args_cons (Call_ (ld_blt I hg2 hm2 boot_set ?_)) rfl) rfl rfl
  refine PyProof.Rows.callWith_type1 (PyProof.Rows.args_cons (thn (ha.run pins s σ H _ I h) fun v s1 hv => PyProof.Rows.args_nil ?_) na) na rfl
  obtain ⟨x, H1, I1, r1, l, ks, rfl, hq, nd, h64, q⟩ := hv
  cases r1
  obtain ⟨its, r, pl, hz⟩ := I1.list hq
  refine call_setS (I1.ok.hd hc) pl.isList (by simpa using r.strs) nd (by unfold scanBound; omega) fun s2 ts k2 e1 e2 e3 => PyProof.Rows.args_nil ?_
  have I2 : Inv X pins σ H1 s2 := Inv.whole I1 k2 e1 e2 e3
  refine sorted_ts ts ((List.reverse_perm ks).nodup_iff.mpr nd) (I2.ok.hd hc) (by rw [List.length_reverse]; exact h64) fun s3 q3 ys out c k3 g3 o3 z3 hp3 hS pm hs => ?_
  have eys : ys = sortS ks := sorted_uniq (pm.trans (List.reverse_perm ks)) hs
  subst eys
  have np : H1 q3 = none := I2.hok.fresh z3
  have hlen : ((sortS ks).map V.str).length ≤ sizeLine := by
    rw [List.length_map, pm.length_eq, List.length_reverse, sizeLine_eq]; omega
  have J : Inv X pins σ (upd H1 q3 (.lst ((sortS ks).map V.str))) { s2 with heap := s3.heap, gens := s3.gens, drawn := s3.drawn, toks := s3.toks } :=
    I2.call (ch := []) (Un.laid k3 z3 np) (I2.hok.laid k3 z3 ⟨hlen, out.toList, c, vals_of_strs hS, hp3⟩) (by rw [g3]; exact I2.bare) (fun _ z => nomatch z)
  have e : s3 = { s2 with heap := s3.heap, gens := s3.gens, drawn := s3.drawn, toks := s3.toks } := by
    cases s3; cases s2; cases o3; rfl
  rw [e]
  exact ⟨.ref q3, _, J, rfl, q q3 np⟩
def fSortedSet (fa : FE) : FE := fun sl h => (fa sl h).bind fun d h1 => match (litems h1 d).bind unstrs with
  | some ks => if ks.Nodup ∧ ks.length < 64 then .ok (.lst (strsD (sortS ks))) h1 else .st
  | none => .st
end
namespace W
section
variable {X : Cx} {g : G} {a : Expr} {fa : FE} {p p2 pos pos2 : Pos}
theorem sortedSet (hm : X.mg "sorted" = none) (hm2 : X.mg "set" = none) (ha : SE g X a fa) (hK : X.K = g.K := by rfl) (hc : X.calm = true := by rfl) (hg : Gl X "sorted" := by rfl) (hg2 : Gl X "set" := by rfl) (na : starEach [a] X.env = (false, eval a X.env) :: starEach [] X.env := by rfl) : SO g X (.Call (.Name "sorted" p) [.Call (.Name "set" p2) [a] [] pos2] [] pos) (fSortedSet fa) := by
  refine PE.le (pe_sortedSet hc hg hm hg2 hm2 ha na) fun σ H Q q => ?_
  obtain ⟨al, sl, hq, rh, rs, q⟩ := q
  replace q : ThenO g al H (fSortedSet fa sl hq) Q := q
  unfold fSortedSet at q
  obtain ⟨d, h1, e1, q⟩ := q.split
  refine ⟨al, sl, hq, rh, rs, ?_⟩
  rw [e1, hK]
  intro al1 v H1 rh1 ex1 rv
  replace q := q.later ex1
  cases z : (litems h1 d).bind unstrs with
  | none => simp only [z] at q; exact False.elim q
  | some ks =>
    simp only [z] at q
    by_cases hc2 : ks.Nodup ∧ ks.length < 64
    · rw [if_pos hc2] at q
      obtain ⟨ds, e2, e3⟩ := Option.bind_eq_some_iff.mp z
      obtain ⟨l, vs, rfl, hs, rvs⟩ := litems_ok rh1 rv e2
      have ev := unstrs_rv rvs e3
      subst ev
      exact ⟨l, ks, rfl, hs, hc2.1, hc2.2, fun q' nq => q.new rh1 (Ex.refl _ _) nq ⟨_, rfl, _, rfl, strsD_rv _⟩⟩
    · rw [if_neg hc2] at q; exact False.elim q
end
end W
end Dy
end

section
set_option Elab.async false
set_option linter.all false
set_option maxRecDepth 100000
set_option maxHeartbeats 2000000
/-! Dy30: the facts, the law's start. -/
namespace Dy
open PySem PySem.Spec PyProof.Rows L2 GxR Gx
section
variable {P : Program} {w : World} {K : PySem.W.Frag} {mg : Str → Option Value} {base : Heap} {g : G}
/-- a def whose body asks for its code object -/
theorem fnDt {pt : Str × Option Str} {x qual : Str} {params : Arguments} {body : List Stmt} {scope : Scope} {fd : FuncData} {N ps : List Str} {k : Nat} {Fb : FS} (F : FunD K x qual params body scope [] [] (He.fAd K pt) fd) (S : FnScope N ps scope) (n : Nat) (hn : ps.length = n)
    (hbody : BodyD P w K mg base g k N qual scope (He.fAd K pt) (.ref (He.codeOf K pt)) body Fb) : FnOk P w K mg base C8.CX0 (k + 1) (He.fAd K pt) fd ps (spOf g n (runF N.length Fb)) := by
  obtain ⟨oc, od, dV, kV, doc, pm, an, cdv, ct, osl, rfl, lk, hcd, _, _⟩ := F.ex
  obtain ⟨c, rfl⟩ := He.codeIn_ref hcd
  have e : He.codeOf K pt = c := He.codeOf_eq lk rfl
  rw [e] at hbody
  exact fn_of lk hcd S (fun vs H Q E h => by rw [hn]; exact sp_len vs H Q E h) fun A outer s H vs Q E hr hsp => ⟨TDs g Fb, (hbody A outer s H E hr).nox, run_q hsp⟩
/-- the law's start: the script as it stands, or once it is frozen -/
def spL (g : G) (F : List D → Hq → R D) : Sp := fun vs H Q E => ∃ a xs, vs = [.ref a] ∧ (spOf g 1 F vs H Q E ∨ H a = some (.lst xs) ∧ ∀ od, spOf g 1 F vs (upd H a (.frz od (.lst xs))) Q E)
theorem fnDL {x qual : Str} {params : Arguments} {body : List Stmt} {scope : Scope} {f : Addr} {fd : FuncData} {N ps : List Str} {k : Nat} {Fb : FS} (F : FunD K x qual params body scope [] [] f fd) (S : FnScope N ps scope) (hn : ps.length = 1)
    (hbody : ∀ cdv, BodyD P w K mg base g k N qual scope f cdv body Fb) : FnOk P w K mg base C8.CX0 (k + 1) f fd ps (spL g (runF N.length Fb)) := by
  refine F.ok S (fun vs H Q E h => ?_) fun cdv A outer s H vs Q E hr h => ?_
  · obtain ⟨a, xs, rfl, _⟩ := h
    exact hn.symm
  · obtain ⟨a, xs, rfl, h⟩ := h
    rcases h with h | ⟨hl, h⟩
    · exact ⟨TDs g Fb, (hbody cdv A outer s H E hr).nox, run_q h⟩
    · refine ⟨fun K σ H => H a = some (.lst xs) ∧ ∀ od, TDs g Fb K σ (upd H a (.frz od (.lst xs))), ⟨fun pins s1 σ H1 K I q => ?_⟩, hl, fun od => run_q (h od)⟩
      obtain ⟨od, I2⟩ := I.lock q.1 trivial
      exact (hbody cdv A outer s H E hr).nox.run pins s1 σ _ K I2 (q.2 od)
end
end Dy
namespace Dy
open PySem PySem.Spec PyProof.Rows L2 GxR Gx
/-- a tuple that the top has written, of plain values -/
def ktB (K : PySem.W.Frag) (x : Str) (vs : List He.Dv) : Bool := He.tupB K x vs && (match K.lookup (He.ga K x) with
  | some o => o.dict.isNone
  | none => false)
theorem ktB_ok {K : PySem.W.Frag} {x : Str} {vs : List He.Dv} (h : ktB K x vs = true) : KtA K (He.ga K x) (vs.map (He.Dv.v K)) := by
  obtain ⟨h1, h2⟩ := He.ba h
  rcases He.tupB_ok h1 (fun _ => none) with h3 | ⟨o, its, n, e, r⟩
  · rcases h3 with h3 | ⟨_, h3⟩ <;> cases h3
  · rw [e] at h2
    obtain ⟨r1, r2, r3, r4⟩ := r
    exact ⟨o, its, n, e, r1, r2, r3, r4, Option.isNone_iff_eq_none.mp h2⟩
end Dy
namespace Dy
open PySem PySem.Spec PyProof.Rows L2 GxR Gx
/-- a table's keys, in order -/
theorem tab_at {fa : List He.Fa} {fn : List He.DefD} {ts : List He.Tab} {w : World} {K : PySem.W.Frag} (c : He.SaysT fa fn ts w K) (i : Nat) {t : He.Tab} (h : ts[i]? = some t := by rfl) : He.dicW K (t.1 K) = some (He.keysIn w.params t.2) := by
  have e : ts.map (fun t => He.dicW K (t.1 K)) = ts.map fun t => some (He.keysIn w.params t.2) := congrArg (fun z : He.AlT => z.2) c
  have e2 : (ts.map fun t => He.dicW K (t.1 K))[i]? = (ts.map fun t => some (He.keysIn w.params t.2))[i]? := by rw [e]
  rw [List.getElem?_map, List.getElem?_map, h] at e2
  exact Option.some.inj e2
theorem no_key {P : Params} {z : Str} : ∀ {l : List DictEntry} {ks : List Str}, l.map He.keyOf = He.keysIn P ks → z ∉ ks → l.find? (·.key.isStr z) = none ∧ l.any (·.refKey) = false
  | [], _, _, _ => ⟨rfl, rfl⟩
  | e :: r, [], h, _ => by cases h
  | e :: r, k :: ks, h, hz => by
    have h1 : He.keyOf e :: r.map He.keyOf = some (k, PyData.keyHash P k) :: He.keysIn P ks := h
    injection h1 with h2 h3
    obtain ⟨q1, q2⟩ := no_key (z := z) h3 fun m => hz (List.mem_cons_of_mem _ m)
    unfold He.keyOf at h2
    split at h2
    · rename_i x t q
      have h4 := Option.some.inj h2
      obtain ⟨h5, _⟩ := Prod.mk.inj h4
      have n1 : e.key.isStr z = false := by
        rw [q, h5]
        have hk : k ≠ z := fun m => hz (by rw [m]; exact List.mem_cons_self)
        simp [Value.isStr, hk]
      have n2 : e.refKey = false := by
        simp [DictEntry.refKey, q]
      exact ⟨by rw [List.find?_cons, n1]; exact q1, by rw [List.any_cons, n2, q2]; rfl⟩
    · cases h2
theorem kTab_of {K : PySem.W.Frag} {w : World} {h : Heap} {mg : Str → Option Value} {x : Str} {ks : List Str} {kvs : List (Str × D)} {dvs : List (Str × He.Dv)} (X : K.In h) (hm : mg x = some (.ref (He.ga K x))) (hd : He.dicW K (He.ga K x) = some (He.keysIn w.params ks)) (hv : He.valsB K (He.ga K x) dvs = true)
    (h1 : ∀ z dv, look kvs z = some dv → ∃ q ∈ dvs, q.1 = z ∧ ∀ al H, Rv K al H dv (q.2.v K)) (h2 : ∀ z, look kvs z = none → z ∉ ks) : KTab K w mg x kvs := by
  obtain ⟨es, n, D⟩ := He.dicW_ok hd
  refine ⟨He.ga K x, es, n, hm, D, fun z => ?_⟩
  cases e : look kvs z with
  | some dv =>
    obtain ⟨q, hq, rfl, r⟩ := h1 z dv e
    obtain ⟨u, hu, ru⟩ := He.valsB_ok hv hq
    exact ⟨u, _, hu, ru, r⟩
  | none =>
    have hz := h2 z e
    have hd2 := hd
    unfold He.dicW at hd2
    rw [D.at_] at hd2
    have hd3 : (match decide (("dict" : String) = "dict") && ((#[] : Array (Option Value)).isEmpty && !(He.ga K x == sysModules)) with
      | true => some (es.toList.map He.keyOf)
      | false => none) = some (He.keysIn w.params ks) := hd2
    rw [D.low] at hd3
    have hd4 : es.toList.map He.keyOf = He.keysIn w.params ks := Option.some.inj hd3
    obtain ⟨q1, q2⟩ := no_key hd4 hz
    unfold PySem.W.nsIn
    rw [D.at_]
    show (match es.toList.find? (·.key.isStr z) with
      | some e => some (some e.val)
      | none => if es.toList.any (·.refKey) then none else some none) = _
    rw [q1, q2]
    rfl
end Dy
end

section
set_option Elab.async false
set_option linter.all false
set_option maxRecDepth 100000
set_option maxHeartbeats 4000000
namespace Kx
open PySem PySem.Spec PyProof.Rows L2 GxR Gx Dy
def top (i : Nat) : Stmt := PySem.Challenge.pw_signalhouse_k03_stations_written_and_rea.main.body.getD i (.Pass ⟨0, 0, 0, 0⟩)
def mth (i j : Nat) : Stmt := (C8.clsBody (top i)).getD j (.Pass ⟨0, 0, 0, 0⟩)
abbrev gg (K : PySem.W.Frag) (C : Addr) (T : List Addr) : G := ⟨K, [C], T⟩
def t_SIDE_OF : List (Str × D) := [(".0", .int 0), (".1", .int 1)]
def d_MOST_SECTIONS : D := .int 30
def d_MOST_POINTS : D := .int 12
def d_MOST_LINKS : D := .int 60
def d_MOST_SIGNALS : D := .int 16
def d_LONGEST_NAME : D := .int 6
def d_NAME_SIGNS : D := .str "abcdefghijklmnopqrstuvwxyz0123456789"
def d_SIDES : D := .kt [.int 0, .int 1]
def d_LIES : D := .kt [.str "n", .str "r"]
def d_SORTS : D := .kt [.str "section", .str "point", .str "link", .str "signal"]
structure Yk (K : PySem.W.Frag) (w : World) (mg : Str → Option Value) (C : Addr) : Prop where
  b_all : mg "all" = none
  b_any : mg "any" = none
  b_dict : mg "dict" = none
  b_enumerate : mg "enumerate" = none
  b_isinstance : mg "isinstance" = none
  b_len : mg "len" = none
  b_range : mg "range" = none
  b_set : mg "set" = none
  b_sorted : mg "sorted" = none
  b_str : mg "str" = none
  b_tuple : mg "tuple" = none
  c_MOST_SECTIONS : GlD K mg "MOST_SECTIONS" d_MOST_SECTIONS
  c_MOST_POINTS : GlD K mg "MOST_POINTS" d_MOST_POINTS
  c_MOST_LINKS : GlD K mg "MOST_LINKS" d_MOST_LINKS
  c_MOST_SIGNALS : GlD K mg "MOST_SIGNALS" d_MOST_SIGNALS
  c_LONGEST_NAME : GlD K mg "LONGEST_NAME" d_LONGEST_NAME
  c_NAME_SIGNS : GlD K mg "NAME_SIGNS" d_NAME_SIGNS
  c_SIDES : GlD K mg "SIDES" d_SIDES
  c_LIES : GlD K mg "LIES" d_LIES
  c_SORTS : GlD K mg "SORTS" d_SORTS
  t_SIDE_OF : KTab K w mg "SIDE_OF" t_SIDE_OF
  cl_Layout : Cls K C
  na_Layout_sections : NoAttr K C "sections"
  na_Layout_points : NoAttr K C "points"
  na_Layout_links : NoAttr K C "links"
  na_Layout_signals : NoAttr K C "signals"
section
variable {P : Program} {w : World} {K : PySem.W.Frag} {mg : Str → Option Value} {base : Heap} {C f : Addr} {T : List Addr} {cdv : Value}
abbrev s_is_name : Stmt := top 12
theorem sc_is_name : FnScope ["text", "sign"] ["text"] (C8.fnScope s_is_name) := C8.fnScope_by (by decide +kernel)
def f_is_name : FS := (fRet (fAnd (fChn (opCI .le) (opCI .le) (fC (.int 1)) (fCb opLen (aCons (fVar 0) aNil)) (fC d_LONGEST_NAME)) (fGx false (iAny (fVar 0)) (gNm 1) bYes (yB false (fBin opIn (fVar 1) (fC d_NAME_SIGNS))) [1])))
def r_is_name : List D → Hq → R D := runF 2 f_is_name
theorem b_is_name (Y : Yk K w mg C) {cd T0 : Addr} (tb : TabB base mg cd T0) (hP : T0 ∈ T) : BodyD P w K mg base (gg K C T) 1 ["text", "sign"] "is_name" (C8.fnScope s_is_name) f (.ref cd) (C8.fnBody s_is_name) f_is_name := by
  intro A outer s H E hr
  have sc := sc_is_name
  exact (sss_one (ss_ret (se_and (W.ch op_le op_le (os_ci .le) (os_ci .le) se_int (W.len Y.b_len (W.ac (W.v 0) W.an)) (W.gl Y.c_LONGEST_NAME)) (se_one (W.all1 [("sign", 1)] hP hr sc.nd Y.b_all tb (by rfl) ⟨rfl, by decide +kernel, rfl⟩ (blkOk_by (by rfl)) ((W.it (W.v 0))) (fun _ _ _ _ _ _ _ rm => (W.tn 1 sc.nd)) (fun _ _ _ _ _ _ _ rm => sif_nil) (fun _ _ _ _ _ _ _ rm => (W.inn (hu65 rm) (W.v 1) (W.gl Y.c_NAME_SIGNS))))))))
abbrev s_share_end : Stmt := top 13
theorem sc_share_end : FnScope ["link", "other"] ["link", "other"] (C8.fnScope s_share_end) := C8.fnScope_by (by decide +kernel)
def f_share_end : FS := (fRet (fOr (fBin opIn (fBin opSub_ (fVar 0) (fC (.int 0))) (fSlA (fVar 1) oNo (oSo (fC (.int 2))))) (fBin opIn (fBin opSub_ (fVar 0) (fC (.int 1))) (fSlA (fVar 1) oNo (oSo (fC (.int 2)))))))
def r_share_end : List D → Hq → R D := runF 2 f_share_end
theorem b_share_end (Y : Yk K w mg C) : BodyD P w K mg base (gg K C T) 0 ["link", "other"] "share_end" (C8.fnScope s_share_end) f cdv (C8.fnBody s_share_end) f_share_end := by
  intro A outer s H E hr
  have sc := sc_share_end
  exact (sss_one (ss_ret (se_or (W.inn (hu65 hr) (W.sub (hu1 hr) (W.v 0) se_int) (W.sl (W.v 1) sp_no (sp_so se_int))) (se_one (W.inn (hu65 hr) (W.sub (hu1 hr) (W.v 0) se_int) (W.sl (W.v 1) sp_no (sp_so se_int)))))))
abbrev s_told_apart : Stmt := top 14
theorem sc_told_apart : FnScope ["link", "other", "wants", "point", "lie", "mine", "my_lie"] ["link", "other"] (C8.fnScope s_told_apart) := C8.fnScope_by (by decide +kernel)
def f_told_apart : FS := (fSeq (fSet 2 (fBin opSub_ (fVar 0) (fC (.int 2))))
  (fRet (fGx true (iAny (fBin opSub_ (fVar 1) (fC (.int 2)))) (gTuN 2 (gsCons (gNm 3) (gsCons (gNm 4) gsNil))) bYes (forB (iAny (fVar 2)) (gTuN 2 (gsCons (gNm 5) (gsCons (gNm 6) gsNil))) bYes (yB true (fAnd (fBin opEqH (fVar 3) (fVar 5)) (fBin opNeH (fVar 4) (fVar 6)))) [5, 6]) [3, 4, 5, 6])))
def r_told_apart : List D → Hq → R D := runF 7 f_told_apart
theorem b_told_apart (Y : Yk K w mg C) {cd T0 : Addr} (tb : TabB base mg cd T0) (hP : T0 ∈ T) : BodyD P w K mg base (gg K C T) 1 ["link", "other", "wants", "point", "lie", "mine", "my_lie"] "told_apart" (C8.fnScope s_told_apart) f (.ref cd) (C8.fnBody s_told_apart) f_told_apart := by
  intro A outer s H E hr
  have sc := sc_told_apart
  exact (sss_cons (W.set 2 sc.nd (W.sub (hu1 hr) (W.v 0) se_int))
  (sss_one (ss_ret (W.any2 [("point", 3), ("lie", 4), ("mine", 5), ("my_lie", 6)] [5, 6] hP hr sc.nd Y.b_any tb (by rfl) ⟨rfl, by decide +kernel, rfl⟩ (blkOk_by (by rfl)) (W.it (W.sub (hu1 hr) (W.v 1) se_int)) (fun _ _ _ _ _ _ _ rm => (W.tt 2 (W.tsc (W.tn 3 sc.nd) (W.tsc (W.tn 4 sc.nd) W.tsn)))) (fun _ _ _ _ _ _ _ rm => sif_nil) (fun _ _ _ _ _ _ _ rm => (W.it (W.v 2))) (fun _ _ _ _ _ _ _ rm => (W.tt 2 (W.tsc (W.tn 5 sc.nd) (W.tsc (W.tn 6 sc.nd) W.tsn)))) (fun _ _ _ _ _ _ _ rm => sif_nil) (fun _ _ _ _ _ _ _ rm => (se_and (W.eq (hu64 rm) (W.v 3) (W.v 5)) (se_one (W.ne (hu64 rm) (W.v 4) (W.v 6)))))))))
abbrev s_Layout_init : Stmt := mth 15 0
theorem sc_Layout_init : FnScope ["self"] ["self"] (C8.fnScope s_Layout_init) := C8.fnScope_by (by decide +kernel)
def f_Layout_init : FS := (fSeq (fFldS 0 "sections" (fVar 0) (fTup aNil))
  (fSeq (fFldS 0 "points" (fVar 0) (fTupF aNil))
  (fSeq (fFldS 0 "links" (fVar 0) (fTup aNil))
  (fFldS 0 "signals" (fVar 0) (fTup aNil)))))
def r_Layout_init : List D → Hq → R D := runF 1 f_Layout_init
theorem b_Layout_init (Y : Yk K w mg C) : BodyD P w K mg base (gg K C T) 0 ["self"] "Layout.__init__" (C8.fnScope s_Layout_init) f cdv (C8.fnBody s_Layout_init) f_Layout_init := by
  intro A outer s H E hr
  have sc := sc_Layout_init
  exact (sss_cons (W.fld Y.cl_Layout Y.na_Layout_sections 0 (W.v 0) (se_tup W.an))
  (sss_cons (W.fld Y.cl_Layout Y.na_Layout_points 0 (W.v 0) (se_tupF W.an))
  (sss_cons (W.fld Y.cl_Layout Y.na_Layout_links 0 (W.v 0) (se_tup W.an))
  (sss_one (W.fld Y.cl_Layout Y.na_Layout_signals 0 (W.v 0) (se_tup W.an))))))
abbrev s_Layout_is_free : Stmt := mth 15 5
theorem sc_Layout_is_free : FnScope ["self", "name", "taken", "point", "_", "signal"] ["self", "name"] (C8.fnScope s_Layout_is_free) := C8.fnScope_by (by decide +kernel)
def f_Layout_is_free : FS := (fSeq (fSet 2 (fLst (aStar (fFld 0 "sections" (fVar 0)) (aStar (fLc (iAny (fFld 0 "points" (fVar 0))) (gTuN 2 (gsCons (gNm 3) (gsCons (gNm 4) gsNil))) bYes (fVar 3) [3, 4]) (aStar (fLc (iAny (fFld 0 "signals" (fVar 0))) (gTuN 2 (gsCons (gNm 5) (gsCons (gNm 4) gsNil))) bYes (fVar 5) [5, 4]) aNil)))))
  (fRet (fAnd (fCall 1 r_is_name (aCons (fVar 1) aNil)) (fBin opNin (fVar 1) (fVar 2)))))
def r_Layout_is_free : List D → Hq → R D := runF 6 f_Layout_is_free
theorem b_Layout_is_free (Y : Yk K w mg C) (h_is_name : CalD P w K mg base (gg K C T) 2 "is_name" 1 r_is_name) : BodyD P w K mg base (gg K C T) 2 ["self", "name", "taken", "point", "_", "signal"] "Layout._is_free" (C8.fnScope s_Layout_is_free) f cdv (C8.fnBody s_Layout_is_free) f_Layout_is_free := by
  intro A outer s H E hr
  have sc := sc_Layout_is_free
  exact (sss_cons (W.set 2 sc.nd (SO.se (so_lst (W.as_ (W.fl Y.cl_Layout Y.na_Layout_sections 0 (W.v 0)) (W.as_ (SO.se (W.lc [("point", 3), ("_", 4)] sc.nd (W.it (W.fl Y.cl_Layout Y.na_Layout_points 0 (W.v 0))) (blkOk_by (by rfl)) (fun _ _ _ _ _ => (W.tt 2 (W.tsc (W.tn 3 sc.nd) (W.tsc (W.tn 4 sc.nd) W.tsn)))) (fun _ _ _ _ _ => sif_nil) (fun _ _ _ _ _ => (W.v 3)))) (W.as_ (SO.se (W.lc [("signal", 5), ("_", 4)] sc.nd (W.it (W.fl Y.cl_Layout Y.na_Layout_signals 0 (W.v 0))) (blkOk_by (by rfl)) (fun _ _ _ _ _ => (W.tt 2 (W.tsc (W.tn 5 sc.nd) (W.tsc (W.tn 4 sc.nd) W.tsn)))) (fun _ _ _ _ _ => sif_nil) (fun _ _ _ _ _ => (W.v 5)))) W.an))))))
  (sss_one (ss_ret (se_and (W.call h_is_name hr (W.ac (W.v 1) W.an)) (se_one (W.nin (hu65 hr) (W.v 1) (W.v 2)))))))
abbrev s_Layout_is_end : Stmt := mth 15 6
theorem sc_Layout_is_end : FnScope ["self", "end"] ["self", "end"] (C8.fnScope s_Layout_is_end) := C8.fnScope_by (by decide +kernel)
def f_Layout_is_end : FS := (fRet (fAnd (fBin opIn (fBin opSub_ (fVar 1) (fC (.int 0))) (fFld 0 "sections" (fVar 0))) (fBin opIn (fBin opSub_ (fVar 1) (fC (.int 1))) (fC d_SIDES))))
def r_Layout_is_end : List D → Hq → R D := runF 2 f_Layout_is_end
theorem b_Layout_is_end (Y : Yk K w mg C) : BodyD P w K mg base (gg K C T) 0 ["self", "end"] "Layout._is_end" (C8.fnScope s_Layout_is_end) f cdv (C8.fnBody s_Layout_is_end) f_Layout_is_end := by
  intro A outer s H E hr
  have sc := sc_Layout_is_end
  exact (sss_one (ss_ret (se_and (W.inn (hu65 hr) (W.sub (hu1 hr) (W.v 1) se_int) (W.fl Y.cl_Layout Y.na_Layout_sections 0 (W.v 0))) (se_one (W.inn (hu65 hr) (W.sub (hu1 hr) (W.v 1) se_int) (W.gl Y.c_SIDES))))))
abbrev s_Layout_may_join : Stmt := mth 15 7
theorem sc_Layout_may_join : FnScope ["self", "one", "other"] ["self", "one", "other"] (C8.fnScope s_Layout_may_join) := C8.fnScope_by (by decide +kernel)
def f_Layout_may_join : FS := (fRet (fAnd (fMeth 0 "_is_end" 2 r_Layout_is_end (fVar 0) (aCons (fVar 1) aNil)) (fAnd (fMeth 0 "_is_end" 2 r_Layout_is_end (fVar 0) (aCons (fVar 2) aNil)) (fBin opNeH (fBin opSub_ (fVar 1) (fC (.int 0))) (fBin opSub_ (fVar 2) (fC (.int 0)))))))
def r_Layout_may_join : List D → Hq → R D := runF 3 f_Layout_may_join
theorem b_Layout_may_join (Y : Yk K w mg C) (h_Layout_is_end : MetD P w K mg base (gg K C T) 1 C "_is_end" 2 r_Layout_is_end) : BodyD P w K mg base (gg K C T) 1 ["self", "one", "other"] "Layout._may_join" (C8.fnScope s_Layout_may_join) f cdv (C8.fnBody s_Layout_may_join) f_Layout_may_join := by
  intro A outer s H E hr
  have sc := sc_Layout_may_join
  exact (sss_one (ss_ret (se_and (W.mt 0 h_Layout_is_end hr (W.v 0) (W.ac (W.v 1) W.an)) (se_and (W.mt 0 h_Layout_is_end hr (W.v 0) (W.ac (W.v 2) W.an)) (se_one (W.ne (hu64 hr) (W.sub (hu1 hr) (W.v 1) se_int) (W.sub (hu1 hr) (W.v 2) se_int)))))))
abbrev s_Layout_may_want : Stmt := mth 15 8
theorem sc_Layout_may_want : FnScope ["self", "link", "one", "other", "wants", "owners", "names", "point", "_", "lie"] ["self", "link"] (C8.fnScope s_Layout_may_want) := C8.fnScope_by (by decide +kernel)
def f_Layout_may_want : FS := (fSeq (fAsg (fVar 1) (gTuN 3 (gsCons (gNm 2) (gsCons (gNm 3) (gsCons (gNm 4) gsNil)))))
  (fSeq (fSet 5 (fCb opDictT (aCons (fFld 0 "points" (fVar 0)) aNil)))
  (fSeq (fSet 6 (fLc (iAny (fVar 4)) (gTuN 2 (gsCons (gNm 7) (gsCons (gNm 8) gsNil))) bYes (fVar 7) [7, 8]))
  (fSeq (fIf (fAsB (fBin opNeH (fVar 6) (fSortedSet (fVar 6)))) (fRet (fC (.bl false))) fNx)
  (fRet (fGx false (iAny (fVar 4)) (gTuN 2 (gsCons (gNm 7) (gsCons (gNm 9) gsNil))) bYes (yB false (fAnd (fBin opIn (fGet1 (fVar 5) (fVar 7)) (fTup (aCons (fBin opSub_ (fVar 2) (fC (.int 0))) (aCons (fBin opSub_ (fVar 3) (fC (.int 0))) aNil)))) (fBin opIn (fVar 9) (fC d_LIES)))) [7, 9]))))))
def r_Layout_may_want : List D → Hq → R D := runF 10 f_Layout_may_want
theorem b_Layout_may_want (Y : Yk K w mg C) {cd T0 : Addr} (tb : TabB base mg cd T0) (hP : T0 ∈ T) : BodyD P w K mg base (gg K C T) 1 ["self", "link", "one", "other", "wants", "owners", "names", "point", "_", "lie"] "Layout._may_want" (C8.fnScope s_Layout_may_want) f (.ref cd) (C8.fnBody s_Layout_may_want) f_Layout_may_want := by
  intro A outer s H E hr
  have sc := sc_Layout_may_want
  exact (sss_cons (W.asg (W.v 1) (W.tt 3 (W.tsc (W.tn 2 sc.nd) (W.tsc (W.tn 3 sc.nd) (W.tsc (W.tn 4 sc.nd) W.tsn)))))
  (sss_cons (W.set 5 sc.nd (SO.se (W.dictT Y.b_dict (W.ac (W.fl Y.cl_Layout Y.na_Layout_points 0 (W.v 0)) W.an))))
  (sss_cons (W.setLc 6 [("point", 7), ("_", 8)] sc.nd (W.it (W.v 4)) (blkOk_by (by rfl)) (fun _ _ _ _ _ => (W.tt 2 (W.tsc (W.tn 7 sc.nd) (W.tsc (W.tn 8 sc.nd) W.tsn)))) (fun _ _ _ _ _ => sif_nil) (fun _ _ _ _ _ => (W.v 7)))
  (sss_cons (ss_if (W.neB (hu64 hr) (W.v 6) (SO.se (W.sortedSet Y.b_sorted Y.b_set (W.v 6)))) (sss_one (ss_ret se_bl)) sss_nil)
  (sss_one (ss_ret (W.all1 [("point", 7), ("lie", 9)] hP hr sc.nd Y.b_all tb (by rfl) ⟨rfl, by decide +kernel, rfl⟩ (blkOk_by (by rfl)) ((W.it (W.v 4))) (fun _ _ _ _ _ _ _ rm => (W.tt 2 (W.tsc (W.tn 7 sc.nd) (W.tsc (W.tn 9 sc.nd) W.tsn)))) (fun _ _ _ _ _ _ _ rm => sif_nil) (fun _ _ _ _ _ _ _ rm => (se_and (W.inn (hu65 rm) (W.get1 (hu1 rm) (W.v 5) (W.v 7)) (se_tup (W.ac (W.sub (hu1 rm) (W.v 2) se_int) (W.ac (W.sub (hu1 rm) (W.v 3) se_int) W.an)))) (se_one (W.inn (hu65 rm) (W.v 9) (W.gl Y.c_LIES))))))))))))
abbrev s_Layout_is_alone : Stmt := mth 15 9
theorem sc_Layout_is_alone : FnScope ["self", "link", "other"] ["self", "link"] (C8.fnScope s_Layout_is_alone) := C8.fnScope_by (by decide +kernel)
def f_Layout_is_alone : FS := (fRet (fGx false (iAny (fFld 0 "links" (fVar 0))) (gNm 2) (fTru (fCall 2 r_share_end (aCons (fVar 1) (aCons (fVar 2) aNil)))) (yB false (fCall 2 r_told_apart (aCons (fVar 1) (aCons (fVar 2) aNil)))) [2]))
def r_Layout_is_alone : List D → Hq → R D := runF 3 f_Layout_is_alone
theorem b_Layout_is_alone (Y : Yk K w mg C) (h_share_end : CalD P w K mg base (gg K C T) 1 "share_end" 2 r_share_end) (h_told_apart : CalD P w K mg base (gg K C T) 2 "told_apart" 2 r_told_apart) {cd T0 : Addr} (tb : TabB base mg cd T0) (hP : T0 ∈ T) : BodyD P w K mg base (gg K C T) 3 ["self", "link", "other"] "Layout._is_alone" (C8.fnScope s_Layout_is_alone) f (.ref cd) (C8.fnBody s_Layout_is_alone) f_Layout_is_alone := by
  intro A outer s H E hr
  have sc := sc_Layout_is_alone
  exact (sss_one (ss_ret (W.all1 [("other", 2)] hP hr sc.nd Y.b_all tb (by rfl) ⟨rfl, by decide +kernel, rfl⟩ (blkOk_by (by rfl)) ((W.it (W.fl Y.cl_Layout Y.na_Layout_links 0 (W.v 0)))) (fun _ _ _ _ _ _ _ rm => (W.tn 2 sc.nd)) (fun _ _ _ _ _ _ _ rm => (sif_one (W.tru (W.call h_share_end rm (W.ac (W.v 1) (W.ac (W.v 2) W.an)))))) (fun _ _ _ _ _ _ _ rm => (W.call h_told_apart rm (W.ac (W.v 1) (W.ac (W.v 2) W.an)))))))
abbrev s_read_end : Stmt := top 22
theorem sc_read_end : FnScope ["word"] ["word"] (C8.fnScope s_read_end) := C8.fnScope_by (by decide +kernel)
def f_read_end : FS := (fRet (fTup (aCons (fSlA (fVar 0) oNo (oSo (fC (.int (-2))))) (aCons (fGetK t_SIDE_OF (fSlA (fVar 0) (oSo (fC (.int (-2)))) oNo)) aNil))))
def r_read_end : List D → Hq → R D := runF 1 f_read_end
theorem b_read_end (Y : Yk K w mg C) : BodyD P w K mg base (gg K C T) 0 ["word"] "read_end" (C8.fnScope s_read_end) f cdv (C8.fnBody s_read_end) f_read_end := by
  intro A outer s H E hr
  have sc := sc_read_end
  exact (sss_one (ss_ret (se_tup (W.ac (W.sl (W.v 0) sp_no (sp_so W.neg)) (W.ac (W.getK Y.t_SIDE_OF (W.sl (W.v 0) (sp_so W.neg) sp_no)) W.an)))))
abbrev s_read_wants : Stmt := top 23
theorem sc_read_wants : FnScope ["words", "wants", "at", "lead"] ["words"] (C8.fnScope s_read_wants) := C8.fnScope_by (by decide +kernel)
def f_read_wants : FS := (fSeq (fSet 1 (newCell (fLst aNil)))
  (fSeq (fFor (iR3' (aCons (fC (.int 0)) (aCons (fCb opLen (aCons (fVar 0) aNil)) (aCons (fC (.int 3)) aNil)))) (gNm 2) (fSeq (fSet 3 (fIte (fAsB (fBin (opCI .gt) (fVar 2) (fC (.int 0)))) (fC (.str "and")) (fC (.str "when"))))
  (fSeq (fIf (bOr (fAsB (fBin opNeH (fBin opSub_ (fVar 0) (fVar 2)) (fVar 3))) (fAsB (fBin (opCI .gt) (fBin opAddY (fVar 2) (fC (.int 3))) (fCb opLen (aCons (fVar 0) aNil))))) (fRet (fC .non)) fNx)
  (fDrop (fBm .list opAppend (fVar 1) (aCons (fTup (aCons (fBin opSub_ (fVar 0) (fBin opAddY (fVar 2) (fC (.int 1)))) (aCons (fBin opSub_ (fVar 0) (fBin opAddY (fVar 2) (fC (.int 2)))) aNil))) aNil))))))
  (fRet (fVar 1))))
def r_read_wants : List D → Hq → R D := runF 4 f_read_wants
theorem b_read_wants (Y : Yk K w mg C) : BodyD P w K mg base (gg K C T) 0 ["words", "wants", "at", "lead"] "_read_wants" (C8.fnScope s_read_wants) f cdv (C8.fnBody s_read_wants) f_read_wants := by
  intro A outer s H E hr
  have sc := sc_read_wants
  exact (sss_cons (W.set 1 sc.nd (SO.cell (so_lst W.an)))
  (sss_cons (W.for_ PassesOwn.never (W.rng3 Y.b_range (W.ac se_int (W.ac (W.len Y.b_len (W.ac (W.v 0) W.an)) (W.ac se_int W.an)))) (W.tn 2 sc.nd) (sss_cons (W.set 3 sc.nd (se_ite (W.cmB op_gt (os_ci .gt) (W.v 2) se_int) se_str se_str))
  (sss_cons (ss_if (W.andB (sw_or (W.neB (hu64 hr) (W.sub (hu1 hr) (W.v 0) (W.v 2)) (W.v 3)) (sw_one2 (W.cmB op_gt (os_ci .gt) (W.addY (W.v 2) se_int) (W.len Y.b_len (W.ac (W.v 0) W.an)))))) (sss_one (ss_ret se_non)) sss_nil)
  (sss_one (W.ex (W.append (W.v 1) (W.ac (se_tup (W.ac (W.sub (hu1 hr) (W.v 0) (W.addY (W.v 2) se_int)) (W.ac (W.sub (hu1 hr) (W.v 0) (W.addY (W.v 2) se_int)) W.an))) W.an)))))))
  (sss_one (ss_ret (W.v 1)))))
abbrev s_end_text : Stmt := top 24
theorem sc_end_text : FnScope ["end", "section", "side"] ["end"] (C8.fnScope s_end_text) := C8.fnScope_by (by decide +kernel)
def f_end_text : FS := (fSeq (fAsg (fVar 0) (gTuN 2 (gsCons (gNm 1) (gsCons (gNm 2) gsNil))))
  (fRet (fJs [(fFmt (fVar 1)), (fC (.str ".")), (fFmt (fVar 2))])))
def r_end_text : List D → Hq → R D := runF 3 f_end_text
theorem b_end_text (Y : Yk K w mg C) : BodyD P w K mg base (gg K C T) 0 ["end", "section", "side"] "end_text" (C8.fnScope s_end_text) f cdv (C8.fnBody s_end_text) f_end_text := by
  intro A outer s H E hr
  have sc := sc_end_text
  exact (sss_cons (W.asg (W.v 0) (W.tt 2 (W.tsc (W.tn 1 sc.nd) (W.tsc (W.tn 2 sc.nd) W.tsn))))
  (sss_one (ss_ret (se_joined (.cons (se_fmt (W.v 1)) (.cons se_str (.cons (se_fmt (W.v 2)) .nil)))))))
abbrev s_link_row : Stmt := top 25
theorem sc_link_row : FnScope ["link", "one", "other", "wants", "row", "lead", "point", "lie"] ["link"] (C8.fnScope s_link_row) := C8.fnScope_by (by decide +kernel)
def f_link_row : FS := (fSeq (fAsg (fVar 0) (gTuN 3 (gsCons (gNm 1) (gsCons (gNm 2) (gsCons (gNm 3) gsNil)))))
  (fSeq (fSet 4 (fJs [(fC (.str "link ")), (fFmt (fCall 1 r_end_text (aCons (fVar 1) aNil))), (fC (.str " ")), (fFmt (fCall 1 r_end_text (aCons (fVar 2) aNil)))]))
  (fSeq (fSet 5 (fC (.str "when")))
  (fSeq (fFor (iAny (fVar 3)) (gTuN 2 (gsCons (gNm 6) (gsCons (gNm 7) gsNil))) (fSeq (fAug 4 opIAddX (fJs [(fC (.str " ")), (fFmt (fVar 5)), (fC (.str " ")), (fFmt (fVar 6)), (fC (.str " ")), (fFmt (fVar 7))]))
  (fSet 5 (fC (.str "and")))))
  (fRet (fVar 4))))))
def r_link_row : List D → Hq → R D := runF 8 f_link_row
theorem b_link_row (Y : Yk K w mg C) (h_end_text : CalD P w K mg base (gg K C T) 1 "end_text" 1 r_end_text) : BodyD P w K mg base (gg K C T) 1 ["link", "one", "other", "wants", "row", "lead", "point", "lie"] "_link_row" (C8.fnScope s_link_row) f cdv (C8.fnBody s_link_row) f_link_row := by
  intro A outer s H E hr
  have sc := sc_link_row
  exact (sss_cons (W.asg (W.v 0) (W.tt 3 (W.tsc (W.tn 1 sc.nd) (W.tsc (W.tn 2 sc.nd) (W.tsc (W.tn 3 sc.nd) W.tsn)))))
  (sss_cons (W.set 4 sc.nd (se_joined (.cons se_str (.cons (se_fmt (W.call h_end_text hr (W.ac (W.v 1) W.an))) (.cons se_str (.cons (se_fmt (W.call h_end_text hr (W.ac (W.v 2) W.an))) .nil))))))
  (sss_cons (W.set 5 sc.nd se_str)
  (sss_cons (W.for_ PassesOwn.never (W.it (W.v 3)) (W.tt 2 (W.tsc (W.tn 6 sc.nd) (W.tsc (W.tn 7 sc.nd) W.tsn))) (sss_cons (W.augX 4 sc.nd (se_joined (.cons se_str (.cons (se_fmt (W.v 5)) (.cons se_str (.cons (se_fmt (W.v 6)) (.cons se_str (.cons (se_fmt (W.v 7)) .nil))))))))
  (sss_one (W.set 5 sc.nd se_str))))
  (sss_one (ss_ret (W.v 4)))))))
abbrev s_law_taken : Stmt := top 27
theorem sc_law_taken : FnScope ["_law_row", "_law_many", "_law_found", "_law_cell"] ["_law_row", "_law_many"] (C8.fnScope s_law_taken) := C8.fnScope_by (by decide +kernel)
def f_law_taken : FS := (fSeq (fIf (fAsB (fBin (opCI .gt) (fBin opSub_ (fVar 0) (fC (.int 3))) (fC (.int 0)))) (fSeq (fSet 2 (fBin opMod (fBin opSub_ (fVar 0) (fC (.int 3))) (fVar 1)))
  (fSeq (fPut (fVar 0) (fC (.int 3)) (fBin opDiv (fBin opSub_ (fVar 0) (fC (.int 3))) (fVar 1)))
  (fRet (fVar 2)))) fNx)
  (fSeq (fPut (fVar 0) (fC (.int 1)) (fBin opAddY (fBin opSub_ (fVar 0) (fC (.int 1))) (fC (.int 1))))
  (fSeq (fIf (fAsB (fBin (opCI .gt) (fBin opSub_ (fVar 0) (fC (.int 1))) (fCb opLen (aCons (fBin opSub_ (fVar 0) (fC (.int 0))) aNil)))) (fSeq (fPut (fVar 0) (fC (.int 2)) (fBin opMod (fBin opAddY (fBin opMulX (fBin opSub_ (fVar 0) (fC (.int 2))) (fC (.int 48271))) (fC (.int 11))) (fC (.int 2147483647))))
  (fRet (fBin opMod (fBin opDiv (fBin opSub_ (fVar 0) (fC (.int 2))) (fC (.int 7))) (fVar 1)))) fNx)
  (fSeq (fSet 3 (fBin opSub_ (fBin opSub_ (fVar 0) (fC (.int 0))) (fBin opSub (fBin opSub_ (fVar 0) (fC (.int 1))) (fC (.int 1)))))
  (fSeq (fPut (fVar 0) (fC (.int 2)) (fBin opMod (fBin opAddY (fBin opAddY (fBin opMulX (fBin opSub_ (fVar 0) (fC (.int 2))) (fC (.int 48271))) (fVar 3)) (fC (.int 11))) (fC (.int 2147483647))))
  (fSeq (fIf (fAsB (fBin (opCI .ge) (fVar 3) (fBin opPow (fC (.int 10)) (fC (.int 18))))) (fPut (fVar 0) (fC (.int 3)) (fBin opDiv (fVar 3) (fVar 1))) fNx)
  (fRet (fBin opMod (fVar 3) (fVar 1)))))))))
def r_law_taken : List D → Hq → R D := runF 4 f_law_taken
theorem b_law_taken (Y : Yk K w mg C) : BodyD P w K mg base (gg K C T) 0 ["_law_row", "_law_many", "_law_found", "_law_cell"] "_law_taken" (C8.fnScope s_law_taken) f cdv (C8.fnBody s_law_taken) f_law_taken := by
  intro A outer s H E hr
  have sc := sc_law_taken
  exact (sss_cons (ss_if (W.cmB op_gt (os_ci .gt) (W.sub (hu1 hr) (W.v 0) se_int) se_int) (sss_cons (W.set 2 sc.nd (W.bi op_mod os_mod (W.sub (hu1 hr) (W.v 0) se_int) (W.v 1)))
  (sss_cons (W.put (hu1 hr) (W.v 0) se_int (W.bi op_fdivW os_div (W.sub (hu1 hr) (W.v 0) se_int) (W.v 1)))
  (sss_one (ss_ret (W.v 2))))) sss_nil)
  (sss_cons (W.put (hu1 hr) (W.v 0) se_int (W.addY (W.sub (hu1 hr) (W.v 0) se_int) se_int))
  (sss_cons (ss_if (W.cmB op_gt (os_ci .gt) (W.sub (hu1 hr) (W.v 0) se_int) (W.len Y.b_len (W.ac (W.sub (hu1 hr) (W.v 0) se_int) W.an))) (sss_cons (W.put (hu1 hr) (W.v 0) se_int (W.bi op_mod os_mod (W.addY (W.bi op_mulX os_mulX (W.sub (hu1 hr) (W.v 0) se_int) se_int) se_int) se_int))
  (sss_one (ss_ret (W.bi op_mod os_mod (W.bi op_fdivW os_div (W.sub (hu1 hr) (W.v 0) se_int) se_int) (W.v 1))))) sss_nil)
  (sss_cons (W.set 3 sc.nd (W.sub (hu1 hr) (W.sub (hu1 hr) (W.v 0) se_int) (W.bi op_sub os_sub (W.sub (hu1 hr) (W.v 0) se_int) se_int)))
  (sss_cons (W.put (hu1 hr) (W.v 0) se_int (W.bi op_mod os_mod (W.addY (W.addY (W.bi op_mulX os_mulX (W.sub (hu1 hr) (W.v 0) se_int) se_int) (W.v 3)) se_int) se_int))
  (sss_cons (ss_if (W.cmB op_ge (os_ci .ge) (W.v 3) (W.bi op_pow os_pow se_int se_int)) (sss_one (W.put (hu1 hr) (W.v 0) se_int (W.bi op_fdivW os_div (W.v 3) (W.v 1)))) sss_nil)
  (sss_one (ss_ret (W.bi op_mod os_mod (W.v 3) (W.v 1))))))))))
abbrev s_law_spread : Stmt := top 28
theorem sc_law_spread : FnScope ["_law_row", "_law_st", "_law_one", "_law_others", "_law_p", "_law_a", "_law_b", "_law_way", "_law_more", "_law_end", "_law_q", "_law_c"] ["_law_row", "_law_st", "_law_one", "_law_others"] (C8.fnScope s_law_spread) := C8.fnScope_by (by decide +kernel)
def f_law_spread : FS := (fSeq (fSet 4 (fBin opAddY (fC (.str "p")) (fCb opStr (aCons (fBin opMod (fBin opAddY (fBin opSub_ (fVar 1) (fC (.str "turn"))) (fBin opMulX (fC (.int 3)) (fCb opLen (aCons (fBin opSub_ (fVar 1) (fC (.str "points"))) aNil)))) (fC (.int 10))) aNil))))
  (fSeq (fPut (fBin opSub_ (fVar 1) (fC (.str "points"))) (fVar 4) (fBin opSub_ (fVar 2) (fC (.int 0))))
  (fSeq (fSet 5 (fBm .list opPopAt (fVar 3) (aCons (fCall 2 r_law_taken (aCons (fVar 0) (aCons (fCb opLen (aCons (fVar 3) aNil)) aNil))) aNil)))
  (fSeq (fSet 6 (fBm .list opPopAt (fVar 3) (aCons (fCall 2 r_law_taken (aCons (fVar 0) (aCons (fCb opLen (aCons (fVar 3) aNil)) aNil))) aNil)))
  (fSeq (fDrop (fBm .list opAppend (fBin opSub_ (fVar 1) (fC (.str "links"))) (aCons (fTup (aCons (fVar 2) (aCons (fVar 5) (aCons (fDisp [((fVar 4), (fC (.str "n")))]) aNil)))) aNil)))
  (fSeq (fSet 7 (fCall 2 r_law_taken (aCons (fVar 0) (aCons (fC (.int 4)) aNil))))
  (fSeq (fSet 8 (fLc (iAny (fVar 3)) (gNm 9) (bOr (fAsB (fBin opNeH (fBin opSub_ (fVar 9) (fC (.int 0))) (fBin opSub_ (fVar 6) (fC (.int 0))))) (fAsB (fBin opEqH (fVar 7) (fC (.int 3))))) (fVar 9) [9]))
  (fSeq (fIf (bOr (fAsB (fBin opEqH (fVar 8) (fLst aNil))) (fAsB (fBin (opCI .lt) (fVar 7) (fC (.int 2))))) (fSeq (fDrop (fBm .list opAppend (fBin opSub_ (fVar 1) (fC (.str "links"))) (aCons (fTup (aCons (fVar 2) (aCons (fVar 6) (aCons (fDisp [((fVar 4), (fC (.str "r")))]) aNil)))) aNil)))
  (fRet (fLst (aCons (fVar 5) (aCons (fVar 6) aNil))))) fNx)
  (fSeq (fSet 10 (fBin opAddY (fC (.str "p")) (fCb opStr (aCons (fBin opMod (fBin opAddY (fBin opSub_ (fVar 1) (fC (.str "turn"))) (fBin opMulX (fC (.int 3)) (fCb opLen (aCons (fBin opSub_ (fVar 1) (fC (.str "points"))) aNil)))) (fC (.int 10))) aNil))))
  (fSeq (fSet 11 (fBin opSub_ (fVar 8) (fCall 2 r_law_taken (aCons (fVar 0) (aCons (fCb opLen (aCons (fVar 8) aNil)) aNil)))))
  (fSeq (fPut (fBin opSub_ (fVar 1) (fC (.str "points"))) (fVar 10) (fBin opSub_ (fLst (aCons (fBin opSub_ (fVar 6) (fC (.int 0))) (aCons (fBin opSub_ (fVar 2) (fC (.int 0))) aNil))) (fBin opSub (fVar 7) (fC (.int 2)))))
  (fSeq (fDrop (fBm .list opAppend (fBin opSub_ (fVar 1) (fC (.str "links"))) (aCons (fTup (aCons (fVar 2) (aCons (fVar 6) (aCons (fDisp [((fVar 4), (fC (.str "r"))), ((fVar 10), (fC (.str "n")))]) aNil)))) aNil)))
  (fSeq (fDrop (fBm .list opAppend (fBin opSub_ (fVar 1) (fC (.str "links"))) (aCons (fTup (aCons (fBin opSub_ (fLst (aCons (fVar 11) (aCons (fVar 2) aNil))) (fBin opSub (fVar 7) (fC (.int 2)))) (aCons (fBin opSub_ (fLst (aCons (fVar 6) (aCons (fVar 11) aNil))) (fBin opSub (fVar 7) (fC (.int 2)))) (aCons (fBin opSub_ (fLst (aCons (fDisp [((fVar 10), (fC (.str "r")))]) (aCons (fDisp [((fVar 4), (fC (.str "r"))), ((fVar 10), (fC (.str "r")))]) aNil))) (fBin opSub (fVar 7) (fC (.int 2)))) aNil)))) aNil)))
  (fRet (fLst (aCons (fVar 5) (aCons (fVar 6) (aCons (fVar 11) aNil))))))))))))))))))
def r_law_spread : List D → Hq → R D := runF 12 f_law_spread
theorem b_law_spread (Y : Yk K w mg C) (h_law_taken : CalD P w K mg base (gg K C T) 1 "_law_taken" 2 r_law_taken) : BodyD P w K mg base (gg K C T) 1 ["_law_row", "_law_st", "_law_one", "_law_others", "_law_p", "_law_a", "_law_b", "_law_way", "_law_more", "_law_end", "_law_q", "_law_c"] "_law_spread" (C8.fnScope s_law_spread) f cdv (C8.fnBody s_law_spread) f_law_spread := by
  intro A outer s H E hr
  have sc := sc_law_spread
  exact (sss_cons (W.set 4 sc.nd (W.addY se_str (W.str Y.b_str (W.ac (W.bi op_mod os_mod (W.addY (W.sub (hu1 hr) (W.v 1) se_str) (W.bi op_mulX os_mulX se_int (W.len Y.b_len (W.ac (W.sub (hu1 hr) (W.v 1) se_str) W.an)))) se_int) W.an))))
  (sss_cons (W.put (hu1 hr) (W.sub (hu1 hr) (W.v 1) se_str) (W.v 4) (W.sub (hu1 hr) (W.v 2) se_int))
  (sss_cons (W.set 5 sc.nd (W.popAt (W.v 3) (W.ac (W.call h_law_taken hr (W.ac (W.v 0) (W.ac (W.len Y.b_len (W.ac (W.v 3) W.an)) W.an))) W.an)))
  (sss_cons (W.set 6 sc.nd (W.popAt (W.v 3) (W.ac (W.call h_law_taken hr (W.ac (W.v 0) (W.ac (W.len Y.b_len (W.ac (W.v 3) W.an)) W.an))) W.an)))
  (sss_cons (W.ex (W.append (W.sub (hu1 hr) (W.v 1) se_str) (W.ac (se_tup (W.ac (W.v 2) (W.ac (W.v 5) (W.ac (SO.se (so_disp (.cons (W.v 4) se_str .nil) (by rfl) (by rfl) (by simp) (by decide))) W.an)))) W.an)))
  (sss_cons (W.set 7 sc.nd (W.call h_law_taken hr (W.ac (W.v 0) (W.ac se_int W.an))))
  (sss_cons (W.setLc 8 [("_law_end", 9)] sc.nd (W.it (W.v 3)) (blkOk_by (by rfl)) (fun _ _ _ _ _ => (W.tn 9 sc.nd)) (fun _ _ _ _ _ => (sif_one (W.andB (sw_or (W.neB (hu64 hr) (W.sub (hu1 hr) (W.v 9) se_int) (W.sub (hu1 hr) (W.v 6) se_int)) (sw_one2 (W.eqB (hu64 hr) (W.v 7) se_int)))))) (fun _ _ _ _ _ => (W.v 9)))
  (sss_cons (ss_if (W.andB (sw_or (W.eqB (hu64 hr) (W.v 8) (SO.se (so_lst W.an))) (sw_one2 (W.cmB op_lt (os_ci .lt) (W.v 7) se_int)))) (sss_cons (W.ex (W.append (W.sub (hu1 hr) (W.v 1) se_str) (W.ac (se_tup (W.ac (W.v 2) (W.ac (W.v 6) (W.ac (SO.se (so_disp (.cons (W.v 4) se_str .nil) (by rfl) (by rfl) (by simp) (by decide))) W.an)))) W.an)))
  (sss_one (ss_ret (SO.se (so_lst (W.ac (W.v 5) (W.ac (W.v 6) W.an))))))) sss_nil)
  (sss_cons (W.set 10 sc.nd (W.addY se_str (W.str Y.b_str (W.ac (W.bi op_mod os_mod (W.addY (W.sub (hu1 hr) (W.v 1) se_str) (W.bi op_mulX os_mulX se_int (W.len Y.b_len (W.ac (W.sub (hu1 hr) (W.v 1) se_str) W.an)))) se_int) W.an))))
  (sss_cons (W.set 11 sc.nd (W.sub (hu1 hr) (W.v 8) (W.call h_law_taken hr (W.ac (W.v 0) (W.ac (W.len Y.b_len (W.ac (W.v 8) W.an)) W.an)))))
  (sss_cons (W.put (hu1 hr) (W.sub (hu1 hr) (W.v 1) se_str) (W.v 10) (W.sub (hu1 hr) (SO.se (so_lst (W.ac (W.sub (hu1 hr) (W.v 6) se_int) (W.ac (W.sub (hu1 hr) (W.v 2) se_int) W.an)))) (W.bi op_sub os_sub (W.v 7) se_int)))
  (sss_cons (W.ex (W.append (W.sub (hu1 hr) (W.v 1) se_str) (W.ac (se_tup (W.ac (W.v 2) (W.ac (W.v 6) (W.ac (SO.se (so_disp (.cons (W.v 4) se_str (.cons (W.v 10) se_str .nil)) (by rfl) (by rfl) (by simp) (by decide))) W.an)))) W.an)))
  (sss_cons (W.ex (W.append (W.sub (hu1 hr) (W.v 1) se_str) (W.ac (se_tup (W.ac (W.sub (hu1 hr) (SO.se (so_lst (W.ac (W.v 11) (W.ac (W.v 2) W.an)))) (W.bi op_sub os_sub (W.v 7) se_int)) (W.ac (W.sub (hu1 hr) (SO.se (so_lst (W.ac (W.v 6) (W.ac (W.v 11) W.an)))) (W.bi op_sub os_sub (W.v 7) se_int)) (W.ac (W.sub (hu1 hr) (SO.se (so_lst (W.ac (SO.se (so_disp (.cons (W.v 10) se_str .nil) (by rfl) (by rfl) (by simp) (by decide))) (W.ac (SO.se (so_disp (.cons (W.v 4) se_str (.cons (W.v 10) se_str .nil)) (by rfl) (by rfl) (by simp) (by decide))) W.an)))) (W.bi op_sub os_sub (W.v 7) se_int)) W.an)))) W.an)))
  (sss_one (ss_ret (SO.se (so_lst (W.ac (W.v 5) (W.ac (W.v 6) (W.ac (W.v 11) W.an))))))))))))))))))))
abbrev s_law_tracks : Stmt := top 29
theorem sc_law_tracks : FnScope ["_law_row", "_law_turn", "_law_st", "_law_k", "_law_names", "_law_j"] ["_law_row"] (C8.fnScope s_law_tracks) := C8.fnScope_by (by decide +kernel)
def f_law_tracks : FS := (fSeq (fSet 1 (fCall 2 r_law_taken (aCons (fVar 0) (aCons (fC (.int 16)) aNil))))
  (fSeq (fSet 2 (newCell (fDisp [((fC (.str "sections")), (fLst aNil)), ((fC (.str "points")), (newCell fNewK)), ((fC (.str "links")), (newCell (fLst aNil))), ((fC (.str "signals")), (newCell fNewK)), ((fC (.str "turn")), (fVar 1))])))
  (fSeq (fFor (iR1 (aCons (fBin opAddY (fC (.int 2)) (fCall 2 r_law_taken (aCons (fVar 0) (aCons (fC (.int 5)) aNil)))) aNil)) (gNm 3) (fSeq (fSet 4 (fLc (iR1 (aCons (fBin opAddY (fC (.int 2)) (fCall 2 r_law_taken (aCons (fVar 0) (aCons (fC (.int 4)) aNil)))) aNil)) (gNm 5) bYes (fBin opAddY (fBin opSub_ (fC (.str "abcde")) (fVar 5)) (fCb opStr (aCons (fBin opMod (fBin opAddY (fVar 1) (fBin opMulX (fC (.int 3)) (fVar 3))) (fC (.int 8))) aNil))) [5]))
  (fSeq (fPut (fVar 2) (fC (.str "sections")) (fBin opAddY (fBin opSub_ (fVar 2) (fC (.str "sections"))) (fVar 4)))
  (fSeq (fPut (fBin opSub_ (fVar 2) (fC (.str "signals"))) (fBin opAddY (fC (.str "z")) (fCb opStr (aCons (fBin opMod (fBin opAddY (fVar 1) (fBin opMulX (fC (.int 5)) (fVar 3))) (fC (.int 16))) aNil))) (fTup (aCons (fBin opSub_ (fVar 4) (fC (.int 0))) (aCons (fC (.int 1)) aNil))))
  (fFor (iR1 (aCons (fBin opSub (fCb opLen (aCons (fVar 4) aNil)) (fC (.int 1))) aNil)) (gNm 5) (fDrop (fBm .list opAppend (fBin opSub_ (fVar 2) (fC (.str "links"))) (aCons (fTup (aCons (fTup (aCons (fBin opSub_ (fVar 4) (fVar 5)) (aCons (fC (.int 1)) aNil))) (aCons (fTup (aCons (fBin opSub_ (fVar 4) (fBin opAddY (fVar 5) (fC (.int 1)))) (aCons (fC (.int 0)) aNil))) (aCons fNewK aNil)))) aNil))))))))
  (fRet (fVar 2)))))
def r_law_tracks : List D → Hq → R D := runF 6 f_law_tracks
theorem b_law_tracks (Y : Yk K w mg C) (h_law_taken : CalD P w K mg base (gg K C T) 1 "_law_taken" 2 r_law_taken) : BodyD P w K mg base (gg K C T) 1 ["_law_row", "_law_turn", "_law_st", "_law_k", "_law_names", "_law_j"] "_law_tracks" (C8.fnScope s_law_tracks) f cdv (C8.fnBody s_law_tracks) f_law_tracks := by
  intro A outer s H E hr
  have sc := sc_law_tracks
  exact (sss_cons (W.set 1 sc.nd (W.call h_law_taken hr (W.ac (W.v 0) (W.ac se_int W.an))))
  (sss_cons (W.set 2 sc.nd (SO.cell (so_disp (.cons se_str (SO.se (so_lst W.an)) (.cons se_str (SO.cell so_newK) (.cons se_str (SO.cell (so_lst W.an)) (.cons se_str (SO.cell so_newK) (.cons se_str (W.v 1) .nil))))) (by rfl) (by rfl) (by simp) (by decide))))
  (sss_cons (W.for_ PassesOwn.never (W.rng1 Y.b_range (W.ac (W.addY se_int (W.call h_law_taken hr (W.ac (W.v 0) (W.ac se_int W.an)))) W.an)) (W.tn 3 sc.nd) (sss_cons (W.setLc 4 [("_law_j", 5)] sc.nd (W.rng1 Y.b_range (W.ac (W.addY se_int (W.call h_law_taken hr (W.ac (W.v 0) (W.ac se_int W.an)))) W.an)) (blkOk_by (by rfl)) (fun _ _ _ _ _ => (W.tn 5 sc.nd)) (fun _ _ _ _ _ => sif_nil) (fun _ _ _ _ _ => (W.addY (W.sub (hu1 hr) se_str (W.v 5)) (W.str Y.b_str (W.ac (W.bi op_mod os_mod (W.addY (W.v 1) (W.bi op_mulX os_mulX se_int (W.v 3))) se_int) W.an)))))
  (sss_cons (W.put (hu1 hr) (W.v 2) se_str (W.addY (W.sub (hu1 hr) (W.v 2) se_str) (W.v 4)))
  (sss_cons (W.put (hu1 hr) (W.sub (hu1 hr) (W.v 2) se_str) (W.addY se_str (W.str Y.b_str (W.ac (W.bi op_mod os_mod (W.addY (W.v 1) (W.bi op_mulX os_mulX se_int (W.v 3))) se_int) W.an))) (se_tup (W.ac (W.sub (hu1 hr) (W.v 4) se_int) (W.ac se_int W.an))))
  (sss_one (W.for_ PassesOwn.never (W.rng1 Y.b_range (W.ac (W.bi op_sub os_sub (W.len Y.b_len (W.ac (W.v 4) W.an)) se_int) W.an)) (W.tn 5 sc.nd) (sss_one (W.ex (W.append (W.sub (hu1 hr) (W.v 2) se_str) (W.ac (se_tup (W.ac (se_tup (W.ac (W.sub (hu1 hr) (W.v 4) (W.v 5)) (W.ac se_int W.an))) (W.ac (se_tup (W.ac (W.sub (hu1 hr) (W.v 4) (W.addY (W.v 5) se_int)) (W.ac se_int W.an))) (W.ac (SO.se so_newK) W.an)))) W.an))))))))))
  (sss_one (ss_ret (W.v 2))))))
abbrev s_law_station : Stmt := top 30
theorem sc_law_station : FnScope ["_law_row", "_law_word", "_law_turn", "_law_names", "_law_k", "_law_st", "_law_free", "_law_name", "_law_one", "_law_others", "_law_end", "_law_used", "_law_other", "_law_side"] ["_law_row"] (C8.fnScope s_law_station) := C8.fnScope_by (by decide +kernel)
def f_law_station : FS := (fSeq (fIf (fAsB (fBin opEqH (fCall 2 r_law_taken (aCons (fVar 0) (aCons (fC (.int 4)) aNil))) (fC (.int 3)))) (fRet (fCall 1 r_law_tracks (aCons (fVar 0) aNil))) fNx)
  (fSeq (fSet 1 (fBin opMulX (fBin opSub_ (fC (.str "abcdefghijklmnoqrstuvwxy")) (fCall 2 r_law_taken (aCons (fVar 0) (aCons (fC (.int 24)) aNil)))) (fBin opAddY (fC (.int 1)) (fCall 2 r_law_taken (aCons (fVar 0) (aCons (fC (.int 4)) aNil))))))
  (fSeq (fSet 2 (fCall 2 r_law_taken (aCons (fVar 0) (aCons (fC (.int 16)) aNil))))
  (fSeq (fSet 3 (fLc (iR1 (aCons (fBin opAddY (fC (.int 2)) (fCall 2 r_law_taken (aCons (fVar 0) (aCons (fC (.int 7)) aNil)))) aNil)) (gNm 4) bYes (fBin opAddY (fVar 1) (fCb opStr (aCons (fBin opMod (fBin opAddY (fVar 2) (fBin opMulX (fC (.int 3)) (fVar 4))) (fC (.int 8))) aNil))) [4]))
  (fSeq (fSet 5 (newCell (fDisp [((fC (.str "sections")), (fVar 3)), ((fC (.str "points")), (newCell fNewK)), ((fC (.str "links")), (newCell (fLst aNil))), ((fC (.str "signals")), (newCell fNewK)), ((fC (.str "turn")), (fVar 2))])))
  (fSeq (fSet 6 (fBin opAddY (fLc (iAny (fVar 3)) (gNm 7) bYes (fTup (aCons (fVar 7) (aCons (fC (.int 0)) aNil))) [7]) (fLc (iAny (fVar 3)) (gNm 7) bYes (fTup (aCons (fVar 7) (aCons (fC (.int 1)) aNil))) [7])))
  (fSeq (fFor (iR1 (aCons (fCall 2 r_law_taken (aCons (fVar 0) (aCons (fC (.int 12)) aNil))) aNil)) (gNm 4) (fSeq (fSet 8 (fIte (fAsB (fBin opNeH (fVar 6) (fLst aNil))) (fBin opSub_ (fVar 6) (fCall 2 r_law_taken (aCons (fVar 0) (aCons (fCb opLen (aCons (fVar 6) aNil)) aNil)))) (fTup (aCons (fC (.str "")) (aCons (fC (.int 0)) aNil)))))
  (fSeq (fSet 9 (newCell (fLc (iAny (fVar 6)) (gNm 10) (fAsB (fBin opNeH (fBin opSub_ (fVar 10) (fC (.int 0))) (fBin opSub_ (fVar 8) (fC (.int 0))))) (fVar 10) [10])))
  (fSeq (fSet 11 (newCell (fLst (aCons (fVar 8) aNil))))
  (fSeq (fIf (bAnd (fAsB (fBin (opCI .gt) (fCb opLen (aCons (fVar 9) aNil)) (fC (.int 1)))) (bAnd (fAsB (fBin (opCI .lt) (fCb opLen (aCons (fBin opSub_ (fVar 5) (fC (.str "points"))) aNil)) (fC (.int 9)))) (fAsB (fBin opEqH (fCall 2 r_law_taken (aCons (fVar 0) (aCons (fC (.int 2)) aNil))) (fC (.int 1)))))) (fSet 11 (fBin opAddY (fVar 11) (fCall 4 r_law_spread (aCons (fVar 0) (aCons (fVar 5) (aCons (fVar 8) (aCons (fVar 9) aNil))))))) (fIf (fAsB (fBin opNeH (fVar 9) (fLst aNil))) (fSeq (fSet 12 (fBin opSub_ (fVar 9) (fCall 2 r_law_taken (aCons (fVar 0) (aCons (fCb opLen (aCons (fVar 9) aNil)) aNil)))))
  (fSeq (fDrop (fBm .list opAppend (fBin opSub_ (fVar 5) (fC (.str "links"))) (aCons (fTup (aCons (fVar 8) (aCons (fVar 12) (aCons fNewK aNil)))) aNil)))
  (fDrop (fBm .list opAppend (fVar 11) (aCons (fVar 12) aNil))))) fNx))
  (fSet 6 (fLc (iAny (fVar 6)) (gNm 10) (fAsB (fBin opNin (fVar 10) (fVar 11))) (fVar 10) [10])))))))
  (fSeq (fFor (iAny (fVar 3)) (gNm 7) (fFor (iR1 (aCons (fC (.int 2)) aNil)) (gNm 13) (fIf (bAnd (fAsB (fBin (opCI .gt) (fCall 2 r_law_taken (aCons (fVar 0) (aCons (fC (.int 3)) aNil))) (fC (.int 0)))) (fAsB (fBin (opCI .lt) (fCb opLen (aCons (fBin opSub_ (fVar 5) (fC (.str "signals"))) aNil)) (fC (.int 16))))) (fPut (fBin opSub_ (fVar 5) (fC (.str "signals"))) (fBin opAddY (fC (.str "z")) (fCb opStr (aCons (fBin opMod (fBin opAddY (fVar 2) (fBin opMulX (fC (.int 3)) (fCb opLen (aCons (fBin opSub_ (fVar 5) (fC (.str "signals"))) aNil)))) (fC (.int 16))) aNil))) (fTup (aCons (fVar 7) (aCons (fVar 13) aNil)))) fNx)))
  (fRet (fVar 5))))))))))
def r_law_station : List D → Hq → R D := runF 14 f_law_station
theorem b_law_station (Y : Yk K w mg C) (h_law_spread : CalD P w K mg base (gg K C T) 2 "_law_spread" 4 r_law_spread) (h_law_taken : CalD P w K mg base (gg K C T) 1 "_law_taken" 2 r_law_taken) (h_law_tracks : CalD P w K mg base (gg K C T) 2 "_law_tracks" 1 r_law_tracks) : BodyD P w K mg base (gg K C T) 2 ["_law_row", "_law_word", "_law_turn", "_law_names", "_law_k", "_law_st", "_law_free", "_law_name", "_law_one", "_law_others", "_law_end", "_law_used", "_law_other", "_law_side"] "_law_station" (C8.fnScope s_law_station) f cdv (C8.fnBody s_law_station) f_law_station := by
  intro A outer s H E hr
  have sc := sc_law_station
  exact (sss_cons (ss_if (W.eqB (hu64 hr) (W.call h_law_taken hr (W.ac (W.v 0) (W.ac se_int W.an))) se_int) (sss_one (ss_ret (W.call h_law_tracks hr (W.ac (W.v 0) W.an)))) sss_nil)
  (sss_cons (W.set 1 sc.nd (W.bi op_mulX os_mulX (W.sub (hu1 hr) se_str (W.call h_law_taken hr (W.ac (W.v 0) (W.ac se_int W.an)))) (W.addY se_int (W.call h_law_taken hr (W.ac (W.v 0) (W.ac se_int W.an))))))
  (sss_cons (W.set 2 sc.nd (W.call h_law_taken hr (W.ac (W.v 0) (W.ac se_int W.an))))
  (sss_cons (W.setLc 3 [("_law_k", 4)] sc.nd (W.rng1 Y.b_range (W.ac (W.addY se_int (W.call h_law_taken hr (W.ac (W.v 0) (W.ac se_int W.an)))) W.an)) (blkOk_by (by rfl)) (fun _ _ _ _ _ => (W.tn 4 sc.nd)) (fun _ _ _ _ _ => sif_nil) (fun _ _ _ _ _ => (W.addY (W.v 1) (W.str Y.b_str (W.ac (W.bi op_mod os_mod (W.addY (W.v 2) (W.bi op_mulX os_mulX se_int (W.v 4))) se_int) W.an)))))
  (sss_cons (W.set 5 sc.nd (SO.cell (so_disp (.cons se_str (W.v 3) (.cons se_str (SO.cell so_newK) (.cons se_str (SO.cell (so_lst W.an)) (.cons se_str (SO.cell so_newK) (.cons se_str (W.v 2) .nil))))) (by rfl) (by rfl) (by simp) (by decide))))
  (sss_cons (W.set 6 sc.nd (W.addY (SO.se (W.lc [("_law_name", 7)] sc.nd (W.it (W.v 3)) (blkOk_by (by rfl)) (fun _ _ _ _ _ => (W.tn 7 sc.nd)) (fun _ _ _ _ _ => sif_nil) (fun _ _ _ _ _ => (se_tup (W.ac (W.v 7) (W.ac se_int W.an)))))) (SO.se (W.lc [("_law_name", 7)] sc.nd (W.it (W.v 3)) (blkOk_by (by rfl)) (fun _ _ _ _ _ => (W.tn 7 sc.nd)) (fun _ _ _ _ _ => sif_nil) (fun _ _ _ _ _ => (se_tup (W.ac (W.v 7) (W.ac se_int W.an))))))))
  (sss_cons (W.for_ PassesOwn.never (W.rng1 Y.b_range (W.ac (W.call h_law_taken hr (W.ac (W.v 0) (W.ac se_int W.an))) W.an)) (W.tn 4 sc.nd) (sss_cons (W.set 8 sc.nd (se_ite (W.neB (hu64 hr) (W.v 6) (SO.se (so_lst W.an))) (W.sub (hu1 hr) (W.v 6) (W.call h_law_taken hr (W.ac (W.v 0) (W.ac (W.len Y.b_len (W.ac (W.v 6) W.an)) W.an)))) (se_tup (W.ac se_str (W.ac se_int W.an)))))
  (sss_cons (W.setLcC 9 [("_law_end", 10)] sc.nd (W.it (W.v 6)) (blkOk_by (by rfl)) (fun _ _ _ _ _ => (W.tn 10 sc.nd)) (fun _ _ _ _ _ => (sif_one (W.neB (hu64 hr) (W.sub (hu1 hr) (W.v 10) se_int) (W.sub (hu1 hr) (W.v 8) se_int)))) (fun _ _ _ _ _ => (W.v 10)))
  (sss_cons (W.set 11 sc.nd (SO.cell (so_lst (W.ac (W.v 8) W.an))))
  (sss_cons (ss_if (W.andB (sw_and (W.cmB op_gt (os_ci .gt) (W.len Y.b_len (W.ac (W.v 9) W.an)) se_int) (sw_and (W.cmB op_lt (os_ci .lt) (W.len Y.b_len (W.ac (W.sub (hu1 hr) (W.v 5) se_str) W.an)) se_int) (sw_one1 (W.eqB (hu64 hr) (W.call h_law_taken hr (W.ac (W.v 0) (W.ac se_int W.an))) se_int))))) (sss_one (W.set 11 sc.nd (W.addY (W.v 11) (W.call h_law_spread hr (W.ac (W.v 0) (W.ac (W.v 5) (W.ac (W.v 8) (W.ac (W.v 9) W.an)))))))) (sss_one (ss_if (W.neB (hu64 hr) (W.v 9) (SO.se (so_lst W.an))) (sss_cons (W.set 12 sc.nd (W.sub (hu1 hr) (W.v 9) (W.call h_law_taken hr (W.ac (W.v 0) (W.ac (W.len Y.b_len (W.ac (W.v 9) W.an)) W.an)))))
  (sss_cons (W.ex (W.append (W.sub (hu1 hr) (W.v 5) se_str) (W.ac (se_tup (W.ac (W.v 8) (W.ac (W.v 12) (W.ac (SO.se so_newK) W.an)))) W.an)))
  (sss_one (W.ex (W.append (W.v 11) (W.ac (W.v 12) W.an)))))) sss_nil)))
  (sss_one (W.setLc 6 [("_law_end", 10)] sc.nd (W.it (W.v 6)) (blkOk_by (by rfl)) (fun _ _ _ _ _ => (W.tn 10 sc.nd)) (fun _ _ _ _ _ => (sif_one (W.ninB (hu65 hr) (W.v 10) (W.v 11)))) (fun _ _ _ _ _ => (W.v 10)))))))))
  (sss_cons (W.for_ PassesOwn.never (W.it (W.v 3)) (W.tn 7 sc.nd) (sss_one (W.for_ PassesOwn.never (W.rng1 Y.b_range (W.ac se_int W.an)) (W.tn 13 sc.nd) (sss_one (ss_if (W.andB (sw_and (W.cmB op_gt (os_ci .gt) (W.call h_law_taken hr (W.ac (W.v 0) (W.ac se_int W.an))) se_int) (sw_one1 (W.cmB op_lt (os_ci .lt) (W.len Y.b_len (W.ac (W.sub (hu1 hr) (W.v 5) se_str) W.an)) se_int)))) (sss_one (W.put (hu1 hr) (W.sub (hu1 hr) (W.v 5) se_str) (W.addY se_str (W.str Y.b_str (W.ac (W.bi op_mod os_mod (W.addY (W.v 2) (W.bi op_mulX os_mulX se_int (W.len Y.b_len (W.ac (W.sub (hu1 hr) (W.v 5) se_str) W.an)))) se_int) W.an))) (se_tup (W.ac (W.v 7) (W.ac (W.v 13) W.an))))) sss_nil)))))
  (sss_one (ss_ret (W.v 5)))))))))))
abbrev s_law_end_text : Stmt := top 31
theorem sc_law_end_text : FnScope ["_law_end"] ["_law_end"] (C8.fnScope s_law_end_text) := C8.fnScope_by (by decide +kernel)
def f_law_end_text : FS := (fRet (fBin opAddY (fBin opAddY (fBin opSub_ (fVar 0) (fC (.int 0))) (fC (.str "."))) (fCb opStr (aCons (fBin opSub_ (fVar 0) (fC (.int 1))) aNil))))
def r_law_end_text : List D → Hq → R D := runF 1 f_law_end_text
theorem b_law_end_text (Y : Yk K w mg C) : BodyD P w K mg base (gg K C T) 0 ["_law_end"] "_law_end_text" (C8.fnScope s_law_end_text) f cdv (C8.fnBody s_law_end_text) f_law_end_text := by
  intro A outer s H E hr
  have sc := sc_law_end_text
  exact (sss_one (ss_ret (W.addY (W.addY (W.sub (hu1 hr) (W.v 0) se_int) se_str) (W.str Y.b_str (W.ac (W.sub (hu1 hr) (W.v 0) se_int) W.an)))))
abbrev s_law_text : Stmt := top 32
theorem sc_law_text : FnScope ["_law_st", "_law_rows", "_law_name", "_law_one", "_law_other", "_law_needs", "_law_told", "_law_point"] ["_law_st"] (C8.fnScope s_law_text) := C8.fnScope_by (by decide +kernel)
def f_law_text : FS := (fSeq (fSet 1 (fLc (iAny (fBin opSub_ (fVar 0) (fC (.str "sections")))) (gNm 2) bYes (fBin opAddY (fC (.str "section ")) (fVar 2)) [2]))
  (fSeq (fSet 1 (newCell (fBin opCat (fVar 1) (fLc (iAny (fBin opSub_ (fVar 0) (fC (.str "points")))) (gNm 2) bYes (fBin opAddY (fBin opAddY (fBin opAddY (fC (.str "point ")) (fVar 2)) (fC (.str " in "))) (fBin opSub_ (fBin opSub_ (fVar 0) (fC (.str "points"))) (fVar 2))) [2]))))
  (fSeq (fFor (iAny (fBin opSub_ (fVar 0) (fC (.str "links")))) (gTuN 3 (gsCons (gNm 3) (gsCons (gNm 4) (gsCons (gNm 5) gsNil)))) (fSeq (fSet 6 (fBin opAddY (fBin opAddY (fBin opAddY (fC (.str "link ")) (fCall 1 r_law_end_text (aCons (fVar 3) aNil))) (fC (.str " "))) (fCall 1 r_law_end_text (aCons (fVar 4) aNil))))
  (fSeq (fIf (fAsB (fNeE (fVar 5))) (fSet 6 (fBin opAddY (fBin opAddY (fVar 6) (fC (.str " when "))) (fBm .str opJoin (fC (.str " and ")) (aCons (fLc (iAny (fCb opSorted (aCons (fVar 5) aNil))) (gNm 7) bYes (fBin opAddY (fBin opAddY (fVar 7) (fC (.str " "))) (fBin opSub_ (fVar 5) (fVar 7))) [7]) aNil)))) fNx)
  (fDrop (fBm .list opAppend (fVar 1) (aCons (fVar 6) aNil))))))
  (fSeq (fSet 1 (fBin opAddY (fVar 1) (fLc (iAny (fBin opSub_ (fVar 0) (fC (.str "signals")))) (gNm 2) bYes (fBin opAddY (fBin opAddY (fBin opAddY (fC (.str "signal ")) (fVar 2)) (fC (.str " at "))) (fCall 1 r_law_end_text (aCons (fBin opSub_ (fBin opSub_ (fVar 0) (fC (.str "signals"))) (fVar 2)) aNil))) [2])))
  (fRet (fBm .str opJoin (fC (.str "\n")) (aCons (fVar 1) aNil)))))))
def r_law_text : List D → Hq → R D := runF 8 f_law_text
theorem b_law_text (Y : Yk K w mg C) (h_law_end_text : CalD P w K mg base (gg K C T) 1 "_law_end_text" 1 r_law_end_text) : BodyD P w K mg base (gg K C T) 1 ["_law_st", "_law_rows", "_law_name", "_law_one", "_law_other", "_law_needs", "_law_told", "_law_point"] "_law_text" (C8.fnScope s_law_text) f cdv (C8.fnBody s_law_text) f_law_text := by
  intro A outer s H E hr
  have sc := sc_law_text
  exact (sss_cons (W.setLc 1 [("_law_name", 2)] sc.nd (W.it (W.sub (hu1 hr) (W.v 0) se_str)) (blkOk_by (by rfl)) (fun _ _ _ _ _ => (W.tn 2 sc.nd)) (fun _ _ _ _ _ => sif_nil) (fun _ _ _ _ _ => (W.addY se_str (W.v 2))))
  (sss_cons (W.set 1 sc.nd (SO.cell (so_bin op_catX os_cat (W.v 1) (SO.se (W.lc [("_law_name", 2)] sc.nd (W.it (W.sub (hu1 hr) (W.v 0) se_str)) (blkOk_by (by rfl)) (fun _ _ _ _ _ => (W.tn 2 sc.nd)) (fun _ _ _ _ _ => sif_nil) (fun _ _ _ _ _ => (W.addY (W.addY (W.addY se_str (W.v 2)) se_str) (W.sub (hu1 hr) (W.sub (hu1 hr) (W.v 0) se_str) (W.v 2)))))))))
  (sss_cons (W.for_ PassesOwn.never (W.it (W.sub (hu1 hr) (W.v 0) se_str)) (W.tt 3 (W.tsc (W.tn 3 sc.nd) (W.tsc (W.tn 4 sc.nd) (W.tsc (W.tn 5 sc.nd) W.tsn)))) (sss_cons (W.set 6 sc.nd (W.addY (W.addY (W.addY se_str (W.call h_law_end_text hr (W.ac (W.v 3) W.an))) se_str) (W.call h_law_end_text hr (W.ac (W.v 4) W.an))))
  (sss_cons (ss_if (W.neEB (hu0 hr) (W.v 5)) (sss_one (W.set 6 sc.nd (W.addY (W.addY (W.v 6) se_str) (W.join se_str (W.ac (SO.se (W.lc [("_law_point", 7)] sc.nd (W.it (SO.se (W.sorted Y.b_sorted (W.ac (W.v 5) W.an)))) (blkOk_by (by rfl)) (fun _ _ _ _ _ => (W.tn 7 sc.nd)) (fun _ _ _ _ _ => sif_nil) (fun _ _ _ _ _ => (W.addY (W.addY (W.v 7) se_str) (W.sub (hu1 hr) (W.v 5) (W.v 7)))))) W.an))))) sss_nil)
  (sss_one (W.ex (W.append (W.v 1) (W.ac (W.v 6) W.an)))))))
  (sss_cons (W.set 1 sc.nd (W.addY (W.v 1) (SO.se (W.lc [("_law_name", 2)] sc.nd (W.it (W.sub (hu1 hr) (W.v 0) se_str)) (blkOk_by (by rfl)) (fun _ _ _ _ _ => (W.tn 2 sc.nd)) (fun _ _ _ _ _ => sif_nil) (fun _ _ _ _ _ => (W.addY (W.addY (W.addY se_str (W.v 2)) se_str) (W.call h_law_end_text hr (W.ac (W.sub (hu1 hr) (W.sub (hu1 hr) (W.v 0) se_str) (W.v 2)) W.an))))))))
  (sss_one (ss_ret (W.join se_str (W.ac (W.v 1) W.an))))))))
abbrev s_Layout_add_section : Stmt := mth 15 1
theorem sc_Layout_add_section : FnScope ["self", "name"] ["self", "name"] (C8.fnScope s_Layout_add_section) := C8.fnScope_by (by decide +kernel)
def f_Layout_add_section : FS := (fSeq (fIf (bOr (fAsB (fBin (opCI .ge) (fCb opLen (aCons (fFld 0 "sections" (fVar 0)) aNil)) (fC d_MOST_SECTIONS))) (bNot (fTru (fMeth 0 "_is_free" 2 r_Layout_is_free (fVar 0) (aCons (fVar 1) aNil))))) (fRet (fC (.bl false))) fNx)
  (fSeq (fFldS 0 "sections" (fVar 0) (fBin opAddY (fFld 0 "sections" (fVar 0)) (fTup (aCons (fVar 1) aNil))))
  (fRet (fC (.bl true)))))
def r_Layout_add_section : List D → Hq → R D := runF 2 f_Layout_add_section
theorem b_Layout_add_section (Y : Yk K w mg C) (h_Layout_is_free : MetD P w K mg base (gg K C T) 3 C "_is_free" 2 r_Layout_is_free) : BodyD P w K mg base (gg K C T) 3 ["self", "name"] "Layout.add_section" (C8.fnScope s_Layout_add_section) f cdv (C8.fnBody s_Layout_add_section) f_Layout_add_section := by
  intro A outer s H E hr
  have sc := sc_Layout_add_section
  exact (sss_cons (ss_if (W.andB (sw_or (W.cmB op_ge (os_ci .ge) (W.len Y.b_len (W.ac (W.fl Y.cl_Layout Y.na_Layout_sections 0 (W.v 0)) W.an)) (W.gl Y.c_MOST_SECTIONS)) (sw_one2 (sb_not (W.tru (W.mt 0 h_Layout_is_free hr (W.v 0) (W.ac (W.v 1) W.an))))))) (sss_one (ss_ret se_bl)) sss_nil)
  (sss_cons (W.fld Y.cl_Layout Y.na_Layout_sections 0 (W.v 0) (W.addY (W.fl Y.cl_Layout Y.na_Layout_sections 0 (W.v 0)) (se_tup (W.ac (W.v 1) W.an))))
  (sss_one (ss_ret se_bl))))
abbrev s_Layout_add_point : Stmt := mth 15 2
theorem sc_Layout_add_point : FnScope ["self", "name", "section"] ["self", "name", "section"] (C8.fnScope s_Layout_add_point) := C8.fnScope_by (by decide +kernel)
def f_Layout_add_point : FS := (fSeq (fIf (bOr (fAsB (fBin (opCI .ge) (fCb opLen (aCons (fFld 0 "points" (fVar 0)) aNil)) (fC d_MOST_POINTS))) (bOr (bNot (fTru (fMeth 0 "_is_free" 2 r_Layout_is_free (fVar 0) (aCons (fVar 1) aNil)))) (fAsB (fBin opNin (fVar 2) (fFld 0 "sections" (fVar 0)))))) (fRet (fC (.bl false))) fNx)
  (fSeq (fFldS 0 "points" (fVar 0) (fBin opAddY (fFld 0 "points" (fVar 0)) (fTupF (aCons (fTup (aCons (fVar 1) (aCons (fVar 2) aNil))) aNil))))
  (fRet (fC (.bl true)))))
def r_Layout_add_point : List D → Hq → R D := runF 3 f_Layout_add_point
theorem b_Layout_add_point (Y : Yk K w mg C) (h_Layout_is_free : MetD P w K mg base (gg K C T) 3 C "_is_free" 2 r_Layout_is_free) : BodyD P w K mg base (gg K C T) 3 ["self", "name", "section"] "Layout.add_point" (C8.fnScope s_Layout_add_point) f cdv (C8.fnBody s_Layout_add_point) f_Layout_add_point := by
  intro A outer s H E hr
  have sc := sc_Layout_add_point
  exact (sss_cons (ss_if (W.andB (sw_or (W.cmB op_ge (os_ci .ge) (W.len Y.b_len (W.ac (W.fl Y.cl_Layout Y.na_Layout_points 0 (W.v 0)) W.an)) (W.gl Y.c_MOST_POINTS)) (sw_or (sb_not (W.tru (W.mt 0 h_Layout_is_free hr (W.v 0) (W.ac (W.v 1) W.an)))) (sw_one2 (W.ninB (hu65 hr) (W.v 2) (W.fl Y.cl_Layout Y.na_Layout_sections 0 (W.v 0))))))) (sss_one (ss_ret se_bl)) sss_nil)
  (sss_cons (W.fld Y.cl_Layout Y.na_Layout_points 0 (W.v 0) (W.addY (W.fl Y.cl_Layout Y.na_Layout_points 0 (W.v 0)) (se_tupF (W.ac (se_tup (W.ac (W.v 1) (W.ac (W.v 2) W.an))) W.an))))
  (sss_one (ss_ret se_bl))))
abbrev s_Layout_add_link : Stmt := mth 15 3
theorem sc_Layout_add_link : FnScope ["self", "one", "other", "wants", "link"] ["self", "one", "other", "wants"] (C8.fnScope s_Layout_add_link) := C8.fnScope_by (by decide +kernel)
def f_Layout_add_link : FS := (fSeq (fIf (bOr (fAsB (fBin (opCI .ge) (fCb opLen (aCons (fFld 0 "links" (fVar 0)) aNil)) (fC d_MOST_LINKS))) (bNot (fTru (fMeth 0 "_may_join" 3 r_Layout_may_join (fVar 0) (aCons (fVar 1) (aCons (fVar 2) aNil)))))) (fRet (fC (.bl false))) fNx)
  (fSeq (fSet 4 (fTup (aCons (fVar 1) (aCons (fVar 2) (aCons (fTupOf (fVar 3)) aNil)))))
  (fSeq (fIf (bOr (bNot (fTru (fMeth 0 "_may_want" 2 r_Layout_may_want (fVar 0) (aCons (fVar 4) aNil)))) (bNot (fTru (fMeth 0 "_is_alone" 2 r_Layout_is_alone (fVar 0) (aCons (fVar 4) aNil))))) (fRet (fC (.bl false))) fNx)
  (fSeq (fFldS 0 "links" (fVar 0) (fBin opAddY (fFld 0 "links" (fVar 0)) (fTup (aCons (fVar 4) aNil))))
  (fRet (fC (.bl true)))))))
def r_Layout_add_link : List D → Hq → R D := runF 5 f_Layout_add_link
theorem b_Layout_add_link (Y : Yk K w mg C) (h_Layout_is_alone : MetD P w K mg base (gg K C T) 4 C "_is_alone" 2 r_Layout_is_alone) (h_Layout_may_join : MetD P w K mg base (gg K C T) 2 C "_may_join" 3 r_Layout_may_join) (h_Layout_may_want : MetD P w K mg base (gg K C T) 2 C "_may_want" 2 r_Layout_may_want) : BodyD P w K mg base (gg K C T) 4 ["self", "one", "other", "wants", "link"] "Layout.add_link" (C8.fnScope s_Layout_add_link) f cdv (C8.fnBody s_Layout_add_link) f_Layout_add_link := by
  intro A outer s H E hr
  have sc := sc_Layout_add_link
  exact (sss_cons (ss_if (W.andB (sw_or (W.cmB op_ge (os_ci .ge) (W.len Y.b_len (W.ac (W.fl Y.cl_Layout Y.na_Layout_links 0 (W.v 0)) W.an)) (W.gl Y.c_MOST_LINKS)) (sw_one2 (sb_not (W.tru (W.mt 0 h_Layout_may_join hr (W.v 0) (W.ac (W.v 1) (W.ac (W.v 2) W.an)))))))) (sss_one (ss_ret se_bl)) sss_nil)
  (sss_cons (W.set 4 sc.nd (se_tup (W.ac (W.v 1) (W.ac (W.v 2) (W.ac (W.tupO Y.b_tuple (W.v 3)) W.an)))))
  (sss_cons (ss_if (W.andB (sw_or (sb_not (W.tru (W.mt 0 h_Layout_may_want hr (W.v 0) (W.ac (W.v 4) W.an)))) (sw_one2 (sb_not (W.tru (W.mt 0 h_Layout_is_alone hr (W.v 0) (W.ac (W.v 4) W.an))))))) (sss_one (ss_ret se_bl)) sss_nil)
  (sss_cons (W.fld Y.cl_Layout Y.na_Layout_links 0 (W.v 0) (W.addY (W.fl Y.cl_Layout Y.na_Layout_links 0 (W.v 0)) (se_tup (W.ac (W.v 4) W.an))))
  (sss_one (ss_ret se_bl))))))
abbrev s_Layout_add_signal : Stmt := mth 15 4
theorem sc_Layout_add_signal : FnScope ["self", "name", "end", "_", "taken"] ["self", "name", "end"] (C8.fnScope s_Layout_add_signal) := C8.fnScope_by (by decide +kernel)
def f_Layout_add_signal : FS := (fSeq (fIf (bOr (fAsB (fBin (opCI .ge) (fCb opLen (aCons (fFld 0 "signals" (fVar 0)) aNil)) (fC d_MOST_SIGNALS))) (bNot (fTru (fMeth 0 "_is_free" 2 r_Layout_is_free (fVar 0) (aCons (fVar 1) aNil))))) (fRet (fC (.bl false))) fNx)
  (fSeq (fIf (bOr (bNot (fTru (fMeth 0 "_is_end" 2 r_Layout_is_end (fVar 0) (aCons (fVar 2) aNil)))) (fTru (fGx true (iAny (fFld 0 "signals" (fVar 0))) (gTuN 2 (gsCons (gNm 3) (gsCons (gNm 4) gsNil))) bYes (yB true (fBin opEqH (fVar 2) (fVar 4))) [3, 4]))) (fRet (fC (.bl false))) fNx)
  (fSeq (fFldS 0 "signals" (fVar 0) (fBin opAddY (fFld 0 "signals" (fVar 0)) (fTup (aCons (fTup (aCons (fVar 1) (aCons (fVar 2) aNil))) aNil))))
  (fRet (fC (.bl true))))))
def r_Layout_add_signal : List D → Hq → R D := runF 5 f_Layout_add_signal
theorem b_Layout_add_signal (Y : Yk K w mg C) (h_Layout_is_end : MetD P w K mg base (gg K C T) 1 C "_is_end" 2 r_Layout_is_end) (h_Layout_is_free : MetD P w K mg base (gg K C T) 3 C "_is_free" 2 r_Layout_is_free) {cd T0 : Addr} (tb : TabB base mg cd T0) (hP : T0 ∈ T) : BodyD P w K mg base (gg K C T) 3 ["self", "name", "end", "_", "taken"] "Layout.add_signal" (C8.fnScope s_Layout_add_signal) f (.ref cd) (C8.fnBody s_Layout_add_signal) f_Layout_add_signal := by
  intro A outer s H E hr
  have sc := sc_Layout_add_signal
  exact (sss_cons (ss_if (W.andB (sw_or (W.cmB op_ge (os_ci .ge) (W.len Y.b_len (W.ac (W.fl Y.cl_Layout Y.na_Layout_signals 0 (W.v 0)) W.an)) (W.gl Y.c_MOST_SIGNALS)) (sw_one2 (sb_not (W.tru (W.mt 0 h_Layout_is_free hr (W.v 0) (W.ac (W.v 1) W.an))))))) (sss_one (ss_ret se_bl)) sss_nil)
  (sss_cons (ss_if (W.andB (sw_or (sb_not (W.tru (W.mt 0 h_Layout_is_end hr (W.v 0) (W.ac (W.v 2) W.an)))) (sw_one2 (W.tru (W.any1 [("_", 3), ("taken", 4)] hP hr sc.nd Y.b_any tb (by rfl) ⟨rfl, by decide +kernel, rfl⟩ (blkOk_by (by rfl)) ((W.it (W.fl Y.cl_Layout Y.na_Layout_signals 0 (W.v 0)))) (fun _ _ _ _ _ _ _ rm => (W.tt 2 (W.tsc (W.tn 3 sc.nd) (W.tsc (W.tn 4 sc.nd) W.tsn)))) (fun _ _ _ _ _ _ _ rm => sif_nil) (fun _ _ _ _ _ _ _ rm => (W.eq (hu64 rm) (W.v 2) (W.v 4)))))))) (sss_one (ss_ret se_bl)) sss_nil)
  (sss_cons (W.fld Y.cl_Layout Y.na_Layout_signals 0 (W.v 0) (W.addY (W.fl Y.cl_Layout Y.na_Layout_signals 0 (W.v 0)) (se_tup (W.ac (se_tup (W.ac (W.v 1) (W.ac (W.v 2) W.an))) W.an))))
  (sss_one (ss_ret se_bl)))))
abbrev s_layout_text : Stmt := top 20
theorem sc_layout_text : FnScope ["layout", "rows", "name", "section", "link", "end"] ["layout"] (C8.fnScope s_layout_text) := C8.fnScope_by (by decide +kernel)
def f_layout_text : FS := (fSeq (fSet 1 (newCell (fLc (iAny (fFld 0 "sections" (fVar 0))) (gNm 2) bYes (fJs [(fC (.str "section ")), (fFmt (fVar 2))]) [2])))
  (fSeq (fAug 1 opIAddX (fLc (iAny (fFld 0 "points" (fVar 0))) (gTuN 2 (gsCons (gNm 2) (gsCons (gNm 3) gsNil))) bYes (fJs [(fC (.str "point ")), (fFmt (fVar 2)), (fC (.str " in ")), (fFmt (fVar 3))]) [2, 3]))
  (fSeq (fAug 1 opIAddX (fLc (iAny (fFld 0 "links" (fVar 0))) (gNm 4) bYes (fCall 1 r_link_row (aCons (fVar 4) aNil)) [4]))
  (fSeq (fAug 1 opIAddX (fLc (iAny (fFld 0 "signals" (fVar 0))) (gTuN 2 (gsCons (gNm 2) (gsCons (gNm 5) gsNil))) bYes (fJs [(fC (.str "signal ")), (fFmt (fVar 2)), (fC (.str " at ")), (fFmt (fCall 1 r_end_text (aCons (fVar 5) aNil)))]) [2, 5]))
  (fRet (fBm .str opJoin (fC (.str "\n")) (aCons (fVar 1) aNil)))))))
def r_layout_text : List D → Hq → R D := runF 6 f_layout_text
theorem b_layout_text (Y : Yk K w mg C) (h_end_text : CalD P w K mg base (gg K C T) 1 "end_text" 1 r_end_text) (h_link_row : CalD P w K mg base (gg K C T) 2 "_link_row" 1 r_link_row) : BodyD P w K mg base (gg K C T) 2 ["layout", "rows", "name", "section", "link", "end"] "layout_text" (C8.fnScope s_layout_text) f cdv (C8.fnBody s_layout_text) f_layout_text := by
  intro A outer s H E hr
  have sc := sc_layout_text
  exact (sss_cons (W.setLcC 1 [("name", 2)] sc.nd (W.it (W.fl Y.cl_Layout Y.na_Layout_sections 0 (W.v 0))) (blkOk_by (by rfl)) (fun _ _ _ _ _ => (W.tn 2 sc.nd)) (fun _ _ _ _ _ => sif_nil) (fun _ _ _ _ _ => (se_joined (.cons se_str (.cons (se_fmt (W.v 2)) .nil)))))
  (sss_cons (W.augX 1 sc.nd (SO.se (W.lc [("name", 2), ("section", 3)] sc.nd (W.it (W.fl Y.cl_Layout Y.na_Layout_points 0 (W.v 0))) (blkOk_by (by rfl)) (fun _ _ _ _ _ => (W.tt 2 (W.tsc (W.tn 2 sc.nd) (W.tsc (W.tn 3 sc.nd) W.tsn)))) (fun _ _ _ _ _ => sif_nil) (fun _ _ _ _ _ => (se_joined (.cons se_str (.cons (se_fmt (W.v 2)) (.cons se_str (.cons (se_fmt (W.v 3)) .nil)))))))))
  (sss_cons (W.augX 1 sc.nd (SO.se (W.lc [("link", 4)] sc.nd (W.it (W.fl Y.cl_Layout Y.na_Layout_links 0 (W.v 0))) (blkOk_by (by rfl)) (fun _ _ _ _ _ => (W.tn 4 sc.nd)) (fun _ _ _ _ _ => sif_nil) (fun _ _ _ _ _ => (W.call h_link_row hr (W.ac (W.v 4) W.an))))))
  (sss_cons (W.augX 1 sc.nd (SO.se (W.lc [("name", 2), ("end", 5)] sc.nd (W.it (W.fl Y.cl_Layout Y.na_Layout_signals 0 (W.v 0))) (blkOk_by (by rfl)) (fun _ _ _ _ _ => (W.tt 2 (W.tsc (W.tn 2 sc.nd) (W.tsc (W.tn 5 sc.nd) W.tsn)))) (fun _ _ _ _ _ => sif_nil) (fun _ _ _ _ _ => (se_joined (.cons se_str (.cons (se_fmt (W.v 2)) (.cons se_str (.cons (se_fmt (W.call h_end_text hr (W.ac (W.v 5) W.an))) .nil)))))))))
  (sss_one (ss_ret (W.join se_str (W.ac (W.v 1) W.an))))))))
abbrev s_take_row : Stmt := top 21
theorem sc_take_row : FnScope ["layout", "words", "name", "section", "one", "other", "rest", "wants", "end"] ["layout", "words"] (C8.fnScope s_take_row) := C8.fnScope_by (by decide +kernel)
def f_take_row : FS := (fMatch (fVar 1) (csCons (mSeq 2 (mCons (mVal "section") (mCons mCap mNil))) [2] (fRet (fMeth 0 "add_section" 2 r_Layout_add_section (fVar 0) (aCons (fVar 2) aNil)))
  (csCons (mSeq 4 (mCons (mVal "point") (mCons mCap (mCons (mVal "in") (mCons mCap mNil))))) [2, 3] (fRet (fMeth 0 "add_point" 3 r_Layout_add_point (fVar 0) (aCons (fVar 2) (aCons (fVar 3) aNil))))
  (csCons (mStar 3 (mCons (mVal "link") (mCons mCap (mCons mCap mLast)))) [4, 5, 6] (fSeq (fSet 7 (fCall 1 r_read_wants (aCons (fVar 6) aNil)))
  (fRet (fAnd (fBin opNotN (fVar 7) (fC .non)) (fMeth 0 "add_link" 4 r_Layout_add_link (fVar 0) (aCons (fCall 1 r_read_end (aCons (fVar 4) aNil)) (aCons (fCall 1 r_read_end (aCons (fVar 5) aNil)) (aCons (fVar 7) aNil)))))))
  (csCons (mSeq 4 (mCons (mVal "signal") (mCons mCap (mCons (mVal "at") (mCons mCap mNil))))) [2, 8] (fRet (fMeth 0 "add_signal" 3 r_Layout_add_signal (fVar 0) (aCons (fVar 2) (aCons (fCall 1 r_read_end (aCons (fVar 8) aNil)) aNil))))
  (csCons mWild [] (fRet (fC (.bl false)))
  csNil))))))
def r_take_row : List D → Hq → R D := runF 9 f_take_row
theorem b_take_row (Y : Yk K w mg C) (h_Layout_add_link : MetD P w K mg base (gg K C T) 5 C "add_link" 4 r_Layout_add_link) (h_Layout_add_point : MetD P w K mg base (gg K C T) 4 C "add_point" 3 r_Layout_add_point) (h_Layout_add_section : MetD P w K mg base (gg K C T) 4 C "add_section" 2 r_Layout_add_section) (h_Layout_add_signal : MetD P w K mg base (gg K C T) 4 C "add_signal" 3 r_Layout_add_signal) (h_read_end : CalD P w K mg base (gg K C T) 1 "read_end" 1 r_read_end) (h_read_wants : CalD P w K mg base (gg K C T) 1 "_read_wants" 1 r_read_wants) : BodyD P w K mg base (gg K C T) 5 ["layout", "words", "name", "section", "one", "other", "rest", "wants", "end"] "_take_row" (C8.fnScope s_take_row) f cdv (C8.fnBody s_take_row) f_take_row := by
  intro A outer s H E hr
  have sc := sc_take_row
  exact (sss_one (ss_match (W.v 1) (W.case_ sc.nd (W.pseq (sea_cons (W.pstr (hu64 hr)) (sea_cons (spt_cap 2) sea_nil))) (W.names_cons W.names_nil) (sss_one (ss_ret (W.mt 0 h_Layout_add_section hr (W.v 0) (W.ac (W.v 2) W.an))))
  (W.case_ sc.nd (W.pseq (sea_cons (W.pstr (hu64 hr)) (sea_cons (spt_cap 2) (sea_cons (W.pstr (hu64 hr)) (sea_cons (spt_cap 3) sea_nil))))) (W.names_cons (W.names_cons W.names_nil)) (sss_one (ss_ret (W.mt 0 h_Layout_add_point hr (W.v 0) (W.ac (W.v 2) (W.ac (W.v 3) W.an)))))
  (W.case_ sc.nd (W.pstar 3 (sea_cons (W.pstr (hu64 hr)) (sea_cons (spt_cap 4) (sea_cons (spt_cap 5) (sea_star 6))))) (W.names_cons (W.names_cons (W.names_cons W.names_nil))) (sss_cons (W.set 7 sc.nd (W.call h_read_wants hr (W.ac (W.v 6) W.an)))
  (sss_one (ss_ret (se_and (W.cm op_notN os_notN (W.v 7) se_non) (se_one (W.mt 0 h_Layout_add_link hr (W.v 0) (W.ac (W.call h_read_end hr (W.ac (W.v 4) W.an)) (W.ac (W.call h_read_end hr (W.ac (W.v 5) W.an)) (W.ac (W.v 7) W.an)))))))))
  (W.case_ sc.nd (W.pseq (sea_cons (W.pstr (hu64 hr)) (sea_cons (spt_cap 2) (sea_cons (W.pstr (hu64 hr)) (sea_cons (spt_cap 8) sea_nil))))) (W.names_cons (W.names_cons W.names_nil)) (sss_one (ss_ret (W.mt 0 h_Layout_add_signal hr (W.v 0) (W.ac (W.v 2) (W.ac (W.call h_read_end hr (W.ac (W.v 8) W.an)) W.an)))))
  (W.case_ sc.nd spt_wild W.names_nil (sss_one (ss_ret se_bl))
  scs_nil)))))))
abbrev s_read_layout : Stmt := top 19
theorem sc_read_layout : FnScope ["text", "layout", "reached", "at", "row", "words"] ["text"] (C8.fnScope s_read_layout) := C8.fnScope_by (by decide +kernel)
def f_read_layout : FS := (fSeq (fSet 1 (fMake 0 1 r_Layout_init aNil))
  (fSeq (fSet 2 (fC (.int 0)))
  (fSeq (fFor (iEn (aCons (fBm .str opSplit (fVar 0) (aCons (fC (.str "\n")) aNil)) aNil)) (gTuN 2 (gsCons (gNm 3) (gsCons (gNm 4) gsNil))) (fSeq (fSet 5 (fBm .str opSplit (fVar 4) (aCons (fC (.str " ")) aNil)))
  (fSeq (fIf (bOr (fAsB (fBin opNin (fBin opSub_ (fVar 5) (fC (.int 0))) (fSlA (fC d_SORTS) (oSo (fVar 2)) oNo))) (bNot (fTru (fCall 2 r_take_row (aCons (fVar 1) (aCons (fVar 5) aNil)))))) fNever fNx)
  (fSet 2 (fBm .tup opTIndex (fC d_SORTS) (aCons (fBin opSub_ (fVar 5) (fC (.int 0))) aNil))))))
  (fRet (fVar 1)))))
def r_read_layout : List D → Hq → R D := runF 6 f_read_layout
theorem b_read_layout (Y : Yk K w mg C) (h_Layout_init : MakD P w K mg base (gg K C T) 1 "Layout" C 1 r_Layout_init) (h_take_row : CalD P w K mg base (gg K C T) 6 "_take_row" 2 r_take_row) : BodyD P w K mg base (gg K C T) 6 ["text", "layout", "reached", "at", "row", "words"] "read_layout" (C8.fnScope s_read_layout) f cdv (C8.fnBody s_read_layout) f_read_layout := by
  intro A outer s H E hr
  have sc := sc_read_layout
  exact (sss_cons (W.set 1 sc.nd (W.mk0 0 h_Layout_init hr))
  (sss_cons (W.set 2 sc.nd se_int)
  (sss_cons (W.for_ PassesOwn.never (W.enu Y.b_enumerate (W.ac (SO.se (W.split (W.v 0) (W.ac se_str W.an))) W.an)) (W.tt 2 (W.tsc (W.tn 3 sc.nd) (W.tsc (W.tn 4 sc.nd) W.tsn))) (sss_cons (W.set 5 sc.nd (SO.se (W.split (W.v 4) (W.ac se_str W.an))))
  (sss_cons (ss_if (W.andB (sw_or (W.ninB (hu65 hr) (W.sub (hu1 hr) (W.v 5) se_int) (W.sl (W.gl Y.c_SORTS) (sp_so (W.v 2)) sp_no)) (sw_one2 (sb_not (W.tru (W.call h_take_row hr (W.ac (W.v 1) (W.ac (W.v 5) W.an)))))))) (sss_one ss_never) sss_nil)
  (sss_one (W.set 2 sc.nd (W.tindex (W.gl Y.c_SORTS) (W.ac (W.sub (hu1 hr) (W.v 5) se_int) W.an)))))))
  (sss_one (ss_ret (W.v 1))))))
abbrev s_law : Stmt := top 33
theorem sc_law : FnScope ["_law_script", "_law_row", "_law_text_here", "_law_layout", "_law_turn", "_law_found"] ["_law_script"] (C8.fnScope s_law) := C8.fnScope_by (by decide +kernel)
def f_law : FS := (fSeq (fSet 1 (newCell (fLst (aCons (fVar 0) (aCons (fC (.int 0)) (aCons (fC (.int 0)) (aCons (fC (.int 0)) aNil)))))))
  (fSeq (fSet 2 (fCall 1 r_law_text (aCons (fCall 1 r_law_station (aCons (fVar 1) aNil)) aNil)))
  (fSeq (fSet 3 (fCall 1 r_read_layout (aCons (fVar 2) aNil)))
  (fSeq (fFor (iR1 (aCons (fC (.int 2)) aNil)) (gNm 4) (fSeq (fSet 5 (fCall 1 r_layout_text (aCons (fVar 3) aNil)))
  (fSeq (fIf (bOr (bNot (fTru (fIsStr (fVar 5)))) (fAsB (fBin opNeH (fVar 5) (fVar 2)))) (fRet (fC (.bl false))) fNx)
  (fSet 3 (fCall 1 r_read_layout (aCons (fVar 5) aNil))))))
  (fRet (fC (.bl true)))))))
def r_law : List D → Hq → R D := runF 6 f_law
theorem b_law (Y : Yk K w mg C) (h_law_station : CalD P w K mg base (gg K C T) 3 "_law_station" 1 r_law_station) (h_law_text : CalD P w K mg base (gg K C T) 2 "_law_text" 1 r_law_text) (h_layout_text : CalD P w K mg base (gg K C T) 3 "layout_text" 1 r_layout_text) (h_read_layout : CalD P w K mg base (gg K C T) 7 "read_layout" 1 r_read_layout) : BodyD P w K mg base (gg K C T) 7 ["_law_script", "_law_row", "_law_text_here", "_law_layout", "_law_turn", "_law_found"] "law" (C8.fnScope s_law) f cdv (C8.fnBody s_law) f_law := by
  intro A outer s H E hr
  have sc := sc_law
  exact (sss_cons (W.set 1 sc.nd (SO.cell (so_lst (W.ac (W.v 0) (W.ac se_int (W.ac se_int (W.ac se_int W.an)))))))
  (sss_cons (W.set 2 sc.nd (W.call h_law_text hr (W.ac (W.call h_law_station hr (W.ac (W.v 1) W.an)) W.an)))
  (sss_cons (W.set 3 sc.nd (W.call h_read_layout hr (W.ac (W.v 2) W.an)))
  (sss_cons (W.for_ PassesOwn.never (W.rng1 Y.b_range (W.ac se_int W.an)) (W.tn 4 sc.nd) (sss_cons (W.set 5 sc.nd (W.call h_layout_text hr (W.ac (W.v 3) W.an)))
  (sss_cons (ss_if (W.andB (sw_or (sb_not (W.tru (W.isStr Y.b_isinstance Y.b_str (W.v 5)))) (sw_one2 (W.neB (hu64 hr) (W.v 5) (W.v 2))))) (sss_one (ss_ret se_bl)) sss_nil)
  (sss_one (W.set 3 sc.nd (W.call h_read_layout hr (W.ac (W.v 5) W.an)))))))
  (sss_one (ss_ret se_bl))))))
end
end Kx
end

section
set_option Elab.async false
set_option linter.all false
set_option maxRecDepth 100000
set_option maxHeartbeats 0
namespace Kx
open PySem PySem.Spec PyProof.Rows L2 GxR Gx Dy
def dd_is_name : He.DefD := ⟨("is_name", none), "is_name", "is_name", C8.fnArgs s_is_name, C8.fnBody s_is_name, C8.fnScope s_is_name, [], []⟩
def dd_share_end : He.DefD := ⟨("share_end", none), "share_end", "share_end", C8.fnArgs s_share_end, C8.fnBody s_share_end, C8.fnScope s_share_end, [], []⟩
def dd_told_apart : He.DefD := ⟨("told_apart", none), "told_apart", "told_apart", C8.fnArgs s_told_apart, C8.fnBody s_told_apart, C8.fnScope s_told_apart, [], []⟩
def dd_Layout_init : He.DefD := ⟨("Layout", some "__init__"), "__init__", "Layout.__init__", C8.fnArgs s_Layout_init, C8.fnBody s_Layout_init, C8.fnScope s_Layout_init, [], []⟩
def dd_Layout_is_free : He.DefD := ⟨("Layout", some "_is_free"), "_is_free", "Layout._is_free", C8.fnArgs s_Layout_is_free, C8.fnBody s_Layout_is_free, C8.fnScope s_Layout_is_free, [], []⟩
def dd_Layout_is_end : He.DefD := ⟨("Layout", some "_is_end"), "_is_end", "Layout._is_end", C8.fnArgs s_Layout_is_end, C8.fnBody s_Layout_is_end, C8.fnScope s_Layout_is_end, [], []⟩
def dd_Layout_may_join : He.DefD := ⟨("Layout", some "_may_join"), "_may_join", "Layout._may_join", C8.fnArgs s_Layout_may_join, C8.fnBody s_Layout_may_join, C8.fnScope s_Layout_may_join, [], []⟩
def dd_Layout_may_want : He.DefD := ⟨("Layout", some "_may_want"), "_may_want", "Layout._may_want", C8.fnArgs s_Layout_may_want, C8.fnBody s_Layout_may_want, C8.fnScope s_Layout_may_want, [], []⟩
def dd_Layout_is_alone : He.DefD := ⟨("Layout", some "_is_alone"), "_is_alone", "Layout._is_alone", C8.fnArgs s_Layout_is_alone, C8.fnBody s_Layout_is_alone, C8.fnScope s_Layout_is_alone, [], []⟩
def dd_read_end : He.DefD := ⟨("read_end", none), "read_end", "read_end", C8.fnArgs s_read_end, C8.fnBody s_read_end, C8.fnScope s_read_end, [], []⟩
def dd_read_wants : He.DefD := ⟨("_read_wants", none), "_read_wants", "_read_wants", C8.fnArgs s_read_wants, C8.fnBody s_read_wants, C8.fnScope s_read_wants, [], []⟩
def dd_end_text : He.DefD := ⟨("end_text", none), "end_text", "end_text", C8.fnArgs s_end_text, C8.fnBody s_end_text, C8.fnScope s_end_text, [], []⟩
def dd_link_row : He.DefD := ⟨("_link_row", none), "_link_row", "_link_row", C8.fnArgs s_link_row, C8.fnBody s_link_row, C8.fnScope s_link_row, [], []⟩
def dd_law_taken : He.DefD := ⟨("_law_taken", none), "_law_taken", "_law_taken", C8.fnArgs s_law_taken, C8.fnBody s_law_taken, C8.fnScope s_law_taken, [], []⟩
def dd_law_spread : He.DefD := ⟨("_law_spread", none), "_law_spread", "_law_spread", C8.fnArgs s_law_spread, C8.fnBody s_law_spread, C8.fnScope s_law_spread, [], []⟩
def dd_law_tracks : He.DefD := ⟨("_law_tracks", none), "_law_tracks", "_law_tracks", C8.fnArgs s_law_tracks, C8.fnBody s_law_tracks, C8.fnScope s_law_tracks, [], []⟩
def dd_law_station : He.DefD := ⟨("_law_station", none), "_law_station", "_law_station", C8.fnArgs s_law_station, C8.fnBody s_law_station, C8.fnScope s_law_station, [], []⟩
def dd_law_end_text : He.DefD := ⟨("_law_end_text", none), "_law_end_text", "_law_end_text", C8.fnArgs s_law_end_text, C8.fnBody s_law_end_text, C8.fnScope s_law_end_text, [], []⟩
def dd_law_text : He.DefD := ⟨("_law_text", none), "_law_text", "_law_text", C8.fnArgs s_law_text, C8.fnBody s_law_text, C8.fnScope s_law_text, [], []⟩
def dd_Layout_add_section : He.DefD := ⟨("Layout", some "add_section"), "add_section", "Layout.add_section", C8.fnArgs s_Layout_add_section, C8.fnBody s_Layout_add_section, C8.fnScope s_Layout_add_section, [], []⟩
def dd_Layout_add_point : He.DefD := ⟨("Layout", some "add_point"), "add_point", "Layout.add_point", C8.fnArgs s_Layout_add_point, C8.fnBody s_Layout_add_point, C8.fnScope s_Layout_add_point, [], []⟩
def dd_Layout_add_link : He.DefD := ⟨("Layout", some "add_link"), "add_link", "Layout.add_link", C8.fnArgs s_Layout_add_link, C8.fnBody s_Layout_add_link, C8.fnScope s_Layout_add_link, [], []⟩
def dd_Layout_add_signal : He.DefD := ⟨("Layout", some "add_signal"), "add_signal", "Layout.add_signal", C8.fnArgs s_Layout_add_signal, C8.fnBody s_Layout_add_signal, C8.fnScope s_Layout_add_signal, [], []⟩
def dd_layout_text : He.DefD := ⟨("layout_text", none), "layout_text", "layout_text", C8.fnArgs s_layout_text, C8.fnBody s_layout_text, C8.fnScope s_layout_text, [], []⟩
def dd_take_row : He.DefD := ⟨("_take_row", none), "_take_row", "_take_row", C8.fnArgs s_take_row, C8.fnBody s_take_row, C8.fnScope s_take_row, [], []⟩
def dd_read_layout : He.DefD := ⟨("read_layout", none), "read_layout", "read_layout", C8.fnArgs s_read_layout, C8.fnBody s_read_layout, C8.fnScope s_read_layout, [], []⟩
def dd_law : He.DefD := ⟨("law", none), "law", "law", C8.fnArgs s_law, C8.fnBody s_law, C8.fnScope s_law, [], []⟩
def fn_0 : List He.DefD := [dd_is_name, dd_share_end, dd_told_apart, dd_Layout_init, dd_Layout_is_free, dd_Layout_is_end, dd_Layout_may_join, dd_Layout_may_want, dd_Layout_is_alone, dd_read_end, dd_read_wants, dd_end_text, dd_link_row, dd_law_taken, dd_law_spread, dd_law_tracks, dd_law_station, dd_law_end_text, dd_law_text, dd_Layout_add_section, dd_Layout_add_point, dd_Layout_add_link, dd_Layout_add_signal, dd_layout_text, dd_take_row, dd_read_layout, dd_law]
def fn : List He.DefD := fn_0
def fa_0 : List He.Fa := [.free "all", .free "any", .free "dict", .free "enumerate", .free "isinstance", .free "len", .free "range", .free "set", .free "sorted", .free "str", .free "tuple", .int "MOST_SECTIONS"  30, .int "MOST_POINTS"  12, .int "MOST_LINKS"  60, .int "MOST_SIGNALS"  16, .int "LONGEST_NAME"  6, .str "NAME_SIGNS" "abcdefghijklmnopqrstuvwxyz0123456789", .glo "SIDES", .glo "LIES", .glo "SORTS", .glo "SIDE_OF", .glo "is_name", .glo "share_end", .glo "told_apart", .glo "read_end", .glo "_read_wants", .glo "end_text", .glo "_link_row", .glo "_law_taken", .glo "_law_spread"]
def fa_1 : List He.Fa := [.glo "_law_tracks", .glo "_law_station", .glo "_law_end_text", .glo "_law_text", .glo "layout_text", .glo "_take_row", .glo "read_layout", .glo "law", .glo "Layout", .cls "Layout", .mkr "Layout", .noat "Layout" "sections", .noat "Layout" "points", .noat "Layout" "links", .noat "Layout" "signals", .meth "Layout" "_is_free", .meth "Layout" "_is_end", .meth "Layout" "_may_join", .meth "Layout" "_may_want", .meth "Layout" "_is_alone", .meth "Layout" "add_section", .meth "Layout" "add_point", .meth "Layout" "add_link", .meth "Layout" "add_signal"]
def fa : List He.Fa := fa_0 ++ fa_1
def ts : List He.Tab := [(fun K => He.ga K "SIDE_OF", [".0", ".1"])]
def tf : List He.Defn := [("is_name", none), ("told_apart", none), ("Layout", some "_may_want"), ("Layout", some "_is_alone"), ("Layout", some "add_signal")]
def noLst (K : PySem.W.Frag) : Bool := K.all fun q => !(match q.2 with
  | ⟨.type c, none, .seq _ _, _⟩ => decide (c = "list")
  | _ => false)
def ex (K : PySem.W.Frag) : Bool := noLst K && (Dy.ktB K "SIDES" [.int 0, .int 1] && Dy.ktB K "LIES" [.str "n", .str "r"] && Dy.ktB K "SORTS" [.str "section", .str "point", .str "link", .str "signal"] && He.valsB K (He.ga K "SIDE_OF") [(".0", .int 0), (".1", .int 1)])
def rr : PySem.W.OpenRow := PySem.W.OpenLaw.row PySem.Challenge.rw_signalhouse_k03_stations_written_and_rea
abbrev hk : PySem.W.Hook := He.hookX 4 fa fn ts tf ex
def ob (s : PySem.W.SharedT) : He.AlX := He.obsX 4 fa fn ts tf ex (HandSHeadRun.getT s)
theorem ob_eq (s : PySem.W.SharedT) : ob s = hk.obs s.abs := He.obsX_eq (HandSHeadRun.getT_eq s)
abbrev qv : Program := PySem.W.view rr.prog [33]
def lo_0 : List PySem.Str := ["HouseError", "BadLayout", "MOST_SECTIONS", "MOST_POINTS", "MOST_LINKS", "MOST_SIGNALS", "LONGEST_NAME", "NAME_SIGNS", "SIDES", "LIES", "is_name", "share_end", "told_apart", "Layout", "SORTS", "SIDE_OF", "read_layout", "layout_text", "_take_row", "read_end", "_read_wants", "end_text", "_link_row", "_law_taken", "_law_spread", "_law_tracks", "_law_station", "_law_end_text", "_law_text"]
def lo : List PySem.Str := lo_0
end Kx
end

section
set_option Elab.async false
set_option linter.all false
set_option maxRecDepth 100000
set_option maxHeartbeats 0
namespace Kx
open PySem PySem.Spec PyProof.Rows L2 GxR Gx Dy
theorem run_false (w : World) : HandSHeadRun.RunEq rr qv hk ob 1700 lo (w.withFollow "special-get-raises" false) := by
  intro os
  kernel_rfl
theorem run_true (w : World) : HandSHeadRun.RunEq rr qv hk ob 1700 lo (w.withFollow "special-get-raises" true) := by
  intro os
  kernel_rfl
theorem run (w : World) : HandSHeadRun.RunEq rr qv hk ob 1700 lo w := PySem.W.byRow2 "special-get-raises" (P := fun w => HandSHeadRun.RunEq rr qv hk ob 1700 lo w) run_false run_true w
end Kx
end

section
set_option Elab.async false
set_option linter.all false
set_option maxRecDepth 100000
set_option maxHeartbeats 0
namespace Kx
open PySem PySem.Spec PyProof.Rows L2 GxR Gx Dy
section
variable {w : World} {K : PySem.W.Frag} {h : Heap} {mg : Str → Option Value}
theorem tab_SIDE_OF (X : K.In h) (G : h.Ns mainGlobals mg) (c : He.SaysX fa fn ts tf ex w h K) (e : He.valsB K (He.ga K "SIDE_OF") [(".0", .int 0), (".1", .int 1)] = true) : KTab K w mg "SIDE_OF" t_SIDE_OF := by
  refine Dy.kTab_of (ks := [".0", ".1"]) X (He.glo_ok X G (c.t.d.fact 20 (f := .glo "SIDE_OF") rfl)) (Dy.tab_at c.t 0) e (fun z dv hz => ?_) fun z hz hm => ?_
  · obtain ⟨kv, hk, rfl⟩ := Option.map_eq_some_iff.mp hz
    have hm := List.mem_of_find?_eq_some hk
    have e : kv.1 = z := of_decide_eq_true (List.find?_some (p := fun kv : Str × D => decide (kv.1 = z)) hk)
    simp only [t_SIDE_OF, List.mem_cons, List.not_mem_nil, or_false] at hm
    rcases hm with rfl | rfl
    · exact ⟨(".0", .int 0), by simp, e, fun _ _ => .int _⟩
    · exact ⟨(".1", .int 1), by simp, e, fun _ _ => .int _⟩
  · have hn := List.find?_eq_none.mp (Option.map_eq_none_iff.mp hz)
    simp only [List.mem_cons, List.not_mem_nil, or_false] at hm
    rcases hm with rfl | rfl
    · exact hn (".0", .int 0) (by simp [t_SIDE_OF]) (decide_eq_true rfl)
    · exact hn (".1", .int 1) (by simp [t_SIDE_OF]) (decide_eq_true rfl)
theorem yk (X : K.In h) (G : h.Ns mainGlobals mg) (c : He.SaysX fa fn ts tf ex w h K) : Yk K w mg (He.ga K "Layout") := by
  obtain ⟨_, m0⟩ := He.ba c.more
  obtain ⟨m1, e3⟩ := He.ba m0
  obtain ⟨m2, e2⟩ := He.ba m1
  obtain ⟨m3, e1⟩ := He.ba m2
  exact {
    b_all := (He.free_ok X G (c.t.d.fact 0 (f := .free "all") rfl))
    b_any := (He.free_ok X G (c.t.d.fact 1 (f := .free "any") rfl))
    b_dict := (He.free_ok X G (c.t.d.fact 2 (f := .free "dict") rfl))
    b_enumerate := (He.free_ok X G (c.t.d.fact 3 (f := .free "enumerate") rfl))
    b_isinstance := (He.free_ok X G (c.t.d.fact 4 (f := .free "isinstance") rfl))
    b_len := (He.free_ok X G (c.t.d.fact 5 (f := .free "len") rfl))
    b_range := (He.free_ok X G (c.t.d.fact 6 (f := .free "range") rfl))
    b_set := (He.free_ok X G (c.t.d.fact 7 (f := .free "set") rfl))
    b_sorted := (He.free_ok X G (c.t.d.fact 8 (f := .free "sorted") rfl))
    b_str := (He.free_ok X G (c.t.d.fact 9 (f := .free "str") rfl))
    b_tuple := (He.free_ok X G (c.t.d.fact 10 (f := .free "tuple") rfl))
    c_MOST_SECTIONS := let ⟨t, e⟩ := (He.int_ok X G (c.t.d.fact 11 (f := .int "MOST_SECTIONS"  30) rfl)); ⟨V.int  30, _, e, ⟨t, rfl⟩, fun _ _ => .int _⟩
    c_MOST_POINTS := let ⟨t, e⟩ := (He.int_ok X G (c.t.d.fact 12 (f := .int "MOST_POINTS"  12) rfl)); ⟨V.int  12, _, e, ⟨t, rfl⟩, fun _ _ => .int _⟩
    c_MOST_LINKS := let ⟨t, e⟩ := (He.int_ok X G (c.t.d.fact 13 (f := .int "MOST_LINKS"  60) rfl)); ⟨V.int  60, _, e, ⟨t, rfl⟩, fun _ _ => .int _⟩
    c_MOST_SIGNALS := let ⟨t, e⟩ := (He.int_ok X G (c.t.d.fact 14 (f := .int "MOST_SIGNALS"  16) rfl)); ⟨V.int  16, _, e, ⟨t, rfl⟩, fun _ _ => .int _⟩
    c_LONGEST_NAME := let ⟨t, e⟩ := (He.int_ok X G (c.t.d.fact 15 (f := .int "LONGEST_NAME"  6) rfl)); ⟨V.int  6, _, e, ⟨t, rfl⟩, fun _ _ => .int _⟩
    c_NAME_SIGNS := let ⟨t, e⟩ := (He.str_ok X G (c.t.d.fact 16 (f := .str "NAME_SIGNS" "abcdefghijklmnopqrstuvwxyz0123456789") rfl)); ⟨V.str "abcdefghijklmnopqrstuvwxyz0123456789", _, e, ⟨t, rfl⟩, fun _ _ => .str _⟩
    c_SIDES := ⟨V.ref (He.ga K "SIDES"), _, (He.glo_ok X G (c.t.d.fact 17 (f := .glo "SIDES") rfl)), rfl, fun _ _ => .kt (Dy.ktB_ok m3) (by repeat' constructor)⟩
    c_LIES := ⟨V.ref (He.ga K "LIES"), _, (He.glo_ok X G (c.t.d.fact 18 (f := .glo "LIES") rfl)), rfl, fun _ _ => .kt (Dy.ktB_ok e1) (by repeat' constructor)⟩
    c_SORTS := ⟨V.ref (He.ga K "SORTS"), _, (He.glo_ok X G (c.t.d.fact 19 (f := .glo "SORTS") rfl)), rfl, fun _ _ => .kt (Dy.ktB_ok e2) (by repeat' constructor)⟩
    t_SIDE_OF := tab_SIDE_OF X G c e3
    cl_Layout := He.cls_ok (c.t.d.fact 39 (f := .cls "Layout") rfl)
    na_Layout_sections := He.noat_ok (c.t.d.fact 41 (f := .noat "Layout" "sections") rfl)
    na_Layout_points := He.noat_ok (c.t.d.fact 42 (f := .noat "Layout" "points") rfl)
    na_Layout_links := He.noat_ok (c.t.d.fact 43 (f := .noat "Layout" "links") rfl)
    na_Layout_signals := He.noat_ok (c.t.d.fact 44 (f := .noat "Layout" "signals") rfl)
  }
theorem law_ok {P : Program} {base : Heap} (X : K.In h) (G : h.Ns mainGlobals mg) (c : He.SaysX fa fn ts tf ex w h K) (tbs : ∀ p ∈ tf, TabB base mg (He.cT K p).1 (He.cT K p).2) {fd : FuncData} (FL : FunD K "law" "law" (C8.fnArgs s_law) (C8.fnBody s_law) (C8.fnScope s_law) [] [] (He.ga K "law") fd) :
    FnOk P w K mg base C8.CX0 8 (He.ga K "law") fd ["_law_script"] (spL (gg K (He.ga K "Layout") (tf.map fun p => (He.cT K p).2)) r_law) := by
  have Y := yk X G c
  have hT : ∀ p ∈ tf, (He.cT K p).2 ∈ (tf.map fun p => (He.cT K p).2) := fun p hp => List.mem_map.mpr ⟨p, hp, rfl⟩
  obtain ⟨fd_is_name, F_is_name⟩ := c.t.d.def_ 0 (d := dd_is_name) rfl
  have F_is_name : FunD K "is_name" "is_name" (C8.fnArgs s_is_name) (C8.fnBody s_is_name) (C8.fnScope s_is_name) [] [] (He.fAd K ("is_name", none)) fd_is_name := F_is_name
  have k_is_name : CalD P w K mg base (gg K (He.ga K "Layout") (tf.map fun p => (He.cT K p).2)) 2 "is_name" 1 r_is_name := ⟨_, fd_is_name, ["text"], [], fnDt (pt := ("is_name", none)) F_is_name sc_is_name 1 rfl (b_is_name Y  (tbs ("is_name", none) (by decide)) (hT ("is_name", none) (by decide))), (He.glo_ok X G (c.t.d.fact 21 (f := .glo "is_name") rfl)), F_is_name.kp, (F_is_name.bindsN fun _ _ _ _ _ _ us hl => match us, hl with | [_], _ => rfl), .nil⟩
  obtain ⟨fd_share_end, F_share_end⟩ := c.t.d.def_ 1 (d := dd_share_end) rfl
  have F_share_end : FunD K "share_end" "share_end" (C8.fnArgs s_share_end) (C8.fnBody s_share_end) (C8.fnScope s_share_end) [] [] (He.fAd K ("share_end", none)) fd_share_end := F_share_end
  have k_share_end : CalD P w K mg base (gg K (He.ga K "Layout") (tf.map fun p => (He.cT K p).2)) 1 "share_end" 2 r_share_end := ⟨_, fd_share_end, ["link", "other"], [], fnD F_share_end sc_share_end 2 rfl fun cdv => b_share_end Y , (He.glo_ok X G (c.t.d.fact 22 (f := .glo "share_end") rfl)), F_share_end.kp, (F_share_end.bindsN fun _ _ _ _ _ _ us hl => match us, hl with | [_, _], _ => rfl), .nil⟩
  obtain ⟨fd_told_apart, F_told_apart⟩ := c.t.d.def_ 2 (d := dd_told_apart) rfl
  have F_told_apart : FunD K "told_apart" "told_apart" (C8.fnArgs s_told_apart) (C8.fnBody s_told_apart) (C8.fnScope s_told_apart) [] [] (He.fAd K ("told_apart", none)) fd_told_apart := F_told_apart
  have k_told_apart : CalD P w K mg base (gg K (He.ga K "Layout") (tf.map fun p => (He.cT K p).2)) 2 "told_apart" 2 r_told_apart := ⟨_, fd_told_apart, ["link", "other"], [], fnDt (pt := ("told_apart", none)) F_told_apart sc_told_apart 2 rfl (b_told_apart Y  (tbs ("told_apart", none) (by decide)) (hT ("told_apart", none) (by decide))), (He.glo_ok X G (c.t.d.fact 23 (f := .glo "told_apart") rfl)), F_told_apart.kp, (F_told_apart.bindsN fun _ _ _ _ _ _ us hl => match us, hl with | [_, _], _ => rfl), .nil⟩
  obtain ⟨fd_Layout_init, F_Layout_init⟩ := c.t.d.def_ 3 (d := dd_Layout_init) rfl
  have F_Layout_init : FunD K "__init__" "Layout.__init__" (C8.fnArgs s_Layout_init) (C8.fnBody s_Layout_init) (C8.fnScope s_Layout_init) [] [] (He.fAd K ("Layout", some "__init__")) fd_Layout_init := F_Layout_init
  have k_Layout_init : MakD P w K mg base (gg K (He.ga K "Layout") (tf.map fun p => (He.cT K p).2)) 1 "Layout" (He.ga K "Layout") 1 r_Layout_init := ⟨_, fd_Layout_init, ["self"], [], (He.mkr_ok (c.t.d.fact 40 (f := .mkr "Layout") rfl)), fnD F_Layout_init sc_Layout_init 1 rfl fun cdv => b_Layout_init Y , (He.glo_ok X G (c.t.d.fact 38 (f := .glo "Layout") rfl)), (F_Layout_init.bindsN fun _ _ _ _ _ _ us hl => match us, hl with | [_], _ => rfl), .nil⟩
  obtain ⟨fd_Layout_is_free, F_Layout_is_free⟩ := c.t.d.def_ 4 (d := dd_Layout_is_free) rfl
  have F_Layout_is_free : FunD K "_is_free" "Layout._is_free" (C8.fnArgs s_Layout_is_free) (C8.fnBody s_Layout_is_free) (C8.fnScope s_Layout_is_free) [] [] (He.fAd K ("Layout", some "_is_free")) fd_Layout_is_free := F_Layout_is_free
  have k_Layout_is_free : MetD P w K mg base (gg K (He.ga K "Layout") (tf.map fun p => (He.cT K p).2)) 3 (He.ga K "Layout") "_is_free" 2 r_Layout_is_free := ⟨_, fd_Layout_is_free, ["self", "name"], [], Y.cl_Layout, (He.meth_ok (c.t.d.fact 45 (f := .meth "Layout" "_is_free") rfl)), fnD F_Layout_is_free sc_Layout_is_free 2 rfl fun cdv => b_Layout_is_free Y k_is_name, (F_Layout_is_free.bindsN fun _ _ _ _ _ _ us hl => match us, hl with | [_, _], _ => rfl), .nil⟩
  obtain ⟨fd_Layout_is_end, F_Layout_is_end⟩ := c.t.d.def_ 5 (d := dd_Layout_is_end) rfl
  have F_Layout_is_end : FunD K "_is_end" "Layout._is_end" (C8.fnArgs s_Layout_is_end) (C8.fnBody s_Layout_is_end) (C8.fnScope s_Layout_is_end) [] [] (He.fAd K ("Layout", some "_is_end")) fd_Layout_is_end := F_Layout_is_end
  have k_Layout_is_end : MetD P w K mg base (gg K (He.ga K "Layout") (tf.map fun p => (He.cT K p).2)) 1 (He.ga K "Layout") "_is_end" 2 r_Layout_is_end := ⟨_, fd_Layout_is_end, ["self", "end"], [], Y.cl_Layout, (He.meth_ok (c.t.d.fact 46 (f := .meth "Layout" "_is_end") rfl)), fnD F_Layout_is_end sc_Layout_is_end 2 rfl fun cdv => b_Layout_is_end Y , (F_Layout_is_end.bindsN fun _ _ _ _ _ _ us hl => match us, hl with | [_, _], _ => rfl), .nil⟩
  obtain ⟨fd_Layout_may_join, F_Layout_may_join⟩ := c.t.d.def_ 6 (d := dd_Layout_may_join) rfl
  have F_Layout_may_join : FunD K "_may_join" "Layout._may_join" (C8.fnArgs s_Layout_may_join) (C8.fnBody s_Layout_may_join) (C8.fnScope s_Layout_may_join) [] [] (He.fAd K ("Layout", some "_may_join")) fd_Layout_may_join := F_Layout_may_join
  have k_Layout_may_join : MetD P w K mg base (gg K (He.ga K "Layout") (tf.map fun p => (He.cT K p).2)) 2 (He.ga K "Layout") "_may_join" 3 r_Layout_may_join := ⟨_, fd_Layout_may_join, ["self", "one", "other"], [], Y.cl_Layout, (He.meth_ok (c.t.d.fact 47 (f := .meth "Layout" "_may_join") rfl)), fnD F_Layout_may_join sc_Layout_may_join 3 rfl fun cdv => b_Layout_may_join Y k_Layout_is_end, (F_Layout_may_join.bindsN fun _ _ _ _ _ _ us hl => match us, hl with | [_, _, _], _ => rfl), .nil⟩
  obtain ⟨fd_Layout_may_want, F_Layout_may_want⟩ := c.t.d.def_ 7 (d := dd_Layout_may_want) rfl
  have F_Layout_may_want : FunD K "_may_want" "Layout._may_want" (C8.fnArgs s_Layout_may_want) (C8.fnBody s_Layout_may_want) (C8.fnScope s_Layout_may_want) [] [] (He.fAd K ("Layout", some "_may_want")) fd_Layout_may_want := F_Layout_may_want
  have k_Layout_may_want : MetD P w K mg base (gg K (He.ga K "Layout") (tf.map fun p => (He.cT K p).2)) 2 (He.ga K "Layout") "_may_want" 2 r_Layout_may_want := ⟨_, fd_Layout_may_want, ["self", "link"], [], Y.cl_Layout, (He.meth_ok (c.t.d.fact 48 (f := .meth "Layout" "_may_want") rfl)), fnDt (pt := ("Layout", some "_may_want")) F_Layout_may_want sc_Layout_may_want 2 rfl (b_Layout_may_want Y  (tbs ("Layout", some "_may_want") (by decide)) (hT ("Layout", some "_may_want") (by decide))), (F_Layout_may_want.bindsN fun _ _ _ _ _ _ us hl => match us, hl with | [_, _], _ => rfl), .nil⟩
  obtain ⟨fd_Layout_is_alone, F_Layout_is_alone⟩ := c.t.d.def_ 8 (d := dd_Layout_is_alone) rfl
  have F_Layout_is_alone : FunD K "_is_alone" "Layout._is_alone" (C8.fnArgs s_Layout_is_alone) (C8.fnBody s_Layout_is_alone) (C8.fnScope s_Layout_is_alone) [] [] (He.fAd K ("Layout", some "_is_alone")) fd_Layout_is_alone := F_Layout_is_alone
  have k_Layout_is_alone : MetD P w K mg base (gg K (He.ga K "Layout") (tf.map fun p => (He.cT K p).2)) 4 (He.ga K "Layout") "_is_alone" 2 r_Layout_is_alone := ⟨_, fd_Layout_is_alone, ["self", "link"], [], Y.cl_Layout, (He.meth_ok (c.t.d.fact 49 (f := .meth "Layout" "_is_alone") rfl)), fnDt (pt := ("Layout", some "_is_alone")) F_Layout_is_alone sc_Layout_is_alone 2 rfl (b_Layout_is_alone Y k_share_end k_told_apart (tbs ("Layout", some "_is_alone") (by decide)) (hT ("Layout", some "_is_alone") (by decide))), (F_Layout_is_alone.bindsN fun _ _ _ _ _ _ us hl => match us, hl with | [_, _], _ => rfl), .nil⟩
  obtain ⟨fd_read_end, F_read_end⟩ := c.t.d.def_ 9 (d := dd_read_end) rfl
  have F_read_end : FunD K "read_end" "read_end" (C8.fnArgs s_read_end) (C8.fnBody s_read_end) (C8.fnScope s_read_end) [] [] (He.fAd K ("read_end", none)) fd_read_end := F_read_end
  have k_read_end : CalD P w K mg base (gg K (He.ga K "Layout") (tf.map fun p => (He.cT K p).2)) 1 "read_end" 1 r_read_end := ⟨_, fd_read_end, ["word"], [], fnD F_read_end sc_read_end 1 rfl fun cdv => b_read_end Y , (He.glo_ok X G (c.t.d.fact 24 (f := .glo "read_end") rfl)), F_read_end.kp, (F_read_end.bindsN fun _ _ _ _ _ _ us hl => match us, hl with | [_], _ => rfl), .nil⟩
  obtain ⟨fd_read_wants, F_read_wants⟩ := c.t.d.def_ 10 (d := dd_read_wants) rfl
  have F_read_wants : FunD K "_read_wants" "_read_wants" (C8.fnArgs s_read_wants) (C8.fnBody s_read_wants) (C8.fnScope s_read_wants) [] [] (He.fAd K ("_read_wants", none)) fd_read_wants := F_read_wants
  have k_read_wants : CalD P w K mg base (gg K (He.ga K "Layout") (tf.map fun p => (He.cT K p).2)) 1 "_read_wants" 1 r_read_wants := ⟨_, fd_read_wants, ["words"], [], fnD F_read_wants sc_read_wants 1 rfl fun cdv => b_read_wants Y , (He.glo_ok X G (c.t.d.fact 25 (f := .glo "_read_wants") rfl)), F_read_wants.kp, (F_read_wants.bindsN fun _ _ _ _ _ _ us hl => match us, hl with | [_], _ => rfl), .nil⟩
  obtain ⟨fd_end_text, F_end_text⟩ := c.t.d.def_ 11 (d := dd_end_text) rfl
  have F_end_text : FunD K "end_text" "end_text" (C8.fnArgs s_end_text) (C8.fnBody s_end_text) (C8.fnScope s_end_text) [] [] (He.fAd K ("end_text", none)) fd_end_text := F_end_text
  have k_end_text : CalD P w K mg base (gg K (He.ga K "Layout") (tf.map fun p => (He.cT K p).2)) 1 "end_text" 1 r_end_text := ⟨_, fd_end_text, ["end"], [], fnD F_end_text sc_end_text 1 rfl fun cdv => b_end_text Y , (He.glo_ok X G (c.t.d.fact 26 (f := .glo "end_text") rfl)), F_end_text.kp, (F_end_text.bindsN fun _ _ _ _ _ _ us hl => match us, hl with | [_], _ => rfl), .nil⟩
  obtain ⟨fd_link_row, F_link_row⟩ := c.t.d.def_ 12 (d := dd_link_row) rfl
  have F_link_row : FunD K "_link_row" "_link_row" (C8.fnArgs s_link_row) (C8.fnBody s_link_row) (C8.fnScope s_link_row) [] [] (He.fAd K ("_link_row", none)) fd_link_row := F_link_row
  have k_link_row : CalD P w K mg base (gg K (He.ga K "Layout") (tf.map fun p => (He.cT K p).2)) 2 "_link_row" 1 r_link_row := ⟨_, fd_link_row, ["link"], [], fnD F_link_row sc_link_row 1 rfl fun cdv => b_link_row Y k_end_text, (He.glo_ok X G (c.t.d.fact 27 (f := .glo "_link_row") rfl)), F_link_row.kp, (F_link_row.bindsN fun _ _ _ _ _ _ us hl => match us, hl with | [_], _ => rfl), .nil⟩
  obtain ⟨fd_law_taken, F_law_taken⟩ := c.t.d.def_ 13 (d := dd_law_taken) rfl
  have F_law_taken : FunD K "_law_taken" "_law_taken" (C8.fnArgs s_law_taken) (C8.fnBody s_law_taken) (C8.fnScope s_law_taken) [] [] (He.fAd K ("_law_taken", none)) fd_law_taken := F_law_taken
  have k_law_taken : CalD P w K mg base (gg K (He.ga K "Layout") (tf.map fun p => (He.cT K p).2)) 1 "_law_taken" 2 r_law_taken := ⟨_, fd_law_taken, ["_law_row", "_law_many"], [], fnD F_law_taken sc_law_taken 2 rfl fun cdv => b_law_taken Y , (He.glo_ok X G (c.t.d.fact 28 (f := .glo "_law_taken") rfl)), F_law_taken.kp, (F_law_taken.bindsN fun _ _ _ _ _ _ us hl => match us, hl with | [_, _], _ => rfl), .nil⟩
  obtain ⟨fd_law_spread, F_law_spread⟩ := c.t.d.def_ 14 (d := dd_law_spread) rfl
  have F_law_spread : FunD K "_law_spread" "_law_spread" (C8.fnArgs s_law_spread) (C8.fnBody s_law_spread) (C8.fnScope s_law_spread) [] [] (He.fAd K ("_law_spread", none)) fd_law_spread := F_law_spread
  have k_law_spread : CalD P w K mg base (gg K (He.ga K "Layout") (tf.map fun p => (He.cT K p).2)) 2 "_law_spread" 4 r_law_spread := ⟨_, fd_law_spread, ["_law_row", "_law_st", "_law_one", "_law_others"], [], fnD F_law_spread sc_law_spread 4 rfl fun cdv => b_law_spread Y k_law_taken, (He.glo_ok X G (c.t.d.fact 29 (f := .glo "_law_spread") rfl)), F_law_spread.kp, (F_law_spread.bindsN fun _ _ _ _ _ _ us hl => match us, hl with | [_, _, _, _], _ => rfl), .nil⟩
  obtain ⟨fd_law_tracks, F_law_tracks⟩ := c.t.d.def_ 15 (d := dd_law_tracks) rfl
  have F_law_tracks : FunD K "_law_tracks" "_law_tracks" (C8.fnArgs s_law_tracks) (C8.fnBody s_law_tracks) (C8.fnScope s_law_tracks) [] [] (He.fAd K ("_law_tracks", none)) fd_law_tracks := F_law_tracks
  have k_law_tracks : CalD P w K mg base (gg K (He.ga K "Layout") (tf.map fun p => (He.cT K p).2)) 2 "_law_tracks" 1 r_law_tracks := ⟨_, fd_law_tracks, ["_law_row"], [], fnD F_law_tracks sc_law_tracks 1 rfl fun cdv => b_law_tracks Y k_law_taken, (He.glo_ok X G (c.t.d.fact 30 (f := .glo "_law_tracks") rfl)), F_law_tracks.kp, (F_law_tracks.bindsN fun _ _ _ _ _ _ us hl => match us, hl with | [_], _ => rfl), .nil⟩
  obtain ⟨fd_law_station, F_law_station⟩ := c.t.d.def_ 16 (d := dd_law_station) rfl
  have F_law_station : FunD K "_law_station" "_law_station" (C8.fnArgs s_law_station) (C8.fnBody s_law_station) (C8.fnScope s_law_station) [] [] (He.fAd K ("_law_station", none)) fd_law_station := F_law_station
  have k_law_station : CalD P w K mg base (gg K (He.ga K "Layout") (tf.map fun p => (He.cT K p).2)) 3 "_law_station" 1 r_law_station := ⟨_, fd_law_station, ["_law_row"], [], fnD F_law_station sc_law_station 1 rfl fun cdv => b_law_station Y k_law_spread k_law_taken k_law_tracks, (He.glo_ok X G (c.t.d.fact 31 (f := .glo "_law_station") rfl)), F_law_station.kp, (F_law_station.bindsN fun _ _ _ _ _ _ us hl => match us, hl with | [_], _ => rfl), .nil⟩
  obtain ⟨fd_law_end_text, F_law_end_text⟩ := c.t.d.def_ 17 (d := dd_law_end_text) rfl
  have F_law_end_text : FunD K "_law_end_text" "_law_end_text" (C8.fnArgs s_law_end_text) (C8.fnBody s_law_end_text) (C8.fnScope s_law_end_text) [] [] (He.fAd K ("_law_end_text", none)) fd_law_end_text := F_law_end_text
  have k_law_end_text : CalD P w K mg base (gg K (He.ga K "Layout") (tf.map fun p => (He.cT K p).2)) 1 "_law_end_text" 1 r_law_end_text := ⟨_, fd_law_end_text, ["_law_end"], [], fnD F_law_end_text sc_law_end_text 1 rfl fun cdv => b_law_end_text Y , (He.glo_ok X G (c.t.d.fact 32 (f := .glo "_law_end_text") rfl)), F_law_end_text.kp, (F_law_end_text.bindsN fun _ _ _ _ _ _ us hl => match us, hl with | [_], _ => rfl), .nil⟩
  obtain ⟨fd_law_text, F_law_text⟩ := c.t.d.def_ 18 (d := dd_law_text) rfl
  have F_law_text : FunD K "_law_text" "_law_text" (C8.fnArgs s_law_text) (C8.fnBody s_law_text) (C8.fnScope s_law_text) [] [] (He.fAd K ("_law_text", none)) fd_law_text := F_law_text
  have k_law_text : CalD P w K mg base (gg K (He.ga K "Layout") (tf.map fun p => (He.cT K p).2)) 2 "_law_text" 1 r_law_text := ⟨_, fd_law_text, ["_law_st"], [], fnD F_law_text sc_law_text 1 rfl fun cdv => b_law_text Y k_law_end_text, (He.glo_ok X G (c.t.d.fact 33 (f := .glo "_law_text") rfl)), F_law_text.kp, (F_law_text.bindsN fun _ _ _ _ _ _ us hl => match us, hl with | [_], _ => rfl), .nil⟩
  obtain ⟨fd_Layout_add_section, F_Layout_add_section⟩ := c.t.d.def_ 19 (d := dd_Layout_add_section) rfl
  have F_Layout_add_section : FunD K "add_section" "Layout.add_section" (C8.fnArgs s_Layout_add_section) (C8.fnBody s_Layout_add_section) (C8.fnScope s_Layout_add_section) [] [] (He.fAd K ("Layout", some "add_section")) fd_Layout_add_section := F_Layout_add_section
  have k_Layout_add_section : MetD P w K mg base (gg K (He.ga K "Layout") (tf.map fun p => (He.cT K p).2)) 4 (He.ga K "Layout") "add_section" 2 r_Layout_add_section := ⟨_, fd_Layout_add_section, ["self", "name"], [], Y.cl_Layout, (He.meth_ok (c.t.d.fact 50 (f := .meth "Layout" "add_section") rfl)), fnD F_Layout_add_section sc_Layout_add_section 2 rfl fun cdv => b_Layout_add_section Y k_Layout_is_free, (F_Layout_add_section.bindsN fun _ _ _ _ _ _ us hl => match us, hl with | [_, _], _ => rfl), .nil⟩
  obtain ⟨fd_Layout_add_point, F_Layout_add_point⟩ := c.t.d.def_ 20 (d := dd_Layout_add_point) rfl
  have F_Layout_add_point : FunD K "add_point" "Layout.add_point" (C8.fnArgs s_Layout_add_point) (C8.fnBody s_Layout_add_point) (C8.fnScope s_Layout_add_point) [] [] (He.fAd K ("Layout", some "add_point")) fd_Layout_add_point := F_Layout_add_point
  have k_Layout_add_point : MetD P w K mg base (gg K (He.ga K "Layout") (tf.map fun p => (He.cT K p).2)) 4 (He.ga K "Layout") "add_point" 3 r_Layout_add_point := ⟨_, fd_Layout_add_point, ["self", "name", "section"], [], Y.cl_Layout, (He.meth_ok (c.t.d.fact 51 (f := .meth "Layout" "add_point") rfl)), fnD F_Layout_add_point sc_Layout_add_point 3 rfl fun cdv => b_Layout_add_point Y k_Layout_is_free, (F_Layout_add_point.bindsN fun _ _ _ _ _ _ us hl => match us, hl with | [_, _, _], _ => rfl), .nil⟩
  obtain ⟨fd_Layout_add_link, F_Layout_add_link⟩ := c.t.d.def_ 21 (d := dd_Layout_add_link) rfl
  have F_Layout_add_link : FunD K "add_link" "Layout.add_link" (C8.fnArgs s_Layout_add_link) (C8.fnBody s_Layout_add_link) (C8.fnScope s_Layout_add_link) [] [] (He.fAd K ("Layout", some "add_link")) fd_Layout_add_link := F_Layout_add_link
  have k_Layout_add_link : MetD P w K mg base (gg K (He.ga K "Layout") (tf.map fun p => (He.cT K p).2)) 5 (He.ga K "Layout") "add_link" 4 r_Layout_add_link := ⟨_, fd_Layout_add_link, ["self", "one", "other", "wants"], [], Y.cl_Layout, (He.meth_ok (c.t.d.fact 52 (f := .meth "Layout" "add_link") rfl)), fnD F_Layout_add_link sc_Layout_add_link 4 rfl fun cdv => b_Layout_add_link Y k_Layout_is_alone k_Layout_may_join k_Layout_may_want, (F_Layout_add_link.bindsN fun _ _ _ _ _ _ us hl => match us, hl with | [_, _, _, _], _ => rfl), .nil⟩
  obtain ⟨fd_Layout_add_signal, F_Layout_add_signal⟩ := c.t.d.def_ 22 (d := dd_Layout_add_signal) rfl
  have F_Layout_add_signal : FunD K "add_signal" "Layout.add_signal" (C8.fnArgs s_Layout_add_signal) (C8.fnBody s_Layout_add_signal) (C8.fnScope s_Layout_add_signal) [] [] (He.fAd K ("Layout", some "add_signal")) fd_Layout_add_signal := F_Layout_add_signal
  have k_Layout_add_signal : MetD P w K mg base (gg K (He.ga K "Layout") (tf.map fun p => (He.cT K p).2)) 4 (He.ga K "Layout") "add_signal" 3 r_Layout_add_signal := ⟨_, fd_Layout_add_signal, ["self", "name", "end"], [], Y.cl_Layout, (He.meth_ok (c.t.d.fact 53 (f := .meth "Layout" "add_signal") rfl)), fnDt (pt := ("Layout", some "add_signal")) F_Layout_add_signal sc_Layout_add_signal 3 rfl (b_Layout_add_signal Y k_Layout_is_end k_Layout_is_free (tbs ("Layout", some "add_signal") (by decide)) (hT ("Layout", some "add_signal") (by decide))), (F_Layout_add_signal.bindsN fun _ _ _ _ _ _ us hl => match us, hl with | [_, _, _], _ => rfl), .nil⟩
  obtain ⟨fd_layout_text, F_layout_text⟩ := c.t.d.def_ 23 (d := dd_layout_text) rfl
  have F_layout_text : FunD K "layout_text" "layout_text" (C8.fnArgs s_layout_text) (C8.fnBody s_layout_text) (C8.fnScope s_layout_text) [] [] (He.fAd K ("layout_text", none)) fd_layout_text := F_layout_text
  have k_layout_text : CalD P w K mg base (gg K (He.ga K "Layout") (tf.map fun p => (He.cT K p).2)) 3 "layout_text" 1 r_layout_text := ⟨_, fd_layout_text, ["layout"], [], fnD F_layout_text sc_layout_text 1 rfl fun cdv => b_layout_text Y k_end_text k_link_row, (He.glo_ok X G (c.t.d.fact 34 (f := .glo "layout_text") rfl)), F_layout_text.kp, (F_layout_text.bindsN fun _ _ _ _ _ _ us hl => match us, hl with | [_], _ => rfl), .nil⟩
  obtain ⟨fd_take_row, F_take_row⟩ := c.t.d.def_ 24 (d := dd_take_row) rfl
  have F_take_row : FunD K "_take_row" "_take_row" (C8.fnArgs s_take_row) (C8.fnBody s_take_row) (C8.fnScope s_take_row) [] [] (He.fAd K ("_take_row", none)) fd_take_row := F_take_row
  have k_take_row : CalD P w K mg base (gg K (He.ga K "Layout") (tf.map fun p => (He.cT K p).2)) 6 "_take_row" 2 r_take_row := ⟨_, fd_take_row, ["layout", "words"], [], fnD F_take_row sc_take_row 2 rfl fun cdv => b_take_row Y k_Layout_add_link k_Layout_add_point k_Layout_add_section k_Layout_add_signal k_read_end k_read_wants, (He.glo_ok X G (c.t.d.fact 35 (f := .glo "_take_row") rfl)), F_take_row.kp, (F_take_row.bindsN fun _ _ _ _ _ _ us hl => match us, hl with | [_, _], _ => rfl), .nil⟩
  obtain ⟨fd_read_layout, F_read_layout⟩ := c.t.d.def_ 25 (d := dd_read_layout) rfl
  have F_read_layout : FunD K "read_layout" "read_layout" (C8.fnArgs s_read_layout) (C8.fnBody s_read_layout) (C8.fnScope s_read_layout) [] [] (He.fAd K ("read_layout", none)) fd_read_layout := F_read_layout
  have k_read_layout : CalD P w K mg base (gg K (He.ga K "Layout") (tf.map fun p => (He.cT K p).2)) 7 "read_layout" 1 r_read_layout := ⟨_, fd_read_layout, ["text"], [], fnD F_read_layout sc_read_layout 1 rfl fun cdv => b_read_layout Y k_Layout_init k_take_row, (He.glo_ok X G (c.t.d.fact 36 (f := .glo "read_layout") rfl)), F_read_layout.kp, (F_read_layout.bindsN fun _ _ _ _ _ _ us hl => match us, hl with | [_], _ => rfl), .nil⟩
  exact fnDL FL sc_law rfl fun cdv => b_law Y k_law_station k_law_text k_layout_text k_read_layout
end
theorem no_list {K : PySem.W.Frag} (h : noLst K = true) {a : Addr} {o : Obj} {its : Array Value} {n : Nat} (lk : K.lookup a = some o) (h1 : o.cls = .type "list") (h2 : o.dict = none) (h3 : o.data = .seq its n) : False := by
  have z := List.all_eq_true.mp h _ (He.lookup_mem lk)
  obtain ⟨oc, od, dt, sl⟩ := o
  cases h1; cases h2; cases h3
  exact absurd (show (!(decide (("list" : String) = "list"))) = true from z) (by decide)
/-- the law's own run: what is left -/
def LawRuns : Prop := ∀ ns : List Int, ns.length ≤ 63 → (∀ z ∈ ns, Builtin.Int.intBits z ≤ 1048576) → ∃ hq, r_law [.lst (ns.map D.int)] [] = .ok (.bl true) hq
theorem rvs_ints {K : PySem.W.Frag} {al : List Addr} {H : Hp} : ∀ ns : List Int, Rvs K al H (ns.map D.int) (ns.map V.int)
  | [] => .nil
  | i :: r => .cons (.int i) (rvs_ints r)
theorem starts (L : LawRuns) {K : PySem.W.Frag} {C : Addr} (nl : noLst K = true) (H : Hp) (a : Addr) (ns : List Int) (h1 : ns.length ≤ 63) (h2 : ∀ z ∈ ns, Builtin.Int.intBits z ≤ 1048576) (hT : ∀ p ∈ tf.map (He.cT K), H p.2 = some (.tbl #[])) (hS : SqL K H a (ns.map V.int)) :
    spL (gg K C (tf.map fun p => (He.cT K p).2)) r_law [.ref a] H (fun v _ => v = .bl true) fun _ _ _ => False := by
  obtain ⟨hq, e⟩ := L ns h1 h2
  have tab : ∀ P ∈ tf.map (fun p => (He.cT K p).2), H P = some (.tbl #[]) := fun P hP => by
    obtain ⟨p, hp, rfl⟩ := List.mem_map.mp hP
    exact hT _ (List.mem_map.mpr ⟨p, hp, rfl⟩)
  have go : ∀ H : Hp, (∀ P ∈ tf.map (fun p => (He.cT K p).2), H P = some (.tbl #[])) → FzL [] H a (ns.map V.int) → spOf (gg K C (tf.map fun p => (He.cT K p).2)) 1 r_law [.ref a] H (fun v _ => v = .bl true) (fun _ _ _ => False) := fun H tab z => by
    refine ⟨[], [], [.lst (ns.map D.int)], ⟨rfl, List.nodup_nil, fun n c h => (by cases h), fun P hP => ⟨#[], tab P hP, trivial⟩⟩, .cons (.lst z (rvs_ints ns)) .nil, rfl, ?_⟩
    show Then _ _ _ (r_law [.lst (ns.map D.int)] []) _
    rw [e]
    intro al' v H' _ _ rv
    cases rv
    rfl
  refine ⟨a, ns.map V.int, rfl, ?_⟩
  rcases hS with (hl | ⟨o, hf⟩) | ⟨o, its, n, lk, c1, c2, c3, _⟩
  · refine .inr ⟨hl, fun od => go _ (fun P hP => ?_) ⟨od, if_pos rfl, by simp⟩⟩
    have t := tab P hP
    refine (if_neg fun z => ?_).trans t
    rw [z, hl] at t
    cases t
  · exact .inl (go H tab ⟨o, hf, by simp⟩)
  · exact (no_list nl lk c1 c2 c3).elim
end Kx
open PySem PySem.W PySem.Calls PyProof.Rows
theorem Kx.holds (L : Kx.LawRuns) : PySem.Challenge.rw_signalhouse_k03_stations_written_and_rea.Holds := by
  w_on; o_law
  refine HandSHeadRun.head_any (r := OpenLaw.row PySem.Challenge.rw_signalhouse_k03_stations_written_and_rea) (q := Kx.qv) (H := Kx.hk) (ob := Kx.ob) (M := 1700) (loose := Kx.lo) (d := HandSHeadRun.topDef (OpenLaw.row PySem.Challenge.rw_signalhouse_k03_stations_written_and_rea).prog 33) (kwd := []) Kx.ob_eq
    (by kernel_rfl) (fun s => by kernel_rfl) Kx.run (by kernel_rfl) (by kernel_rfl) (by kernel_rfl) (by rfl) (by first | assumption | decide +kernel) (by decide +kernel) ⟨rfl, rfl, rfl, rfl, rfl, by decide +kernel⟩ ?hw ?hc
  case hw => w_witness2
  case hc =>
    refine LamX.walk_ofTsE (l := PySem.Challenge.rw_signalhouse_k03_stations_written_and_rea) (n := 63) (k := 8) (x := "_law_script") (CX := fun _ => C8.CX0) rfl (by decide) (by kernel_rfl) ⟨rfl, by decide, by decide⟩ ?F (fun _ _ _ _ _ z => z)
    intro w mg fa h Y G hmg0
    obtain ⟨K, KX, c⟩ := Y
    have hmg : mg ("law" : PySem.Str) = some (.ref fa) := by
      have e : (HandSHeadRun.topDef (OpenLaw.row PySem.Challenge.rw_signalhouse_k03_stations_written_and_rea).prog 33).name = ("law" : PySem.Str) := by kernel_rfl
      rw [← e]
      exact hmg0
    have e := hmg.symm.trans (He.glo_ok KX G (c.t.d.fact 37 (f := .glo "law") rfl))
    cases e
    obtain ⟨fd, F⟩ := c.t.d.def_ 26 (d := Kx.dd_law) rfl
    have b := L2.FunD.bindsA (ps := ["_law_script"]) F fun _ _ _ _ _ _ us hl => match us, hl with | [_], _ => rfl
    refine ⟨K, KX, fd, Kx.tf.map (He.cT K), Dy.spL (Kx.gg K (He.ga K "Layout") (Kx.tf.map fun p => (He.cT K p).2)) Kx.r_law, ?_, ?_, ?_, fun s v => b s [v] rfl, fun H a ns h1 h2 h3 h4 => Kx.starts L (He.ba c.more).1 H a ns h1 h2 h3 h4, fun base _ _ tb => Kx.law_ok KX G c (fun p hp => ?_) F⟩
    · intro p hp
      obtain ⟨q, hq, rfl⟩ := List.mem_map.mp hp
      exact c.empty q hq
    · intro p hp
      obtain ⟨q, hq, rfl⟩ := List.mem_map.mp hp
      exact c.out q hq
    · intro p hp
      obtain ⟨q, hq, rfl⟩ := List.mem_map.mp hp
      exact PySem.W.codeHd_of_K KX (c.hd q hq)
    · obtain ⟨h1, h2, h3⟩ := tb _ (List.mem_map.mpr ⟨p, hp, rfl⟩)
      exact ⟨h1, h2, h3⟩
end

section
set_option linter.all false
set_option maxRecDepth 100000
set_option maxHeartbeats 400000
/-! Ev1: how own functions run, row by row. -/
namespace Dy
open PySem PySem.Spec PyProof.Rows L2 GxR Gx
section
variable {α β : Type} {a : α} {h h1 h2 : Hq} {sl sl1 : List Sl} {d x y : D} {xs : List D} {fe fa fb : FE} {fs : FI} {F F2 : FS} {fb' : FT} {b : Bool} {i n : Nat} {o : D → D → Hq → R D}
theorem R.bind_ok {f : α → Hq → R β} : (R.ok a h).bind f = f a h := rfl
theorem R.toS_ok {f : α → Hq → RS} : (R.ok a h).toS f = f a h := rfl
theorem ev_seq (e : F sl h = .nx sl1 h1) : fSeq F F2 sl h = F2 sl1 h1 := by unfold fSeq; rw [e]
theorem ev_seqR (e : F sl h = .rt d h1) : fSeq F F2 sl h = .rt d h1 := by unfold fSeq; rw [e]
theorem ev_ret (e : fe sl h = .ok d h1) : fRet fe sl h = .rt d h1 := by unfold fRet; rw [e]; rfl
theorem ev_set (e : fe sl h = .ok d h1) : fSet i fe sl h = .nx (sl.set i (.va d)) h1 := by unfold fSet; rw [e]; rfl
theorem ev_if (e : fb' sl h = .ok b h1) : fIf fb' F F2 sl h = if b = true then F sl h1 else F2 sl h1 := by unfold fIf; rw [e]; rfl
theorem ev_ifT (e : fb' sl h = .ok true h1) : fIf fb' F F2 sl h = F sl h1 := ev_if e
theorem ev_ifF (e : fb' sl h = .ok false h1) : fIf fb' F F2 sl h = F2 sl h1 := (ev_if e).trans (if_neg (by decide))
theorem ev_asB (e : fe sl h = .ok (.bl b) h1) : fAsB fe sl h = .ok b h1 := by unfold fAsB; rw [e]; rfl
theorem ev_var (e : sl[i]? = some (.va d)) : fVar i sl h = .ok d h := by unfold fVar; rw [e]
theorem ev_bin (ea : fa sl h = .ok x h1) (eb : fb sl h1 = .ok y h2) : fBin o fa fb sl h = o x y h2 := by unfold fBin; rw [ea, R.bind_ok, eb]; rfl
theorem ev_nil : aNil sl h = .ok [] h := rfl
theorem ev_cons (ea : fa sl h = .ok x h1) (es : fs sl h1 = .ok xs h2) : aCons fa fs sl h = .ok (x :: xs) h2 := by unfold aCons; rw [ea, R.bind_ok, es]; rfl
theorem ev_cb {o : List D → Hq → R D} (e : fs sl h = .ok xs h1) : fCb o fs sl h = o xs h1 := by unfold fCb; rw [e]; rfl
theorem ev_call {r : List D → Hq → R D} (e : fs sl h = .ok xs h1) (hn : xs.length = n) : fCall n r fs sl h = r xs h1 := by unfold fCall; rw [e, R.bind_ok, if_pos hn]
theorem run_rt {ds : List D} (e : F (ds.map .va ++ List.replicate (n - ds.length) .no) h = .rt d h1) : runF n F ds h = .ok d h1 := by unfold runF; rw [e]
theorem run_nx {ds : List D} (e : F (ds.map .va ++ List.replicate (n - ds.length) .no) h = .nx sl1 h1) : runF n F ds h = .ok .non h1 := by unfold runF; rw [e]
theorem ev_asg {ft : D → Option Bs} {bs : Bs} (e : fe sl h = .ok d h1) (e2 : ft d = some bs) : fAsg fe ft sl h = .nx (sets sl bs) h1 := by unfold fAsg; rw [e, R.toS_ok, e2]
theorem ev_fmtS {s : Str} (e : fe sl h = .ok (.str s) h1) (hs : s.length ≤ LIM) : fFmt fe sl h = .ok (.str s) h1 := by unfold fFmt; rw [e, R.bind_ok]; exact if_pos hs
theorem ev_fmtI {i : Int} (e : fe sl h = .ok (.int i) h1) (hi : i.natAbs < 1000) : fFmt fe sl h = .ok (.str (toString i)) h1 := by
  unfold fFmt; rw [e, R.bind_ok]
  exact if_pos (Nat.lt_of_lt_of_le hi (Nat.le_trans (by decide : 1000 ≤ 2 ^ 10) (Nat.pow_le_pow_right (by decide) (by decide))))
theorem ev_jnil {acc : Str} : jGo [] acc sl h = .ok (.str acc) h := rfl
theorem ev_jcons {f : FE} {fs : List FE} {acc y : Str} (e : f sl h = .ok (.str y) h1) (hl : (acc ++ y).length ≤ LIM) : jGo (f :: fs) acc sl h = jGo fs (acc ++ y) sl h1 := by
  have z : jGo (f :: fs) acc sl h = (f sl h).bind fun d h1 => match d with
    | .str y => if (acc ++ y).length ≤ LIM then jGo fs (acc ++ y) sl h1 else .st
    | _ => .st := rfl
  rw [z, e, R.bind_ok]; exact if_pos hl
end
end Dy
namespace Kx
open PySem PySem.Spec PyProof.Rows L2 GxR Gx Dy

/-- an end as the law has it -/
def dEnd (e : Str × Nat) : D := .tup [.str e.1, .int e.2]
def tEnd (e : Str × Nat) : Str := e.1 ++ "." ++ toString (e.2 : Int)
theorem idx_t2_0 {a b : D} {h : Hq} : opSub_ (.tup [a, b]) (.int 0) h = .ok a h := rfl
theorem idx_t2_1 {a b : D} {h : Hq} : opSub_ (.tup [a, b]) (.int 1) h = .ok b h := rfl
end Kx
end

section
set_option linter.all false
set_option maxRecDepth 100000
set_option maxHeartbeats 400000
/-! Ev2: ends written. -/
namespace Kx
open PySem PySem.Spec PyProof.Rows L2 GxR Gx Dy
theorem slen (a b : Str) : (a ++ b).length = a.length + b.length := by
  show (a.cps ++ b.cps).size = _
  exact Array.size_append
def sideT (i : Nat) : Str := PySem.Str.ofString (toString (i : Int))
theorem sideT_len {i : Nat} (h : i < 2) : (sideT i).length = 1 := by
  match i, h with
  | 0, _ => decide +kernel
  | 1, _ => decide +kernel
theorem dot_len : (PySem.Str.ofString ".").length = 1 := by decide +kernel
theorem e_end_text (e : Str × Nat) (h : Hq) (h1 : e.1.length ≤ 1000) (h2 : e.2 < 2) : r_end_text [dEnd e] h = .ok (.str (tEnd e)) h := by
  have l2 := sideT_len h2
  have l1 : LIM = 16777216 := rfl
  have d1 := dot_len
  refine run_rt ?_
  rw [f_end_text]
  rw [ev_seq (ev_asg (bs := [(1, .str e.1), (2, .int e.2)]) (ev_var rfl) rfl)]
  refine ev_ret ?_
  unfold fJs
  have le : (Str.empty ++ e.1).length = e.1.length := by rw [slen]; show 0 + _ = _; omega
  rw [ev_jcons (y := e.1) (ev_fmtS (ev_var rfl) (by omega)) (by omega), ev_jcons (y := PySem.Str.ofString ".") rfl (by rw [slen]; omega),
    ev_jcons (y := sideT e.2) (ev_fmtI (i := (e.2 : Int)) (ev_var rfl) (by omega)) (by rw [slen, slen]; omega)]
  have z : Str.empty ++ e.1 = e.1 := by
    show (⟨#[] ++ e.1.cps⟩ : Str) = _
    rw [Array.empty_append]
  rw [z]
  rfl
end Kx
namespace Kx
open PySem PySem.Spec PyProof.Rows L2 GxR Gx Dy
theorem add_str {a b : Str} {h : Hq} (hl : (a ++ b).length ≤ LIM) : opAddY (.str a) (.str b) h = .ok (.str (a ++ b)) h := by
  show opAddX (.str a) (.str b) h = _
  show opAdd (.str a) (.str b) h = _
  rw [slen] at hl
  exact if_pos hl
theorem add_int {a b : Int} {h : Hq} : opAddY (.int a) (.int b) h = .ok (.int (a + b)) h := rfl
theorem str_int {i : Int} {h : Hq} (hi : i.natAbs < 1000) : opStr [.int i] h = .ok (.str (toString i)) h := by
  unfold opStr
  exact if_pos (Nat.lt_of_lt_of_le hi (Nat.le_trans (by decide : 1000 ≤ 2 ^ 10) (Nat.pow_le_pow_right (by decide) (by decide))))
theorem e_law_end_text (e : Str × Nat) (h : Hq) (h1 : e.1.length ≤ 1000) (h2 : e.2 < 2) : r_law_end_text [dEnd e] h = .ok (.str (tEnd e)) h := by
  have l2 := sideT_len h2
  have l1 : LIM = 16777216 := rfl
  have d1 := dot_len
  refine run_rt ?_
  rw [f_law_end_text]
  refine ev_ret ?_
  have a1 : fBin opAddY (fBin opSub_ (fVar 0) (fC (.int 0))) (fC (.str ".")) ([dEnd e].map .va ++ List.replicate (1 - 1) .no) h = .ok (.str (e.1 ++ ".")) h :=
    (ev_bin (x := .str e.1) (h1 := h) (y := .str ".") (h2 := h) rfl rfl).trans (add_str (by rw [slen]; omega))
  refine (ev_bin (x := .str (e.1 ++ ".")) (h1 := h) (y := .str (sideT e.2)) (h2 := h) a1 ?_).trans (add_str (by rw [slen, slen]; omega))
  exact (ev_cb (xs := [.int (e.2 : Int)]) (h1 := h) rfl).trans (str_int (by omega))
end Kx
end

section
set_option linter.all false
set_option maxRecDepth 100000
set_option maxHeartbeats 400000
/-! Ev3: _law_taken. -/
namespace Kx
open PySem PySem.Spec PyProof.Rows L2 GxR Gx Dy
/-- the law's row: the script, how many are used up, the draw, what is left of a great number -/
def rowC (ns : List Int) (k z w : Int) : C := .lst [.lst (ns.map .int), .int k, .int z, .int w]
def RowOk (ns : List Int) (h : Hq) (r : Nat) : Prop := ∃ k z w, h[r]? = some (rowC ns k z w) ∧ 0 ≤ k ∧ 0 ≤ z ∧ z < 2147483647
theorem sub_cell {h : Hq} {r : Nat} {ds : List D} {i : Int} {d : D} (e : h[r]? = some (.lst ds)) (a : atI ds i = some d) : opSub_ (.ref r) (.int i) h = .ok d h := by
  have e1 : rdC h r = some (.lst ds) := by
    unfold rdC
    rw [e]
    rfl
  have e2 : dictD h (.ref r) = false := by simp [dictD, e1]
  have e3 : items h (.ref r) = some ds := by simp [items, litems, titems, e1]
  simp [opSub_, e2, opIdx, e3, a]
theorem sub_lst {h : Hq} {ds : List D} {i : Int} {d : D} (a : atI ds i = some d) : opSub_ (.lst ds) (.int i) h = .ok d h := by
  simp [opSub_, dictD, opIdx, items, a]
theorem put_cell {h : Hq} {r j : Nat} {ds : List D} {k : Int} {y : D} {sl : List Sl} {fo fi fv : FE} (hv : fv sl h = .ok y h) (ho : fo sl h = .ok (.ref r) h) (hi : fi sl h = .ok (.int k) h) (e : h[r]? = some (.lst ds)) (a : ixN ds.length k = some j) :
    fPut fo fi fv sl h = .nx sl (h.set r (.lst (ds.set j y))) := by
  unfold fPut
  rw [hv, R.toS_ok, ho, R.toS_ok, hi, R.toS_ok]
  simp only [e, a]
theorem set_at {h : Hq} {r : Nat} {c c' : C} (e : h[r]? = some c) : (h.set r c')[r]? = some c' := by
  obtain ⟨hr, _⟩ := List.getElem?_eq_some_iff.mp e
  rw [List.getElem?_set_self hr]
theorem mod_int {i j : Int} {h : Hq} (hj : 0 < j) : opMod (.int i) (.int j) h = .ok (.int (i % j)) h := if_pos hj
theorem div_int {i j : Int} {h : Hq} (hj : 0 < j) (h2 : j < 2 ^ 64) : opDiv (.int i) (.int j) h = .ok (.int (i / j)) h := if_pos ⟨hj, h2⟩
theorem mul_int {i j : Int} {h : Hq} (h1 : -(2 ^ 64) < j) (h2 : j < 2 ^ 64) : opMulX (.int i) (.int j) h = .ok (.int (i * j)) h := if_pos (.inr ⟨h1, h2⟩)
theorem ev_ifN {fb' : FT} {F : FS} {sl : List Sl} {h h1 : Hq} (e : fb' sl h = .ok false h1) : fIf fb' F fNx sl h = .nx sl h1 := ev_ifF e
theorem taken_ok {ns : List Int} {h : Hq} {r : Nat} {m : Int} (ok : RowOk ns h r) (hm : 0 < m) (hm2 : m < 2 ^ 64) :
    ∃ t c, r_law_taken [.ref r, .int m] h = .ok (.int t) (h.set r c) ∧ 0 ≤ t ∧ t < m ∧ RowOk ns (h.set r c) r := by
  obtain ⟨k, z, w, e, hk, hz, hz2⟩ := ok
  have i3 : opSub_ (.ref r) (.int 3) h = .ok (.int w) h := sub_cell e rfl
  by_cases hw : 0 < w
  · refine ⟨w % m, rowC ns k z (w / m), run_rt ?_, Int.emod_nonneg _ (by omega), Int.emod_lt_of_pos _ hm, k, z, w / m, set_at e, hk, hz, hz2⟩
    rw [f_law_taken]
    refine ev_seqR ?_
    have c0 : fAsB (fBin (opCI .gt) (fBin opSub_ (fVar 0) (fC (.int 3))) (fC (.int 0))) ([D.ref r, .int m].map .va ++ List.replicate (4 - 2) .no) h = .ok true h := by
      refine ev_asB ((ev_bin (x := .int w) (h1 := h) (y := .int 0) (h2 := h) ((ev_bin (x := .ref r) (h1 := h) (y := .int 3) (h2 := h) rfl rfl).trans i3) rfl).trans ?_)
      show R.ok (D.bl (decide (w > 0))) h = _
      rw [decide_eq_true hw]
    refine (ev_ifT c0).trans ?_
    rw [ev_seq (ev_set (d := .int (w % m)) (h1 := h) ((ev_bin (x := .int w) (h1 := h) (y := .int m) (h2 := h) ((ev_bin (x := .ref r) (h1 := h) (y := .int 3) (h2 := h) rfl rfl).trans i3) rfl).trans (mod_int hm)))]
    rw [ev_seq (put_cell (j := 3) (k := 3) (r := r) (y := .int (w / m)) ((ev_bin (x := .int w) (h1 := h) (y := .int m) (h2 := h) ((ev_bin (x := .ref r) (h1 := h) (y := .int 3) (h2 := h) rfl rfl).trans i3) rfl).trans (div_int hm hm2)) rfl rfl e rfl)]
    exact ev_ret rfl
  · have c0 : ∀ sl : List Sl, sl[0]? = some (.va (.ref r)) → fAsB (fBin (opCI .gt) (fBin opSub_ (fVar 0) (fC (.int 3))) (fC (.int 0))) sl h = .ok false h := fun sl hs => by
      refine ev_asB ((ev_bin (x := .int w) (h1 := h) (y := .int 0) (h2 := h) ((ev_bin (x := .ref r) (h1 := h) (y := .int 3) (h2 := h) (ev_var hs) rfl).trans i3) rfl).trans ?_)
      show R.ok (D.bl (decide (w > 0))) h = _
      rw [decide_eq_false hw]
    have i1 : opSub_ (.ref r) (.int 1) h = .ok (.int k) h := sub_cell e rfl
    let h1 := h.set r (rowC ns (k + 1) z w)
    have e1 : h1[r]? = some (rowC ns (k + 1) z w) := set_at e
    have f0 : opSub_ (.ref r) (.int 0) h1 = .ok (.lst (ns.map .int)) h1 := sub_cell e1 rfl
    have f1 : opSub_ (.ref r) (.int 1) h1 = .ok (.int (k + 1)) h1 := sub_cell e1 rfl
    have f2 : opSub_ (.ref r) (.int 2) h1 = .ok (.int z) h1 := sub_cell e1 rfl
    have ct : fAsB (fBin (opCI .gt) (fBin opSub_ (fVar 0) (fC (.int 1))) (fCb opLen (aCons (fBin opSub_ (fVar 0) (fC (.int 0))) aNil))) ([D.ref r, .int m].map .va ++ List.replicate (4 - 2) .no) h1 = .ok (decide (k + 1 > (ns.length : Int))) h1 := by
      refine ev_asB ((ev_bin (x := .int (k + 1)) (h1 := h1) (y := .int ns.length) (h2 := h1) ((ev_bin (x := .ref r) (h1 := h1) (y := .int 1) (h2 := h1) rfl rfl).trans f1) ?_).trans rfl)
      refine (ev_cb (xs := [.lst (ns.map .int)]) (h1 := h1) (ev_cons ((ev_bin (x := .ref r) (h1 := h1) (y := .int 0) (h2 := h1) rfl rfl).trans f0) rfl)).trans ?_
      show R.ok (D.int ((ns.map D.int).length : Int)) h1 = _
      rw [List.length_map]
    have go : ∀ F : FS, fSeq (fPut (fVar 0) (fC (.int 1)) (fBin opAddY (fBin opSub_ (fVar 0) (fC (.int 1))) (fC (.int 1)))) F ([D.ref r, .int m].map .va ++ List.replicate (4 - 2) .no) h = F ([D.ref r, .int m].map .va ++ List.replicate (4 - 2) .no) h1 := fun F =>
      ev_seq (put_cell (j := 1) (k := 1) (r := r) (y := .int (k + 1)) ((ev_bin (x := .int k) (h1 := h) (y := .int 1) (h2 := h) ((ev_bin (x := .ref r) (h1 := h) (y := .int 1) (h2 := h) rfl rfl).trans i1) rfl).trans add_int) rfl rfl e rfl)
    by_cases hk1 : k + 1 > (ns.length : Int)
    · have z0 := Int.emod_nonneg (z * 48271 + 11) (show (2147483647 : Int) ≠ 0 by decide)
      have z1 := Int.emod_lt_of_pos (z * 48271 + 11) (show (0 : Int) < 2147483647 by decide)
      have es : h1.set r (rowC ns (k + 1) ((z * 48271 + 11) % 2147483647) w) = h.set r (rowC ns (k + 1) ((z * 48271 + 11) % 2147483647) w) := List.set_set ..
      refine ⟨(z * 48271 + 11) % 2147483647 / 7 % m, rowC ns (k + 1) ((z * 48271 + 11) % 2147483647) w, run_rt ?_, Int.emod_nonneg _ (by omega), Int.emod_lt_of_pos _ hm, k + 1, _, w, set_at e, by omega, z0, z1⟩
      rw [f_law_taken]
      refine (ev_seq (ev_ifN (c0 _ rfl))).trans ((go _).trans ?_)
      refine ev_seqR ?_
      refine (ev_ifT (by rw [← decide_eq_true hk1]; exact ct)).trans ?_
      have q : fBin opMod (fBin opAddY (fBin opMulX (fBin opSub_ (fVar 0) (fC (.int 2))) (fC (.int 48271))) (fC (.int 11))) (fC (.int 2147483647)) ([D.ref r, .int m].map .va ++ List.replicate (4 - 2) .no) h1 = .ok (.int ((z * 48271 + 11) % 2147483647)) h1 := by
        refine (ev_bin (x := .int (z * 48271 + 11)) (h1 := h1) (y := .int 2147483647) (h2 := h1) ?_ rfl).trans (mod_int (by decide))
        refine (ev_bin (x := .int (z * 48271)) (h1 := h1) (y := .int 11) (h2 := h1) ?_ rfl).trans add_int
        refine (ev_bin (x := .int z) (h1 := h1) (y := .int 48271) (h2 := h1) ?_ rfl).trans (mul_int (by decide) (by decide))
        exact (ev_bin (x := .ref r) (h1 := h1) (y := .int 2) (h2 := h1) rfl rfl).trans f2
      refine (ev_seq (put_cell (j := 2) (k := 2) (r := r) q rfl rfl e1 rfl)).trans ?_
      have g2 : opSub_ (.ref r) (.int 2) (h1.set r (rowC ns (k + 1) ((z * 48271 + 11) % 2147483647) w)) = .ok (.int ((z * 48271 + 11) % 2147483647)) (h1.set r (rowC ns (k + 1) ((z * 48271 + 11) % 2147483647) w)) := sub_cell (set_at e1) rfl
      show fRet _ _ (h1.set r (rowC ns (k + 1) ((z * 48271 + 11) % 2147483647) w)) = _
      rw [es] at g2 ⊢
      refine ev_ret ((ev_bin (x := .int ((z * 48271 + 11) % 2147483647 / 7)) (y := .int m) ?_ rfl).trans (mod_int hm))
      exact (ev_bin (x := .int ((z * 48271 + 11) % 2147483647)) (y := .int 7) ((ev_bin (x := .ref r) (y := .int 2) rfl rfl).trans g2) rfl).trans (div_int (by decide) (by decide))
    · have hlt : k.toNat < ns.length := by omega
      have at_ : atI (ns.map D.int) (k + 1 - 1) = some (.int ns[k.toNat]) := by
        have e0 : k + 1 - 1 = k := by omega
        rw [e0]
        unfold atI ixN
        rw [if_pos hk, if_pos (by rw [List.length_map]; omega)]
        simp [hlt]
      generalize ns[k.toNat] = c at at_
      have z0 := Int.emod_nonneg (z * 48271 + c + 11) (show (2147483647 : Int) ≠ 0 by decide)
      have z1 := Int.emod_lt_of_pos (z * 48271 + c + 11) (show (0 : Int) < 2147483647 by decide)
      let S : List Sl := [.va (.ref r), .va (.int m), .no, .va (.int c)]
      have q3 : fBin opSub_ (fBin opSub_ (fVar 0) (fC (.int 0))) (fBin opSub (fBin opSub_ (fVar 0) (fC (.int 1))) (fC (.int 1))) ([D.ref r, .int m].map .va ++ List.replicate (4 - 2) .no) h1 = .ok (.int c) h1 := by
        refine (ev_bin (x := .lst (ns.map .int)) (h1 := h1) (y := .int (k + 1 - 1)) (h2 := h1) ((ev_bin (x := .ref r) (h1 := h1) (y := .int 0) (h2 := h1) rfl rfl).trans f0) ?_).trans (sub_lst at_)
        exact (ev_bin (x := .int (k + 1)) (h1 := h1) (y := .int 1) (h2 := h1) ((ev_bin (x := .ref r) (h1 := h1) (y := .int 1) (h2 := h1) rfl rfl).trans f1) rfl).trans rfl
      have q2 : fBin opMod (fBin opAddY (fBin opAddY (fBin opMulX (fBin opSub_ (fVar 0) (fC (.int 2))) (fC (.int 48271))) (fVar 3)) (fC (.int 11))) (fC (.int 2147483647)) S h1 = .ok (.int ((z * 48271 + c + 11) % 2147483647)) h1 := by
        refine (ev_bin (x := .int (z * 48271 + c + 11)) (h1 := h1) (y := .int 2147483647) (h2 := h1) ?_ rfl).trans (mod_int (by decide))
        refine (ev_bin (x := .int (z * 48271 + c)) (h1 := h1) (y := .int 11) (h2 := h1) ?_ rfl).trans add_int
        refine (ev_bin (x := .int (z * 48271)) (h1 := h1) (y := .int c) (h2 := h1) ?_ rfl).trans add_int
        refine (ev_bin (x := .int z) (h1 := h1) (y := .int 48271) (h2 := h1) ?_ rfl).trans (mul_int (by decide) (by decide))
        exact (ev_bin (x := .ref r) (h1 := h1) (y := .int 2) (h2 := h1) rfl rfl).trans f2
      generalize (z * 48271 + c + 11) % 2147483647 = z2 at z0 z1 q2
      let h2 := h1.set r (rowC ns (k + 1) z2 w)
      have e2 : h2[r]? = some (rowC ns (k + 1) z2 w) := set_at e1
      have cg : fAsB (fBin (opCI .ge) (fVar 3) (fBin opPow (fC (.int 10)) (fC (.int 18)))) S h2 = .ok (decide (c ≥ 10 ^ 18)) h2 :=
        ev_asB ((ev_bin (x := .int c) (h1 := h2) (y := .int (10 ^ 18)) (h2 := h2) rfl rfl).trans rfl)
      have pre : f_law_taken ([D.ref r, .int m].map .va ++ List.replicate (4 - 2) .no) h = (fSeq (fIf (fAsB (fBin (opCI .ge) (fVar 3) (fBin opPow (fC (.int 10)) (fC (.int 18))))) (fPut (fVar 0) (fC (.int 3)) (fBin opDiv (fVar 3) (fVar 1))) fNx) (fRet (fBin opMod (fVar 3) (fVar 1)))) S h2 := by
        rw [f_law_taken]
        refine (ev_seq (ev_ifN (c0 _ rfl))).trans ((go _).trans ?_)
        refine (ev_seq (ev_ifN (by rw [← decide_eq_false hk1]; exact ct))).trans ?_
        refine (ev_seq (ev_set q3)).trans ?_
        exact ev_seq (put_cell (j := 2) (k := 2) (r := r) q2 rfl rfl e1 rfl)
      by_cases hc : c ≥ 10 ^ 18
      · have es : h2.set r (rowC ns (k + 1) z2 (c / m)) = h.set r (rowC ns (k + 1) z2 (c / m)) := (List.set_set ..).trans (List.set_set ..)
        refine ⟨c % m, rowC ns (k + 1) z2 (c / m), run_rt (pre.trans ?_), Int.emod_nonneg _ (by omega), Int.emod_lt_of_pos _ hm, k + 1, z2, c / m, set_at e, by omega, z0, z1⟩
        refine (ev_seq ((ev_ifT (by rw [← decide_eq_true hc]; exact cg)).trans (put_cell (j := 3) (k := 3) (r := r) ((ev_bin (x := .int c) (h1 := h2) (y := .int m) (h2 := h2) rfl rfl).trans (div_int hm hm2)) rfl rfl e2 rfl))).trans ?_
        rw [← es]
        exact ev_ret ((ev_bin (x := .int c) (y := .int m) rfl rfl).trans (mod_int hm))
      · have es : h2 = h.set r (rowC ns (k + 1) z2 w) := List.set_set ..
        refine ⟨c % m, rowC ns (k + 1) z2 w, run_rt (pre.trans ?_), Int.emod_nonneg _ (by omega), Int.emod_lt_of_pos _ hm, k + 1, z2, w, set_at e, by omega, z0, z1⟩
        refine (ev_seq (ev_ifN (by rw [← decide_eq_false hc]; exact cg))).trans ?_
        rw [← es]
        exact ev_ret ((ev_bin (x := .int c) (y := .int m) rfl rfl).trans (mod_int hm))
end Kx
end

section
set_option linter.all false
set_option maxRecDepth 100000
set_option maxHeartbeats 400000
/-! Ev4: walks, added texts. -/
namespace Dy
open PySem PySem.Spec PyProof.Rows L2 GxR Gx
section
variable {h h1 h2 : Hq} {sl sl1 : List Sl} {d x y : D} {ds : List D} {fe : FE} {fI : FI} {F : FS} {ft : D → Option Bs} {bs : Bs} {i : Nat} {o : D → D → Hq → R D}
theorem ev_for (e : fI sl h = .ok ds h1) : fFor fI ft F sl h = forGo ft F ds sl h1 := by unfold fFor; rw [e]; rfl
theorem go_nil : forGo ft F [] sl h = .nx sl h := rfl
theorem go_cons (e : ft d = some bs) (e2 : F (sets sl bs) h = .nx sl1 h1) : forGo ft F (d :: ds) sl h = forGo ft F ds sl1 h1 := by
  rw [forGo, e]
  simp only [e2]
theorem ev_any (e : fe sl h = .ok d h1) (e2 : itemsW h1 d = some (ds, h2)) : iAny fe sl h = .ok ds h2 := by unfold iAny; rw [e, R.bind_ok, e2]
theorem ev_aug (e0 : sl[i]? = some (.va x)) (e : fe sl h = .ok y h1) (e2 : o x y h1 = .ok d h2) : fAug i o fe sl h = .nx (sl.set i (.va d)) h2 := by
  unfold fAug
  rw [e0]
  show (fe sl h).toS _ = _
  rw [e, R.toS_ok, e2]
  rfl
theorem iadd_str {a b : Str} (hl : a.length + b.length ≤ LIM) : opIAddX (.str a) (.str b) h = .ok (.str (a ++ b)) h := if_pos hl
theorem walk_tup : itemsW h (.tup ds) = some (ds, h) := rfl
theorem walk_pt : itemsW h (.pt ds) = some (ds, h) := rfl
theorem walk_lst : itemsW h (.lst ds) = some (ds, h) := rfl
end
end Dy
end

section
set_option linter.all false
set_option maxRecDepth 100000
set_option maxHeartbeats 400000
/-! Ev5: a link's row, written by the program. -/
namespace Kx
open PySem PySem.Spec PyProof.Rows L2 GxR Gx Dy
theorem sass (a b c : Str) : a ++ b ++ c = a ++ (b ++ c) := by
  show (⟨a.cps ++ b.cps ++ c.cps⟩ : Str) = ⟨a.cps ++ (b.cps ++ c.cps)⟩
  rw [Array.append_assoc]
def dWant (w : Str × Str) : D := .tup [.str w.1, .str w.2]
def tWant (lead : Str) (w : Str × Str) : Str := Str.empty ++ " " ++ lead ++ " " ++ w.1 ++ " " ++ w.2
def tWants : Str → Str → List (Str × Str) → Str
  | acc, _, [] => acc
  | acc, lead, w :: r => tWants (acc ++ tWant lead w) "and" r
abbrev wBody : FS := (fSeq (fAug 4 opIAddX (fJs [(fC (.str " ")), (fFmt (fVar 5)), (fC (.str " ")), (fFmt (fVar 6)), (fC (.str " ")), (fFmt (fVar 7))]))
  (fSet 5 (fC (.str "and"))))
theorem sp_len1 : (PySem.Str.ofString " ").length = 1 := by decide +kernel
theorem and_len : (PySem.Str.ofString "and").length = 3 := by decide +kernel
theorem e_wants {a b c d : Sl} (h : Hq) : ∀ (ws : List (Str × Str)) (acc lead : Str) (x y : Sl), lead.length ≤ 4 → (∀ w ∈ ws, w.1.length ≤ 1000 ∧ w.2.length ≤ 1000) → acc.length + 3000 * ws.length ≤ LIM →
    ∃ l2 x2 y2, forGo (gTuN 2 (gsCons (gNm 6) (gsCons (gNm 7) gsNil))) wBody (ws.map dWant) [a, b, c, d, .va (.str acc), .va (.str lead), x, y] h = .nx [a, b, c, d, .va (.str (tWants acc lead ws)), l2, x2, y2] h
  | [], acc, lead, x, y, _, _, _ => ⟨_, _, _, rfl⟩
  | w :: r, acc, lead, x, y, hl, hw, hs => by
    have l1 : LIM = 16777216 := rfl
    have s1 := sp_len1
    have a1 := and_len
    obtain ⟨w1, w2⟩ := hw w List.mem_cons_self
    rw [List.length_cons] at hs
    have wl : (tWant lead w).length ≤ 3000 := by
      unfold tWant
      rw [slen, slen, slen, slen, slen, slen]
      show 0 + _ + _ + _ + _ + _ + _ ≤ _
      omega
    obtain ⟨l2, x2, y2, ih⟩ := e_wants h r (acc ++ tWant lead w) "and" (.va (.str w.1)) (.va (.str w.2)) (by omega) (fun z hz => hw z (List.mem_cons_of_mem _ hz)) (by rw [slen]; omega)
    refine ⟨l2, x2, y2, (go_cons (bs := [(6, .str w.1), (7, .str w.2)]) rfl ?_).trans ih⟩
    have j : fJs [(fC (.str " ")), (fFmt (fVar 5)), (fC (.str " ")), (fFmt (fVar 6)), (fC (.str " ")), (fFmt (fVar 7))] [a, b, c, d, .va (.str acc), .va (.str lead), .va (.str w.1), .va (.str w.2)] h = .ok (.str (tWant lead w)) h := by
      unfold fJs tWant
      unfold tWant at wl
      rw [slen, slen, slen, slen, slen, slen] at wl
      have e0 : Str.empty.length = 0 := rfl
      rw [ev_jcons (y := " ") rfl (by rw [slen]; omega), ev_jcons (y := lead) (ev_fmtS (ev_var rfl) (by omega)) (by rw [slen, slen]; omega), ev_jcons (y := " ") rfl (by rw [slen, slen, slen]; omega),
        ev_jcons (y := w.1) (ev_fmtS (ev_var rfl) (by omega)) (by rw [slen, slen, slen, slen]; omega), ev_jcons (y := " ") rfl (by rw [slen, slen, slen, slen, slen]; omega), ev_jcons (y := w.2) (ev_fmtS (ev_var rfl) (by omega)) (by rw [slen, slen, slen, slen, slen, slen]; omega)]
      rfl
    refine (ev_seq (ev_aug (x := .str acc) rfl j (iadd_str (by omega)))).trans ?_
    rfl
abbrev Lnk : Type := (Str × Nat) × (Str × Nat) × List (Str × Str)
def dLink (l : Lnk) : D := .tup [dEnd l.1, dEnd l.2.1, .tup (l.2.2.map dWant)]
def tLink (l : Lnk) : Str := tWants (Str.empty ++ "link " ++ tEnd l.1 ++ " " ++ tEnd l.2.1) "when" l.2.2
theorem link_len : (PySem.Str.ofString "link ").length = 5 := by decide +kernel
theorem when_len : (PySem.Str.ofString "when").length = 4 := by decide +kernel
theorem tEnd_len {e : Str × Nat} (h1 : e.1.length ≤ 1000) (h2 : e.2 < 2) : (tEnd e).length ≤ 1002 := by
  have l2 := sideT_len h2
  have d1 := dot_len
  show (e.1 ++ "." ++ sideT e.2).length ≤ 1002
  rw [slen, slen]
  omega
theorem e_link_row (l : Lnk) (h : Hq) (a1 : l.1.1.length ≤ 1000) (a2 : l.1.2 < 2) (b1 : l.2.1.1.length ≤ 1000) (b2 : l.2.1.2 < 2) (hw : ∀ w ∈ l.2.2, w.1.length ≤ 1000 ∧ w.2.length ≤ 1000) (hn : l.2.2.length ≤ 1000) : r_link_row [dLink l] h = .ok (.str (tLink l)) h := by
  have l1 : LIM = 16777216 := rfl
  have s1 := sp_len1
  have k1 := link_len
  have k2 := when_len
  have ta := tEnd_len a1 a2
  have tb := tEnd_len b1 b2
  have e0 : Str.empty.length = 0 := rfl
  have n0 : (Str.empty ++ "link " ++ tEnd l.1 ++ " " ++ tEnd l.2.1).length ≤ 3000 := by
    rw [slen, slen, slen, slen]
    omega
  obtain ⟨l2, x2, y2, ih⟩ := e_wants (a := .va (dLink l)) (b := .va (dEnd l.1)) (c := .va (dEnd l.2.1)) (d := .va (.tup (l.2.2.map dWant))) h l.2.2 (Str.empty ++ "link " ++ tEnd l.1 ++ " " ++ tEnd l.2.1) "when" .no .no (by omega) hw (by omega)
  refine run_rt ?_
  rw [f_link_row]
  refine (ev_seq (ev_asg (bs := [(1, dEnd l.1), (2, dEnd l.2.1), (3, .tup (l.2.2.map dWant))]) (ev_var rfl) rfl)).trans ?_
  have j : fJs [(fC (.str "link ")), (fFmt (fCall 1 r_end_text (aCons (fVar 1) aNil))), (fC (.str " ")), (fFmt (fCall 1 r_end_text (aCons (fVar 2) aNil)))] [.va (dLink l), .va (dEnd l.1), .va (dEnd l.2.1), .va (.tup (l.2.2.map dWant)), .no, .no, .no, .no] h = .ok (.str (Str.empty ++ "link " ++ tEnd l.1 ++ " " ++ tEnd l.2.1)) h := by
    unfold fJs
    rw [slen, slen, slen, slen] at n0
    rw [ev_jcons (y := "link ") rfl (by rw [slen]; omega), ev_jcons (y := tEnd l.1) (ev_fmtS ((ev_call (n := 1) (xs := [dEnd l.1]) (h1 := h) rfl rfl).trans (e_end_text l.1 h a1 a2)) (by omega)) (by rw [slen, slen]; omega), ev_jcons (y := " ") rfl (by rw [slen, slen, slen]; omega),
      ev_jcons (y := tEnd l.2.1) (ev_fmtS ((ev_call (n := 1) (xs := [dEnd l.2.1]) (h1 := h) rfl rfl).trans (e_end_text l.2.1 h b1 b2)) (by omega)) (by rw [slen, slen, slen, slen]; omega)]
    rfl
  refine (ev_seq (ev_set j)).trans ?_
  refine (ev_seq (ev_set (d := .str "when") (h1 := h) rfl)).trans ?_
  refine (ev_seq ((ev_for (ev_any (ev_var rfl) walk_tup)).trans ih)).trans ?_
  exact ev_ret (ev_var rfl)
end Kx
end

section
set_option linter.all false
set_option maxRecDepth 100000
set_option maxHeartbeats 400000
/-! Ev6: the rows by which own functions are evaluated. -/
namespace Dy
open PySem PySem.Spec PyProof.Rows L2 GxR Gx
def RS.fin : RS → R D
  | .nx _ h' => .ok .non h'
  | .rt d h' => .ok d h'
  | .er c fs h' => .er c fs h'
  | _ => .st
def RS.seq (r : RS) (F2 : FS) : RS := match r with
  | .nx sl' h' => F2 sl' h'
  | r => r
def getS : Option Sl → Hq → R D
  | some (.va d), h => .ok d h
  | _, _ => .st
def asB : D → Hq → R Bool
  | .bl b, h => .ok b h
  | _, _ => .st
def ofO {α : Type} : Option α → Hq → R α
  | some b, h => .ok b h
  | none, _ => .st
def andD (d : D) (h : Hq) (k : Hq → R D) : R D := match d with
  | .bl c => if c = true then k h else .ok (.bl false) h
  | _ => .st
def orD (d : D) (h : Hq) (k : Hq → R D) : R D := match d with
  | .bl c => if c = true then .ok (.bl true) h else k h
  | _ => .st
section
variable {α β : Type} {a : α} {h h1 h2 : Hq} {sl sl1 : List Sl} {d x y : D} {xs ds : List D} {fe fa fb fo : FE} {fs : FI} {F F2 : FS} {ba bb : FT} {b c : Bool} {i n : Nat} {o : D → D → Hq → R D} {oc : List D → Hq → R D} {om : D → List D → Hq → R D} {ft : D → Option Bs} {r : List D → Hq → R D} {k : Hq → R D}
theorem a_run1 : runF n F ds h = (F (ds.map .va ++ List.replicate (n - ds.length) .no) h).fin := id rfl
theorem a_run2 : runF n F ds h = (F (ds.map .va ++ List.replicate (n - ds.length) .no) h).fin := id rfl
theorem fin_rt : (RS.rt d h).fin = .ok d h := id rfl
theorem fin_nx : (RS.nx sl h).fin = .ok .non h := id rfl
theorem a_seq : fSeq F F2 sl h = (F sl h).seq F2 := id rfl
theorem seq_nx : (RS.nx sl h).seq F2 = F2 sl h := id rfl
theorem seq_rt : (RS.rt d h).seq F2 = .rt d h := id rfl
theorem a_ret : fRet fe sl h = (fe sl h).toS fun d h1 => .rt d h1 := id rfl
theorem a_retN : fRetN sl h = .rt .non h := id rfl
theorem a_set : fSet i fe sl h = (fe sl h).toS fun d h1 => .nx (sl.set i (.va d)) h1 := id rfl
theorem a_if : fIf ba F F2 sl h = (ba sl h).toS fun b h1 => if b = true then F sl h1 else F2 sl h1 := id rfl
theorem a_nx : fNx sl h = .nx sl h := id rfl
theorem a_var : fVar i sl h = getS sl[i]? h := by
  unfold fVar getS
  cases sl[i]? with
  | none => rfl
  | some z => cases z <;> rfl
theorem get_va : getS (some (.va d)) h = .ok d h := id rfl
theorem a_c : fC d sl h = .ok d h := id rfl
theorem a_nil : aNil sl h = .ok [] h := id rfl
theorem a_cons : aCons fa fs sl h = (fa sl h).bind fun d h1 => (fs sl h1).bind fun ds h2 => .ok (d :: ds) h2 := id rfl
theorem a_bin : fBin o fa fb sl h = (fa sl h).bind fun x h1 => (fb sl h1).bind fun y h2 => o x y h2 := id rfl
theorem a_cb : fCb oc fs sl h = (fs sl h).bind fun xs h1 => oc xs h1 := id rfl
theorem a_call : fCall n r fs sl h = (fs sl h).bind fun ds h1 => if ds.length = n then r ds h1 else .st := id rfl
theorem a_and : fAnd fa fb sl h = (fa sl h).bind fun d h1 => andD d h1 (fb sl) := id rfl
theorem and_t : andD (.bl true) h k = k h := id rfl
theorem and_f : andD (.bl false) h k = .ok (.bl false) h := id rfl
theorem a_or : fOr fa fb sl h = (fa sl h).bind fun d h1 => orD d h1 (fb sl) := id rfl
theorem or_t : orD (.bl true) h k = .ok (.bl true) h := id rfl
theorem or_f : orD (.bl false) h k = k h := id rfl
theorem a_bAnd : bAnd ba bb sl h = (ba sl h).bind fun c h1 => if c = true then bb sl h1 else .ok false h1 := id rfl
theorem a_bOr : bOr ba bb sl h = (ba sl h).bind fun c h1 => if c = true then .ok true h1 else bb sl h1 := id rfl
theorem a_bNot : bNot ba sl h = (ba sl h).bind fun c h1 => .ok (!c) h1 := id rfl
theorem a_asB : fAsB fa sl h = (fa sl h).bind asB := by
  unfold fAsB
  congr 1
  funext d h
  cases d <;> rfl
theorem asB_bl : asB (.bl b) h = .ok b h := id rfl
theorem a_tru : fTru fa sl h = (fa sl h).bind fun d h1 => ofO (truD h1 d) h1 := by
  unfold fTru
  congr 1
  funext d h
  cases truD h d <;> rfl
theorem tru_bl : ofO (truD h1 (.bl b)) h = .ok b h := id rfl
theorem a_tup : fTup fs sl h = (fs sl h).bind fun ds h1 => if ds.length ≤ LIM then .ok (.tup ds) h1 else .st := id rfl
theorem a_lst : fLst fs sl h = (fs sl h).bind fun ds h1 => if ds.length ≤ LIM then .ok (.lst ds) h1 else .st := id rfl
theorem a_asg : fAsg fe ft sl h = (fe sl h).toS fun d h1 => match ft d with | some bs => .nx (sets sl bs) h1 | none => .st := id rfl
theorem a_drop : fDrop fe sl h = (fe sl h).toS fun _ h1 => .nx sl h1 := id rfl
theorem a_bm {T : BT} : fBm T om fo fs sl h = (fo sl h).bind fun x h1 => if T.ok x h1 = true then (fs sl h1).bind fun xs h2 => om x xs h2 else .st := id rfl
theorem a_ite : fIte ba fa fb sl h = (ba sl h).bind fun c h1 => if c = true then fa sl h1 else fb sl h1 := id rfl
theorem b_ok {f : α → Hq → R β} : (R.ok a h).bind f = f a h := id rfl
theorem s_ok {f : α → Hq → RS} : (R.ok a h).toS f = f a h := id rfl
/-! walks -/
theorem ex_go {A : Type} {emb : A → D} {bt body : FT} (bs : A → Bs) (p q : A → Bool) : ∀ {xs : List A}, (∀ x ∈ xs, ft (emb x) = some (bs x)) → (∀ x ∈ xs, bt (sets sl (bs x)) h = .ok (p x) h) →
    (∀ x ∈ xs, p x = true → body (sets sl (bs x)) h = .ok (q x) h) → exGo ft bt body sl (xs.map emb) h = .ok (xs.any fun x => p x && q x) h
  | [], _, _, _ => rfl
  | x :: xs, e1, e2, e3 => by
    have ih := ex_go (bt := bt) (body := body) bs p q (fun z hz => e1 z (List.mem_cons_of_mem _ hz)) (fun z hz => e2 z (List.mem_cons_of_mem _ hz)) (fun z hz => e3 z (List.mem_cons_of_mem _ hz))
    rw [List.map_cons, exGo, e1 x List.mem_cons_self]
    show (bt (sets sl (bs x)) h).bind _ = _
    rw [e2 x List.mem_cons_self, R.bind_ok, List.any_cons]
    cases hp : p x with
    | false => exact ih
    | true =>
      show (body (sets sl (bs x)) h).bind _ = _
      rw [e3 x List.mem_cons_self hp, R.bind_ok]
      cases hq : q x with
      | false => exact ih
      | true => rfl
theorem ev_gx {fI : FI} {bt body : FT} {vs : List Nat} {r : Bool} (eI : fI sl h = .ok ds h1) (hl : ds.length ≤ LIM) (e : exGo ft bt body (wipeS sl vs) ds h1 = .ok r h2) :
    fGx b fI ft bt body vs sl h = .ok (.bl (if r = true then b else !b)) h2 := by
  unfold fGx forB
  rw [eI, R.bind_ok, if_pos hl, e]
  rfl
theorem ev_forB {fI : FI} {bt body : FT} {vs : List Nat} {r : Bool} (eI : fI sl h = .ok ds h1) (hl : ds.length ≤ LIM) (e : exGo ft bt body (wipeS sl vs) ds h1 = .ok r h2) :
    forB fI ft bt body vs sl h = .ok r h2 := by
  unfold forB
  rw [eI, R.bind_ok, if_pos hl, e]
theorem lc_go {A : Type} {emb g : A → D} {bt : FT} (bs : A → Bs) (p : A → Bool) : ∀ {xs : List A}, (∀ x ∈ xs, ft (emb x) = some (bs x)) → (∀ x ∈ xs, bt (sets sl (bs x)) h = .ok (p x) h) →
    (∀ x ∈ xs, p x = true → fe (sets sl (bs x)) h = .ok (g x) h) → lcGo ft bt fe sl (xs.map emb) h = .ok ((xs.filter p).map g) h
  | [], _, _, _ => rfl
  | x :: xs, e1, e2, e3 => by
    have ih := lc_go (bt := bt) (g := g) bs p (fun z hz => e1 z (List.mem_cons_of_mem _ hz)) (fun z hz => e2 z (List.mem_cons_of_mem _ hz)) (fun z hz => e3 z (List.mem_cons_of_mem _ hz))
    rw [List.map_cons, lcGo, e1 x List.mem_cons_self]
    show (bt (sets sl (bs x)) h).bind _ = _
    rw [e2 x List.mem_cons_self, R.bind_ok, List.filter_cons]
    cases hp : p x with
    | false => exact ih
    | true =>
      show (fe (sets sl (bs x)) h).bind _ = _
      rw [e3 x List.mem_cons_self hp, R.bind_ok, ih]
      rfl
theorem ev_lc {A : Type} {xs : List A} {emb g : A → D} {fI : FI} {bt : FT} {vs : List Nat} (bs : A → Bs) (p : A → Bool) (eI : fI sl h1 = .ok (xs.map emb) h) (hl : xs.length ≤ LIM) (e1 : ∀ x ∈ xs, ft (emb x) = some (bs x))
    (e2 : ∀ x ∈ xs, bt (sets (wipeS sl vs) (bs x)) h = .ok (p x) h) (e3 : ∀ x ∈ xs, p x = true → fe (sets (wipeS sl vs) (bs x)) h = .ok (g x) h) : fLc fI ft bt fe vs sl h1 = .ok (.lst ((xs.filter p).map g)) h := by
  unfold fLc
  rw [eI, R.bind_ok, if_pos (by rw [List.length_map]; exact hl), lc_go bs p e1 e2 e3]
  rfl
theorem ev_lcT {A : Type} {xs : List A} {emb g : A → D} {fI : FI} {vs : List Nat} (bs : A → Bs) (eI : fI sl h1 = .ok (xs.map emb) h) (hl : xs.length ≤ LIM) (e1 : ∀ x ∈ xs, ft (emb x) = some (bs x))
    (e3 : ∀ x ∈ xs, fe (sets (wipeS sl vs) (bs x)) h = .ok (g x) h) : fLc fI ft bYes fe vs sl h1 = .ok (.lst (xs.map g)) h := by
  have z := ev_lc (fI := fI) (bt := bYes) bs (fun _ => true) eI hl e1 (fun _ _ => rfl) (fun x hx _ => e3 x hx)
  rwa [List.filter_eq_self.mpr (fun _ _ => rfl)] at z
/-- a walk with something that is kept -/
theorem go_inv (I : Nat → List Sl → Hq → Prop) : ∀ {ds : List D} {j : Nat} {sl : List Sl} {h : Hq}, (∀ j d sl h, d ∈ ds → I j sl h → ∃ bs sl' h', ft d = some bs ∧ F (sets sl bs) h = .nx sl' h' ∧ I (j + 1) sl' h') →
    I j sl h → ∃ sl' h', forGo ft F ds sl h = .nx sl' h' ∧ I (j + ds.length) sl' h'
  | [], j, sl, h, _, i0 => ⟨sl, h, rfl, i0⟩
  | d :: ds, j, sl, h, st, i0 => by
    obtain ⟨bs, sl1, h1, e1, e2, i1⟩ := st j d sl h List.mem_cons_self i0
    obtain ⟨sl2, h2, e3, i2⟩ := go_inv I (fun j z sl h hz => st j z sl h (List.mem_cons_of_mem _ hz)) i1
    refine ⟨sl2, h2, (go_cons e1 e2).trans e3, ?_⟩
    rw [List.length_cons, Nat.add_comm ds.length 1, ← Nat.add_assoc]
    exact i2
end
end Dy
end

section
set_option linter.all false
set_option maxRecDepth 100000
set_option maxHeartbeats 400000
/-! Ev7: texts and ends compared. -/
namespace Kx
open PySem PySem.Spec PyProof.Rows L2 GxR Gx Dy
/-- a text of small signs -/
def As (a : Str) : Prop := ∀ c ∈ TL.tl a, c < 128
theorem As.strOk {a : Str} (h : As a) : PyData.strOk a = true := by
  unfold PyData.strOk
  rw [Array.all_eq_true_iff_forall_mem]
  intro c hc
  have z := h c (by unfold TL.tl; exact Array.mem_toList_iff.mpr hc)
  exact decide_eq_true (by omega)
theorem sh_str {a : Str} (h : As a) : SeqAt.shaped (.str a) = true := by
  unfold SeqAt.shaped
  simp [PyData.canLay0, PyData.depth, h.strOk]
theorem eqv_str (a b : Str) : PyData.eqv (.str a) (.str b) = decide (a = b) := by
  by_cases e : a = b
  · subst e; simp [PyData.eqv]
  · simp [PyData.eqv, e]
theorem cmpb_str {a : Str} (h : As a) : cmpb (.str a) = some (.str a) := by
  unfold cmpb
  rw [toPy]
  exact if_pos (sh_str h)
theorem eqD_str {a b : Str} (ha : As a) (hb : As b) : eqD (.str a) (.str b) = some (decide (a = b)) := by
  unfold eqD
  rw [cmpb_str ha, cmpb_str hb, ← eqv_str]
  rfl
theorem cmpH_str {h : Hq} {a : Str} (ha : As a) : cmpH h (.str a) = some (.str a) := by
  unfold cmpH toPyH
  show ((toPy (.str a)).bind _) = _
  rw [toPy]
  exact if_pos (sh_str ha)
theorem eqH_str {h : Hq} {a b : Str} (ha : As a) (hb : As b) : eqH h (.str a) (.str b) = some (decide (a = b)) := by
  unfold eqH
  rw [cmpH_str ha, cmpH_str hb, ← eqv_str]
  rfl
theorem op_eq_str {h : Hq} {a b : Str} (ha : As a) (hb : As b) : opEqH (.str a) (.str b) h = .ok (.bl (decide (a = b))) h := by
  unfold opEqH; rw [eqH_str ha hb]; rfl
theorem op_ne_str {h : Hq} {a b : Str} (ha : As a) (hb : As b) : opNeH (.str a) (.str b) h = .ok (.bl (!decide (a = b))) h := by
  unfold opNeH; rw [eqH_str ha hb]; rfl
def pEnd (e : Str × Nat) : PyData := .tuple [.str e.1, .int e.2]
theorem toPy_end (e : Str × Nat) : toPy (dEnd e) = some (pEnd e) := rfl
theorem sh_end {e : Str × Nat} (h : As e.1) : SeqAt.shaped (pEnd e) = true := by
  unfold SeqAt.shaped pEnd
  simp [PyData.canLay0, PyData.canLayAll0, PyData.depth, PyData.depthAll, h.strOk]
theorem eqv_end (a b : Str × Nat) : PyData.eqv (pEnd a) (pEnd b) = decide (a = b) := by
  obtain ⟨a1, a2⟩ := a
  obtain ⟨b1, b2⟩ := b
  unfold pEnd
  rw [PyData.eqv, PyData.eqvAll, eqv_str, PyData.eqvAll, PyData.eqvAll, PyData.eqv]
  by_cases e1 : a1 = b1 <;> by_cases e2 : a2 = b2 <;> simp [e1, e2] <;> omega
theorem cmpH_end {h : Hq} {e : Str × Nat} (ha : As e.1) : cmpH h (dEnd e) = some (pEnd e) := by
  unfold cmpH toPyH
  show ((toPy (dEnd e)).bind _) = _
  rw [toPy_end]
  exact if_pos (sh_end ha)
theorem cmpb_end {e : Str × Nat} (ha : As e.1) : cmpb (dEnd e) = some (pEnd e) := by
  unfold cmpb
  rw [toPy_end]
  exact if_pos (sh_end ha)
theorem op_eq_end {h : Hq} {a b : Str × Nat} (ha : As a.1) (hb : As b.1) : opEqH (dEnd a) (dEnd b) h = .ok (.bl (decide (a = b))) h := by
  unfold opEqH eqH
  rw [cmpH_end ha, cmpH_end hb, ← eqv_end]
  rfl
theorem toPys_map {A : Type} {f : A → D} {g : A → PyData} (e : ∀ x, toPy (f x) = some (g x)) : ∀ l : List A, toPys (l.map f) = some (l.map g)
  | [] => by rw [List.map_nil, toPys]; rfl
  | x :: l => by
    rw [List.map_cons, toPys, e x, toPys_map e l]
    rfl
theorem canAll {A : Type} {g : A → PyData} : ∀ {l : List A}, (∀ x ∈ l, (g x).canLay0 = true) → PyData.canLayAll0 (l.map g) = true
  | [], _ => by simp [PyData.canLayAll0]
  | x :: l, h => by
    rw [List.map_cons, PyData.canLayAll0, h x List.mem_cons_self, canAll (fun z hz => h z (List.mem_cons_of_mem _ hz))]
    rfl
theorem depAll {A : Type} {g : A → PyData} {m : Nat} : ∀ {l : List A}, (∀ x ∈ l, (g x).depth ≤ m) → PyData.depthAll (l.map g) ≤ m
  | [], _ => by simp [PyData.depthAll]
  | x :: l, h => by
    rw [List.map_cons, PyData.depthAll]
    exact Nat.max_le.mpr ⟨h x List.mem_cons_self, depAll (fun z hz => h z (List.mem_cons_of_mem _ hz))⟩
theorem sh_list {A : Type} {g : A → PyData} {l : List A} (h : ∀ x ∈ l, SeqAt.shaped (g x) = true) (hd : ∀ x ∈ l, (g x).depth ≤ 1) : SeqAt.shaped (.list (l.map g)) = true := by
  unfold SeqAt.shaped
  rw [PyData.canLay0, canAll (fun x hx => SeqAt.canLay_of_shaped (h x hx)), PyData.depth, decide_eq_true (by have := depAll hd; omega)]
  rfl
theorem in_items {A : Type} [DecidableEq A] {f : A → D} {g : A → PyData} {h : Hq} {y : D} {l : List A} {n : A} (e : ∀ x, toPy (f x) = some (g x)) (eq : ∀ a b, PyData.eqv (g a) (g b) = decide (a = b)) (hd : ∀ x, (g x).depth ≤ 1)
    (hy : items h y = some (l.map f)) (ny : ∀ b, y ≠ .str b) (hs : ∀ x ∈ l, SeqAt.shaped (g x) = true) (hn : SeqAt.shaped (g n) = true) : inD h (f n) y = some (decide (n ∈ l)) := by
  have c : cmpb (f n) = some (g n) := by
    unfold cmpb
    rw [e]
    exact if_pos hn
  have z : (l.map g).any (fun z => PyData.eqv z (g n)) = decide (n ∈ l) := by
    rw [List.any_map]
    have : (List.any l fun x => decide (x = n)) = decide (n ∈ l) := by
      by_cases m : n ∈ l
      · rw [decide_eq_true m]; exact List.any_eq_true.mpr ⟨n, m, decide_eq_true rfl⟩
      · rw [decide_eq_false m]; exact List.any_eq_false.mpr fun x hx hh => m (of_decide_eq_true hh ▸ hx)
    rw [← this]
    congr 1
    funext x
    exact eq x n
  have k : ∀ q, q = inD h (f n) y → q = some (decide (n ∈ l)) := by
    intro q hq
    rw [hq]
    cases y with
    | str b => exact absurd rfl (ny b)
    | _ =>
      unfold inD
      simp only [hy, c, toPys_map e l, Option.bind_some, sh_list hs (fun x _ => hd x), if_true, z]
  exact k _ rfl
theorem in_strs {h : Hq} {y : D} {l : List Str} {n : Str} (hy : items h y = some (l.map .str)) (ny : ∀ b, y ≠ .str b) (hs : ∀ s ∈ l, As s) (hn : As n) : inD h (.str n) y = some (decide (n ∈ l)) :=
  in_items (f := D.str) (g := .str) (fun _ => rfl) eqv_str (fun x => by rw [PyData.depth]; omega) hy ny (fun x hx => sh_str (hs x hx)) (sh_str hn)
theorem in_ends {h : Hq} {y : D} {l : List (Str × Nat)} {n : Str × Nat} (hy : items h y = some (l.map dEnd)) (ny : ∀ b, y ≠ .str b) (hs : ∀ s ∈ l, As s.1) (hn : As n.1) : inD h (dEnd n) y = some (decide (n ∈ l)) :=
  (in_items (f := dEnd) (g := pEnd) toPy_end eqv_end (fun x => by simp [pEnd, PyData.depth, PyData.depthAll]) hy ny (fun x hx => sh_end (hs x hx)) (sh_end hn)).trans (by congr)
theorem op_in_tup {h : Hq} {l : List Str} {n : Str} (hs : ∀ s ∈ l, As s) (hn : As n) : opIn (.str n) (.tup (l.map .str)) h = .ok (.bl (decide (n ∈ l))) h := by
  unfold opIn; rw [in_strs (h := h) rfl (fun _ => by simp) hs hn]; rfl
theorem op_nin_tup {h : Hq} {l : List Str} {n : Str} (hs : ∀ s ∈ l, As s) (hn : As n) : opNin (.str n) (.tup (l.map .str)) h = .ok (.bl (!decide (n ∈ l))) h := by
  unfold opNin; rw [in_strs (h := h) rfl (fun _ => by simp) hs hn]; rfl
theorem op_nin_lst {h : Hq} {l : List Str} {n : Str} (hs : ∀ s ∈ l, As s) (hn : As n) : opNin (.str n) (.lst (l.map .str)) h = .ok (.bl (!decide (n ∈ l))) h := by
  unfold opNin; rw [in_strs (h := h) rfl (fun _ => by simp) hs hn]; rfl
theorem op_in_end {h : Hq} {l : List (Str × Nat)} {n : Str × Nat} (hs : ∀ s ∈ l, As s.1) (hn : As n.1) : opIn (dEnd n) (.tup (l.map dEnd)) h = .ok (.bl (decide (n ∈ l))) h := by
  unfold opIn; rw [in_ends (h := h) rfl (fun _ => by simp) hs hn]; rfl
theorem op_in_kt {h : Hq} {l : List Str} {n : Str} (hs : ∀ s ∈ l, As s) (hn : As n) : opIn (.str n) (.kt (l.map .str)) h = .ok (.bl (decide (n ∈ l))) h := by
  unfold opIn; rw [in_strs (h := h) rfl (fun _ => by simp) hs hn]; rfl
/-! names -/
def NS : List Nat := [97, 98, 99, 100, 101, 102, 103, 104, 105, 106, 107, 108, 109, 110, 111, 112, 113, 114, 115, 116, 117, 118, 119, 120, 121, 122, 48, 49, 50, 51, 52, 53, 54, 55, 56, 57]
structure Nm (n : Str) : Prop where
  pos : 1 ≤ n.length
  le : n.length ≤ 6
  mem : ∀ c ∈ TL.tl n, c ∈ NS
theorem NS_lt : ∀ c ∈ NS, c < 128 := by decide
theorem Nm.as {n : Str} (h : Nm n) : As n := fun c hc => NS_lt c (h.mem c hc)
theorem NS_in : ∀ c ∈ NS, subS ⟨#[c]⟩ (PySem.Str.ofString "abcdefghijklmnopqrstuvwxyz0123456789") = true := by decide +kernel
theorem e_is_name {n : Str} (hn : Nm n) (h : Hq) : r_is_name [.str n] h = .ok (.bl true) h := by
  show RS.fin (f_is_name [.va (.str n), .no] h) = _
  have l1 : LIM = 16777216 := rfl
  have p1 := hn.pos
  have p2 := hn.le
  have g : fGx false (iAny (fVar 0)) (gNm 1) bYes (yB false (fBin opIn (fVar 1) (fC d_NAME_SIGNS))) [1] [.va (.str n), .no] h = .ok (.bl true) h := by
    refine (ev_gx (ds := Dy.signs n) (h1 := h) (h2 := h) (r := false) rfl ?_ ?_).trans rfl
    · unfold Dy.signs
      rw [List.length_map]
      show (TL.tl n).length ≤ _
      rw [← TL.len_tl]
      omega
    · refine (ex_go (emb := fun c => D.str ⟨#[c]⟩) (fun c => [(1, .str ⟨#[c]⟩)]) (fun _ => true) (fun _ => false) (xs := TL.tl n) (fun _ _ => rfl) (fun _ _ => rfl) (fun c hc _ => ?_)).trans ?_
      · have z := NS_in c (hn.mem c hc)
        have : opIn (.str ⟨#[c]⟩) d_NAME_SIGNS h = .ok (.bl true) h := by
          unfold opIn inD d_NAME_SIGNS
          simp only [z]
          rfl
        unfold yB
        show (R.bind (opIn (.str ⟨#[c]⟩) d_NAME_SIGNS h) _) = _
        rw [this]
        rfl
      · simp
  have ch : fChn (opCI .le) (opCI .le) (fC (.int 1)) (fCb opLen (aCons (fVar 0) aNil)) (fC d_LONGEST_NAME) [.va (.str n), .no] h = .ok (.bl true) h := by
    have ol : opLen [.str n] h = .ok (.int n.length) h := if_pos (by omega)
    unfold fChn
    simp only [ol, opCI, CI.b, a_run1, a_run2, fin_rt, fin_nx, a_seq, seq_nx, seq_rt, a_ret, a_retN, a_set, a_if, a_nx, a_var, get_va, a_c, a_nil, a_cons, a_bin, a_cb, a_call, a_and, a_or, a_bAnd, a_bOr, a_bNot, a_asB, a_tru, a_tup, a_lst, a_asg, a_drop, a_bm, a_ite, and_t, and_f, or_t, or_f, asB_bl, tru_bl, b_ok, s_ok, List.length_cons, List.length_nil, List.map_cons, List.map_nil, List.set_cons_zero, List.set_cons_succ, List.getElem?_cons_zero, List.getElem?_cons_succ, Bool.not_true, Bool.not_false, if_true, if_false, Bool.true_eq_false, Bool.false_eq_true, reduceIte, Nat.reduceAdd, Nat.reduceSub, Nat.reduceLeDiff, Nat.zero_add, eq_self, LIM]
    have c1 : decide ((1 : Int) ≤ (n.length : Int)) = true := decide_eq_true (by omega)
    have c2 : decide ((n.length : Int) ≤ 6) = true := decide_eq_true (by omega)
    simp only [c1, if_true, R.bind_ok, d_LONGEST_NAME, c2]
  rw [f_is_name]
  simp only [ch, g, a_run1, a_run2, fin_rt, fin_nx, a_seq, seq_nx, seq_rt, a_ret, a_retN, a_set, a_if, a_nx, a_var, get_va, a_c, a_nil, a_cons, a_bin, a_cb, a_call, a_and, a_or, a_bAnd, a_bOr, a_bNot, a_asB, a_tru, a_tup, a_lst, a_asg, a_drop, a_bm, a_ite, and_t, and_f, or_t, or_f, asB_bl, tru_bl, b_ok, s_ok, List.length_cons, List.length_nil, List.map_cons, List.map_nil, List.set_cons_zero, List.set_cons_succ, List.getElem?_cons_zero, List.getElem?_cons_succ, Bool.not_true, Bool.not_false, if_true, if_false, Bool.true_eq_false, Bool.false_eq_true, reduceIte, Nat.reduceAdd, Nat.reduceSub, Nat.reduceLeDiff, Nat.zero_add, eq_self, LIM]
end Kx
end

section
set_option linter.all false
set_option maxRecDepth 100000
set_option maxHeartbeats 400000
/-! Ev8: a station's cell, and what may stand there. -/
namespace Kx
open PySem PySem.Spec PyProof.Rows L2 GxR Gx Dy
structure St where
  secs : List Str
  pts : List (Str × Str)
  links : List Lnk
  sigs : List (Str × (Str × Nat))
def dPt (p : Str × Str) : D := .tup [.str p.1, .str p.2]
def dSig (s : Str × (Str × Nat)) : D := .tup [.str s.1, dEnd s.2]
def fsOf (st : St) : List (Str × D) := [("sections", .tup (st.secs.map .str)), ("points", .pt (st.pts.map dPt)), ("links", .tup (st.links.map dLink)), ("signals", .tup (st.sigs.map dSig))]
def cSt (st : St) : C := .ins 0 (fsOf st)
def St.names (st : St) : List Str := st.secs ++ (st.pts.map (·.1) ++ st.sigs.map (·.1))
/-- few enough to be told -/
structure Sml (st : St) : Prop where
  nm : ∀ n ∈ st.names, Nm n
  c1 : st.secs.length ≤ 30
  c2 : st.pts.length ≤ 12
  c3 : st.links.length ≤ 60
  c4 : st.sigs.length ≤ 16
  nd : st.names.Nodup
theorem Sml.sec {st : St} (s : Sml st) {n : Str} (h : n ∈ st.secs) : Nm n := s.nm n (List.mem_append.mpr (.inl h))
section
variable {h : Hq} {k i : Nat} {st : St} {sl : List Sl}
theorem f_sec (e : h[k]? = some (cSt st)) : fFld 0 "sections" (fVar 0) (.va (.ref k) :: sl) h = .ok (.tup (st.secs.map .str)) h := by
  show (match h[k]? with | some (.ins c' fs) => if c' = 0 then (match look fs "sections" with | some d => R.ok d h | none => .st) else .st | _ => .st) = _
  rw [e]; rfl
theorem f_pts (e : h[k]? = some (cSt st)) : fFld 0 "points" (fVar 0) (.va (.ref k) :: sl) h = .ok (.pt (st.pts.map dPt)) h := by
  show (match h[k]? with | some (.ins c' fs) => if c' = 0 then (match look fs "points" with | some d => R.ok d h | none => .st) else .st | _ => .st) = _
  rw [e]; rfl
theorem f_lnk (e : h[k]? = some (cSt st)) : fFld 0 "links" (fVar 0) (.va (.ref k) :: sl) h = .ok (.tup (st.links.map dLink)) h := by
  show (match h[k]? with | some (.ins c' fs) => if c' = 0 then (match look fs "links" with | some d => R.ok d h | none => .st) else .st | _ => .st) = _
  rw [e]; rfl
theorem f_sig (e : h[k]? = some (cSt st)) : fFld 0 "signals" (fVar 0) (.va (.ref k) :: sl) h = .ok (.tup (st.sigs.map dSig)) h := by
  show (match h[k]? with | some (.ins c' fs) => if c' = 0 then (match look fs "signals" with | some d => R.ok d h | none => .st) else .st | _ => .st) = _
  rw [e]; rfl
/-- a method of the station is called -/
theorem a_meth {m : Str} {n : Nat} {F : List D → Hq → R D} {fs : FI} (e : h[k]? = some (cSt st)) (hm : look (fsOf st) m = none) :
    fMeth 0 m n F (fVar 0) fs (.va (.ref k) :: sl) h = (fs (.va (.ref k) :: sl) h).bind fun ds h2 => if ds.length + 1 = n then F (.ref k :: ds) h2 else .st := by
  unfold fMeth
  show (match h[k]? with | some (.ins c' fl) => if c' = 0 then (match look fl m with | some _ => R.st | none => (fs (.va (.ref k) :: sl) h).bind fun ds h2 => if ds.length + 1 = n then F (.ref k :: ds) h2 else .st) else .st | _ => .st) = _
  rw [e]
  show (match look (fsOf st) m with | some _ => R.st | none => (fs (.va (.ref k) :: sl) h).bind fun ds h2 => if ds.length + 1 = n then F (.ref k :: ds) h2 else .st) = _
  rw [hm]
theorem e_is_free (e : h[k]? = some (cSt st)) (s : Sml st) {n : Str} (hn : Nm n) (fr : n ∉ st.names) : r_Layout_is_free [.ref k, .str n] h = .ok (.bl true) h := by
  show RS.fin (f_Layout_is_free [.va (.ref k), .va (.str n), .no, .no, .no, .no] h) = _
  have l1 : LIM = 16777216 := rfl
  have c1 := s.c1
  have c2 := s.c2
  have c4 := s.c4
  have t : fLst (aStar (fFld 0 "sections" (fVar 0)) (aStar (fLc (iAny (fFld 0 "points" (fVar 0))) (gTuN 2 (gsCons (gNm 3) (gsCons (gNm 4) gsNil))) bYes (fVar 3) [3, 4]) (aStar (fLc (iAny (fFld 0 "signals" (fVar 0))) (gTuN 2 (gsCons (gNm 5) (gsCons (gNm 4) gsNil))) bYes (fVar 5) [5, 4]) aNil))) [.va (.ref k), .va (.str n), .no, .no, .no, .no] h = .ok (.lst (st.names.map .str)) h := by
    have p : fLc (iAny (fFld 0 "points" (fVar 0))) (gTuN 2 (gsCons (gNm 3) (gsCons (gNm 4) gsNil))) bYes (fVar 3) [3, 4] [.va (.ref k), .va (.str n), .no, .no, .no, .no] h = .ok (.lst (st.pts.map fun p => .str p.1)) h :=
      ev_lcT (fun p => [(3, .str p.1), (4, .str p.2)]) (ev_any (f_pts e) rfl) (by omega) (fun _ _ => rfl) (fun _ _ => rfl)
    have q : fLc (iAny (fFld 0 "signals" (fVar 0))) (gTuN 2 (gsCons (gNm 5) (gsCons (gNm 4) gsNil))) bYes (fVar 5) [5, 4] [.va (.ref k), .va (.str n), .no, .no, .no, .no] h = .ok (.lst (st.sigs.map fun p => .str p.1)) h :=
      ev_lcT (fun p => [(5, .str p.1), (4, dEnd p.2)]) (ev_any (f_sig e) rfl) (by omega) (fun _ _ => rfl) (fun _ _ => rfl)
    unfold fLst aStar
    rw [f_sec e, R.bind_ok]
    simp only []
    rw [p, R.bind_ok]
    simp only []
    rw [q, R.bind_ok]
    simp only [a_run1, a_run2, fin_rt, fin_nx, a_seq, seq_nx, seq_rt, a_ret, a_retN, a_set, a_if, a_nx, a_var, get_va, a_c, a_nil, a_cons, a_bin, a_cb, a_call, a_and, a_or, a_bAnd, a_bOr, a_bNot, a_asB, a_tru, a_tup, a_lst, a_asg, a_drop, a_bm, a_ite, and_t, and_f, or_t, or_f, asB_bl, tru_bl, b_ok, s_ok, List.length_cons, List.length_nil, List.map_cons, List.map_nil, List.set_cons_zero, List.set_cons_succ, List.getElem?_cons_zero, List.getElem?_cons_succ, Bool.not_true, Bool.not_false, if_true, if_false, Bool.true_eq_false, Bool.false_eq_true, reduceIte, Nat.reduceAdd, Nat.reduceSub, Nat.reduceLeDiff, Nat.zero_add, eq_self, LIM]
    rw [if_pos]
    · congr 2
      unfold St.names
      simp
      rfl
    · simp only [List.length_append, List.length_map, List.length_nil]
      omega
  rw [f_Layout_is_free]
  simp only [t, e_is_name hn h, a_run1, a_run2, fin_rt, fin_nx, a_seq, seq_nx, seq_rt, a_ret, a_retN, a_set, a_if, a_nx, a_var, get_va, a_c, a_nil, a_cons, a_bin, a_cb, a_call, a_and, a_or, a_bAnd, a_bOr, a_bNot, a_asB, a_tru, a_tup, a_lst, a_asg, a_drop, a_bm, a_ite, and_t, and_f, or_t, or_f, asB_bl, tru_bl, b_ok, s_ok, List.length_cons, List.length_nil, List.map_cons, List.map_nil, List.set_cons_zero, List.set_cons_succ, List.getElem?_cons_zero, List.getElem?_cons_succ, Bool.not_true, Bool.not_false, if_true, if_false, Bool.true_eq_false, Bool.false_eq_true, reduceIte, Nat.reduceAdd, Nat.reduceSub, Nat.reduceLeDiff, Nat.zero_add, eq_self, LIM]
  rw [op_nin_lst (fun x hx => (s.nm x hx).as) hn.as, decide_eq_false fr]
  rfl
theorem sides_in {i : Nat} (hi : i < 2) : opIn (.int (i : Int)) d_SIDES h = .ok (.bl true) h := by
  match i, hi with
  | 0, _ => rfl
  | 1, _ => rfl
theorem sub_e0 {e : Str × Nat} : opSub_ (dEnd e) (.int 0) h = .ok (.str e.1) h := rfl
theorem sub_e1 {e : Str × Nat} : opSub_ (dEnd e) (.int 1) h = .ok (.int (e.2 : Int)) h := rfl
def GEnd (st : St) (e : Str × Nat) : Prop := e.1 ∈ st.secs ∧ e.2 < 2
theorem e_is_end (e : h[k]? = some (cSt st)) (s : Sml st) {x : Str × Nat} (g : GEnd st x) : r_Layout_is_end [.ref k, dEnd x] h = .ok (.bl true) h := by
  show RS.fin (f_Layout_is_end [.va (.ref k), .va (dEnd x)] h) = _
  rw [f_Layout_is_end]
  simp only [sub_e0, sub_e1, f_sec e, op_in_tup (fun x hx => (s.sec hx).as) (s.sec g.1).as, decide_eq_true g.1, sides_in g.2, d_SIDES, a_run1, a_run2, fin_rt, fin_nx, a_seq, seq_nx, seq_rt, a_ret, a_retN, a_set, a_if, a_nx, a_var, get_va, a_c, a_nil, a_cons, a_bin, a_cb, a_call, a_and, a_or, a_bAnd, a_bOr, a_bNot, a_asB, a_tru, a_tup, a_lst, a_asg, a_drop, a_bm, a_ite, and_t, and_f, or_t, or_f, asB_bl, tru_bl, b_ok, s_ok, List.length_cons, List.length_nil, List.map_cons, List.map_nil, List.set_cons_zero, List.set_cons_succ, List.getElem?_cons_zero, List.getElem?_cons_succ, Bool.not_true, Bool.not_false, if_true, if_false, Bool.true_eq_false, Bool.false_eq_true, reduceIte, Nat.reduceAdd, Nat.reduceSub, Nat.reduceLeDiff, Nat.zero_add, eq_self, LIM]
  rw [show D.kt [.int 0, .int 1] = d_SIDES from rfl, sides_in g.2]
  rfl
theorem e_may_join (e : h[k]? = some (cSt st)) (s : Sml st) {a b : Str × Nat} (ga : GEnd st a) (gb : GEnd st b) (ne : a.1 ≠ b.1) : r_Layout_may_join [.ref k, dEnd a, dEnd b] h = .ok (.bl true) h := by
  show RS.fin (f_Layout_may_join [.va (.ref k), .va (dEnd a), .va (dEnd b)] h) = _
  rw [f_Layout_may_join]
  simp only [a_meth (m := "_is_end") e rfl, e_is_end e s ga, e_is_end e s gb, sub_e0, op_ne_str (s.sec ga.1).as (s.sec gb.1).as, decide_eq_false ne, a_run1, a_run2, fin_rt, fin_nx, a_seq, seq_nx, seq_rt, a_ret, a_retN, a_set, a_if, a_nx, a_var, get_va, a_c, a_nil, a_cons, a_bin, a_cb, a_call, a_and, a_or, a_bAnd, a_bOr, a_bNot, a_asB, a_tru, a_tup, a_lst, a_asg, a_drop, a_bm, a_ite, and_t, and_f, or_t, or_f, asB_bl, tru_bl, b_ok, s_ok, List.length_cons, List.length_nil, List.map_cons, List.map_nil, List.set_cons_zero, List.set_cons_succ, List.getElem?_cons_zero, List.getElem?_cons_succ, Bool.not_true, Bool.not_false, if_true, if_false, Bool.true_eq_false, Bool.false_eq_true, reduceIte, Nat.reduceAdd, Nat.reduceSub, Nat.reduceLeDiff, Nat.zero_add, eq_self, LIM]
end
end Kx
end

section
set_option linter.all false
set_option maxRecDepth 100000
set_option maxHeartbeats 400000
/-! Ev9: links beside one another, their needs. -/
namespace Kx
open PySem PySem.Spec PyProof.Rows L2 GxR Gx Dy
def share (a b : Lnk) : Bool := decide (a.1 ∈ [b.1, b.2.1]) || decide (a.2.1 ∈ [b.1, b.2.1])
def told (a b : Lnk) : Bool := b.2.2.any fun w => a.2.2.any fun m => decide (w.1 = m.1) && !decide (w.2 = m.2)
structure LAs (l : Lnk) : Prop where
  a : As l.1.1
  b : As l.2.1.1
  w : ∀ w ∈ l.2.2, As w.1 ∧ As w.2
  n : l.2.2.length ≤ 2
section
variable {h : Hq} {k i : Nat} {st : St} {sl : List Sl}
theorem sub_l0 {l : Lnk} : opSub_ (dLink l) (.int 0) h = .ok (dEnd l.1) h := rfl
theorem sub_l1 {l : Lnk} : opSub_ (dLink l) (.int 1) h = .ok (dEnd l.2.1) h := rfl
theorem sub_l2 {l : Lnk} : opSub_ (dLink l) (.int 2) h = .ok (.tup (l.2.2.map dWant)) h := rfl
theorem e_share_end {a b : Lnk} (ha : LAs a) (hb : LAs b) : r_share_end [dLink a, dLink b] h = .ok (.bl (share a b)) h := by
  show RS.fin (f_share_end [.va (dLink a), .va (dLink b)] h) = _
  have s : fSlA (fVar 1) oNo (oSo (fC (.int 2))) [.va (dLink a), .va (dLink b)] h = .ok (.tup ([b.1, b.2.1].map dEnd)) h := rfl
  have hs : ∀ x ∈ [b.1, b.2.1], As x.1 := by
    intro x hx
    rcases List.mem_cons.mp hx with rfl | hx
    · exact hb.a
    · rcases List.mem_cons.mp hx with rfl | hx
      · exact hb.b
      · exact absurd hx (by simp)
  rw [f_share_end]
  unfold share
  have p := op_in_end (h := h) hs ha.a
  have q := op_in_end (h := h) hs ha.b
  generalize [b.1, b.2.1].map dEnd = y at s p q
  generalize decide (a.1 ∈ [b.1, b.2.1]) = c at p ⊢
  generalize decide (a.2.1 ∈ [b.1, b.2.1]) = d at q ⊢
  simp only [sub_l0, sub_l1, s, p, q, a_run1, a_run2, fin_rt, fin_nx, a_seq, seq_nx, seq_rt, a_ret, a_retN, a_set, a_if, a_nx, a_var, get_va, a_c, a_nil, a_cons, a_bin, a_cb, a_call, a_and, a_or, a_bAnd, a_bOr, a_bNot, a_asB, a_tru, a_tup, a_lst, a_asg, a_drop, a_bm, a_ite, and_t, and_f, or_t, or_f, asB_bl, tru_bl, b_ok, s_ok, List.length_cons, List.length_nil, List.map_cons, List.map_nil, List.set_cons_zero, List.set_cons_succ, List.getElem?_cons_zero, List.getElem?_cons_succ, Bool.not_true, Bool.not_false, if_true, if_false, Bool.true_eq_false, Bool.false_eq_true, reduceIte, Nat.reduceAdd, Nat.reduceSub, Nat.reduceLeDiff, Nat.zero_add, eq_self, LIM]
  cases c
  · simp only [Bool.false_or, sub_l1, s, q, a_run1, a_run2, fin_rt, fin_nx, a_seq, seq_nx, seq_rt, a_ret, a_retN, a_set, a_if, a_nx, a_var, get_va, a_c, a_nil, a_cons, a_bin, a_cb, a_call, a_and, a_or, a_bAnd, a_bOr, a_bNot, a_asB, a_tru, a_tup, a_lst, a_asg, a_drop, a_bm, a_ite, and_t, and_f, or_t, or_f, asB_bl, tru_bl, b_ok, s_ok, List.length_cons, List.length_nil, List.map_cons, List.map_nil, List.set_cons_zero, List.set_cons_succ, List.getElem?_cons_zero, List.getElem?_cons_succ, Bool.not_true, Bool.not_false, if_true, if_false, Bool.true_eq_false, Bool.false_eq_true, reduceIte, Nat.reduceAdd, Nat.reduceSub, Nat.reduceLeDiff, Nat.zero_add, eq_self, LIM]
  · simp only [Bool.true_or, a_run1, a_run2, fin_rt, fin_nx, a_seq, seq_nx, seq_rt, a_ret, a_retN, a_set, a_if, a_nx, a_var, get_va, a_c, a_nil, a_cons, a_bin, a_cb, a_call, a_and, a_or, a_bAnd, a_bOr, a_bNot, a_asB, a_tru, a_tup, a_lst, a_asg, a_drop, a_bm, a_ite, and_t, and_f, or_t, or_f, asB_bl, tru_bl, b_ok, s_ok, List.length_cons, List.length_nil, List.map_cons, List.map_nil, List.set_cons_zero, List.set_cons_succ, List.getElem?_cons_zero, List.getElem?_cons_succ, Bool.not_true, Bool.not_false, if_true, if_false, Bool.true_eq_false, Bool.false_eq_true, reduceIte, Nat.reduceAdd, Nat.reduceSub, Nat.reduceLeDiff, Nat.zero_add, eq_self, LIM]
theorem e_told_apart {a b : Lnk} (ha : LAs a) (hb : LAs b) : r_told_apart [dLink a, dLink b] h = .ok (.bl (told a b)) h := by
  show RS.fin (f_told_apart [.va (dLink a), .va (dLink b), .no, .no, .no, .no, .no] h) = _
  have l1 : LIM = 16777216 := rfl
  have na := ha.n
  have nb := hb.n
  rw [f_told_apart]
  simp only [sub_l2, a_run1, a_run2, fin_rt, fin_nx, a_seq, seq_nx, seq_rt, a_ret, a_retN, a_set, a_if, a_nx, a_var, get_va, a_c, a_nil, a_cons, a_bin, a_cb, a_call, a_and, a_or, a_bAnd, a_bOr, a_bNot, a_asB, a_tru, a_tup, a_lst, a_asg, a_drop, a_bm, a_ite, and_t, and_f, or_t, or_f, asB_bl, tru_bl, b_ok, s_ok, List.length_cons, List.length_nil, List.map_cons, List.map_nil, List.set_cons_zero, List.set_cons_succ, List.getElem?_cons_zero, List.getElem?_cons_succ, Bool.not_true, Bool.not_false, if_true, if_false, Bool.true_eq_false, Bool.false_eq_true, reduceIte, Nat.reduceAdd, Nat.reduceSub, Nat.reduceLeDiff, Nat.zero_add, eq_self, LIM]
  have g : fGx true (iAny (fBin opSub_ (fVar 1) (fC (.int 2)))) (gTuN 2 (gsCons (gNm 3) (gsCons (gNm 4) gsNil))) bYes (forB (iAny (fVar 2)) (gTuN 2 (gsCons (gNm 5) (gsCons (gNm 6) gsNil))) bYes (yB true (fAnd (fBin opEqH (fVar 3) (fVar 5)) (fBin opNeH (fVar 4) (fVar 6)))) [5, 6]) [3, 4, 5, 6] [.va (dLink a), .va (dLink b), .va (.tup (a.2.2.map dWant)), .no, .no, .no, .no] h = .ok (.bl (told a b)) h := by
    refine (ev_gx (ds := b.2.2.map dWant) (h1 := h) (h2 := h) (r := told a b) rfl (by rw [List.length_map]; omega) ?_).trans (by cases told a b <;> rfl)
    refine (ex_go (emb := dWant) (fun w => [(3, .str w.1), (4, .str w.2)]) (fun _ => true) (fun w => a.2.2.any fun m => decide (w.1 = m.1) && !decide (w.2 = m.2)) (xs := b.2.2) (fun _ _ => rfl) (fun _ _ => rfl) (fun w hw _ => ?_)).trans (by simp only [Bool.true_and]; rfl)
    refine ev_forB (ds := a.2.2.map dWant) (h1 := h) (h2 := h) rfl (by rw [List.length_map]; omega) ?_
    refine (ex_go (emb := dWant) (fun w => [(5, .str w.1), (6, .str w.2)]) (fun _ => true) (fun m => decide (w.1 = m.1) && !decide (w.2 = m.2)) (xs := a.2.2) (fun _ _ => rfl) (fun _ _ => rfl) (fun m hm _ => ?_)).trans (by simp only [Bool.true_and])
    have p := op_eq_str (h := h) (hb.w w hw).1 (ha.w m hm).1
    have q := op_ne_str (h := h) (hb.w w hw).2 (ha.w m hm).2
    generalize decide (w.1 = m.1) = c at p ⊢
    generalize decide (w.2 = m.2) = d at q ⊢
    unfold yB
    have z : fAnd (fBin opEqH (fVar 3) (fVar 5)) (fBin opNeH (fVar 4) (fVar 6)) [.va (dLink a), .va (dLink b), .va (.tup (a.2.2.map dWant)), .va (.str w.1), .va (.str w.2), .va (.str m.1), .va (.str m.2)] h = .ok (.bl (c && !d)) h := by
      simp only [p, a_run1, a_run2, fin_rt, fin_nx, a_seq, seq_nx, seq_rt, a_ret, a_retN, a_set, a_if, a_nx, a_var, get_va, a_c, a_nil, a_cons, a_bin, a_cb, a_call, a_and, a_or, a_bAnd, a_bOr, a_bNot, a_asB, a_tru, a_tup, a_lst, a_asg, a_drop, a_bm, a_ite, and_t, and_f, or_t, or_f, asB_bl, tru_bl, b_ok, s_ok, List.length_cons, List.length_nil, List.map_cons, List.map_nil, List.set_cons_zero, List.set_cons_succ, List.getElem?_cons_zero, List.getElem?_cons_succ, Bool.not_true, Bool.not_false, if_true, if_false, Bool.true_eq_false, Bool.false_eq_true, reduceIte, Nat.reduceAdd, Nat.reduceSub, Nat.reduceLeDiff, Nat.zero_add, eq_self, LIM]
      cases c
      · rfl
      · simp only [q, a_run1, a_run2, fin_rt, fin_nx, a_seq, seq_nx, seq_rt, a_ret, a_retN, a_set, a_if, a_nx, a_var, get_va, a_c, a_nil, a_cons, a_bin, a_cb, a_call, a_and, a_or, a_bAnd, a_bOr, a_bNot, a_asB, a_tru, a_tup, a_lst, a_asg, a_drop, a_bm, a_ite, and_t, and_f, or_t, or_f, asB_bl, tru_bl, b_ok, s_ok, List.length_cons, List.length_nil, List.map_cons, List.map_nil, List.set_cons_zero, List.set_cons_succ, List.getElem?_cons_zero, List.getElem?_cons_succ, Bool.not_true, Bool.not_false, if_true, if_false, Bool.true_eq_false, Bool.false_eq_true, reduceIte, Nat.reduceAdd, Nat.reduceSub, Nat.reduceLeDiff, Nat.zero_add, eq_self, LIM]; rfl
    show R.bind (fAnd (fBin opEqH (fVar 3) (fVar 5)) (fBin opNeH (fVar 4) (fVar 6)) [.va (dLink a), .va (dLink b), .va (.tup (a.2.2.map dWant)), .va (.str w.1), .va (.str w.2), .va (.str m.1), .va (.str m.2)] h) _ = _
    rw [z]
    cases (c && !d) <;> rfl
  simp only [g, a_run1, a_run2, fin_rt, fin_nx, a_seq, seq_nx, seq_rt, a_ret, a_retN, a_set, a_if, a_nx, a_var, get_va, a_c, a_nil, a_cons, a_bin, a_cb, a_call, a_and, a_or, a_bAnd, a_bOr, a_bNot, a_asB, a_tru, a_tup, a_lst, a_asg, a_drop, a_bm, a_ite, and_t, and_f, or_t, or_f, asB_bl, tru_bl, b_ok, s_ok, List.length_cons, List.length_nil, List.map_cons, List.map_nil, List.set_cons_zero, List.set_cons_succ, List.getElem?_cons_zero, List.getElem?_cons_succ, Bool.not_true, Bool.not_false, if_true, if_false, Bool.true_eq_false, Bool.false_eq_true, reduceIte, Nat.reduceAdd, Nat.reduceSub, Nat.reduceLeDiff, Nat.zero_add, eq_self, LIM]
def GWant (st : St) (l : Lnk) (w : Str × Str) : Prop := (w.2 = "n" ∨ w.2 = "r") ∧ ((w.1, l.1.1) ∈ st.pts ∨ (w.1, l.2.1.1) ∈ st.pts)
structure GLnk (st : St) (l : Lnk) : Prop where
  a : GEnd st l.1
  b : GEnd st l.2.1
  ne : l.1.1 ≠ l.2.1.1
  n : l.2.2.length ≤ 2
  nd : (l.2.2.map (·.1)).Nodup
  so : sortS (l.2.2.map (·.1)) = l.2.2.map (·.1)
  w : ∀ w ∈ l.2.2, GWant st l w
theorem as_n : As "n" := by unfold As; decide +kernel
theorem as_r : As "r" := by unfold As; decide +kernel
theorem Sml.pt {st : St} (s : Sml st) {n x : Str} (h : (n, x) ∈ st.pts) : Nm n := s.nm n (List.mem_append.mpr (.inr (List.mem_append.mpr (.inl (List.mem_map.mpr ⟨_, h, rfl⟩)))))
theorem GLnk.las {l : Lnk} (g : GLnk st l) (s : Sml st) : LAs l := ⟨(s.sec g.a.1).as, (s.sec g.b.1).as, fun w hw => by
  obtain ⟨h1, h2⟩ := g.w w hw
  refine ⟨?_, ?_⟩
  · rcases h2 with h2 | h2
    · exact (s.pt h2).as
    · exact (s.pt h2).as
  · rcases h1 with h1 | h1
    · rw [h1]; exact as_n
    · rw [h1]; exact as_r, g.n⟩
theorem prs_pts : ∀ l : List (Str × Str), prsD (l.map dPt) = some (l.map fun p => ((.inr p.1 : Key), D.str p.2))
  | [] => rfl
  | p :: l => by
    rw [List.map_cons, prsD]
    show (some (.inr p.1 : Key)).bind (fun k => (prsD (l.map dPt)).map ((k, D.str p.2) :: ·)) = _
    rw [prs_pts l]
    rfl
theorem put_new {κ α : Type} [DecidableEq κ] {kvs : List (κ × α)} {k : κ} {v : α} (hn : k ∉ kvs.map (·.1)) : put kvs k v = kvs ++ [(k, v)] := by
  unfold put
  rw [if_neg]
  intro z
  obtain ⟨x, hx, e⟩ := List.any_eq_true.mp z
  exact hn (List.mem_map.mpr ⟨x, hx, of_decide_eq_true e⟩)
theorem merge_new : ∀ (more acc : List (Key × D)), ((acc ++ more).map (·.1)).Nodup → mergeD acc more = acc ++ more
  | [], acc, _ => by simp [mergeD]
  | p :: more, acc, nd => by
    have : mergeD acc (p :: more) = mergeD (put acc p.1 p.2) more := rfl
    rw [this, put_new, merge_new more (acc ++ [(p.1, p.2)]) (by simpa using nd)]
    · simp
    · intro hm
      rw [List.map_append, List.nodup_append] at nd
      exact nd.2.2 _ hm _ (by simp) rfl
theorem look_mem {κ α : Type} [DecidableEq κ] {k : κ} {v : α} : ∀ {kvs : List (κ × α)}, (kvs.map (·.1)).Nodup → (k, v) ∈ kvs → look kvs k = some v
  | [], _, m => by simp at m
  | p :: kvs, nd, m => by
    rw [List.map_cons, List.nodup_cons] at nd
    unfold look
    rw [List.find?_cons]
    by_cases e : p.1 = k
    · rw [decide_eq_true e]
      rcases List.mem_cons.mp m with m | m
      · rw [← m]; rfl
      · exact absurd (List.mem_map.mpr ⟨_, m, e.symm⟩) nd.1
    · rw [decide_eq_false e]
      rcases List.mem_cons.mp m with m | m
      · exact absurd (by rw [← m]) e
      · exact look_mem nd.2 m
theorem Sml.ndp {st : St} (s : Sml st) : (st.pts.map (·.1)).Nodup := (List.nodup_append.mp (List.nodup_append.mp s.nd).2.1).1
theorem owners {st : St} (s : Sml st) : opDictT [.pt (st.pts.map dPt)] h = .ok (.dk (st.pts.map fun p => ((.inr p.1 : Key), D.str p.2))) h := by
  show (match prsD (st.pts.map dPt) with | some ps => R.ok (D.dk (mergeD [] ps)) h | none => .st) = _
  rw [prs_pts]
  show R.ok (D.dk (mergeD [] _)) h = _
  rw [merge_new _ [] ?_]
  · rfl
  · rw [List.nil_append, List.map_map]
    have z := s.ndp
    have : (st.pts.map ((fun x : Key × D => x.1) ∘ fun p => ((.inr p.1 : Key), D.str p.2))) = (st.pts.map (·.1)).map Sum.inr := by rw [List.map_map]; rfl
    rw [this]
    exact List.pairwise_map.mpr (z.imp fun hne e => hne (Sum.inr.inj e))
theorem own_look {st : St} (s : Sml st) {n x : Str} (m : (n, x) ∈ st.pts) : look (st.pts.map fun p => ((.inr p.1 : Key), D.str p.2)) (.inr n) = some (.str x) := by
  refine look_mem ?_ (List.mem_map.mpr ⟨(n, x), m, rfl⟩)
  rw [List.map_map]
  have z := s.ndp
  have : (st.pts.map ((fun x : Key × D => x.1) ∘ fun p => ((.inr p.1 : Key), D.str p.2))) = (st.pts.map (·.1)).map Sum.inr := by rw [List.map_map]; rfl
  rw [this]
  exact List.pairwise_map.mpr (z.imp fun hne e => hne (Sum.inr.inj e))
theorem unstrs_map : ∀ l : List Str, unstrs (l.map .str) = some l
  | [] => rfl
  | x :: l => by
    rw [List.map_cons, unstrs, unstrs_map l]
    rfl
theorem eqvAll_refl : ∀ l : List Str, PyData.eqvAll (l.map .str) (l.map .str) = true
  | [] => by rw [List.map_nil, PyData.eqvAll]
  | x :: l => by
    rw [List.map_cons, PyData.eqvAll, eqv_str, eqvAll_refl l]
    simp
theorem eq_lst {l : List Str} (hs : ∀ s ∈ l, As s) : eqH h (.lst (l.map .str)) (.lst (l.map .str)) = some true := by
  have c : cmpH h (.lst (l.map .str)) = some (.list (l.map .str)) := by
    unfold cmpH toPyH
    show ((toPys (l.map .str)).map PyData.list).bind _ = _
    rw [toPys_map (f := D.str) (g := .str) (fun _ => rfl) l]
    exact if_pos (sh_list (fun x hx => sh_str (hs x hx)) (fun x _ => by rw [PyData.depth]; omega))
  unfold eqH
  rw [c]
  show some (PyData.eqv _ _) = _
  rw [PyData.eqv, eqvAll_refl]
theorem e_may_want (e : h[k]? = some (cSt st)) (s : Sml st) {l : Lnk} (g : GLnk st l) : r_Layout_may_want [.ref k, dLink l] h = .ok (.bl true) h := by
  show RS.fin (f_Layout_may_want [.va (.ref k), .va (dLink l), .no, .no, .no, .no, .no, .no, .no, .no] h) = _
  have l1 : LIM = 16777216 := rfl
  have n2 := g.n
  have la := g.las s
  rw [f_Layout_may_want]
  have t3 : gTuN 3 (gsCons (gNm 2) (gsCons (gNm 3) (gsCons (gNm 4) gsNil))) (dLink l) = some [(2, dEnd l.1), (3, dEnd l.2.1), (4, .tup (l.2.2.map dWant))] := rfl
  simp only [t3, sets, f_pts e, owners s, a_run1, a_run2, fin_rt, fin_nx, a_seq, seq_nx, seq_rt, a_ret, a_retN, a_set, a_if, a_nx, a_var, get_va, a_c, a_nil, a_cons, a_bin, a_cb, a_call, a_and, a_or, a_bAnd, a_bOr, a_bNot, a_asB, a_tru, a_tup, a_lst, a_asg, a_drop, a_bm, a_ite, and_t, and_f, or_t, or_f, asB_bl, tru_bl, b_ok, s_ok, List.length_cons, List.length_nil, List.map_cons, List.map_nil, List.set_cons_zero, List.set_cons_succ, List.getElem?_cons_zero, List.getElem?_cons_succ, Bool.not_true, Bool.not_false, if_true, if_false, Bool.true_eq_false, Bool.false_eq_true, reduceIte, Nat.reduceAdd, Nat.reduceSub, Nat.reduceLeDiff, Nat.zero_add, eq_self, LIM]
  have p : ∀ O : D, fLc (iAny (fVar 4)) (gTuN 2 (gsCons (gNm 7) (gsCons (gNm 8) gsNil))) bYes (fVar 7) [7, 8] [.va (.ref k), .va (dLink l), .va (dEnd l.1), .va (dEnd l.2.1), .va (.tup (l.2.2.map dWant)), .va O, .no, .no, .no, .no] h = .ok (.lst ((l.2.2.map (·.1)).map .str)) h := fun O => by
    rw [List.map_map]
    exact ev_lcT (fun p => [(7, .str p.1), (8, .str p.2)]) rfl (by omega) (fun _ _ => rfl) (fun _ _ => rfl)
  simp only [p, a_run1, a_run2, fin_rt, fin_nx, a_seq, seq_nx, seq_rt, a_ret, a_retN, a_set, a_if, a_nx, a_var, get_va, a_c, a_nil, a_cons, a_bin, a_cb, a_call, a_and, a_or, a_bAnd, a_bOr, a_bNot, a_asB, a_tru, a_tup, a_lst, a_asg, a_drop, a_bm, a_ite, and_t, and_f, or_t, or_f, asB_bl, tru_bl, b_ok, s_ok, List.length_cons, List.length_nil, List.map_cons, List.map_nil, List.set_cons_zero, List.set_cons_succ, List.getElem?_cons_zero, List.getElem?_cons_succ, Bool.not_true, Bool.not_false, if_true, if_false, Bool.true_eq_false, Bool.false_eq_true, reduceIte, Nat.reduceAdd, Nat.reduceSub, Nat.reduceLeDiff, Nat.zero_add, eq_self, LIM]
  have q : ∀ O : D, fSortedSet (fVar 6) [.va (.ref k), .va (dLink l), .va (dEnd l.1), .va (dEnd l.2.1), .va (.tup (l.2.2.map dWant)), .va O, .va (.lst ((l.2.2.map (·.1)).map .str)), .no, .no, .no] h = .ok (.lst ((l.2.2.map (·.1)).map .str)) h := fun O => by
    unfold fSortedSet
    simp only [litems, Option.bind_some, unstrs_map, a_run1, a_run2, fin_rt, fin_nx, a_seq, seq_nx, seq_rt, a_ret, a_retN, a_set, a_if, a_nx, a_var, get_va, a_c, a_nil, a_cons, a_bin, a_cb, a_call, a_and, a_or, a_bAnd, a_bOr, a_bNot, a_asB, a_tru, a_tup, a_lst, a_asg, a_drop, a_bm, a_ite, and_t, and_f, or_t, or_f, asB_bl, tru_bl, b_ok, s_ok, List.length_cons, List.length_nil, List.map_cons, List.map_nil, List.set_cons_zero, List.set_cons_succ, List.getElem?_cons_zero, List.getElem?_cons_succ, Bool.not_true, Bool.not_false, if_true, if_false, Bool.true_eq_false, Bool.false_eq_true, reduceIte, Nat.reduceAdd, Nat.reduceSub, Nat.reduceLeDiff, Nat.zero_add, eq_self, LIM]
    rw [if_pos ⟨g.nd, by rw [List.length_map]; omega⟩, g.so]
    rfl
  simp only [q, a_run1, a_run2, fin_rt, fin_nx, a_seq, seq_nx, seq_rt, a_ret, a_retN, a_set, a_if, a_nx, a_var, get_va, a_c, a_nil, a_cons, a_bin, a_cb, a_call, a_and, a_or, a_bAnd, a_bOr, a_bNot, a_asB, a_tru, a_tup, a_lst, a_asg, a_drop, a_bm, a_ite, and_t, and_f, or_t, or_f, asB_bl, tru_bl, b_ok, s_ok, List.length_cons, List.length_nil, List.map_cons, List.map_nil, List.set_cons_zero, List.set_cons_succ, List.getElem?_cons_zero, List.getElem?_cons_succ, Bool.not_true, Bool.not_false, if_true, if_false, Bool.true_eq_false, Bool.false_eq_true, reduceIte, Nat.reduceAdd, Nat.reduceSub, Nat.reduceLeDiff, Nat.zero_add, eq_self, LIM]
  have eqq : opNeH (.lst ((l.2.2.map (·.1)).map .str)) (.lst ((l.2.2.map (·.1)).map .str)) h = .ok (.bl false) h := by
    unfold opNeH
    rw [eq_lst (fun x hx => by
      obtain ⟨w, hw, rfl⟩ := List.mem_map.mp hx
      exact (la.w w hw).1)]
    rfl
  simp only [eqq, a_run1, a_run2, fin_rt, fin_nx, a_seq, seq_nx, seq_rt, a_ret, a_retN, a_set, a_if, a_nx, a_var, get_va, a_c, a_nil, a_cons, a_bin, a_cb, a_call, a_and, a_or, a_bAnd, a_bOr, a_bNot, a_asB, a_tru, a_tup, a_lst, a_asg, a_drop, a_bm, a_ite, and_t, and_f, or_t, or_f, asB_bl, tru_bl, b_ok, s_ok, List.length_cons, List.length_nil, List.map_cons, List.map_nil, List.set_cons_zero, List.set_cons_succ, List.getElem?_cons_zero, List.getElem?_cons_succ, Bool.not_true, Bool.not_false, if_true, if_false, Bool.true_eq_false, Bool.false_eq_true, reduceIte, Nat.reduceAdd, Nat.reduceSub, Nat.reduceLeDiff, Nat.zero_add, eq_self, LIM]
  refine Eq.trans (congrArg RS.fin (congrArg (fun r => R.toS r _) (ev_gx (ds := l.2.2.map dWant) (h1 := h) (h2 := h) (r := false) rfl (by rw [List.length_map]; omega) ?_))) rfl
  refine (ex_go (emb := dWant) (fun w => [(7, .str w.1), (9, .str w.2)]) (fun _ => true) (fun _ => false) (xs := l.2.2) (fun _ _ => rfl) (fun _ _ => rfl) (fun w hw _ => ?_)).trans (by simp)
  obtain ⟨w1, w2⟩ := g.w w hw
  have gt : ∃ x, (x = l.1.1 ∨ x = l.2.1.1) ∧ (w.1, x) ∈ st.pts := by
    rcases w2 with w2 | w2
    · exact ⟨_, .inl rfl, w2⟩
    · exact ⟨_, .inr rfl, w2⟩
  obtain ⟨x, hx, hm⟩ := gt
  have lk := own_look s hm
  generalize (st.pts.map fun p => ((.inr p.1 : Key), D.str p.2)) = O at lk
  have i1 : fBin opIn (fGet1 (fVar 5) (fVar 7)) (fTup (aCons (fBin opSub_ (fVar 2) (fC (.int 0))) (aCons (fBin opSub_ (fVar 3) (fC (.int 0))) aNil))) [.va (.ref k), .va (dLink l), .va (dEnd l.1), .va (dEnd l.2.1), .va (.tup (l.2.2.map dWant)), .va (.dk O), .va (.lst ((l.2.2.map (·.1)).map .str)), .va (.str w.1), .no, .va (.str w.2)] h = .ok (.bl true) h := by
    have gg : fGet1 (fVar 5) (fVar 7) [.va (.ref k), .va (dLink l), .va (dEnd l.1), .va (dEnd l.2.1), .va (.tup (l.2.2.map dWant)), .va (.dk O), .va (.lst ((l.2.2.map (·.1)).map .str)), .va (.str w.1), .no, .va (.str w.2)] h = .ok (.str x) h := by
      show (match (some (look O (.inr w.1))) with | some (some x) => R.ok x h | some none => .ok .non h | none => .st) = _
      rw [lk]
    simp only [gg, sub_e0, a_run1, a_run2, fin_rt, fin_nx, a_seq, seq_nx, seq_rt, a_ret, a_retN, a_set, a_if, a_nx, a_var, get_va, a_c, a_nil, a_cons, a_bin, a_cb, a_call, a_and, a_or, a_bAnd, a_bOr, a_bNot, a_asB, a_tru, a_tup, a_lst, a_asg, a_drop, a_bm, a_ite, and_t, and_f, or_t, or_f, asB_bl, tru_bl, b_ok, s_ok, List.length_cons, List.length_nil, List.map_cons, List.map_nil, List.set_cons_zero, List.set_cons_succ, List.getElem?_cons_zero, List.getElem?_cons_succ, Bool.not_true, Bool.not_false, if_true, if_false, Bool.true_eq_false, Bool.false_eq_true, reduceIte, Nat.reduceAdd, Nat.reduceSub, Nat.reduceLeDiff, Nat.zero_add, eq_self, LIM]
    have z := op_in_tup (h := h) (l := [l.1.1, l.2.1.1]) (n := x) (fun y hy => ?_) ?_
    · refine z.trans ?_
      rw [decide_eq_true]
      rcases hx with rfl | rfl <;> simp
    · rcases List.mem_cons.mp hy with rfl | hy
      · exact la.a
      · rcases List.mem_cons.mp hy with rfl | hy
        · exact la.b
        · exact absurd hy (by simp)
    · rcases hx with rfl | rfl
      · exact la.a
      · exact la.b
  have i2 : opIn (.str w.2) d_LIES h = .ok (.bl true) h := by
    have z := op_in_kt (h := h) (l := ["n", "r"]) (n := w.2) (fun y hy => ?_) ?_
    · refine z.trans ?_
      rw [decide_eq_true]
      rcases w1 with w1 | w1 <;> rw [w1] <;> simp
    · rcases List.mem_cons.mp hy with rfl | hy
      · exact as_n
      · rcases List.mem_cons.mp hy with rfl | hy
        · exact as_r
        · exact absurd hy (by simp)
    · rcases w1 with w1 | w1 <;> rw [w1]
      · exact as_n
      · exact as_r
  unfold yB
  have z : fAnd (fBin opIn (fGet1 (fVar 5) (fVar 7)) (fTup (aCons (fBin opSub_ (fVar 2) (fC (.int 0))) (aCons (fBin opSub_ (fVar 3) (fC (.int 0))) aNil)))) (fBin opIn (fVar 9) (fC d_LIES)) [.va (.ref k), .va (dLink l), .va (dEnd l.1), .va (dEnd l.2.1), .va (.tup (l.2.2.map dWant)), .va (.dk O), .va (.lst ((l.2.2.map (·.1)).map .str)), .va (.str w.1), .no, .va (.str w.2)] h = .ok (.bl true) h := by
    rw [a_and, i1]
    simp only [i2, a_run1, a_run2, fin_rt, fin_nx, a_seq, seq_nx, seq_rt, a_ret, a_retN, a_set, a_if, a_nx, a_var, get_va, a_c, a_nil, a_cons, a_bin, a_cb, a_call, a_and, a_or, a_bAnd, a_bOr, a_bNot, a_asB, a_tru, a_tup, a_lst, a_asg, a_drop, a_bm, a_ite, and_t, and_f, or_t, or_f, asB_bl, tru_bl, b_ok, s_ok, List.length_cons, List.length_nil, List.map_cons, List.map_nil, List.set_cons_zero, List.set_cons_succ, List.getElem?_cons_zero, List.getElem?_cons_succ, Bool.not_true, Bool.not_false, if_true, if_false, Bool.true_eq_false, Bool.false_eq_true, reduceIte, Nat.reduceAdd, Nat.reduceSub, Nat.reduceLeDiff, Nat.zero_add, eq_self, LIM]
  show R.bind (fAnd (fBin opIn (fGet1 (fVar 5) (fVar 7)) (fTup (aCons (fBin opSub_ (fVar 2) (fC (.int 0))) (aCons (fBin opSub_ (fVar 3) (fC (.int 0))) aNil)))) (fBin opIn (fVar 9) (fC d_LIES)) [.va (.ref k), .va (dLink l), .va (dEnd l.1), .va (dEnd l.2.1), .va (.tup (l.2.2.map dWant)), .va (.dk O), .va (.lst ((l.2.2.map (·.1)).map .str)), .va (.str w.1), .no, .va (.str w.2)] h) _ = _
  rw [z]
  rfl
end
end Kx
end

section
set_option linter.all false
set_option maxRecDepth 100000
set_option maxHeartbeats 400000
/-! Ev10: parts added to a station. -/
namespace Kx
open PySem PySem.Spec PyProof.Rows L2 GxR Gx Dy
section
variable {h : Hq} {k i : Nat} {st : St} {sl : List Sl}
theorem e_is_alone (e : h[k]? = some (cSt st)) (s : Sml st) (gs : ∀ o ∈ st.links, GLnk st o) {l : Lnk} (g : GLnk st l) (al : ∀ o ∈ st.links, share l o = true → told l o = true) : r_Layout_is_alone [.ref k, dLink l] h = .ok (.bl true) h := by
  show RS.fin (f_Layout_is_alone [.va (.ref k), .va (dLink l), .no] h) = _
  have c3 := s.c3
  have l1 : LIM = 16777216 := rfl
  rw [f_Layout_is_alone]
  simp only [a_run1, a_run2, fin_rt, fin_nx, a_seq, seq_nx, seq_rt, a_ret, a_retN, a_set, a_if, a_nx, a_var, get_va, a_c, a_nil, a_cons, a_bin, a_cb, a_call, a_and, a_or, a_bAnd, a_bOr, a_bNot, a_asB, a_tru, a_tup, a_lst, a_asg, a_drop, a_bm, a_ite, and_t, and_f, or_t, or_f, asB_bl, tru_bl, b_ok, s_ok, List.length_cons, List.length_nil, List.map_cons, List.map_nil, List.set_cons_zero, List.set_cons_succ, List.getElem?_cons_zero, List.getElem?_cons_succ, Bool.not_true, Bool.not_false, if_true, if_false, Bool.true_eq_false, Bool.false_eq_true, reduceIte, Nat.reduceAdd, Nat.reduceSub, Nat.reduceLeDiff, Nat.zero_add, eq_self, LIM]
  refine Eq.trans (congrArg RS.fin (congrArg (fun r => R.toS r _) (ev_gx (ds := st.links.map dLink) (h1 := h) (h2 := h) (r := false) (ev_any (f_lnk e) rfl) (by rw [List.length_map]; omega) ?_))) rfl
  refine (ex_go (emb := dLink) (fun o => [(2, dLink o)]) (fun o => share l o) (fun o => (told l o == false)) (xs := st.links) (fun _ _ => rfl) (fun o ho => ?_) (fun o ho _ => ?_)).trans ?_
  · show fTru _ [.va (.ref k), .va (dLink l), .va (dLink o)] h = _
    simp only [e_share_end (g.las s) ((gs o ho).las s), a_run1, a_run2, fin_rt, fin_nx, a_seq, seq_nx, seq_rt, a_ret, a_retN, a_set, a_if, a_nx, a_var, get_va, a_c, a_nil, a_cons, a_bin, a_cb, a_call, a_and, a_or, a_bAnd, a_bOr, a_bNot, a_asB, a_tru, a_tup, a_lst, a_asg, a_drop, a_bm, a_ite, and_t, and_f, or_t, or_f, asB_bl, tru_bl, b_ok, s_ok, List.length_cons, List.length_nil, List.map_cons, List.map_nil, List.set_cons_zero, List.set_cons_succ, List.getElem?_cons_zero, List.getElem?_cons_succ, Bool.not_true, Bool.not_false, if_true, if_false, Bool.true_eq_false, Bool.false_eq_true, reduceIte, Nat.reduceAdd, Nat.reduceSub, Nat.reduceLeDiff, Nat.zero_add, eq_self, LIM]
  · show yB false _ [.va (.ref k), .va (dLink l), .va (dLink o)] h = _
    unfold yB
    simp only [e_told_apart (g.las s) ((gs o ho).las s), a_run1, a_run2, fin_rt, fin_nx, a_seq, seq_nx, seq_rt, a_ret, a_retN, a_set, a_if, a_nx, a_var, get_va, a_c, a_nil, a_cons, a_bin, a_cb, a_call, a_and, a_or, a_bAnd, a_bOr, a_bNot, a_asB, a_tru, a_tup, a_lst, a_asg, a_drop, a_bm, a_ite, and_t, and_f, or_t, or_f, asB_bl, tru_bl, b_ok, s_ok, List.length_cons, List.length_nil, List.map_cons, List.map_nil, List.set_cons_zero, List.set_cons_succ, List.getElem?_cons_zero, List.getElem?_cons_succ, Bool.not_true, Bool.not_false, if_true, if_false, Bool.true_eq_false, Bool.false_eq_true, reduceIte, Nat.reduceAdd, Nat.reduceSub, Nat.reduceLeDiff, Nat.zero_add, eq_self, LIM]
  · congr 1
    rw [List.any_eq_false]
    intro o ho hh
    rw [Bool.and_eq_true] at hh
    rw [al o ho hh.1] at hh
    exact absurd hh.2 (by decide)
theorem ge_f {n m : Nat} (hl : n < m) : opCI .ge (.int n) (.int m) h = .ok (.bl false) h := by
  show R.ok (D.bl (decide ((m : Int) ≤ n))) h = _
  rw [decide_eq_false (by omega)]
theorem len_tup {ds : List D} : opLen [.tup ds] h = .ok (.int ds.length) h := rfl
theorem len_pt {ds : List D} : opLen [.pt ds] h = .ok (.int ds.length) h := rfl
theorem add_tup {a b : List D} (hl : a.length + b.length ≤ LIM) : opAddY (.tup a) (.tup b) h = .ok (.tup (a ++ b)) h := by
  have z : opAddY (.tup a) (.tup b) h = if a.length + b.length ≤ LIM then .ok (.tup (a ++ b)) h else .st := by cases a <;> rfl
  rw [z, if_pos hl]
theorem add_pt {a b : List D} (hl : a.length + b.length ≤ LIM) : opAddY (.pt a) (.pt b) h = .ok (.pt (a ++ b)) h := if_pos hl
theorem s_sec {fv : FE} {l : List Str} (e : h[k]? = some (cSt st)) (ev : fv (.va (.ref k) :: sl) h = .ok (.tup (l.map .str)) h) : fFldS 0 "sections" (fVar 0) fv (.va (.ref k) :: sl) h = .nx (.va (.ref k) :: sl) (h.set k (cSt { st with secs := l })) := by
  unfold fFldS
  rw [ev]
  show (match h[k]? with | some (.ins c' fs) => if c' = 0 ∧ fs.length < 1000 then RS.nx (.va (.ref k) :: sl) (h.set k (.ins c' (putFd "sections" (.tup (l.map .str)) fs))) else .st | _ => .st) = _
  rw [e]; rfl
theorem s_pts {fv : FE} {l : List (Str × Str)} (e : h[k]? = some (cSt st)) (ev : fv (.va (.ref k) :: sl) h = .ok (.pt (l.map dPt)) h) : fFldS 0 "points" (fVar 0) fv (.va (.ref k) :: sl) h = .nx (.va (.ref k) :: sl) (h.set k (cSt { st with pts := l })) := by
  unfold fFldS
  rw [ev]
  show (match h[k]? with | some (.ins c' fs) => if c' = 0 ∧ fs.length < 1000 then RS.nx (.va (.ref k) :: sl) (h.set k (.ins c' (putFd "points" (.pt (l.map dPt)) fs))) else .st | _ => .st) = _
  rw [e]; rfl
theorem s_lnk {fv : FE} {l : List Lnk} (e : h[k]? = some (cSt st)) (ev : fv (.va (.ref k) :: sl) h = .ok (.tup (l.map dLink)) h) : fFldS 0 "links" (fVar 0) fv (.va (.ref k) :: sl) h = .nx (.va (.ref k) :: sl) (h.set k (cSt { st with links := l })) := by
  unfold fFldS
  rw [ev]
  show (match h[k]? with | some (.ins c' fs) => if c' = 0 ∧ fs.length < 1000 then RS.nx (.va (.ref k) :: sl) (h.set k (.ins c' (putFd "links" (.tup (l.map dLink)) fs))) else .st | _ => .st) = _
  rw [e]; rfl
theorem s_sig {fv : FE} {l : List (Str × (Str × Nat))} (e : h[k]? = some (cSt st)) (ev : fv (.va (.ref k) :: sl) h = .ok (.tup (l.map dSig)) h) : fFldS 0 "signals" (fVar 0) fv (.va (.ref k) :: sl) h = .nx (.va (.ref k) :: sl) (h.set k (cSt { st with sigs := l })) := by
  unfold fFldS
  rw [ev]
  show (match h[k]? with | some (.ins c' fs) => if c' = 0 ∧ fs.length < 1000 then RS.nx (.va (.ref k) :: sl) (h.set k (.ins c' (putFd "signals" (.tup (l.map dSig)) fs))) else .st | _ => .st) = _
  rw [e]; rfl
theorem e_add_section (e : h[k]? = some (cSt st)) (s : Sml st) {n : Str} (hn : Nm n) (fr : n ∉ st.names) (c : st.secs.length < 30) : r_Layout_add_section [.ref k, .str n] h = .ok (.bl true) (h.set k (cSt { st with secs := st.secs ++ [n] })) := by
  show RS.fin (f_Layout_add_section [.va (.ref k), .va (.str n)] h) = _
  rw [f_Layout_add_section]
  have v : fBin opAddY (fFld 0 "sections" (fVar 0)) (fTup (aCons (fVar 1) aNil)) [.va (.ref k), .va (.str n)] h = .ok (.tup ((st.secs ++ [n]).map .str)) h := by
    have z : opAddY (.tup (st.secs.map .str)) (.tup [.str n]) h = .ok (.tup ((st.secs ++ [n]).map .str)) h := by
      rw [add_tup (by simp [LIM]; omega), List.map_append]; rfl
    simp only [f_sec e, a_run1, a_run2, fin_rt, fin_nx, a_seq, seq_nx, seq_rt, a_ret, a_retN, a_set, a_if, a_nx, a_var, get_va, a_c, a_nil, a_cons, a_bin, a_cb, a_call, a_and, a_or, a_bAnd, a_bOr, a_bNot, a_asB, a_tru, a_tup, a_lst, a_asg, a_drop, a_bm, a_ite, and_t, and_f, or_t, or_f, asB_bl, tru_bl, b_ok, s_ok, List.length_cons, List.length_nil, List.map_cons, List.map_nil, List.set_cons_zero, List.set_cons_succ, List.getElem?_cons_zero, List.getElem?_cons_succ, Bool.not_true, Bool.not_false, if_true, if_false, Bool.true_eq_false, Bool.false_eq_true, reduceIte, Nat.reduceAdd, Nat.reduceSub, Nat.reduceLeDiff, Nat.zero_add, eq_self, LIM]
    exact z
  have c0 : opCI .ge (.int ((st.secs.map D.str).length : Nat)) d_MOST_SECTIONS h = .ok (.bl false) h := ge_f (m := 30) (by rw [List.length_map]; exact c)
  rw [a_seq, a_if]
  simp only [f_sec e, len_tup, c0, a_meth (m := "_is_free") e rfl, e_is_free e s hn fr, a_run1, a_run2, fin_rt, fin_nx, a_seq, seq_nx, seq_rt, a_ret, a_retN, a_set, a_if, a_nx, a_var, get_va, a_c, a_nil, a_cons, a_bin, a_cb, a_call, a_and, a_or, a_bAnd, a_bOr, a_bNot, a_asB, a_tru, a_tup, a_lst, a_asg, a_drop, a_bm, a_ite, and_t, and_f, or_t, or_f, asB_bl, tru_bl, b_ok, s_ok, List.length_cons, List.length_nil, List.map_cons, List.map_nil, List.set_cons_zero, List.set_cons_succ, List.getElem?_cons_zero, List.getElem?_cons_succ, Bool.not_true, Bool.not_false, if_true, if_false, Bool.true_eq_false, Bool.false_eq_true, reduceIte, Nat.reduceAdd, Nat.reduceSub, Nat.reduceLeDiff, Nat.zero_add, eq_self, LIM]
  rw [s_sec e v]
  simp only [a_run1, a_run2, fin_rt, fin_nx, a_seq, seq_nx, seq_rt, a_ret, a_retN, a_set, a_if, a_nx, a_var, get_va, a_c, a_nil, a_cons, a_bin, a_cb, a_call, a_and, a_or, a_bAnd, a_bOr, a_bNot, a_asB, a_tru, a_tup, a_lst, a_asg, a_drop, a_bm, a_ite, and_t, and_f, or_t, or_f, asB_bl, tru_bl, b_ok, s_ok, List.length_cons, List.length_nil, List.map_cons, List.map_nil, List.set_cons_zero, List.set_cons_succ, List.getElem?_cons_zero, List.getElem?_cons_succ, Bool.not_true, Bool.not_false, if_true, if_false, Bool.true_eq_false, Bool.false_eq_true, reduceIte, Nat.reduceAdd, Nat.reduceSub, Nat.reduceLeDiff, Nat.zero_add, eq_self, LIM]
theorem e_add_point (e : h[k]? = some (cSt st)) (s : Sml st) {n x : Str} (hn : Nm n) (fr : n ∉ st.names) (c : st.pts.length < 12) (hx : x ∈ st.secs) : r_Layout_add_point [.ref k, .str n, .str x] h = .ok (.bl true) (h.set k (cSt { st with pts := st.pts ++ [(n, x)] })) := by
  show RS.fin (f_Layout_add_point [.va (.ref k), .va (.str n), .va (.str x)] h) = _
  rw [f_Layout_add_point]
  have v : fBin opAddY (fFld 0 "points" (fVar 0)) (fTupF (aCons (fTup (aCons (fVar 1) (aCons (fVar 2) aNil))) aNil)) [.va (.ref k), .va (.str n), .va (.str x)] h = .ok (.pt ((st.pts ++ [(n, x)]).map dPt)) h := by
    have z : opAddY (.pt (st.pts.map dPt)) (.pt [dPt (n, x)]) h = .ok (.pt ((st.pts ++ [(n, x)]).map dPt)) h := by
      rw [add_pt (by simp [LIM]; omega), List.map_append]; rfl
    unfold fTupF
    simp only [f_pts e, a_run1, a_run2, fin_rt, fin_nx, a_seq, seq_nx, seq_rt, a_ret, a_retN, a_set, a_if, a_nx, a_var, get_va, a_c, a_nil, a_cons, a_bin, a_cb, a_call, a_and, a_or, a_bAnd, a_bOr, a_bNot, a_asB, a_tru, a_tup, a_lst, a_asg, a_drop, a_bm, a_ite, and_t, and_f, or_t, or_f, asB_bl, tru_bl, b_ok, s_ok, List.length_cons, List.length_nil, List.map_cons, List.map_nil, List.set_cons_zero, List.set_cons_succ, List.getElem?_cons_zero, List.getElem?_cons_succ, Bool.not_true, Bool.not_false, if_true, if_false, Bool.true_eq_false, Bool.false_eq_true, reduceIte, Nat.reduceAdd, Nat.reduceSub, Nat.reduceLeDiff, Nat.zero_add, eq_self, LIM]
    exact z
  have c0 : opCI .ge (.int ((st.pts.map dPt).length : Nat)) d_MOST_POINTS h = .ok (.bl false) h := ge_f (m := 12) (by rw [List.length_map]; exact c)
  rw [a_seq, a_if]
  simp only [f_pts e, f_sec e, len_pt, c0, a_meth (m := "_is_free") e rfl, e_is_free e s hn fr, op_nin_tup (fun x hx => (s.sec hx).as) (s.sec hx).as, decide_eq_true hx, a_run1, a_run2, fin_rt, fin_nx, a_seq, seq_nx, seq_rt, a_ret, a_retN, a_set, a_if, a_nx, a_var, get_va, a_c, a_nil, a_cons, a_bin, a_cb, a_call, a_and, a_or, a_bAnd, a_bOr, a_bNot, a_asB, a_tru, a_tup, a_lst, a_asg, a_drop, a_bm, a_ite, and_t, and_f, or_t, or_f, asB_bl, tru_bl, b_ok, s_ok, List.length_cons, List.length_nil, List.map_cons, List.map_nil, List.set_cons_zero, List.set_cons_succ, List.getElem?_cons_zero, List.getElem?_cons_succ, Bool.not_true, Bool.not_false, if_true, if_false, Bool.true_eq_false, Bool.false_eq_true, reduceIte, Nat.reduceAdd, Nat.reduceSub, Nat.reduceLeDiff, Nat.zero_add, eq_self, LIM]
  rw [s_pts e v]
  simp only [a_run1, a_run2, fin_rt, fin_nx, a_seq, seq_nx, seq_rt, a_ret, a_retN, a_set, a_if, a_nx, a_var, get_va, a_c, a_nil, a_cons, a_bin, a_cb, a_call, a_and, a_or, a_bAnd, a_bOr, a_bNot, a_asB, a_tru, a_tup, a_lst, a_asg, a_drop, a_bm, a_ite, and_t, and_f, or_t, or_f, asB_bl, tru_bl, b_ok, s_ok, List.length_cons, List.length_nil, List.map_cons, List.map_nil, List.set_cons_zero, List.set_cons_succ, List.getElem?_cons_zero, List.getElem?_cons_succ, Bool.not_true, Bool.not_false, if_true, if_false, Bool.true_eq_false, Bool.false_eq_true, reduceIte, Nat.reduceAdd, Nat.reduceSub, Nat.reduceLeDiff, Nat.zero_add, eq_self, LIM]
theorem e_add_signal (e : h[k]? = some (cSt st)) (s : Sml st) {n : Str} {x : Str × Nat} (hn : Nm n) (fr : n ∉ st.names) (c : st.sigs.length < 16) (gx : GEnd st x) (gs : ∀ y ∈ st.sigs, GEnd st y.2) (nx : x ∉ st.sigs.map (·.2)) :
    r_Layout_add_signal [.ref k, .str n, dEnd x] h = .ok (.bl true) (h.set k (cSt { st with sigs := st.sigs ++ [(n, x)] })) := by
  show RS.fin (f_Layout_add_signal [.va (.ref k), .va (.str n), .va (dEnd x), .no, .no] h) = _
  have l1 : LIM = 16777216 := rfl
  rw [f_Layout_add_signal]
  have v : fBin opAddY (fFld 0 "signals" (fVar 0)) (fTup (aCons (fTup (aCons (fVar 1) (aCons (fVar 2) aNil))) aNil)) [.va (.ref k), .va (.str n), .va (dEnd x), .no, .no] h = .ok (.tup ((st.sigs ++ [(n, x)]).map dSig)) h := by
    have z : opAddY (.tup (st.sigs.map dSig)) (.tup [dSig (n, x)]) h = .ok (.tup ((st.sigs ++ [(n, x)]).map dSig)) h := by
      rw [add_tup (by simp [LIM]; omega), List.map_append]; rfl
    simp only [f_sig e, a_run1, a_run2, fin_rt, fin_nx, a_seq, seq_nx, seq_rt, a_ret, a_retN, a_set, a_if, a_nx, a_var, get_va, a_c, a_nil, a_cons, a_bin, a_cb, a_call, a_and, a_or, a_bAnd, a_bOr, a_bNot, a_asB, a_tru, a_tup, a_lst, a_asg, a_drop, a_bm, a_ite, and_t, and_f, or_t, or_f, asB_bl, tru_bl, b_ok, s_ok, List.length_cons, List.length_nil, List.map_cons, List.map_nil, List.set_cons_zero, List.set_cons_succ, List.getElem?_cons_zero, List.getElem?_cons_succ, Bool.not_true, Bool.not_false, if_true, if_false, Bool.true_eq_false, Bool.false_eq_true, reduceIte, Nat.reduceAdd, Nat.reduceSub, Nat.reduceLeDiff, Nat.zero_add, eq_self, LIM]
    exact z
  have c0 : opCI .ge (.int ((st.sigs.map dSig).length : Nat)) d_MOST_SIGNALS h = .ok (.bl false) h := ge_f (m := 16) (by rw [List.length_map]; exact c)
  have g : fGx true (iAny (fFld 0 "signals" (fVar 0))) (gTuN 2 (gsCons (gNm 3) (gsCons (gNm 4) gsNil))) bYes (yB true (fBin opEqH (fVar 2) (fVar 4))) [3, 4] [.va (.ref k), .va (.str n), .va (dEnd x), .no, .no] h = .ok (.bl false) h := by
    refine (ev_gx (ds := st.sigs.map dSig) (h1 := h) (h2 := h) (r := false) (ev_any (f_sig e) rfl) (by rw [List.length_map]; omega) ?_).trans rfl
    refine (ex_go (emb := dSig) (fun y => [(3, .str y.1), (4, dEnd y.2)]) (fun _ => true) (fun _ => false) (xs := st.sigs) (fun _ _ => rfl) (fun _ _ => rfl) (fun y hy _ => ?_)).trans (by simp)
    unfold yB
    show R.bind (opEqH (dEnd x) (dEnd y.2) h) _ = _
    rw [op_eq_end (s.sec gx.1).as (s.sec (gs y hy).1).as, decide_eq_false]
    · rfl
    · intro hh
      exact nx (List.mem_map.mpr ⟨y, hy, hh.symm⟩)
  rw [a_seq, a_if]
  simp only [f_sig e, len_tup, c0, a_meth (m := "_is_free") e rfl, e_is_free e s hn fr, a_meth (m := "_is_end") e rfl, e_is_end e s gx, g, a_run1, a_run2, fin_rt, fin_nx, a_seq, seq_nx, seq_rt, a_ret, a_retN, a_set, a_if, a_nx, a_var, get_va, a_c, a_nil, a_cons, a_bin, a_cb, a_call, a_and, a_or, a_bAnd, a_bOr, a_bNot, a_asB, a_tru, a_tup, a_lst, a_asg, a_drop, a_bm, a_ite, and_t, and_f, or_t, or_f, asB_bl, tru_bl, b_ok, s_ok, List.length_cons, List.length_nil, List.map_cons, List.map_nil, List.set_cons_zero, List.set_cons_succ, List.getElem?_cons_zero, List.getElem?_cons_succ, Bool.not_true, Bool.not_false, if_true, if_false, Bool.true_eq_false, Bool.false_eq_true, reduceIte, Nat.reduceAdd, Nat.reduceSub, Nat.reduceLeDiff, Nat.zero_add, eq_self, LIM]
  rw [s_sig e v]
  simp only [a_run1, a_run2, fin_rt, fin_nx, a_seq, seq_nx, seq_rt, a_ret, a_retN, a_set, a_if, a_nx, a_var, get_va, a_c, a_nil, a_cons, a_bin, a_cb, a_call, a_and, a_or, a_bAnd, a_bOr, a_bNot, a_asB, a_tru, a_tup, a_lst, a_asg, a_drop, a_bm, a_ite, and_t, and_f, or_t, or_f, asB_bl, tru_bl, b_ok, s_ok, List.length_cons, List.length_nil, List.map_cons, List.map_nil, List.set_cons_zero, List.set_cons_succ, List.getElem?_cons_zero, List.getElem?_cons_succ, Bool.not_true, Bool.not_false, if_true, if_false, Bool.true_eq_false, Bool.false_eq_true, reduceIte, Nat.reduceAdd, Nat.reduceSub, Nat.reduceLeDiff, Nat.zero_add, eq_self, LIM]
theorem tup_of {w : Nat} {ds : List D} (e : h[w]? = some (.lst ds)) (hs : sl[i]? = some (.va (.ref w))) : fTupOf (fVar i) sl h = .ok (.tup ds) h := by
  unfold fTupOf
  rw [ev_var hs, R.bind_ok]
  simp only [e]
theorem e_add_link (e : h[k]? = some (cSt st)) (s : Sml st) (gs : ∀ o ∈ st.links, GLnk st o) {l : Lnk} (g : GLnk st l) (al : ∀ o ∈ st.links, share l o = true → told l o = true) (c : st.links.length < 60) {w : Nat} (ew : h[w]? = some (.lst (l.2.2.map dWant))) :
    r_Layout_add_link [.ref k, dEnd l.1, dEnd l.2.1, .ref w] h = .ok (.bl true) (h.set k (cSt { st with links := st.links ++ [l] })) := by
  show RS.fin (f_Layout_add_link [.va (.ref k), .va (dEnd l.1), .va (dEnd l.2.1), .va (.ref w), .no] h) = _
  rw [f_Layout_add_link]
  have v : fBin opAddY (fFld 0 "links" (fVar 0)) (fTup (aCons (fVar 4) aNil)) [.va (.ref k), .va (dEnd l.1), .va (dEnd l.2.1), .va (.ref w), .va (dLink l)] h = .ok (.tup ((st.links ++ [l]).map dLink)) h := by
    have z : opAddY (.tup (st.links.map dLink)) (.tup [dLink l]) h = .ok (.tup ((st.links ++ [l]).map dLink)) h := by
      rw [add_tup (by simp [LIM]; omega), List.map_append]; rfl
    simp only [f_lnk e, a_run1, a_run2, fin_rt, fin_nx, a_seq, seq_nx, seq_rt, a_ret, a_retN, a_set, a_if, a_nx, a_var, get_va, a_c, a_nil, a_cons, a_bin, a_cb, a_call, a_and, a_or, a_bAnd, a_bOr, a_bNot, a_asB, a_tru, a_tup, a_lst, a_asg, a_drop, a_bm, a_ite, and_t, and_f, or_t, or_f, asB_bl, tru_bl, b_ok, s_ok, List.length_cons, List.length_nil, List.map_cons, List.map_nil, List.set_cons_zero, List.set_cons_succ, List.getElem?_cons_zero, List.getElem?_cons_succ, Bool.not_true, Bool.not_false, if_true, if_false, Bool.true_eq_false, Bool.false_eq_true, reduceIte, Nat.reduceAdd, Nat.reduceSub, Nat.reduceLeDiff, Nat.zero_add, eq_self, LIM]
    exact z
  have c0 : opCI .ge (.int ((st.links.map dLink).length : Nat)) d_MOST_LINKS h = .ok (.bl false) h := ge_f (m := 60) (by rw [List.length_map]; exact c)
  have tw : fTupOf (fVar 3) [.va (.ref k), .va (dEnd l.1), .va (dEnd l.2.1), .va (.ref w), .no] h = .ok (.tup (l.2.2.map dWant)) h := tup_of ew rfl
  rw [a_seq, a_if]
  simp only [f_lnk e, len_tup, c0, a_meth (m := "_may_join") e rfl, e_may_join e s g.a g.b g.ne, tw, a_run1, a_run2, fin_rt, fin_nx, a_seq, seq_nx, seq_rt, a_ret, a_retN, a_set, a_if, a_nx, a_var, get_va, a_c, a_nil, a_cons, a_bin, a_cb, a_call, a_and, a_or, a_bAnd, a_bOr, a_bNot, a_asB, a_tru, a_tup, a_lst, a_asg, a_drop, a_bm, a_ite, and_t, and_f, or_t, or_f, asB_bl, tru_bl, b_ok, s_ok, List.length_cons, List.length_nil, List.map_cons, List.map_nil, List.set_cons_zero, List.set_cons_succ, List.getElem?_cons_zero, List.getElem?_cons_succ, Bool.not_true, Bool.not_false, if_true, if_false, Bool.true_eq_false, Bool.false_eq_true, reduceIte, Nat.reduceAdd, Nat.reduceSub, Nat.reduceLeDiff, Nat.zero_add, eq_self, LIM]
  rw [show D.tup [dEnd l.1, dEnd l.2.1, D.tup (l.2.2.map dWant)] = dLink l from rfl]
  simp only [a_meth (m := "_may_want") e rfl, e_may_want e s g, a_meth (m := "_is_alone") e rfl, e_is_alone e s gs g al, a_run1, a_run2, fin_rt, fin_nx, a_seq, seq_nx, seq_rt, a_ret, a_retN, a_set, a_if, a_nx, a_var, get_va, a_c, a_nil, a_cons, a_bin, a_cb, a_call, a_and, a_or, a_bAnd, a_bOr, a_bNot, a_asB, a_tru, a_tup, a_lst, a_asg, a_drop, a_bm, a_ite, and_t, and_f, or_t, or_f, asB_bl, tru_bl, b_ok, s_ok, List.length_cons, List.length_nil, List.map_cons, List.map_nil, List.set_cons_zero, List.set_cons_succ, List.getElem?_cons_zero, List.getElem?_cons_succ, Bool.not_true, Bool.not_false, if_true, if_false, Bool.true_eq_false, Bool.false_eq_true, reduceIte, Nat.reduceAdd, Nat.reduceSub, Nat.reduceLeDiff, Nat.zero_add, eq_self, LIM]
  rw [s_lnk e v]
  simp only [a_run1, a_run2, fin_rt, fin_nx, a_seq, seq_nx, seq_rt, a_ret, a_retN, a_set, a_if, a_nx, a_var, get_va, a_c, a_nil, a_cons, a_bin, a_cb, a_call, a_and, a_or, a_bAnd, a_bOr, a_bNot, a_asB, a_tru, a_tup, a_lst, a_asg, a_drop, a_bm, a_ite, and_t, and_f, or_t, or_f, asB_bl, tru_bl, b_ok, s_ok, List.length_cons, List.length_nil, List.map_cons, List.map_nil, List.set_cons_zero, List.set_cons_succ, List.getElem?_cons_zero, List.getElem?_cons_succ, Bool.not_true, Bool.not_false, if_true, if_false, Bool.true_eq_false, Bool.false_eq_true, reduceIte, Nat.reduceAdd, Nat.reduceSub, Nat.reduceLeDiff, Nat.zero_add, eq_self, LIM]
end
end Kx
end

section
set_option linter.all false
set_option maxRecDepth 100000
set_option maxHeartbeats 400000
/-! Ev11: a row's words read. -/
namespace Dy
open PySem PySem.Spec PyProof.Rows L2 GxR Gx
section
variable {h h1 h2 : Hq} {sl sl1 : List Sl} {d x y : D} {ds : List D} {fe : FE} {fs : FI} {F : FS} {R : D → FS} {f : D → Option (Option (List D))} {is : List Nat}
theorem a_match {F : D → FS} : fMatch fe F sl h = (fe sl h).toS fun d h1 => F d sl h1 := id rfl
theorem cs_hit (e : f d = some (some ds)) : csCons f is F R d sl h = F (sets sl (is.zip ds)) h := by unfold csCons; rw [e]
theorem cs_miss (e : f d = some none) : csCons f is F R d sl h = R d sl h := by unfold csCons; rw [e]
def r3 (ds : List D) (h1 : Hq) : Dy.R (List D) := match ds with
  | [.int i, .int j, .int c] => if c ≠ 0 ∧ c.natAbs < 1073741824 ∧ Builtin.Range.small i j c = true ∧ 0 ≤ Builtin.Range.rangeSize i j c then .ok ((List.range (Builtin.Range.rangeSize i j c).toNat).map fun (k : Nat) => .int (i + (k : Int) * c)) h1 else .st
  | _ => .st
theorem a_r3 : iR3' fs sl h = (fs sl h).bind r3 := id rfl
theorem a_for {fI : FI} {ft : D → Option Bs} : fFor fI ft F sl h = (fI sl h).toS fun ds h1 => forGo ft F ds sl h1 := id rfl
theorem a_newCell : newCell fe sl h = (fe sl h).bind fun d h1 => match cellOf d with
  | some c => .ok (.ref h1.length) (h1 ++ [c])
  | none => .st := rfl
theorem app_ok {n : Nat} (e : h[n]? = some (.lst ds)) (hl : ds.length < LIM) : opAppend (.ref n) [y] h = .ok .non (h.set n (.lst (ds ++ [y]))) := by
  unfold opAppend
  simp only [e]
  exact if_pos hl
theorem bt_list {n : Nat} (e : h[n]? = some (.lst ds)) : BT.ok .list (.ref n) h = true := by
  unfold BT.ok
  simp only [e]
theorem last_get {c : C} : (h ++ [c])[h.length]? = some c := by simp
theorem last_set {c c' : C} : (h ++ [c]).set h.length c' = h ++ [c'] := by simp
end
end Dy
namespace Kx
open PySem PySem.Spec PyProof.Rows L2 GxR Gx Dy
section
variable {h : Hq} {k i : Nat} {st : St} {sl : List Sl}
theorem as_when : As "when" := by unfold As; decide +kernel
theorem as_and : As "and" := by unfold As; decide +kernel
theorem r3_0 : r3 [.int 0, .int ((0 : Nat) : Int), .int 3] h = .ok [] h := rfl
theorem r3_3 : r3 [.int 0, .int ((3 : Nat) : Int), .int 3] h = .ok [.int 0] h := rfl
theorem r3_6 : r3 [.int 0, .int ((6 : Nat) : Int), .int 3] h = .ok [.int 0, .int 3] h := rfl
def wrdW : Str → List (Str × Str) → List Str
  | _, [] => []
  | lead, w :: r => lead :: w.1 :: w.2 :: wrdW "and" r
abbrev rwBody : FS := (fSeq (fSet 3 (fIte (fAsB (fBin (opCI .gt) (fVar 2) (fC (.int 0)))) (fC (.str "and")) (fC (.str "when"))))
  (fSeq (fIf (bOr (fAsB (fBin opNeH (fBin opSub_ (fVar 0) (fVar 2)) (fVar 3))) (fAsB (fBin (opCI .gt) (fBin opAddY (fVar 2) (fC (.int 3))) (fCb opLen (aCons (fVar 0) aNil))))) (fRet (fC .non)) fNx)
  (fDrop (fBm .list opAppend (fVar 1) (aCons (fTup (aCons (fBin opSub_ (fVar 0) (fBin opAddY (fVar 2) (fC (.int 1)))) (aCons (fBin opSub_ (fVar 0) (fBin opAddY (fVar 2) (fC (.int 2)))) aNil))) aNil)))))
theorem add_i {a b : Int} : opAddY (.int a) (.int b) h = .ok (.int (a + b)) h := rfl
theorem len_lst {ds : List D} : opLen [.lst ds] h = .ok (.int ds.length) h := rfl
theorem ci_gt {a b : Int} : opCI .gt (.int a) (.int b) h = .ok (.bl (decide (b < a))) h := rfl
theorem wants_step {W : List D} {at_ : Int} {lead p l : Str} {n : Nat} {acc : List D} {x : Sl} (e0 : atI W at_ = some (.str lead)) (e1 : atI W (at_ + 1) = some (.str p)) (e2 : atI W (at_ + 2) = some (.str l)) (el : at_ + 3 ≤ W.length)
    (hl : lead = if decide (0 < at_) = true then "and" else "when") (en : h[n]? = some (.lst acc)) (ea : acc.length < LIM) :
    rwBody [.va (.lst W), .va (.ref n), .va (.int at_), x] h = .nx [.va (.lst W), .va (.ref n), .va (.int at_), .va (.str lead)] (h.set n (.lst (acc ++ [.tup [.str p, .str l]]))) := by
  have al : As lead := by
    rw [hl]
    split
    · exact as_and
    · exact as_when
  have it : fIte (fAsB (fBin (opCI .gt) (fVar 2) (fC (.int 0)))) (fC (.str "and")) (fC (.str "when")) [.va (.lst W), .va (.ref n), .va (.int at_), x] h = .ok (.str lead) h := by
    simp only [ci_gt, a_run1, a_run2, fin_rt, fin_nx, a_seq, seq_nx, seq_rt, a_ret, a_retN, a_set, a_if, a_nx, a_var, get_va, a_c, a_nil, a_cons, a_bin, a_cb, a_call, a_and, a_or, a_bAnd, a_bOr, a_bNot, a_asB, a_tru, a_tup, a_lst, a_asg, a_drop, a_bm, a_ite, and_t, and_f, or_t, or_f, asB_bl, tru_bl, b_ok, s_ok, List.length_cons, List.length_nil, List.map_cons, List.map_nil, List.set_cons_zero, List.set_cons_succ, List.getElem?_cons_zero, List.getElem?_cons_succ, Bool.not_true, Bool.not_false, if_true, if_false, Bool.true_eq_false, Bool.false_eq_true, reduceIte, Nat.reduceAdd, Nat.reduceSub, Nat.reduceLeDiff, Nat.zero_add, eq_self, LIM]
    rw [hl]
    generalize decide (0 < at_) = c
    cases c <;> rfl
  have ne : opNeH (.str lead) (.str lead) h = .ok (.bl false) h := by rw [op_ne_str al al, decide_eq_true rfl]; rfl
  have gf : decide ((W.length : Int) < at_ + 3) = false := decide_eq_false (by omega)
  rw [rwBody, a_seq, a_set, it]
  simp only [sub_lst e0, ne, add_i, len_lst, ci_gt, gf, bt_list en, sub_lst e1, sub_lst e2, app_ok en ea, a_run1, a_run2, fin_rt, fin_nx, a_seq, seq_nx, seq_rt, a_ret, a_retN, a_set, a_if, a_nx, a_var, get_va, a_c, a_nil, a_cons, a_bin, a_cb, a_call, a_and, a_or, a_bAnd, a_bOr, a_bNot, a_asB, a_tru, a_tup, a_lst, a_asg, a_drop, a_bm, a_ite, and_t, and_f, or_t, or_f, asB_bl, tru_bl, b_ok, s_ok, List.length_cons, List.length_nil, List.map_cons, List.map_nil, List.set_cons_zero, List.set_cons_succ, List.getElem?_cons_zero, List.getElem?_cons_succ, Bool.not_true, Bool.not_false, if_true, if_false, Bool.true_eq_false, Bool.false_eq_true, reduceIte, Nat.reduceAdd, Nat.reduceSub, Nat.reduceLeDiff, Nat.zero_add, eq_self, LIM]
theorem new_lst : newCell (fLst aNil) sl h = .ok (.ref h.length) (h ++ [.lst []]) := rfl
theorem e_read_wants : ∀ {ws : List (Str × Str)}, ws.length ≤ 2 → r_read_wants [.lst ((wrdW "when" ws).map .str)] h = .ok (.ref h.length) (h ++ [.lst (ws.map dWant)])
  | [], _ => by
    show RS.fin (f_read_wants [.va (.lst []), .no, .no, .no] h) = _
    rw [f_read_wants]
    simp only [new_lst, a_for, a_r3, len_lst, r3_0, forGo, a_run1, a_run2, fin_rt, fin_nx, a_seq, seq_nx, seq_rt, a_ret, a_retN, a_set, a_if, a_nx, a_var, get_va, a_c, a_nil, a_cons, a_bin, a_cb, a_call, a_and, a_or, a_bAnd, a_bOr, a_bNot, a_asB, a_tru, a_tup, a_lst, a_asg, a_drop, a_bm, a_ite, and_t, and_f, or_t, or_f, asB_bl, tru_bl, b_ok, s_ok, List.length_cons, List.length_nil, List.map_cons, List.map_nil, List.set_cons_zero, List.set_cons_succ, List.getElem?_cons_zero, List.getElem?_cons_succ, Bool.not_true, Bool.not_false, if_true, if_false, Bool.true_eq_false, Bool.false_eq_true, reduceIte, Nat.reduceAdd, Nat.reduceSub, Nat.reduceLeDiff, Nat.zero_add, eq_self, LIM]
  | [w], _ => by
    have hW : (wrdW "when" [w]).map D.str = [.str "when", .str w.1, .str w.2] := rfl
    rw [hW, r_read_wants, a_run1]
    show RS.fin (f_read_wants [.va (.lst [.str "when", .str w.1, .str w.2]), .no, .no, .no] h) = _
    rw [f_read_wants]
    simp only [new_lst, a_for, a_r3, len_lst, r3_3, a_run1, a_run2, fin_rt, fin_nx, a_seq, seq_nx, seq_rt, a_ret, a_retN, a_set, a_if, a_nx, a_var, get_va, a_c, a_nil, a_cons, a_bin, a_cb, a_call, a_and, a_or, a_bAnd, a_bOr, a_bNot, a_asB, a_tru, a_tup, a_lst, a_asg, a_drop, a_bm, a_ite, and_t, and_f, or_t, or_f, asB_bl, tru_bl, b_ok, s_ok, List.length_cons, List.length_nil, List.map_cons, List.map_nil, List.set_cons_zero, List.set_cons_succ, List.getElem?_cons_zero, List.getElem?_cons_succ, Bool.not_true, Bool.not_false, if_true, if_false, Bool.true_eq_false, Bool.false_eq_true, reduceIte, Nat.reduceAdd, Nat.reduceSub, Nat.reduceLeDiff, Nat.zero_add, eq_self, LIM]
    rw [go_cons (bs := [(2, .int 0)]) rfl (wants_step (at_ := 0) (lead := "when") (p := w.1) (l := w.2) rfl rfl rfl (by simp) rfl last_get (by simp [LIM])), go_nil, last_set]
    simp only [a_run1, a_run2, fin_rt, fin_nx, a_seq, seq_nx, seq_rt, a_ret, a_retN, a_set, a_if, a_nx, a_var, get_va, a_c, a_nil, a_cons, a_bin, a_cb, a_call, a_and, a_or, a_bAnd, a_bOr, a_bNot, a_asB, a_tru, a_tup, a_lst, a_asg, a_drop, a_bm, a_ite, and_t, and_f, or_t, or_f, asB_bl, tru_bl, b_ok, s_ok, List.length_cons, List.length_nil, List.map_cons, List.map_nil, List.set_cons_zero, List.set_cons_succ, List.getElem?_cons_zero, List.getElem?_cons_succ, Bool.not_true, Bool.not_false, if_true, if_false, Bool.true_eq_false, Bool.false_eq_true, reduceIte, Nat.reduceAdd, Nat.reduceSub, Nat.reduceLeDiff, Nat.zero_add, eq_self, LIM]
    rfl
  | [w, v], _ => by
    have hW : (wrdW "when" [w, v]).map D.str = [.str "when", .str w.1, .str w.2, .str "and", .str v.1, .str v.2] := rfl
    rw [hW, r_read_wants, a_run1]
    show RS.fin (f_read_wants [.va (.lst [.str "when", .str w.1, .str w.2, .str "and", .str v.1, .str v.2]), .no, .no, .no] h) = _
    rw [f_read_wants]
    simp only [new_lst, a_for, a_r3, len_lst, r3_6, a_run1, a_run2, fin_rt, fin_nx, a_seq, seq_nx, seq_rt, a_ret, a_retN, a_set, a_if, a_nx, a_var, get_va, a_c, a_nil, a_cons, a_bin, a_cb, a_call, a_and, a_or, a_bAnd, a_bOr, a_bNot, a_asB, a_tru, a_tup, a_lst, a_asg, a_drop, a_bm, a_ite, and_t, and_f, or_t, or_f, asB_bl, tru_bl, b_ok, s_ok, List.length_cons, List.length_nil, List.map_cons, List.map_nil, List.set_cons_zero, List.set_cons_succ, List.getElem?_cons_zero, List.getElem?_cons_succ, Bool.not_true, Bool.not_false, if_true, if_false, Bool.true_eq_false, Bool.false_eq_true, reduceIte, Nat.reduceAdd, Nat.reduceSub, Nat.reduceLeDiff, Nat.zero_add, eq_self, LIM]
    rw [go_cons (bs := [(2, .int 0)]) rfl (wants_step (at_ := 0) (lead := "when") (p := w.1) (l := w.2) rfl rfl rfl (by simp) rfl last_get (by simp [LIM])), last_set,
      go_cons (bs := [(2, .int 3)]) rfl (wants_step (at_ := 3) (lead := "and") (p := v.1) (l := v.2) rfl rfl rfl (by simp) rfl last_get (by simp [LIM])), go_nil, last_set]
    simp only [a_run1, a_run2, fin_rt, fin_nx, a_seq, seq_nx, seq_rt, a_ret, a_retN, a_set, a_if, a_nx, a_var, get_va, a_c, a_nil, a_cons, a_bin, a_cb, a_call, a_and, a_or, a_bAnd, a_bOr, a_bNot, a_asB, a_tru, a_tup, a_lst, a_asg, a_drop, a_bm, a_ite, and_t, and_f, or_t, or_f, asB_bl, tru_bl, b_ok, s_ok, List.length_cons, List.length_nil, List.map_cons, List.map_nil, List.set_cons_zero, List.set_cons_succ, List.getElem?_cons_zero, List.getElem?_cons_succ, Bool.not_true, Bool.not_false, if_true, if_false, Bool.true_eq_false, Bool.false_eq_true, reduceIte, Nat.reduceAdd, Nat.reduceSub, Nat.reduceLeDiff, Nat.zero_add, eq_self, LIM]
    rfl
  | _ :: _ :: _ :: _, hl => by simp at hl
theorem dot_side {i : Nat} (hi : i < 2) : (PySem.Str.ofString "." ++ sideT i).length = 2 := by
  rw [slen, sideT_len hi, dot_len]
theorem look_side {i : Nat} (hi : i < 2) : look t_SIDE_OF (PySem.Str.ofString "." ++ sideT i) = some (.int (i : Int)) := by
  match i, hi with
  | 0, _ => 
    have : (PySem.Str.ofString "." ++ sideT 0) = PySem.Str.ofString ".0" := by decide +kernel
    rw [this]; rfl
  | 1, _ =>
    have : (PySem.Str.ofString "." ++ sideT 1) = PySem.Str.ofString ".1" := by decide +kernel
    rw [this]; rfl
theorem cut_hd {a b : Str} (hb : b.length = 2) : cutS (a ++ b) none (some (-2)) = a := by
  unfold cutS HT.sIx
  have e : (a ++ b).length = a.length + 2 := by rw [slen, hb]
  rw [e]
  refine TL.ext_tl ?_
  show (((a ++ b).cps.toList.drop 0).take _) = _
  have : (if ((-2 : Int) < 0) then ((-2 : Int) + ((a.length + 2 : Nat) : Int)).toNat else min (-2 : Int).toNat (a.length + 2)) - 0 = (TL.tl a).length := by
    rw [← TL.len_tl, if_pos (by decide)]; omega
  rw [this]
  show ((TL.tl (a ++ b)).drop 0).take _ = _
  rw [TL.tl_append, List.drop_zero, List.take_left]
theorem cut_tl {a b : Str} (hb : b.length = 2) : cutS (a ++ b) (some (-2)) none = b := by
  unfold cutS HT.sIx
  have e : (a ++ b).length = a.length + 2 := by rw [slen, hb]
  rw [e]
  refine TL.ext_tl ?_
  have : (if ((-2 : Int) < 0) then ((-2 : Int) + ((a.length + 2 : Nat) : Int)).toNat else min (-2 : Int).toNat (a.length + 2)) = (TL.tl a).length := by
    rw [← TL.len_tl, if_pos (by decide)]; omega
  show ((TL.tl (a ++ b)).drop (if ((-2 : Int) < 0) then ((-2 : Int) + ((a.length + 2 : Nat) : Int)).toNat else min (-2 : Int).toNat (a.length + 2))).take (a.length + 2 - (if ((-2 : Int) < 0) then ((-2 : Int) + ((a.length + 2 : Nat) : Int)).toNat else min (-2 : Int).toNat (a.length + 2))) = _
  rw [this, TL.tl_append, List.drop_left, List.take_of_length_le]
  rw [← TL.len_tl, ← TL.len_tl]; omega
theorem tEnd_eq (e : Str × Nat) : tEnd e = e.1 ++ (PySem.Str.ofString "." ++ sideT e.2) := sass _ _ _
theorem e_read_end {e : Str × Nat} (h1 : e.1.length ≤ 1000) (h2 : e.2 < 2) : r_read_end [.str (tEnd e)] h = .ok (dEnd e) h := by
  show RS.fin (f_read_end [.va (.str (tEnd e))] h) = _
  have l1 : LIM = 16777216 := rfl
  have tl := tEnd_len h1 h2
  rw [f_read_end]
  have a1 : fSlA (fVar 0) oNo (oSo (fC (.int (-2)))) [.va (.str (tEnd e))] h = .ok (.str e.1) h := by
    show (if (tEnd e).length ≤ LIM then R.ok (D.str (cutS (tEnd e) none (some (-2)))) h else .st) = _
    rw [if_pos (by omega), tEnd_eq, cut_hd (dot_side h2)]
  have a2 : fSlA (fVar 0) (oSo (fC (.int (-2)))) oNo [.va (.str (tEnd e))] h = .ok (.str (PySem.Str.ofString "." ++ sideT e.2)) h := by
    show (if (tEnd e).length ≤ LIM then R.ok (D.str (cutS (tEnd e) (some (-2)) none)) h else .st) = _
    rw [if_pos (by omega), tEnd_eq, cut_tl (dot_side h2)]
  have a3 : fGetK t_SIDE_OF (fSlA (fVar 0) (oSo (fC (.int (-2)))) oNo) [.va (.str (tEnd e))] h = .ok (.int (e.2 : Int)) h := by
    unfold fGetK
    rw [a2, R.bind_ok]
    simp only [look_side h2]
  simp only [a1, a3, a_run1, a_run2, fin_rt, fin_nx, a_seq, seq_nx, seq_rt, a_ret, a_retN, a_set, a_if, a_nx, a_var, get_va, a_c, a_nil, a_cons, a_bin, a_cb, a_call, a_and, a_or, a_bAnd, a_bOr, a_bNot, a_asB, a_tru, a_tup, a_lst, a_asg, a_drop, a_bm, a_ite, and_t, and_f, or_t, or_f, asB_bl, tru_bl, b_ok, s_ok, List.length_cons, List.length_nil, List.map_cons, List.map_nil, List.set_cons_zero, List.set_cons_succ, List.getElem?_cons_zero, List.getElem?_cons_succ, Bool.not_true, Bool.not_false, if_true, if_false, Bool.true_eq_false, Bool.false_eq_true, reduceIte, Nat.reduceAdd, Nat.reduceSub, Nat.reduceLeDiff, Nat.zero_add, eq_self, LIM]
  rfl
end
end Kx
end

section
set_option linter.all false
set_option maxRecDepth 100000
set_option maxHeartbeats 400000
/-! Ev12: a row is taken. -/
namespace Kx
open PySem PySem.Spec PyProof.Rows L2 GxR Gx Dy
def wSec (n : Str) : List Str := ["section", n]
def wPt (p : Str × Str) : List Str := ["point", p.1, "in", p.2]
def wLnk (l : Lnk) : List Str := "link" :: tEnd l.1 :: tEnd l.2.1 :: wrdW "when" l.2.2
def wSig (s : Str × (Str × Nat)) : List Str := ["signal", s.1, "at", tEnd s.2]
section
variable {h : Hq} {k i : Nat} {st : St} {sl : List Sl}
theorem as_section : As "section" := by unfold As; decide +kernel
theorem as_point : As "point" := by unfold As; decide +kernel
theorem as_link : As "link" := by unfold As; decide +kernel
theorem as_signal : As "signal" := by unfold As; decide +kernel
theorem as_in : As "in" := by unfold As; decide +kernel
theorem as_at : As "at" := by unfold As; decide +kernel
theorem mv_hit {z : Str} (hz : As z) : mVal z (.str z) = some (some []) := by
  unfold mVal
  rw [eqD_str hz hz, decide_eq_true rfl]
  rfl
theorem mv_miss {a z : Str} (ha : As a) (hz : As z) (ne : a ≠ z) : mVal z (.str a) = some none := by
  unfold mVal
  rw [eqD_str ha hz, decide_eq_false ne]
  rfl
theorem mc_miss {f : D → Option (Option (List D))} {fs : List D → Option (Option (List D))} {d : D} {ds : List D} (e : f d = some none) : mCons f fs (d :: ds) = some none := by
  show (f d).bind _ = _
  rw [e]
  rfl
theorem mc_hit {f : D → Option (Option (List D))} {fs : List D → Option (Option (List D))} {d : D} {ds a b : List D} (e : f d = some (some a)) (e2 : fs ds = some (some b)) : mCons f fs (d :: ds) = some (some (a ++ b)) := by
  show (f d).bind _ = _
  rw [e]
  show (fs ds).map (fun r => r.map (a ++ ·)) = _
  rw [e2]
  rfl
theorem mq_miss {n : Nat} {fs : List D → Option (Option (List D))} {ds : List D} (hn : ds.length ≠ n) : mSeq n fs (.lst ds) = some none := if_neg hn
theorem mq_hit {n : Nat} {fs : List D → Option (Option (List D))} {ds : List D} {r : Option (Option (List D))} (hn : ds.length = n) (e : fs ds = r) : mSeq n fs (.lst ds) = r := (if_pos hn).trans e
theorem ms_hit {n : Nat} {fs : List D → Option (Option (List D))} {ds : List D} {r : Option (Option (List D))} (hn : n ≤ ds.length) (e : fs (ds.take n ++ [.lst (ds.drop n)]) = r) : mStar n fs (.lst ds) = r := (if_pos hn).trans e
theorem m_sec {n : Str} : mSeq 2 (mCons (mVal "section") (mCons mCap mNil)) (.lst ((wSec n).map .str)) = some (some [.str n]) := mq_hit rfl (mc_hit (mv_hit as_section) rfl)
theorem m_pt {p : Str × Str} : mSeq 4 (mCons (mVal "point") (mCons mCap (mCons (mVal "in") (mCons mCap mNil)))) (.lst ((wPt p).map .str)) = some (some [.str p.1, .str p.2]) :=
  mq_hit rfl (mc_hit (mv_hit as_point) (mc_hit (a := [.str p.1]) (b := [.str p.2]) rfl (mc_hit (mv_hit as_in) rfl)))
theorem m_lnk {l : Lnk} : mStar 3 (mCons (mVal "link") (mCons mCap (mCons mCap mLast))) (.lst ((wLnk l).map .str)) = some (some [.str (tEnd l.1), .str (tEnd l.2.1), .lst ((wrdW "when" l.2.2).map .str)]) :=
  ms_hit (by simp [wLnk]) (mc_hit (mv_hit as_link) rfl)
theorem m_sig {s : Str × (Str × Nat)} : mSeq 4 (mCons (mVal "signal") (mCons mCap (mCons (mVal "at") (mCons mCap mNil)))) (.lst ((wSig s).map .str)) = some (some [.str s.1, .str (tEnd s.2)]) :=
  mq_hit rfl (mc_hit (mv_hit as_signal) (mc_hit (a := [.str s.1]) (b := [.str (tEnd s.2)]) rfl (mc_hit (mv_hit as_at) rfl)))
theorem wrd_len : ∀ (ws : List (Str × Str)) (lead : Str), (wrdW lead ws).length = 3 * ws.length
  | [], _ => rfl
  | w :: r, lead => by
    show ((wrdW "and" r).length + 1 + 1 + 1) = _
    rw [wrd_len r, List.length_cons]
    omega
theorem ne_sp : PySem.Str.ofString "signal" ≠ PySem.Str.ofString "point" := by decide +kernel
theorem ne_sl : PySem.Str.ofString "signal" ≠ PySem.Str.ofString "link" := by decide +kernel
theorem m_sig_p {s : Str × (Str × Nat)} {g : List D → Option (Option (List D))} : mSeq 4 (mCons (mVal "point") g) (.lst ((wSig s).map .str)) = some none := mq_hit rfl (mc_miss (mv_miss as_signal as_point ne_sp))
theorem m_sig_l {s : Str × (Str × Nat)} {g : List D → Option (Option (List D))} : mStar 3 (mCons (mVal "link") g) (.lst ((wSig s).map .str)) = some none := ms_hit (by simp [wSig]) (mc_miss (mv_miss as_signal as_link ne_sl))
theorem t_sec (e : h[k]? = some (cSt st)) (s : Sml st) {n : Str} (hn : Nm n) (fr : n ∉ st.names) (c : st.secs.length < 30) : r_take_row [.ref k, .lst ((wSec n).map .str)] h = .ok (.bl true) (h.set k (cSt { st with secs := st.secs ++ [n] })) := by
  rw [r_take_row, a_run1]
  show RS.fin (f_take_row [.va (.ref k), .va (.lst ((wSec n).map .str)), .no, .no, .no, .no, .no, .no, .no] h) = _
  rw [f_take_row, a_match]
  simp only [a_run1, a_run2, fin_rt, fin_nx, a_seq, seq_nx, seq_rt, a_ret, a_retN, a_set, a_if, a_nx, a_var, get_va, a_c, a_nil, a_cons, a_bin, a_cb, a_call, a_and, a_or, a_bAnd, a_bOr, a_bNot, a_asB, a_tru, a_tup, a_lst, a_asg, a_drop, a_bm, a_ite, and_t, and_f, or_t, or_f, asB_bl, tru_bl, b_ok, s_ok, List.length_cons, List.length_nil, List.map_cons, List.map_nil, List.set_cons_zero, List.set_cons_succ, List.getElem?_cons_zero, List.getElem?_cons_succ, Bool.not_true, Bool.not_false, if_true, if_false, Bool.true_eq_false, Bool.false_eq_true, reduceIte, Nat.reduceAdd, Nat.reduceSub, Nat.reduceLeDiff, Nat.zero_add, eq_self, LIM]
  rw [cs_hit m_sec]
  show RS.fin (fRet _ [.va (.ref k), .va (.lst ((wSec n).map .str)), .va (.str n), .no, .no, .no, .no, .no, .no] h) = _
  simp only [a_meth (m := "add_section") e rfl, e_add_section e s hn fr c, a_run1, a_run2, fin_rt, fin_nx, a_seq, seq_nx, seq_rt, a_ret, a_retN, a_set, a_if, a_nx, a_var, get_va, a_c, a_nil, a_cons, a_bin, a_cb, a_call, a_and, a_or, a_bAnd, a_bOr, a_bNot, a_asB, a_tru, a_tup, a_lst, a_asg, a_drop, a_bm, a_ite, and_t, and_f, or_t, or_f, asB_bl, tru_bl, b_ok, s_ok, List.length_cons, List.length_nil, List.map_cons, List.map_nil, List.set_cons_zero, List.set_cons_succ, List.getElem?_cons_zero, List.getElem?_cons_succ, Bool.not_true, Bool.not_false, if_true, if_false, Bool.true_eq_false, Bool.false_eq_true, reduceIte, Nat.reduceAdd, Nat.reduceSub, Nat.reduceLeDiff, Nat.zero_add, eq_self, LIM]
theorem t_pt (e : h[k]? = some (cSt st)) (s : Sml st) {p : Str × Str} (hn : Nm p.1) (fr : p.1 ∉ st.names) (c : st.pts.length < 12) (hx : p.2 ∈ st.secs) : r_take_row [.ref k, .lst ((wPt p).map .str)] h = .ok (.bl true) (h.set k (cSt { st with pts := st.pts ++ [p] })) := by
  rw [r_take_row, a_run1]
  show RS.fin (f_take_row [.va (.ref k), .va (.lst ((wPt p).map .str)), .no, .no, .no, .no, .no, .no, .no] h) = _
  rw [f_take_row, a_match]
  simp only [a_run1, a_run2, fin_rt, fin_nx, a_seq, seq_nx, seq_rt, a_ret, a_retN, a_set, a_if, a_nx, a_var, get_va, a_c, a_nil, a_cons, a_bin, a_cb, a_call, a_and, a_or, a_bAnd, a_bOr, a_bNot, a_asB, a_tru, a_tup, a_lst, a_asg, a_drop, a_bm, a_ite, and_t, and_f, or_t, or_f, asB_bl, tru_bl, b_ok, s_ok, List.length_cons, List.length_nil, List.map_cons, List.map_nil, List.set_cons_zero, List.set_cons_succ, List.getElem?_cons_zero, List.getElem?_cons_succ, Bool.not_true, Bool.not_false, if_true, if_false, Bool.true_eq_false, Bool.false_eq_true, reduceIte, Nat.reduceAdd, Nat.reduceSub, Nat.reduceLeDiff, Nat.zero_add, eq_self, LIM]
  rw [cs_miss (mq_miss (by simp [wPt])), cs_hit m_pt]
  show RS.fin (fRet _ [.va (.ref k), .va (.lst ((wPt p).map .str)), .va (.str p.1), .va (.str p.2), .no, .no, .no, .no, .no] h) = _
  simp only [a_meth (m := "add_point") e rfl, e_add_point e s hn fr c hx, a_run1, a_run2, fin_rt, fin_nx, a_seq, seq_nx, seq_rt, a_ret, a_retN, a_set, a_if, a_nx, a_var, get_va, a_c, a_nil, a_cons, a_bin, a_cb, a_call, a_and, a_or, a_bAnd, a_bOr, a_bNot, a_asB, a_tru, a_tup, a_lst, a_asg, a_drop, a_bm, a_ite, and_t, and_f, or_t, or_f, asB_bl, tru_bl, b_ok, s_ok, List.length_cons, List.length_nil, List.map_cons, List.map_nil, List.set_cons_zero, List.set_cons_succ, List.getElem?_cons_zero, List.getElem?_cons_succ, Bool.not_true, Bool.not_false, if_true, if_false, Bool.true_eq_false, Bool.false_eq_true, reduceIte, Nat.reduceAdd, Nat.reduceSub, Nat.reduceLeDiff, Nat.zero_add, eq_self, LIM]
theorem t_sig (e : h[k]? = some (cSt st)) (s : Sml st) {n : Str × (Str × Nat)} (hn : Nm n.1) (fr : n.1 ∉ st.names) (c : st.sigs.length < 16) (gx : GEnd st n.2) (gs : ∀ y ∈ st.sigs, GEnd st y.2) (nx : n.2 ∉ st.sigs.map (·.2)) :
    r_take_row [.ref k, .lst ((wSig n).map .str)] h = .ok (.bl true) (h.set k (cSt { st with sigs := st.sigs ++ [n] })) := by
  have l6 := (s.sec gx.1).le
  rw [r_take_row, a_run1]
  show RS.fin (f_take_row [.va (.ref k), .va (.lst ((wSig n).map .str)), .no, .no, .no, .no, .no, .no, .no] h) = _
  rw [f_take_row, a_match]
  simp only [a_run1, a_run2, fin_rt, fin_nx, a_seq, seq_nx, seq_rt, a_ret, a_retN, a_set, a_if, a_nx, a_var, get_va, a_c, a_nil, a_cons, a_bin, a_cb, a_call, a_and, a_or, a_bAnd, a_bOr, a_bNot, a_asB, a_tru, a_tup, a_lst, a_asg, a_drop, a_bm, a_ite, and_t, and_f, or_t, or_f, asB_bl, tru_bl, b_ok, s_ok, List.length_cons, List.length_nil, List.map_cons, List.map_nil, List.set_cons_zero, List.set_cons_succ, List.getElem?_cons_zero, List.getElem?_cons_succ, Bool.not_true, Bool.not_false, if_true, if_false, Bool.true_eq_false, Bool.false_eq_true, reduceIte, Nat.reduceAdd, Nat.reduceSub, Nat.reduceLeDiff, Nat.zero_add, eq_self, LIM]
  rw [cs_miss (mq_miss (by simp [wSig])), cs_miss m_sig_p, cs_miss m_sig_l, cs_hit m_sig]
  show RS.fin (fRet _ [.va (.ref k), .va (.lst ((wSig n).map .str)), .va (.str n.1), .no, .no, .no, .no, .no, .va (.str (tEnd n.2))] h) = _
  simp only [a_meth (m := "add_signal") e rfl, e_read_end (e := n.2) (h := h) (by omega) gx.2, e_add_signal e s hn fr c gx gs nx, a_run1, a_run2, fin_rt, fin_nx, a_seq, seq_nx, seq_rt, a_ret, a_retN, a_set, a_if, a_nx, a_var, get_va, a_c, a_nil, a_cons, a_bin, a_cb, a_call, a_and, a_or, a_bAnd, a_bOr, a_bNot, a_asB, a_tru, a_tup, a_lst, a_asg, a_drop, a_bm, a_ite, and_t, and_f, or_t, or_f, asB_bl, tru_bl, b_ok, s_ok, List.length_cons, List.length_nil, List.map_cons, List.map_nil, List.set_cons_zero, List.set_cons_succ, List.getElem?_cons_zero, List.getElem?_cons_succ, Bool.not_true, Bool.not_false, if_true, if_false, Bool.true_eq_false, Bool.false_eq_true, reduceIte, Nat.reduceAdd, Nat.reduceSub, Nat.reduceLeDiff, Nat.zero_add, eq_self, LIM]
theorem not_non {n : Nat} : opNotN (.ref n) .non h = .ok (.bl true) h := rfl
theorem t_lnk (e : h[k]? = some (cSt st)) (s : Sml st) (gs : ∀ o ∈ st.links, GLnk st o) {l : Lnk} (g : GLnk st l) (al : ∀ o ∈ st.links, share l o = true → told l o = true) (c : st.links.length < 60) :
    r_take_row [.ref k, .lst ((wLnk l).map .str)] h = .ok (.bl true) ((h ++ [C.lst (l.2.2.map dWant)]).set k (cSt { st with links := st.links ++ [l] })) := by
  have l6 := (s.sec g.a.1).le
  have l7 := (s.sec g.b.1).le
  have kl := (List.getElem?_eq_some_iff.mp e).1
  rw [r_take_row, a_run1]
  show RS.fin (f_take_row [.va (.ref k), .va (.lst ((wLnk l).map .str)), .no, .no, .no, .no, .no, .no, .no] h) = _
  rw [f_take_row, a_match]
  simp only [a_run1, a_run2, fin_rt, fin_nx, a_seq, seq_nx, seq_rt, a_ret, a_retN, a_set, a_if, a_nx, a_var, get_va, a_c, a_nil, a_cons, a_bin, a_cb, a_call, a_and, a_or, a_bAnd, a_bOr, a_bNot, a_asB, a_tru, a_tup, a_lst, a_asg, a_drop, a_bm, a_ite, and_t, and_f, or_t, or_f, asB_bl, tru_bl, b_ok, s_ok, List.length_cons, List.length_nil, List.map_cons, List.map_nil, List.set_cons_zero, List.set_cons_succ, List.getElem?_cons_zero, List.getElem?_cons_succ, Bool.not_true, Bool.not_false, if_true, if_false, Bool.true_eq_false, Bool.false_eq_true, reduceIte, Nat.reduceAdd, Nat.reduceSub, Nat.reduceLeDiff, Nat.zero_add, eq_self, LIM]
  have wl := wrd_len l.2.2 "when"
  rw [cs_miss (mq_miss (by rw [List.length_map]; simp [wLnk])), cs_miss (mq_miss (by rw [List.length_map]; simp [wLnk]; omega)), cs_hit m_lnk]
  show RS.fin (fSeq _ _ [.va (.ref k), .va (.lst ((wLnk l).map .str)), .no, .no, .va (.str (tEnd l.1)), .va (.str (tEnd l.2.1)), .va (.lst ((wrdW "when" l.2.2).map .str)), .no, .no] h) = _
  have e1 : (h ++ [C.lst (l.2.2.map dWant)])[k]? = some (cSt st) := by rw [List.getElem?_append_left kl]; exact e
  simp only [e_read_wants g.n, not_non, a_meth (m := "add_link") e1 rfl, e_read_end (e := l.1) (h := h ++ [C.lst (l.2.2.map dWant)]) (by omega) g.a.2, e_read_end (e := l.2.1) (h := h ++ [C.lst (l.2.2.map dWant)]) (by omega) g.b.2, e_add_link e1 s gs g al c last_get, a_run1, a_run2, fin_rt, fin_nx, a_seq, seq_nx, seq_rt, a_ret, a_retN, a_set, a_if, a_nx, a_var, get_va, a_c, a_nil, a_cons, a_bin, a_cb, a_call, a_and, a_or, a_bAnd, a_bOr, a_bNot, a_asB, a_tru, a_tup, a_lst, a_asg, a_drop, a_bm, a_ite, and_t, and_f, or_t, or_f, asB_bl, tru_bl, b_ok, s_ok, List.length_cons, List.length_nil, List.map_cons, List.map_nil, List.set_cons_zero, List.set_cons_succ, List.getElem?_cons_zero, List.getElem?_cons_succ, Bool.not_true, Bool.not_false, if_true, if_false, Bool.true_eq_false, Bool.false_eq_true, reduceIte, Nat.reduceAdd, Nat.reduceSub, Nat.reduceLeDiff, Nat.zero_add, eq_self, LIM]
end
end Kx
end

section
set_option linter.all false
set_option maxRecDepth 100000
set_option maxHeartbeats 400000
/-! Ev13: a station's text, split. -/
namespace Kx
open PySem PySem.Spec PyProof.Rows L2 GxR Gx Dy
/-- a word: no blank, no line's end, small signs -/
def Wd (s : Str) : Prop := ∀ c ∈ TL.tl s, c ≠ 32 ∧ c ≠ 10 ∧ c < 128
theorem NS_wd : ∀ c ∈ NS, c ≠ 32 ∧ c ≠ 10 ∧ c < 128 := by decide
theorem Nm.wd {n : Str} (h : Nm n) : Wd n := fun c hc => NS_wd c (h.mem c hc)
theorem wd_section : Wd "section" := by unfold Wd; decide +kernel
theorem wd_point : Wd "point" := by unfold Wd; decide +kernel
theorem wd_link : Wd "link" := by unfold Wd; decide +kernel
theorem wd_signal : Wd "signal" := by unfold Wd; decide +kernel
theorem wd_in : Wd "in" := by unfold Wd; decide +kernel
theorem wd_at : Wd "at" := by unfold Wd; decide +kernel
theorem wd_when : Wd "when" := by unfold Wd; decide +kernel
theorem wd_and : Wd "and" := by unfold Wd; decide +kernel
theorem wd_n : Wd "n" := by unfold Wd; decide +kernel
theorem wd_r : Wd "r" := by unfold Wd; decide +kernel
theorem wd_dot : Wd "." := by unfold Wd; decide +kernel
theorem wd_side {i : Nat} (hi : i < 2) : Wd (sideT i) := by
  match i, hi with
  | 0, _ => unfold Wd; decide +kernel
  | 1, _ => unfold Wd; decide +kernel
theorem Wd.app {a b : Str} (ha : Wd a) (hb : Wd b) : Wd (a ++ b) := fun c hc => by
  rw [TL.tl_append] at hc
  rcases List.mem_append.mp hc with hc | hc
  · exact ha c hc
  · exact hb c hc
theorem wd_end {e : Str × Nat} (h1 : Nm e.1) (h2 : e.2 < 2) : Wd (tEnd e) := (h1.wd.app wd_dot).app (wd_side h2)
def rowT (ws : List Str) : Str := Txt.join " " ws
theorem split_row {ws : List Str} (ne : ws ≠ []) (h : ∀ w ∈ ws, Wd w) : Txt.split (rowT ws) " " = ws :=
  TL.split_join (y := " ") (s := 32) (S := []) (by decide +kernel) (by decide +kernel) ne fun p hp hc => (h p hp 32 hc).1 rfl
theorem join_mem {y : Str} {c : Nat} : ∀ {ps : List Str}, c ∈ TL.tl (Str.join y ps) → c ∈ TL.tl y ∨ ∃ p ∈ ps, c ∈ TL.tl p
  | [], h => by simp [Str.join, Str.empty, TL.tl] at h
  | [p], h => .inr ⟨p, List.mem_cons_self, h⟩
  | p :: q :: r, h => by
    have : c ∈ TL.tl (p ++ y ++ Str.join y (q :: r)) := h
    rw [TL.tl_append, TL.tl_append] at this
    rcases List.mem_append.mp this with z | z
    · rcases List.mem_append.mp z with z | z
      · exact .inr ⟨p, List.mem_cons_self, z⟩
      · exact .inl z
    · rcases join_mem z with z | ⟨x, hx, z⟩
      · exact .inl z
      · exact .inr ⟨x, List.mem_cons_of_mem _ hx, z⟩
theorem join_len {y : Str} {m : Nat} : ∀ {ps : List Str}, (∀ p ∈ ps, p.length ≤ m) → (Str.join y ps).length ≤ ps.length * (m + y.length)
  | [], _ => Nat.zero_le _
  | [p], h => by
    show p.length ≤ 1 * (m + y.length)
    have := h p List.mem_cons_self
    omega
  | p :: q :: r, h => by
    show (p ++ y ++ Str.join y (q :: r)).length ≤ ((q :: r).length + 1) * (m + y.length)
    have h1 := h p List.mem_cons_self
    have ih := join_len (y := y) (fun x hx => h x (List.mem_cons_of_mem _ hx) : ∀ x ∈ q :: r, x.length ≤ m)
    rw [slen, slen, Nat.add_mul]
    omega
theorem row_no10 {ws : List Str} (h : ∀ w ∈ ws, Wd w) : 10 ∉ TL.tl (rowT ws) := by
  intro hc
  unfold rowT at hc
  rw [TL.join_eq] at hc
  rcases join_mem hc with hc | ⟨p, hp, hc⟩
  · revert hc; decide +kernel
  · exact (h p hp 10 hc).2.1 rfl
def wRows (st : St) : List (List Str) := st.secs.map wSec ++ (st.pts.map wPt ++ (st.links.map wLnk ++ st.sigs.map wSig))
def rowsOf (st : St) : List Str := (wRows st).map rowT
def textOf (st : St) : Str := Txt.join "\n" (rowsOf st)
structure Fits (st : St) : Prop where
  sm : Sml st
  ne : st.secs ≠ []
  p : ∀ p ∈ st.pts, p.2 ∈ st.secs
  l : ∀ l ∈ st.links, GLnk st l
  al : st.links.Pairwise fun o l => share l o = true → told l o = true
  s : ∀ s ∈ st.sigs, GEnd st s.2
  sn : (st.sigs.map (·.2)).Nodup
theorem Sml.sg {st : St} (s : Sml st) {x : Str × (Str × Nat)} (h : x ∈ st.sigs) : Nm x.1 := s.nm _ (List.mem_append.mpr (.inr (List.mem_append.mpr (.inr (List.mem_map.mpr ⟨_, h, rfl⟩)))))
theorem wrd_wd {st : St} {l : Lnk} (s : Sml st) : ∀ {ws : List (Str × Str)} {lead : Str}, (∀ w ∈ ws, GWant st l w) → Wd lead → ∀ w ∈ wrdW lead ws, Wd w
  | [], _, _, _, w, hw => by simp [wrdW] at hw
  | v :: r, lead, g, hl, w, hw => by
    obtain ⟨h1, h2⟩ := g v List.mem_cons_self
    have hv : Wd v.1 := by
      rcases h2 with h2 | h2
      · exact (s.pt h2).wd
      · exact (s.pt h2).wd
    have hv2 : Wd v.2 := by
      rcases h1 with h1 | h1
      · rw [h1]; exact wd_n
      · rw [h1]; exact wd_r
    have z : w ∈ lead :: v.1 :: v.2 :: wrdW "and" r := hw
    rcases List.mem_cons.mp z with rfl | z
    · exact hl
    · rcases List.mem_cons.mp z with rfl | z
      · exact hv
      · rcases List.mem_cons.mp z with rfl | z
        · exact hv2
        · exact wrd_wd s (fun x hx => g x (List.mem_cons_of_mem _ hx)) wd_and w z
theorem Fits.wd {st : St} (f : Fits st) : ∀ ws ∈ wRows st, (∀ w ∈ ws, Wd w) ∧ ws ≠ [] ∧ ws.length ≤ 9 := by
  intro ws h
  have s := f.sm
  rcases List.mem_append.mp h with h | h
  · obtain ⟨n, hn, rfl⟩ := List.mem_map.mp h
    refine ⟨fun w hw => ?_, by simp [wSec], by simp [wSec]⟩
    simp only [wSec, List.mem_cons, List.not_mem_nil, or_false] at hw
    rcases hw with rfl | rfl
    · exact wd_section
    · exact (s.sec hn).wd
  rcases List.mem_append.mp h with h | h
  · obtain ⟨p, hp, rfl⟩ := List.mem_map.mp h
    refine ⟨fun w hw => ?_, by simp [wPt], by simp [wPt]⟩
    simp only [wPt, List.mem_cons, List.not_mem_nil, or_false] at hw
    rcases hw with rfl | rfl | rfl | rfl
    · exact wd_point
    · exact (s.pt (x := p.2) hp).wd
    · exact wd_in
    · exact (s.sec (f.p p hp)).wd
  rcases List.mem_append.mp h with h | h
  · obtain ⟨l, hl, rfl⟩ := List.mem_map.mp h
    have g := f.l l hl
    refine ⟨fun w hw => ?_, by simp [wLnk], ?_⟩
    · simp only [wLnk, List.mem_cons] at hw
      rcases hw with rfl | rfl | rfl | hw
      · exact wd_link
      · exact wd_end (s.sec g.a.1) g.a.2
      · exact wd_end (s.sec g.b.1) g.b.2
      · exact wrd_wd s g.w wd_when w hw
    · have := wrd_len l.2.2 "when"
      have := g.n
      simp only [wLnk, List.length_cons]
      omega
  · obtain ⟨x, hx, rfl⟩ := List.mem_map.mp h
    have g := f.s x hx
    refine ⟨fun w hw => ?_, by simp [wSig], by simp [wSig]⟩
    simp only [wSig, List.mem_cons, List.not_mem_nil, or_false] at hw
    rcases hw with rfl | rfl | rfl | rfl
    · exact wd_signal
    · exact (s.sg hx).wd
    · exact wd_at
    · exact wd_end (s.sec g.1) g.2
theorem Fits.wlen {st : St} (f : Fits st) : ∀ ws ∈ wRows st, ∀ w ∈ ws, w.length ≤ 1002 := by
  intro ws h w hw
  have s := f.sm
  have l7 : (PySem.Str.ofString "section").length = 7 := by decide +kernel
  have l5 : (PySem.Str.ofString "point").length = 5 := by decide +kernel
  have l4 : (PySem.Str.ofString "link").length = 4 := by decide +kernel
  have l6 : (PySem.Str.ofString "signal").length = 6 := by decide +kernel
  have l2 : (PySem.Str.ofString "in").length = 2 := by decide +kernel
  have l22 : (PySem.Str.ofString "at").length = 2 := by decide +kernel
  rcases List.mem_append.mp h with h | h
  · obtain ⟨n, hn, rfl⟩ := List.mem_map.mp h
    have := (s.sec hn).le
    simp only [wSec, List.mem_cons, List.not_mem_nil, or_false] at hw
    rcases hw with rfl | rfl <;> omega
  rcases List.mem_append.mp h with h | h
  · obtain ⟨p, hp, rfl⟩ := List.mem_map.mp h
    have := (s.pt (x := p.2) hp).le
    have := (s.sec (f.p p hp)).le
    simp only [wPt, List.mem_cons, List.not_mem_nil, or_false] at hw
    rcases hw with rfl | rfl | rfl | rfl <;> omega
  rcases List.mem_append.mp h with h | h
  · obtain ⟨l, hl, rfl⟩ := List.mem_map.mp h
    have g := f.l l hl
    have t1 := tEnd_len (e := l.1) (by have := (s.sec g.a.1).le; omega) g.a.2
    have t2 := tEnd_len (e := l.2.1) (by have := (s.sec g.b.1).le; omega) g.b.2
    simp only [wLnk, List.mem_cons] at hw
    rcases hw with rfl | rfl | rfl | hw
    · omega
    · omega
    · omega
    · have k1 := when_len
      have k2 := and_len
      have key : ∀ (ws : List (Str × Str)) (lead : Str), lead.length ≤ 4 → (∀ v ∈ ws, GWant st l v) → ∀ w ∈ wrdW lead ws, w.length ≤ 1002 := by
        intro ws
        induction ws with
        | nil => intro lead _ _ w hw; simp [wrdW] at hw
        | cons v r ih =>
          intro lead hl g w hw
          obtain ⟨h1, h2⟩ := g v List.mem_cons_self
          have z : w ∈ lead :: v.1 :: v.2 :: wrdW "and" r := hw
          rcases List.mem_cons.mp z with rfl | z
          · omega
          · rcases List.mem_cons.mp z with rfl | z
            · rcases h2 with h2 | h2
              · have := (s.pt h2).le; omega
              · have := (s.pt h2).le; omega
            · rcases List.mem_cons.mp z with rfl | z
              · have n1 : (PySem.Str.ofString "n").length = 1 := by decide +kernel
                have r1 : (PySem.Str.ofString "r").length = 1 := by decide +kernel
                rcases h1 with h1 | h1 <;> rw [h1] <;> omega
              · exact ih "and" (by omega) (fun x hx => g x (List.mem_cons_of_mem _ hx)) w z
      exact key _ _ (by omega) g.w w hw
  · obtain ⟨x, hx, rfl⟩ := List.mem_map.mp h
    have g := f.s x hx
    have := (s.sg hx).le
    have t1 := tEnd_len (e := x.2) (by have := (s.sec g.1).le; omega) g.2
    simp only [wSig, List.mem_cons, List.not_mem_nil, or_false] at hw
    rcases hw with rfl | rfl | rfl | rfl <;> omega
theorem nl_len : (PySem.Str.ofString "\n").length = 1 := by decide +kernel
theorem Fits.rlen {st : St} (f : Fits st) : ∀ r ∈ rowsOf st, r.length ≤ 10000 := by
  intro r hr
  obtain ⟨ws, h, rfl⟩ := List.mem_map.mp hr
  have z := join_len (y := " ") (f.wlen ws h)
  have n9 := (f.wd ws h).2.2
  have s1 := sp_len1
  unfold rowT
  rw [TL.join_eq]
  have : ws.length * (1002 + (PySem.Str.ofString " ").length) ≤ 9 * 1003 := by
    rw [s1]
    exact Nat.mul_le_mul_right _ n9
  omega
theorem Fits.count {st : St} (f : Fits st) : (rowsOf st).length ≤ 118 := by
  have := f.sm.c1
  have := f.sm.c2
  have := f.sm.c3
  have := f.sm.c4
  simp only [rowsOf, wRows, List.length_map, List.length_append]
  omega
theorem Fits.tlen {st : St} (f : Fits st) : (textOf st).length ≤ 2000000 := by
  have z := join_len (y := "\n") f.rlen
  have n9 := f.count
  have s1 := nl_len
  unfold textOf
  rw [TL.join_eq]
  have : (rowsOf st).length * (10000 + (PySem.Str.ofString "\n").length) ≤ 118 * 10001 := by
    rw [s1]
    exact Nat.mul_le_mul_right _ n9
  omega
theorem Fits.split {st : St} (f : Fits st) : Txt.split (textOf st) "\n" = rowsOf st := by
  refine TL.split_join (y := "\n") (s := 10) (S := []) (by decide +kernel) (by decide +kernel) ?_ fun p hp => ?_
  · have := f.ne
    cases h : st.secs with
    | nil => exact absurd h this
    | cons a l => simp [rowsOf, wRows, h]
  · obtain ⟨ws, h, rfl⟩ := List.mem_map.mp hp
    exact row_no10 (f.wd ws h).1
end Kx
end

section
set_option linter.all false
set_option maxRecDepth 100000
set_option maxHeartbeats 400000
/-! Ev14: a station's text, read. -/
namespace Kx
open PySem PySem.Spec PyProof.Rows L2 GxR Gx Dy
section
variable {h : Hq} {k i r : Nat} {st : St} {sl : List Sl}
theorem s_fld {n c : Nat} {fs : List (Str × D)} {f : Str} {fv : FE} {y : D} (e : h[n]? = some (.ins c fs)) (ev : fv (.va (.ref n) :: sl) h = .ok y h) (hl : fs.length < 1000) :
    fFldS c f (fVar 0) fv (.va (.ref n) :: sl) h = .nx (.va (.ref n) :: sl) (h.set n (.ins c (putFd f y fs))) := by
  unfold fFldS
  rw [ev]
  show (match h[n]? with | some (.ins c' fs) => if c' = c ∧ fs.length < 1000 then RS.nx (.va (.ref n) :: sl) (h.set n (.ins c' (putFd f y fs))) else .st | _ => .st) = _
  rw [e]
  exact if_pos ⟨rfl, hl⟩
theorem e_init : r_Layout_init [.ref h.length] (h ++ [.ins 0 []]) = .ok .non (h ++ [cSt ⟨[], [], [], []⟩]) := by
  rw [r_Layout_init, a_run1]
  show RS.fin (f_Layout_init [.va (.ref h.length)] _) = _
  rw [f_Layout_init, a_seq, s_fld (y := .tup []) last_get rfl (by decide), last_set, seq_nx, a_seq, s_fld (y := .pt []) last_get rfl (by simp [putFd]), last_set, seq_nx, a_seq, s_fld (y := .tup []) last_get rfl ?_, last_set, seq_nx, s_fld (y := .tup []) last_get rfl ?_, last_set]
  · rfl
  · decide +kernel
  · decide +kernel
def sortsL : List Str := ["section", "point", "link", "signal"]
def sliceS : Nat → D
  | 0 => d_SORTS
  | 1 => .tup [.str "point", .str "link", .str "signal"]
  | 2 => .tup [.str "link", .str "signal"]
  | _ => .tup [.str "signal"]
theorem as_sorts : ∀ s ∈ sortsL, As s := by
  intro s hs
  simp only [sortsL, List.mem_cons, List.not_mem_nil, or_false] at hs
  rcases hs with rfl | rfl | rfl | rfl
  · exact as_section
  · exact as_point
  · exact as_link
  · exact as_signal
def kd : Nat → Str
  | 0 => "section"
  | 1 => "point"
  | 2 => "link"
  | _ => "signal"
theorem slice_ok {a b c d e : Sl} (hr : r < 4) : fSlA (fC d_SORTS) (oSo (fVar 2)) oNo [a, b, .va (.int (r : Int)), c, d, e] h = .ok (sliceS r) h := by
  match r, hr with
  | 0, _ => rfl
  | 1, _ => rfl
  | 2, _ => rfl
  | 3, _ => rfl
theorem slice_items (hr : r < 4) : items h (sliceS r) = some ((sortsL.drop r).map .str) := by
  match r, hr with
  | 0, _ => rfl
  | 1, _ => rfl
  | 2, _ => rfl
  | 3, _ => rfl
theorem slice_ns (hr : r < 4) : ∀ b, sliceS r ≠ .str b := by
  intro b
  match r, hr with
  | 0, _ => simp [sliceS, d_SORTS]
  | 1, _ => simp [sliceS]
  | 2, _ => simp [sliceS]
  | 3, _ => simp [sliceS]
theorem kd_mem (hr : r ≤ i) (hi : i < 4) : kd i ∈ sortsL.drop r := by
  match i, hi with
  | 0, _ => match r, hr with
    | 0, _ => simp [kd, sortsL]
  | 1, _ => match r, hr with
    | 0, _ => simp [kd, sortsL]
    | 1, _ => simp [kd, sortsL]
  | 2, _ => match r, hr with
    | 0, _ => simp [kd, sortsL]
    | 1, _ => simp [kd, sortsL]
    | 2, _ => simp [kd, sortsL]
  | 3, _ => match r, hr with
    | 0, _ => simp [kd, sortsL]
    | 1, _ => simp [kd, sortsL]
    | 2, _ => simp [kd, sortsL]
    | 3, _ => simp [kd, sortsL]
theorem kd_nin (hr : r ≤ i) (hi : i < 4) : opNin (.str (kd i)) (sliceS r) h = .ok (.bl false) h := by
  have m := kd_mem hr hi
  unfold opNin
  rw [in_strs (slice_items (by omega)) (slice_ns (by omega)) (fun s hs => as_sorts s (List.mem_of_mem_drop hs)) (as_sorts _ (List.mem_of_mem_drop m)), decide_eq_true m]
  rfl
theorem kd_ix (hi : i < 4) : opTIndex d_SORTS [.str (kd i)] h = .ok (.int (i : Int)) h := by
  match i, hi with
  | 0, _ => rfl
  | 1, _ => rfl
  | 2, _ => rfl
  | 3, _ => rfl
abbrev rlBody : FS := (fSeq (fSet 5 (fBm .str opSplit (fVar 4) (aCons (fC (.str " ")) aNil)))
  (fSeq (fIf (bOr (fAsB (fBin opNin (fBin opSub_ (fVar 5) (fC (.int 0))) (fSlA (fC d_SORTS) (oSo (fVar 2)) oNo))) (bNot (fTru (fCall 2 r_take_row (aCons (fVar 1) (aCons (fVar 5) aNil)))))) fNever fNx)
  (fSet 2 (fBm .tup opTIndex (fC d_SORTS) (aCons (fBin opSub_ (fVar 5) (fC (.int 0))) aNil)))))
theorem bt_str {s : Str} : BT.ok .str (.str s) h = true := rfl
theorem bt_kt {ds : List D} : BT.ok .tup (.kt ds) h = true := rfl
theorem split_ok {a b : Str} (hb : (b.length == 0) = false) (ha : a.length + 2 ≤ LIM) : opSplit (.str a) [.str b] h = .ok (.lst ((Txt.split a b).map .str)) h := if_pos ⟨hb, ha⟩
theorem sp_ne : ((PySem.Str.ofString " ").length == 0) = false := by decide +kernel
theorem nl_ne : ((PySem.Str.ofString "\n").length == 0) = false := by decide +kernel
theorem sub_hd {d : D} {ds : List D} : opSub_ (.lst (d :: ds)) (.int 0) h = .ok d h := sub_lst (by unfold atI ixN; simp)
theorem rl_step {W : List Str} {t x at_ : Sl} {h' : Hq} (hr : r ≤ i) (hi : i < 4) (hW : ∀ w ∈ kd i :: W, Wd w) (hl : (rowT (kd i :: W)).length + 2 ≤ LIM) (et : r_take_row [.ref k, .lst ((kd i :: W).map .str)] h = .ok (.bl true) h') :
    rlBody [t, .va (.ref k), .va (.int (r : Int)), at_, .va (.str (rowT (kd i :: W))), x] h = .nx [t, .va (.ref k), .va (.int (i : Int)), at_, .va (.str (rowT (kd i :: W))), .va (.lst ((kd i :: W).map .str))] h' := by
  have sp : opSplit (.str (rowT (kd i :: W))) [.str " "] h = .ok (.lst ((kd i :: W).map .str)) h := by
    rw [split_ok sp_ne hl, split_row (by simp) hW]
  have hd : ∀ h, opSub_ (.lst ((kd i :: W).map .str)) (.int 0) h = .ok (.str (kd i)) h := fun h => sub_hd
  have q1 := fun c d e => slice_ok (h := h) (a := t) (b := .va (.ref k)) (c := c) (d := d) (e := e) (show r < 4 by omega)
  have q2 := kd_nin (h := h) hr hi
  have q3 := kd_ix (h := h') hi
  have q4 : BT.ok .tup d_SORTS h' = true := rfl
  rw [rlBody]
  generalize (kd i :: W).map D.str = WW at sp hd et ⊢
  generalize rowT (kd i :: W) = RR at sp ⊢
  generalize r_take_row = TR at et ⊢
  simp only [bt_str, sp, hd, q1, q2, et, q4, q3, a_run1, a_run2, fin_rt, fin_nx, a_seq, seq_nx, seq_rt, a_ret, a_retN, a_set, a_if, a_nx, a_var, get_va, a_c, a_nil, a_cons, a_bin, a_cb, a_call, a_and, a_or, a_bAnd, a_bOr, a_bNot, a_asB, a_tru, a_tup, a_lst, a_asg, a_drop, a_bm, a_ite, and_t, and_f, or_t, or_f, asB_bl, tru_bl, b_ok, s_ok, List.length_cons, List.length_nil, List.map_cons, List.map_nil, List.set_cons_zero, List.set_cons_succ, List.getElem?_cons_zero, List.getElem?_cons_succ, Bool.not_true, Bool.not_false, if_true, if_false, Bool.true_eq_false, Bool.false_eq_true, reduceIte, Nat.reduceAdd, Nat.reduceSub, Nat.reduceLeDiff, Nat.zero_add, eq_self, LIM]
def Rw (st : St) (W : List Str) (st1 : St) : Prop := ∀ h k, h[k]? = some (cSt st) → ∃ h', r_take_row [.ref k, .lst (W.map .str)] h = .ok (.bl true) h' ∧ h'[k]? = some (cSt st1)
inductive Rd : Nat → St → List (List Str) → St → Prop
  | nil {r : Nat} {st : St} : Rd r st [] st
  | cons {r i : Nat} {st st1 st2 : St} {W : List Str} {Ws : List (List Str)} (hr : r ≤ i) (hi : i < 4) (tk : Rw st (kd i :: W) st1) (rd : Rd i st1 Ws st2) : Rd r st ((kd i :: W) :: Ws) st2
theorem Rd.mono {r r' : Nat} {st st' : St} {Ws : List (List Str)} (hr : r ≤ r') : Rd r' st Ws st' → Rd r st Ws st'
  | .nil => .nil
  | .cons h1 h2 h3 h4 => .cons (Nat.le_trans hr h1) h2 h3 h4
theorem rd_loop : ∀ {Ws : List (List Str)} {r j : Nat} {st st' : St} {h : Hq} {k : Nat} {t a b c : Sl}, Rd r st Ws st' → (∀ W ∈ Ws, (∀ w ∈ W, Wd w) ∧ (rowT W).length + 2 ≤ LIM) → h[k]? = some (cSt st) →
    ∃ x a' b' c' h', forGo (gTuN 2 (gsCons (gNm 3) (gsCons (gNm 4) gsNil))) rlBody (numb j ((Ws.map rowT).map .str)) [t, .va (.ref k), .va (.int (r : Int)), a, b, c] h = .nx [t, .va (.ref k), x, a', b', c'] h' ∧ h'[k]? = some (cSt st')
  | _, _, _, _, _, h, _, _, a, b, c, .nil, _, e => ⟨_, a, b, c, h, rfl, e⟩
  | _ :: Ws, r, j, _, _, h, k, t, a, b, c, .cons (i := i) (W := W) hr hi tk rd, hw, e => by
    obtain ⟨h1, e1, e2⟩ := tk h k e
    obtain ⟨w1, w2⟩ := hw _ List.mem_cons_self
    obtain ⟨x, a', b', c', h', e3, e4⟩ := rd_loop (t := t) (j := j + 1) (a := .va (.int (j : Int))) (b := .va (.str (rowT (kd i :: W)))) (c := .va (.lst ((kd i :: W).map .str))) rd (fun W hW => hw W (List.mem_cons_of_mem _ hW)) e2
    refine ⟨x, a', b', c', h', ?_, e4⟩
    rw [List.map_cons, List.map_cons, numb]
    exact (go_cons (bs := [(3, .int (j : Int)), (4, .str (rowT (kd i :: W)))]) rfl (rl_step hr hi w1 w2 e1)).trans e3
theorem set_get {c : C} {d : C} (e : h[k]? = some d) : (h.set k c)[k]? = some c := set_at e
theorem Sml.sub {p f : St} (s : Sml f) (h1 : p.secs.Sublist f.secs) (h2 : p.pts.Sublist f.pts) (h3 : p.links.Sublist f.links) (h4 : p.sigs.Sublist f.sigs) : Sml p := by
  have hn : p.names.Sublist f.names := h1.append ((h2.map _).append (h4.map _))
  refine ⟨fun n hm => s.nm n (hn.subset hm), ?_, ?_, ?_, ?_, s.nd.sublist hn⟩
  · have := h1.length_le; have := s.c1; omega
  · have := h2.length_le; have := s.c2; omega
  · have := h3.length_le; have := s.c3; omega
  · have := h4.length_le; have := s.c4; omega
theorem rd_sigs {S : List Str} {P : List (Str × Str)} {L : List Lnk} : ∀ {rest done : List (Str × (Str × Nat))}, Fits ⟨S, P, L, done ++ rest⟩ → Rd 3 ⟨S, P, L, done⟩ (rest.map wSig) ⟨S, P, L, done ++ rest⟩
  | [], done, _ => by rw [List.append_nil]; exact .nil
  | x :: rest, done, f => by
    have sm : Sml ⟨S, P, L, done⟩ := f.sm.sub (.refl _) (.refl _) (.refl _) (List.sublist_append_left ..)
    have sm1 : Sml ⟨S, P, L, done ++ [x]⟩ := f.sm.sub (.refl _) (.refl _) (.refl _) ((List.Sublist.refl _).append ((List.nil_sublist _).cons₂ x))
    have eq : done ++ x :: rest = (done ++ [x]) ++ rest := by simp
    have hx : x ∈ done ++ x :: rest := by simp
    refine Rd.cons (i := 3) (W := [x.1, "at", tEnd x.2]) (st1 := ⟨S, P, L, done ++ [x]⟩) (Nat.le_refl _) (by decide) (fun h k e => ?_) ?_
    · refine ⟨_, t_sig (n := x) e sm (f.sm.sg hx) ?_ ?_ (f.s x hx) (fun y hy => f.s y (List.mem_append.mpr (.inl hy))) ?_, set_get e⟩
      · have nd := sm1.nd
        simp only [St.names, List.map_append, List.map_cons, List.map_nil] at nd ⊢
        intro hm
        have z : (S ++ (P.map (·.1) ++ done.map (·.1)) ++ [x.1]).Nodup := by simpa using nd
        exact (List.nodup_append.mp z).2.2 _ hm _ (by simp) rfl
      · have := sm1.c4
        simp at this
        show done.length < 16
        omega
      · have nd := f.sn
        simp only [List.map_append, List.map_cons] at nd
        intro hm
        exact (List.nodup_append.mp nd).2.2 _ hm _ (by simp) rfl
    · rw [eq] at f ⊢
      exact rd_sigs f
theorem rd_links {S : List Str} {P : List (Str × Str)} {st' : St} {Ws : List (List Str)} : ∀ {rest done : List Lnk}, Fits ⟨S, P, done ++ rest, []⟩ → Rd 2 ⟨S, P, done ++ rest, []⟩ Ws st' → Rd 2 ⟨S, P, done, []⟩ (rest.map wLnk ++ Ws) st'
  | [], done, _, r => by rw [List.append_nil] at r; exact r
  | x :: rest, done, f, r => by
    have sm : Sml ⟨S, P, done, []⟩ := f.sm.sub (.refl _) (.refl _) (List.sublist_append_left ..) (.refl _)
    have eq : done ++ x :: rest = (done ++ [x]) ++ rest := by simp
    have hx : x ∈ done ++ x :: rest := by simp
    have gg : ∀ {l : Lnk}, GLnk ⟨S, P, done ++ x :: rest, []⟩ l → GLnk ⟨S, P, done, []⟩ l := fun g => ⟨g.a, g.b, g.ne, g.n, g.nd, g.so, g.w⟩
    refine Rd.cons (i := 2) (W := tEnd x.1 :: tEnd x.2.1 :: wrdW "when" x.2.2) (st1 := ⟨S, P, done ++ [x], []⟩) (Nat.le_refl _) (by decide) (fun h k e => ?_) ?_
    · have kl := (List.getElem?_eq_some_iff.mp e).1
      refine ⟨_, t_lnk (l := x) e sm (fun o ho => gg (f.l o (List.mem_append.mpr (.inl ho)))) (gg (f.l x hx)) ?_ ?_, set_get (d := cSt ⟨S, P, done, []⟩) (by rw [List.getElem?_append_left kl]; exact e)⟩
      · intro o ho
        exact (List.pairwise_append.mp f.al).2.2 o ho x (by simp)
      · have := f.sm.c3
        simp at this
        show done.length < 60
        omega
    · rw [eq] at f r
      exact rd_links f r
theorem rd_pts {S : List Str} {st' : St} {Ws : List (List Str)} : ∀ {rest done : List (Str × Str)}, Fits ⟨S, done ++ rest, [], []⟩ → Rd 1 ⟨S, done ++ rest, [], []⟩ Ws st' → Rd 1 ⟨S, done, [], []⟩ (rest.map wPt ++ Ws) st'
  | [], done, _, r => by rw [List.append_nil] at r; exact r
  | x :: rest, done, f, r => by
    have sm : Sml ⟨S, done, [], []⟩ := f.sm.sub (.refl _) (List.sublist_append_left ..) (.refl _) (.refl _)
    have eq : done ++ x :: rest = (done ++ [x]) ++ rest := by simp
    have hx : x ∈ done ++ x :: rest := by simp
    refine Rd.cons (i := 1) (W := [x.1, "in", x.2]) (st1 := ⟨S, done ++ [x], [], []⟩) (Nat.le_refl _) (by decide) (fun h k e => ?_) ?_
    · refine ⟨_, t_pt (p := x) e sm (f.sm.pt (x := x.2) hx) ?_ ?_ (f.p x hx), set_get e⟩
      · have nd := f.sm.nd
        simp only [St.names, List.map_append, List.map_cons, List.map_nil] at nd ⊢
        intro hm
        have z : ((S ++ done.map (·.1)) ++ (x.1 :: rest.map (·.1))).Nodup := by simpa using nd
        exact (List.nodup_append.mp z).2.2 _ (by simpa using hm) _ (by simp) rfl
      · have := f.sm.c2
        simp at this
        show done.length < 12
        omega
    · rw [eq] at f r
      exact rd_pts f r
theorem rd_secs {st' : St} {Ws : List (List Str)} : ∀ {rest done : List Str}, Sml ⟨done ++ rest, [], [], []⟩ → Rd 0 ⟨done ++ rest, [], [], []⟩ Ws st' → Rd 0 ⟨done, [], [], []⟩ (rest.map wSec ++ Ws) st'
  | [], done, _, r => by rw [List.append_nil] at r; exact r
  | x :: rest, done, f, r => by
    have sm : Sml ⟨done, [], [], []⟩ := f.sub (List.sublist_append_left ..) (.refl _) (.refl _) (.refl _)
    have eq : done ++ x :: rest = (done ++ [x]) ++ rest := by simp
    have hx : x ∈ done ++ x :: rest := by simp
    refine Rd.cons (i := 0) (W := [x]) (st1 := ⟨done ++ [x], [], [], []⟩) (Nat.le_refl _) (by decide) (fun h k e => ?_) ?_
    · refine ⟨_, t_sec e sm (f.sec hx) ?_ ?_, set_get e⟩
      · have nd := f.nd
        simp only [St.names, List.map_nil, List.append_nil] at nd ⊢
        intro hm
        exact (List.nodup_append.mp nd).2.2 _ hm _ (by simp) rfl
      · have := f.c1
        simp at this
        show done.length < 30
        omega
    · rw [eq] at f r
      exact rd_secs f r
theorem Fits.rd {st : St} (f : Fits st) : Rd 0 ⟨[], [], [], []⟩ (wRows st) st := by
  obtain ⟨S, P, L, G⟩ := st
  have sm := f.sm
  have f3 : Fits ⟨S, P, [] ++ L, []⟩ := ⟨sm.sub (.refl _) (.refl _) (.refl _) (List.nil_sublist _), f.ne, f.p, fun l hl => let g := f.l l hl; ⟨g.a, g.b, g.ne, g.n, g.nd, g.so, g.w⟩, f.al, by simp, by simp⟩
  have f2 : Fits ⟨S, [] ++ P, [], []⟩ := ⟨sm.sub (.refl _) (.refl _) (List.nil_sublist _) (List.nil_sublist _), f.ne, f.p, by simp, by simp, by simp, by simp⟩
  have s1 : Sml ⟨[] ++ S, [], [], []⟩ := sm.sub (.refl _) (List.nil_sublist _) (List.nil_sublist _) (List.nil_sublist _)
  refine rd_secs s1 (Rd.mono (by decide : 0 ≤ 1) (rd_pts f2 (Rd.mono (by decide : 1 ≤ 2) (rd_links f3 (Rd.mono (by decide : 2 ≤ 3) ?_)))))
  exact rd_sigs (done := []) f
theorem e_read_layout (f : Fits st) (h : Hq) : ∃ h', r_read_layout [.str (textOf st)] h = .ok (.ref h.length) h' ∧ h'[h.length]? = some (cSt st) := by
  have l1 : LIM = 16777216 := rfl
  have tl := f.tlen
  obtain ⟨x, a', b', c', h', e1, e2⟩ := rd_loop (j := 0) (t := .va (.str (textOf st))) (a := .no) (b := .no) (c := .no) (k := h.length) f.rd (fun W hW => ⟨(f.wd W hW).1, by
    have := f.rlen (rowT W) (List.mem_map.mpr ⟨W, hW, rfl⟩)
    omega⟩) (last_get (h := h))
  refine ⟨h', ?_, e2⟩
  rw [r_read_layout, a_run1]
  show RS.fin (f_read_layout [.va (.str (textOf st)), .no, .no, .no, .no, .no] h) = _
  have mk : ∀ sl, fMake 0 1 r_Layout_init aNil sl h = .ok (.ref h.length) (h ++ [cSt ⟨[], [], [], []⟩]) := fun sl => by
    unfold fMake
    show (R.bind (r_Layout_init [.ref h.length] (h ++ [.ins 0 []])) _) = _
    rw [e_init]
    rfl
  have sp : opSplit (.str (textOf st)) [.str "\n"] (h ++ [cSt ⟨[], [], [], []⟩]) = .ok (.lst ((rowsOf st).map .str)) (h ++ [cSt ⟨[], [], [], []⟩]) := by
    rw [split_ok nl_ne (by omega), f.split]
  have en : ∀ sl, sl[0]? = some (.va (.str (textOf st))) → iEn (aCons (fBm .str opSplit (fVar 0) (aCons (fC (.str "\n")) aNil)) aNil) sl (h ++ [cSt ⟨[], [], [], []⟩]) = .ok (numb 0 ((rowsOf st).map .str)) (h ++ [cSt ⟨[], [], [], []⟩]) := fun sl e0 => by
    unfold iEn
    have : fBm .str opSplit (fVar 0) (aCons (fC (.str "\n")) aNil) sl (h ++ [cSt ⟨[], [], [], []⟩]) = .ok (.lst ((rowsOf st).map .str)) (h ++ [cSt ⟨[], [], [], []⟩]) := by
      simp only [e0, bt_str, sp, a_run1, a_run2, fin_rt, fin_nx, a_seq, seq_nx, seq_rt, a_ret, a_retN, a_set, a_if, a_nx, a_var, get_va, a_c, a_nil, a_cons, a_bin, a_cb, a_call, a_and, a_or, a_bAnd, a_bOr, a_bNot, a_asB, a_tru, a_tup, a_lst, a_asg, a_drop, a_bm, a_ite, and_t, and_f, or_t, or_f, asB_bl, tru_bl, b_ok, s_ok, List.length_cons, List.length_nil, List.map_cons, List.map_nil, List.set_cons_zero, List.set_cons_succ, List.getElem?_cons_zero, List.getElem?_cons_succ, Bool.not_true, Bool.not_false, if_true, if_false, Bool.true_eq_false, Bool.false_eq_true, reduceIte, Nat.reduceAdd, Nat.reduceSub, Nat.reduceLeDiff, Nat.zero_add, eq_self, LIM]
    simp only [this, a_run1, a_run2, fin_rt, fin_nx, a_seq, seq_nx, seq_rt, a_ret, a_retN, a_set, a_if, a_nx, a_var, get_va, a_c, a_nil, a_cons, a_bin, a_cb, a_call, a_and, a_or, a_bAnd, a_bOr, a_bNot, a_asB, a_tru, a_tup, a_lst, a_asg, a_drop, a_bm, a_ite, and_t, and_f, or_t, or_f, asB_bl, tru_bl, b_ok, s_ok, List.length_cons, List.length_nil, List.map_cons, List.map_nil, List.set_cons_zero, List.set_cons_succ, List.getElem?_cons_zero, List.getElem?_cons_succ, Bool.not_true, Bool.not_false, if_true, if_false, Bool.true_eq_false, Bool.false_eq_true, reduceIte, Nat.reduceAdd, Nat.reduceSub, Nat.reduceLeDiff, Nat.zero_add, eq_self, LIM]
  rw [f_read_layout]
  simp only [mk, a_for, a_run1, a_run2, fin_rt, fin_nx, a_seq, seq_nx, seq_rt, a_ret, a_retN, a_set, a_if, a_nx, a_var, get_va, a_c, a_nil, a_cons, a_bin, a_cb, a_call, a_and, a_or, a_bAnd, a_bOr, a_bNot, a_asB, a_tru, a_tup, a_lst, a_asg, a_drop, a_bm, a_ite, and_t, and_f, or_t, or_f, asB_bl, tru_bl, b_ok, s_ok, List.length_cons, List.length_nil, List.map_cons, List.map_nil, List.set_cons_zero, List.set_cons_succ, List.getElem?_cons_zero, List.getElem?_cons_succ, Bool.not_true, Bool.not_false, if_true, if_false, Bool.true_eq_false, Bool.false_eq_true, reduceIte, Nat.reduceAdd, Nat.reduceSub, Nat.reduceLeDiff, Nat.zero_add, eq_self, LIM]
  rw [en _ rfl]
  simp only [a_run1, a_run2, fin_rt, fin_nx, a_seq, seq_nx, seq_rt, a_ret, a_retN, a_set, a_if, a_nx, a_var, get_va, a_c, a_nil, a_cons, a_bin, a_cb, a_call, a_and, a_or, a_bAnd, a_bOr, a_bNot, a_asB, a_tru, a_tup, a_lst, a_asg, a_drop, a_bm, a_ite, and_t, and_f, or_t, or_f, asB_bl, tru_bl, b_ok, s_ok, List.length_cons, List.length_nil, List.map_cons, List.map_nil, List.set_cons_zero, List.set_cons_succ, List.getElem?_cons_zero, List.getElem?_cons_succ, Bool.not_true, Bool.not_false, if_true, if_false, Bool.true_eq_false, Bool.false_eq_true, reduceIte, Nat.reduceAdd, Nat.reduceSub, Nat.reduceLeDiff, Nat.zero_add, eq_self, LIM]
  rw [show (rowsOf st) = (wRows st).map rowT from rfl]
  show RS.fin (RS.seq (forGo _ rlBody _ _ _) _) = _
  have e1' : forGo (gTuN 2 (gsCons (gNm 3) (gsCons (gNm 4) gsNil))) rlBody (numb 0 (((wRows st).map rowT).map .str)) [.va (.str (textOf st)), .va (.ref h.length), .va (.int 0), .no, .no, .no] (h ++ [cSt ⟨[], [], [], []⟩]) = .nx [.va (.str (textOf st)), .va (.ref h.length), x, a', b', c'] h' := e1
  rw [e1']
  simp only [a_run1, a_run2, fin_rt, fin_nx, a_seq, seq_nx, seq_rt, a_ret, a_retN, a_set, a_if, a_nx, a_var, get_va, a_c, a_nil, a_cons, a_bin, a_cb, a_call, a_and, a_or, a_bAnd, a_bOr, a_bNot, a_asB, a_tru, a_tup, a_lst, a_asg, a_drop, a_bm, a_ite, and_t, and_f, or_t, or_f, asB_bl, tru_bl, b_ok, s_ok, List.length_cons, List.length_nil, List.map_cons, List.map_nil, List.set_cons_zero, List.set_cons_succ, List.getElem?_cons_zero, List.getElem?_cons_succ, Bool.not_true, Bool.not_false, if_true, if_false, Bool.true_eq_false, Bool.false_eq_true, reduceIte, Nat.reduceAdd, Nat.reduceSub, Nat.reduceLeDiff, Nat.zero_add, eq_self, LIM]
end
end Kx
end

section
set_option linter.all false
set_option maxRecDepth 100000
set_option maxHeartbeats 400000
/-! Ev15: a station's text, written. -/
namespace Kx
open PySem PySem.Spec PyProof.Rows L2 GxR Gx Dy
section
variable {h : Hq} {k i r : Nat} {st : St} {sl : List Sl}
theorem tl_sp : TL.tl (PySem.Str.ofString " ") = [32] := by decide +kernel
theorem join_tl : ∀ (a : Str) (ws : List Str), TL.tl (Str.join " " (a :: ws)) = TL.tl a ++ ws.flatMap fun w => 32 :: TL.tl w
  | a, [] => by
    show TL.tl a = _
    simp
  | a, b :: r => by
    show TL.tl (a ++ " " ++ Str.join " " (b :: r)) = _
    rw [TL.tl_append, TL.tl_append, join_tl b r, tl_sp, List.flatMap_cons]
    simp
theorem row_tl (a : Str) (ws : List Str) : TL.tl (rowT (a :: ws)) = TL.tl a ++ ws.flatMap fun w => 32 :: TL.tl w := by
  unfold rowT
  rw [TL.join_eq]
  exact join_tl a ws
theorem tl_empty : TL.tl Str.empty = [] := rfl
theorem tl_section : TL.tl (PySem.Str.ofString "section ") = TL.tl (PySem.Str.ofString "section") ++ [32] := by decide +kernel
theorem tl_point : TL.tl (PySem.Str.ofString "point ") = TL.tl (PySem.Str.ofString "point") ++ [32] := by decide +kernel
theorem tl_link : TL.tl (PySem.Str.ofString "link ") = TL.tl (PySem.Str.ofString "link") ++ [32] := by decide +kernel
theorem tl_signal : TL.tl (PySem.Str.ofString "signal ") = TL.tl (PySem.Str.ofString "signal") ++ [32] := by decide +kernel
theorem tl_in : TL.tl (PySem.Str.ofString " in ") = 32 :: TL.tl (PySem.Str.ofString "in") ++ [32] := by decide +kernel
theorem tl_at : TL.tl (PySem.Str.ofString " at ") = 32 :: TL.tl (PySem.Str.ofString "at") ++ [32] := by decide +kernel
theorem row_sec (n : Str) : Str.empty ++ "section " ++ n = rowT (wSec n) := TL.ext_tl (by
  rw [wSec, row_tl]
  simp [TL.tl_append, tl_empty, tl_section])
theorem row_pt (p : Str × Str) : Str.empty ++ "point " ++ p.1 ++ " in " ++ p.2 = rowT (wPt p) := TL.ext_tl (by
  rw [wPt, row_tl]
  simp [TL.tl_append, tl_empty, tl_point, tl_in])
theorem row_sig (s : Str × (Str × Nat)) : Str.empty ++ "signal " ++ s.1 ++ " at " ++ tEnd s.2 = rowT (wSig s) := TL.ext_tl (by
  rw [wSig, row_tl]
  simp [TL.tl_append, tl_empty, tl_signal, tl_at])
theorem wants_tl : ∀ (ws : List (Str × Str)) (acc lead : Str), TL.tl (tWants acc lead ws) = TL.tl acc ++ (wrdW lead ws).flatMap fun w => 32 :: TL.tl w
  | [], acc, lead => by simp [tWants, wrdW]
  | w :: r, acc, lead => by
    rw [tWants, wants_tl r, wrdW]
    simp [TL.tl_append, tWant, tl_empty, tl_sp]
theorem row_lnk (l : Lnk) : tLink l = rowT (wLnk l) := TL.ext_tl (by
  rw [wLnk, row_tl, tLink, wants_tl]
  simp [TL.tl_append, tl_empty, tl_link, tl_sp])
theorem in_len : (PySem.Str.ofString " in ").length = 4 := by decide +kernel
theorem at_len : (PySem.Str.ofString " at ").length = 4 := by decide +kernel
theorem sec_len : (PySem.Str.ofString "section ").length = 8 := by decide +kernel
theorem pt_len : (PySem.Str.ofString "point ").length = 6 := by decide +kernel
theorem sig_len : (PySem.Str.ofString "signal ").length = 7 := by decide +kernel
theorem iadd_lst {n : Nat} {ds bs : List D} (e : h[n]? = some (.lst ds)) (hl : ds.length + bs.length ≤ LIM) : opIAddX (.ref n) (.lst bs) h = .ok (.ref n) (h.set n (.lst (ds ++ bs))) := by
  unfold opIAddX
  simp only [e, litems]
  exact if_pos hl
def augS : Option Sl → (D → RS) → RS
  | some (.va x), k => k x
  | _, _ => .st
theorem a_aug {o : D → D → Hq → R D} {fe : FE} : fAug i o fe sl h = augS sl[i]? fun x => (fe sl h).toS fun y h1 => (o x y h1).toS fun d h2 => .nx (sl.set i (.va d)) h2 := by
  unfold fAug augS
  cases sl[i]? with
  | none => rfl
  | some z => cases z <;> rfl
theorem aug_va {x : D} {k : D → RS} : augS (some (.va x)) k = k x := id rfl
theorem sum_le {m : Nat} : ∀ {l : List Str}, (∀ x ∈ l, x.length ≤ m) → (l.map (·.length)).sum ≤ l.length * m
  | [], _ => by simp
  | x :: l, hx => by
    have := hx x List.mem_cons_self
    have := sum_le (fun z hz => hx z (List.mem_cons_of_mem _ hz))
    rw [List.map_cons, List.sum_cons, List.length_cons, Nat.add_mul]
    omega
theorem join_ok {n : Nat} {ys : List Str} {a : Str} (e : h[n]? = some (.lst (ys.map .str))) (hl : (ys.map (·.length)).sum + ys.length * a.length ≤ 16777216) : opJoin (.str a) [.ref n] h = .ok (.str (Txt.join a ys)) h := by
  unfold opJoin items rdC
  simp only [e, Option.map_some, open_, Option.bind_some, unstrs_map]
  exact if_pos hl
theorem Fits.jsum (f : Fits st) : ((rowsOf st).map (·.length)).sum + (rowsOf st).length * (PySem.Str.ofString "\n").length ≤ 16777216 := by
  have a := sum_le f.rlen
  have c := f.count
  rw [nl_len]
  have : (rowsOf st).length * 10000 ≤ 118 * 10000 := Nat.mul_le_mul_right _ c
  omega
theorem e_layout_text (f : Fits st) (e : h[k]? = some (cSt st)) : ∃ h', r_layout_text [.ref k] h = .ok (.str (textOf st)) h' := by
  have l1 : LIM = 16777216 := rfl
  have kl := (List.getElem?_eq_some_iff.mp e).1
  have s := f.sm
  have c1 := s.c1
  have c2 := s.c2
  have c3 := s.c3
  have c4 := s.c4
  let R1 := st.secs.map (rowT ∘ wSec)
  let R2 := st.pts.map (rowT ∘ wPt)
  let R3 := st.links.map (rowT ∘ wLnk)
  let R4 := st.sigs.map (rowT ∘ wSig)
  have ek : ∀ x : C, (h ++ [x])[k]? = some (cSt st) := fun x => by rw [List.getElem?_append_left kl]; exact e
  have q1 : fLc (iAny (fFld 0 "sections" (fVar 0))) (gNm 2) bYes (fJs [(fC (.str "section ")), (fFmt (fVar 2))]) [2] [.va (.ref k), .no, .no, .no, .no, .no] h = .ok (.lst (R1.map .str)) h := by
    rw [List.map_map]
    refine ev_lcT (emb := D.str) (fun n => [(2, .str n)]) (ev_any (f_sec e) rfl) (by omega) (fun _ _ => rfl) (fun n hn => ?_)
    have l6 := (s.sec hn).le
    show jGo _ Str.empty [.va (.ref k), .no, .va (.str n), .no, .no, .no] h = _
    have e0 : Str.empty.length = 0 := rfl
    have k1 := sec_len
    rw [ev_jcons (y := "section ") rfl (by rw [slen]; omega), ev_jcons (y := n) (ev_fmtS (ev_var rfl) (by omega)) (by rw [slen, slen]; omega), row_sec]
    rfl
  have q2 : ∀ x, fLc (iAny (fFld 0 "points" (fVar 0))) (gTuN 2 (gsCons (gNm 2) (gsCons (gNm 3) gsNil))) bYes (fJs [(fC (.str "point ")), (fFmt (fVar 2)), (fC (.str " in ")), (fFmt (fVar 3))]) [2, 3] [.va (.ref k), .va (.ref h.length), .no, .no, .no, .no] (h ++ [x]) = .ok (.lst (R2.map .str)) (h ++ [x]) := fun x => by
    rw [List.map_map]
    refine ev_lcT (emb := dPt) (fun p => [(2, .str p.1), (3, .str p.2)]) (ev_any (f_pts (ek x)) rfl) (by omega) (fun _ _ => rfl) (fun p hp => ?_)
    have l6 := (s.pt (x := p.2) hp).le
    have l7 := (s.sec (f.p p hp)).le
    show jGo _ Str.empty [.va (.ref k), .va (.ref h.length), .va (.str p.1), .va (.str p.2), .no, .no] _ = _
    have e0 : Str.empty.length = 0 := rfl
    have k1 := pt_len
    have k2 := in_len
    rw [ev_jcons (y := "point ") rfl (by rw [slen]; omega), ev_jcons (y := p.1) (ev_fmtS (ev_var rfl) (by omega)) (by rw [slen, slen]; omega), ev_jcons (y := " in ") rfl (by rw [slen, slen, slen]; omega), ev_jcons (y := p.2) (ev_fmtS (ev_var rfl) (by omega)) (by rw [slen, slen, slen, slen]; omega), row_pt]
    rfl
  have q3 : ∀ x, fLc (iAny (fFld 0 "links" (fVar 0))) (gNm 4) bYes (fCall 1 r_link_row (aCons (fVar 4) aNil)) [4] [.va (.ref k), .va (.ref h.length), .no, .no, .no, .no] (h ++ [x]) = .ok (.lst (R3.map .str)) (h ++ [x]) := fun x => by
    rw [List.map_map]
    refine ev_lcT (emb := dLink) (fun l => [(4, dLink l)]) (ev_any (f_lnk (ek x)) rfl) (by omega) (fun _ _ => rfl) (fun l hl => ?_)
    have g := f.l l hl
    have l6 := (s.sec g.a.1).le
    have l7 := (s.sec g.b.1).le
    refine (ev_call (n := 1) (xs := [dLink l]) (h1 := h ++ [x]) rfl rfl).trans ?_
    rw [e_link_row l _ (by omega) g.a.2 (by omega) g.b.2 (fun w hw => ?_) (by have := g.n; omega), row_lnk]
    · rfl
    · obtain ⟨h1, h2⟩ := g.w w hw
      refine ⟨?_, ?_⟩
      · rcases h2 with h2 | h2
        · have := (s.pt h2).le; omega
        · have := (s.pt h2).le; omega
      · have n1 : (PySem.Str.ofString "n").length = 1 := by decide +kernel
        have r1 : (PySem.Str.ofString "r").length = 1 := by decide +kernel
        rcases h1 with h1 | h1 <;> rw [h1] <;> omega
  have q4 : ∀ x, fLc (iAny (fFld 0 "signals" (fVar 0))) (gTuN 2 (gsCons (gNm 2) (gsCons (gNm 5) gsNil))) bYes (fJs [(fC (.str "signal ")), (fFmt (fVar 2)), (fC (.str " at ")), (fFmt (fCall 1 r_end_text (aCons (fVar 5) aNil)))]) [2, 5] [.va (.ref k), .va (.ref h.length), .no, .no, .no, .no] (h ++ [x]) = .ok (.lst (R4.map .str)) (h ++ [x]) := fun x => by
    rw [List.map_map]
    refine ev_lcT (emb := dSig) (fun p => [(2, .str p.1), (5, dEnd p.2)]) (ev_any (f_sig (ek x)) rfl) (by omega) (fun _ _ => rfl) (fun p hp => ?_)
    have l6 := (s.sg hp).le
    have g := f.s p hp
    have l7 := (s.sec g.1).le
    have lt := tEnd_len (e := p.2) (by omega) g.2
    show jGo _ Str.empty [.va (.ref k), .va (.ref h.length), .va (.str p.1), .no, .no, .va (dEnd p.2)] _ = _
    have e0 : Str.empty.length = 0 := rfl
    have k1 := sig_len
    have k2 := at_len
    rw [ev_jcons (y := "signal ") rfl (by rw [slen]; omega), ev_jcons (y := p.1) (ev_fmtS (ev_var rfl) (by omega)) (by rw [slen, slen]; omega), ev_jcons (y := " at ") rfl (by rw [slen, slen, slen]; omega),
      ev_jcons (y := tEnd p.2) (ev_fmtS ((ev_call (n := 1) (xs := [dEnd p.2]) rfl rfl).trans (e_end_text p.2 _ (by omega) g.2)) (by omega)) (by rw [slen, slen, slen, slen]; omega), row_sig]
    rfl
  have rows : R1 ++ R2 ++ R3 ++ R4 = rowsOf st := by
    simp [R1, R2, R3, R4, rowsOf, wRows]
  have lR1 : (R1.map D.str).length ≤ 30 := by simp [R1]; omega
  have lR2 : (R2.map D.str).length ≤ 12 := by simp [R2]; omega
  have lR3 : (R3.map D.str).length ≤ 60 := by simp [R3]; omega
  have lR4 : (R4.map D.str).length ≤ 16 := by simp [R4]; omega
  refine ⟨h ++ [.lst ((rowsOf st).map .str)], ?_⟩
  rw [r_layout_text, a_run1]
  show RS.fin (f_layout_text [.va (.ref k), .no, .no, .no, .no, .no] h) = _
  have n1 : newCell (fLc (iAny (fFld 0 "sections" (fVar 0))) (gNm 2) bYes (fJs [(fC (.str "section ")), (fFmt (fVar 2))]) [2]) [.va (.ref k), .no, .no, .no, .no, .no] h = .ok (.ref h.length) (h ++ [.lst (R1.map .str)]) := by
    unfold newCell
    rw [q1]
    rfl
  have jn : opJoin (.str "\n") [.ref h.length] (h ++ [.lst ((rowsOf st).map .str)]) = .ok (.str (textOf st)) (h ++ [.lst ((rowsOf st).map .str)]) := join_ok last_get f.jsum
  have i2 := iadd_lst (h := h ++ [.lst (R1.map .str)]) (bs := R2.map .str) last_get (by omega)
  have i3 := iadd_lst (h := h ++ [.lst (R1.map .str ++ R2.map .str)]) (bs := R3.map .str) last_get (by rw [List.length_append]; omega)
  have i4 := iadd_lst (h := h ++ [.lst (R1.map .str ++ R2.map .str ++ R3.map .str)]) (bs := R4.map .str) last_get (by rw [List.length_append, List.length_append]; omega)
  rw [last_set] at i2 i3 i4
  have rows' : R1.map D.str ++ R2.map D.str ++ R3.map D.str ++ R4.map D.str = (rowsOf st).map D.str := by
    rw [← List.map_append, ← List.map_append, ← List.map_append, rows]
  rw [rows'] at i4
  rw [f_layout_text, a_seq, a_set, n1]
  simp only [a_aug, aug_va, q2, i2, q3, i3, q4, i4, bt_str, jn, a_run1, a_run2, fin_rt, fin_nx, a_seq, seq_nx, seq_rt, a_ret, a_retN, a_set, a_if, a_nx, a_var, get_va, a_c, a_nil, a_cons, a_bin, a_cb, a_call, a_and, a_or, a_bAnd, a_bOr, a_bNot, a_asB, a_tru, a_tup, a_lst, a_asg, a_drop, a_bm, a_ite, and_t, and_f, or_t, or_f, asB_bl, tru_bl, b_ok, s_ok, List.length_cons, List.length_nil, List.map_cons, List.map_nil, List.set_cons_zero, List.set_cons_succ, List.getElem?_cons_zero, List.getElem?_cons_succ, Bool.not_true, Bool.not_false, if_true, if_false, Bool.true_eq_false, Bool.false_eq_true, reduceIte, Nat.reduceAdd, Nat.reduceSub, Nat.reduceLeDiff, Nat.zero_add, eq_self, LIM]
end
end Kx
end

section
set_option linter.all false
set_option maxRecDepth 100000
set_option maxHeartbeats 400000
/-! Ev16: the law's own text of a station. -/
namespace Kx
open PySem PySem.Spec PyProof.Rows L2 GxR Gx Dy
/-! needs in the law's order, and sorted -/
def valW (ws : List (Str × Str)) (p : Str) : Str := (look ws p).getD Str.empty
def sortW (ws : List (Str × Str)) : List (Str × Str) := (sortS (ws.map (·.1))).map fun p => (p, valW ws p)
def srt (l : Lnk) : Lnk := (l.1, l.2.1, sortW l.2.2)
def kW (w : Str × Str) : Key × D := (.inr w.1, .str w.2)
def dRaw (l : Lnk) : D := .tup [dEnd l.1, dEnd l.2.1, .dk (l.2.2.map kW)]
theorem look_map {f : Str → D} : ∀ (ws : List (Str × Str)) (p : Str), look (ws.map fun w => ((.inr w.1 : Key), f w.2)) (.inr p) = (look ws p).map f
  | [], _ => rfl
  | w :: r, p => by
    have ih := look_map (f := f) r p
    unfold look at ih ⊢
    rw [List.map_cons, List.find?_cons, List.find?_cons]
    by_cases e : w.1 = p
    · rw [decide_eq_true e, decide_eq_true (by rw [e])]
      rfl
    · rw [decide_eq_false e, decide_eq_false (fun h => e (Sum.inr.inj h))]
      exact ih
theorem look_some {ws : List (Str × Str)} {p : Str} (m : p ∈ ws.map (·.1)) : look ws p = some (valW ws p) := by
  have : (look ws p).isSome := by
    obtain ⟨w, hw, e⟩ := List.mem_map.mp m
    unfold look
    rw [Option.isSome_map, List.find?_isSome]
    exact ⟨w, hw, decide_eq_true e⟩
  unfold valW
  rw [Option.isSome_iff_exists] at this
  obtain ⟨v, hv⟩ := this
  rw [hv]
  rfl
theorem valW_mem {ws : List (Str × Str)} {p : Str} (m : p ∈ ws.map (·.1)) : (p, valW ws p) ∈ ws := by
  have h := look_some m
  unfold look at h
  rw [Option.map_eq_some_iff] at h
  obtain ⟨w, hw, e⟩ := h
  have h1 := List.mem_of_find?_eq_some hw
  have h2 := of_decide_eq_true (List.find?_some (p := fun (kv : Str × Str) => decide (kv.1 = p)) hw)
  have : (p, valW ws p) = w := by
    rw [← e]
    exact Prod.ext h2.symm rfl
  rw [this]
  exact h1
theorem sortS_perm (l : List Str) : (sortS l).Perm l := List.mergeSort_perm _ _
theorem sortS_idem (l : List Str) : sortS (sortS l) = sortS l := List.mergeSort_of_pairwise (List.pairwise_mergeSort (fun a b c h1 h2 => leS_trans a b c h1 h2) (fun a b => leS_total a b) l)
theorem sortW_keys (ws : List (Str × Str)) : (sortW ws).map (·.1) = sortS (ws.map (·.1)) := by
  unfold sortW
  rw [List.map_map]
  exact List.map_id _
theorem sortW_len (ws : List (Str × Str)) : (sortW ws).length = ws.length := by
  unfold sortW
  rw [List.length_map, (sortS_perm _).length_eq, List.length_map]
theorem sortW_mem {ws : List (Str × Str)} {w : Str × Str} (h : w ∈ sortW ws) : w ∈ ws := by
  obtain ⟨p, hp, rfl⟩ := List.mem_map.mp h
  exact valW_mem ((sortS_perm _).mem_iff.mp hp)
theorem mem_sortW {ws : List (Str × Str)} (nd : (ws.map (·.1)).Nodup) {w : Str × Str} (h : w ∈ ws) : w ∈ sortW ws := by
  refine List.mem_map.mpr ⟨w.1, (sortS_perm _).mem_iff.mpr (List.mem_map.mpr ⟨w, h, rfl⟩), ?_⟩
  have : look ws w.1 = some w.2 := look_mem nd h
  unfold valW
  rw [this]
  rfl
/-- a link as the law has it -/
structure RLnk (st : St) (l : Lnk) : Prop where
  a : GEnd st l.1
  b : GEnd st l.2.1
  ne : l.1.1 ≠ l.2.1.1
  n : l.2.2.length ≤ 2
  nd : (l.2.2.map (·.1)).Nodup
  w : ∀ w ∈ l.2.2, GWant st l w
theorem RLnk.good {st : St} {l : Lnk} (r : RLnk st l) : GLnk st (srt l) where
  a := r.a
  b := r.b
  ne := r.ne
  n := by show (sortW l.2.2).length ≤ 2; rw [sortW_len]; exact r.n
  nd := by
    show ((sortW l.2.2).map (·.1)).Nodup
    rw [sortW_keys]
    exact (sortS_perm _).nodup_iff.mpr r.nd
  so := by
    show sortS ((sortW l.2.2).map (·.1)) = (sortW l.2.2).map (·.1)
    rw [sortW_keys, sortS_idem]
  w := fun w hw => r.w w (sortW_mem hw)
theorem told_srt {a b : Lnk} (na : (a.2.2.map (·.1)).Nodup) (nb : (b.2.2.map (·.1)).Nodup) (h : told a b = true) : told (srt a) (srt b) = true := by
  unfold told at h ⊢
  obtain ⟨w, hw, h⟩ := List.any_eq_true.mp h
  obtain ⟨m, hm, h⟩ := List.any_eq_true.mp h
  exact List.any_eq_true.mpr ⟨w, mem_sortW nb hw, List.any_eq_true.mpr ⟨m, mem_sortW na hm, h⟩⟩
/-! rows -/
theorem row_sec2 (n : Str) : PySem.Str.ofString "section " ++ n = rowT (wSec n) := TL.ext_tl (by
  rw [wSec, row_tl]
  simp [TL.tl_append, tl_section])
theorem row_pt2 (p : Str × Str) : PySem.Str.ofString "point " ++ p.1 ++ " in " ++ p.2 = rowT (wPt p) := TL.ext_tl (by
  rw [wPt, row_tl]
  simp [TL.tl_append, tl_point, tl_in])
theorem row_sig2 (s : Str × (Str × Nat)) : PySem.Str.ofString "signal " ++ s.1 ++ " at " ++ tEnd s.2 = rowT (wSig s) := TL.ext_tl (by
  rw [wSig, row_tl]
  simp [TL.tl_append, tl_signal, tl_at])
theorem tl_and : TL.tl (PySem.Str.ofString " and ") = 32 :: TL.tl (PySem.Str.ofString "and") ++ [32] := by decide +kernel
theorem tl_when : TL.tl (PySem.Str.ofString " when ") = 32 :: TL.tl (PySem.Str.ofString "when") ++ [32] := by decide +kernel
def pw (w : Str × Str) : Str := w.1 ++ " " ++ w.2
theorem and_tl : ∀ (w : Str × Str) (ws : List (Str × Str)), TL.tl (Str.join " and " ((w :: ws).map pw)) = TL.tl w.1 ++ (32 :: TL.tl w.2) ++ (wrdW "and" ws).flatMap fun w => 32 :: TL.tl w
  | w, [] => by
    show TL.tl (w.1 ++ " " ++ w.2) = _
    simp [TL.tl_append, tl_sp, wrdW]
  | w, v :: r => by
    show TL.tl (pw w ++ " and " ++ Str.join " and " ((v :: r).map pw)) = _
    rw [TL.tl_append, TL.tl_append, and_tl v r, tl_and, pw, wrdW]
    simp [TL.tl_append, tl_sp]
def headL (l : Lnk) : Str := PySem.Str.ofString "link " ++ tEnd l.1 ++ " " ++ tEnd l.2.1
theorem row_lnk0 {l : Lnk} (e : l.2.2 = []) : headL l = rowT (wLnk l) := TL.ext_tl (by
  rw [wLnk, row_tl, headL, e]
  simp [TL.tl_append, tl_link, tl_sp, wrdW])
theorem row_lnk1 {l : Lnk} {w : Str × Str} {ws : List (Str × Str)} (e : l.2.2 = w :: ws) : headL l ++ " when " ++ Txt.join " and " (l.2.2.map pw) = rowT (wLnk l) := TL.ext_tl (by
  rw [wLnk, row_tl, headL, e, TL.join_eq, TL.tl_append, and_tl, wrdW]
  simp [TL.tl_append, tl_link, tl_sp, tl_when])
/-! the law's cells -/
def kSig (x : Str × (Str × Nat)) : Key × D := (.inr x.1, dEnd x.2)
def kS (S : List Str) (n : Nat) (turn : Int) : List (Key × D) := [(.inr "sections", .lst (S.map .str)), (.inr "points", .ref n), (.inr "links", .ref (n + 1)), (.inr "signals", .ref (n + 2)), (.inr "turn", .int turn)]
structure LS (h : Hq) (n : Nat) (st : St) (turn : Int) : Prop where
  p : h[n]? = some (.dk (st.pts.map kW))
  l : h[n + 1]? = some (.lst (st.links.map dRaw))
  g : h[n + 2]? = some (.dk (st.sigs.map kSig))
  s : h[n + 3]? = some (.dk (kS st.secs n turn))
section
variable {h : Hq} {n q : Nat} {st : St} {sl : List Sl} {turn : Int} {S : List Str}
theorem sub_dk {kvs : List (Key × D)} {k : Str} {d : D} (e : rdC h q = some (.dk kvs)) (el : look kvs (.inr k) = some d) : opSub_ (.ref q) (.str k) h = .ok d h := by
  have e2 : dictD h (.ref q) = true := by unfold dictD; simp only [e]
  unfold opSub_ opDix dget
  simp only [e2, if_true, e, Dy.keyOf, Option.map_some, el]
theorem sub_fdk {kvs : List (Key × D)} {k : Str} {d : D} (el : look kvs (.inr k) = some d) : opSub_ (.dk kvs) (.str k) h = .ok d h := by
  unfold opSub_ opDix dget
  simp only [dictD, if_true, Dy.keyOf, Option.map_some, el]
theorem rd_of {c : C} (e : h[q]? = some c) : rdC h q = some (open_ c) := by
  unfold rdC
  rw [e]
  rfl
theorem sub_sections (e : h[q]? = some (.dk (kS S n turn))) : opSub_ (.ref q) (.str "sections") h = .ok (.lst (S.map .str)) h := sub_dk (rd_of e) rfl
theorem sub_points (e : h[q]? = some (.dk (kS S n turn))) : opSub_ (.ref q) (.str "points") h = .ok (.ref n) h := sub_dk (rd_of e) rfl
theorem sub_links (e : h[q]? = some (.dk (kS S n turn))) : opSub_ (.ref q) (.str "links") h = .ok (.ref (n + 1)) h := sub_dk (rd_of e) rfl
theorem sub_signals (e : h[q]? = some (.dk (kS S n turn))) : opSub_ (.ref q) (.str "signals") h = .ok (.ref (n + 2)) h := sub_dk (rd_of e) rfl
theorem sub_turn (e : h[q]? = some (.dk (kS S n turn))) : opSub_ (.ref q) (.str "turn") h = .ok (.int turn) h := sub_dk (rd_of e) rfl
end
end Kx
end

section
set_option linter.all false
set_option maxRecDepth 100000
set_option maxHeartbeats 400000
/-! Ev17: the law's own text, run. -/
namespace Kx
open PySem PySem.Spec PyProof.Rows L2 GxR Gx Dy
section
variable {h : Hq} {n q : Nat} {st : St} {sl : List Sl} {turn : Int} {S : List Str}
theorem walk_dk {kvs : List (Key × D)} {fe : FE} (ev : fe sl h = .ok (.ref q) h) (e : h[q]? = some (.dk kvs)) : iAny fe sl h = .ok (kvs.map fun p => keyD p.1) (h.set q (.lk (.dk kvs))) := by
  refine ev_any ev ?_
  unfold itemsW
  simp only [e]
theorem walk_ls {ds : List D} {fe : FE} (ev : fe sl h = .ok (.ref q) h) (e : h[q]? = some (.lst ds)) : iAny fe sl h = .ok ds (h.set q (.lk (.lst ds))) := by
  refine ev_any ev ?_
  unfold itemsW
  simp only [e]
theorem set_ne {c : C} {m : Nat} (ne : q ≠ m) : (h.set q c)[m]? = h[m]? := List.getElem?_set_ne ne
theorem app_get {m : Nat} {c x : C} (e : h[m]? = some c) : (h ++ [x])[m]? = some c := by
  rw [List.getElem?_append_left (List.getElem?_eq_some_iff.mp e).1]
  exact e
theorem when_len2 : (PySem.Str.ofString " when ").length = 6 := by decide +kernel
theorem and_len2 : (PySem.Str.ofString " and ").length = 5 := by decide +kernel
/-- short things -/
structure RS_ (l : Lnk) : Prop where
  a : l.1.1.length ≤ 6
  a2 : l.1.2 < 2
  b : l.2.1.1.length ≤ 6
  b2 : l.2.1.2 < 2
  n : l.2.2.length ≤ 2
  w : ∀ w ∈ l.2.2, w.1.length ≤ 6 ∧ w.2.length ≤ 1
theorem RLnk.sh {st : St} (s : Sml st) {l : Lnk} (r : RLnk st l) : RS_ l := ⟨(s.sec r.a.1).le, r.a.2, (s.sec r.b.1).le, r.b.2, r.n, fun w hw => by
  obtain ⟨h1, h2⟩ := r.w w hw
  have n1 : (PySem.Str.ofString "n").length = 1 := by decide +kernel
  have r1 : (PySem.Str.ofString "r").length = 1 := by decide +kernel
  refine ⟨?_, ?_⟩
  · rcases h2 with h2 | h2
    · exact (s.pt h2).le
    · exact (s.pt h2).le
  · rcases h1 with h1 | h1 <;> rw [h1] <;> omega⟩
abbrev ltBody : FS := (fSeq (fSet 6 (fBin opAddY (fBin opAddY (fBin opAddY (fC (.str "link ")) (fCall 1 r_law_end_text (aCons (fVar 3) aNil))) (fC (.str " "))) (fCall 1 r_law_end_text (aCons (fVar 4) aNil))))
  (fSeq (fIf (fAsB (fNeE (fVar 5))) (fSet 6 (fBin opAddY (fBin opAddY (fVar 6) (fC (.str " when "))) (fBm .str opJoin (fC (.str " and ")) (aCons (fLc (iAny (fCb opSorted (aCons (fVar 5) aNil))) (gNm 7) bYes (fBin opAddY (fBin opAddY (fVar 7) (fC (.str " "))) (fBin opSub_ (fVar 5) (fVar 7))) [7]) aNil)))) fNx)
  (fDrop (fBm .list opAppend (fVar 1) (aCons (fVar 6) aNil)))))
theorem txt_keys : ∀ ws : List (Str × Str), txtKeys (ws.map kW) = some (ws.map (·.1))
  | [] => rfl
  | w :: r => by
    rw [List.map_cons]
    show (txtKeys (r.map kW)).map (w.1 :: ·) = _
    rw [txt_keys r]
    rfl
theorem headL_len {l : Lnk} (r : RS_ l) : (headL l).length ≤ 2100 := by
  have t1 := tEnd_len (e := l.1) (by have := r.a; omega) r.a2
  have t2 := tEnd_len (e := l.2.1) (by have := r.b; omega) r.b2
  have k1 := link_len
  have k2 := sp_len1
  unfold headL
  rw [slen, slen, slen]
  omega
theorem pw_len {l : Lnk} (r : RS_ l) : ∀ x ∈ (sortW l.2.2).map pw, x.length ≤ 8 := by
  intro x hx
  obtain ⟨w, hw, rfl⟩ := List.mem_map.mp hx
  have := r.w w (sortW_mem hw)
  have k2 := sp_len1
  unfold pw
  rw [slen, slen]
  omega
theorem nee_dk {kvs : List (Key × D)} : fNeE (fVar 5) [.no, .no, .no, .no, .no, .va (.dk kvs)] h = .ok (.bl (!decide (kvs.length = 0))) h := rfl
theorem lt_step {l : Lnk} {t x c d e f g : Sl} {acc : List D} (r : RS_ l) (eq : h[q]? = some (.lst acc)) (hl : acc.length < LIM) :
    ltBody [t, .va (.ref q), x, .va (dEnd l.1), .va (dEnd l.2.1), .va (.dk (l.2.2.map kW)), f, g] h = .nx [t, .va (.ref q), x, .va (dEnd l.1), .va (dEnd l.2.1), .va (.dk (l.2.2.map kW)), .va (.str (rowT (wLnk (srt l)))), g] (h.set q (.lst (acc ++ [.str (rowT (wLnk (srt l)))]))) := by
  have l1 : LIM = 16777216 := rfl
  have t1 := tEnd_len (e := l.1) (by have := r.a; omega) r.a2
  have t2 := tEnd_len (e := l.2.1) (by have := r.b; omega) r.b2
  have k1 := link_len
  have k2 := sp_len1
  have k3 := when_len2
  have k4 := and_len2
  have hh := headL_len r
  have p1 : opAddY (.str "link ") (.str (tEnd l.1)) h = .ok (.str (PySem.Str.ofString "link " ++ tEnd l.1)) h := add_str (by rw [slen]; omega)
  have p2 : opAddY (.str (PySem.Str.ofString "link " ++ tEnd l.1)) (.str " ") h = .ok (.str (PySem.Str.ofString "link " ++ tEnd l.1 ++ " ")) h := add_str (by rw [slen, slen]; omega)
  have p3 : opAddY (.str (PySem.Str.ofString "link " ++ tEnd l.1 ++ " ")) (.str (tEnd l.2.1)) h = .ok (.str (headL l)) h := add_str (by rw [slen, slen, slen]; omega)
  have e1 := e_law_end_text l.1 h (by have := r.a; omega) r.a2
  have e2 := e_law_end_text l.2.1 h (by have := r.b; omega) r.b2
  rw [ltBody, a_seq, a_set]
  simp only [e1, p1, p2, e2, p3, a_run1, a_run2, fin_rt, fin_nx, a_seq, seq_nx, seq_rt, a_ret, a_retN, a_set, a_if, a_nx, a_var, get_va, a_c, a_nil, a_cons, a_bin, a_cb, a_call, a_and, a_or, a_bAnd, a_bOr, a_bNot, a_asB, a_tru, a_tup, a_lst, a_asg, a_drop, a_bm, a_ite, and_t, and_f, or_t, or_f, asB_bl, tru_bl, b_ok, s_ok, List.length_cons, List.length_nil, List.map_cons, List.map_nil, List.set_cons_zero, List.set_cons_succ, List.getElem?_cons_zero, List.getElem?_cons_succ, Bool.not_true, Bool.not_false, if_true, if_false, Bool.true_eq_false, Bool.false_eq_true, reduceIte, Nat.reduceAdd, Nat.reduceSub, Nat.reduceLeDiff, Nat.zero_add, eq_self, LIM]
  have ne : ∀ sl : List Sl, sl[5]? = some (.va (.dk (l.2.2.map kW))) → fNeE (fVar 5) sl h = .ok (.bl (!decide ((l.2.2.map kW).length = 0))) h := fun sl hs => by
    unfold fNeE
    rw [ev_var hs]
    rfl
  rw [ne _ rfl]
  cases ew : l.2.2 with
  | nil =>
    have er : headL l = rowT (wLnk (srt l)) := by
      have : (srt l).2.2 = [] := by
        show sortW l.2.2 = []
        rw [ew]
        unfold sortW sortS
        simp
      exact row_lnk0 (l := srt l) this
    rw [← er]
    have z : (!decide ((List.map kW ([] : List (Str × Str))).length = 0)) = false := rfl
    rw [z]
    simp only [bt_list eq, app_ok eq hl, a_run1, a_run2, fin_rt, fin_nx, a_seq, seq_nx, seq_rt, a_ret, a_retN, a_set, a_if, a_nx, a_var, get_va, a_c, a_nil, a_cons, a_bin, a_cb, a_call, a_and, a_or, a_bAnd, a_bOr, a_bNot, a_asB, a_tru, a_tup, a_lst, a_asg, a_drop, a_bm, a_ite, and_t, and_f, or_t, or_f, asB_bl, tru_bl, b_ok, s_ok, List.length_cons, List.length_nil, List.map_cons, List.map_nil, List.set_cons_zero, List.set_cons_succ, List.getElem?_cons_zero, List.getElem?_cons_succ, Bool.not_true, Bool.not_false, if_true, if_false, Bool.true_eq_false, Bool.false_eq_true, reduceIte, Nat.reduceAdd, Nat.reduceSub, Nat.reduceLeDiff, Nat.zero_add, eq_self, LIM]
  | cons w0 ws0 =>
    rw [← ew]
    have z : (!decide ((l.2.2.map kW).length = 0)) = true := by rw [ew]; simp
    have lens : (sortW l.2.2).length = l.2.2.length := sortW_len _
    have n2 := r.n
    have jl := join_len (y := " and ") (pw_len r)
    rw [List.length_map, k4] at jl
    have jl2 : (sortW l.2.2).length * (8 + 5) ≤ 2 * 13 := Nat.mul_le_mul_right _ (by omega)
    rw [← TL.join_eq] at jl
    have er : headL l ++ " when " ++ Txt.join " and " ((sortW l.2.2).map pw) = rowT (wLnk (srt l)) := by
      have ne0 : sortW l.2.2 ≠ [] := by
        intro h0
        rw [h0, ew] at lens
        simp at lens
      cases es : sortW l.2.2 with
      | nil => exact absurd es ne0
      | cons v vs =>
        have := row_lnk1 (l := srt l) (w := v) (ws := vs) es
        rw [← es]
        exact this
    have s1 : opSorted [.dk (l.2.2.map kW)] h = .ok (.lst ((sortS (l.2.2.map (·.1))).map .str)) h := by
      have d1 : dkD h (.dk (l.2.2.map kW)) = some (l.2.2.map kW) := rfl
      unfold opSorted
      simp only [d1, txt_keys]
      rw [if_pos (by rw [List.length_map]; omega)]
      rfl
    have s2 : fLc (iAny (fCb opSorted (aCons (fVar 5) aNil))) (gNm 7) bYes (fBin opAddY (fBin opAddY (fVar 7) (fC (.str " "))) (fBin opSub_ (fVar 5) (fVar 7))) [7] [t, .va (.ref q), x, .va (dEnd l.1), .va (dEnd l.2.1), .va (.dk (l.2.2.map kW)), .va (.str (headL l)), g] h = .ok (.lst (((sortW l.2.2).map pw).map .str)) h := by
      have : ((sortW l.2.2).map pw).map D.str = (sortS (l.2.2.map (·.1))).map fun p => .str (p ++ " " ++ valW l.2.2 p) := by
        unfold sortW
        rw [List.map_map, List.map_map]
        rfl
      rw [this]
      refine ev_lcT (emb := D.str) (fun p => [(7, .str p)]) (ev_any (d := .lst ((sortS (l.2.2.map (·.1))).map .str)) (h1 := h) ?_ rfl) (by rw [(sortS_perm _).length_eq, List.length_map]; omega) (fun _ _ => rfl) (fun p hp => ?_)
      · simp only [s1, a_run1, a_run2, fin_rt, fin_nx, a_seq, seq_nx, seq_rt, a_ret, a_retN, a_set, a_if, a_nx, a_var, get_va, a_c, a_nil, a_cons, a_bin, a_cb, a_call, a_and, a_or, a_bAnd, a_bOr, a_bNot, a_asB, a_tru, a_tup, a_lst, a_asg, a_drop, a_bm, a_ite, and_t, and_f, or_t, or_f, asB_bl, tru_bl, b_ok, s_ok, List.length_cons, List.length_nil, List.map_cons, List.map_nil, List.set_cons_zero, List.set_cons_succ, List.getElem?_cons_zero, List.getElem?_cons_succ, Bool.not_true, Bool.not_false, if_true, if_false, Bool.true_eq_false, Bool.false_eq_true, reduceIte, Nat.reduceAdd, Nat.reduceSub, Nat.reduceLeDiff, Nat.zero_add, eq_self, LIM]
      · have hm := (sortS_perm _).mem_iff.mp hp
        have w1 : p.length ≤ 6 := (r.w _ (valW_mem hm)).1
        have w2 : (valW l.2.2 p).length ≤ 1 := (r.w _ (valW_mem hm)).2
        have gp : opSub_ (.dk (l.2.2.map kW)) (.str p) h = .ok (.str (valW l.2.2 p)) h := sub_fdk (by
          have := look_map (f := D.str) l.2.2 p
          rw [look_some hm] at this
          exact this)
        have q1 : opAddY (.str p) (.str " ") h = .ok (.str (p ++ " ")) h := add_str (by rw [slen]; omega)
        have q2 : opAddY (.str (p ++ " ")) (.str (valW l.2.2 p)) h = .ok (.str (p ++ " " ++ valW l.2.2 p)) h := add_str (by rw [slen, slen]; omega)
        show fBin opAddY _ _ [t, .va (.ref q), x, .va (dEnd l.1), .va (dEnd l.2.1), .va (.dk (l.2.2.map kW)), .va (.str (headL l)), .va (.str p)] h = _
        simp only [q1, gp, q2, a_run1, a_run2, fin_rt, fin_nx, a_seq, seq_nx, seq_rt, a_ret, a_retN, a_set, a_if, a_nx, a_var, get_va, a_c, a_nil, a_cons, a_bin, a_cb, a_call, a_and, a_or, a_bAnd, a_bOr, a_bNot, a_asB, a_tru, a_tup, a_lst, a_asg, a_drop, a_bm, a_ite, and_t, and_f, or_t, or_f, asB_bl, tru_bl, b_ok, s_ok, List.length_cons, List.length_nil, List.map_cons, List.map_nil, List.set_cons_zero, List.set_cons_succ, List.getElem?_cons_zero, List.getElem?_cons_succ, Bool.not_true, Bool.not_false, if_true, if_false, Bool.true_eq_false, Bool.false_eq_true, reduceIte, Nat.reduceAdd, Nat.reduceSub, Nat.reduceLeDiff, Nat.zero_add, eq_self, LIM]
    have s3 : opJoin (.str " and ") [.lst (((sortW l.2.2).map pw).map .str)] h = .ok (.str (Txt.join " and " ((sortW l.2.2).map pw))) h := by
      unfold opJoin items
      simp only [Option.bind_some, unstrs_map]
      refine if_pos ?_
      have := sum_le (pw_len r)
      rw [List.length_map] at this ⊢
      rw [k4]
      omega
    have a1 : opAddY (.str (headL l)) (.str " when ") h = .ok (.str (headL l ++ " when ")) h := add_str (by rw [slen]; omega)
    have a2 : opAddY (.str (headL l ++ " when ")) (.str (Txt.join " and " ((sortW l.2.2).map pw))) h = .ok (.str (rowT (wLnk (srt l)))) h := by
      rw [← er]
      exact add_str (by rw [slen, slen]; omega)
    rw [z]
    simp only [a1, bt_str, s2, s3, a2, bt_list eq, app_ok eq hl, a_run1, a_run2, fin_rt, fin_nx, a_seq, seq_nx, seq_rt, a_ret, a_retN, a_set, a_if, a_nx, a_var, get_va, a_c, a_nil, a_cons, a_bin, a_cb, a_call, a_and, a_or, a_bAnd, a_bOr, a_bNot, a_asB, a_tru, a_tup, a_lst, a_asg, a_drop, a_bm, a_ite, and_t, and_f, or_t, or_f, asB_bl, tru_bl, b_ok, s_ok, List.length_cons, List.length_nil, List.map_cons, List.map_nil, List.set_cons_zero, List.set_cons_succ, List.getElem?_cons_zero, List.getElem?_cons_succ, Bool.not_true, Bool.not_false, if_true, if_false, Bool.true_eq_false, Bool.false_eq_true, reduceIte, Nat.reduceAdd, Nat.reduceSub, Nat.reduceLeDiff, Nat.zero_add, eq_self, LIM]
theorem lt_loop {t : Sl} : ∀ {L : List Lnk} {acc : List D} {h : Hq} {x c d e f g : Sl}, (∀ l ∈ L, RS_ l) → h[q]? = some (.lst acc) → acc.length + L.length < LIM →
    ∃ c' d' e' f', forGo (gTuN 3 (gsCons (gNm 3) (gsCons (gNm 4) (gsCons (gNm 5) gsNil)))) ltBody (L.map dRaw) [t, .va (.ref q), x, c, d, e, f, g] h = .nx [t, .va (.ref q), x, c', d', e', f', g] (h.set q (.lst (acc ++ L.map fun l => .str (rowT (wLnk (srt l))))))
  | [], acc, h, x, c, d, e, f, g, _, eq, _ => ⟨c, d, e, f, by
    rw [List.map_nil, List.map_nil, List.append_nil, go_nil]
    have : h.set q (.lst acc) = h := by
      obtain ⟨hq, e⟩ := List.getElem?_eq_some_iff.mp eq
      rw [← e]
      exact List.set_getElem_self hq
    rw [this]⟩
  | l :: L, acc, h, x, c, d, e, f, g, hr, eq, hl => by
    rw [List.length_cons] at hl
    obtain ⟨c', d', e', f', ih⟩ := lt_loop (t := t) (L := L) (acc := acc ++ [.str (rowT (wLnk (srt l)))]) (h := h.set q (.lst (acc ++ [.str (rowT (wLnk (srt l)))]))) (x := x) (c := .va (dEnd l.1)) (d := .va (dEnd l.2.1)) (e := .va (.dk (l.2.2.map kW))) (f := .va (.str (rowT (wLnk (srt l))))) (g := g)
      (fun z hz => hr z (List.mem_cons_of_mem _ hz)) (set_at eq) (by rw [List.length_append]; simp; omega)
    refine ⟨c', d', e', f', (go_cons (bs := [(3, dEnd l.1), (4, dEnd l.2.1), (5, .dk (l.2.2.map kW))]) rfl (lt_step (c := c) (d := d) (e := e) (f := f) (hr l List.mem_cons_self) eq (by omega))).trans (ih.trans ?_)⟩
    rw [List.set_set, List.append_assoc]
    rfl
end
end Kx
end

section
set_option linter.all false
set_option maxRecDepth 100000
set_option maxHeartbeats 400000
/-! Ev18: the law's own text of a station is the text. -/
namespace Kx
open PySem PySem.Spec PyProof.Rows L2 GxR Gx Dy
def St.srt (st : St) : St := { st with links := st.links.map Kx.srt }
section
variable {h : Hq} {n q : Nat} {st : St} {sl : List Sl} {turn : Int} {S : List Str}
theorem look_w (s : Sml st) {p : Str × Str} (hp : p ∈ st.pts) : look (st.pts.map kW) (.inr p.1) = some (.str p.2) := own_look s hp
theorem Sml.nds (s : Sml st) : (st.sigs.map (·.1)).Nodup := (List.nodup_append.mp (List.nodup_append.mp s.nd).2.1).2.1
theorem look_s (s : Sml st) {p : Str × (Str × Nat)} (hp : p ∈ st.sigs) : look (st.sigs.map kSig) (.inr p.1) = some (dEnd p.2) := by
  refine look_mem ?_ (List.mem_map.mpr ⟨p, hp, rfl⟩)
  rw [List.map_map]
  have : (st.sigs.map ((fun x : Key × D => x.1) ∘ kSig)) = (st.sigs.map (·.1)).map Sum.inr := by rw [List.map_map]; rfl
  rw [this]
  exact List.pairwise_map.mpr (s.nds.imp fun hne e => hne (Sum.inr.inj e))
theorem keys_w : (st.pts.map kW).map (fun p => keyD p.1) = st.pts.map fun p => .str p.1 := by rw [List.map_map]; rfl
theorem keys_s : (st.sigs.map kSig).map (fun p => keyD p.1) = st.sigs.map fun p => .str p.1 := by rw [List.map_map]; rfl
theorem cat_lst {a b : List D} (hl : a.length + b.length ≤ LIM) : opCat (.lst a) (.lst b) h = .ok (.lst (a ++ b)) h := if_pos hl
theorem add_ref {a b : List D} (e : h[q]? = some (.lst a)) (hl : a.length + b.length ≤ LIM) : opAddY (.ref q) (.lst b) h = .ok (.lst (a ++ b)) h := by
  show opAddX (.ref q) (.lst b) h = _
  have : litems h (.ref q) = some a := by
    show (match rdC h q with | some (.lst ds) => some ds | _ => none) = _
    rw [rd_of e]
    rfl
  have t2 : litems h (.lst b) = some b := rfl
  unfold opAddX
  simp only [this, t2]
  exact if_pos hl
theorem join_lst {ys : List Str} {a : Str} (hl : (ys.map (·.length)).sum + ys.length * a.length ≤ 16777216) : opJoin (.str a) [.lst (ys.map .str)] h = .ok (.str (Txt.join a ys)) h := by
  unfold opJoin items
  simp only [Option.bind_some, unstrs_map]
  exact if_pos hl
theorem e_law_text (ls : LS h n st turn) (f : Fits st.srt) (rl : ∀ l ∈ st.links, RLnk st l) : ∃ h', r_law_text [.ref (n + 3)] h = .ok (.str (textOf st.srt)) h' := by
  have l1 : LIM = 16777216 := rfl
  have s := f.sm
  have c1 : st.secs.length ≤ 30 := s.c1
  have c2 : st.pts.length ≤ 12 := s.c2
  have c3 : st.links.length ≤ 60 := by have := s.c3; simpa [St.srt] using this
  have c4 : st.sigs.length ≤ 16 := s.c4
  have sm : Sml st := ⟨s.nm, c1, c2, c3, c4, s.nd⟩
  have lt := (List.getElem?_eq_some_iff.mp ls.s).1
  let R1 := st.secs.map (rowT ∘ wSec)
  let R2 := st.pts.map (rowT ∘ wPt)
  let R3 := st.links.map fun l => rowT (wLnk (Kx.srt l))
  let R4 := st.sigs.map (rowT ∘ wSig)
  have rows : R1 ++ R2 ++ R3 ++ R4 = rowsOf st.srt := by
    simp [R1, R2, R3, R4, rowsOf, wRows, St.srt]
  have lR1 : (R1.map D.str).length ≤ 30 := by simp [R1]; omega
  have lR2 : (R2.map D.str).length ≤ 12 := by simp [R2]; omega
  have lR3 : (R3.map D.str).length ≤ 60 := by simp [R3]; omega
  have lR4 : (R4.map D.str).length ≤ 16 := by simp [R4]; omega
  have q1 : fLc (iAny (fBin opSub_ (fVar 0) (fC (.str "sections")))) (gNm 2) bYes (fBin opAddY (fC (.str "section ")) (fVar 2)) [2] [.va (.ref (n + 3)), .no, .no, .no, .no, .no, .no, .no] h = .ok (.lst (R1.map .str)) h := by
    rw [List.map_map]
    refine ev_lcT (emb := D.str) (fun n => [(2, .str n)]) (ev_any ((ev_bin (x := .ref (n + 3)) (y := .str "sections") rfl rfl).trans (sub_sections ls.s)) rfl) (by omega) (fun _ _ => rfl) (fun x hx => ?_)
    have l6 := (sm.sec hx).le
    have k1 := sec_len
    refine (ev_bin (x := .str "section ") (y := .str x) (h1 := h) (h2 := h) rfl rfl).trans ?_
    rw [add_str (by rw [slen]; omega), row_sec2]
    rfl
  -- points
  let X1 : C := .lk (.dk (st.pts.map kW))
  let h1 := h.set n X1
  have e1s : h1[n + 3]? = some (.dk (kS st.secs n turn)) := by rw [set_ne (by omega)]; exact ls.s
  have e1l : h1[n + 1]? = some (.lst (st.links.map dRaw)) := by rw [set_ne (by omega)]; exact ls.l
  have e1g : h1[n + 2]? = some (.dk (st.sigs.map kSig)) := by rw [set_ne (by omega)]; exact ls.g
  have e1p : h1[n]? = some X1 := set_at ls.p
  have len1 : h1.length = h.length := List.length_set ..
  have q2 : fLc (iAny (fBin opSub_ (fVar 0) (fC (.str "points")))) (gNm 2) bYes (fBin opAddY (fBin opAddY (fBin opAddY (fC (.str "point ")) (fVar 2)) (fC (.str " in "))) (fBin opSub_ (fBin opSub_ (fVar 0) (fC (.str "points"))) (fVar 2))) [2] [.va (.ref (n + 3)), .va (.lst (R1.map .str)), .no, .no, .no, .no, .no, .no] h = .ok (.lst (R2.map .str)) h1 := by
    rw [show R2.map D.str = st.pts.map fun p => .str (rowT (wPt p)) by simp only [R2, List.map_map]; rfl]
    refine ev_lcT (ft := gNm 2) (xs := st.pts) (emb := fun p : Str × Str => D.str p.1) (fun p => [(2, .str p.1)]) ?_ (by omega) (fun _ _ => rfl) (fun p hp => ?_)
    · rw [← keys_w]
      exact walk_dk ((ev_bin (x := .ref (n + 3)) (y := .str "points") rfl rfl).trans (sub_points ls.s)) ls.p
    · have l6 := (sm.pt (x := p.2) hp).le
      have l7 := (sm.sec (f.p p hp)).le
      have k1 := pt_len
      have k2 := in_len
      have a1 : opAddY (.str "point ") (.str p.1) h1 = .ok (.str (PySem.Str.ofString "point " ++ p.1)) h1 := add_str (by rw [slen]; omega)
      have a2 : opAddY (.str (PySem.Str.ofString "point " ++ p.1)) (.str " in ") h1 = .ok (.str (PySem.Str.ofString "point " ++ p.1 ++ " in ")) h1 := add_str (by rw [slen, slen]; omega)
      have a3 : opAddY (.str (PySem.Str.ofString "point " ++ p.1 ++ " in ")) (.str p.2) h1 = .ok (.str (rowT (wPt p))) h1 := by
        rw [← row_pt2]
        exact add_str (by rw [slen, slen, slen]; omega)
      have a4 : opSub_ (.ref n) (.str p.1) h1 = .ok (.str p.2) h1 := sub_dk (rd_of e1p) (look_w sm hp)
      show fBin opAddY _ _ [.va (.ref (n + 3)), .va (.lst (R1.map .str)), .va (.str p.1), .no, .no, .no, .no, .no] h1 = _
      simp only [a1, a2, sub_points e1s, a4, a3, a_run1, a_run2, fin_rt, fin_nx, a_seq, seq_nx, seq_rt, a_ret, a_retN, a_set, a_if, a_nx, a_var, get_va, a_c, a_nil, a_cons, a_bin, a_cb, a_call, a_and, a_or, a_bAnd, a_bOr, a_bNot, a_asB, a_tru, a_tup, a_lst, a_asg, a_drop, a_bm, a_ite, and_t, and_f, or_t, or_f, asB_bl, tru_bl, b_ok, s_ok, List.length_cons, List.length_nil, List.map_cons, List.map_nil, List.set_cons_zero, List.set_cons_succ, List.getElem?_cons_zero, List.getElem?_cons_succ, Bool.not_true, Bool.not_false, if_true, if_false, Bool.true_eq_false, Bool.false_eq_true, reduceIte, Nat.reduceAdd, Nat.reduceSub, Nat.reduceLeDiff, Nat.zero_add, eq_self, LIM]
  let h2 := h1 ++ [C.lst (R1.map .str ++ R2.map .str)]
  have n2 : newCell (fBin opCat (fVar 1) (fLc (iAny (fBin opSub_ (fVar 0) (fC (.str "points")))) (gNm 2) bYes (fBin opAddY (fBin opAddY (fBin opAddY (fC (.str "point ")) (fVar 2)) (fC (.str " in "))) (fBin opSub_ (fBin opSub_ (fVar 0) (fC (.str "points"))) (fVar 2))) [2])) [.va (.ref (n + 3)), .va (.lst (R1.map .str)), .no, .no, .no, .no, .no, .no] h = .ok (.ref h1.length) h2 := by
    unfold newCell
    rw [(ev_bin (x := .lst (R1.map .str)) (h1 := h) rfl q2).trans (cat_lst (by omega))]
    rfl
  have e2s : h2[n + 3]? = some (.dk (kS st.secs n turn)) := app_get e1s
  have e2l : h2[n + 1]? = some (.lst (st.links.map dRaw)) := app_get e1l
  have e2g : h2[n + 2]? = some (.dk (st.sigs.map kSig)) := app_get e1g
  have e2q : h2[h1.length]? = some (.lst (R1.map .str ++ R2.map .str)) := last_get
  -- links
  let h3 := h2.set (n + 1) (.lk (.lst (st.links.map dRaw)))
  have e3s : h3[n + 3]? = some (.dk (kS st.secs n turn)) := by rw [set_ne (by omega)]; exact e2s
  have e3g : h3[n + 2]? = some (.dk (st.sigs.map kSig)) := by rw [set_ne (by omega)]; exact e2g
  have e3q : h3[h1.length]? = some (.lst (R1.map .str ++ R2.map .str)) := by rw [set_ne (by omega)]; exact e2q
  obtain ⟨c', d', e', f', loop⟩ := lt_loop (t := .va (.ref (n + 3))) (L := st.links) (x := .no) (c := .no) (d := .no) (e := .no) (f := .no) (g := .no) (fun l hl => (rl l hl).sh sm) e3q (by rw [List.length_append]; omega)
  let h4 := h3.set h1.length (.lst (R1.map .str ++ R2.map .str ++ st.links.map fun l => .str (rowT (wLnk (Kx.srt l)))))
  have loop' : forGo (gTuN 3 (gsCons (gNm 3) (gsCons (gNm 4) (gsCons (gNm 5) gsNil)))) ltBody (st.links.map dRaw) [.va (.ref (n + 3)), .va (.ref h1.length), .no, .no, .no, .no, .no, .no] h3 = .nx [.va (.ref (n + 3)), .va (.ref h1.length), .no, c', d', e', f', .no] h4 := loop
  have w3 : ∀ sl : List Sl, sl[0]? = some (.va (.ref (n + 3))) → iAny (fBin opSub_ (fVar 0) (fC (.str "links"))) sl h2 = .ok (st.links.map dRaw) h3 := fun sl hs => walk_ls ((ev_bin (x := .ref (n + 3)) (y := .str "links") (ev_var hs) rfl).trans (sub_links e2s)) e2l
  have e4s : h4[n + 3]? = some (.dk (kS st.secs n turn)) := by rw [set_ne (by omega)]; exact e3s
  have e4g : h4[n + 2]? = some (.dk (st.sigs.map kSig)) := by rw [set_ne (by omega)]; exact e3g
  have e4q : h4[h1.length]? = some (.lst (R1.map .str ++ R2.map .str ++ R3.map .str)) := by
    have : (st.links.map fun l => D.str (rowT (wLnk (Kx.srt l)))) = R3.map D.str := by
      simp only [R3, List.map_map]
      rfl
    rw [← this]
    exact set_at e3q
  -- signals
  let X5 : C := .lk (.dk (st.sigs.map kSig))
  let h5 := h4.set (n + 2) X5
  have e5s : h5[n + 3]? = some (.dk (kS st.secs n turn)) := by rw [set_ne (by omega)]; exact e4s
  have e5q : h5[h1.length]? = some (.lst (R1.map .str ++ R2.map .str ++ R3.map .str)) := by rw [set_ne (by omega)]; exact e4q
  have e5g : h5[n + 2]? = some X5 := set_at e4g
  have q4 : fLc (iAny (fBin opSub_ (fVar 0) (fC (.str "signals")))) (gNm 2) bYes (fBin opAddY (fBin opAddY (fBin opAddY (fC (.str "signal ")) (fVar 2)) (fC (.str " at "))) (fCall 1 r_law_end_text (aCons (fBin opSub_ (fBin opSub_ (fVar 0) (fC (.str "signals"))) (fVar 2)) aNil))) [2] [.va (.ref (n + 3)), .va (.ref h1.length), .no, c', d', e', f', .no] h4 = .ok (.lst (R4.map .str)) h5 := by
    rw [show R4.map D.str = st.sigs.map fun p => .str (rowT (wSig p)) by simp only [R4, List.map_map]; rfl]
    refine ev_lcT (ft := gNm 2) (xs := st.sigs) (emb := fun p : Str × (Str × Nat) => D.str p.1) (fun p => [(2, .str p.1)]) ?_ (by omega) (fun _ _ => rfl) (fun p hp => ?_)
    · rw [← keys_s]
      exact walk_dk ((ev_bin (x := .ref (n + 3)) (y := .str "signals") rfl rfl).trans (sub_signals e4s)) e4g
    · have l6 := (sm.sg hp).le
      have g := f.s p hp
      have l7 := (sm.sec g.1).le
      have tt := tEnd_len (e := p.2) (by omega) g.2
      have k1 := sig_len
      have k2 := at_len
      have a1 : opAddY (.str "signal ") (.str p.1) h5 = .ok (.str (PySem.Str.ofString "signal " ++ p.1)) h5 := add_str (by rw [slen]; omega)
      have a2 : opAddY (.str (PySem.Str.ofString "signal " ++ p.1)) (.str " at ") h5 = .ok (.str (PySem.Str.ofString "signal " ++ p.1 ++ " at ")) h5 := add_str (by rw [slen, slen]; omega)
      have a3 : opAddY (.str (PySem.Str.ofString "signal " ++ p.1 ++ " at ")) (.str (tEnd p.2)) h5 = .ok (.str (rowT (wSig p))) h5 := by
        rw [← row_sig2]
        exact add_str (by rw [slen, slen, slen]; omega)
      have a4 : opSub_ (.ref (n + 2)) (.str p.1) h5 = .ok (dEnd p.2) h5 := sub_dk (rd_of e5g) (look_s sm hp)
      have a5 := e_law_end_text p.2 h5 (by omega) g.2
      show fBin opAddY _ _ [.va (.ref (n + 3)), .va (.ref h1.length), .va (.str p.1), c', d', e', f', .no] h5 = _
      simp only [a1, a2, sub_signals e5s, a4, a5, a3, a_run1, a_run2, fin_rt, fin_nx, a_seq, seq_nx, seq_rt, a_ret, a_retN, a_set, a_if, a_nx, a_var, get_va, a_c, a_nil, a_cons, a_bin, a_cb, a_call, a_and, a_or, a_bAnd, a_bOr, a_bNot, a_asB, a_tru, a_tup, a_lst, a_asg, a_drop, a_bm, a_ite, and_t, and_f, or_t, or_f, asB_bl, tru_bl, b_ok, s_ok, List.length_cons, List.length_nil, List.map_cons, List.map_nil, List.set_cons_zero, List.set_cons_succ, List.getElem?_cons_zero, List.getElem?_cons_succ, Bool.not_true, Bool.not_false, if_true, if_false, Bool.true_eq_false, Bool.false_eq_true, reduceIte, Nat.reduceAdd, Nat.reduceSub, Nat.reduceLeDiff, Nat.zero_add, eq_self, LIM]
  have ad : opAddY (.ref h1.length) (.lst (R4.map .str)) h5 = .ok (.lst ((rowsOf st.srt).map .str)) h5 := by
    rw [add_ref e5q (by rw [List.length_append, List.length_append]; omega), ← List.map_append, ← List.map_append, ← List.map_append, rows]
  have jn : opJoin (.str "\n") [.lst ((rowsOf st.srt).map .str)] h5 = .ok (.str (textOf st.srt)) h5 := join_lst f.jsum
  refine ⟨h5, ?_⟩
  rw [r_law_text, a_run1]
  show RS.fin (f_law_text [.va (.ref (n + 3)), .no, .no, .no, .no, .no, .no, .no] h) = _
  rw [f_law_text, a_seq, a_set, q1]
  simp only [a_run1, a_run2, fin_rt, fin_nx, a_seq, seq_nx, seq_rt, a_ret, a_retN, a_set, a_if, a_nx, a_var, get_va, a_c, a_nil, a_cons, a_bin, a_cb, a_call, a_and, a_or, a_bAnd, a_bOr, a_bNot, a_asB, a_tru, a_tup, a_lst, a_asg, a_drop, a_bm, a_ite, and_t, and_f, or_t, or_f, asB_bl, tru_bl, b_ok, s_ok, List.length_cons, List.length_nil, List.map_cons, List.map_nil, List.set_cons_zero, List.set_cons_succ, List.getElem?_cons_zero, List.getElem?_cons_succ, Bool.not_true, Bool.not_false, if_true, if_false, Bool.true_eq_false, Bool.false_eq_true, reduceIte, Nat.reduceAdd, Nat.reduceSub, Nat.reduceLeDiff, Nat.zero_add, eq_self, LIM]
  rw [n2]
  simp only [a_for, a_run1, a_run2, fin_rt, fin_nx, a_seq, seq_nx, seq_rt, a_ret, a_retN, a_set, a_if, a_nx, a_var, get_va, a_c, a_nil, a_cons, a_bin, a_cb, a_call, a_and, a_or, a_bAnd, a_bOr, a_bNot, a_asB, a_tru, a_tup, a_lst, a_asg, a_drop, a_bm, a_ite, and_t, and_f, or_t, or_f, asB_bl, tru_bl, b_ok, s_ok, List.length_cons, List.length_nil, List.map_cons, List.map_nil, List.set_cons_zero, List.set_cons_succ, List.getElem?_cons_zero, List.getElem?_cons_succ, Bool.not_true, Bool.not_false, if_true, if_false, Bool.true_eq_false, Bool.false_eq_true, reduceIte, Nat.reduceAdd, Nat.reduceSub, Nat.reduceLeDiff, Nat.zero_add, eq_self, LIM]
  rw [w3 _ rfl]
  simp only [a_run1, a_run2, fin_rt, fin_nx, a_seq, seq_nx, seq_rt, a_ret, a_retN, a_set, a_if, a_nx, a_var, get_va, a_c, a_nil, a_cons, a_bin, a_cb, a_call, a_and, a_or, a_bAnd, a_bOr, a_bNot, a_asB, a_tru, a_tup, a_lst, a_asg, a_drop, a_bm, a_ite, and_t, and_f, or_t, or_f, asB_bl, tru_bl, b_ok, s_ok, List.length_cons, List.length_nil, List.map_cons, List.map_nil, List.set_cons_zero, List.set_cons_succ, List.getElem?_cons_zero, List.getElem?_cons_succ, Bool.not_true, Bool.not_false, if_true, if_false, Bool.true_eq_false, Bool.false_eq_true, reduceIte, Nat.reduceAdd, Nat.reduceSub, Nat.reduceLeDiff, Nat.zero_add, eq_self, LIM]
  rw [show forGo (gTuN 3 (gsCons (gNm 3) (gsCons (gNm 4) (gsCons (gNm 5) gsNil)))) _ (st.links.map dRaw) [.va (.ref (n + 3)), .va (.ref h1.length), .no, .no, .no, .no, .no, .no] h3 = _ from loop']
  simp only [a_run1, a_run2, fin_rt, fin_nx, a_seq, seq_nx, seq_rt, a_ret, a_retN, a_set, a_if, a_nx, a_var, get_va, a_c, a_nil, a_cons, a_bin, a_cb, a_call, a_and, a_or, a_bAnd, a_bOr, a_bNot, a_asB, a_tru, a_tup, a_lst, a_asg, a_drop, a_bm, a_ite, and_t, and_f, or_t, or_f, asB_bl, tru_bl, b_ok, s_ok, List.length_cons, List.length_nil, List.map_cons, List.map_nil, List.set_cons_zero, List.set_cons_succ, List.getElem?_cons_zero, List.getElem?_cons_succ, Bool.not_true, Bool.not_false, if_true, if_false, Bool.true_eq_false, Bool.false_eq_true, reduceIte, Nat.reduceAdd, Nat.reduceSub, Nat.reduceLeDiff, Nat.zero_add, eq_self, LIM]
  rw [q4]
  simp only [ad, bt_str, jn, a_run1, a_run2, fin_rt, fin_nx, a_seq, seq_nx, seq_rt, a_ret, a_retN, a_set, a_if, a_nx, a_var, get_va, a_c, a_nil, a_cons, a_bin, a_cb, a_call, a_and, a_or, a_bAnd, a_bOr, a_bNot, a_asB, a_tru, a_tup, a_lst, a_asg, a_drop, a_bm, a_ite, and_t, and_f, or_t, or_f, asB_bl, tru_bl, b_ok, s_ok, List.length_cons, List.length_nil, List.map_cons, List.map_nil, List.set_cons_zero, List.set_cons_succ, List.getElem?_cons_zero, List.getElem?_cons_succ, Bool.not_true, Bool.not_false, if_true, if_false, Bool.true_eq_false, Bool.false_eq_true, reduceIte, Nat.reduceAdd, Nat.reduceSub, Nat.reduceLeDiff, Nat.zero_add, eq_self, LIM]
end
end Kx
end

section
set_option linter.all false
set_option maxRecDepth 100000
set_option maxHeartbeats 400000
/-! Ev19: names of the law's stations; cells. -/
namespace Kx
open PySem PySem.Spec PyProof.Rows L2 GxR Gx Dy
theorem sd_mem : ∀ i, i < 16 → ∀ c ∈ TL.tl (sideT i), c ∈ NS := by decide +kernel
theorem sd_len : ∀ i, i < 16 → 1 ≤ (sideT i).length ∧ (sideT i).length ≤ 2 := by decide +kernel
theorem sd_inj : ∀ i, i < 16 → ∀ j, j < 16 → sideT i = sideT j → i = j := by decide +kernel
theorem app_inj {a b c : Str} (e : a ++ b = a ++ c) : b = c := by
  refine TL.ext_tl ?_
  have := congrArg TL.tl e
  rw [TL.tl_append, TL.tl_append] at this
  exact List.append_cancel_left this
/-- the first sign -/
def hd (s : Str) : Option Nat := (TL.tl s).head?
theorem hd_app {a b : Str} (h : a ≠ Str.empty) : hd (a ++ b) = hd a := by
  unfold hd
  rw [TL.tl_append]
  cases e : TL.tl a with
  | nil => exact absurd (TL.ext_tl (e.trans rfl)) h
  | cons c r => rfl
/-- a section's first word -/
structure Wrd (w : Str) : Prop where
  pos : 1 ≤ w.length
  le : w.length ≤ 4
  mem : ∀ c ∈ TL.tl w, c ∈ NS ∧ c ≠ 112 ∧ c ≠ 122
theorem Wrd.ne {w : Str} (h : Wrd w) : w ≠ Str.empty := fun e => by
  have := h.pos
  rw [e] at this
  exact absurd this (by decide)
theorem Wrd.hd {w : Str} (h : Wrd w) {b : Str} : ∃ c, Kx.hd (w ++ b) = some c ∧ c ≠ 112 ∧ c ≠ 122 := by
  rw [hd_app h.ne]
  cases e : TL.tl w with
  | nil => exact absurd (TL.ext_tl (e.trans rfl)) h.ne
  | cons c r =>
    refine ⟨c, ?_, (h.mem c (by rw [e]; exact List.mem_cons_self)).2⟩
    unfold Kx.hd
    rw [e]
    rfl
theorem nm_app {w : Str} {i : Nat} (hi : i < 16) (h1 : w.length ≤ 4) (h2 : ∀ c ∈ TL.tl w, c ∈ NS) : Nm (w ++ sideT i) := by
  have := sd_len i hi
  refine ⟨by rw [slen]; omega, by rw [slen]; omega, fun c hc => ?_⟩
  rw [TL.tl_append] at hc
  rcases List.mem_append.mp hc with hc | hc
  · exact h2 c hc
  · exact sd_mem i hi c hc
theorem Wrd.nm {w : Str} (h : Wrd w) {i : Nat} (hi : i < 16) : Nm (w ++ sideT i) := nm_app hi h.le fun c hc => (h.mem c hc).1
def pName (i : Nat) : Str := PySem.Str.ofString "p" ++ sideT i
def zName (i : Nat) : Str := PySem.Str.ofString "z" ++ sideT i
theorem p_nm {i : Nat} (hi : i < 16) : Nm (pName i) := nm_app hi (by decide +kernel) (by decide +kernel)
theorem z_nm {i : Nat} (hi : i < 16) : Nm (zName i) := nm_app hi (by decide +kernel) (by decide +kernel)
theorem p_hd {i : Nat} : hd (pName i) = some 112 := by
  unfold pName
  rw [hd_app (by decide +kernel)]
  decide +kernel
theorem z_hd {i : Nat} : hd (zName i) = some 122 := by
  unfold zName
  rw [hd_app (by decide +kernel)]
  decide +kernel
theorem p_inj {i j : Nat} (hi : i < 16) (hj : j < 16) (e : pName i = pName j) : i = j := sd_inj i hi j hj (app_inj e)
theorem z_inj {i j : Nat} (hi : i < 16) (hj : j < 16) (e : zName i = zName j) : i = j := sd_inj i hi j hj (app_inj e)
/-- the law's names of points and of signals -/
def pAt (t i : Nat) : Str := pName ((t + 3 * i) % 10)
def zAt (t i : Nat) : Str := zName ((t + 3 * i) % 16)
def wAt (w : Str) (t i : Nat) : Str := w ++ sideT ((t + 3 * i) % 8)
section
variable {h : Hq} {n q r : Nat} {st : St} {sl : List Sl}
theorem str_nat {i : Nat} (hi : i < 1000) : opStr [.int (i : Int)] h = .ok (.str (sideT i)) h := str_int (by omega)
theorem mod_nat {a m : Nat} (hm : 0 < m) : opMod (.int (a : Int)) (.int (m : Int)) h = .ok (.int ((a % m : Nat) : Int)) h := by
  rw [mod_int (by omega)]
  rfl
theorem mul_l {i j : Int} (h1 : -(2 ^ 64) < i) (h2 : i < 2 ^ 64) : opMulX (.int i) (.int j) h = .ok (.int (i * j)) h := if_pos (.inl ⟨h1, h2⟩)
theorem mul3 {k : Nat} : opMulX (.int 3) (.int (k : Int)) h = .ok (.int ((3 * k : Nat) : Int)) h := by
  have : opMulX (.int 3) (.int (k : Int)) h = .ok (.int (3 * (k : Int))) h := mul_l (by decide) (by decide)
  rw [this]
  rfl
theorem mul5 {k : Nat} : opMulX (.int 5) (.int (k : Int)) h = .ok (.int ((5 * k : Nat) : Int)) h := by
  have : opMulX (.int 5) (.int (k : Int)) h = .ok (.int (5 * (k : Int))) h := mul_l (by decide) (by decide)
  rw [this]
  rfl
theorem add_nat {a b : Nat} : opAddY (.int (a : Int)) (.int (b : Int)) h = .ok (.int ((a + b : Nat) : Int)) h := by
  rw [add_i]
  rfl
theorem mod10 {a : Nat} : opMod (.int (a : Int)) (.int 10) h = .ok (.int ((a % 10 : Nat) : Int)) h := mod_nat (m := 10) (by decide)
theorem mod8 {a : Nat} : opMod (.int (a : Int)) (.int 8) h = .ok (.int ((a % 8 : Nat) : Int)) h := mod_nat (m := 8) (by decide)
theorem mod16 {a : Nat} : opMod (.int (a : Int)) (.int 16) h = .ok (.int ((a % 16 : Nat) : Int)) h := mod_nat (m := 16) (by decide)
theorem shaped_int (i : Int) : SeqAt.shaped (.int i) = true := rfl
theorem op_eq_int {a b : Int} : opEqH (.int a) (.int b) h = .ok (.bl (decide (a = b))) h := by
  unfold opEqH eqH cmpH toPyH
  show ofB (some (PyData.eqv (.int a) (.int b))) h = _
  rw [PyData.eqv]
  show R.ok (D.bl (a == b)) h = _
  by_cases e : a = b <;> simp [e]
theorem add_lst {a b : List D} (hl : a.length + b.length ≤ LIM) : opAddY (.lst a) (.lst b) h = .ok (.lst (a ++ b)) h := by
  show opAddX (.lst a) (.lst b) h = _
  exact if_pos hl
theorem dk_len {kvs : List (Key × D)} (e : h[q]? = some (.dk kvs)) : opLen [.ref q] h = .ok (.int (kvs.length : Int)) h := by
  unfold opLen
  simp only [e]
theorem ls_len {ds : List D} (e : h[q]? = some (.lst ds)) : opLen [.ref q] h = .ok (.int (ds.length : Int)) h := by
  unfold opLen
  simp only [e]
theorem cmpH_ends {y : D} {l : List (Str × Nat)} (e : litems h y = some (l.map dEnd)) (hs : ∀ x ∈ l, As x.1) : cmpH h y = some (.list (l.map pEnd)) := by
  unfold cmpH toPyH
  simp only [e, toPys_map toPy_end, Option.map_some, Option.bind_some]
  exact if_pos (sh_list (fun x hx => sh_end (hs x hx)) (fun x _ => by simp [pEnd, PyData.depth, PyData.depthAll]))
theorem ne_nil {y : D} {l : List (Str × Nat)} (e : litems h y = some (l.map dEnd)) (hs : ∀ x ∈ l, As x.1) : opNeH y (.lst []) h = .ok (.bl (!l.isEmpty)) h := by
  unfold opNeH eqH
  rw [cmpH_ends e hs, cmpH_ends (y := .lst []) (l := []) rfl (by simp)]
  show ofB (some (!PyData.eqv (.list (l.map pEnd)) (.list []))) h = _
  rw [PyData.eqv]
  cases l with
  | nil => rw [List.map_nil, PyData.eqvAll]; rfl
  | cons a r => rw [List.map_cons, PyData.eqvAll]; rfl
theorem litems_ref {ds : List D} (e : h[q]? = some (.lst ds)) : litems h (.ref q) = some ds := by
  show (match rdC h q with | some (.lst ds) => some ds | _ => none) = _
  rw [rd_of e]
  rfl
theorem items_ref {ds : List D} (e : h[q]? = some (.lst ds)) : items h (.ref q) = some ds := by
  show (match rdC h q with | some (.lst ds) => some ds | _ => none) = _
  rw [rd_of e]
  rfl
theorem put_ok {kvs : List (Key × D)} {k : Str} {y : D} {fo fi fv : FE} (hv : fv sl h = .ok y h) (ho : fo sl h = .ok (.ref q) h) (hi : fi sl h = .ok (.str k) h) (e : h[q]? = some (.dk kvs)) (hn : (.inr k : Key) ∉ kvs.map (·.1)) (hl : kvs.length < LIM) :
    fPut fo fi fv sl h = .nx sl (h.set q (.dk (kvs ++ [(.inr k, y)]))) := by
  unfold fPut
  rw [hv, R.toS_ok, ho, R.toS_ok, hi, R.toS_ok]
  simp only [e, Dy.keyOf, put_new hn]
  exact if_pos hl
theorem LS.row {turn : Int} {c : C} (ls : LS h n st turn) (hr : r < n) : LS (h.set r c) n st turn := ⟨by rw [set_ne (by omega)]; exact ls.p, by rw [set_ne (by omega)]; exact ls.l, by rw [set_ne (by omega)]; exact ls.g, by rw [set_ne (by omega)]; exact ls.s⟩
theorem LS.app {turn : Int} {c : C} (ls : LS h n st turn) : LS (h ++ [c]) n st turn := ⟨app_get ls.p, app_get ls.l, app_get ls.g, app_get ls.s⟩
theorem LS.above {turn : Int} {c : C} (ls : LS h n st turn) (hq : n + 3 < q) : LS (h.set q c) n st turn := ⟨by rw [set_ne (by omega)]; exact ls.p, by rw [set_ne (by omega)]; exact ls.l, by rw [set_ne (by omega)]; exact ls.g, by rw [set_ne (by omega)]; exact ls.s⟩
theorem LS.lt {turn : Int} (ls : LS h n st turn) : n + 3 < h.length := (List.getElem?_eq_some_iff.mp ls.s).1
theorem LS.lnk {turn : Int} (ls : LS h n st turn) {L : List Lnk} : LS (h.set (n + 1) (.lst (L.map dRaw))) n { st with links := L } turn := ⟨by rw [set_ne (by omega)]; exact ls.p, set_at ls.l, by rw [set_ne (by omega)]; exact ls.g, by rw [set_ne (by omega)]; exact ls.s⟩
theorem LS.pt {turn : Int} (ls : LS h n st turn) {P : List (Str × Str)} : LS (h.set n (.dk (P.map kW))) n { st with pts := P } turn := ⟨set_at ls.p, by rw [set_ne (by omega)]; exact ls.l, by rw [set_ne (by omega)]; exact ls.g, by rw [set_ne (by omega)]; exact ls.s⟩
theorem LS.sg {turn : Int} (ls : LS h n st turn) {G : List (Str × (Str × Nat))} : LS (h.set (n + 2) (.dk (G.map kSig))) n { st with sigs := G } turn := ⟨by rw [set_ne (by omega)]; exact ls.p, by rw [set_ne (by omega)]; exact ls.l, set_at ls.g, by rw [set_ne (by omega)]; exact ls.s⟩
theorem RowOk.ne {ns : List Int} (ok : RowOk ns h r) {c : C} (hq : q ≠ r) : RowOk ns (h.set q c) r := by
  obtain ⟨k, z, w, e, rest⟩ := ok
  exact ⟨k, z, w, by rw [set_ne hq]; exact e, rest⟩
theorem RowOk.app {ns : List Int} (ok : RowOk ns h r) {c : C} : RowOk ns (h ++ [c]) r := by
  obtain ⟨k, z, w, e, rest⟩ := ok
  exact ⟨k, z, w, app_get e, rest⟩
theorem RowOk.lt {ns : List Int} (ok : RowOk ns h r) : r < h.length := by
  obtain ⟨k, z, w, e, rest⟩ := ok
  exact (List.getElem?_eq_some_iff.mp e).1
/-- a draw, as a number without a sign -/
theorem taken_nat {ns : List Int} {m : Nat} (ok : RowOk ns h r) (hm : 0 < m) (hm2 : m < 2 ^ 64) :
    ∃ (t : Nat) (c : C), r_law_taken [.ref r, .int (m : Int)] h = .ok (.int (t : Int)) (h.set r c) ∧ t < m ∧ RowOk ns (h.set r c) r := by
  obtain ⟨t, c, e, h0, h1, ok2⟩ := taken_ok ok (m := (m : Int)) (by omega) (by
    have : ((2 : Int) ^ 64) = ((2 ^ 64 : Nat) : Int) := by decide
    omega)
  obtain ⟨t, rfl⟩ := Int.eq_ofNat_of_zero_le h0
  exact ⟨t, c, e, by omega, ok2⟩
end
end Kx
end

section
set_option linter.all false
set_option maxRecDepth 100000
set_option maxHeartbeats 400000
/-! Ev20: a station that grows. -/
namespace Kx
open PySem PySem.Spec PyProof.Rows L2 GxR Gx Dy
structure Gr (S : List Str) (t : Nat) (st : St) : Prop where
  secs : st.secs = S
  pn : st.pts.map (·.1) = (List.range st.pts.length).map (pAt t)
  pc : st.pts.length ≤ 10
  ps : ∀ p ∈ st.pts, p.2 ∈ S
  l : ∀ l ∈ st.links, RLnk st l
  al : st.links.Pairwise fun o l => share l o = true → told l o = true
theorem RLnk.more {st : St} {l : Lnk} (r : RLnk st l) {P : List (Str × Str)} {L : List Lnk} {G : List (Str × (Str × Nat))} (hp : ∀ p ∈ st.pts, p ∈ P) : RLnk ⟨st.secs, P, L, G⟩ l :=
  ⟨r.a, r.b, r.ne, r.n, r.nd, fun w hw => ⟨(r.w w hw).1, (r.w w hw).2.imp (hp _) (hp _)⟩⟩
theorem Gr.addP {S : List Str} {t : Nat} {st : St} (g : Gr S t st) (hc : st.pts.length < 10) {x : Str} (hx : x ∈ S) : Gr S t { st with pts := st.pts ++ [(pAt t st.pts.length, x)] } where
  secs := g.secs
  pn := by
    show (st.pts ++ [(pAt t st.pts.length, x)]).map (·.1) = (List.range (st.pts ++ [(pAt t st.pts.length, x)]).length).map (pAt t)
    rw [List.map_append, g.pn, List.length_append]
    show _ = (List.range (st.pts.length + 1)).map (pAt t)
    rw [List.range_succ, List.map_append]
    rfl
  pc := by show (st.pts ++ _).length ≤ 10; rw [List.length_append]; simp; omega
  ps := fun p hp => by
    rcases List.mem_append.mp hp with hp | hp
    · exact g.ps p hp
    · rw [List.mem_singleton.mp hp]; exact hx
  l := fun l hl => (g.l l hl).more fun p hp => List.mem_append.mpr (.inl hp)
  al := g.al
theorem Gr.addL {S : List Str} {t : Nat} {st : St} (g : Gr S t st) {l : Lnk} (r : RLnk st l) (al : ∀ o ∈ st.links, share l o = true → told l o = true) : Gr S t { st with links := st.links ++ [l] } where
  secs := g.secs
  pn := g.pn
  pc := g.pc
  ps := g.ps
  l := fun z hz => by
    have : RLnk st z := by
      rcases List.mem_append.mp hz with hz | hz
      · exact g.l z hz
      · rw [List.mem_singleton.mp hz]; exact r
    exact this.more fun p hp => hp
  al := by
    refine List.pairwise_append.mpr ⟨g.al, by simp, fun o ho l' hl => ?_⟩
    rw [List.mem_singleton.mp hl]
    exact al o ho
theorem p_new {S : List Str} {t : Nat} {st : St} (g : Gr S t st) (hc : st.pts.length < 10) : pAt t st.pts.length ∉ st.pts.map (·.1) := by
  rw [g.pn]
  intro hm
  obtain ⟨i, hi, e⟩ := List.mem_map.mp hm
  have hi := List.mem_range.mp hi
  have := p_inj (i := (t + 3 * i) % 10) (j := (t + 3 * st.pts.length) % 10) (by omega) (by omega) e
  omega
theorem p_new_k {S : List Str} {t : Nat} {st : St} (g : Gr S t st) (hc : st.pts.length < 10) : (.inr (pAt t st.pts.length) : Key) ∉ (st.pts.map kW).map (·.1) := by
  intro hm
  rw [List.map_map] at hm
  obtain ⟨p, hp, e⟩ := List.mem_map.mp hm
  exact p_new g hc (List.mem_map.mpr ⟨p, hp, Sum.inr.inj e⟩)
theorem nr_ne : PySem.Str.ofString "n" ≠ PySem.Str.ofString "r" := by decide +kernel
theorem rn_ne : PySem.Str.ofString "r" ≠ PySem.Str.ofString "n" := by decide +kernel
abbrev nS : Str := PySem.Str.ofString "n"
abbrev rS : Str := PySem.Str.ofString "r"
theorem told_of {a b : Lnk} {p x y : Str} (ha : (p, x) ∈ a.2.2) (hb : (p, y) ∈ b.2.2) (ne : y ≠ x) : told a b = true := by
  unfold told
  refine List.any_eq_true.mpr ⟨_, hb, List.any_eq_true.mpr ⟨_, ha, ?_⟩⟩
  simp [ne]
theorem share_no {a b : Lnk} (h1 : a.1 ≠ b.1) (h2 : a.1 ≠ b.2.1) (h3 : a.2.1 ≠ b.1) (h4 : a.2.1 ≠ b.2.1) : share a b = false := by
  unfold share
  simp [h1, h2, h3, h4]
/-- ends that no link has yet -/
def Off (st : St) (F : List (Str × Nat)) : Prop := ∀ l ∈ st.links, l.1 ∉ F ∧ l.2.1 ∉ F
theorem Off.share {st : St} {F : List (Str × Nat)} (of : Off st F) {l : Lnk} (h1 : l.1 ∈ F) (h2 : l.2.1 ∈ F) : ∀ o ∈ st.links, Kx.share l o = true → told l o = true := by
  intro o ho hs
  obtain ⟨o1, o2⟩ := of o ho
  rw [share_no] at hs
  · exact absurd hs (by decide)
  · intro e; exact o1 (e ▸ h1)
  · intro e; exact o2 (e ▸ h1)
  · intro e; exact o1 (e ▸ h2)
  · intro e; exact o2 (e ▸ h2)
/-- what a turn of the law's loop adds -/
structure Add (S : List Str) (t : Nat) (st st' : St) (used : List (Str × Nat)) : Prop where
  g : Gr S t st'
  n : ∃ new, st'.links = st.links ++ new ∧ new.length ≤ 3 ∧ ∀ l ∈ new, l.1 ∈ used ∧ l.2.1 ∈ used
  sg : st'.sigs = st.sigs
section
variable {S : List Str} {t : Nat} {st : St} {F : List (Str × Nat)} {one a b c : Str × Nat}
theorem ge {st : St} {P : List (Str × Str)} {L : List Lnk} {G : List (Str × (Str × Nat))} {e : Str × Nat} (h : GEnd st e) : GEnd ⟨st.secs, P, L, G⟩ e := h
theorem add_plain (g : Gr S t st) (of : Off st F) (h1 : one ∈ F) (ha : a ∈ F) (g1 : GEnd st one) (ga : GEnd st a) (ne : a.1 ≠ one.1) : Add S t st { st with links := st.links ++ [(one, a, [])] } [one, a] :=
  ⟨g.addL ⟨g1, ga, fun e => ne e.symm, by simp, by simp, by simp⟩ (of.share h1 ha), ⟨[(one, a, [])], rfl, by simp, by simp⟩, rfl⟩
theorem add_A (g : Gr S t st) (of : Off st F) (hc : st.pts.length < 10) (h1 : one ∈ F) (ha : a ∈ F) (hb : b ∈ F) (g1 : GEnd st one) (ga : GEnd st a) (gb : GEnd st b) (na : a.1 ≠ one.1) (nb : b.1 ≠ one.1) (ab : a ≠ b) :
    Add S t st { st with pts := st.pts ++ [(pAt t st.pts.length, one.1)], links := st.links ++ [(one, a, [(pAt t st.pts.length, nS)])] ++ [(one, b, [(pAt t st.pts.length, rS)])] } [one, a, b] := by
  have g2 := g.addP hc (x := one.1) (by rw [← g.secs]; exact g1.1)
  have hp : (pAt t st.pts.length, one.1) ∈ st.pts ++ [(pAt t st.pts.length, one.1)] := by simp
  have g3 := g2.addL (l := (one, a, [(pAt t st.pts.length, nS)])) ⟨g1, ga, fun e => na e.symm, by simp, by simp, fun w hw => by
    rw [List.mem_singleton.mp hw]; exact ⟨.inl rfl, .inl hp⟩⟩ (Off.share (st := { st with pts := _ }) of h1 ha)
  have g4 := g3.addL (l := (one, b, [(pAt t st.pts.length, rS)])) ⟨g1, gb, fun e => nb e.symm, by simp, by simp, fun w hw => by
    rw [List.mem_singleton.mp hw]; exact ⟨.inr rfl, .inl hp⟩⟩ (fun o ho => by
    rcases List.mem_append.mp ho with ho | ho
    · exact Off.share (st := st) of h1 hb o ho
    · rw [List.mem_singleton.mp ho]
      exact fun _ => told_of (p := pAt t st.pts.length) (x := rS) (y := nS) (by simp) (by simp) nr_ne)
  exact ⟨g4, ⟨[(one, a, [(pAt t st.pts.length, nS)]), (one, b, [(pAt t st.pts.length, rS)])], by simp, by simp, by simp⟩, rfl⟩
theorem pq_ne {m : Nat} (hc : m < 9) : pAt t m ≠ pAt t (m + 1) := fun e => by
  have := p_inj (i := (t + 3 * m) % 10) (j := (t + 3 * (m + 1)) % 10) (by omega) (by omega) e
  omega
theorem add_B (g : Gr S t st) (of : Off st F) (hc : st.pts.length < 9) (h1 : one ∈ F) (ha : a ∈ F) (hb : b ∈ F) (hc' : c ∈ F) (g1 : GEnd st one) (ga : GEnd st a) (gb : GEnd st b) (gc : GEnd st c) (na : a.1 ≠ one.1) (nb : b.1 ≠ one.1) (nc : c.1 ≠ one.1) (ab : a ≠ b) (ac : a ≠ c) (cb : c.1 ≠ b.1) :
    Add S t st { st with pts := st.pts ++ [(pAt t st.pts.length, one.1)] ++ [(pAt t (st.pts.length + 1), b.1)], links := st.links ++ [(one, a, [(pAt t st.pts.length, nS)])] ++ [(one, b, [(pAt t st.pts.length, rS), (pAt t (st.pts.length + 1), nS)])] ++ [(c, b, [(pAt t (st.pts.length + 1), rS)])] } [one, a, b, c] := by
  have g2 := g.addP (by omega) (x := one.1) (by rw [← g.secs]; exact g1.1)
  have l2 : ({ st with pts := st.pts ++ [(pAt t st.pts.length, one.1)] } : St).pts.length = st.pts.length + 1 := by simp
  have g3 := g2.addP (by rw [l2]; omega) (x := b.1) (by rw [← g.secs]; exact gb.1)
  rw [l2] at g3
  have hp : (pAt t st.pts.length, one.1) ∈ st.pts ++ [(pAt t st.pts.length, one.1)] ++ [(pAt t (st.pts.length + 1), b.1)] := by simp
  have hq : (pAt t (st.pts.length + 1), b.1) ∈ st.pts ++ [(pAt t st.pts.length, one.1)] ++ [(pAt t (st.pts.length + 1), b.1)] := by simp
  have pq := pq_ne (t := t) hc
  have g4 := g3.addL (l := (one, a, [(pAt t st.pts.length, nS)])) ⟨g1, ga, fun e => na e.symm, by simp, by simp, fun w hw => by
    rw [List.mem_singleton.mp hw]; exact ⟨.inl rfl, .inl hp⟩⟩ (Off.share (st := st) of h1 ha)
  have g5 := g4.addL (l := (one, b, [(pAt t st.pts.length, rS), (pAt t (st.pts.length + 1), nS)])) ⟨g1, gb, fun e => nb e.symm, by simp, by simp [pq], fun w hw => by
    rcases List.mem_cons.mp hw with rfl | hw
    · exact ⟨.inr rfl, .inl hp⟩
    · rw [List.mem_singleton.mp hw]; exact ⟨.inl rfl, .inr hq⟩⟩ (fun o ho => by
    rcases List.mem_append.mp ho with ho | ho
    · exact Off.share (st := st) of h1 hb o ho
    · rw [List.mem_singleton.mp ho]
      exact fun _ => told_of (p := pAt t st.pts.length) (x := rS) (y := nS) (by simp) (by simp) nr_ne)
  have g6 := g5.addL (l := (c, b, [(pAt t (st.pts.length + 1), rS)])) ⟨gc, gb, cb, by simp, by simp, fun w hw => by
    rw [List.mem_singleton.mp hw]; exact ⟨.inr rfl, .inr hq⟩⟩ (fun o ho => by
    rcases List.mem_append.mp ho with ho | ho
    · rcases List.mem_append.mp ho with ho | ho
      · exact Off.share (st := st) of hc' hb o ho
      · rw [List.mem_singleton.mp ho]
        intro hs
        rw [share_no (fun e : c = one => nc (by rw [e])) (fun e : c = a => ac e.symm) (fun e : b = one => nb (by rw [e])) (fun e : b = a => ab e.symm)] at hs
        exact absurd hs (by decide)
    · rw [List.mem_singleton.mp ho]
      exact fun _ => told_of (p := pAt t (st.pts.length + 1)) (x := rS) (y := nS) (by simp) (by simp) nr_ne)
  exact ⟨g6, ⟨[(one, a, [(pAt t st.pts.length, nS)]), (one, b, [(pAt t st.pts.length, rS), (pAt t (st.pts.length + 1), nS)]), (c, b, [(pAt t (st.pts.length + 1), rS)])], by simp, by simp, by simp⟩, rfl⟩
theorem add_C (g : Gr S t st) (of : Off st F) (hc : st.pts.length < 9) (h1 : one ∈ F) (ha : a ∈ F) (hb : b ∈ F) (hc' : c ∈ F) (g1 : GEnd st one) (ga : GEnd st a) (gb : GEnd st b) (gc : GEnd st c) (na : a.1 ≠ one.1) (nb : b.1 ≠ one.1) (nc : c.1 ≠ one.1) :
    Add S t st { st with pts := st.pts ++ [(pAt t st.pts.length, one.1)] ++ [(pAt t (st.pts.length + 1), one.1)], links := st.links ++ [(one, a, [(pAt t st.pts.length, nS)])] ++ [(one, b, [(pAt t st.pts.length, rS), (pAt t (st.pts.length + 1), nS)])] ++ [(one, c, [(pAt t st.pts.length, rS), (pAt t (st.pts.length + 1), rS)])] } [one, a, b, c] := by
  have g2 := g.addP (by omega) (x := one.1) (by rw [← g.secs]; exact g1.1)
  have l2 : ({ st with pts := st.pts ++ [(pAt t st.pts.length, one.1)] } : St).pts.length = st.pts.length + 1 := by simp
  have g3 := g2.addP (by rw [l2]; omega) (x := one.1) (by rw [← g.secs]; exact g1.1)
  rw [l2] at g3
  have hp : (pAt t st.pts.length, one.1) ∈ st.pts ++ [(pAt t st.pts.length, one.1)] ++ [(pAt t (st.pts.length + 1), one.1)] := by simp
  have hq : (pAt t (st.pts.length + 1), one.1) ∈ st.pts ++ [(pAt t st.pts.length, one.1)] ++ [(pAt t (st.pts.length + 1), one.1)] := by simp
  have pq := pq_ne (t := t) hc
  have g4 := g3.addL (l := (one, a, [(pAt t st.pts.length, nS)])) ⟨g1, ga, fun e => na e.symm, by simp, by simp, fun w hw => by
    rw [List.mem_singleton.mp hw]; exact ⟨.inl rfl, .inl hp⟩⟩ (Off.share (st := st) of h1 ha)
  have g5 := g4.addL (l := (one, b, [(pAt t st.pts.length, rS), (pAt t (st.pts.length + 1), nS)])) ⟨g1, gb, fun e => nb e.symm, by simp, by simp [pq], fun w hw => by
    rcases List.mem_cons.mp hw with rfl | hw
    · exact ⟨.inr rfl, .inl hp⟩
    · rw [List.mem_singleton.mp hw]; exact ⟨.inl rfl, .inl hq⟩⟩ (fun o ho => by
    rcases List.mem_append.mp ho with ho | ho
    · exact Off.share (st := st) of h1 hb o ho
    · rw [List.mem_singleton.mp ho]
      exact fun _ => told_of (p := pAt t st.pts.length) (x := rS) (y := nS) (by simp) (by simp) nr_ne)
  have g6 := g5.addL (l := (one, c, [(pAt t st.pts.length, rS), (pAt t (st.pts.length + 1), rS)])) ⟨g1, gc, fun e => nc e.symm, by simp, by simp [pq], fun w hw => by
    rcases List.mem_cons.mp hw with rfl | hw
    · exact ⟨.inr rfl, .inl hp⟩
    · rw [List.mem_singleton.mp hw]; exact ⟨.inr rfl, .inl hq⟩⟩ (fun o ho => by
    rcases List.mem_append.mp ho with ho | ho
    · rcases List.mem_append.mp ho with ho | ho
      · exact Off.share (st := st) of h1 hc' o ho
      · rw [List.mem_singleton.mp ho]
        exact fun _ => told_of (p := pAt t st.pts.length) (x := rS) (y := nS) (by simp) (by simp) nr_ne
    · rw [List.mem_singleton.mp ho]
      exact fun _ => told_of (p := pAt t (st.pts.length + 1)) (x := rS) (y := nS) (by simp) (by simp) nr_ne)
  exact ⟨g6, ⟨[(one, a, [(pAt t st.pts.length, nS)]), (one, b, [(pAt t st.pts.length, rS), (pAt t (st.pts.length + 1), nS)]), (one, c, [(pAt t st.pts.length, rS), (pAt t (st.pts.length + 1), rS)])], by simp, by simp, by simp⟩, rfl⟩
end
end Kx
end

section
set_option linter.all false
set_option maxRecDepth 100000
set_option maxHeartbeats 400000
/-! Ev21: _law_spread. -/
namespace Dy
open PySem PySem.Spec PyProof.Rows L2 GxR Gx
section
variable {h : Hq} {sl : List Sl} {d x y : D} {ds : List D} {fe fo fi fv fk fk2 fv2 : FE}
def putS (x k y : D) (sl : List Sl) (h3 : Hq) : RS := match x with
  | .ref n => (match h3[n]? with
    | some (.lst ds) => (match k with
      | .int k => (match ixN ds.length k with
        | some j => .nx sl (h3.set n (.lst (ds.set j y)))
        | none => .st)
      | _ => .st)
    | some (.dk kvs) => (match Dy.keyOf k with
      | some k => if kvs.length < LIM then .nx sl (h3.set n (.dk (put kvs k y))) else .st
      | none => .st)
    | some (.dt kvs) => (match tkeys k with
      | some k => if kvs.length < LIM then .nx sl (h3.set n (.dt (put kvs k y))) else .st
      | none => .st)
    | _ => .st)
  | _ => .st
theorem a_put : fPut fo fi fv sl h = (fv sl h).toS fun y h1 => (fo sl h1).toS fun x h2 => (fi sl h2).toS fun k h3 => putS x k y sl h3 := id rfl
theorem putS_ok {q : Nat} {kvs : List (Key × D)} {k : Str} (e : h[q]? = some (.dk kvs)) (hn : (.inr k : Key) ∉ kvs.map (·.1)) (hl : kvs.length < LIM) : putS (.ref q) (.str k) y sl h = .nx sl (h.set q (.dk (kvs ++ [(.inr k, y)]))) := by
  unfold putS
  simp only [e, Dy.keyOf, Kx.put_new hn]
  exact if_pos hl
def dk1 (k v : D) (h : Hq) : R D := match Dy.keyOf k with
  | some k => .ok (.dk [(k, v)]) h
  | none => .st
theorem a_disp1 : fDisp [(fk, fv)] sl h = (fk sl h).bind fun k h1 => (fv sl h1).bind fun v h2 => dk1 k v h2 := by
  have e : fDisp [(fk, fv)] sl h = (dpGo [(fk, fv)] sl h).bind fun ps h1 => if ps.length ≤ 15 then .ok (.dk (mergeD [] ps)) h1 else .st := rfl
  rw [e, dpGo]
  cases fk sl h with
  | ok k h1 =>
    rw [R.bind_ok, R.bind_ok]
    cases fv sl h1 with
    | ok v h2 =>
      rw [R.bind_ok, R.bind_ok]
      unfold dk1
      cases Dy.keyOf k <;> rfl
    | er => rfl
    | st => rfl
  | er => rfl
  | st => rfl
theorem dk1_ok {k : Str} {v : D} : dk1 (.str k) v h = .ok (.dk [(.inr k, v)]) h := id rfl
theorem disp2_ok {k k2 : Str} {v v2 : D} (e1 : fk sl h = .ok (.str k) h) (e2 : fv sl h = .ok v h) (e3 : fk2 sl h = .ok (.str k2) h) (e4 : fv2 sl h = .ok v2 h) (ne : k ≠ k2) : fDisp [(fk, fv), (fk2, fv2)] sl h = .ok (.dk [(.inr k, v), (.inr k2, v2)]) h := by
  unfold fDisp dpGo dpGo dpGo
  rw [e1, R.bind_ok, e2, R.bind_ok]
  simp only [Dy.keyOf]
  rw [e3, R.bind_ok, e4, R.bind_ok]
  simp only [Dy.keyOf, R.bind_ok]
  rw [if_pos (by simp)]
  rw [Kx.merge_new _ [] (by simp [ne])]
  rfl
theorem pop_ok {q t : Nat} {y : D} (e : h[q]? = some (.lst ds)) (ht : t < 1000) (ey : ds[t]? = some y) : opPopAt (.ref q) [.int (t : Int)] h = .ok y (h.set q (.lst (ds.eraseIdx t))) := by
  have lt := (List.getElem?_eq_some_iff.mp ey).1
  have sx : seqIndex? (t : Int) ds.length = some t := by
    unfold seqIndex?
    simp
    omega
  have c1 : -(2 ^ 63) ≤ (t : Int) ∧ (t : Int) < 2 ^ 63 := by
    constructor
    · have : (-(2 ^ 63) : Int) ≤ 0 := by decide
      omega
    · have : (1000 : Int) < 2 ^ 63 := by decide
      omega
  unfold opPopAt
  simp only [e, sx, ey]
  exact if_pos c1
theorem erase_map {A B : Type} {f : A → B} : ∀ (l : List A) (k : Nat), (l.map f).eraseIdx k = (l.eraseIdx k).map f
  | [], _ => rfl
  | _ :: _, 0 => rfl
  | a :: l, k + 1 => by
    show f a :: (l.map f).eraseIdx k = f a :: (l.eraseIdx k).map f
    rw [erase_map l k]
theorem erase_nin {A : Type} : ∀ {l : List A} {k : Nat} {a : A}, l.Nodup → l[k]? = some a → a ∉ l.eraseIdx k
  | [], _, _, _, e => by simp at e
  | b :: l, 0, a, nd, e => by
    simp at e
    subst e
    exact (List.nodup_cons.mp nd).1
  | b :: l, k + 1, a, nd, e => by
    have e' : l[k]? = some a := by simpa using e
    show a ∉ b :: l.eraseIdx k
    intro hm
    rcases List.mem_cons.mp hm with rfl | hm
    · exact (List.nodup_cons.mp nd).1 (List.mem_of_getElem? e')
    · exact erase_nin (List.nodup_cons.mp nd).2 e' hm
end
end Dy
namespace Kx
open PySem PySem.Spec PyProof.Rows L2 GxR Gx Dy
/-- what stands above stays, but one cell -/
structure Ke (n o : Nat) (h h' : Hq) : Prop where
  ge : ∀ m, n + 3 < m → m ≠ o → h'[m]? = h[m]?
  len : h'.length = h.length
theorem Ke.refl {n o : Nat} {h : Hq} : Ke n o h h := ⟨fun _ _ _ => rfl, rfl⟩
theorem Ke.set {n o q : Nat} {h h' : Hq} {c : C} (k : Ke n o h h') (hq : q ≤ n + 3 ∨ q = o) : Ke n o h (h'.set q c) := ⟨fun m h1 h2 => by
  rw [set_ne (by omega)]
  exact k.ge m h1 h2, by rw [List.length_set]; exact k.len⟩
abbrev spTail2 : FS := (fSeq (fSet 10 (fBin opAddY (fC (.str "p")) (fCb opStr (aCons (fBin opMod (fBin opAddY (fBin opSub_ (fVar 1) (fC (.str "turn"))) (fBin opMulX (fC (.int 3)) (fCb opLen (aCons (fBin opSub_ (fVar 1) (fC (.str "points"))) aNil)))) (fC (.int 10))) aNil))))
  (fSeq (fSet 11 (fBin opSub_ (fVar 8) (fCall 2 r_law_taken (aCons (fVar 0) (aCons (fCb opLen (aCons (fVar 8) aNil)) aNil)))))
  (fSeq (fPut (fBin opSub_ (fVar 1) (fC (.str "points"))) (fVar 10) (fBin opSub_ (fLst (aCons (fBin opSub_ (fVar 6) (fC (.int 0))) (aCons (fBin opSub_ (fVar 2) (fC (.int 0))) aNil))) (fBin opSub (fVar 7) (fC (.int 2)))))
  (fSeq (fDrop (fBm .list opAppend (fBin opSub_ (fVar 1) (fC (.str "links"))) (aCons (fTup (aCons (fVar 2) (aCons (fVar 6) (aCons (fDisp [((fVar 4), (fC (.str "r"))), ((fVar 10), (fC (.str "n")))]) aNil)))) aNil)))
  (fSeq (fDrop (fBm .list opAppend (fBin opSub_ (fVar 1) (fC (.str "links"))) (aCons (fTup (aCons (fBin opSub_ (fLst (aCons (fVar 11) (aCons (fVar 2) aNil))) (fBin opSub (fVar 7) (fC (.int 2)))) (aCons (fBin opSub_ (fLst (aCons (fVar 6) (aCons (fVar 11) aNil))) (fBin opSub (fVar 7) (fC (.int 2)))) (aCons (fBin opSub_ (fLst (aCons (fDisp [((fVar 10), (fC (.str "r")))]) (aCons (fDisp [((fVar 4), (fC (.str "r"))), ((fVar 10), (fC (.str "r")))]) aNil))) (fBin opSub (fVar 7) (fC (.int 2)))) aNil)))) aNil)))
  (fRet (fLst (aCons (fVar 5) (aCons (fVar 6) (aCons (fVar 11) aNil))))))))))
abbrev spTail : FS := (fSeq (fIf (bOr (fAsB (fBin opEqH (fVar 8) (fLst aNil))) (fAsB (fBin (opCI .lt) (fVar 7) (fC (.int 2))))) (fSeq (fDrop (fBm .list opAppend (fBin opSub_ (fVar 1) (fC (.str "links"))) (aCons (fTup (aCons (fVar 2) (aCons (fVar 6) (aCons (fDisp [((fVar 4), (fC (.str "r")))]) aNil)))) aNil)))
  (fRet (fLst (aCons (fVar 5) (aCons (fVar 6) aNil))))) fNx) spTail2)
theorem spread_eq : f_law_spread = (fSeq (fSet 4 (fBin opAddY (fC (.str "p")) (fCb opStr (aCons (fBin opMod (fBin opAddY (fBin opSub_ (fVar 1) (fC (.str "turn"))) (fBin opMulX (fC (.int 3)) (fCb opLen (aCons (fBin opSub_ (fVar 1) (fC (.str "points"))) aNil)))) (fC (.int 10))) aNil))))
  (fSeq (fPut (fBin opSub_ (fVar 1) (fC (.str "points"))) (fVar 4) (fBin opSub_ (fVar 2) (fC (.int 0))))
  (fSeq (fSet 5 (fBm .list opPopAt (fVar 3) (aCons (fCall 2 r_law_taken (aCons (fVar 0) (aCons (fCb opLen (aCons (fVar 3) aNil)) aNil))) aNil)))
  (fSeq (fSet 6 (fBm .list opPopAt (fVar 3) (aCons (fCall 2 r_law_taken (aCons (fVar 0) (aCons (fCb opLen (aCons (fVar 3) aNil)) aNil))) aNil)))
  (fSeq (fDrop (fBm .list opAppend (fBin opSub_ (fVar 1) (fC (.str "links"))) (aCons (fTup (aCons (fVar 2) (aCons (fVar 5) (aCons (fDisp [((fVar 4), (fC (.str "n")))]) aNil)))) aNil)))
  (fSeq (fSet 7 (fCall 2 r_law_taken (aCons (fVar 0) (aCons (fC (.int 4)) aNil))))
  (fSeq (fSet 8 (fLc (iAny (fVar 3)) (gNm 9) (bOr (fAsB (fBin opNeH (fBin opSub_ (fVar 9) (fC (.int 0))) (fBin opSub_ (fVar 6) (fC (.int 0))))) (fAsB (fBin opEqH (fVar 7) (fC (.int 3))))) (fVar 9) [9])) spTail))))))) := rfl
section
variable {h : Hq} {n o q r t : Nat} {st : St} {sl : List Sl}
theorem put_pt {turn : Int} {P x : Str} (ls : LS h n st turn) (hn : (.inr P : Key) ∉ (st.pts.map kW).map (·.1)) (hl : st.pts.length < 1000) : putS (.ref n) (.str P) (.str x) sl h = .nx sl (h.set n (.dk ((st.pts ++ [(P, x)]).map kW))) := by
  rw [putS_ok ls.p hn (by rw [List.length_map]; simp [LIM]; omega), List.map_append]
  rfl
theorem app_lk {turn : Int} {a b : Str × Nat} {ws : List (Str × Str)} (ls : LS h n st turn) (hl : st.links.length < 1000) : opAppend (.ref (n + 1)) [.tup [dEnd a, dEnd b, .dk (ws.map kW)]] h = .ok .non (h.set (n + 1) (.lst ((st.links ++ [(a, b, ws)]).map dRaw))) := by
  rw [app_ok ls.l (by rw [List.length_map]; simp [LIM]; omega), List.map_append]
  rfl
theorem p_name {t i : Nat} : opStr [.int (((t + 3 * i) % 10 : Nat) : Int)] h = .ok (.str (sideT ((t + 3 * i) % 10))) h := str_nat (by omega)
theorem p_add {i : Nat} (hi : i < 16) : opAddY (.str "p") (.str (sideT i)) h = .ok (.str (pName i)) h := by
  have := sd_len i hi
  have p1 : (PySem.Str.ofString "p").length = 1 := by decide +kernel
  exact add_str (by rw [slen]; simp [LIM]; omega)
/-- the first part of _law_spread: two ends drawn, the first link laid -/
theorem sp_pre {ns : List Int} {S : List Str} {F others : List (Str × Nat)} {one : Str × Nat} (ok : RowOk ns h r) (ls : LS h n st (t : Int)) (rn : r < n) (g : Gr S t st) (hc : st.pts.length < 9) (eo : h[o]? = some (.lst (others.map dEnd))) (ho : n + 3 < o) (h2 : 2 ≤ others.length) (h16 : others.length ≤ 16)
    (nd : others.Nodup) (as : ∀ e ∈ others, As e.1) (lc : st.links.length < 500) :
    ∃ (a b : Str × Nat) (o2 : List (Str × Nat)) (w : Nat) (more : List (Str × Nat)) (h' : Hq), f_law_spread [.va (.ref r), .va (.ref (n + 3)), .va (dEnd one), .va (.ref o), .no, .no, .no, .no, .no, .no, .no, .no] h =
        spTail [.va (.ref r), .va (.ref (n + 3)), .va (dEnd one), .va (.ref o), .va (.str (pAt t st.pts.length)), .va (dEnd a), .va (dEnd b), .va (.int ((w : Nat) : Int)), .va (.lst (more.map dEnd)), .no, .no, .no] h' ∧
      RowOk ns h' r ∧ LS h' n { st with pts := st.pts ++ [(pAt t st.pts.length, one.1)], links := st.links ++ [(one, a, [(pAt t st.pts.length, nS)])] } (t : Int) ∧ Ke n o h h' ∧ a ∈ others ∧ b ∈ others ∧ a ≠ b ∧ w < 4 ∧ more = o2.filter (fun e => !decide (e.1 = b.1) || decide (w = 3)) ∧
      (∀ e ∈ o2, e ∈ others ∧ e ≠ a ∧ e ≠ b) ∧ o2.length ≤ 16 := by
  have l1 : LIM = 16777216 := rfl
  have hm := p_new_k g (by omega)
  have f3 : opLen [.ref n] h = .ok (.int (st.pts.length : Int)) h := by rw [dk_len ls.p, List.length_map]
  have f5 : opAddY (.str "p") (.str (sideT ((t + 3 * st.pts.length) % 10))) h = .ok (.str (pAt t st.pts.length)) h := p_add (by omega)
  have f6 := fun sl => put_pt (sl := sl) (x := one.1) ls hm (by omega)
  have ls1 := ls.pt (P := st.pts ++ [(pAt t st.pts.length, one.1)])
  have ok1 := ok.ne (c := .dk ((st.pts ++ [(pAt t st.pts.length, one.1)]).map kW)) (q := n) (by omega)
  have ke1 := (Ke.refl (n := n) (o := o) (h := h)).set (c := .dk ((st.pts ++ [(pAt t st.pts.length, one.1)]).map kW)) (q := n) (.inl (by omega))
  have eo1 : (h.set n (.dk ((st.pts ++ [(pAt t st.pts.length, one.1)]).map kW)))[o]? = some (.lst (others.map dEnd)) := by rw [set_ne (by omega)]; exact eo
  have gt := sub_turn ls.s
  have gp := sub_points ls.s
  generalize h.set n (.dk ((st.pts ++ [(pAt t st.pts.length, one.1)]).map kW)) = h1 at *
  have f7 : opLen [.ref o] h1 = .ok (.int (others.length : Int)) h1 := by rw [ls_len eo1, List.length_map]
  have b7 := bt_list eo1
  obtain ⟨ta, c1, e1, ta1, ok2⟩ := taken_nat ok1 (m := others.length) (by omega) (by omega)
  have ls2 := ls1.row (c := c1) rn
  have ke2 := ke1.set (c := c1) (q := r) (.inl (by omega))
  have eo2 : (h1.set r c1)[o]? = some (.lst (others.map dEnd)) := by rw [set_ne (by omega)]; exact eo1
  generalize h1.set r c1 = h2' at *
  obtain ⟨a, ea⟩ : ∃ a, others[ta]? = some a := ⟨_, List.getElem?_eq_getElem ta1⟩
  have p1 := pop_ok (t := ta) (y := dEnd a) eo2 (by omega) (by rw [List.getElem?_map, ea]; rfl)
  rw [erase_map] at p1
  have ls3 := ls2.above (c := .lst ((others.eraseIdx ta).map dEnd)) ho
  have ok3 := ok2.ne (c := .lst ((others.eraseIdx ta).map dEnd)) (q := o) (by omega)
  have ke3 := ke2.set (c := .lst ((others.eraseIdx ta).map dEnd)) (q := o) (.inr rfl)
  have eo3 : (h2'.set o (.lst ((others.eraseIdx ta).map dEnd)))[o]? = some (.lst ((others.eraseIdx ta).map dEnd)) := set_at eo2
  generalize h2'.set o (.lst ((others.eraseIdx ta).map dEnd)) = h3 at *
  have len1 : (others.eraseIdx ta).length = others.length - 1 := by rw [List.length_eraseIdx, if_pos ta1]
  have f8 : opLen [.ref o] h3 = .ok (.int ((others.eraseIdx ta).length : Int)) h3 := by rw [ls_len eo3, List.length_map]
  have b8 := bt_list eo3
  obtain ⟨tb, c2, e2, tb1, ok4⟩ := taken_nat ok3 (m := (others.eraseIdx ta).length) (by omega) (by omega)
  have ls4 := ls3.row (c := c2) rn
  have ke4 := ke3.set (c := c2) (q := r) (.inl (by omega))
  have eo4 : (h3.set r c2)[o]? = some (.lst ((others.eraseIdx ta).map dEnd)) := by rw [set_ne (by omega)]; exact eo3
  generalize h3.set r c2 = h4 at *
  obtain ⟨b, eb⟩ : ∃ b, (others.eraseIdx ta)[tb]? = some b := ⟨_, List.getElem?_eq_getElem tb1⟩
  have p2 := pop_ok (t := tb) (y := dEnd b) eo4 (by omega) (by rw [List.getElem?_map, eb]; rfl)
  rw [erase_map] at p2
  have ls5 := ls4.above (c := .lst (((others.eraseIdx ta).eraseIdx tb).map dEnd)) ho
  have ok5 := ok4.ne (c := .lst (((others.eraseIdx ta).eraseIdx tb).map dEnd)) (q := o) (by omega)
  have ke5 := ke4.set (c := .lst (((others.eraseIdx ta).eraseIdx tb).map dEnd)) (q := o) (.inr rfl)
  have eo5 : (h4.set o (.lst (((others.eraseIdx ta).eraseIdx tb).map dEnd)))[o]? = some (.lst (((others.eraseIdx ta).eraseIdx tb).map dEnd)) := set_at eo4
  generalize h4.set o (.lst (((others.eraseIdx ta).eraseIdx tb).map dEnd)) = h5 at *
  have gl := sub_links ls5.s
  have bl := bt_list ls5.l
  have al : opAppend (.ref (n + 1)) [.tup [dEnd one, dEnd a, .dk [(.inr (pAt t st.pts.length), .str nS)]]] h5 = .ok .non (h5.set (n + 1) (.lst ((st.links ++ [(one, a, [(pAt t st.pts.length, nS)])]).map dRaw))) := app_lk (st := ⟨st.secs, st.pts ++ [(pAt t st.pts.length, one.1)], st.links, st.sigs⟩) (ws := [(pAt t st.pts.length, nS)]) ls5 (by show st.links.length < 1000; omega)
  have ls6 := ls5.lnk (L := st.links ++ [(one, a, [(pAt t st.pts.length, nS)])])
  have ok6 := ok5.ne (c := .lst ((st.links ++ [(one, a, [(pAt t st.pts.length, nS)])]).map dRaw)) (q := n + 1) (by omega)
  have ke6 := ke5.set (c := .lst ((st.links ++ [(one, a, [(pAt t st.pts.length, nS)])]).map dRaw)) (q := n + 1) (.inl (by omega))
  have eo6 : (h5.set (n + 1) (.lst ((st.links ++ [(one, a, [(pAt t st.pts.length, nS)])]).map dRaw)))[o]? = some (.lst (((others.eraseIdx ta).eraseIdx tb).map dEnd)) := by rw [set_ne (by omega)]; exact eo5
  generalize h5.set (n + 1) (.lst ((st.links ++ [(one, a, [(pAt t st.pts.length, nS)])]).map dRaw)) = h6 at *
  obtain ⟨w, c3, e3, w4, ok7⟩ := taken_nat ok6 (m := 4) (by omega) (by omega)
  have ls7 := ls6.row (c := c3) rn
  have ke7 := ke6.set (c := c3) (q := r) (.inl (by omega))
  have eo7 : (h6.set r c3)[o]? = some (.lst (((others.eraseIdx ta).eraseIdx tb).map dEnd)) := by rw [set_ne (by omega)]; exact eo6
  generalize h6.set r c3 = h7 at *
  have ls8 := ls7.above (c := .lk (.lst (((others.eraseIdx ta).eraseIdx tb).map dEnd))) ho
  have ok8 := ok7.ne (c := .lk (.lst (((others.eraseIdx ta).eraseIdx tb).map dEnd))) (q := o) (by omega)
  have ke8 := ke7.set (c := .lk (.lst (((others.eraseIdx ta).eraseIdx tb).map dEnd))) (q := o) (.inr rfl)
  have ma : a ∈ others := List.mem_of_getElem? ea
  have mb' : b ∈ others.eraseIdx ta := List.mem_of_getElem? eb
  have mb : b ∈ others := List.mem_of_mem_eraseIdx mb'
  have na := erase_nin nd ea
  have nd1 : (others.eraseIdx ta).Nodup := nd.sublist (List.eraseIdx_sublist ..)
  have nb := erase_nin nd1 eb
  have o2m : ∀ e ∈ (others.eraseIdx ta).eraseIdx tb, e ∈ others ∧ e ≠ a ∧ e ≠ b := fun e he => by
    have h1 := List.mem_of_mem_eraseIdx he
    exact ⟨List.mem_of_mem_eraseIdx h1, fun z => na (z ▸ h1), fun z => nb (z ▸ he)⟩
  have len2 : ((others.eraseIdx ta).eraseIdx tb).length ≤ 16 := by rw [List.length_eraseIdx, if_pos tb1]; omega
  have lcm : ∀ x y z : Sl, fLc (iAny (fVar 3)) (gNm 9) (bOr (fAsB (fBin opNeH (fBin opSub_ (fVar 9) (fC (.int 0))) (fBin opSub_ (fVar 6) (fC (.int 0))))) (fAsB (fBin opEqH (fVar 7) (fC (.int 3))))) (fVar 9) [9] [.va (.ref r), .va (.ref (n + 3)), .va (dEnd one), .va (.ref o), .va (.str (pAt t st.pts.length)), .va (dEnd a), .va (dEnd b), .va (.int (w : Int)), x, .no, y, z] h7 =
      .ok (.lst ((((others.eraseIdx ta).eraseIdx tb).filter (fun e => !decide (e.1 = b.1) || decide (w = 3))).map dEnd)) (h7.set o (.lk (.lst (((others.eraseIdx ta).eraseIdx tb).map dEnd)))) := fun x y z => by
    refine ev_lc (emb := dEnd) (xs := (others.eraseIdx ta).eraseIdx tb) (fun e => [(9, dEnd e)]) (fun e => !decide (e.1 = b.1) || decide (w = 3)) (walk_ls rfl eo7) (by omega) (fun _ _ => rfl) (fun e he => ?_) (fun e he _ => rfl)
    have q1 := fun h => op_ne_str (h := h) (as e (o2m e he).1) (as b mb)
    have q2 := fun h => op_eq_int (h := h) (a := (w : Int)) (b := 3)
    have q3 : decide ((w : Int) = 3) = decide (w = 3) := by
      by_cases e3 : w = 3
      · subst e3; rfl
      · rw [decide_eq_false e3, decide_eq_false (by omega)]
    show bOr _ _ [.va (.ref r), .va (.ref (n + 3)), .va (dEnd one), .va (.ref o), .va (.str (pAt t st.pts.length)), .va (dEnd a), .va (dEnd b), .va (.int (w : Int)), x, .va (dEnd e), y, z] _ = _
    rw [a_bOr]
    simp only [sub_e0, q1, a_run1, a_run2, fin_rt, fin_nx, a_seq, seq_nx, seq_rt, a_ret, a_retN, a_set, a_if, a_nx, a_var, get_va, a_c, a_nil, a_cons, a_bin, a_cb, a_call, a_and, a_or, a_bAnd, a_bOr, a_bNot, a_asB, a_tru, a_tup, a_lst, a_asg, a_drop, a_bm, a_ite, and_t, and_f, or_t, or_f, asB_bl, tru_bl, b_ok, s_ok, List.length_cons, List.length_nil, List.map_cons, List.map_nil, List.set_cons_zero, List.set_cons_succ, List.getElem?_cons_zero, List.getElem?_cons_succ, Bool.not_true, Bool.not_false, if_true, if_false, Bool.true_eq_false, Bool.false_eq_true, reduceIte, Nat.reduceAdd, Nat.reduceSub, Nat.reduceLeDiff, Nat.zero_add, eq_self, LIM]
    cases (!decide (e.1 = b.1)) with
    | true => simp only [Bool.true_or, a_run1, a_run2, fin_rt, fin_nx, a_seq, seq_nx, seq_rt, a_ret, a_retN, a_set, a_if, a_nx, a_var, get_va, a_c, a_nil, a_cons, a_bin, a_cb, a_call, a_and, a_or, a_bAnd, a_bOr, a_bNot, a_asB, a_tru, a_tup, a_lst, a_asg, a_drop, a_bm, a_ite, and_t, and_f, or_t, or_f, asB_bl, tru_bl, b_ok, s_ok, List.length_cons, List.length_nil, List.map_cons, List.map_nil, List.set_cons_zero, List.set_cons_succ, List.getElem?_cons_zero, List.getElem?_cons_succ, Bool.not_true, Bool.not_false, if_true, if_false, Bool.true_eq_false, Bool.false_eq_true, reduceIte, Nat.reduceAdd, Nat.reduceSub, Nat.reduceLeDiff, Nat.zero_add, eq_self, LIM]
    | false => simp only [q2, q3, Bool.false_or, a_run1, a_run2, fin_rt, fin_nx, a_seq, seq_nx, seq_rt, a_ret, a_retN, a_set, a_if, a_nx, a_var, get_va, a_c, a_nil, a_cons, a_bin, a_cb, a_call, a_and, a_or, a_bAnd, a_bOr, a_bNot, a_asB, a_tru, a_tup, a_lst, a_asg, a_drop, a_bm, a_ite, and_t, and_f, or_t, or_f, asB_bl, tru_bl, b_ok, s_ok, List.length_cons, List.length_nil, List.map_cons, List.map_nil, List.set_cons_zero, List.set_cons_succ, List.getElem?_cons_zero, List.getElem?_cons_succ, Bool.not_true, Bool.not_false, if_true, if_false, Bool.true_eq_false, Bool.false_eq_true, reduceIte, Nat.reduceAdd, Nat.reduceSub, Nat.reduceLeDiff, Nat.zero_add, eq_self, LIM]
  refine ⟨a, b, (others.eraseIdx ta).eraseIdx tb, w, _, _, ?_, ok8, ls8, ke8, ma, mb, fun e => na (e ▸ mb'), w4, rfl, o2m, len2⟩
  have e3' : r_law_taken [.ref r, .int 4] h6 = .ok (.int (w : Int)) h7 := e3
  rw [spread_eq]
  generalize spTail = TT
  simp only [gt, gp, f3, mul3, add_nat, mod10, p_name, f5, a_put, sub_e0, f6, f7, b7, e1, p1, f8, b8, e2, p2, gl, bl, a_disp1, dk1_ok, al, e3', lcm, a_run1, a_run2, fin_rt, fin_nx, a_seq, seq_nx, seq_rt, a_ret, a_retN, a_set, a_if, a_nx, a_var, get_va, a_c, a_nil, a_cons, a_bin, a_cb, a_call, a_and, a_or, a_bAnd, a_bOr, a_bNot, a_asB, a_tru, a_tup, a_lst, a_asg, a_drop, a_bm, a_ite, and_t, and_f, or_t, or_f, asB_bl, tru_bl, b_ok, s_ok, List.length_cons, List.length_nil, List.map_cons, List.map_nil, List.set_cons_zero, List.set_cons_succ, List.getElem?_cons_zero, List.getElem?_cons_succ, Bool.not_true, Bool.not_false, if_true, if_false, Bool.true_eq_false, Bool.false_eq_true, reduceIte, Nat.reduceAdd, Nat.reduceSub, Nat.reduceLeDiff, Nat.zero_add, eq_self, LIM]
end
end Kx
end

section
set_option linter.all false
set_option maxRecDepth 100000
set_option maxHeartbeats 400000
/-! Ev22: _law_spread, its ways. -/
namespace Kx
open PySem PySem.Spec PyProof.Rows L2 GxR Gx Dy
section
variable {h : Hq} {n o q r t : Nat} {st : St} {sl : List Sl}
theorem eq_nil {y : D} {l : List (Str × Nat)} (e : litems h y = some (l.map dEnd)) (hs : ∀ x ∈ l, As x.1) : opEqH y (.lst []) h = .ok (.bl l.isEmpty) h := by
  unfold opEqH eqH
  rw [cmpH_ends e hs, cmpH_ends (y := .lst []) (l := []) rfl (by simp)]
  show ofB (some (PyData.eqv (.list (l.map pEnd)) (.list []))) h = _
  rw [PyData.eqv]
  cases l with
  | nil => rw [List.map_nil, PyData.eqvAll]; rfl
  | cons a r => rw [List.map_cons, PyData.eqvAll]; rfl
theorem lt_2 {w : Nat} : opCI .lt (.int (w : Int)) (.int 2) h = .ok (.bl (decide (w < 2))) h := by
  show R.ok (D.bl (decide ((w : Int) < 2))) h = _
  by_cases e : w < 2
  · rw [decide_eq_true e, decide_eq_true (by omega)]
  · rw [decide_eq_false e, decide_eq_false (by omega)]
theorem sb2 : opSub (.int ((2 : Nat) : Int)) (.int 2) h = .ok (.int 0) h := rfl
theorem sb3 : opSub (.int ((3 : Nat) : Int)) (.int 2) h = .ok (.int 1) h := rfl
theorem sl0 {x y : D} : opSub_ (.lst [x, y]) (.int 0) h = .ok x h := sub_lst rfl
theorem sl1 {x y : D} : opSub_ (.lst [x, y]) (.int 1) h = .ok y h := sub_lst rfl
theorem at_end {l : List (Str × Nat)} {i : Nat} {c : Str × Nat} (e : l[i]? = some c) : opSub_ (.lst (l.map dEnd)) (.int (i : Int)) h = .ok (dEnd c) h := sub_lst (by
  have := (List.getElem?_eq_some_iff.mp e).1
  unfold atI ixN
  rw [if_pos (by omega), if_pos (by rw [List.length_map]; omega)]
  show (List.map dEnd l)[(i : Int).toNat]? = _
  rw [Int.toNat_natCast, List.getElem?_map, e]
  rfl)
theorem e_spread {ns : List Int} {S : List Str} {F others : List (Str × Nat)} {one : Str × Nat} (ok : RowOk ns h r) (ls : LS h n st (t : Int)) (rn : r < n) (g : Gr S t st) (of : Off st F) (hc : st.pts.length < 9) (eo : h[o]? = some (.lst (others.map dEnd))) (ho : n + 3 < o) (h2 : 2 ≤ others.length) (h16 : others.length ≤ 16)
    (nd : others.Nodup) (h1 : one ∈ F) (hF : ∀ e ∈ others, e ∈ F) (gF : ∀ e ∈ F, GEnd st e) (as : ∀ e ∈ F, As e.1) (no : ∀ e ∈ others, e.1 ≠ one.1) (lc : st.links.length < 450) :
    ∃ (st' : St) (us : List (Str × Nat)) (h' : Hq), r_law_spread [.ref r, .ref (n + 3), dEnd one, .ref o] h = .ok (.lst (us.map dEnd)) h' ∧ LS h' n st' (t : Int) ∧ RowOk ns h' r ∧ Add S t st st' (one :: us) ∧ (∀ e ∈ us, e ∈ F) ∧ us.length ≤ 3 ∧ Ke n o h h' := by
  have l1 : LIM = 16777216 := rfl
  obtain ⟨a, b, o2, w, more, h8, pre, ok8, ls8, ke8, ma, mb, ab, w4, em, o2m, len2⟩ := sp_pre (F := F) (one := one) ok ls rn g hc eo ho h2 h16 nd (fun e he => as e (hF e he)) (by omega)
  have run : ∀ X, RS.fin (spTail [.va (.ref r), .va (.ref (n + 3)), .va (dEnd one), .va (.ref o), .va (.str (pAt t st.pts.length)), .va (dEnd a), .va (dEnd b), .va (.int ((w : Nat) : Int)), .va (.lst (more.map dEnd)), .no, .no, .no] h8) = X → r_law_spread [.ref r, .ref (n + 3), dEnd one, .ref o] h = X := fun X hX => by
    rw [r_law_spread, a_run1]
    show RS.fin (f_law_spread [.va (.ref r), .va (.ref (n + 3)), .va (dEnd one), .va (.ref o), .no, .no, .no, .no, .no, .no, .no, .no] h) = _
    rw [pre, hX]
  have mm : ∀ e ∈ more, e ∈ o2 ∧ (!decide (e.1 = b.1) || decide (w = 3)) = true := fun e he => by rw [em] at he; exact List.mem_filter.mp he
  have asm : ∀ e ∈ more, As e.1 := fun e he => as e (hF e (o2m e (mm e he).1).1)
  have q1 := fun h => eq_nil (h := h) (y := .lst (more.map dEnd)) rfl asm
  have mlen : more.length ≤ 16 := by
    rw [em]
    exact Nat.le_trans (List.length_filter_le ..) len2
  have gl := sub_links ls8.s
  have bl := bt_list ls8.l
  have lc8 : (st.links ++ [(one, a, [(pAt t st.pts.length, nS)])]).length < 451 := by rw [List.length_append]; simp; omega
  clear em
  by_cases cA : more = [] ∨ w < 2
  · have al : opAppend (.ref (n + 1)) [.tup [dEnd one, dEnd b, .dk [(.inr (pAt t st.pts.length), .str rS)]]] h8 = .ok .non (h8.set (n + 1) (.lst ((st.links ++ [(one, a, [(pAt t st.pts.length, nS)])] ++ [(one, b, [(pAt t st.pts.length, rS)])]).map dRaw))) :=
      app_lk (st := ⟨st.secs, st.pts ++ [(pAt t st.pts.length, one.1)], st.links ++ [(one, a, [(pAt t st.pts.length, nS)])], st.sigs⟩) (ws := [(pAt t st.pts.length, rS)]) ls8 (by show (st.links ++ [(one, a, [(pAt t st.pts.length, nS)])]).length < 1000; omega)
    have ls9 := ls8.lnk (L := st.links ++ [(one, a, [(pAt t st.pts.length, nS)])] ++ [(one, b, [(pAt t st.pts.length, rS)])])
    have ok9 := ok8.ne (c := .lst ((st.links ++ [(one, a, [(pAt t st.pts.length, nS)])] ++ [(one, b, [(pAt t st.pts.length, rS)])]).map dRaw)) (q := n + 1) (by omega)
    have ke9 := ke8.set (c := .lst ((st.links ++ [(one, a, [(pAt t st.pts.length, nS)])] ++ [(one, b, [(pAt t st.pts.length, rS)])]).map dRaw)) (q := n + 1) (.inl (by omega))
    generalize h8.set (n + 1) (.lst ((st.links ++ [(one, a, [(pAt t st.pts.length, nS)])] ++ [(one, b, [(pAt t st.pts.length, rS)])]).map dRaw)) = h9 at *
    refine ⟨_, [a, b], h9, run _ ?_, ls9, ok9, add_A g of (by omega) h1 (hF a ma) (hF b mb) (gF one h1) (gF a (hF a ma)) (gF b (hF b mb)) (no a ma) (no b mb) ab, ?_, by simp, ke9⟩
    · have cond : (more.isEmpty || decide (w < 2)) = true := by
        rcases cA with rfl | cA
        · rfl
        · rw [decide_eq_true cA, Bool.or_true]
      have q2 : bOr (fAsB (fBin opEqH (fVar 8) (fLst aNil))) (fAsB (fBin (opCI .lt) (fVar 7) (fC (.int 2)))) [.va (.ref r), .va (.ref (n + 3)), .va (dEnd one), .va (.ref o), .va (.str (pAt t st.pts.length)), .va (dEnd a), .va (dEnd b), .va (.int ((w : Nat) : Int)), .va (.lst (more.map dEnd)), .no, .no, .no] h8 = .ok true h8 := by
        rw [← cond, a_bOr]
        simp only [q1, a_run1, a_run2, fin_rt, fin_nx, a_seq, seq_nx, seq_rt, a_ret, a_retN, a_set, a_if, a_nx, a_var, get_va, a_c, a_nil, a_cons, a_bin, a_cb, a_call, a_and, a_or, a_bAnd, a_bOr, a_bNot, a_asB, a_tru, a_tup, a_lst, a_asg, a_drop, a_bm, a_ite, and_t, and_f, or_t, or_f, asB_bl, tru_bl, b_ok, s_ok, List.length_cons, List.length_nil, List.map_cons, List.map_nil, List.set_cons_zero, List.set_cons_succ, List.getElem?_cons_zero, List.getElem?_cons_succ, Bool.not_true, Bool.not_false, if_true, if_false, Bool.true_eq_false, Bool.false_eq_true, reduceIte, Nat.reduceAdd, Nat.reduceSub, Nat.reduceLeDiff, Nat.zero_add, eq_self, LIM]
        cases more.isEmpty with
        | true => simp only [Bool.true_or, a_run1, a_run2, fin_rt, fin_nx, a_seq, seq_nx, seq_rt, a_ret, a_retN, a_set, a_if, a_nx, a_var, get_va, a_c, a_nil, a_cons, a_bin, a_cb, a_call, a_and, a_or, a_bAnd, a_bOr, a_bNot, a_asB, a_tru, a_tup, a_lst, a_asg, a_drop, a_bm, a_ite, and_t, and_f, or_t, or_f, asB_bl, tru_bl, b_ok, s_ok, List.length_cons, List.length_nil, List.map_cons, List.map_nil, List.set_cons_zero, List.set_cons_succ, List.getElem?_cons_zero, List.getElem?_cons_succ, Bool.not_true, Bool.not_false, if_true, if_false, Bool.true_eq_false, Bool.false_eq_true, reduceIte, Nat.reduceAdd, Nat.reduceSub, Nat.reduceLeDiff, Nat.zero_add, eq_self, LIM]
        | false => simp only [lt_2, Bool.false_or, a_run1, a_run2, fin_rt, fin_nx, a_seq, seq_nx, seq_rt, a_ret, a_retN, a_set, a_if, a_nx, a_var, get_va, a_c, a_nil, a_cons, a_bin, a_cb, a_call, a_and, a_or, a_bAnd, a_bOr, a_bNot, a_asB, a_tru, a_tup, a_lst, a_asg, a_drop, a_bm, a_ite, and_t, and_f, or_t, or_f, asB_bl, tru_bl, b_ok, s_ok, List.length_cons, List.length_nil, List.map_cons, List.map_nil, List.set_cons_zero, List.set_cons_succ, List.getElem?_cons_zero, List.getElem?_cons_succ, Bool.not_true, Bool.not_false, if_true, if_false, Bool.true_eq_false, Bool.false_eq_true, reduceIte, Nat.reduceAdd, Nat.reduceSub, Nat.reduceLeDiff, Nat.zero_add, eq_self, LIM]
      rw [spTail, a_seq, a_if, q2]
      simp only [gl, bl, a_disp1, dk1_ok, al, a_run1, a_run2, fin_rt, fin_nx, a_seq, seq_nx, seq_rt, a_ret, a_retN, a_set, a_if, a_nx, a_var, get_va, a_c, a_nil, a_cons, a_bin, a_cb, a_call, a_and, a_or, a_bAnd, a_bOr, a_bNot, a_asB, a_tru, a_tup, a_lst, a_asg, a_drop, a_bm, a_ite, and_t, and_f, or_t, or_f, asB_bl, tru_bl, b_ok, s_ok, List.length_cons, List.length_nil, List.map_cons, List.map_nil, List.set_cons_zero, List.set_cons_succ, List.getElem?_cons_zero, List.getElem?_cons_succ, Bool.not_true, Bool.not_false, if_true, if_false, Bool.true_eq_false, Bool.false_eq_true, reduceIte, Nat.reduceAdd, Nat.reduceSub, Nat.reduceLeDiff, Nat.zero_add, eq_self, LIM]
    · intro e he
      simp only [List.mem_cons, List.not_mem_nil, or_false] at he
      rcases he with rfl | rfl
      · exact hF _ ma
      · exact hF _ mb
  · have ne : more ≠ [] := fun e => cA (.inl e)
    have w2 : ¬ w < 2 := fun e => cA (.inr e)
    have q2 : bOr (fAsB (fBin opEqH (fVar 8) (fLst aNil))) (fAsB (fBin (opCI .lt) (fVar 7) (fC (.int 2)))) [.va (.ref r), .va (.ref (n + 3)), .va (dEnd one), .va (.ref o), .va (.str (pAt t st.pts.length)), .va (dEnd a), .va (dEnd b), .va (.int ((w : Nat) : Int)), .va (.lst (more.map dEnd)), .no, .no, .no] h8 = .ok false h8 := by
      have e1 : more.isEmpty = false := by cases more with
        | nil => exact absurd rfl ne
        | cons => rfl
      rw [a_bOr]
      simp only [q1, e1, lt_2, decide_eq_false w2, a_run1, a_run2, fin_rt, fin_nx, a_seq, seq_nx, seq_rt, a_ret, a_retN, a_set, a_if, a_nx, a_var, get_va, a_c, a_nil, a_cons, a_bin, a_cb, a_call, a_and, a_or, a_bAnd, a_bOr, a_bNot, a_asB, a_tru, a_tup, a_lst, a_asg, a_drop, a_bm, a_ite, and_t, and_f, or_t, or_f, asB_bl, tru_bl, b_ok, s_ok, List.length_cons, List.length_nil, List.map_cons, List.map_nil, List.set_cons_zero, List.set_cons_succ, List.getElem?_cons_zero, List.getElem?_cons_succ, Bool.not_true, Bool.not_false, if_true, if_false, Bool.true_eq_false, Bool.false_eq_true, reduceIte, Nat.reduceAdd, Nat.reduceSub, Nat.reduceLeDiff, Nat.zero_add, eq_self, LIM]
    have gt := sub_turn ls8.s
    have gp := sub_points ls8.s
    have lp : (st.pts ++ [(pAt t st.pts.length, one.1)]).length = st.pts.length + 1 := by simp
    have f3 : opLen [.ref n] h8 = .ok (.int ((st.pts.length + 1 : Nat) : Int)) h8 := by rw [dk_len ls8.p, List.length_map, lp]
    have f5 : opAddY (.str "p") (.str (sideT ((t + 3 * (st.pts.length + 1)) % 10))) h8 = .ok (.str (pAt t (st.pts.length + 1))) h8 := p_add (by omega)
    have mpos : 0 < more.length := List.length_pos_iff.mpr ne
    obtain ⟨tc, c4, e4, tc1, ok9⟩ := taken_nat ok8 (m := more.length) mpos (by omega)
    have ls9 := ls8.row (c := c4) rn
    have ke9 := ke8.set (c := c4) (q := r) (.inl (by omega))
    generalize h8.set r c4 = h9 at *
    obtain ⟨c, ec⟩ : ∃ c, more[tc]? = some c := ⟨_, List.getElem?_eq_getElem tc1⟩
    have mc := List.mem_of_getElem? ec
    obtain ⟨mc2, mc3⟩ := mm c mc
    obtain ⟨mcF, ca, cb⟩ := o2m c mc2
    have gc : opSub_ (.lst (more.map dEnd)) (.int (tc : Int)) h9 = .ok (dEnd c) h9 := at_end ec
    have ln : ∀ h, opLen [.lst (more.map dEnd)] h = .ok (.int (more.length : Int)) h := fun h => by rw [len_lst, List.length_map]
    have g1 := g.addP (by omega) (x := one.1) (by rw [← g.secs]; exact (gF one h1).1)
    have hm : (.inr (pAt t (st.pts.length + 1)) : Key) ∉ ((st.pts ++ [(pAt t st.pts.length, one.1)]).map kW).map (·.1) := by
      have := p_new_k g1 (by rw [lp]; omega)
      rw [lp] at this
      exact this
    have pq := pq_ne (t := t) hc
    have gp9 := sub_points ls9.s
    by_cases w3 : w = 2
    · subst w3
      have cb1 : c.1 ≠ b.1 := by
        intro e
        rw [decide_eq_true e] at mc3
        exact absurd mc3 (by decide)
      have f6 := fun sl => put_pt (sl := sl) (x := b.1) ls9 hm (by rw [lp]; omega)
      have ls10 := ls9.pt (P := st.pts ++ [(pAt t st.pts.length, one.1)] ++ [(pAt t (st.pts.length + 1), b.1)])
      have ok10 := ok9.ne (c := .dk ((st.pts ++ [(pAt t st.pts.length, one.1)] ++ [(pAt t (st.pts.length + 1), b.1)]).map kW)) (q := n) (by omega)
      have ke10 := ke9.set (c := .dk ((st.pts ++ [(pAt t st.pts.length, one.1)] ++ [(pAt t (st.pts.length + 1), b.1)]).map kW)) (q := n) (.inl (by omega))
      generalize h9.set n (.dk ((st.pts ++ [(pAt t st.pts.length, one.1)] ++ [(pAt t (st.pts.length + 1), b.1)]).map kW)) = h10 at *
      have gl10 := sub_links ls10.s
      have bl10 := bt_list ls10.l
      have al10 : opAppend (.ref (n + 1)) [.tup [dEnd one, dEnd b, .dk [(.inr (pAt t st.pts.length), .str rS), (.inr (pAt t (st.pts.length + 1)), .str nS)]]] h10 = .ok .non (h10.set (n + 1) (.lst ((st.links ++ [(one, a, [(pAt t st.pts.length, nS)])] ++ [(one, b, [(pAt t st.pts.length, rS), (pAt t (st.pts.length + 1), nS)])]).map dRaw))) :=
        app_lk (st := ⟨st.secs, st.pts ++ [(pAt t st.pts.length, one.1)] ++ [(pAt t (st.pts.length + 1), b.1)], st.links ++ [(one, a, [(pAt t st.pts.length, nS)])], st.sigs⟩) (ws := [(pAt t st.pts.length, rS), (pAt t (st.pts.length + 1), nS)]) ls10 (by show (st.links ++ [(one, a, [(pAt t st.pts.length, nS)])]).length < 1000; omega)
      have ls11 := ls10.lnk (L := st.links ++ [(one, a, [(pAt t st.pts.length, nS)])] ++ [(one, b, [(pAt t st.pts.length, rS), (pAt t (st.pts.length + 1), nS)])])
      have ok11 := ok10.ne (c := .lst ((st.links ++ [(one, a, [(pAt t st.pts.length, nS)])] ++ [(one, b, [(pAt t st.pts.length, rS), (pAt t (st.pts.length + 1), nS)])]).map dRaw)) (q := n + 1) (by omega)
      have ke11 := ke10.set (c := .lst ((st.links ++ [(one, a, [(pAt t st.pts.length, nS)])] ++ [(one, b, [(pAt t st.pts.length, rS), (pAt t (st.pts.length + 1), nS)])]).map dRaw)) (q := n + 1) (.inl (by omega))
      generalize h10.set (n + 1) (.lst ((st.links ++ [(one, a, [(pAt t st.pts.length, nS)])] ++ [(one, b, [(pAt t st.pts.length, rS), (pAt t (st.pts.length + 1), nS)])]).map dRaw)) = h11 at *
      have gl11 := sub_links ls11.s
      have bl11 := bt_list ls11.l
      have al11 : opAppend (.ref (n + 1)) [.tup [dEnd c, dEnd b, .dk [(.inr (pAt t (st.pts.length + 1)), .str rS)]]] h11 = .ok .non (h11.set (n + 1) (.lst ((st.links ++ [(one, a, [(pAt t st.pts.length, nS)])] ++ [(one, b, [(pAt t st.pts.length, rS), (pAt t (st.pts.length + 1), nS)])] ++ [(c, b, [(pAt t (st.pts.length + 1), rS)])]).map dRaw))) :=
        app_lk (st := ⟨st.secs, st.pts ++ [(pAt t st.pts.length, one.1)] ++ [(pAt t (st.pts.length + 1), b.1)], st.links ++ [(one, a, [(pAt t st.pts.length, nS)])] ++ [(one, b, [(pAt t st.pts.length, rS), (pAt t (st.pts.length + 1), nS)])], st.sigs⟩) (ws := [(pAt t (st.pts.length + 1), rS)]) ls11 (by
          show (st.links ++ [(one, a, [(pAt t st.pts.length, nS)])] ++ _).length < 1000
          rw [List.length_append]; simp only [List.length_cons, List.length_nil]; omega)
      have ls12 := ls11.lnk (L := st.links ++ [(one, a, [(pAt t st.pts.length, nS)])] ++ [(one, b, [(pAt t st.pts.length, rS), (pAt t (st.pts.length + 1), nS)])] ++ [(c, b, [(pAt t (st.pts.length + 1), rS)])])
      have ok12 := ok11.ne (c := .lst ((st.links ++ [(one, a, [(pAt t st.pts.length, nS)])] ++ [(one, b, [(pAt t st.pts.length, rS), (pAt t (st.pts.length + 1), nS)])] ++ [(c, b, [(pAt t (st.pts.length + 1), rS)])]).map dRaw)) (q := n + 1) (by omega)
      have ke12 := ke11.set (c := .lst ((st.links ++ [(one, a, [(pAt t st.pts.length, nS)])] ++ [(one, b, [(pAt t st.pts.length, rS), (pAt t (st.pts.length + 1), nS)])] ++ [(c, b, [(pAt t (st.pts.length + 1), rS)])]).map dRaw)) (q := n + 1) (.inl (by omega))
      generalize h11.set (n + 1) (.lst ((st.links ++ [(one, a, [(pAt t st.pts.length, nS)])] ++ [(one, b, [(pAt t st.pts.length, rS), (pAt t (st.pts.length + 1), nS)])] ++ [(c, b, [(pAt t (st.pts.length + 1), rS)])]).map dRaw)) = h12 at *
      have d2 : fDisp [((fVar 4), (fC (.str "r"))), ((fVar 10), (fC (.str "n")))] [.va (.ref r), .va (.ref (n + 3)), .va (dEnd one), .va (.ref o), .va (.str (pAt t st.pts.length)), .va (dEnd a), .va (dEnd b), .va (.int ((2 : Nat) : Int)), .va (.lst (more.map dEnd)), .no, .va (.str (pAt t (st.pts.length + 1))), .va (dEnd c)] h10 = .ok (.dk [(.inr (pAt t st.pts.length), .str rS), (.inr (pAt t (st.pts.length + 1)), .str nS)]) h10 := disp2_ok rfl rfl rfl rfl pq
      have d3 : fDisp [((fVar 4), (fC (.str "r"))), ((fVar 10), (fC (.str "r")))] [.va (.ref r), .va (.ref (n + 3)), .va (dEnd one), .va (.ref o), .va (.str (pAt t st.pts.length)), .va (dEnd a), .va (dEnd b), .va (.int ((2 : Nat) : Int)), .va (.lst (more.map dEnd)), .no, .va (.str (pAt t (st.pts.length + 1))), .va (dEnd c)] h11 = .ok (.dk [(.inr (pAt t st.pts.length), .str rS), (.inr (pAt t (st.pts.length + 1)), .str rS)]) h11 := disp2_ok rfl rfl rfl rfl pq
      refine ⟨_, [a, b, c], h12, run _ ?_, ls12, ok12, add_B g of hc h1 (hF a ma) (hF b mb) (hF c mcF) (gF one h1) (gF a (hF a ma)) (gF b (hF b mb)) (gF c (hF c mcF)) (no a ma) (no b mb) (no c mcF) ab (fun e => ca e.symm) cb1, ?_, by simp, ke12⟩
      · rw [spTail, a_seq, a_if, q2]
        simp only [gt, gp, f3, mul3, add_nat, mod10, p_name, f5, ln, e4, gc, a_put, sub_e0, sb2, sl0, gp9, f6, gl10, bl10, d2, al10, gl11, bl11, a_disp1, dk1_ok, d3, al11, a_run1, a_run2, fin_rt, fin_nx, a_seq, seq_nx, seq_rt, a_ret, a_retN, a_set, a_if, a_nx, a_var, get_va, a_c, a_nil, a_cons, a_bin, a_cb, a_call, a_and, a_or, a_bAnd, a_bOr, a_bNot, a_asB, a_tru, a_tup, a_lst, a_asg, a_drop, a_bm, a_ite, and_t, and_f, or_t, or_f, asB_bl, tru_bl, b_ok, s_ok, List.length_cons, List.length_nil, List.map_cons, List.map_nil, List.set_cons_zero, List.set_cons_succ, List.getElem?_cons_zero, List.getElem?_cons_succ, Bool.not_true, Bool.not_false, if_true, if_false, Bool.true_eq_false, Bool.false_eq_true, reduceIte, Nat.reduceAdd, Nat.reduceSub, Nat.reduceLeDiff, Nat.zero_add, eq_self, LIM]
      · intro e he
        simp only [List.mem_cons, List.not_mem_nil, or_false] at he
        rcases he with rfl | rfl | rfl
        · exact hF _ ma
        · exact hF _ mb
        · exact hF _ mcF
    · have w3' : w = 3 := by omega
      subst w3'
      have f6 := fun sl => put_pt (sl := sl) (x := one.1) ls9 hm (by rw [lp]; omega)
      have ls10 := ls9.pt (P := st.pts ++ [(pAt t st.pts.length, one.1)] ++ [(pAt t (st.pts.length + 1), one.1)])
      have ok10 := ok9.ne (c := .dk ((st.pts ++ [(pAt t st.pts.length, one.1)] ++ [(pAt t (st.pts.length + 1), one.1)]).map kW)) (q := n) (by omega)
      have ke10 := ke9.set (c := .dk ((st.pts ++ [(pAt t st.pts.length, one.1)] ++ [(pAt t (st.pts.length + 1), one.1)]).map kW)) (q := n) (.inl (by omega))
      generalize h9.set n (.dk ((st.pts ++ [(pAt t st.pts.length, one.1)] ++ [(pAt t (st.pts.length + 1), one.1)]).map kW)) = h10 at *
      have gl10 := sub_links ls10.s
      have bl10 := bt_list ls10.l
      have al10 : opAppend (.ref (n + 1)) [.tup [dEnd one, dEnd b, .dk [(.inr (pAt t st.pts.length), .str rS), (.inr (pAt t (st.pts.length + 1)), .str nS)]]] h10 = .ok .non (h10.set (n + 1) (.lst ((st.links ++ [(one, a, [(pAt t st.pts.length, nS)])] ++ [(one, b, [(pAt t st.pts.length, rS), (pAt t (st.pts.length + 1), nS)])]).map dRaw))) :=
        app_lk (st := ⟨st.secs, st.pts ++ [(pAt t st.pts.length, one.1)] ++ [(pAt t (st.pts.length + 1), one.1)], st.links ++ [(one, a, [(pAt t st.pts.length, nS)])], st.sigs⟩) (ws := [(pAt t st.pts.length, rS), (pAt t (st.pts.length + 1), nS)]) ls10 (by show (st.links ++ [(one, a, [(pAt t st.pts.length, nS)])]).length < 1000; omega)
      have ls11 := ls10.lnk (L := st.links ++ [(one, a, [(pAt t st.pts.length, nS)])] ++ [(one, b, [(pAt t st.pts.length, rS), (pAt t (st.pts.length + 1), nS)])])
      have ok11 := ok10.ne (c := .lst ((st.links ++ [(one, a, [(pAt t st.pts.length, nS)])] ++ [(one, b, [(pAt t st.pts.length, rS), (pAt t (st.pts.length + 1), nS)])]).map dRaw)) (q := n + 1) (by omega)
      have ke11 := ke10.set (c := .lst ((st.links ++ [(one, a, [(pAt t st.pts.length, nS)])] ++ [(one, b, [(pAt t st.pts.length, rS), (pAt t (st.pts.length + 1), nS)])]).map dRaw)) (q := n + 1) (.inl (by omega))
      generalize h10.set (n + 1) (.lst ((st.links ++ [(one, a, [(pAt t st.pts.length, nS)])] ++ [(one, b, [(pAt t st.pts.length, rS), (pAt t (st.pts.length + 1), nS)])]).map dRaw)) = h11 at *
      have gl11 := sub_links ls11.s
      have bl11 := bt_list ls11.l
      have al11 : opAppend (.ref (n + 1)) [.tup [dEnd one, dEnd c, .dk [(.inr (pAt t st.pts.length), .str rS), (.inr (pAt t (st.pts.length + 1)), .str rS)]]] h11 = .ok .non (h11.set (n + 1) (.lst ((st.links ++ [(one, a, [(pAt t st.pts.length, nS)])] ++ [(one, b, [(pAt t st.pts.length, rS), (pAt t (st.pts.length + 1), nS)])] ++ [(one, c, [(pAt t st.pts.length, rS), (pAt t (st.pts.length + 1), rS)])]).map dRaw))) :=
        app_lk (st := ⟨st.secs, st.pts ++ [(pAt t st.pts.length, one.1)] ++ [(pAt t (st.pts.length + 1), one.1)], st.links ++ [(one, a, [(pAt t st.pts.length, nS)])] ++ [(one, b, [(pAt t st.pts.length, rS), (pAt t (st.pts.length + 1), nS)])], st.sigs⟩) (ws := [(pAt t st.pts.length, rS), (pAt t (st.pts.length + 1), rS)]) ls11 (by
          show (st.links ++ [(one, a, [(pAt t st.pts.length, nS)])] ++ _).length < 1000
          rw [List.length_append]; simp only [List.length_cons, List.length_nil]; omega)
      have ls12 := ls11.lnk (L := st.links ++ [(one, a, [(pAt t st.pts.length, nS)])] ++ [(one, b, [(pAt t st.pts.length, rS), (pAt t (st.pts.length + 1), nS)])] ++ [(one, c, [(pAt t st.pts.length, rS), (pAt t (st.pts.length + 1), rS)])])
      have ok12 := ok11.ne (c := .lst ((st.links ++ [(one, a, [(pAt t st.pts.length, nS)])] ++ [(one, b, [(pAt t st.pts.length, rS), (pAt t (st.pts.length + 1), nS)])] ++ [(one, c, [(pAt t st.pts.length, rS), (pAt t (st.pts.length + 1), rS)])]).map dRaw)) (q := n + 1) (by omega)
      have ke12 := ke11.set (c := .lst ((st.links ++ [(one, a, [(pAt t st.pts.length, nS)])] ++ [(one, b, [(pAt t st.pts.length, rS), (pAt t (st.pts.length + 1), nS)])] ++ [(one, c, [(pAt t st.pts.length, rS), (pAt t (st.pts.length + 1), rS)])]).map dRaw)) (q := n + 1) (.inl (by omega))
      generalize h11.set (n + 1) (.lst ((st.links ++ [(one, a, [(pAt t st.pts.length, nS)])] ++ [(one, b, [(pAt t st.pts.length, rS), (pAt t (st.pts.length + 1), nS)])] ++ [(one, c, [(pAt t st.pts.length, rS), (pAt t (st.pts.length + 1), rS)])]).map dRaw)) = h12 at *
      have d2 : fDisp [((fVar 4), (fC (.str "r"))), ((fVar 10), (fC (.str "n")))] [.va (.ref r), .va (.ref (n + 3)), .va (dEnd one), .va (.ref o), .va (.str (pAt t st.pts.length)), .va (dEnd a), .va (dEnd b), .va (.int ((3 : Nat) : Int)), .va (.lst (more.map dEnd)), .no, .va (.str (pAt t (st.pts.length + 1))), .va (dEnd c)] h10 = .ok (.dk [(.inr (pAt t st.pts.length), .str rS), (.inr (pAt t (st.pts.length + 1)), .str nS)]) h10 := disp2_ok rfl rfl rfl rfl pq
      have d3 : fDisp [((fVar 4), (fC (.str "r"))), ((fVar 10), (fC (.str "r")))] [.va (.ref r), .va (.ref (n + 3)), .va (dEnd one), .va (.ref o), .va (.str (pAt t st.pts.length)), .va (dEnd a), .va (dEnd b), .va (.int ((3 : Nat) : Int)), .va (.lst (more.map dEnd)), .no, .va (.str (pAt t (st.pts.length + 1))), .va (dEnd c)] h11 = .ok (.dk [(.inr (pAt t st.pts.length), .str rS), (.inr (pAt t (st.pts.length + 1)), .str rS)]) h11 := disp2_ok rfl rfl rfl rfl pq
      refine ⟨_, [a, b, c], h12, run _ ?_, ls12, ok12, add_C g of hc h1 (hF a ma) (hF b mb) (hF c mcF) (gF one h1) (gF a (hF a ma)) (gF b (hF b mb)) (gF c (hF c mcF)) (no a ma) (no b mb) (no c mcF), ?_, by simp, ke12⟩
      · rw [spTail, a_seq, a_if, q2]
        simp only [gt, gp, f3, mul3, add_nat, mod10, p_name, f5, ln, e4, gc, a_put, sub_e0, sb3, sl1, gp9, f6, gl10, bl10, d2, al10, gl11, bl11, a_disp1, dk1_ok, d3, al11, a_run1, a_run2, fin_rt, fin_nx, a_seq, seq_nx, seq_rt, a_ret, a_retN, a_set, a_if, a_nx, a_var, get_va, a_c, a_nil, a_cons, a_bin, a_cb, a_call, a_and, a_or, a_bAnd, a_bOr, a_bNot, a_asB, a_tru, a_tup, a_lst, a_asg, a_drop, a_bm, a_ite, and_t, and_f, or_t, or_f, asB_bl, tru_bl, b_ok, s_ok, List.length_cons, List.length_nil, List.map_cons, List.map_nil, List.set_cons_zero, List.set_cons_succ, List.getElem?_cons_zero, List.getElem?_cons_succ, Bool.not_true, Bool.not_false, if_true, if_false, Bool.true_eq_false, Bool.false_eq_true, reduceIte, Nat.reduceAdd, Nat.reduceSub, Nat.reduceLeDiff, Nat.zero_add, eq_self, LIM]
      · intro e he
        simp only [List.mem_cons, List.not_mem_nil, or_false] at he
        rcases he with rfl | rfl | rfl
        · exact hF _ ma
        · exact hF _ mb
        · exact hF _ mcF
end
end Kx
end

section
set_option linter.all false
set_option maxRecDepth 100000
set_option maxHeartbeats 400000
/-! Ev23: a turn of the law's loop over a station. -/
namespace Kx
open PySem PySem.Spec PyProof.Rows L2 GxR Gx Dy
abbrev sb8 : FS := (fSet 8 (fIte (fAsB (fBin opNeH (fVar 6) (fLst aNil))) (fBin opSub_ (fVar 6) (fCall 2 r_law_taken (aCons (fVar 0) (aCons (fCb opLen (aCons (fVar 6) aNil)) aNil)))) (fTup (aCons (fC (.str "")) (aCons (fC (.int 0)) aNil)))))
abbrev sb9 : FS := (fSet 9 (newCell (fLc (iAny (fVar 6)) (gNm 10) (fAsB (fBin opNeH (fBin opSub_ (fVar 10) (fC (.int 0))) (fBin opSub_ (fVar 8) (fC (.int 0))))) (fVar 10) [10])))
abbrev sb11 : FS := (fSet 11 (newCell (fLst (aCons (fVar 8) aNil))))
abbrev sbIf : FS := (fIf (bAnd (fAsB (fBin (opCI .gt) (fCb opLen (aCons (fVar 9) aNil)) (fC (.int 1)))) (bAnd (fAsB (fBin (opCI .lt) (fCb opLen (aCons (fBin opSub_ (fVar 5) (fC (.str "points"))) aNil)) (fC (.int 9)))) (fAsB (fBin opEqH (fCall 2 r_law_taken (aCons (fVar 0) (aCons (fC (.int 2)) aNil))) (fC (.int 1)))))) (fSet 11 (fBin opAddY (fVar 11) (fCall 4 r_law_spread (aCons (fVar 0) (aCons (fVar 5) (aCons (fVar 8) (aCons (fVar 9) aNil))))))) (fIf (fAsB (fBin opNeH (fVar 9) (fLst aNil))) (fSeq (fSet 12 (fBin opSub_ (fVar 9) (fCall 2 r_law_taken (aCons (fVar 0) (aCons (fCb opLen (aCons (fVar 9) aNil)) aNil)))))
  (fSeq (fDrop (fBm .list opAppend (fBin opSub_ (fVar 5) (fC (.str "links"))) (aCons (fTup (aCons (fVar 8) (aCons (fVar 12) (aCons fNewK aNil)))) aNil)))
  (fDrop (fBm .list opAppend (fVar 11) (aCons (fVar 12) aNil))))) fNx))
abbrev sb6 : FS := (fSet 6 (fLc (iAny (fVar 6)) (gNm 10) (fAsB (fBin opNin (fVar 10) (fVar 11))) (fVar 10) [10]))
theorem a_newK {sl : List Sl} {h : Hq} : fNewK sl h = .ok (.dk []) h := id rfl
section
variable {h : Hq} {n r t : Nat} {st : St} {ns : List Int} {S : List Str} {free : List (Str × Nat)} {a1 a2 a3 a4 a7 a8 a9 a10 a11 a12 a13 : Sl}
theorem as_e : As (PySem.Str.ofString "") := by unfold As; decide +kernel
theorem len_ends {l : List (Str × Nat)} : opLen [.lst (l.map dEnd)] h = .ok (.int (l.length : Int)) h := by rw [len_lst, List.length_map]
theorem st8 (ok : RowOk ns h r) (ls : LS h n st (t : Int)) (rn : r < n) (as : ∀ e ∈ free, As e.1) (f16 : free.length ≤ 16) :
    ∃ (one : Str × Nat) (h' : Hq), sb8 [.va (.ref r), a1, a2, a3, a4, .va (.ref (n + 3)), .va (.lst (free.map dEnd)), a7, a8, a9, a10, a11, a12, a13] h = .nx [.va (.ref r), a1, a2, a3, a4, .va (.ref (n + 3)), .va (.lst (free.map dEnd)), a7, .va (dEnd one), a9, a10, a11, a12, a13] h' ∧
      RowOk ns h' r ∧ LS h' n st (t : Int) ∧ As one.1 ∧ (one ∈ free ∨ free = []) := by
  have nn := fun h => ne_nil (h := h) (y := .lst (free.map dEnd)) rfl as
  cases ef : free with
  | nil =>
    refine ⟨(PySem.Str.ofString "", 0), h, ?_, ok, ls, as_e, .inr rfl⟩
    rw [ef] at nn
    have e0 : (!([] : List (Str × Nat)).isEmpty) = false := rfl
    rw [sb8]
    simp only [nn, e0, a_run1, a_run2, fin_rt, fin_nx, a_seq, seq_nx, seq_rt, a_ret, a_retN, a_set, a_if, a_nx, a_var, get_va, a_c, a_nil, a_cons, a_bin, a_cb, a_call, a_and, a_or, a_bAnd, a_bOr, a_bNot, a_asB, a_tru, a_tup, a_lst, a_asg, a_drop, a_bm, a_ite, and_t, and_f, or_t, or_f, asB_bl, tru_bl, b_ok, s_ok, List.length_cons, List.length_nil, List.map_cons, List.map_nil, List.set_cons_zero, List.set_cons_succ, List.getElem?_cons_zero, List.getElem?_cons_succ, Bool.not_true, Bool.not_false, if_true, if_false, Bool.true_eq_false, Bool.false_eq_true, reduceIte, Nat.reduceAdd, Nat.reduceSub, Nat.reduceLeDiff, Nat.zero_add, eq_self, LIM]
    rfl
  | cons x0 xs0 =>
    rw [← ef]
    have pos : 0 < free.length := by rw [ef]; simp
    have e0 : (!free.isEmpty) = true := by rw [ef]; rfl
    obtain ⟨ti, c, e1, ti1, ok2⟩ := taken_nat ok (m := free.length) pos (by omega)
    obtain ⟨one, eo⟩ : ∃ one, free[ti]? = some one := ⟨_, List.getElem?_eq_getElem ti1⟩
    have mo := List.mem_of_getElem? eo
    refine ⟨one, h.set r c, ?_, ok2, ls.row rn, as one mo, .inl mo⟩
    rw [sb8]
    simp only [nn, e0, len_ends, e1, at_end eo, a_run1, a_run2, fin_rt, fin_nx, a_seq, seq_nx, seq_rt, a_ret, a_retN, a_set, a_if, a_nx, a_var, get_va, a_c, a_nil, a_cons, a_bin, a_cb, a_call, a_and, a_or, a_bAnd, a_bOr, a_bNot, a_asB, a_tru, a_tup, a_lst, a_asg, a_drop, a_bm, a_ite, and_t, and_f, or_t, or_f, asB_bl, tru_bl, b_ok, s_ok, List.length_cons, List.length_nil, List.map_cons, List.map_nil, List.set_cons_zero, List.set_cons_succ, List.getElem?_cons_zero, List.getElem?_cons_succ, Bool.not_true, Bool.not_false, if_true, if_false, Bool.true_eq_false, Bool.false_eq_true, reduceIte, Nat.reduceAdd, Nat.reduceSub, Nat.reduceLeDiff, Nat.zero_add, eq_self, LIM]
theorem st9 {one : Str × Nat} (as : ∀ e ∈ free, As e.1) (ao : As one.1) (f16 : free.length ≤ 16) :
    sb9 [.va (.ref r), a1, a2, a3, a4, .va (.ref (n + 3)), .va (.lst (free.map dEnd)), a7, .va (dEnd one), a9, a10, a11, a12, a13] h = .nx [.va (.ref r), a1, a2, a3, a4, .va (.ref (n + 3)), .va (.lst (free.map dEnd)), a7, .va (dEnd one), .va (.ref h.length), a10, a11, a12, a13] (h ++ [.lst ((free.filter fun e => !decide (e.1 = one.1)).map dEnd)]) := by
  have q : fLc (iAny (fVar 6)) (gNm 10) (fAsB (fBin opNeH (fBin opSub_ (fVar 10) (fC (.int 0))) (fBin opSub_ (fVar 8) (fC (.int 0))))) (fVar 10) [10] [.va (.ref r), a1, a2, a3, a4, .va (.ref (n + 3)), .va (.lst (free.map dEnd)), a7, .va (dEnd one), a9, a10, a11, a12, a13] h = .ok (.lst ((free.filter fun e => !decide (e.1 = one.1)).map dEnd)) h := by
    refine ev_lc (emb := dEnd) (xs := free) (fun e => [(10, dEnd e)]) (fun e => !decide (e.1 = one.1)) (ev_any rfl rfl) (by simp [LIM]; omega) (fun _ _ => rfl) (fun e he => ?_) (fun e he _ => rfl)
    show fAsB _ [.va (.ref r), a1, a2, a3, a4, .va (.ref (n + 3)), .va (.lst (free.map dEnd)), a7, .va (dEnd one), a9, .va (dEnd e), a11, a12, a13] h = _
    simp only [sub_e0, op_ne_str (as e he) ao, a_run1, a_run2, fin_rt, fin_nx, a_seq, seq_nx, seq_rt, a_ret, a_retN, a_set, a_if, a_nx, a_var, get_va, a_c, a_nil, a_cons, a_bin, a_cb, a_call, a_and, a_or, a_bAnd, a_bOr, a_bNot, a_asB, a_tru, a_tup, a_lst, a_asg, a_drop, a_bm, a_ite, and_t, and_f, or_t, or_f, asB_bl, tru_bl, b_ok, s_ok, List.length_cons, List.length_nil, List.map_cons, List.map_nil, List.set_cons_zero, List.set_cons_succ, List.getElem?_cons_zero, List.getElem?_cons_succ, Bool.not_true, Bool.not_false, if_true, if_false, Bool.true_eq_false, Bool.false_eq_true, reduceIte, Nat.reduceAdd, Nat.reduceSub, Nat.reduceLeDiff, Nat.zero_add, eq_self, LIM]
  rw [sb9, a_set]
  unfold newCell
  rw [q]
  rfl
theorem st11 {one : Str × Nat} {x : Sl} : sb11 [.va (.ref r), a1, a2, a3, a4, .va (.ref (n + 3)), .va (.lst (free.map dEnd)), a7, .va (dEnd one), a9, a10, a11, a12, a13] h = .nx [.va (.ref r), a1, a2, a3, a4, .va (.ref (n + 3)), .va (.lst (free.map dEnd)), a7, .va (dEnd one), a9, a10, .va (.ref h.length), a12, a13] (h ++ [.lst ([one].map dEnd)]) := by
  rw [sb11, a_set]
  rfl
theorem st6 {used : List (Str × Nat)} {U : D} (as : ∀ e ∈ free, As e.1) (au : ∀ e ∈ used, As e.1) (f16 : free.length ≤ 16) (iu : items h U = some (used.map dEnd)) (nu : ∀ b, U ≠ .str b) :
    sb6 [.va (.ref r), a1, a2, a3, a4, .va (.ref (n + 3)), .va (.lst (free.map dEnd)), a7, a8, a9, a10, .va U, a12, a13] h = .nx [.va (.ref r), a1, a2, a3, a4, .va (.ref (n + 3)), .va (.lst ((free.filter fun e => !decide (e ∈ used)).map dEnd)), a7, a8, a9, a10, .va U, a12, a13] h := by
  have q : fLc (iAny (fVar 6)) (gNm 10) (fAsB (fBin opNin (fVar 10) (fVar 11))) (fVar 10) [10] [.va (.ref r), a1, a2, a3, a4, .va (.ref (n + 3)), .va (.lst (free.map dEnd)), a7, a8, a9, a10, .va U, a12, a13] h = .ok (.lst ((free.filter fun e => !decide (e ∈ used)).map dEnd)) h := by
    refine ev_lc (emb := dEnd) (xs := free) (fun e => [(10, dEnd e)]) (fun e => !decide (e ∈ used)) (ev_any rfl rfl) (by simp [LIM]; omega) (fun _ _ => rfl) (fun e he => ?_) (fun e he _ => rfl)
    have o : opNin (dEnd e) U h = .ok (.bl (!decide (e ∈ used))) h := by
      unfold opNin
      rw [in_ends iu nu au (as e he)]
      rfl
    show fAsB _ [.va (.ref r), a1, a2, a3, a4, .va (.ref (n + 3)), .va (.lst (free.map dEnd)), a7, a8, a9, .va (dEnd e), .va U, a12, a13] h = _
    simp only [o, a_run1, a_run2, fin_rt, fin_nx, a_seq, seq_nx, seq_rt, a_ret, a_retN, a_set, a_if, a_nx, a_var, get_va, a_c, a_nil, a_cons, a_bin, a_cb, a_call, a_and, a_or, a_bAnd, a_bOr, a_bNot, a_asB, a_tru, a_tup, a_lst, a_asg, a_drop, a_bm, a_ite, and_t, and_f, or_t, or_f, asB_bl, tru_bl, b_ok, s_ok, List.length_cons, List.length_nil, List.map_cons, List.map_nil, List.set_cons_zero, List.set_cons_succ, List.getElem?_cons_zero, List.getElem?_cons_succ, Bool.not_true, Bool.not_false, if_true, if_false, Bool.true_eq_false, Bool.false_eq_true, reduceIte, Nat.reduceAdd, Nat.reduceSub, Nat.reduceLeDiff, Nat.zero_add, eq_self, LIM]
  rw [sb6, a_set, q]
  rfl
theorem gt_1 {w : Nat} : opCI .gt (.int (w : Int)) (.int 1) h = .ok (.bl (decide (1 < w))) h := by
  show R.ok (D.bl (decide ((1 : Int) < w))) h = _
  by_cases e : 1 < w
  · rw [decide_eq_true e, decide_eq_true (by omega)]
  · rw [decide_eq_false e, decide_eq_false (by omega)]
theorem lt_n {w m : Nat} : opCI .lt (.int (w : Int)) (.int (m : Int)) h = .ok (.bl (decide (w < m))) h := by
  show R.ok (D.bl (decide ((w : Int) < m))) h = _
  by_cases e : w < m
  · rw [decide_eq_true e, decide_eq_true (by omega)]
  · rw [decide_eq_false e, decide_eq_false (by omega)]
theorem lt_9 {w : Nat} : opCI .lt (.int (w : Int)) (.int 9) h = .ok (.bl (decide (w < 9))) h := lt_n (m := 9)
theorem lt_16 {w : Nat} : opCI .lt (.int (w : Int)) (.int 16) h = .ok (.bl (decide (w < 16))) h := lt_n (m := 16)
/-- what a turn adds -/
structure Add2 (S : List Str) (t : Nat) (st st' : St) (used : List (Str × Nat)) : Prop where
  g : Gr S t st'
  n : ∃ new, st'.links = st.links ++ new ∧ new.length ≤ 3 ∧ ∀ l ∈ new, l.1 ∈ used ∧ l.2.1 ∈ used
  sg : st'.sigs = st.sigs
theorem stIf {one : Str × Nat} {o u : Nat} {others : List (Str × Nat)} (ok : RowOk ns h r) (ls : LS h n st (t : Int)) (rn : r < n) (g : Gr S t st) (of : Off st free) (eo : h[o]? = some (.lst (others.map dEnd))) (eu : h[u]? = some (.lst ([one].map dEnd))) (ho : n + 3 < o) (hu : n + 3 < u) (ou : o ≠ u)
    (h16 : others.length ≤ 16) (nd : others.Nodup) (h1 : one ∈ free ∨ free = []) (hF : ∀ e ∈ others, e ∈ free) (gF : ∀ e ∈ free, GEnd st e) (as : ∀ e ∈ free, As e.1) (ao : As one.1) (no : ∀ e ∈ others, e.1 ≠ one.1) (lc : st.links.length < 450) :
    ∃ (st' : St) (used : List (Str × Nat)) (U : D) (b12 : Sl) (h' : Hq), sbIf [.va (.ref r), a1, a2, a3, a4, .va (.ref (n + 3)), .va (.lst (free.map dEnd)), a7, .va (dEnd one), .va (.ref o), a10, .va (.ref u), a12, a13] h = .nx [.va (.ref r), a1, a2, a3, a4, .va (.ref (n + 3)), .va (.lst (free.map dEnd)), a7, .va (dEnd one), .va (.ref o), a10, .va U, b12, a13] h' ∧
      RowOk ns h' r ∧ LS h' n st' (t : Int) ∧ Add2 S t st st' used ∧ (∀ e ∈ used, As e.1) ∧ items h' U = some (used.map dEnd) ∧ (∀ b, U ≠ .str b) := by
  have cond : ∃ (bb : Bool) (h4 : Hq), bAnd (fAsB (fBin (opCI .gt) (fCb opLen (aCons (fVar 9) aNil)) (fC (.int 1)))) (bAnd (fAsB (fBin (opCI .lt) (fCb opLen (aCons (fBin opSub_ (fVar 5) (fC (.str "points"))) aNil)) (fC (.int 9)))) (fAsB (fBin opEqH (fCall 2 r_law_taken (aCons (fVar 0) (aCons (fC (.int 2)) aNil))) (fC (.int 1))))) [.va (.ref r), a1, a2, a3, a4, .va (.ref (n + 3)), .va (.lst (free.map dEnd)), a7, .va (dEnd one), .va (.ref o), a10, .va (.ref u), a12, a13] h = .ok bb h4 ∧
      RowOk ns h4 r ∧ LS h4 n st (t : Int) ∧ h4[o]? = some (.lst (others.map dEnd)) ∧ h4[u]? = some (.lst ([one].map dEnd)) ∧ (bb = true → 2 ≤ others.length ∧ st.pts.length < 9) := by
    have lo : opLen [.ref o] h = .ok (.int (others.length : Int)) h := by rw [ls_len eo, List.length_map]
    have lp : opLen [.ref n] h = .ok (.int (st.pts.length : Int)) h := by rw [dk_len ls.p, List.length_map]
    have gp := sub_points ls.s
    by_cases c1 : 1 < others.length
    · by_cases c2 : st.pts.length < 9
      · obtain ⟨ti, c, e1, ti1, ok2⟩ := taken_nat ok (m := 2) (by omega) (by omega)
        have e1' : r_law_taken [.ref r, .int 2] h = .ok (.int (ti : Int)) (h.set r c) := e1
        refine ⟨decide ((ti : Int) = 1), h.set r c, ?_, ok2, ls.row rn, by rw [set_ne (by omega)]; exact eo, by rw [set_ne (by omega)]; exact eu, fun _ => ⟨c1, c2⟩⟩
        simp only [lo, gt_1, decide_eq_true c1, gp, lp, lt_9, decide_eq_true c2, e1', op_eq_int, a_run1, a_run2, fin_rt, fin_nx, a_seq, seq_nx, seq_rt, a_ret, a_retN, a_set, a_if, a_nx, a_var, get_va, a_c, a_nil, a_cons, a_bin, a_cb, a_call, a_and, a_or, a_bAnd, a_bOr, a_bNot, a_asB, a_tru, a_tup, a_lst, a_asg, a_drop, a_bm, a_ite, and_t, and_f, or_t, or_f, asB_bl, tru_bl, b_ok, s_ok, List.length_cons, List.length_nil, List.map_cons, List.map_nil, List.set_cons_zero, List.set_cons_succ, List.getElem?_cons_zero, List.getElem?_cons_succ, Bool.not_true, Bool.not_false, if_true, if_false, Bool.true_eq_false, Bool.false_eq_true, reduceIte, Nat.reduceAdd, Nat.reduceSub, Nat.reduceLeDiff, Nat.zero_add, eq_self, LIM]
      · refine ⟨false, h, ?_, ok, ls, eo, eu, fun z => absurd z (by decide)⟩
        simp only [lo, gt_1, decide_eq_true c1, gp, lp, lt_9, decide_eq_false c2, a_run1, a_run2, fin_rt, fin_nx, a_seq, seq_nx, seq_rt, a_ret, a_retN, a_set, a_if, a_nx, a_var, get_va, a_c, a_nil, a_cons, a_bin, a_cb, a_call, a_and, a_or, a_bAnd, a_bOr, a_bNot, a_asB, a_tru, a_tup, a_lst, a_asg, a_drop, a_bm, a_ite, and_t, and_f, or_t, or_f, asB_bl, tru_bl, b_ok, s_ok, List.length_cons, List.length_nil, List.map_cons, List.map_nil, List.set_cons_zero, List.set_cons_succ, List.getElem?_cons_zero, List.getElem?_cons_succ, Bool.not_true, Bool.not_false, if_true, if_false, Bool.true_eq_false, Bool.false_eq_true, reduceIte, Nat.reduceAdd, Nat.reduceSub, Nat.reduceLeDiff, Nat.zero_add, eq_self, LIM]
    · refine ⟨false, h, ?_, ok, ls, eo, eu, fun z => absurd z (by decide)⟩
      simp only [lo, gt_1, decide_eq_false c1, a_run1, a_run2, fin_rt, fin_nx, a_seq, seq_nx, seq_rt, a_ret, a_retN, a_set, a_if, a_nx, a_var, get_va, a_c, a_nil, a_cons, a_bin, a_cb, a_call, a_and, a_or, a_bAnd, a_bOr, a_bNot, a_asB, a_tru, a_tup, a_lst, a_asg, a_drop, a_bm, a_ite, and_t, and_f, or_t, or_f, asB_bl, tru_bl, b_ok, s_ok, List.length_cons, List.length_nil, List.map_cons, List.map_nil, List.set_cons_zero, List.set_cons_succ, List.getElem?_cons_zero, List.getElem?_cons_succ, Bool.not_true, Bool.not_false, if_true, if_false, Bool.true_eq_false, Bool.false_eq_true, reduceIte, Nat.reduceAdd, Nat.reduceSub, Nat.reduceLeDiff, Nat.zero_add, eq_self, LIM]
  obtain ⟨bb, h4, eb, ok4, ls4, eo4, eu4, hb⟩ := cond
  cases bb with
  | true =>
    obtain ⟨c1, c2⟩ := hb rfl
    have mo : one ∈ free := by
      rcases h1 with h1 | h1
      · exact h1
      · cases ot : others with
        | nil => rw [ot] at c1; simp at c1
        | cons x xs =>
          have := hF x (by rw [ot]; simp)
          rw [h1] at this
          simp at this
    obtain ⟨st', us, h', e1, ls5, ok5, ad, usF, us3, ke⟩ := e_spread ok4 ls4 rn g of c2 eo4 ho c1 h16 nd mo hF gF as no lc
    have eu5 : h'[u]? = some (.lst ([one].map dEnd)) := by rw [ke.ge u hu (fun e => ou e.symm)]; exact eu4
    have ad5 : opAddY (.ref u) (.lst (us.map dEnd)) h' = .ok (.lst ((one :: us).map dEnd)) h' := by
      rw [add_ref eu5 (by simp [LIM]; omega)]
      rfl
    refine ⟨st', one :: us, .lst ((one :: us).map dEnd), a12, h', ?_, ok5, ls5, ⟨ad.g, ad.n, ad.sg⟩, ?_, rfl, by simp⟩
    · rw [sbIf, a_if, eb]
      rw [s_ok]
      have er : ∀ sl : List Sl, sl[0]? = some (.va (.ref r)) → sl[5]? = some (.va (.ref (n + 3))) → sl[8]? = some (.va (dEnd one)) → sl[9]? = some (.va (.ref o)) → sl[11]? = some (.va (.ref u)) → fBin opAddY (fVar 11) (fCall 4 r_law_spread (aCons (fVar 0) (aCons (fVar 5) (aCons (fVar 8) (aCons (fVar 9) aNil))))) sl h4 = .ok (.lst ((one :: us).map dEnd)) h' := fun sl z0 z5 z8 z9 z11 =>
        (ev_bin (x := .ref u) (ev_var z11) ((ev_call (xs := [.ref r, .ref (n + 3), dEnd one, .ref o]) (h1 := h4) (ev_cons (ev_var z0) (ev_cons (ev_var z5) (ev_cons (ev_var z8) (ev_cons (ev_var z9) ev_nil)))) rfl).trans e1)).trans ad5
      rw [if_pos rfl, a_set, er _ rfl rfl rfl rfl rfl]
      rfl
    · intro e he
      rcases List.mem_cons.mp he with rfl | he
      · exact ao
      · exact as e (usF e he)
  | false =>
    have nn := ne_nil (h := h4) (y := .ref o) (litems_ref eo4) (fun e he => as e (hF e he))
    cases ot : others with
    | nil =>
      rw [ot] at nn
      refine ⟨st, [one], .ref u, a12, h4, ?_, ok4, ls4, ⟨g, ⟨[], by simp, by simp, by simp⟩, rfl⟩, by simpa using ao, items_ref eu4, by simp⟩
      rw [sbIf, a_if, eb]
      have e0 : (!([] : List (Str × Nat)).isEmpty) = false := rfl
      simp only [nn, e0, a_run1, a_run2, fin_rt, fin_nx, a_seq, seq_nx, seq_rt, a_ret, a_retN, a_set, a_if, a_nx, a_var, get_va, a_c, a_nil, a_cons, a_bin, a_cb, a_call, a_and, a_or, a_bAnd, a_bOr, a_bNot, a_asB, a_tru, a_tup, a_lst, a_asg, a_drop, a_bm, a_ite, and_t, and_f, or_t, or_f, asB_bl, tru_bl, b_ok, s_ok, List.length_cons, List.length_nil, List.map_cons, List.map_nil, List.set_cons_zero, List.set_cons_succ, List.getElem?_cons_zero, List.getElem?_cons_succ, Bool.not_true, Bool.not_false, if_true, if_false, Bool.true_eq_false, Bool.false_eq_true, reduceIte, Nat.reduceAdd, Nat.reduceSub, Nat.reduceLeDiff, Nat.zero_add, eq_self, LIM]
    | cons x0 xs0 =>
      have pos : 0 < others.length := by rw [ot]; simp
      have e0 : (!others.isEmpty) = true := by rw [ot]; rfl
      have mo : one ∈ free := by
        rcases h1 with h1 | h1
        · exact h1
        · have := hF x0 (by rw [ot]; simp)
          rw [h1] at this
          simp at this
      have lo : opLen [.ref o] h4 = .ok (.int (others.length : Int)) h4 := by rw [ls_len eo4, List.length_map]
      obtain ⟨ti, c, e1, ti1, ok5⟩ := taken_nat ok4 (m := others.length) pos (by omega)
      obtain ⟨b, eb'⟩ : ∃ b, others[ti]? = some b := ⟨_, List.getElem?_eq_getElem ti1⟩
      have mb := List.mem_of_getElem? eb'
      have ls5 := ls4.row (c := c) rn
      have eo5 : (h4.set r c)[o]? = some (.lst (others.map dEnd)) := by rw [set_ne (by omega)]; exact eo4
      have eu5 : (h4.set r c)[u]? = some (.lst ([one].map dEnd)) := by rw [set_ne (by omega)]; exact eu4
      generalize h4.set r c = h5 at *
      have sb : opSub_ (.ref o) (.int (ti : Int)) h5 = .ok (dEnd b) h5 := sub_cell eo5 (by
        unfold atI ixN
        rw [if_pos (by omega), if_pos (by rw [List.length_map]; omega)]
        show (List.map dEnd others)[(ti : Int).toNat]? = _
        rw [Int.toNat_natCast, List.getElem?_map, eb']
        rfl)
      have gl := sub_links ls5.s
      have bl := bt_list ls5.l
      have al : opAppend (.ref (n + 1)) [.tup [dEnd one, dEnd b, .dk []]] h5 = .ok .non (h5.set (n + 1) (.lst ((st.links ++ [(one, b, [])]).map dRaw))) := app_lk (ws := []) ls5 (by omega)
      have ls6 := ls5.lnk (L := st.links ++ [(one, b, [])])
      have ok6 := ok5.ne (c := .lst ((st.links ++ [(one, b, [])]).map dRaw)) (q := n + 1) (by omega)
      have eu6 : (h5.set (n + 1) (.lst ((st.links ++ [(one, b, [])]).map dRaw)))[u]? = some (.lst ([one].map dEnd)) := by rw [set_ne (by omega)]; exact eu5
      generalize h5.set (n + 1) (.lst ((st.links ++ [(one, b, [])]).map dRaw)) = h6 at *
      have bu := bt_list eu6
      have au : opAppend (.ref u) [dEnd b] h6 = .ok .non (h6.set u (.lst ([one, b].map dEnd))) := app_ok eu6 (by simp [LIM])
      have ls7 := ls6.above (c := .lst ([one, b].map dEnd)) hu
      have ok7 := ok6.ne (c := .lst ([one, b].map dEnd)) (q := u) (by omega)
      have eu7 : (h6.set u (.lst ([one, b].map dEnd)))[u]? = some (.lst ([one, b].map dEnd)) := set_at eu6
      generalize h6.set u (.lst ([one, b].map dEnd)) = h7 at *
      have ap := add_plain g of mo (hF b mb) (gF one mo) (gF b (hF b mb)) (no b mb)
      refine ⟨_, [one, b], .ref u, .va (dEnd b), h7, ?_, ok7, ls7, ⟨ap.g, ap.n, ap.sg⟩, ?_, items_ref eu7, by simp⟩
      · rw [sbIf, a_if, eb]
        simp only [nn, e0, lo, e1, sb, gl, bl, a_newK, al, bu, au, a_run1, a_run2, fin_rt, fin_nx, a_seq, seq_nx, seq_rt, a_ret, a_retN, a_set, a_if, a_nx, a_var, get_va, a_c, a_nil, a_cons, a_bin, a_cb, a_call, a_and, a_or, a_bAnd, a_bOr, a_bNot, a_asB, a_tru, a_tup, a_lst, a_asg, a_drop, a_bm, a_ite, and_t, and_f, or_t, or_f, asB_bl, tru_bl, b_ok, s_ok, List.length_cons, List.length_nil, List.map_cons, List.map_nil, List.set_cons_zero, List.set_cons_succ, List.getElem?_cons_zero, List.getElem?_cons_succ, Bool.not_true, Bool.not_false, if_true, if_false, Bool.true_eq_false, Bool.false_eq_true, reduceIte, Nat.reduceAdd, Nat.reduceSub, Nat.reduceLeDiff, Nat.zero_add, eq_self, LIM]
      · intro e he
        simp only [List.mem_cons, List.not_mem_nil, or_false] at he
        rcases he with rfl | rfl
        · exact ao
        · exact as _ (hF _ mb)
/-- what is kept from turn to turn -/
structure Lp (ns : List Int) (r n t : Nat) (S : List Str) (W N : D) (j : Nat) (sl : List Sl) (h : Hq) : Prop where
  x : ∃ (st : St) (free : List (Str × Nat)) (a4 a7 a8 a9 a10 a11 a12 a13 : Sl), sl = [.va (.ref r), .va W, .va (.int (t : Int)), .va N, a4, .va (.ref (n + 3)), .va (.lst (free.map dEnd)), a7, a8, a9, a10, a11, a12, a13] ∧
    RowOk ns h r ∧ LS h n st (t : Int) ∧ Gr S t st ∧ Off st free ∧ free.Nodup ∧ (∀ e ∈ free, e.1 ∈ S ∧ e.2 < 2) ∧ free.length ≤ 16 ∧ st.links.length ≤ 3 * j ∧ st.sigs = []
theorem lp_step {W N : D} {j k : Nat} {sl : List Sl} (rn : r < n) (aS : ∀ s ∈ S, As s) (hj : j < 20) (lp : Lp ns r n t S W N j sl h) : ∃ sl' h', (fSeq sb8 (fSeq sb9 (fSeq sb11 (fSeq sbIf sb6)))) (sets sl [(4, .int (k : Int))]) h = .nx sl' h' ∧ Lp ns r n t S W N (j + 1) sl' h' := by
  obtain ⟨st, free, a4, a7, a8, a9, a10, a11, a12, a13, rfl, ok, ls, g, of, nd, gF, f16, lk, sg⟩ := lp.x
  have as : ∀ e ∈ free, As e.1 := fun e he => aS _ (gF e he).1
  have gF' : ∀ e ∈ free, GEnd st e := fun e he => ⟨by rw [g.secs]; exact (gF e he).1, (gF e he).2⟩
  obtain ⟨one, h1, e1, ok1, ls1, ao, mo⟩ := st8 (a1 := .va W) (a2 := .va (.int (t : Int))) (a3 := .va N) (a4 := .va (.int (k : Int))) (a7 := a7) (a8 := a8) (a9 := a9) (a10 := a10) (a11 := a11) (a12 := a12) (a13 := a13) ok ls rn as f16
  have e2 := st9 (r := r) (n := n) (h := h1) (a1 := .va W) (a2 := .va (.int (t : Int))) (a3 := .va N) (a4 := .va (.int (k : Int))) (a7 := a7) (a9 := a9) (a10 := a10) (a11 := a11) (a12 := a12) (a13 := a13) as ao f16
  have lt1 := ls1.lt
  have ok2 := ok1.app (c := .lst ((free.filter fun e => !decide (e.1 = one.1)).map dEnd))
  have ls2 := ls1.app (c := .lst ((free.filter fun e => !decide (e.1 = one.1)).map dEnd))
  have eo2 : (h1 ++ [C.lst ((free.filter fun e => !decide (e.1 = one.1)).map dEnd)])[h1.length]? = some (.lst ((free.filter fun e => !decide (e.1 = one.1)).map dEnd)) := last_get
  have len2 : (h1 ++ [C.lst ((free.filter fun e => !decide (e.1 = one.1)).map dEnd)]).length = h1.length + 1 := by simp
  generalize h1 ++ [C.lst ((free.filter fun e => !decide (e.1 = one.1)).map dEnd)] = h2 at *
  have e3 := st11 (free := free) (r := r) (n := n) (h := h2) (a1 := .va W) (a2 := .va (.int (t : Int))) (a3 := .va N) (a4 := .va (.int (k : Int))) (a7 := a7) (one := one) (a9 := .va (.ref h1.length)) (a10 := a10) (a11 := a11) (a12 := a12) (a13 := a13) (x := .no)
  have ok3 := ok2.app (c := .lst ([one].map dEnd))
  have ls3 := ls2.app (c := .lst ([one].map dEnd))
  have eo3 := app_get (x := C.lst ([one].map dEnd)) eo2
  have eu3 : (h2 ++ [C.lst ([one].map dEnd)])[h2.length]? = some (.lst ([one].map dEnd)) := last_get
  generalize h2 ++ [C.lst ([one].map dEnd)] = h3 at *
  obtain ⟨st', used, U, b12, h4, e4, ok4, ls4, ad, au, iu, nu⟩ := stIf (free := free) (a1 := .va W) (a2 := .va (.int (t : Int))) (a3 := .va N) (a4 := .va (.int (k : Int))) (a7 := a7) (a10 := a10) (a12 := a12) (a13 := a13) ok3 ls3 rn g of eo3 eu3 (by omega) (by omega) (by omega)
    (Nat.le_trans (List.length_filter_le ..) f16) (nd.sublist List.filter_sublist) mo (fun e he => (List.mem_filter.mp he).1) gF' as ao (fun e he => by simpa using (List.mem_filter.mp he).2) (by omega)
  have e5 := st6 (r := r) (n := n) (a1 := .va W) (a2 := .va (.int (t : Int))) (a3 := .va N) (a4 := .va (.int (k : Int))) (a7 := a7) (a8 := .va (dEnd one)) (a9 := .va (.ref h1.length)) (a10 := a10) (a12 := b12) (a13 := a13) as au f16 iu nu
  refine ⟨[.va (.ref r), .va W, .va (.int (t : Int)), .va N, .va (.int (k : Int)), .va (.ref (n + 3)), .va (.lst ((free.filter fun e => !decide (e ∈ used)).map dEnd)), a7, .va (dEnd one), .va (.ref h1.length), a10, .va U, b12, a13], h4, ?_, ⟨st', free.filter fun e => !decide (e ∈ used), .va (.int (k : Int)), a7, .va (dEnd one), .va (.ref h1.length), a10, .va U, b12, a13, rfl, ok4, ls4, ad.g, ?_, nd.sublist List.filter_sublist, fun e he => gF e (List.mem_filter.mp he).1, Nat.le_trans (List.length_filter_le ..) f16, ?_, by rw [ad.sg, sg]⟩⟩
  · show fSeq sb8 _ [.va (.ref r), .va W, .va (.int (t : Int)), .va N, .va (.int (k : Int)), .va (.ref (n + 3)), .va (.lst (free.map dEnd)), a7, a8, a9, a10, a11, a12, a13] h = _
    rw [a_seq, e1, seq_nx, a_seq, e2, seq_nx, a_seq, e3, seq_nx, a_seq, e4, seq_nx, e5]
  · obtain ⟨new, en, _, hn⟩ := ad.n
    intro l hl
    rw [en] at hl
    rcases List.mem_append.mp hl with hl | hl
    · exact ⟨fun z => (of l hl).1 (List.mem_filter.mp z).1, fun z => (of l hl).2 (List.mem_filter.mp z).1⟩
    · obtain ⟨u1, u2⟩ := hn l hl
      refine ⟨fun z => ?_, fun z => ?_⟩
      · have := (List.mem_filter.mp z).2
        rw [decide_eq_true u1] at this
        exact absurd this (by decide)
      · have := (List.mem_filter.mp z).2
        rw [decide_eq_true u2] at this
        exact absurd this (by decide)
  · obtain ⟨new, en, n3, _⟩ := ad.n
    rw [en, List.length_append]
    omega
end
end Kx
end

section
set_option linter.all false
set_option maxRecDepth 100000
set_option maxHeartbeats 400000
/-! Ev24: signals set; a station that fits. -/
namespace Kx
open PySem PySem.Spec PyProof.Rows L2 GxR Gx Dy
theorem Add2.mk' {S : List Str} {t : Nat} {st st' : St} {used : List (Str × Nat)} (h : Add2 S t st st' used) : Gr S t st' := h.g
theorem Gr.sig {S : List Str} {t : Nat} {st : St} (g : Gr S t st) {G : List (Str × (Str × Nat))} : Gr S t { st with sigs := G } := ⟨g.secs, g.pn, g.pc, g.ps, fun l hl => (g.l l hl).more fun _ h => h, g.al⟩
theorem nodup_range {f : Nat → Str} {m : Nat} (inj : ∀ i, i < m → ∀ j, j < m → f i = f j → i = j) : ((List.range m).map f).Nodup := by
  refine List.pairwise_map.mpr (List.Pairwise.imp_of_mem (fun {a b} ha hb hne e => ?_) (List.nodup_range (n := m)))
  exact hne (inj a (List.mem_range.mp ha) b (List.mem_range.mp hb) e)
theorem fits_of {S : List Str} {t : Nat} {st : St} (g : Gr S t st) (sNm : ∀ s ∈ S, Nm s) (sNd : S.Nodup) (sHd : ∀ s ∈ S, ∃ c, hd s = some c ∧ c ≠ 112 ∧ c ≠ 122) (ne : S ≠ []) (l30 : S.length ≤ 30) (lk : st.links.length ≤ 60) (zn : ∀ s ∈ st.sigs, ∃ i, i < 16 ∧ s.1 = zName i)
    (znd : (st.sigs.map (·.1)).Nodup) (z16 : st.sigs.length ≤ 16) (ze : ∀ s ∈ st.sigs, GEnd st s.2) (zend : (st.sigs.map (·.2)).Nodup) : Fits st.srt ∧ ∀ l ∈ st.links, RLnk st l := by
  refine ⟨⟨⟨?_, ?_, ?_, ?_, ?_, ?_⟩, ?_, ?_, ?_, ?_, ?_, ?_⟩, g.l⟩
  · intro n hn
    have hn' : n ∈ st.secs ++ (st.pts.map (·.1) ++ st.sigs.map (·.1)) := hn
    rcases List.mem_append.mp hn' with h | h
    · rw [g.secs] at h; exact sNm n h
    · rcases List.mem_append.mp h with h | h
      · rw [g.pn] at h
        obtain ⟨i, hi, rfl⟩ := List.mem_map.mp h
        exact p_nm (by omega)
      · obtain ⟨s, hs, rfl⟩ := List.mem_map.mp h
        obtain ⟨i, hi, e⟩ := zn s hs
        rw [e]
        exact z_nm hi
  · show st.secs.length ≤ 30
    rw [g.secs]; exact l30
  · show st.pts.length ≤ 12
    have := g.pc; omega
  · show (st.links.map Kx.srt).length ≤ 60
    rw [List.length_map]; exact lk
  · exact z16
  · show (st.secs ++ (st.pts.map (·.1) ++ st.sigs.map (·.1))).Nodup
    have hp : ∀ a ∈ st.pts.map (·.1), hd a = some 112 := fun a ha => by
      rw [g.pn] at ha
      obtain ⟨i, hi, rfl⟩ := List.mem_map.mp ha
      exact p_hd
    have hz : ∀ a ∈ st.sigs.map (·.1), hd a = some 122 := fun a ha => by
      obtain ⟨s, hs, rfl⟩ := List.mem_map.mp ha
      obtain ⟨i, hi, e⟩ := zn s hs
      rw [e]
      exact z_hd
    refine List.nodup_append.mpr ⟨by rw [g.secs]; exact sNd, List.nodup_append.mpr ⟨?_, znd, ?_⟩, ?_⟩
    · rw [g.pn]
      refine nodup_range fun i hi j hj e => ?_
      have := p_inj (i := (t + 3 * i) % 10) (j := (t + 3 * j) % 10) (by omega) (by omega) e
      have := g.pc
      omega
    · intro a ha b hb e
      have h1 := hp a ha
      rw [e, hz b hb] at h1
      exact absurd h1 (by decide)
    · intro a ha b hb e
      rw [g.secs] at ha
      obtain ⟨c, hc, c1, c2⟩ := sHd a ha
      rcases List.mem_append.mp hb with hb | hb
      · rw [e, hp b hb] at hc
        exact c1 (Option.some.inj hc).symm
      · rw [e, hz b hb] at hc
        exact c2 (Option.some.inj hc).symm
  · show st.secs ≠ []
    rw [g.secs]; exact ne
  · intro p hp
    show p.2 ∈ st.secs
    rw [g.secs]
    exact g.ps p hp
  · intro l hl
    obtain ⟨l', hl', rfl⟩ := List.mem_map.mp hl
    have z := (g.l l' hl').good
    exact ⟨z.a, z.b, z.ne, z.n, z.nd, z.so, z.w⟩
  · show (st.links.map Kx.srt).Pairwise _
    refine List.pairwise_map.mpr (List.Pairwise.imp_of_mem (fun {a b} ha hb h => ?_) g.al)
    intro hs
    exact told_srt (g.l b hb).nd (g.l a ha).nd (h hs)
  · exact ze
  · exact zend
/-- the signals so far -/
structure SgI (S : List Str) (t : Nat) (G : List (Str × (Str × Nat))) : Prop where
  n : G.map (·.1) = (List.range G.length).map (zAt t)
  c : G.length ≤ 16
  e : ∀ s ∈ G, s.2.1 ∈ S ∧ s.2.2 < 2
  nd : (G.map (·.2)).Nodup
theorem SgI.add {S : List Str} {t : Nat} {G : List (Str × (Str × Nat))} (g : SgI S t G) (hc : G.length < 16) {x : Str × Nat} (hx : x.1 ∈ S ∧ x.2 < 2) (hn : x ∉ G.map (·.2)) : SgI S t (G ++ [(zAt t G.length, x)]) where
  n := by
    rw [List.map_append, g.n, List.length_append]
    show _ = (List.range (G.length + 1)).map (zAt t)
    rw [List.range_succ, List.map_append]
    rfl
  c := by rw [List.length_append]; simp; omega
  e := fun s hs => by
    rcases List.mem_append.mp hs with hs | hs
    · exact g.e s hs
    · rw [List.mem_singleton.mp hs]; exact hx
  nd := by
    rw [List.map_append]
    refine List.nodup_append.mpr ⟨g.nd, by simp, fun a ha b hb e => ?_⟩
    rw [List.mem_singleton.mp hb] at e
    have e' : a = x := e
    rw [e'] at ha
    exact hn ha
theorem z_new {S : List Str} {t : Nat} {G : List (Str × (Str × Nat))} (g : SgI S t G) (hc : G.length < 16) : (.inr (zAt t G.length) : Key) ∉ (G.map kSig).map (·.1) := by
  intro hm
  rw [List.map_map] at hm
  obtain ⟨p, hp, e⟩ := List.mem_map.mp hm
  have e : p.1 = zAt t G.length := Sum.inr.inj e
  have : p.1 ∈ G.map (·.1) := List.mem_map.mpr ⟨p, hp, rfl⟩
  rw [g.n] at this
  obtain ⟨i, hi, e2⟩ := List.mem_map.mp this
  have hi := List.mem_range.mp hi
  have := z_inj (i := (t + 3 * i) % 16) (j := (t + 3 * G.length) % 16) (by omega) (by omega) (e2.trans e)
  omega
abbrev sgIf : FS := (fIf (bAnd (fAsB (fBin (opCI .gt) (fCall 2 r_law_taken (aCons (fVar 0) (aCons (fC (.int 3)) aNil))) (fC (.int 0)))) (fAsB (fBin (opCI .lt) (fCb opLen (aCons (fBin opSub_ (fVar 5) (fC (.str "signals"))) aNil)) (fC (.int 16))))) (fPut (fBin opSub_ (fVar 5) (fC (.str "signals"))) (fBin opAddY (fC (.str "z")) (fCb opStr (aCons (fBin opMod (fBin opAddY (fVar 2) (fBin opMulX (fC (.int 3)) (fCb opLen (aCons (fBin opSub_ (fVar 5) (fC (.str "signals"))) aNil)))) (fC (.int 16))) aNil))) (fTup (aCons (fVar 7) (aCons (fVar 13) aNil)))) fNx)
section
variable {h : Hq} {n r t : Nat} {st : St} {ns : List Int} {S : List Str} {G : List (Str × (Str × Nat))} {a1 a3 a4 a6 a8 a9 a10 a11 a12 a13 : Sl}
theorem gt_0 {w : Nat} : opCI .gt (.int (w : Int)) (.int 0) h = .ok (.bl (decide (0 < w))) h := by
  show R.ok (D.bl (decide ((0 : Int) < w))) h = _
  by_cases e : 0 < w
  · rw [decide_eq_true e, decide_eq_true (by omega)]
  · rw [decide_eq_false e, decide_eq_false (by omega)]
theorem z_name {a : Nat} : opStr [.int ((a % 16 : Nat) : Int)] h = .ok (.str (sideT (a % 16))) h := str_nat (by omega)
theorem z_add {i : Nat} (hi : i < 16) : opAddY (.str "z") (.str (sideT i)) h = .ok (.str (zName i)) h := by
  have := sd_len i hi
  have p1 : (PySem.Str.ofString "z").length = 1 := by decide +kernel
  exact add_str (by rw [slen]; simp [LIM]; omega)
theorem put_sg {turn : Int} {P : Str} {x : Str × Nat} {sl : List Sl} (ls : LS h n st turn) (hn : (.inr P : Key) ∉ (st.sigs.map kSig).map (·.1)) (hl : st.sigs.length < 1000) : putS (.ref (n + 2)) (.str P) (dEnd x) sl h = .nx sl (h.set (n + 2) (.dk ((st.sigs ++ [(P, x)]).map kSig))) := by
  rw [putS_ok ls.g hn (by rw [List.length_map]; simp [LIM]; omega), List.map_append]
  rfl
theorem sg_step {name : Str} {side : Nat} (ok : RowOk ns h r) (ls : LS h n { st with sigs := G } (t : Int)) (rn : r < n) (g : SgI S t G) (hs : name ∈ S) (h2 : side < 2) (hn : (name, side) ∉ G.map (·.2)) :
    ∃ (G' : List (Str × (Str × Nat))) (h' : Hq), sgIf [.va (.ref r), a1, .va (.int (t : Int)), a3, a4, .va (.ref (n + 3)), a6, .va (.str name), a8, a9, a10, a11, a12, .va (.int (side : Int))] h = .nx [.va (.ref r), a1, .va (.int (t : Int)), a3, a4, .va (.ref (n + 3)), a6, .va (.str name), a8, a9, a10, a11, a12, .va (.int (side : Int))] h' ∧
      RowOk ns h' r ∧ LS h' n { st with sigs := G' } (t : Int) ∧ SgI S t G' ∧ ∀ e ∈ G'.map (·.2), e ∈ G.map (·.2) ∨ e = (name, side) := by
  obtain ⟨ti, c, e1, ti1, ok2⟩ := taken_nat ok (m := 3) (by omega) (by omega)
  have e1' : r_law_taken [.ref r, .int 3] h = .ok (.int (ti : Int)) (h.set r c) := e1
  have ls2 := ls.row (c := c) rn
  generalize h.set r c = h1 at *
  have gs := sub_signals ls2.s
  have lg : opLen [.ref (n + 2)] h1 = .ok (.int (G.length : Int)) h1 := by rw [dk_len ls2.g, List.length_map]
  by_cases c1 : 0 < ti
  · by_cases c2 : G.length < 16
    · have pt := fun sl => put_sg (sl := sl) (x := (name, side)) ls2 (z_new g c2) (by show G.length < 1000; omega)
      have ls3 := ls2.sg (G := G ++ [(zAt t G.length, (name, side))])
      have ok3 := ok2.ne (c := .dk ((G ++ [(zAt t G.length, (name, side))]).map kSig)) (q := n + 2) (by omega)
      have f5 : opAddY (.str "z") (.str (sideT ((t + 3 * G.length) % 16))) h1 = .ok (.str (zAt t G.length)) h1 := z_add (by omega)
      refine ⟨_, _, ?_, ok3, ls3, g.add c2 ⟨hs, h2⟩ hn, ?_⟩
      · rw [sgIf]
        simp only [e1', gt_0, decide_eq_true c1, gs, lg, lt_16, decide_eq_true c2, a_put, mul3, add_nat, mod16, z_name, f5, a_run1, a_run2, fin_rt, fin_nx, a_seq, seq_nx, seq_rt, a_ret, a_retN, a_set, a_if, a_nx, a_var, get_va, a_c, a_nil, a_cons, a_bin, a_cb, a_call, a_and, a_or, a_bAnd, a_bOr, a_bNot, a_asB, a_tru, a_tup, a_lst, a_asg, a_drop, a_bm, a_ite, and_t, and_f, or_t, or_f, asB_bl, tru_bl, b_ok, s_ok, List.length_cons, List.length_nil, List.map_cons, List.map_nil, List.set_cons_zero, List.set_cons_succ, List.getElem?_cons_zero, List.getElem?_cons_succ, Bool.not_true, Bool.not_false, if_true, if_false, Bool.true_eq_false, Bool.false_eq_true, reduceIte, Nat.reduceAdd, Nat.reduceSub, Nat.reduceLeDiff, Nat.zero_add, eq_self, LIM]
        exact pt _
      · intro e he
        rw [List.map_append] at he
        rcases List.mem_append.mp he with he | he
        · exact .inl he
        · exact .inr (List.mem_singleton.mp he)
    · refine ⟨G, h1, ?_, ok2, ls2, g, fun e he => .inl he⟩
      rw [sgIf]
      simp only [e1', gt_0, decide_eq_true c1, gs, lg, lt_16, decide_eq_false c2, a_run1, a_run2, fin_rt, fin_nx, a_seq, seq_nx, seq_rt, a_ret, a_retN, a_set, a_if, a_nx, a_var, get_va, a_c, a_nil, a_cons, a_bin, a_cb, a_call, a_and, a_or, a_bAnd, a_bOr, a_bNot, a_asB, a_tru, a_tup, a_lst, a_asg, a_drop, a_bm, a_ite, and_t, and_f, or_t, or_f, asB_bl, tru_bl, b_ok, s_ok, List.length_cons, List.length_nil, List.map_cons, List.map_nil, List.set_cons_zero, List.set_cons_succ, List.getElem?_cons_zero, List.getElem?_cons_succ, Bool.not_true, Bool.not_false, if_true, if_false, Bool.true_eq_false, Bool.false_eq_true, reduceIte, Nat.reduceAdd, Nat.reduceSub, Nat.reduceLeDiff, Nat.zero_add, eq_self, LIM]
  · refine ⟨G, h1, ?_, ok2, ls2, g, fun e he => .inl he⟩
    rw [sgIf]
    simp only [e1', gt_0, decide_eq_false c1, a_run1, a_run2, fin_rt, fin_nx, a_seq, seq_nx, seq_rt, a_ret, a_retN, a_set, a_if, a_nx, a_var, get_va, a_c, a_nil, a_cons, a_bin, a_cb, a_call, a_and, a_or, a_bAnd, a_bOr, a_bNot, a_asB, a_tru, a_tup, a_lst, a_asg, a_drop, a_bm, a_ite, and_t, and_f, or_t, or_f, asB_bl, tru_bl, b_ok, s_ok, List.length_cons, List.length_nil, List.map_cons, List.map_nil, List.set_cons_zero, List.set_cons_succ, List.getElem?_cons_zero, List.getElem?_cons_succ, Bool.not_true, Bool.not_false, if_true, if_false, Bool.true_eq_false, Bool.false_eq_true, reduceIte, Nat.reduceAdd, Nat.reduceSub, Nat.reduceLeDiff, Nat.zero_add, eq_self, LIM]
theorem a_r1 {fs : FI} {sl : List Sl} {m : Nat} (e : fs sl h = .ok [.int (m : Int)] h) (hm : m < 1000) : iR1 fs sl h = .ok ((List.range m).map fun (k : Nat) => .int (k : Int)) h := by
  unfold iR1
  rw [e, R.bind_ok]
  have c1 : -(2 ^ 62) ≤ (m : Int) ∧ (m : Int) < 2 ^ 62 := by
    constructor
    · have : (-(2 ^ 62) : Int) ≤ 0 := by decide
      omega
    · have : (1000 : Int) < 2 ^ 62 := by decide
      omega
  exact if_pos c1
abbrev sgFor : FS := (fFor (iR1 (aCons (fC (.int 2)) aNil)) (gNm 13) sgIf)
theorem sg_for {name : Str} (ok : RowOk ns h r) (ls : LS h n { st with sigs := G } (t : Int)) (rn : r < n) (g : SgI S t G) (hs : name ∈ S) (hn : ∀ e ∈ G.map (·.2), e.1 ≠ name) :
    ∃ (G' : List (Str × (Str × Nat))) (b13 : Sl) (h' : Hq), sgFor [.va (.ref r), a1, .va (.int (t : Int)), a3, a4, .va (.ref (n + 3)), a6, .va (.str name), a8, a9, a10, a11, a12, a13] h = .nx [.va (.ref r), a1, .va (.int (t : Int)), a3, a4, .va (.ref (n + 3)), a6, .va (.str name), a8, a9, a10, a11, a12, b13] h' ∧
      RowOk ns h' r ∧ LS h' n { st with sigs := G' } (t : Int) ∧ SgI S t G' ∧ ∀ e ∈ G'.map (·.2), e ∈ G.map (·.2) ∨ e.1 = name := by
  obtain ⟨G1, h1, e1, ok1, ls1, g1, m1⟩ := sg_step (a1 := a1) (a3 := a3) (a4 := a4) (a6 := a6) (a8 := a8) (a9 := a9) (a10 := a10) (a11 := a11) (a12 := a12) (side := 0) ok ls rn g hs (by omega) (fun hm => hn _ hm rfl)
  obtain ⟨G2, h2, e2, ok2, ls2, g2, m2⟩ := sg_step (a1 := a1) (a3 := a3) (a4 := a4) (a6 := a6) (a8 := a8) (a9 := a9) (a10 := a10) (a11 := a11) (a12 := a12) (side := 1) (name := name) ok1 ls1 rn g1 hs (by omega) (fun hm => by
    rcases m1 _ hm with z | z
    · exact hn _ z rfl
    · exact absurd (Prod.mk.inj z).2 (by decide))
  refine ⟨G2, .va (.int ((1 : Nat) : Int)), h2, ?_, ok2, ls2, g2, fun e he => ?_⟩
  · rw [sgFor, a_for]
    have r2 : iR1 (aCons (fC (.int 2)) aNil) [.va (.ref r), a1, .va (.int (t : Int)), a3, a4, .va (.ref (n + 3)), a6, .va (.str name), a8, a9, a10, a11, a12, a13] h = .ok [.int ((0 : Nat) : Int), .int ((1 : Nat) : Int)] h := a_r1 (m := 2) rfl (by decide)
    rw [r2, s_ok]
    refine (go_cons (bs := [(13, .int ((0 : Nat) : Int))]) rfl e1).trans ((go_cons (bs := [(13, .int ((1 : Nat) : Int))]) rfl e2).trans ?_)
    exact go_nil
  · rcases m2 e he with z | z
    · rcases m1 e z with z | z
      · exact .inl z
      · exact .inr (by rw [z])
    · exact .inr (by rw [z])
theorem sg_loop : ∀ {rest : List Str} {G : List (Str × (Str × Nat))} {h : Hq} {a7 a13 : Sl}, RowOk ns h r → LS h n { st with sigs := G } (t : Int) → r < n → SgI S t G → (∀ s ∈ rest, s ∈ S) → rest.Nodup → (∀ e ∈ G.map (·.2), e.1 ∉ rest) →
    ∃ (G' : List (Str × (Str × Nat))) (b7 b13 : Sl) (h' : Hq), forGo (gNm 7) sgFor (rest.map .str) [.va (.ref r), a1, .va (.int (t : Int)), a3, a4, .va (.ref (n + 3)), a6, a7, a8, a9, a10, a11, a12, a13] h = .nx [.va (.ref r), a1, .va (.int (t : Int)), a3, a4, .va (.ref (n + 3)), a6, b7, a8, a9, a10, a11, a12, b13] h' ∧
      LS h' n { st with sigs := G' } (t : Int) ∧ SgI S t G'
  | [], G, h, a7, a13, ok, ls, _, g, _, _, _ => ⟨G, a7, a13, h, rfl, ls, g⟩
  | s :: rest, G, h, a7, a13, ok, ls, rn, g, hs, nd, hn => by
    obtain ⟨G1, b13, h1, e1, ok1, ls1, g1, m1⟩ := sg_for (a1 := a1) (a3 := a3) (a4 := a4) (a6 := a6) (a8 := a8) (a9 := a9) (a10 := a10) (a11 := a11) (a12 := a12) (a13 := a13) (name := s) ok ls rn g (hs s List.mem_cons_self) (fun e he z => hn e he (by rw [z]; exact List.mem_cons_self))
    obtain ⟨G2, b7, b13', h2, e2, ls2, g2⟩ := sg_loop (rest := rest) (a7 := .va (.str s)) (a13 := b13) ok1 ls1 rn g1 (fun z hz => hs z (List.mem_cons_of_mem _ hz)) (List.nodup_cons.mp nd).2 (fun e he => by
      rcases m1 e he with z | z
      · exact fun w => hn e z (List.mem_cons_of_mem _ w)
      · rw [z]; exact (List.nodup_cons.mp nd).1)
    exact ⟨G2, b7, b13', h2, (go_cons (bs := [(7, .str s)]) rfl e1).trans e2, ls2, g2⟩
end
end Kx
end

section
set_option linter.all false
set_option maxRecDepth 100000
set_option maxHeartbeats 400000
/-! Ev25: _law_station, whole. -/
namespace Dy
open PySem PySem.Spec PyProof.Rows L2 GxR Gx
theorem go_invB {ft : D → Option Bs} {F : FS} (I : Nat → List Sl → Hq → Prop) (N : Nat) : ∀ {ds : List D} {j : Nat} {sl : List Sl} {h : Hq}, (∀ j d sl h, d ∈ ds → j < N → I j sl h → ∃ bs sl' h', ft d = some bs ∧ F (sets sl bs) h = .nx sl' h' ∧ I (j + 1) sl' h') →
    j + ds.length ≤ N → I j sl h → ∃ sl' h', forGo ft F ds sl h = .nx sl' h' ∧ I (j + ds.length) sl' h'
  | [], j, sl, h, _, _, i0 => ⟨sl, h, rfl, i0⟩
  | d :: ds, j, sl, h, st, hn, i0 => by
    rw [List.length_cons] at hn
    obtain ⟨bs, sl1, h1, e1, e2, i1⟩ := st j d sl h List.mem_cons_self (by omega) i0
    obtain ⟨sl2, h2, e3, i2⟩ := go_invB I N (fun j z sl h hz => st j z sl h (List.mem_cons_of_mem _ hz)) (by omega) i1
    refine ⟨sl2, h2, (go_cons e1 e2).trans e3, ?_⟩
    rw [List.length_cons, Nat.add_comm ds.length 1, ← Nat.add_assoc]
    exact i2
end Dy
namespace Kx
open PySem PySem.Spec PyProof.Rows L2 GxR Gx Dy
def AB : Str := "abcdefghijklmnoqrstuvwxy"
theorem AB_len : AB.length = 24 := by decide +kernel
theorem AB_ok : ∀ i, i < 24 → ∃ c, (TL.tl AB)[i]? = some c ∧ c ∈ NS ∧ c ≠ 112 ∧ c ≠ 122 := by
  have h : ∀ i, i < 24 → (match (TL.tl AB)[i]? with | some c => decide (c ∈ NS ∧ c ≠ 112 ∧ c ≠ 122) | none => false) = true := by decide +kernel
  intro i hi
  have := h i hi
  cases e : (TL.tl AB)[i]? with
  | none => rw [e] at this; exact absurd this (by decide)
  | some c => rw [e] at this; exact ⟨c, rfl, of_decide_eq_true this⟩
theorem idx_str {h : Hq} {z : Str} {i c : Nat} (e : (TL.tl z)[i]? = some c) (hl : z.length ≤ LIM) : opSub_ (.str z) (.int (i : Int)) h = .ok (.str ⟨#[c]⟩) h := by
  have lt := (List.getElem?_eq_some_iff.mp e).1
  have a : atI z.cps.toList (i : Int) = some c := by
    unfold atI ixN
    rw [if_pos (by omega), if_pos (by show (i : Int) < ((TL.tl z).length : Int); omega)]
    show (TL.tl z)[(i : Int).toNat]? = _
    rw [Int.toNat_natCast, e]
  have d : dictD h (.str z) = false := rfl
  unfold opSub_ opIdx
  rw [d]
  simp only [a, if_pos hl, Bool.false_eq_true, if_false]
theorem rep_wrd {c k : Nat} (hc : c ∈ NS ∧ c ≠ 112 ∧ c ≠ 122) (hk : k < 4) : Wrd (repS ⟨#[c]⟩ (1 + k)) := by
  have e : TL.tl (repS ⟨#[c]⟩ (1 + k)) = List.replicate (1 + k) c := by
    match k, hk with
    | 0, _ => rfl
    | 1, _ => rfl
    | 2, _ => rfl
    | 3, _ => rfl
  refine ⟨?_, ?_, fun x hx => ?_⟩
  · rw [TL.len_tl, e, List.length_replicate]; omega
  · rw [TL.len_tl, e, List.length_replicate]; omega
  · rw [e] at hx
    rw [(List.mem_replicate.mp hx).2]
    exact hc
theorem rep_ok {h : Hq} {c k : Nat} (hk : k < 4) : opMulX (.str ⟨#[c]⟩) (.int (1 + (k : Int))) h = .ok (.str (repS ⟨#[c]⟩ (1 + k))) h := by
  show opRep (.str ⟨#[c]⟩) (.int (1 + (k : Int))) h = _
  unfold opRep
  have : (1 + (k : Int)).toNat = 1 + k := by omega
  simp only [this]
  refine if_pos ⟨by omega, by omega, ?_⟩
  show 1 ≤ 1000
  decide
theorem a_disp5 {h : Hq} {sl : List Sl} {v1 v5 : D} (e1 : fVar 3 sl h = .ok v1 h) (e5 : ∀ h, fVar 2 sl h = .ok v5 h) :
    fDisp [((fC (.str "sections")), (fVar 3)), ((fC (.str "points")), (newCell fNewK)), ((fC (.str "links")), (newCell (fLst aNil))), ((fC (.str "signals")), (newCell fNewK)), ((fC (.str "turn")), (fVar 2))] sl h =
      .ok (.dk [(.inr "sections", v1), (.inr "points", .ref h.length), (.inr "links", .ref (h.length + 1)), (.inr "signals", .ref (h.length + 2)), (.inr "turn", v5)]) (h ++ [.dk []] ++ [.lst []] ++ [.dk []]) := by
  have n1 : ∀ sl h, newCell fNewK sl h = .ok (.ref h.length) (h ++ [.dk []]) := fun _ _ => rfl
  have n2 : ∀ sl h, newCell (fLst aNil) sl h = .ok (.ref h.length) (h ++ [.lst []]) := fun _ _ => rfl
  unfold fDisp
  simp only [dpGo, a_c, b_ok, e1, Dy.keyOf, n1, n2, e5]
  rw [if_pos (by simp), merge_new _ [] (by
    show (List.map (fun x : Key × D => x.1) [(.inr "sections", v1), (.inr "points", .ref h.length), (.inr "links", _), (.inr "signals", _), (.inr "turn", v5)]).Nodup
    simp only [List.map_cons, List.map_nil]
    decide +kernel)]
  simp only [List.nil_append, List.length_append, List.length_cons, List.length_nil]
def stE (S : List Str) : St := ⟨S, [], [], []⟩
theorem new_st {h : Hq} {S : List Str} {t : Int} : LS (h ++ [.dk []] ++ [.lst []] ++ [.dk []] ++ [.dk (kS S h.length t)]) h.length (stE S) t := by
  refine ⟨?_, ?_, ?_, ?_⟩
  · rw [List.append_assoc, List.append_assoc, List.append_assoc]; simp [stE]
  · rw [List.append_assoc, List.append_assoc, List.append_assoc]; simp [stE]
  · rw [List.append_assoc, List.append_assoc, List.append_assoc]; simp [stE]
  · rw [List.append_assoc, List.append_assoc, List.append_assoc]; simp [stE]
/-- the rest of _law_station, behind the tracks -/
abbrev loopC : FS := fSeq sb8 (fSeq sb9 (fSeq sb11 (fSeq sbIf sb6)))
abbrev wTail : FS := (fSeq (fSet 1 (fBin opMulX (fBin opSub_ (fC (.str "abcdefghijklmnoqrstuvwxy")) (fCall 2 r_law_taken (aCons (fVar 0) (aCons (fC (.int 24)) aNil)))) (fBin opAddY (fC (.int 1)) (fCall 2 r_law_taken (aCons (fVar 0) (aCons (fC (.int 4)) aNil))))))
  (fSeq (fSet 2 (fCall 2 r_law_taken (aCons (fVar 0) (aCons (fC (.int 16)) aNil))))
  (fSeq (fSet 3 (fLc (iR1 (aCons (fBin opAddY (fC (.int 2)) (fCall 2 r_law_taken (aCons (fVar 0) (aCons (fC (.int 7)) aNil)))) aNil)) (gNm 4) bYes (fBin opAddY (fVar 1) (fCb opStr (aCons (fBin opMod (fBin opAddY (fVar 2) (fBin opMulX (fC (.int 3)) (fVar 4))) (fC (.int 8))) aNil))) [4]))
  (fSeq (fSet 5 (newCell (fDisp [((fC (.str "sections")), (fVar 3)), ((fC (.str "points")), (newCell fNewK)), ((fC (.str "links")), (newCell (fLst aNil))), ((fC (.str "signals")), (newCell fNewK)), ((fC (.str "turn")), (fVar 2))])))
  (fSeq (fSet 6 (fBin opAddY (fLc (iAny (fVar 3)) (gNm 7) bYes (fTup (aCons (fVar 7) (aCons (fC (.int 0)) aNil))) [7]) (fLc (iAny (fVar 3)) (gNm 7) bYes (fTup (aCons (fVar 7) (aCons (fC (.int 1)) aNil))) [7])))
  (fSeq (fFor (iR1 (aCons (fCall 2 r_law_taken (aCons (fVar 0) (aCons (fC (.int 12)) aNil))) aNil)) (gNm 4) loopC)
  (fSeq (fFor (iAny (fVar 3)) (gNm 7) sgFor)
  (fRet (fVar 5)))))))))
theorem station_eq : f_law_station = fSeq (fIf (fAsB (fBin opEqH (fCall 2 r_law_taken (aCons (fVar 0) (aCons (fC (.int 4)) aNil))) (fC (.int 3)))) (fRet (fCall 1 r_law_tracks (aCons (fVar 0) aNil))) fNx) wTail := rfl
section
variable {h : Hq} {n r t : Nat} {ns : List Int}
/-- a station that the law has drawn -/
def Drawn (h : Hq) (n : Nat) : Prop := ∃ (st : St) (turn : Int), LS h n st turn ∧ Fits st.srt ∧ ∀ l ∈ st.links, RLnk st l
theorem w_name {a : Nat} : opStr [.int ((a % 8 : Nat) : Int)] h = .ok (.str (sideT (a % 8))) h := str_nat (by omega)
theorem e_whole (ok : RowOk ns h r) : ∃ n h', RS.fin (wTail [.va (.ref r), .no, .no, .no, .no, .no, .no, .no, .no, .no, .no, .no, .no, .no] h) = .ok (.ref (n + 3)) h' ∧ Drawn h' n := by
  have l1 : LIM = 16777216 := rfl
  obtain ⟨i1, c1, e1, b1, ok1⟩ := taken_nat ok (m := 24) (by omega) (by omega)
  obtain ⟨k1, c2, e2, b2, ok2⟩ := taken_nat ok1 (m := 4) (by omega) (by omega)
  obtain ⟨t, c3, e3, b3, ok3⟩ := taken_nat ok2 (m := 16) (by omega) (by omega)
  obtain ⟨m0, c4, e4, b4, ok4⟩ := taken_nat ok3 (m := 7) (by omega) (by omega)
  have e1' : r_law_taken [.ref r, .int 24] h = .ok (.int (i1 : Int)) (h.set r c1) := e1
  generalize h.set r c1 = h1 at *
  have e2' : r_law_taken [.ref r, .int 4] h1 = .ok (.int (k1 : Int)) (h1.set r c2) := e2
  generalize h1.set r c2 = h2 at *
  have e3' : r_law_taken [.ref r, .int 16] h2 = .ok (.int (t : Int)) (h2.set r c3) := e3
  generalize h2.set r c3 = h3 at *
  have e4' : r_law_taken [.ref r, .int 7] h3 = .ok (.int (m0 : Int)) (h3.set r c4) := e4
  generalize h3.set r c4 = h4 at *
  obtain ⟨c, ec, hc⟩ := AB_ok i1 b1
  have ab : opSub_ (.str "abcdefghijklmnoqrstuvwxy") (.int (i1 : Int)) h1 = .ok (.str ⟨#[c]⟩) h1 := idx_str (z := AB) ec (by rw [AB_len]; omega)
  have wd := rep_wrd hc b2
  have rp := rep_ok (h := h2) (c := c) b2
  generalize repS ⟨#[c]⟩ (1 + k1) = w at *
  have nmW : ∀ i, i < 8 → Nm (wAt w t i) := fun i hi => wd.nm (by omega)
  have r3 : iR1 (aCons (fBin opAddY (fC (.int 2)) (fCall 2 r_law_taken (aCons (fVar 0) (aCons (fC (.int 7)) aNil)))) aNil) [.va (.ref r), .va (.str w), .va (.int (t : Int)), .no, .no, .no, .no, .no, .no, .no, .no, .no, .no, .no] h3 = .ok ((List.range (2 + m0)).map fun (k : Nat) => .int (k : Int)) h4 := by
    have e : aCons (fBin opAddY (fC (.int 2)) (fCall 2 r_law_taken (aCons (fVar 0) (aCons (fC (.int 7)) aNil)))) aNil [.va (.ref r), .va (.str w), .va (.int (t : Int)), .no, .no, .no, .no, .no, .no, .no, .no, .no, .no, .no] h3 = .ok [.int ((2 + m0 : Nat) : Int)] h4 := by
      simp only [e4', add_i, a_run1, a_run2, fin_rt, fin_nx, a_seq, seq_nx, seq_rt, a_ret, a_retN, a_set, a_if, a_nx, a_var, get_va, a_c, a_nil, a_cons, a_bin, a_cb, a_call, a_and, a_or, a_bAnd, a_bOr, a_bNot, a_asB, a_tru, a_tup, a_lst, a_asg, a_drop, a_bm, a_ite, and_t, and_f, or_t, or_f, asB_bl, tru_bl, b_ok, s_ok, List.length_cons, List.length_nil, List.map_cons, List.map_nil, List.set_cons_zero, List.set_cons_succ, List.getElem?_cons_zero, List.getElem?_cons_succ, Bool.not_true, Bool.not_false, if_true, if_false, Bool.true_eq_false, Bool.false_eq_true, reduceIte, Nat.reduceAdd, Nat.reduceSub, Nat.reduceLeDiff, Nat.zero_add, eq_self, LIM]
      rfl
    unfold iR1
    rw [e, R.bind_ok]
    have c1 : -(2 ^ 62) ≤ ((2 + m0 : Nat) : Int) ∧ ((2 + m0 : Nat) : Int) < 2 ^ 62 := by
      constructor
      · have : (-(2 ^ 62) : Int) ≤ 0 := by decide
        omega
      · have : (1000 : Int) < 2 ^ 62 := by decide
        omega
    exact if_pos c1
  let S := (List.range (2 + m0)).map (wAt w t)
  have lenS : S.length = 2 + m0 := by simp [S]
  have n3 : fLc (iR1 (aCons (fBin opAddY (fC (.int 2)) (fCall 2 r_law_taken (aCons (fVar 0) (aCons (fC (.int 7)) aNil)))) aNil)) (gNm 4) bYes (fBin opAddY (fVar 1) (fCb opStr (aCons (fBin opMod (fBin opAddY (fVar 2) (fBin opMulX (fC (.int 3)) (fVar 4))) (fC (.int 8))) aNil))) [4] [.va (.ref r), .va (.str w), .va (.int (t : Int)), .no, .no, .no, .no, .no, .no, .no, .no, .no, .no, .no] h3 = .ok (.lst (S.map .str)) h4 := by
    rw [show S.map D.str = (List.range (2 + m0)).map fun i => .str (wAt w t i) by simp only [S, List.map_map]; rfl]
    refine ev_lcT (ft := gNm 4) (xs := List.range (2 + m0)) (emb := fun (k : Nat) => D.int (k : Int)) (fun k => [(4, .int (k : Int))]) r3 (by simp; omega) (fun _ _ => rfl) (fun i hi => ?_)
    have sl := sd_len ((t + 3 * i) % 8) (by omega)
    have wl := wd.le
    have ad : opAddY (.str w) (.str (sideT ((t + 3 * i) % 8))) h4 = .ok (.str (wAt w t i)) h4 := add_str (by rw [slen]; omega)
    show fBin opAddY _ _ [.va (.ref r), .va (.str w), .va (.int (t : Int)), .no, .va (.int (i : Int)), .no, .no, .no, .no, .no, .no, .no, .no, .no] h4 = _
    simp only [mul3, add_nat, mod8, w_name, ad, a_run1, a_run2, fin_rt, fin_nx, a_seq, seq_nx, seq_rt, a_ret, a_retN, a_set, a_if, a_nx, a_var, get_va, a_c, a_nil, a_cons, a_bin, a_cb, a_call, a_and, a_or, a_bAnd, a_bOr, a_bNot, a_asB, a_tru, a_tup, a_lst, a_asg, a_drop, a_bm, a_ite, and_t, and_f, or_t, or_f, asB_bl, tru_bl, b_ok, s_ok, List.length_cons, List.length_nil, List.map_cons, List.map_nil, List.set_cons_zero, List.set_cons_succ, List.getElem?_cons_zero, List.getElem?_cons_succ, Bool.not_true, Bool.not_false, if_true, if_false, Bool.true_eq_false, Bool.false_eq_true, reduceIte, Nat.reduceAdd, Nat.reduceSub, Nat.reduceLeDiff, Nat.zero_add, eq_self, LIM]
  have sNm : ∀ s ∈ S, Nm s := fun s hs => by
    obtain ⟨i, hi, rfl⟩ := List.mem_map.mp hs
    have := List.mem_range.mp hi
    exact nmW i (by omega)
  have sNd : S.Nodup := nodup_range fun i hi j hj e => by
    have := sd_inj ((t + 3 * i) % 8) (by omega) ((t + 3 * j) % 8) (by omega) (app_inj e)
    omega
  have sHd : ∀ s ∈ S, ∃ c, hd s = some c ∧ c ≠ 112 ∧ c ≠ 122 := fun s hs => by
    obtain ⟨i, hi, rfl⟩ := List.mem_map.mp hs
    exact wd.hd
  have sAs : ∀ s ∈ S, As s := fun s hs => (sNm s hs).as
  have sne : S ≠ [] := fun e => by rw [e] at lenS; simp at lenS; omega
  clear_value S
  let n := h4.length
  have rn : r < n := ok4.lt
  let h5 := h4 ++ [C.dk []] ++ [.lst []] ++ [.dk []] ++ [.dk (kS S n (t : Int))]
  have ls5 : LS h5 n (stE S) (t : Int) := new_st
  have ok5 : RowOk ns h5 r := (((ok4.app).app).app).app
  have n5 : newCell (fDisp [((fC (.str "sections")), (fVar 3)), ((fC (.str "points")), (newCell fNewK)), ((fC (.str "links")), (newCell (fLst aNil))), ((fC (.str "signals")), (newCell fNewK)), ((fC (.str "turn")), (fVar 2))]) [.va (.ref r), .va (.str w), .va (.int (t : Int)), .va (.lst (S.map .str)), .no, .no, .no, .no, .no, .no, .no, .no, .no, .no] h4 = .ok (.ref (n + 3)) h5 := by
    rw [a_newCell, a_disp5 (v1 := .lst (S.map .str)) (v5 := .int (t : Int)) rfl (fun _ => rfl), b_ok]
    show R.ok (D.ref (h4 ++ [C.dk []] ++ [C.lst []] ++ [C.dk []]).length) _ = _
    have : (h4 ++ [C.dk []] ++ [C.lst []] ++ [C.dk []]).length = n + 3 := by simp [n]
    rw [this]
    rfl
  clear_value h5
  clear_value n
  let F0 : List (Str × Nat) := S.map (fun s => (s, 0)) ++ S.map (fun s => (s, 1))
  have f6 : ∀ i : Nat, ∀ x : Sl, fLc (iAny (fVar 3)) (gNm 7) bYes (fTup (aCons (fVar 7) (aCons (fC (.int (i : Int))) aNil))) [7] [.va (.ref r), .va (.str w), .va (.int (t : Int)), .va (.lst (S.map .str)), .no, .va (.ref (n + 3)), .no, .no, .no, .no, .no, .no, .no, .no] h5 = .ok (.lst ((S.map fun s => (s, i)).map dEnd)) h5 := fun i x => by
    rw [List.map_map]
    refine ev_lcT (ft := gNm 7) (xs := S) (emb := D.str) (fun s => [(7, .str s)]) rfl (by omega) (fun _ _ => rfl) (fun s hs => ?_)
    show fTup _ [.va (.ref r), .va (.str w), .va (.int (t : Int)), .va (.lst (S.map .str)), .no, .va (.ref (n + 3)), .no, .va (.str s), .no, .no, .no, .no, .no, .no] h5 = _
    simp only [a_run1, a_run2, fin_rt, fin_nx, a_seq, seq_nx, seq_rt, a_ret, a_retN, a_set, a_if, a_nx, a_var, get_va, a_c, a_nil, a_cons, a_bin, a_cb, a_call, a_and, a_or, a_bAnd, a_bOr, a_bNot, a_asB, a_tru, a_tup, a_lst, a_asg, a_drop, a_bm, a_ite, and_t, and_f, or_t, or_f, asB_bl, tru_bl, b_ok, s_ok, List.length_cons, List.length_nil, List.map_cons, List.map_nil, List.set_cons_zero, List.set_cons_succ, List.getElem?_cons_zero, List.getElem?_cons_succ, Bool.not_true, Bool.not_false, if_true, if_false, Bool.true_eq_false, Bool.false_eq_true, reduceIte, Nat.reduceAdd, Nat.reduceSub, Nat.reduceLeDiff, Nat.zero_add, eq_self, LIM]
    rfl
  have f60 := f6 0 .no
  have f61 := f6 1 .no
  rw [show ((0 : Nat) : Int) = 0 from rfl] at f60
  rw [show ((1 : Nat) : Int) = 1 from rfl] at f61
  have ad6 : opAddY (.lst ((S.map fun s => (s, 0)).map dEnd)) (.lst ((S.map fun s => (s, 1)).map dEnd)) h5 = .ok (.lst (F0.map dEnd)) h5 := by
    rw [add_lst (by simp [LIM]; omega), ← List.map_append]
  obtain ⟨mm, c7, e7, b7, ok7⟩ := taken_nat ok5 (m := 12) (by omega) (by omega)
  have e7' : r_law_taken [.ref r, .int 12] h5 = .ok (.int (mm : Int)) (h5.set r c7) := e7
  have ls7 := ls5.row (c := c7) rn
  generalize h5.set r c7 = h7 at *
  have lp0 : Lp ns r n t S (.str w) (.lst (S.map .str)) 0 [.va (.ref r), .va (.str w), .va (.int (t : Int)), .va (.lst (S.map .str)), .no, .va (.ref (n + 3)), .va (.lst (F0.map dEnd)), .no, .no, .no, .no, .no, .no, .no] h7 := by
    refine ⟨stE S, F0, _, _, _, _, _, _, _, _, rfl, ok7, ls7, ⟨rfl, rfl, by simp [stE], by simp [stE], by simp [stE], by simp [stE]⟩, by simp [Off, stE], ?_, ?_, ?_, by simp [stE], rfl⟩
    · refine List.nodup_append.mpr ⟨List.pairwise_map.mpr (sNd.imp fun hne e => hne (Prod.mk.inj e).1), List.pairwise_map.mpr (sNd.imp fun hne e => hne (Prod.mk.inj e).1), ?_⟩
      intro a ha b hb e
      obtain ⟨x, _, rfl⟩ := List.mem_map.mp ha
      obtain ⟨y, _, rfl⟩ := List.mem_map.mp hb
      exact absurd (Prod.mk.inj e).2 (by decide)
    · intro e he
      rcases List.mem_append.mp he with he | he
      · obtain ⟨x, hx, rfl⟩ := List.mem_map.mp he
        exact ⟨hx, by simp⟩
      · obtain ⟨x, hx, rfl⟩ := List.mem_map.mp he
        exact ⟨hx, by simp⟩
    · simp [F0, lenS]
      omega
  obtain ⟨sl8, h8, e8, lp8⟩ := go_invB (ft := gNm 4) (F := loopC) (Lp ns r n t S (.str w) (.lst (S.map .str))) 20 (ds := (List.range mm).map fun (k : Nat) => D.int (k : Int)) (fun j d sl h hd hj lp => by
    obtain ⟨k, _, rfl⟩ := List.mem_map.mp hd
    obtain ⟨sl', h', e, l⟩ := lp_step (k := k) rn sAs hj lp
    exact ⟨[(4, .int (k : Int))], sl', h', rfl, e, l⟩) (by simp; omega) lp0
  rw [List.length_map, List.length_range, Nat.zero_add] at lp8
  obtain ⟨st, free, a4, a7, a8, a9, a10, a11, a12, a13, esl, ok8, ls8, g8, of8, nd8, gF8, f16, lk8, sg8⟩ := lp8.x
  have ls8' : LS h8 n { st with sigs := [] } (t : Int) := by rw [← sg8]; exact ls8
  obtain ⟨G, b7', b13, h9, e9, ls9, sg9⟩ := sg_loop (a1 := .va (.str w)) (a3 := .va (.lst (S.map .str))) (a4 := a4) (a6 := .va (.lst (free.map dEnd))) (a8 := a8) (a9 := a9) (a10 := a10) (a11 := a11) (a12 := a12) (a7 := a7) (a13 := a13) (rest := S) ok8 ls8' rn (S := S) ⟨rfl, by simp, by simp, by simp⟩ (fun s h => h) sNd (by simp)
  refine ⟨n, h9, ?_, { st with sigs := G }, (t : Int), ls9, ?_⟩
  · have r7 : iR1 (aCons (fCall 2 r_law_taken (aCons (fVar 0) (aCons (fC (.int 12)) aNil))) aNil) [.va (.ref r), .va (.str w), .va (.int (t : Int)), .va (.lst (S.map .str)), .no, .va (.ref (n + 3)), .va (.lst (F0.map dEnd)), .no, .no, .no, .no, .no, .no, .no] h5 = .ok ((List.range mm).map fun (k : Nat) => D.int (k : Int)) h7 := by
      have e : aCons (fCall 2 r_law_taken (aCons (fVar 0) (aCons (fC (.int 12)) aNil))) aNil [.va (.ref r), .va (.str w), .va (.int (t : Int)), .va (.lst (S.map .str)), .no, .va (.ref (n + 3)), .va (.lst (F0.map dEnd)), .no, .no, .no, .no, .no, .no, .no] h5 = .ok [.int (mm : Int)] h7 := by
        simp only [e7', a_run1, a_run2, fin_rt, fin_nx, a_seq, seq_nx, seq_rt, a_ret, a_retN, a_set, a_if, a_nx, a_var, get_va, a_c, a_nil, a_cons, a_bin, a_cb, a_call, a_and, a_or, a_bAnd, a_bOr, a_bNot, a_asB, a_tru, a_tup, a_lst, a_asg, a_drop, a_bm, a_ite, and_t, and_f, or_t, or_f, asB_bl, tru_bl, b_ok, s_ok, List.length_cons, List.length_nil, List.map_cons, List.map_nil, List.set_cons_zero, List.set_cons_succ, List.getElem?_cons_zero, List.getElem?_cons_succ, Bool.not_true, Bool.not_false, if_true, if_false, Bool.true_eq_false, Bool.false_eq_true, reduceIte, Nat.reduceAdd, Nat.reduceSub, Nat.reduceLeDiff, Nat.zero_add, eq_self, LIM]
      unfold iR1
      rw [e, R.bind_ok]
      have c1 : -(2 ^ 62) ≤ (mm : Int) ∧ (mm : Int) < 2 ^ 62 := by
        constructor
        · have : (-(2 ^ 62) : Int) ≤ 0 := by decide
          omega
        · have : (1000 : Int) < 2 ^ 62 := by decide
          omega
      exact if_pos c1
    rw [wTail, a_seq, a_set]
    simp only [e1', ab, e2', add_i, rp, e3', a_run1, a_run2, fin_rt, fin_nx, a_seq, seq_nx, seq_rt, a_ret, a_retN, a_set, a_if, a_nx, a_var, get_va, a_c, a_nil, a_cons, a_bin, a_cb, a_call, a_and, a_or, a_bAnd, a_bOr, a_bNot, a_asB, a_tru, a_tup, a_lst, a_asg, a_drop, a_bm, a_ite, and_t, and_f, or_t, or_f, asB_bl, tru_bl, b_ok, s_ok, List.length_cons, List.length_nil, List.map_cons, List.map_nil, List.set_cons_zero, List.set_cons_succ, List.getElem?_cons_zero, List.getElem?_cons_succ, Bool.not_true, Bool.not_false, if_true, if_false, Bool.true_eq_false, Bool.false_eq_true, reduceIte, Nat.reduceAdd, Nat.reduceSub, Nat.reduceLeDiff, Nat.zero_add, eq_self, LIM]
    rw [n3]
    simp only [a_run1, a_run2, fin_rt, fin_nx, a_seq, seq_nx, seq_rt, a_ret, a_retN, a_set, a_if, a_nx, a_var, get_va, a_c, a_nil, a_cons, a_bin, a_cb, a_call, a_and, a_or, a_bAnd, a_bOr, a_bNot, a_asB, a_tru, a_tup, a_lst, a_asg, a_drop, a_bm, a_ite, and_t, and_f, or_t, or_f, asB_bl, tru_bl, b_ok, s_ok, List.length_cons, List.length_nil, List.map_cons, List.map_nil, List.set_cons_zero, List.set_cons_succ, List.getElem?_cons_zero, List.getElem?_cons_succ, Bool.not_true, Bool.not_false, if_true, if_false, Bool.true_eq_false, Bool.false_eq_true, reduceIte, Nat.reduceAdd, Nat.reduceSub, Nat.reduceLeDiff, Nat.zero_add, eq_self, LIM]
    rw [n5]
    simp only [a_run1, a_run2, fin_rt, fin_nx, a_seq, seq_nx, seq_rt, a_ret, a_retN, a_set, a_if, a_nx, a_var, get_va, a_c, a_nil, a_cons, a_bin, a_cb, a_call, a_and, a_or, a_bAnd, a_bOr, a_bNot, a_asB, a_tru, a_tup, a_lst, a_asg, a_drop, a_bm, a_ite, and_t, and_f, or_t, or_f, asB_bl, tru_bl, b_ok, s_ok, List.length_cons, List.length_nil, List.map_cons, List.map_nil, List.set_cons_zero, List.set_cons_succ, List.getElem?_cons_zero, List.getElem?_cons_succ, Bool.not_true, Bool.not_false, if_true, if_false, Bool.true_eq_false, Bool.false_eq_true, reduceIte, Nat.reduceAdd, Nat.reduceSub, Nat.reduceLeDiff, Nat.zero_add, eq_self, LIM]
    rw [f60, b_ok, f61, b_ok, ad6]
    simp only [a_for, a_run1, a_run2, fin_rt, fin_nx, a_seq, seq_nx, seq_rt, a_ret, a_retN, a_set, a_if, a_nx, a_var, get_va, a_c, a_nil, a_cons, a_bin, a_cb, a_call, a_and, a_or, a_bAnd, a_bOr, a_bNot, a_asB, a_tru, a_tup, a_lst, a_asg, a_drop, a_bm, a_ite, and_t, and_f, or_t, or_f, asB_bl, tru_bl, b_ok, s_ok, List.length_cons, List.length_nil, List.map_cons, List.map_nil, List.set_cons_zero, List.set_cons_succ, List.getElem?_cons_zero, List.getElem?_cons_succ, Bool.not_true, Bool.not_false, if_true, if_false, Bool.true_eq_false, Bool.false_eq_true, reduceIte, Nat.reduceAdd, Nat.reduceSub, Nat.reduceLeDiff, Nat.zero_add, eq_self, LIM]
    rw [r7, s_ok, e8, esl]
    simp only [a_run1, a_run2, fin_rt, fin_nx, a_seq, seq_nx, seq_rt, a_ret, a_retN, a_set, a_if, a_nx, a_var, get_va, a_c, a_nil, a_cons, a_bin, a_cb, a_call, a_and, a_or, a_bAnd, a_bOr, a_bNot, a_asB, a_tru, a_tup, a_lst, a_asg, a_drop, a_bm, a_ite, and_t, and_f, or_t, or_f, asB_bl, tru_bl, b_ok, s_ok, List.length_cons, List.length_nil, List.map_cons, List.map_nil, List.set_cons_zero, List.set_cons_succ, List.getElem?_cons_zero, List.getElem?_cons_succ, Bool.not_true, Bool.not_false, if_true, if_false, Bool.true_eq_false, Bool.false_eq_true, reduceIte, Nat.reduceAdd, Nat.reduceSub, Nat.reduceLeDiff, Nat.zero_add, eq_self, LIM]
    have w9 : iAny (fVar 3) [.va (.ref r), .va (.str w), .va (.int (t : Int)), .va (.lst (S.map .str)), a4, .va (.ref (n + 3)), .va (.lst (free.map dEnd)), a7, a8, a9, a10, a11, a12, a13] h8 = .ok (S.map .str) h8 := rfl
    rw [a_for, w9, s_ok, e9]
    simp only [a_run1, a_run2, fin_rt, fin_nx, a_seq, seq_nx, seq_rt, a_ret, a_retN, a_set, a_if, a_nx, a_var, get_va, a_c, a_nil, a_cons, a_bin, a_cb, a_call, a_and, a_or, a_bAnd, a_bOr, a_bNot, a_asB, a_tru, a_tup, a_lst, a_asg, a_drop, a_bm, a_ite, and_t, and_f, or_t, or_f, asB_bl, tru_bl, b_ok, s_ok, List.length_cons, List.length_nil, List.map_cons, List.map_nil, List.set_cons_zero, List.set_cons_succ, List.getElem?_cons_zero, List.getElem?_cons_succ, Bool.not_true, Bool.not_false, if_true, if_false, Bool.true_eq_false, Bool.false_eq_true, reduceIte, Nat.reduceAdd, Nat.reduceSub, Nat.reduceLeDiff, Nat.zero_add, eq_self, LIM]
  · have c9 := sg9.c
    have n9 := sg9.n
    refine fits_of (g8.sig (G := G)) sNm sNd sHd sne (by omega) (by show st.links.length ≤ 60; omega) ?_ ?_ c9 (fun s hs => ⟨by rw [g8.sig.secs]; exact (sg9.e s hs).1, (sg9.e s hs).2⟩) sg9.nd
    · intro s hs
      have : s.1 ∈ G.map (·.1) := List.mem_map.mpr ⟨s, hs, rfl⟩
      rw [n9] at this
      obtain ⟨i, hi, e⟩ := List.mem_map.mp this
      exact ⟨_, by omega, e.symm⟩
    · show (G.map (·.1)).Nodup
      rw [n9]
      refine nodup_range fun i hi j hj e => ?_
      have := z_inj (i := (t + 3 * i) % 16) (j := (t + 3 * j) % 16) (by omega) (by omega) e
      omega
end
end Kx
end

section
set_option linter.all false
set_option maxRecDepth 100000
set_option maxHeartbeats 400000
/-! Ev26: tracks side by side. -/
namespace Kx
open PySem PySem.Spec PyProof.Rows L2 GxR Gx Dy
def tName (t i j : Nat) : Str := (⟨#[97 + j]⟩ : Str) ++ sideT ((t + 3 * i) % 8)
theorem let_wrd : ∀ j, j < 5 → Wrd ⟨#[97 + j]⟩ := by
  intro j hj
  have m : ∀ j, j < 5 → 97 + j ∈ NS ∧ 97 + j ≠ 112 ∧ 97 + j ≠ 122 := by decide
  refine ⟨by show 1 ≤ 1; omega, by show 1 ≤ 4; omega, fun c hc => ?_⟩
  have : c = 97 + j := by
    have z : c ∈ [97 + j] := hc
    simpa using z
  rw [this]
  exact m j hj
theorem t_nm {t i j : Nat} (hj : j < 5) : Nm (tName t i j) := (let_wrd j hj).nm (by omega)
theorem t_hd {t i j : Nat} (hj : j < 5) : ∃ c, hd (tName t i j) = some c ∧ c ≠ 112 ∧ c ≠ 122 := (let_wrd j hj).hd
theorem t_inj {t i j i' j' : Nat} (hi : i < 8) (hi' : i' < 8) (e : tName t i j = tName t i' j') : i = i' ∧ j = j' := by
  have h := congrArg TL.tl e
  unfold tName at h
  rw [TL.tl_append, TL.tl_append] at h
  have h' : (97 + j) :: TL.tl (sideT ((t + 3 * i) % 8)) = (97 + j') :: TL.tl (sideT ((t + 3 * i') % 8)) := h
  injection h' with h1 h2
  have := sd_inj ((t + 3 * i) % 8) (by omega) ((t + 3 * i') % 8) (by omega) (TL.ext_tl h2)
  omega
def lnkT (t k j : Nat) : Lnk := ((tName t k j, 1), (tName t k (j + 1), 0), [])
structure Tk (t k : Nat) (st : St) : Prop where
  pts : st.pts = []
  s : ∀ s ∈ st.secs, ∃ i j, i < k ∧ j < 5 ∧ s = tName t i j
  nd : st.secs.Nodup
  c : st.secs.length ≤ 5 * k
  l : ∀ o ∈ st.links, ∃ i j, i < k ∧ j + 1 < 5 ∧ o = lnkT t i j ∧ tName t i j ∈ st.secs ∧ tName t i (j + 1) ∈ st.secs
  al : st.links.Pairwise fun o l => share l o = false
  lc : st.links.length ≤ 4 * k
  g : ∀ s ∈ st.sigs, ∃ i, i < k ∧ s = (zName ((t + 5 * i) % 16), (tName t i 0, 1)) ∧ tName t i 0 ∈ st.secs
  gn : (st.sigs.map (·.1)).Nodup
  ge : (st.sigs.map (·.2)).Nodup
  gc : st.sigs.length ≤ k
  ne : 0 < k → st.secs ≠ []
theorem share_T {t i j i' j' : Nat} (hi : i < 8) (hi' : i' < 8) (h : i ≠ i' ∨ j ≠ j') : share (lnkT t i j) (lnkT t i' j') = false := by
  refine share_no (fun e => ?_) (fun e => ?_) (fun e => ?_) (fun e => ?_)
  · have := t_inj hi hi' (Prod.mk.inj e).1
    omega
  · exact absurd (Prod.mk.inj e).2 (by decide)
  · exact absurd (Prod.mk.inj e).2 (by decide)
  · have := t_inj hi hi' (Prod.mk.inj e).1
    omega
def addT (t k m : Nat) (st : St) : St := ⟨st.secs ++ (List.range m).map (tName t k), st.pts, st.links ++ (List.range (m - 1)).map (lnkT t k), st.sigs ++ [(zName ((t + 5 * k) % 16), (tName t k 0, 1))]⟩
theorem Tk.add {t k m : Nat} {st : St} (h : Tk t k st) (hk : k < 8) (m2 : 2 ≤ m) (m5 : m ≤ 5) : Tk t (k + 1) (addT t k m st) where
  pts := h.pts
  s := fun s hs => by
    rcases List.mem_append.mp hs with hs | hs
    · obtain ⟨i, j, hi, hj, e⟩ := h.s s hs
      exact ⟨i, j, by omega, hj, e⟩
    · obtain ⟨j, hj, e⟩ := List.mem_map.mp hs
      have := List.mem_range.mp hj
      exact ⟨k, j, by omega, by omega, e.symm⟩
  nd := by
    refine List.nodup_append.mpr ⟨h.nd, nodup_range fun i hi j hj e => (t_inj hk hk e).2, fun a ha b hb e => ?_⟩
    obtain ⟨i, j, hi, hj, e1⟩ := h.s a ha
    obtain ⟨j', hj', e2⟩ := List.mem_map.mp hb
    have := t_inj (t := t) (i := i) (i' := k) (j := j) (j' := j') (by omega) hk (by rw [← e1, e, e2])
    omega
  c := by
    show (st.secs ++ _).length ≤ _
    have := h.c
    simp
    omega
  l := fun o ho => by
    rcases List.mem_append.mp ho with ho | ho
    · obtain ⟨i, j, hi, hj, e, e1, e2⟩ := h.l o ho
      exact ⟨i, j, by omega, hj, e, List.mem_append.mpr (.inl e1), List.mem_append.mpr (.inl e2)⟩
    · obtain ⟨j, hj, e⟩ := List.mem_map.mp ho
      have := List.mem_range.mp hj
      exact ⟨k, j, by omega, by omega, e.symm, List.mem_append.mpr (.inr (List.mem_map.mpr ⟨j, List.mem_range.mpr (by omega), rfl⟩)), List.mem_append.mpr (.inr (List.mem_map.mpr ⟨j + 1, List.mem_range.mpr (by omega), rfl⟩))⟩
  al := by
    refine List.pairwise_append.mpr ⟨h.al, List.pairwise_map.mpr (List.Pairwise.imp_of_mem (fun {a b} ha hb hne => share_T hk hk (.inr fun e => hne e.symm)) (List.nodup_range (n := m - 1))), fun o ho l hl => ?_⟩
    obtain ⟨i, j, hi, hj, e, _⟩ := h.l o ho
    obtain ⟨j', _, e2⟩ := List.mem_map.mp hl
    rw [e, ← e2]
    exact share_T hk (by omega) (.inl (by omega))
  lc := by
    show (st.links ++ _).length ≤ _
    have := h.lc
    simp
    omega
  g := fun s hs => by
    rcases List.mem_append.mp hs with hs | hs
    · obtain ⟨i, hi, e, e1⟩ := h.g s hs
      exact ⟨i, by omega, e, List.mem_append.mpr (.inl e1)⟩
    · exact ⟨k, by omega, List.mem_singleton.mp hs, List.mem_append.mpr (.inr (List.mem_map.mpr ⟨0, List.mem_range.mpr (by omega), rfl⟩))⟩
  gn := by
    show (List.map (fun x : Str × (Str × Nat) => x.1) (st.sigs ++ [(zName ((t + 5 * k) % 16), (tName t k 0, 1))])).Nodup
    rw [List.map_append]
    refine List.nodup_append.mpr ⟨h.gn, by simp, fun a ha b hb e => ?_⟩
    obtain ⟨s, hs, e1⟩ := List.mem_map.mp ha
    obtain ⟨i, hi, e2, _⟩ := h.g s hs
    have e3 : b = zName ((t + 5 * k) % 16) := List.mem_singleton.mp hb
    rw [e2] at e1
    have e4 : zName ((t + 5 * i) % 16) = zName ((t + 5 * k) % 16) := (e1.trans e).trans e3
    have := z_inj (by omega) (by omega) e4
    omega
  ge := by
    show (List.map (fun x : Str × (Str × Nat) => x.2) (st.sigs ++ [(zName ((t + 5 * k) % 16), (tName t k 0, 1))])).Nodup
    rw [List.map_append]
    refine List.nodup_append.mpr ⟨h.ge, by simp, fun a ha b hb e => ?_⟩
    obtain ⟨s, hs, e1⟩ := List.mem_map.mp ha
    obtain ⟨i, hi, e2, _⟩ := h.g s hs
    have e3 : b = (tName t k 0, 1) := List.mem_singleton.mp hb
    rw [e2] at e1
    have e4 : (tName t i 0, 1) = (tName t k 0, 1) := (e1.trans e).trans e3
    have := t_inj (t := t) (i := i) (i' := k) (j := 0) (j' := 0) (by omega) hk (Prod.mk.inj e4).1
    omega
  gc := by
    show (st.sigs ++ _).length ≤ _
    have := h.gc
    simp
    omega
  ne := fun _ e => by
    have : (List.range m).map (tName t k) = [] := (List.append_eq_nil_iff.mp e).2
    have := congrArg List.length this
    simp at this
    omega
theorem Tk.fits {t k : Nat} {st : St} (h : Tk t k st) (k1 : 0 < k) (k6 : k ≤ 6) : Fits st.srt ∧ ∀ l ∈ st.links, RLnk st l := by
  have c := h.c
  have lc := h.lc
  have gc := h.gc
  have gr : Gr st.secs t st := ⟨rfl, by rw [h.pts]; rfl, by rw [h.pts]; simp, by rw [h.pts]; simp, fun l hl => by
    obtain ⟨i, j, hi, hj, e, e1, e2⟩ := h.l l hl
    rw [e]
    refine ⟨⟨e1, by show 1 < 2; omega⟩, ⟨e2, by show 0 < 2; omega⟩, fun z => ?_, by simp [lnkT], by simp [lnkT], by simp [lnkT]⟩
    have := t_inj (t := t) (i := i) (i' := i) (j := j) (j' := j + 1) (by omega) (by omega) z
    omega, h.al.imp fun hs e => by rw [hs] at e; exact absurd e (by decide)⟩
  refine fits_of gr (fun s hs => ?_) h.nd (fun s hs => ?_) (h.ne k1) (by omega) (by omega) (fun s hs => ?_) h.gn (by omega) (fun s hs => ?_) h.ge
  · obtain ⟨i, j, hi, hj, e⟩ := h.s s hs
    rw [e]; exact t_nm hj
  · obtain ⟨i, j, hi, hj, e⟩ := h.s s hs
    rw [e]; exact t_hd hj
  · obtain ⟨i, hi, e, _⟩ := h.g s hs
    exact ⟨(t + 5 * i) % 16, by omega, by rw [e]⟩
  · obtain ⟨i, hi, e, e1⟩ := h.g s hs
    rw [e]
    exact ⟨e1, by show 1 < 2; omega⟩
section
variable {h : Hq} {n r t : Nat} {st : St} {ns : List Int} {S : List Str}
theorem put_sec {turn : Int} {S' : List Str} {sl : List Sl} (ls : LS h n st turn) : putS (.ref (n + 3)) (.str "sections") (.lst (S'.map .str)) sl h = .nx sl (h.set (n + 3) (.dk (kS S' n turn))) := by
  have p : put (kS st.secs n turn) (.inr (PySem.Str.ofString "sections") : Key) (.lst (S'.map .str)) = kS S' n turn := rfl
  unfold putS
  simp only [ls.s, Dy.keyOf, p]
  exact if_pos (by simp [kS, LIM])
theorem LS.sec {turn : Int} {S' : List Str} (ls : LS h n st turn) : LS (h.set (n + 3) (.dk (kS S' n turn))) n { st with secs := S' } turn := ⟨by rw [set_ne (by omega)]; exact ls.p, by rw [set_ne (by omega)]; exact ls.l, by rw [set_ne (by omega)]; exact ls.g, set_at ls.s⟩
theorem at_str {l : List Str} {i : Nat} {c : Str} (e : l[i]? = some c) : opSub_ (.lst (l.map .str)) (.int (i : Int)) h = .ok (.str c) h := sub_lst (by
  have := (List.getElem?_eq_some_iff.mp e).1
  unfold atI ixN
  rw [if_pos (by omega), if_pos (by rw [List.length_map]; omega)]
  show (List.map D.str l)[(i : Int).toNat]? = _
  rw [Int.toNat_natCast, List.getElem?_map, e]
  rfl)
abbrev tkL : FS := (fDrop (fBm .list opAppend (fBin opSub_ (fVar 2) (fC (.str "links"))) (aCons (fTup (aCons (fTup (aCons (fBin opSub_ (fVar 4) (fVar 5)) (aCons (fC (.int 1)) aNil))) (aCons (fTup (aCons (fBin opSub_ (fVar 4) (fBin opAddY (fVar 5) (fC (.int 1)))) (aCons (fC (.int 0)) aNil))) (aCons fNewK aNil)))) aNil)))
theorem tk_links {k m : Nat} {a0 a1 a3 : Sl} : ∀ {js : List Nat} {L : List Lnk} {h : Hq} {a5 : Sl}, LS h n { st with links := L } (t : Int) → RowOk ns h r → r < n → (∀ j ∈ js, j + 1 < m) → L.length + js.length < 1000 →
    ∃ b5 h', forGo (gNm 5) tkL (js.map fun (j : Nat) => D.int (j : Int)) [a0, a1, .va (.ref (n + 3)), a3, .va (.lst (((List.range m).map (tName t k)).map .str)), a5] h = .nx [a0, a1, .va (.ref (n + 3)), a3, .va (.lst (((List.range m).map (tName t k)).map .str)), b5] h' ∧
      LS h' n { st with links := L ++ js.map (lnkT t k) } (t : Int) ∧ RowOk ns h' r
  | [], L, h, a5, ls, ok, _, _, _ => ⟨a5, h, rfl, by rw [List.map_nil, List.append_nil]; exact ls, ok⟩
  | j :: js, L, h, a5, ls, ok, rn, hj, hl => by
    rw [List.length_cons] at hl
    have j1 := hj j List.mem_cons_self
    have g1 : opSub_ (.lst (((List.range m).map (tName t k)).map .str)) (.int (j : Int)) h = .ok (.str (tName t k j)) h := at_str (by rw [List.getElem?_map, List.getElem?_range (by omega)]; rfl)
    have g2 : opSub_ (.lst (((List.range m).map (tName t k)).map .str)) (.int ((j : Int) + 1)) h = .ok (.str (tName t k (j + 1))) h := at_str (i := j + 1) (by rw [List.getElem?_map, List.getElem?_range (by omega)]; rfl)
    have gl := sub_links ls.s
    have bl := bt_list ls.l
    have al : opAppend (.ref (n + 1)) [.tup [.tup [.str (tName t k j), .int 1], .tup [.str (tName t k (j + 1)), .int 0], .dk []]] h = .ok .non (h.set (n + 1) (.lst ((L ++ [lnkT t k j]).map dRaw))) := app_lk (a := (tName t k j, 1)) (b := (tName t k (j + 1), 0)) (ws := []) ls (by show L.length < 1000; omega)
    have ls2 := ls.lnk (L := L ++ [lnkT t k j])
    have ok2 := ok.ne (c := .lst ((L ++ [lnkT t k j]).map dRaw)) (q := n + 1) (by omega)
    obtain ⟨b5, h', e, ls3, ok3⟩ := tk_links (k := k) (m := m) (a0 := a0) (a1 := a1) (a3 := a3) (a5 := .va (.int (j : Int))) (js := js) (L := L ++ [lnkT t k j]) ls2 ok2 rn (fun z hz => hj z (List.mem_cons_of_mem _ hz)) (by rw [List.length_append]; simp; omega)
    refine ⟨b5, h', (go_cons (bs := [(5, .int (j : Int))]) rfl ?_).trans e, by rw [List.map_cons]; rw [List.append_assoc] at ls3; exact ls3, ok3⟩
    show tkL [a0, a1, .va (.ref (n + 3)), a3, .va (.lst (((List.range m).map (tName t k)).map .str)), .va (.int (j : Int))] h = _
    rw [tkL]
    simp only [gl, bl, g1, add_i, g2, a_newK, al, a_run1, a_run2, fin_rt, fin_nx, a_seq, seq_nx, seq_rt, a_ret, a_retN, a_set, a_if, a_nx, a_var, get_va, a_c, a_nil, a_cons, a_bin, a_cb, a_call, a_and, a_or, a_bAnd, a_bOr, a_bNot, a_asB, a_tru, a_tup, a_lst, a_asg, a_drop, a_bm, a_ite, and_t, and_f, or_t, or_f, asB_bl, tru_bl, b_ok, s_ok, List.length_cons, List.length_nil, List.map_cons, List.map_nil, List.set_cons_zero, List.set_cons_succ, List.getElem?_cons_zero, List.getElem?_cons_succ, Bool.not_true, Bool.not_false, if_true, if_false, Bool.true_eq_false, Bool.false_eq_true, reduceIte, Nat.reduceAdd, Nat.reduceSub, Nat.reduceLeDiff, Nat.zero_add, eq_self, LIM]
theorem r1_ok {fs : FI} {sl : List Sl} {h1 : Hq} {m : Nat} (e : fs sl h = .ok [.int (m : Int)] h1) (hm : m < 1000) : iR1 fs sl h = .ok ((List.range m).map fun (k : Nat) => .int (k : Int)) h1 := by
  unfold iR1
  rw [e, R.bind_ok]
  have c1 : -(2 ^ 62) ≤ (m : Int) ∧ (m : Int) < 2 ^ 62 := by
    constructor
    · have : (-(2 ^ 62) : Int) ≤ 0 := by decide
      omega
    · have : (1000 : Int) < 2 ^ 62 := by decide
      omega
  exact if_pos c1
abbrev tk4 : FS := (fSet 4 (fLc (iR1 (aCons (fBin opAddY (fC (.int 2)) (fCall 2 r_law_taken (aCons (fVar 0) (aCons (fC (.int 4)) aNil)))) aNil)) (gNm 5) bYes (fBin opAddY (fBin opSub_ (fC (.str "abcde")) (fVar 5)) (fCb opStr (aCons (fBin opMod (fBin opAddY (fVar 1) (fBin opMulX (fC (.int 3)) (fVar 3))) (fC (.int 8))) aNil))) [5]))
abbrev tkS : FS := (fPut (fVar 2) (fC (.str "sections")) (fBin opAddY (fBin opSub_ (fVar 2) (fC (.str "sections"))) (fVar 4)))
abbrev tkZ : FS := (fPut (fBin opSub_ (fVar 2) (fC (.str "signals"))) (fBin opAddY (fC (.str "z")) (fCb opStr (aCons (fBin opMod (fBin opAddY (fVar 1) (fBin opMulX (fC (.int 5)) (fVar 3))) (fC (.int 16))) aNil))) (fTup (aCons (fBin opSub_ (fVar 4) (fC (.int 0))) (aCons (fC (.int 1)) aNil))))
abbrev tkF : FS := (fFor (iR1 (aCons (fBin opSub (fCb opLen (aCons (fVar 4) aNil)) (fC (.int 1))) aNil)) (gNm 5) tkL)
abbrev tkBody : FS := (fSeq tk4 (fSeq tkS (fSeq tkZ tkF)))
theorem abc_at : ∀ j, j < 5 → (TL.tl (PySem.Str.ofString "abcde"))[j]? = some (97 + j) := by decide +kernel
theorem abc_len : (PySem.Str.ofString "abcde").length = 5 := by decide +kernel
structure Tp (ns : List Int) (r n t : Nat) (j : Nat) (sl : List Sl) (h : Hq) : Prop where
  x : ∃ (st : St) (a3 a4 a5 : Sl), sl = [.va (.ref r), .va (.int (t : Int)), .va (.ref (n + 3)), a3, a4, a5] ∧ RowOk ns h r ∧ LS h n st (t : Int) ∧ Tk t j st
theorem tk_step {k : Nat} {sl : List Sl} (rn : r < n) (hk : k < 6) (tp : Tp ns r n t k sl h) : ∃ sl' h', tkBody (sets sl [(3, .int (k : Int))]) h = .nx sl' h' ∧ Tp ns r n t (k + 1) sl' h' := by
  obtain ⟨st, a3, a4, a5, rfl, ok, ls, tk⟩ := tp.x
  have l1 : LIM = 16777216 := rfl
  obtain ⟨m0, c, e1, b1, ok1⟩ := taken_nat ok (m := 4) (by omega) (by omega)
  have e1' : r_law_taken [.ref r, .int 4] h = .ok (.int (m0 : Int)) (h.set r c) := e1
  have ls1 := ls.row (c := c) rn
  generalize h.set r c = h1 at *
  have r4 : iR1 (aCons (fBin opAddY (fC (.int 2)) (fCall 2 r_law_taken (aCons (fVar 0) (aCons (fC (.int 4)) aNil)))) aNil) [.va (.ref r), .va (.int (t : Int)), .va (.ref (n + 3)), .va (.int (k : Int)), a4, a5] h = .ok ((List.range (2 + m0)).map fun (k : Nat) => .int (k : Int)) h1 := r1_ok (by
    simp only [e1', add_i, a_run1, a_run2, fin_rt, fin_nx, a_seq, seq_nx, seq_rt, a_ret, a_retN, a_set, a_if, a_nx, a_var, get_va, a_c, a_nil, a_cons, a_bin, a_cb, a_call, a_and, a_or, a_bAnd, a_bOr, a_bNot, a_asB, a_tru, a_tup, a_lst, a_asg, a_drop, a_bm, a_ite, and_t, and_f, or_t, or_f, asB_bl, tru_bl, b_ok, s_ok, List.length_cons, List.length_nil, List.map_cons, List.map_nil, List.set_cons_zero, List.set_cons_succ, List.getElem?_cons_zero, List.getElem?_cons_succ, Bool.not_true, Bool.not_false, if_true, if_false, Bool.true_eq_false, Bool.false_eq_true, reduceIte, Nat.reduceAdd, Nat.reduceSub, Nat.reduceLeDiff, Nat.zero_add, eq_self, LIM]
    rfl) (by omega)
  have n4 : fLc (iR1 (aCons (fBin opAddY (fC (.int 2)) (fCall 2 r_law_taken (aCons (fVar 0) (aCons (fC (.int 4)) aNil)))) aNil)) (gNm 5) bYes (fBin opAddY (fBin opSub_ (fC (.str "abcde")) (fVar 5)) (fCb opStr (aCons (fBin opMod (fBin opAddY (fVar 1) (fBin opMulX (fC (.int 3)) (fVar 3))) (fC (.int 8))) aNil))) [5] [.va (.ref r), .va (.int (t : Int)), .va (.ref (n + 3)), .va (.int (k : Int)), a4, a5] h = .ok (.lst (((List.range (2 + m0)).map (tName t k)).map .str)) h1 := by
    rw [List.map_map]
    refine ev_lcT (ft := gNm 5) (xs := List.range (2 + m0)) (emb := fun (k : Nat) => D.int (k : Int)) (fun k => [(5, .int (k : Int))]) r4 (by simp; omega) (fun _ _ => rfl) (fun j hj => ?_)
    have hj := List.mem_range.mp hj
    have ab : opSub_ (.str "abcde") (.int (j : Int)) h1 = .ok (.str ⟨#[97 + j]⟩) h1 := idx_str (abc_at j (by omega)) (by rw [abc_len]; omega)
    have sl := sd_len ((t + 3 * k) % 8) (by omega)
    have ad : opAddY (.str ⟨#[97 + j]⟩) (.str (sideT ((t + 3 * k) % 8))) h1 = .ok (.str (tName t k j)) h1 := add_str (by
      rw [slen]
      show 1 + _ ≤ _
      omega)
    show fBin opAddY _ _ [.va (.ref r), .va (.int (t : Int)), .va (.ref (n + 3)), .va (.int (k : Int)), a4, .va (.int (j : Int))] h1 = _
    simp only [ab, mul3, add_nat, mod8, w_name, ad, a_run1, a_run2, fin_rt, fin_nx, a_seq, seq_nx, seq_rt, a_ret, a_retN, a_set, a_if, a_nx, a_var, get_va, a_c, a_nil, a_cons, a_bin, a_cb, a_call, a_and, a_or, a_bAnd, a_bOr, a_bNot, a_asB, a_tru, a_tup, a_lst, a_asg, a_drop, a_bm, a_ite, and_t, and_f, or_t, or_f, asB_bl, tru_bl, b_ok, s_ok, List.length_cons, List.length_nil, List.map_cons, List.map_nil, List.set_cons_zero, List.set_cons_succ, List.getElem?_cons_zero, List.getElem?_cons_succ, Bool.not_true, Bool.not_false, if_true, if_false, Bool.true_eq_false, Bool.false_eq_true, reduceIte, Nat.reduceAdd, Nat.reduceSub, Nat.reduceLeDiff, Nat.zero_add, eq_self, LIM]
    rfl
  have c := tk.c
  have gc := tk.gc
  have lc := tk.lc
  have ss := sub_sections ls1.s
  have as : opAddY (.lst (st.secs.map .str)) (.lst (((List.range (2 + m0)).map (tName t k)).map .str)) h1 = .ok (.lst ((st.secs ++ (List.range (2 + m0)).map (tName t k)).map .str)) h1 := by
    rw [add_lst (by simp [LIM]; omega), ← List.map_append]
  have ps := fun sl => put_sec (sl := sl) (S' := st.secs ++ (List.range (2 + m0)).map (tName t k)) ls1
  have ls2 := ls1.sec (S' := st.secs ++ (List.range (2 + m0)).map (tName t k))
  have ok2 := ok1.ne (c := .dk (kS (st.secs ++ (List.range (2 + m0)).map (tName t k)) n (t : Int))) (q := n + 3) (by omega)
  generalize h1.set (n + 3) (.dk (kS (st.secs ++ (List.range (2 + m0)).map (tName t k)) n (t : Int))) = h2 at *
  have sg := sub_signals ls2.s
  have n0 : opSub_ (.lst (((List.range (2 + m0)).map (tName t k)).map .str)) (.int 0) h2 = .ok (.str (tName t k 0)) h2 := at_str (i := 0) (by rw [List.getElem?_map, List.getElem?_range (by omega)]; rfl)
  have zn : (.inr (zName ((t + 5 * k) % 16)) : Key) ∉ (st.sigs.map kSig).map (·.1) := by
    intro hm
    rw [List.map_map] at hm
    obtain ⟨s, hs, e⟩ := List.mem_map.mp hm
    obtain ⟨i, hi, e2, _⟩ := tk.g s hs
    have e3 : s.1 = zName ((t + 5 * k) % 16) := Sum.inr.inj e
    rw [e2] at e3
    have := z_inj (i := (t + 5 * i) % 16) (j := (t + 5 * k) % 16) (by omega) (by omega) e3
    omega
  have pz := fun sl => put_sg (sl := sl) (x := (tName t k 0, 1)) ls2 zn (by show st.sigs.length < 1000; omega)
  have pz' : ∀ sl, putS (.ref (n + 2)) (.str (zName ((t + 5 * k) % 16))) (.tup [.str (tName t k 0), .int 1]) sl h2 = .nx sl (h2.set (n + 2) (.dk ((st.sigs ++ [(zName ((t + 5 * k) % 16), (tName t k 0, 1))]).map kSig))) := pz
  have ls3 := ls2.sg (G := st.sigs ++ [(zName ((t + 5 * k) % 16), (tName t k 0, 1))])
  have ok3 := ok2.ne (c := .dk ((st.sigs ++ [(zName ((t + 5 * k) % 16), (tName t k 0, 1))]).map kSig)) (q := n + 2) (by omega)
  generalize h2.set (n + 2) (.dk ((st.sigs ++ [(zName ((t + 5 * k) % 16), (tName t k 0, 1))]).map kSig)) = h3 at *
  have f5 : opAddY (.str "z") (.str (sideT ((t + 5 * k) % 16))) h2 = .ok (.str (zName ((t + 5 * k) % 16))) h2 := z_add (by omega)
  obtain ⟨b5, h4, e4, ls4, ok4⟩ := tk_links (st := ⟨st.secs ++ (List.range (2 + m0)).map (tName t k), st.pts, st.links, st.sigs ++ [(zName ((t + 5 * k) % 16), (tName t k 0, 1))]⟩) (k := k) (m := 2 + m0) (a0 := .va (.ref r)) (a1 := .va (.int (t : Int))) (a3 := .va (.int (k : Int))) (a5 := a5) (js := List.range (1 + m0)) (L := st.links) ls3 ok3 rn (fun j hj => by have := List.mem_range.mp hj; omega) (by rw [List.length_range]; omega)
  have r5 : iR1 (aCons (fBin opSub (fCb opLen (aCons (fVar 4) aNil)) (fC (.int 1))) aNil) [.va (.ref r), .va (.int (t : Int)), .va (.ref (n + 3)), .va (.int (k : Int)), .va (.lst (((List.range (2 + m0)).map (tName t k)).map .str)), a5] h3 = .ok ((List.range (1 + m0)).map fun (k : Nat) => .int (k : Int)) h3 := r1_ok (by
    have ln : opLen [.lst (((List.range (2 + m0)).map (tName t k)).map .str)] h3 = .ok (.int ((2 + m0 : Nat) : Int)) h3 := by rw [len_lst, List.length_map, List.length_map, List.length_range]
    have sb : opSub (.int ((2 + m0 : Nat) : Int)) (.int 1) h3 = .ok (.int ((1 + m0 : Nat) : Int)) h3 := by
      show R.ok (D.int (((2 + m0 : Nat) : Int) - 1)) h3 = _
      have : ((2 + m0 : Nat) : Int) - 1 = ((1 + m0 : Nat) : Int) := by omega
      rw [this]
    simp only [ln, sb, a_run1, a_run2, fin_rt, fin_nx, a_seq, seq_nx, seq_rt, a_ret, a_retN, a_set, a_if, a_nx, a_var, get_va, a_c, a_nil, a_cons, a_bin, a_cb, a_call, a_and, a_or, a_bAnd, a_bOr, a_bNot, a_asB, a_tru, a_tup, a_lst, a_asg, a_drop, a_bm, a_ite, and_t, and_f, or_t, or_f, asB_bl, tru_bl, b_ok, s_ok, List.length_cons, List.length_nil, List.map_cons, List.map_nil, List.set_cons_zero, List.set_cons_succ, List.getElem?_cons_zero, List.getElem?_cons_succ, Bool.not_true, Bool.not_false, if_true, if_false, Bool.true_eq_false, Bool.false_eq_true, reduceIte, Nat.reduceAdd, Nat.reduceSub, Nat.reduceLeDiff, Nat.zero_add, eq_self, LIM]) (by omega)
  refine ⟨[.va (.ref r), .va (.int (t : Int)), .va (.ref (n + 3)), .va (.int (k : Int)), .va (.lst (((List.range (2 + m0)).map (tName t k)).map .str)), b5], h4, ?_, ⟨addT t k (2 + m0) st, _, _, _, rfl, ok4, ?_, tk.add (by omega) (by omega) (by omega)⟩⟩
  · show tkBody [.va (.ref r), .va (.int (t : Int)), .va (.ref (n + 3)), .va (.int (k : Int)), a4, a5] h = _
    rw [tkBody, a_seq, tk4, a_set, n4]
    simp only [a_put, ss, as, ps, n0, mul5, add_nat, mod16, z_name, f5, sg, pz', a_for, a_run1, a_run2, fin_rt, fin_nx, a_seq, seq_nx, seq_rt, a_ret, a_retN, a_set, a_if, a_nx, a_var, get_va, a_c, a_nil, a_cons, a_bin, a_cb, a_call, a_and, a_or, a_bAnd, a_bOr, a_bNot, a_asB, a_tru, a_tup, a_lst, a_asg, a_drop, a_bm, a_ite, and_t, and_f, or_t, or_f, asB_bl, tru_bl, b_ok, s_ok, List.length_cons, List.length_nil, List.map_cons, List.map_nil, List.set_cons_zero, List.set_cons_succ, List.getElem?_cons_zero, List.getElem?_cons_succ, Bool.not_true, Bool.not_false, if_true, if_false, Bool.true_eq_false, Bool.false_eq_true, reduceIte, Nat.reduceAdd, Nat.reduceSub, Nat.reduceLeDiff, Nat.zero_add, eq_self, LIM]
    rw [r5, s_ok, e4]
  · have e : 2 + m0 - 1 = 1 + m0 := by omega
    unfold addT
    rw [e]
    exact ls4
end
end Kx
end

section
set_option linter.all false
set_option maxRecDepth 100000
set_option maxHeartbeats 400000
/-! Ev27: the law runs. -/
namespace Kx
open PySem PySem.Spec PyProof.Rows L2 GxR Gx Dy
section
variable {h : Hq} {n r t : Nat} {ns : List Int}
theorem tracks_eq : f_law_tracks = (fSeq (fSet 1 (fCall 2 r_law_taken (aCons (fVar 0) (aCons (fC (.int 16)) aNil))))
  (fSeq (fSet 2 (newCell (fDisp [((fC (.str "sections")), (fLst aNil)), ((fC (.str "points")), (newCell fNewK)), ((fC (.str "links")), (newCell (fLst aNil))), ((fC (.str "signals")), (newCell fNewK)), ((fC (.str "turn")), (fVar 1))])))
  (fSeq (fFor (iR1 (aCons (fBin opAddY (fC (.int 2)) (fCall 2 r_law_taken (aCons (fVar 0) (aCons (fC (.int 5)) aNil)))) aNil)) (gNm 3) tkBody)
  (fRet (fVar 2))))) := rfl
theorem a_disp5' {h : Hq} {sl : List Sl} {v5 : D} (e5 : ∀ h, fVar 1 sl h = .ok v5 h) :
    fDisp [((fC (.str "sections")), (fLst aNil)), ((fC (.str "points")), (newCell fNewK)), ((fC (.str "links")), (newCell (fLst aNil))), ((fC (.str "signals")), (newCell fNewK)), ((fC (.str "turn")), (fVar 1))] sl h =
      .ok (.dk [(.inr "sections", .lst []), (.inr "points", .ref h.length), (.inr "links", .ref (h.length + 1)), (.inr "signals", .ref (h.length + 2)), (.inr "turn", v5)]) (h ++ [.dk []] ++ [.lst []] ++ [.dk []]) := by
  have n1 : ∀ sl h, newCell fNewK sl h = .ok (.ref h.length) (h ++ [.dk []]) := fun _ _ => rfl
  have n2 : ∀ sl h, newCell (fLst aNil) sl h = .ok (.ref h.length) (h ++ [.lst []]) := fun _ _ => rfl
  have e1 : ∀ sl h, fLst aNil sl h = .ok (.lst []) h := fun _ _ => rfl
  unfold fDisp
  simp only [dpGo, a_c, b_ok, e1, Dy.keyOf, n1, n2, e5]
  rw [if_pos (by simp), merge_new _ [] (by
    show (List.map (fun x : Key × D => x.1) [(.inr "sections", .lst []), (.inr "points", .ref h.length), (.inr "links", _), (.inr "signals", _), (.inr "turn", v5)]).Nodup
    simp only [List.map_cons, List.map_nil]
    decide +kernel)]
  simp only [List.nil_append, List.length_append, List.length_cons, List.length_nil]
theorem tk_loop (rn : r < n) : ∀ {m j : Nat} {sl : List Sl} {h : Hq}, j + m ≤ 6 → Tp ns r n t j sl h → ∃ sl' h', forGo (gNm 3) tkBody ((List.range' j m).map fun (k : Nat) => D.int (k : Int)) sl h = .nx sl' h' ∧ Tp ns r n t (j + m) sl' h'
  | 0, j, sl, h, _, tp => ⟨sl, h, rfl, tp⟩
  | m + 1, j, sl, h, hm, tp => by
    obtain ⟨sl1, h1, e1, tp1⟩ := tk_step (k := j) rn (by omega) tp
    obtain ⟨sl2, h2, e2, tp2⟩ := tk_loop rn (m := m) (j := j + 1) (by omega) tp1
    refine ⟨sl2, h2, ?_, by rw [show j + (m + 1) = j + 1 + m by omega]; exact tp2⟩
    rw [List.range'_succ, List.map_cons]
    exact (go_cons (bs := [(3, .int (j : Int))]) rfl e1).trans e2
theorem e_tracks (ok : RowOk ns h r) : ∃ n h', r_law_tracks [.ref r] h = .ok (.ref (n + 3)) h' ∧ Drawn h' n := by
  obtain ⟨t, c1, e1, b1, ok1⟩ := taken_nat ok (m := 16) (by omega) (by omega)
  have e1' : r_law_taken [.ref r, .int 16] h = .ok (.int (t : Int)) (h.set r c1) := e1
  generalize h.set r c1 = h1 at *
  let n := h1.length
  have rn : r < n := ok1.lt
  let h2 := h1 ++ [C.dk []] ++ [.lst []] ++ [.dk []] ++ [.dk (kS [] n (t : Int))]
  have ls2 : LS h2 n (stE []) (t : Int) := new_st
  have ok2 : RowOk ns h2 r := (((ok1.app).app).app).app
  have n2 : newCell (fDisp [((fC (.str "sections")), (fLst aNil)), ((fC (.str "points")), (newCell fNewK)), ((fC (.str "links")), (newCell (fLst aNil))), ((fC (.str "signals")), (newCell fNewK)), ((fC (.str "turn")), (fVar 1))]) [.va (.ref r), .va (.int (t : Int)), .no, .no, .no, .no] h1 = .ok (.ref (n + 3)) h2 := by
    rw [a_newCell, a_disp5' (v5 := .int (t : Int)) (fun _ => rfl), b_ok]
    show R.ok (D.ref (h1 ++ [C.dk []] ++ [C.lst []] ++ [C.dk []]).length) _ = _
    have : (h1 ++ [C.dk []] ++ [C.lst []] ++ [C.dk []]).length = n + 3 := by simp [n]
    rw [this]
    rfl
  clear_value h2
  clear_value n
  obtain ⟨m0, c3, e3, b3, ok3⟩ := taken_nat ok2 (m := 5) (by omega) (by omega)
  have e3' : r_law_taken [.ref r, .int 5] h2 = .ok (.int (m0 : Int)) (h2.set r c3) := e3
  have ls3 := ls2.row (c := c3) rn
  generalize h2.set r c3 = h3 at *
  have tp0 : Tp ns r n t 0 [.va (.ref r), .va (.int (t : Int)), .va (.ref (n + 3)), .no, .no, .no] h3 := ⟨stE [], _, _, _, rfl, ok3, ls3, ⟨rfl, by simp [stE], by simp [stE], by simp [stE], by simp [stE], by simp [stE], by simp [stE], by simp [stE], by simp [stE], by simp [stE], by simp [stE], by simp⟩⟩
  obtain ⟨sl4, h4, e4, tp4⟩ := tk_loop rn (m := 2 + m0) (j := 0) (by omega) tp0
  rw [Nat.zero_add] at tp4
  rw [← List.range_eq_range'] at e4
  obtain ⟨st, a3, a4, a5, rfl, ok4, ls4, tk4⟩ := tp4.x
  refine ⟨n, h4, ?_, st, (t : Int), ls4, tk4.fits (by omega) (by omega)⟩
  have r3 : iR1 (aCons (fBin opAddY (fC (.int 2)) (fCall 2 r_law_taken (aCons (fVar 0) (aCons (fC (.int 5)) aNil)))) aNil) [.va (.ref r), .va (.int (t : Int)), .va (.ref (n + 3)), .no, .no, .no] h2 = .ok ((List.range (2 + m0)).map fun (k : Nat) => .int (k : Int)) h3 := r1_ok (by
    simp only [e3', add_i, a_run1, a_run2, fin_rt, fin_nx, a_seq, seq_nx, seq_rt, a_ret, a_retN, a_set, a_if, a_nx, a_var, get_va, a_c, a_nil, a_cons, a_bin, a_cb, a_call, a_and, a_or, a_bAnd, a_bOr, a_bNot, a_asB, a_tru, a_tup, a_lst, a_asg, a_drop, a_bm, a_ite, and_t, and_f, or_t, or_f, asB_bl, tru_bl, b_ok, s_ok, List.length_cons, List.length_nil, List.map_cons, List.map_nil, List.set_cons_zero, List.set_cons_succ, List.getElem?_cons_zero, List.getElem?_cons_succ, Bool.not_true, Bool.not_false, if_true, if_false, Bool.true_eq_false, Bool.false_eq_true, reduceIte, Nat.reduceAdd, Nat.reduceSub, Nat.reduceLeDiff, Nat.zero_add, eq_self, LIM]
    rfl) (by omega)
  rw [r_law_tracks, a_run1]
  show RS.fin (f_law_tracks [.va (.ref r), .no, .no, .no, .no, .no] h) = _
  rw [tracks_eq, a_seq, a_set]
  simp only [e1', a_run1, a_run2, fin_rt, fin_nx, a_seq, seq_nx, seq_rt, a_ret, a_retN, a_set, a_if, a_nx, a_var, get_va, a_c, a_nil, a_cons, a_bin, a_cb, a_call, a_and, a_or, a_bAnd, a_bOr, a_bNot, a_asB, a_tru, a_tup, a_lst, a_asg, a_drop, a_bm, a_ite, and_t, and_f, or_t, or_f, asB_bl, tru_bl, b_ok, s_ok, List.length_cons, List.length_nil, List.map_cons, List.map_nil, List.set_cons_zero, List.set_cons_succ, List.getElem?_cons_zero, List.getElem?_cons_succ, Bool.not_true, Bool.not_false, if_true, if_false, Bool.true_eq_false, Bool.false_eq_true, reduceIte, Nat.reduceAdd, Nat.reduceSub, Nat.reduceLeDiff, Nat.zero_add, eq_self, LIM]
  rw [n2]
  simp only [a_for, a_run1, a_run2, fin_rt, fin_nx, a_seq, seq_nx, seq_rt, a_ret, a_retN, a_set, a_if, a_nx, a_var, get_va, a_c, a_nil, a_cons, a_bin, a_cb, a_call, a_and, a_or, a_bAnd, a_bOr, a_bNot, a_asB, a_tru, a_tup, a_lst, a_asg, a_drop, a_bm, a_ite, and_t, and_f, or_t, or_f, asB_bl, tru_bl, b_ok, s_ok, List.length_cons, List.length_nil, List.map_cons, List.map_nil, List.set_cons_zero, List.set_cons_succ, List.getElem?_cons_zero, List.getElem?_cons_succ, Bool.not_true, Bool.not_false, if_true, if_false, Bool.true_eq_false, Bool.false_eq_true, reduceIte, Nat.reduceAdd, Nat.reduceSub, Nat.reduceLeDiff, Nat.zero_add, eq_self, LIM]
  rw [r3, s_ok, e4]
  simp only [a_run1, a_run2, fin_rt, fin_nx, a_seq, seq_nx, seq_rt, a_ret, a_retN, a_set, a_if, a_nx, a_var, get_va, a_c, a_nil, a_cons, a_bin, a_cb, a_call, a_and, a_or, a_bAnd, a_bOr, a_bNot, a_asB, a_tru, a_tup, a_lst, a_asg, a_drop, a_bm, a_ite, and_t, and_f, or_t, or_f, asB_bl, tru_bl, b_ok, s_ok, List.length_cons, List.length_nil, List.map_cons, List.map_nil, List.set_cons_zero, List.set_cons_succ, List.getElem?_cons_zero, List.getElem?_cons_succ, Bool.not_true, Bool.not_false, if_true, if_false, Bool.true_eq_false, Bool.false_eq_true, reduceIte, Nat.reduceAdd, Nat.reduceSub, Nat.reduceLeDiff, Nat.zero_add, eq_self, LIM]
theorem e_station (ok : RowOk ns h r) : ∃ n h', r_law_station [.ref r] h = .ok (.ref (n + 3)) h' ∧ Drawn h' n := by
  obtain ⟨w, c1, e1, b1, ok1⟩ := taken_nat ok (m := 4) (by omega) (by omega)
  have e1' : r_law_taken [.ref r, .int 4] h = .ok (.int (w : Int)) (h.set r c1) := e1
  generalize h.set r c1 = h1 at *
  by_cases hw : (w : Int) = 3
  · obtain ⟨n, h', e2, dr⟩ := e_tracks ok1
    refine ⟨n, h', ?_, dr⟩
    rw [r_law_station, a_run1]
    show RS.fin (f_law_station [.va (.ref r), .no, .no, .no, .no, .no, .no, .no, .no, .no, .no, .no, .no, .no] h) = _
    rw [station_eq]
    generalize wTail = T
    simp only [e1', op_eq_int, decide_eq_true hw, e2, a_run1, a_run2, fin_rt, fin_nx, a_seq, seq_nx, seq_rt, a_ret, a_retN, a_set, a_if, a_nx, a_var, get_va, a_c, a_nil, a_cons, a_bin, a_cb, a_call, a_and, a_or, a_bAnd, a_bOr, a_bNot, a_asB, a_tru, a_tup, a_lst, a_asg, a_drop, a_bm, a_ite, and_t, and_f, or_t, or_f, asB_bl, tru_bl, b_ok, s_ok, List.length_cons, List.length_nil, List.map_cons, List.map_nil, List.set_cons_zero, List.set_cons_succ, List.getElem?_cons_zero, List.getElem?_cons_succ, Bool.not_true, Bool.not_false, if_true, if_false, Bool.true_eq_false, Bool.false_eq_true, reduceIte, Nat.reduceAdd, Nat.reduceSub, Nat.reduceLeDiff, Nat.zero_add, eq_self, LIM]
  · obtain ⟨n, h', e2, dr⟩ := e_whole ok1
    refine ⟨n, h', ?_, dr⟩
    rw [r_law_station, a_run1]
    show RS.fin (f_law_station [.va (.ref r), .no, .no, .no, .no, .no, .no, .no, .no, .no, .no, .no, .no, .no] h) = _
    rw [station_eq]
    generalize wTail = T at e2 ⊢
    simp only [e1', op_eq_int, decide_eq_false hw, e2, a_run1, a_run2, fin_rt, fin_nx, a_seq, seq_nx, seq_rt, a_ret, a_retN, a_set, a_if, a_nx, a_var, get_va, a_c, a_nil, a_cons, a_bin, a_cb, a_call, a_and, a_or, a_bAnd, a_bOr, a_bNot, a_asB, a_tru, a_tup, a_lst, a_asg, a_drop, a_bm, a_ite, and_t, and_f, or_t, or_f, asB_bl, tru_bl, b_ok, s_ok, List.length_cons, List.length_nil, List.map_cons, List.map_nil, List.set_cons_zero, List.set_cons_succ, List.getElem?_cons_zero, List.getElem?_cons_succ, Bool.not_true, Bool.not_false, if_true, if_false, Bool.true_eq_false, Bool.false_eq_true, reduceIte, Nat.reduceAdd, Nat.reduceSub, Nat.reduceLeDiff, Nat.zero_add, eq_self, LIM]
theorem as_text {st : St} (f : Fits st) : As (textOf st) := by
  intro c hc
  unfold textOf at hc
  rw [TL.join_eq] at hc
  rcases join_mem hc with hc | ⟨p, hp, hc⟩
  · revert hc
    have : ∀ c ∈ TL.tl (PySem.Str.ofString "\n"), c < 128 := by decide +kernel
    exact this c
  · obtain ⟨ws, hw, rfl⟩ := List.mem_map.mp hp
    unfold rowT at hc
    rw [TL.join_eq] at hc
    rcases join_mem hc with hc | ⟨p, hp, hc⟩
    · revert hc
      have : ∀ c ∈ TL.tl (PySem.Str.ofString " "), c < 128 := by decide +kernel
      exact this c
    · exact ((f.wd ws hw).1 p hp c hc).2.2
abbrev lawB : FS := (fSeq (fSet 5 (fCall 1 r_layout_text (aCons (fVar 3) aNil)))
  (fSeq (fIf (bOr (bNot (fTru (fIsStr (fVar 5)))) (fAsB (fBin opNeH (fVar 5) (fVar 2)))) (fRet (fC (.bl false))) fNx)
  (fSet 3 (fCall 1 r_read_layout (aCons (fVar 5) aNil)))))
theorem law_turn {st : St} {a0 a1 a4 a5 : Sl} {k : Nat} (f : Fits st) (e : h[k]? = some (cSt st)) : ∃ k' h', lawB [a0, a1, .va (.str (textOf st)), .va (.ref k), a4, a5] h = .nx [a0, a1, .va (.str (textOf st)), .va (.ref k'), a4, .va (.str (textOf st))] h' ∧ h'[k']? = some (cSt st) := by
  obtain ⟨h1, e1⟩ := e_layout_text f e
  obtain ⟨h2, e2, e3⟩ := e_read_layout f h1
  refine ⟨h1.length, h2, ?_, e3⟩
  have ne : opNeH (.str (textOf st)) (.str (textOf st)) h1 = .ok (.bl false) h1 := by rw [op_ne_str (as_text f) (as_text f), decide_eq_true rfl]; rfl
  have is : ∀ sl : List Sl, sl[5]? = some (.va (.str (textOf st))) → fIsStr (fVar 5) sl h1 = .ok (.bl true) h1 := fun sl hs => by
    unfold fIsStr
    rw [ev_var hs]
    rfl
  rw [lawB, a_seq, a_set]
  simp only [e1, a_run1, a_run2, fin_rt, fin_nx, a_seq, seq_nx, seq_rt, a_ret, a_retN, a_set, a_if, a_nx, a_var, get_va, a_c, a_nil, a_cons, a_bin, a_cb, a_call, a_and, a_or, a_bAnd, a_bOr, a_bNot, a_asB, a_tru, a_tup, a_lst, a_asg, a_drop, a_bm, a_ite, and_t, and_f, or_t, or_f, asB_bl, tru_bl, b_ok, s_ok, List.length_cons, List.length_nil, List.map_cons, List.map_nil, List.set_cons_zero, List.set_cons_succ, List.getElem?_cons_zero, List.getElem?_cons_succ, Bool.not_true, Bool.not_false, if_true, if_false, Bool.true_eq_false, Bool.false_eq_true, reduceIte, Nat.reduceAdd, Nat.reduceSub, Nat.reduceLeDiff, Nat.zero_add, eq_self, LIM]
  rw [is _ rfl]
  simp only [ne, e2, a_run1, a_run2, fin_rt, fin_nx, a_seq, seq_nx, seq_rt, a_ret, a_retN, a_set, a_if, a_nx, a_var, get_va, a_c, a_nil, a_cons, a_bin, a_cb, a_call, a_and, a_or, a_bAnd, a_bOr, a_bNot, a_asB, a_tru, a_tup, a_lst, a_asg, a_drop, a_bm, a_ite, and_t, and_f, or_t, or_f, asB_bl, tru_bl, b_ok, s_ok, List.length_cons, List.length_nil, List.map_cons, List.map_nil, List.set_cons_zero, List.set_cons_succ, List.getElem?_cons_zero, List.getElem?_cons_succ, Bool.not_true, Bool.not_false, if_true, if_false, Bool.true_eq_false, Bool.false_eq_true, reduceIte, Nat.reduceAdd, Nat.reduceSub, Nat.reduceLeDiff, Nat.zero_add, eq_self, LIM]
theorem lawRuns : LawRuns := by
  intro ns _ _
  let h0 : Hq := [C.lst [.lst (ns.map D.int), .int 0, .int 0, .int 0]]
  have ok : RowOk ns h0 0 := ⟨0, 0, 0, rfl, by omega, by omega, by decide⟩
  obtain ⟨n, h1, e1, st, turn, ls, f, rl⟩ := e_station ok
  obtain ⟨h2, e2⟩ := e_law_text ls f rl
  obtain ⟨h3, e3, g3⟩ := e_read_layout f h2
  obtain ⟨k4, h4, e4, g4⟩ := law_turn (a0 := .va (.lst (ns.map D.int))) (a1 := .va (.ref 0)) (a4 := .va (.int ((0 : Nat) : Int))) (a5 := .no) f g3
  obtain ⟨k5, h5, e5, g5⟩ := law_turn (a0 := .va (.lst (ns.map D.int))) (a1 := .va (.ref 0)) (a4 := .va (.int ((1 : Nat) : Int))) (a5 := .va (.str (textOf st.srt))) f g4
  refine ⟨h5, ?_⟩
  have n0 : newCell (fLst (aCons (fVar 0) (aCons (fC (.int 0)) (aCons (fC (.int 0)) (aCons (fC (.int 0)) aNil))))) [.va (.lst (ns.map D.int)), .no, .no, .no, .no, .no] [] = .ok (.ref 0) h0 := rfl
  have r2 : iR1 (aCons (fC (.int 2)) aNil) [.va (.lst (ns.map D.int)), .va (.ref 0), .va (.str (textOf st.srt)), .va (.ref h2.length), .no, .no] h3 = .ok [.int ((0 : Nat) : Int), .int ((1 : Nat) : Int)] h3 := a_r1 (m := 2) rfl (by decide)
  have loop : forGo (gNm 4) lawB [.int ((0 : Nat) : Int), .int ((1 : Nat) : Int)] [.va (.lst (ns.map D.int)), .va (.ref 0), .va (.str (textOf st.srt)), .va (.ref h2.length), .no, .no] h3 = .nx [.va (.lst (ns.map D.int)), .va (.ref 0), .va (.str (textOf st.srt)), .va (.ref k5), .va (.int ((1 : Nat) : Int)), .va (.str (textOf st.srt))] h5 := by
    refine (go_cons (bs := [(4, .int ((0 : Nat) : Int))]) rfl e4).trans ((go_cons (bs := [(4, .int ((1 : Nat) : Int))]) rfl e5).trans ?_)
    exact go_nil
  clear_value h0
  rw [r_law, a_run1]
  show RS.fin (f_law [.va (.lst (ns.map D.int)), .no, .no, .no, .no, .no] []) = _
  have eq : f_law = (fSeq (fSet 1 (newCell (fLst (aCons (fVar 0) (aCons (fC (.int 0)) (aCons (fC (.int 0)) (aCons (fC (.int 0)) aNil)))))))
    (fSeq (fSet 2 (fCall 1 r_law_text (aCons (fCall 1 r_law_station (aCons (fVar 1) aNil)) aNil)))
    (fSeq (fSet 3 (fCall 1 r_read_layout (aCons (fVar 2) aNil)))
    (fSeq (fFor (iR1 (aCons (fC (.int 2)) aNil)) (gNm 4) lawB)
    (fRet (fC (.bl true))))))) := rfl
  rw [eq]
  generalize lawB = LB at loop ⊢
  rw [a_seq, a_set, n0]
  simp only [e1, e2, e3, a_for, a_run1, a_run2, fin_rt, fin_nx, a_seq, seq_nx, seq_rt, a_ret, a_retN, a_set, a_if, a_nx, a_var, get_va, a_c, a_nil, a_cons, a_bin, a_cb, a_call, a_and, a_or, a_bAnd, a_bOr, a_bNot, a_asB, a_tru, a_tup, a_lst, a_asg, a_drop, a_bm, a_ite, and_t, and_f, or_t, or_f, asB_bl, tru_bl, b_ok, s_ok, List.length_cons, List.length_nil, List.map_cons, List.map_nil, List.set_cons_zero, List.set_cons_succ, List.getElem?_cons_zero, List.getElem?_cons_succ, Bool.not_true, Bool.not_false, if_true, if_false, Bool.true_eq_false, Bool.false_eq_true, reduceIte, Nat.reduceAdd, Nat.reduceSub, Nat.reduceLeDiff, Nat.zero_add, eq_self, LIM]
  rw [r2, s_ok, loop]
  simp only [a_run1, a_run2, fin_rt, fin_nx, a_seq, seq_nx, seq_rt, a_ret, a_retN, a_set, a_if, a_nx, a_var, get_va, a_c, a_nil, a_cons, a_bin, a_cb, a_call, a_and, a_or, a_bAnd, a_bOr, a_bNot, a_asB, a_tru, a_tup, a_lst, a_asg, a_drop, a_bm, a_ite, and_t, and_f, or_t, or_f, asB_bl, tru_bl, b_ok, s_ok, List.length_cons, List.length_nil, List.map_cons, List.map_nil, List.set_cons_zero, List.set_cons_succ, List.getElem?_cons_zero, List.getElem?_cons_succ, Bool.not_true, Bool.not_false, if_true, if_false, Bool.true_eq_false, Bool.false_eq_true, reduceIte, Nat.reduceAdd, Nat.reduceSub, Nat.reduceLeDiff, Nat.zero_add, eq_self, LIM]
end
end Kx
end
theorem PySem.Challenge.cw_signalhouse_k03_stations_written_and_rea_holds : PySem.Challenge.rw_signalhouse_k03_stations_written_and_rea.Holds :=
  Kx.holds Kx.lawRuns
