import PyProof.Rows.All
import Wide.All
import OpenK.AllK
import Wide.FinOn
import HandS.GenList
import HandS.Comp
import HandS.AnyAll
import PyProof.CodeObjX
import PyProof.TupleOfGen
import HandS.ForMost
import HandS.EndBits
import KE.GoesMore
import KE.GoesEnum
import HandS.Zip
import HandS.IsInst
import HandS.Conv
import HandS.Strs
import HandS.Exc
import HandS.ExcInit
import HandS.ExcField
import HandS.ExcIs
import HandS.WordsExc
import KE.KExcIs
import HandS.TupAny
import HandS.Style
import HandS.TupMul
import PySem.Challenge.RW_truelevels_k00_nets_are_checked
set_option Elab.async false
set_option linter.all false
set_option maxRecDepth 100000
set_option maxHeartbeats 4000000
/-! Generator expressions over the hand layer: the frame's context, its turns, its making. -/
namespace Gx
open PySem PySem.Spec PyProof.Rows L2 GenW

theorem over_gx {A : Around} {elt tg iter : Expr} {ifs : List Expr} {scope : Scope} {pos : Pos} {it acc : Value} {cenv : Env} : A.over (.compLoop (.GeneratorExp elt [⟨tg, iter, ifs, 0⟩] scope pos) 0 it acc cenv) [] = A.deeper cenv := by
  obtain ⟨hd, d, fr, gs, u⟩ := A; simp [Around.over, Around.deeper, marksOver, frameCount, unitsOf, envsOf, guardsOf, pushEnvs, pushGuards, Code.envs, Code.env?, Code.isFrame, Code.guards, Code.isGuard, Code.weight, Code.frames, Code.isCreation, Code.isCaller, Code.cUnits]
theorem over_gxs {A : Around} {elt tg iter : Expr} {ifs : List Expr} {scope : Scope} {pos : Pos} {it acc : Value} {cenv : Env} : A.over (.compStart (.GeneratorExp elt [⟨tg, iter, ifs, 0⟩] scope pos) 0 it acc cenv) [] = A.deeper cenv := by
  obtain ⟨hd, d, fr, gs, u⟩ := A; simp [Around.over, Around.deeper, marksOver, frameCount, unitsOf, envsOf, guardsOf, pushEnvs, pushGuards, Code.envs, Code.env?, Code.isFrame, Code.guards, Code.isGuard, Code.weight, Code.frames, Code.isCreation, Code.isCaller, Code.cUnits]

/-- the context of the frame: s the state ahead of it, fp its iterator's objects, pn the generator's own object -/
abbrev cx (X : Cx) (A : Around) (s : Shared) (H : Hp) (cenv : Env) (fp : List Addr) (pn : List (Addr × Obj)) : Cx :=
  { X with A := A.deeper cenv, s_0 := s, H_0 := H, env := cenv, outer := X.stack, stack := cenv :: X.stack, ex := fp, fn := fun _ => false, pn := pn, xe := fun _ _ => False }

section
variable {X : Cx} {pins : List (Addr × Obj)} {σ : L2.St} {H : Hp} {s : Shared}
theorem gstart {scope : Scope} {own : List (Str × Nat)} {fp : List Addr} {A : Around} {code : Value} {h5 : Heap} {g5 : Array GenState} {d5 : Drawn} {t5 : Nat} {m : Str → Option Value}
    (I : Inv X pins σ H s) (ok : BlkOk X.N X.env.scope scope own) (hN : X.N.Nodup) (hcell : ∀ y ∈ scope.names, y.2 ≠ .cell) (hfp : ∀ b ∈ fp, FpOk X pins H b ∧ b < s.heap.objs.size)
    (hA : A.handled = none) (hfr : A.frames = some X.stack) (hn : h5.Ns s.heap.objs.size m) (hk : ∀ b o, s.heap.get? b = some o → h5.get? b = some o) (hb : AllBare g5) :
    Inv (cx X A s H (genEnv scope (cloFrom X.env.cells scope.names []) s.heap.objs.size code builtinsNs X.env) fp []) [] (wipe σ (own.map (·.2))) H { s with heap := h5, gens := g5, drawn := d5, toks := t5 } := by
  have hfree : ∀ y ∈ scope.names, y.2 = .free → ∃ c, X.env.cells.lookup y.1 = some c := fun y hy e => by
    rcases ok.free y hy e with k | k
    · exact I.ok.has _ (.inl k)
    · exact I.ok.has _ (.inr k)
  have cm : ∀ {y c}, (y, c) ∈ cloFrom X.env.cells scope.names [] → X.env.cells.lookup y = some c ∧ c < s.heap.objs.size := fun {y c} hm => by
    rcases cloFrom_mem hm with hm | ⟨h1, rfl⟩
    · cases hm
    · obtain ⟨c, hc⟩ := hfree _ h1 rfl
      rw [hc]
      obtain ⟨w, z⟩ := I.cell _ _ hc
      exact ⟨rfl, z.lt⟩
  have look : ∀ {y}, scope.names.lookup y = some .free → ∃ c, (cloFrom X.env.cells scope.names []).lookup y = some c ∧ X.env.cells.lookup y = some c := fun {y} hl => by
    have hy : (y, NameKind.free) ∈ scope.names := PySem.mem_of_lookup hl
    obtain ⟨c', e'⟩ := mem_lookup (cloFrom_has (cells := X.env.cells) (acc := []) hy)
    exact ⟨c', e', (cm (PySem.mem_of_lookup e')).1⟩
  generalize hcenv : genEnv scope (cloFrom X.env.cells scope.names []) s.heap.objs.size code builtinsNs X.env = cenv
  have hL : cenv.locals = s.heap.objs.size := by rw [← hcenv]; rfl
  have hcl : cenv.cells = cloFrom X.env.cells scope.names [] := by rw [← hcenv]; rfl
  have hsc : cenv.scope = scope := by rw [← hcenv]; rfl
  have mem : ∀ {y c}, cenv.cells.lookup y = some c → X.env.cells.lookup y = some c ∧ c < s.heap.objs.size := fun {y c} e => by
    rw [hcl] at e
    exact cm (PySem.mem_of_lookup e)
  have nocell : ∀ {y}, scope.names.lookup y ≠ some .cell := fun {y} e => hcell _ (PySem.mem_of_lookup e) rfl
  have okB : (cx X A s H cenv fp []).Ok := by
    refine ⟨I.ok.mod, by show cenv.scope.kind = _; rw [hsc]; exact ok.kind, by show cenv.globals = _; rw [← hcenv]; exact I.ok.glob, by show cenv.builtins = _; rw [← hcenv]; rfl, by show s.heap.objs.size ≤ cenv.locals; rw [hL]; exact Nat.le_refl _,
      fun y z c e1 e2 => I.ok.inj y z c (mem e1).1 (mem e2).1, fun y hy => ?_, fun y c z e => Bool.noConfusion z, fun _ => hA, Around.frames_deeper hfr, .inr ⟨rfl, by show cenv.frame = some cenv.locals; rw [← hcenv]; rfl⟩, fun b hb => ⟨?_, fun y c e z => ?_⟩, I.bs, Nat.le_trans I.ok.bsz I.sz, fun b o e hb => ?_, fun b hb z => ?_, I.stack, I.stkFree⟩
    · show ∃ c, cenv.cells.lookup y = some c
      have hy : cenv.scope.names.lookup y = some .cell ∨ cenv.scope.names.lookup y = some .free := hy
      rw [hsc] at hy
      rcases hy with hy | hy
      · exact absurd hy nocell
      · obtain ⟨c, h1, _⟩ := look hy
        exact ⟨c, by rw [hcl]; exact h1⟩
    · show b ≠ cenv.locals
      rw [hL]; exact Nat.ne_of_lt (hfp b hb).2
    · exact (hfp b hb).1.2.2.2.2.1 y c (mem e).1 z
    · rcases (hfp b hb).1.2.2.2.1 with z | z
      · exact I.ok.noex b o e z
      · exact absurd (Nat.lt_of_lt_of_le (Heap.lt_size e) (Nat.le_trans I.ok.bsz z)) (Nat.lt_irrefl _)
    · rcases List.mem_cons.mp (I.stkSub b z) with z | z
      · exact (hfp b hb).1.2.1 z
      · exact (hfp b hb).1.2.2.1 z
  refine ⟨okB, rfl, hb, Un.kept hk, ⟨m, ?_, fun i y av e1 e2 e3 => ?_⟩, fun y c e => ?_, ?_, fun y c e => ?_, fun p hp => ?_, I.hok.kept hk, by rw [wipe_length]; exact I.len⟩
  · show Heap.Ns _ cenv.locals _
    rw [hL]
    exact hn
  · obtain ⟨e2, hne⟩ := wipe_some e2
    have e3 : Vis cenv.scope y := e3
    rw [hsc] at e3
    have no : ¬ (scope.names.lookup y = some .local ∨ scope.names.lookup y = some .cell) := fun hh => by
      obtain ⟨k, hk', hkk⟩ : ∃ k, (y, k) ∈ scope.names ∧ (k = NameKind.local ∨ k = NameKind.cell) := by
        rcases hh with hh | hh
        · exact ⟨_, PySem.mem_of_lookup hh, .inl rfl⟩
        · exact ⟨_, PySem.mem_of_lookup hh, .inr rfl⟩
      rcases ok.own (y, k) hk' hkk with e' | e'
      · obtain ⟨p, hp, hpy⟩ := List.mem_map.mp e'
        have e3 := ok.ix p hp
        have : p.1 = y := hpy
        rw [this] at e3
        exact hne (List.mem_map.mpr ⟨p, hp, nodup_ix hN e3 e1⟩)
      · exact e' (List.mem_of_getElem? e1)
    have hfr : scope.names.lookup y = some .free := by
      rcases e3 with e3 | e3 | e3
      · exact absurd (.inl e3) no
      · exact absurd (.inr e3) no
      · exact e3
    obtain ⟨m', hn', hl⟩ := I.loc
    have hvis : Vis X.env.scope y := (ok.free _ (PySem.mem_of_lookup hfr) rfl).elim (fun k => .inr (.inl k)) (fun k => .inr (.inr k))
    obtain ⟨w, r, q⟩ := hl i y av e1 e2 hvis
    refine ⟨w, r, .inr ⟨.inr (by show cenv.scope.names.lookup y = _; rw [hsc]; exact hfr), ?_⟩⟩
    obtain ⟨c, h1, h2⟩ := look hfr
    rcases q with ⟨k, _⟩ | ⟨_, c', e', z⟩
    · have k : X.env.scope.names.lookup y = some .local := k
      rcases ok.free _ (PySem.mem_of_lookup hfr) rfl with k' | k' <;> rw [show X.env.scope.names.lookup y = _ from k'] at k <;> cases k
    · rw [h2] at e'; cases e'
      exact ⟨c, by show cenv.cells.lookup y = _; rw [hcl]; exact h1, z.keeps hk⟩
  · have e : cenv.cells.lookup y = some c := e
    obtain ⟨w, z⟩ := I.cell y c (mem e).1
    exact ⟨w, z.keeps hk⟩
  · show H cenv.locals = none
    rw [hL]; exact I.hok.fresh (Nat.le_refl _)
  · have e : cenv.cells.lookup y = some c := e
    exact I.freeC y c (mem e).1
  · exact absurd (show p ∈ ([] : List (Addr × Obj)) ++ [] from hp) (by simp)
end

/-! ### the consumer's memory, the protocol -/
/-- CO: the addresses at which the consumer keeps its own; Rl: what is out, and how it stands there -/
abbrev Rel := List V → Shared → Prop
structure Stable (CO : List Addr) (Rl : Rel) : Prop where
  keep : ∀ ys s s', (∀ b ∈ CO, s'.heap.get? b = s.heap.get? b) → Rl ys s → Rl ys s'
/-- while the generator sleeps -/
structure Slept (CO : List Addr) (Rl : Rel) (ys : List V) (s s' : Shared) : Prop where
  os : s'.os = s.os
  bare : AllBare s'.gens
  keep : ∀ b o, b ∉ CO → s.heap.get? b = some o → s'.heap.get? b = some o
  own : ∀ b ∈ CO, ∃ o, s'.heap.get? b = some o ∧ ∀ v, o.data ≠ .cell v
  rel : Rl ys s'
/-- running -/
def GI (X' : Cx) (CO : List Addr) (σ : L2.St) (H : Hp) (s : Shared) : Prop := ∃ pins, pins.map (·.1) = CO ∧ Inv X' pins σ H s
structure Young (X' : Cx) (CO : List Addr) : Prop where
  sz : ∀ b ∈ CO, X'.s_0.heap.objs.size ≤ b
  loc : ∀ b ∈ CO, b ≠ X'.env.locals
  cell : ∀ b ∈ CO, ∀ x c, X'.env.cells.lookup x = some c → c ≠ b
  pn : ∀ b ∈ CO, ∀ p ∈ X'.pn, p.1 ≠ b
  ex : ∀ b ∈ CO, b ∉ X'.ex
theorem GI.free {X' : Cx} {CO : List Addr} {σ : L2.St} {H : Hp} {s : Shared} (h : GI X' CO σ H s) : ∀ b ∈ CO, H b = none ∧ ∃ o, s.heap.get? b = some o ∧ (∀ v, o.data ≠ .cell v) ∧ b ∉ X'.fs := fun b hb => by
  obtain ⟨pins, e, I⟩ := h
  rw [← e] at hb
  obtain ⟨p, hp, rfl⟩ := List.mem_map.mp hb
  obtain ⟨h1, h2, h3, h4, h5⟩ := I.pin p (List.mem_append_right _ hp)
  exact ⟨h2, p.2, h1, h5, h4⟩
/-- the pins at CO, as they stand -/
theorem pins_at {CO : List Addr} {s : Shared} (h : ∀ b ∈ CO, ∃ o, s.heap.get? b = some o ∧ ∀ v : Option Value, o.data ≠ .cell v) : ∃ pins : List (Addr × Obj), pins.map (·.1) = CO ∧ ∀ p ∈ pins, s.heap.get? p.1 = some p.2 ∧ ∀ v : Option Value, p.2.data ≠ .cell v := by
  induction CO with
  | nil => exact ⟨[], rfl, fun p hp => by cases hp⟩
  | cons b r ih =>
    obtain ⟨pins, e, hp⟩ := ih fun c hc => h c (List.mem_cons_of_mem _ hc)
    obtain ⟨o, h1, h2⟩ := h b List.mem_cons_self
    refine ⟨(b, o) :: pins, by rw [List.map_cons, e], fun p hp' => ?_⟩
    rcases List.mem_cons.mp hp' with rfl | hp'
    · exact ⟨h1, h2⟩
    · exact hp p hp'
theorem GI.make {X' : Cx} {CO : List Addr} {σ : L2.St} {H : Hp} {s : Shared} (I : Inv X' [] σ H s) (y : Young X' CO) (hf : ∀ b ∈ CO, H b = none ∧ b ∉ X'.fs) (h : ∀ b ∈ CO, ∃ o, s.heap.get? b = some o ∧ ∀ v : Option Value, o.data ≠ .cell v) : GI X' CO σ H s := by
  obtain ⟨pins, e, hp⟩ := pins_at h
  refine ⟨pins, e, I.pins_of fun p hp' => ?_⟩
  have hm : p.1 ∈ CO := by rw [← e]; exact List.mem_map.mpr ⟨p, hp', rfl⟩
  exact ⟨(hp p hp').1, (hf _ hm).1, y.loc _ hm, (hf _ hm).2, (hp p hp').2⟩
theorem GI.woken {X' : Cx} {CO : List Addr} {Rl : Rel} {ys : List V} {σ : L2.St} {H : Hp} {s s' : Shared} (y : Young X' CO) (h : GI X' CO σ H s) (z : Slept CO Rl ys s s') : GI X' CO σ H s' := by
  have hf := h.free
  obtain ⟨pins, e, I⟩ := h
  have I0 : Inv X' [] σ H s := I.pins_of fun p hp => by cases hp
  have nt : ∀ b u, H b = some u → b ∉ CO := fun b u q hb => by rw [(hf b hb).1] at q; cases q
  obtain ⟨z1, z2, z3, z4, _⟩ := z
  obtain ⟨hh, g, d, t, o⟩ := s'
  have ho : o = s.os := z1
  subst ho
  have J : Inv X' [] σ H { s with heap := hh, gens := g, drawn := d, toks := t } := by
    refine I0.step (g' := g) (t' := t) (d' := d) (ch := CO) (fun b hb => ⟨.inr (y.sz b hb), y.loc b hb, y.cell b hb, fun p hp => ?_⟩)
      (fun b ob _ _ hc q _ => z3 b ob hc q) (fun b ob _ _ hc q _ => ⟨ob.slots, z3 b ob hc q⟩) (fun _ _ _ _ n => n) (fun b ob hc q => ⟨ob, z3 b ob hc q⟩)
      (fun _ _ q => q) (fun _ _ _ q => q) (fun b ps q => ⟨#[], by rw [q]; simp⟩) (fun m hm => ?_) (fun b u q => ?_) z2
    · rcases List.mem_append.mp hp with hp | hp
      · exact y.pn b hb p hp
      · cases hp
    · obtain ⟨ob, es, ep, ho, r⟩ := hm
      exact ⟨ob, es, ep, z3 _ ob (fun hc => y.loc _ hc rfl) ho, r⟩
    · refine (I0.hok b u q).stay (fun c v hc y' => z3 c v ?_ y') (fun _ y => y) fun _ _ y => y
      rcases hc with y' | y'
      · rw [y']; exact nt b u q
      · exact nt c _ y'
  exact GI.make J y (fun b hb => ⟨(hf b hb).1, let ⟨_, _, _, h⟩ := hf b hb; h.2⟩) z4

/-- the state behind what ran so far, by the caller's data -/
structure Aw (X : Cx) (sc : Shared) (fp : List Addr) (H1 : Hp) (a : Addr) (g : Nat) (CO : List Addr) (H' : Hp) (s : Shared) : Prop where
  os : s.os = sc.os
  bare : AllBare s.gens
  un : Un (frs X.stack) fp H1 H' sc.heap s.heap
  hok : HOk X.prog X.w H' s.heap
  lim : s.heap.NoLimit
  gen : s.heap.IsGen a g
  free : ∀ b ∈ CO, H' b = none
  own : ∀ b ∈ CO, ∃ o, s.heap.get? b = some o ∧ ∀ v, o.data ≠ .cell v
/-- what a consumer asks: of an item that is out, behind which it goes on if go; at the end -/
structure GK where
  mid : List V → V → Hp → Prop
  go : V → Prop
  done : List V → Hp → Prop
def GFin (X : Cx) (sc : Shared) (fp : List Addr) (H1 : Hp) (a : Addr) (g : Nat) (CO : List Addr) (Rl : Rel) (N : Nat) (K : GK) (n : Nat) (s₀ s1 : Shared) : Prop :=
  (∀ b ∈ CO, s1.heap.get? b = s₀.heap.get? b) ∧ ∃ ys H', n + ys.length = N ∧ Aw X sc fp H1 a g CO H' s1 ∧ Rl ys s1 ∧ K.done ys H'
def GEnd (X : Cx) (sc : Shared) (fp : List Addr) (H1 : Hp) (a : Addr) (g : Nat) (CO : List Addr) (Rl : Rel) (N : Nat) (K : GK) : GenEnd := fun n s₀ r s1 =>
  ((r = .ok (.ret .none) ∨ r = .ok .next) ∧ GFin X sc fp H1 a g CO Rl N K n s₀ s1) ∨ ∃ e, r = .error e ∧ False
def GItem (X : Cx) (sc : Shared) (fp : List Addr) (H1 : Hp) (a : Addr) (g : Nat) (CO : List Addr) (Rl : Rel) (N : Nat) (K : GK) : Protocol := fun n s₀ v s1 kap =>
  (∀ b ∈ CO, s1.heap.get? b = s₀.heap.get? b) ∧ ∃ ys x H', n + 1 + ys.length = N ∧ RelV x v ∧ Aw X sc fp H1 a g CO H' s1 ∧ Rl ys s1 ∧ K.mid ys x H' ∧ (K.go x → ∀ s', Slept CO Rl (ys ++ [x]) s1 s' → kap (.send .none) s')
end Gx
set_option Elab.async false
set_option linter.all false
set_option maxRecDepth 100000
set_option maxHeartbeats 4000000
namespace Gx
open PySem PySem.Spec PyProof.Rows L2 GenW

/-- a turn's reading -/
def Turns (J : It) (g : TG) (tt : TT) (te : TE) (vs : List Nat) (σ : L2.St) (K : GK) (W : Nat → Nat → List V → Hp → Prop) : Prop :=
  ∀ i m ys H, W i m ys H → (J.stop i H ∧ K.done ys H) ∨ (J.go i H ∧ 0 < m ∧ ∃ Nx : List V → Hp → Prop, (∀ ys' H', Nx ys' H' → ∃ m', m' < m ∧ W (i + 1) m' ys' H') ∧
    ∀ x H', J.yld i H x H' → g x (wipe σ vs) H' fun σ2 H2 => wipe σ2 vs = wipe σ vs ∧ tt σ2 H2 fun b H3 =>
      if b = true then te σ2 H3 fun y H4 => K.mid ys y H4 ∧ (K.go y → Nx (ys ++ [y]) H4) else Nx ys H3)

section
variable {X' : Cx} {A : Around} {elt tg iter : Expr} {ifs : List Expr} {scope : Scope} {pos : Pos} {it : Addr} {fp : List Addr} {tn : Nat → Heap → Prop} {J : It} {g : TG} {tt : TT} {te : TE} {vs : List Nat} {σ : L2.St} {CO : List Addr} {Rl : Rel} {N : Nat} {K : GK}
  {W : Nat → Nat → List V → Hp → Prop} {R : GenEnd} {Y : Protocol}

theorem loop (hA : X'.A = A.deeper X'.env) (hxe : X'.xe = fun _ _ => False) (hc : X'.calm = true) (hex : X'.ex = fp) (hco : X'.env.scope.isCoroutine = false) (y : Young X' CO) (hpn : ∀ b ∈ fp, ∀ p ∈ X'.pn, p.1 ≠ b)
    (T : Turn X'.prog X'.w X'.K tg J fp it tn) (pg : PG X' tg g) (pt : PTs X' ifs tt) (pe : PE X' elt te) (hst : Stable CO Rl) (turn : Turns J g tt te vs σ K W)
    (hR : ∀ n s₀ s ys H, (∀ b ∈ CO, s.heap.get? b = s₀.heap.get? b) → n + ys.length = N → GI X' CO (wipe σ vs) H s → Rl ys s → K.done ys H → R n s₀ (.ok .next) s)
    (hY : ∀ n s₀ v s kap ys x σ' H, (∀ b ∈ CO, s.heap.get? b = s₀.heap.get? b) → n + 1 + ys.length = N → RelV x v → GI X' CO σ' H s → Rl ys s → K.mid ys x H → (K.go x → ∀ s', Slept CO Rl (ys ++ [x]) s s' → kap (.send .none) s') → Y n s₀ v s kap) :
    ∀ (m n i : Nat) (ys : List V) (s₀ s : Shared) (H : Hp), (∀ b ∈ CO, s.heap.get? b = s₀.heap.get? b) → n + ys.length = N → m ≤ n → GI X' CO (wipe σ vs) H s → Rl ys s → tn i s.heap → (∀ b ∈ fp, H b = none) → W i m ys H →
      Seg (model X'.prog X'.w) A R Y n s₀ (.compLoop (.GeneratorExp elt [⟨tg, iter, ifs, 0⟩] scope pos) 0 (.ref it) .none X'.env) ((model X'.prog X'.w).den (.compLoop (.GeneratorExp elt [⟨tg, iter, ifs, 0⟩] scope pos) 0 (.ref it) .none X'.env)) [] s := by
  have hov : A.over (.compLoop (.GeneratorExp elt [⟨tg, iter, ifs, 0⟩] scope pos) 0 (.ref it) .none X'.env) [] = X'.A := over_gx.trans hA.symm
  have nox : ∀ {e : Value} {s : Shared}, X'.xe e s → False := fun {e s} h => by rw [hxe] at h; exact h
  intro m
  induction m using Nat.strongRecOn with
  | ind m ih =>
    intro n i ys s₀ s H h00 hn hmn hI hRl htn hfp w
    obtain ⟨pins, ep, I⟩ := hI
    have pinCO : ∀ b ∈ CO, ∃ o, (b, o) ∈ pins := fun b hb => by
      rw [← ep] at hb
      obtain ⟨p, hp, rfl⟩ := List.mem_map.mp hb
      exact ⟨p.2, hp⟩
    have fpok : ∀ {σ' : L2.St} {H' : Hp} {s' : Shared}, Inv X' pins σ' H' s' → (∀ b ∈ fp, H' b = none) → ∀ b ∈ fp, FpOk X' pins H' b := fun {σ' H' s'} I' hn b hb => by
      have hb' : b ∈ X'.ex := by rw [hex]; exact hb
      refine ⟨hn b hb, (I'.ok.exf b hb').1, I'.ok.exfs b hb', .inl hb', fun x c e => (I'.ok.exf b hb').2 x c e, fun p hp => ?_⟩
      rcases List.mem_append.mp hp with hp | hp
      · exact hpn b hb p hp
      · have hm : p.1 ∈ CO := by rw [← ep]; exact List.mem_map.mpr ⟨p, hp, rfl⟩
        exact fun z => y.ex _ hm (by rw [hex, z]; exact hb)
    have keepCO : ∀ {σ' : L2.St} {H' : Hp} {s' : Shared} {more : List (Addr × Obj)}, Inv X' (pins ++ more) σ' H' s' → ∀ b ∈ CO, s'.heap.get? b = s.heap.get? b := fun {σ' H' s' more} I' b hb => by
      obtain ⟨o, ho⟩ := pinCO b hb
      exact (I'.pin (b, o) (List.mem_append_right _ (List.mem_append_left _ ho))).1.trans (I.pin (b, o) (List.mem_append_right _ ho)).1.symm
    have back : ∀ {σ' : L2.St} {H' : Hp} {s' : Shared} {more : List (Addr × Obj)}, Inv X' (pins ++ more) σ' H' s' → GI X' CO σ' H' s' := fun {σ' H' s' more} I' => ⟨pins, ep, I'.unpinned⟩
    show Seg _ A _ _ _ s₀ _ ((compTurn (.GeneratorExp elt [⟨tg, iter, ifs, 0⟩] scope pos) 0 (.ref it) .none X'.env).onRaise (leaving X'.env)) [] s
    rw [compTurn_gen, Sem.onRaise_eq_wrap]
    refine seg_bind_wrap (wpAny_standAt ?_)
    rcases turn i m ys H w with ⟨stop, dn⟩ | ⟨go, hm0, Nx, hNx, step⟩
    · refine seg_bind_wrap ?_
      rw [hov]
      refine wpAny_mono (T.done X' rfl rfl rfl hc i pins s _ H _ I (fpok I hfp) htn stop) (fun r s1 ⟨hr, I1⟩ => ?_) fun _ _ h => h
      subst hr
      exact seg_end (.ok .next) (hR n s₀ s1 ys H (fun b hb => (keepCO (more := []) (by rw [List.append_nil]; exact I1) b hb).trans (h00 b hb)) hn ⟨pins, ep, I1⟩ (hst.keep ys s s1 (fun b hb => keepCO (more := []) (by rw [List.append_nil]; exact I1) b hb) hRl) dn)
    · refine seg_bind_wrap ?_
      rw [hov]
      refine wpAny_mono (T.item X' rfl rfl rfl hc i pins s _ H _ I (fpok I hfp) htn go) (fun r s1 ⟨u, hr, h1⟩ => ?_) fun _ _ h => h
      subst hr
      dsimp only
      refine seg_bind_wrap ?_
      rw [hov]
      refine wpAny_mono h1 (fun _ s2 ⟨x, H2, I2, r2, y2, tn2, fp2⟩ => ?_) fun _ _ h => h
      have I2' := I2.pinned (fpok I2 fp2) (T.obj _ _ tn2)
      refine seg_bind_wrap ?_
      rw [hov]
      refine wpAny_mono (pg.run _ s2 _ H2 x u _ I2' r2 (step x H2 y2)) (fun _ s3 ⟨σ3, H3, I3, hw3, q3⟩ => ?_) fun _ _ h => (nox h).elim
      refine seg_bind_wrap ?_
      rw [hov]
      refine wpAny_mono (pt.run _ s3 σ3 H3 _ I3 q3) (fun b s4 ⟨H4, I4, q4⟩ => ?_) fun _ _ h => (nox h).elim
      have hl : (wipe σ vs).length = σ3.length := by rw [← hw3, wipe_length]
      have weak : ∀ {H' : Hp} {s' : Shared}, GI X' CO σ3 H' s' → GI X' CO (wipe σ vs) H' s' := fun {H' s'} hG => by
        obtain ⟨pins', e', I'⟩ := hG
        refine ⟨pins', e', I'.weak hl fun j v e => ?_⟩
        rw [← hw3] at e
        exact (wipe_some e).1
      have pin' : ∀ {H' : Hp} {s' : Shared}, Inv X' (pins ++ pinsAt fp s2.heap) σ3 H' s' → ∀ b ∈ fp, ∀ o, s2.heap.get? b = some o → s'.heap.get? b = some o ∧ H' b = none := fun {H' s'} I' b hb o e =>
        let z := I'.pin (b, o) (List.mem_append_right _ (List.mem_append_right _ (mem_pinsAt hb e)))
        ⟨z.1, z.2.1⟩
      have tnk : ∀ {H' : Hp} {s' : Shared}, Inv X' (pins ++ pinsAt fp s2.heap) σ3 H' s' → tn (i + 1) s'.heap := fun {H' s'} I' => T.keep _ _ _ tn2 fun b hb o e => (pin' I' b hb o e).1
      have fpn : ∀ {H' : Hp} {s' : Shared}, Inv X' (pins ++ pinsAt fp s2.heap) σ3 H' s' → ∀ b ∈ fp, H' b = none := fun {H' s'} I' b hb => by
        obtain ⟨o, e, _⟩ := T.obj _ _ tn2 b hb
        exact (pin' I' b hb o e).2
      cases b with
      | false =>
        simp only [Bool.false_eq_true, if_false] at q4 ⊢
        obtain ⟨m', hm', w'⟩ := hNx ys H4 q4
        exact seg_again rfl (ih m' hm' n (i + 1) ys s₀ s4 H4 (fun b hb => (keepCO I4 b hb).trans (h00 b hb)) hn (by omega) (weak (back I4)) (hst.keep ys s s4 (keepCO I4) hRl) (tnk I4) (fpn I4) w')
      | true =>
        simp only [if_true] at q4 ⊢
        have hyo : ∀ v, yieldOut X'.env v = yieldValue v := fun v => by simp only [yieldOut, hco, Bool.false_eq_true, if_false]
        simp only [hyo]
        rw [Sem.bind_eq_wrap', Sem.bind_eq_wrap', Sem.wrap_wrap, Sem.wrap_wrap]
        refine seg_wrap ?_
        rw [hov]
        refine wpAny_mono (pe.run _ s4 σ3 H4 _ I4 q4) (fun v s5 ⟨yv, H5, I5, r5, md, hgo⟩ => ?_) fun _ _ h => (nox h).elim
        have Rl5 : Rl ys s5 := hst.keep ys s s5 (keepCO I5) hRl
        obtain ⟨n', rfl⟩ : ∃ k, n = k + 1 := ⟨n - 1, by omega⟩
        refine seg_at (seg_yield rfl rfl rfl (hY n' s₀ v s5 _ ys yv σ3 H5 (fun b hb => (keepCO I5 b hb).trans (h00 b hb)) hn r5 (back I5) Rl5 md fun hg s' z => ?_))
        obtain ⟨m', hm', w'⟩ := hNx (ys ++ [yv]) H5 (hgo hg)
        have G' := (back I5).woken y z
        have kb : ∀ b ∈ fp, ∀ o, s5.heap.get? b = some o → s'.heap.get? b = some o := fun b hb o e => z.keep b o (fun hC => y.ex b hC (by rw [hex]; exact hb)) e
        exact seg_again rfl (ih m' hm' n' (i + 1) (ys ++ [yv]) s' s' H5 (fun _ _ => rfl) (by rw [List.length_append, List.length_singleton]; omega) (by omega) (weak G') z.rel (T.keep _ _ _ (tnk I5) kb) (fpn I5) w')
end
end Gx
set_option Elab.async false
set_option linter.all false
set_option maxRecDepth 100000
set_option maxHeartbeats 4000000
namespace Gx
open PySem PySem.Spec PyProof.Rows L2 GenW

/-- what the expression gives: a generator that has not begun -/
def Made (X : Cx) (k : Nat) (H1 : Hp) (sc : Shared) (fp : List Addr) (K : GK) (u : Value) (s' : Shared) : Prop :=
  ∃ (a : Addr) (g : Nat) (c : Code) (N : Nat), u = .ref a ∧ sc.heap.objs.size ≤ a ∧ a < s'.heap.objs.size ∧ s'.heap.IsGen a g ∧ s'.gens[g]? = some (.fresh c) ∧ s'.os = sc.os ∧ AllBare s'.gens ∧ s'.heap.NoLimit ∧ (∀ b o, sc.heap.get? b = some o → s'.heap.get? b = some o) ∧
    ∀ (A : Around) (CO : List Addr) (Rl : Rel) (s2 : Shared), Room k A → A.frames = some X.stack → (∀ b ∈ CO, s'.heap.objs.size ≤ b) → Stable CO Rl → (∀ b o, s'.heap.get? b = some o → s2.heap.get? b = some o) → (∀ b ∈ CO, ∃ o, s2.heap.get? b = some o ∧ ∀ v, o.data ≠ .cell v) →
      s2.os = s'.os → AllBare s2.gens → Rl [] s2 → Seg (model X.prog X.w) A (GEnd X sc fp H1 a g CO Rl N K) (GItem X sc fp H1 a g CO Rl N K) N s2 c ((model X.prog X.w).den c) [] s2

abbrev TGS := L2.St → Hp → GK → Prop
structure PSrc (X : Cx) (k : Nat) (e : Expr) (tg : TGS) : Prop where
  run : ∀ (pins : List (Addr × Obj)) (s : Shared) (σ : L2.St) (H : Hp) (K : GK), Inv X pins σ H s → tg σ H K → wpAny (model X.prog X.w) X.A (eval e X.env)
    (fun u s' => ∃ H1 sc fp, Inv X pins σ H1 sc ∧ ExOk X pins fp ∧ Made X k H1 sc fp K u s') X.xe s

/-- the reading: the walked thing, the table grown, the turns -/
def tGx (P : Addr) (wi : TI) (g : TG) (tt : TT) (te : TE) (vs : List Nat) : TGS := fun σ H K => wi σ H fun J H1 => GxR.TabG H1 P ∧ ∀ H2, GxR.Tabbed P H1 H2 →
  ∃ W : Nat → Nat → List V → Hp → Prop, (∃ m, W 0 m [] H2) ∧ Turns J g tt te vs σ K W

section
variable {X : Cx} {k : Nat} {c P : Addr} {elt tg iter : Expr} {ifs : List Expr} {scope : Scope} {own : List (Str × Nat)} {pos : Pos} {wi : TI} {g : TG} {tt : TT} {te : TE}

theorem start_code {M : Model} {A : Around} {R : GenEnd} {Y : Protocol} {n : Nat} {s₀ s : Shared} {it : Addr} {cenv : Env}
    (hself : wpAny M (A.deeper cenv) (pyIter (.ref it)) (fun it' s' => it' = .ref it ∧ s' = s) (fun _ _ => False) s)
    (hden : M.den (.compStart (.GeneratorExp elt [⟨tg, iter, ifs, 0⟩] scope pos) 0 (.ref it) .none cenv) = (compStart (.GeneratorExp elt [⟨tg, iter, ifs, 0⟩] scope pos) 0 (.ref it) .none cenv).onRaise (leaving cenv))
    (lp : Seg M A R Y n s₀ (.compLoop (.GeneratorExp elt [⟨tg, iter, ifs, 0⟩] scope pos) 0 (.ref it) .none cenv) (M.den (.compLoop (.GeneratorExp elt [⟨tg, iter, ifs, 0⟩] scope pos) 0 (.ref it) .none cenv)) [] s) :
    Seg M A R Y n s₀ (.compStart (.GeneratorExp elt [⟨tg, iter, ifs, 0⟩] scope pos) 0 (.ref it) .none cenv) (M.den (.compStart (.GeneratorExp elt [⟨tg, iter, ifs, 0⟩] scope pos) 0 (.ref it) .none cenv)) [] s := by
  have sf : ∀ (Q : Value → Shared → Prop) (E : Value → Shared → Prop), Q (.ref it) s → wpAny M (A.over (.compStart (.GeneratorExp elt [⟨tg, iter, ifs, 0⟩] scope pos) 0 (.ref it) .none cenv) []) (pyIter (.ref it)) Q E s := fun Q E hQ => by
    rw [over_gxs]
    exact wpAny_mono hself (fun u s' ⟨e1, e2⟩ => by subst e1 e2; exact hQ) fun _ _ h => h.elim
  rw [hden]
  unfold compStart
  rw [Sem.onRaise_eq_wrap]
  show Seg _ A _ _ _ s₀ _ ((ask >>= _).wrap _ _ _ _) [] s
  refine seg_bind_wrap (wpAny_askSetting ?_)
  split
  · exact seg_again rfl lp
  · first
      | exact seg_bind_wrap (wpAny_rule (seg_bind_wrap (wpAny_standAt (seg_bind_wrap (sf _ _ (seg_again rfl lp))))))
      | (refine seg_bind_wrap (wpAny_rule ?_); show Seg _ A _ _ _ s₀ _ ((standAt iter.pos >>= _).wrap _ _ _ _) [] s; exact seg_bind_wrap (wpAny_standAt (seg_bind_wrap (sf _ _ (seg_again rfl lp)))))
end
end Gx
set_option Elab.async false
set_option linter.all false
set_option maxRecDepth 100000
set_option maxHeartbeats 4000000
namespace Gx
open PySem PySem.Spec PyProof.Rows L2 GenW

theorem pinned {X : Cx} {A : Around} {sc s : Shared} {H H' : Hp} {cenv : Env} {fp : List Addr} {pn : List (Addr × Obj)} {σ : L2.St} (I : Inv (cx X A sc H cenv fp []) [] σ H' s)
    (h : ∀ p ∈ pn, s.heap.get? p.1 = some p.2 ∧ H' p.1 = none ∧ p.1 ≠ cenv.locals ∧ p.1 ∉ frs X.stack ∧ ∀ v, p.2.data ≠ .cell v) : Inv (cx X A sc H cenv fp pn) [] σ H' s :=
  ⟨⟨I.ok.mod, I.ok.kind, I.ok.glob, I.ok.blt, I.ok.above, I.ok.inj, I.ok.has, I.ok.cab, I.ok.hd, I.ok.frames, I.ok.stk, I.ok.exf, I.ok.bs, I.ok.bsz, I.ok.noex, I.ok.exfs, I.ok.funs, I.ok.frf⟩, I.os, I.bare, I.base, I.loc, I.cell, I.free, I.freeC,
    fun p hp => h p (by simpa using hp), I.hok, I.len⟩

section
variable {X : Cx} {k : Nat} {c P : Addr} {elt tg iter : Expr} {ifs : List Expr} {scope : Scope} {own : List (Str × Nat)} {pos : Pos} {wi : TI} {g : TG} {tt : TT} {te : TE}

theorem made {pins : List (Addr × Obj)} {σ : L2.St} {H2 : Hp} {sc : Shared} {fp : List Addr} {tn : Nat → Heap → Prop} {J : It} {K : GK} {W : Nat → Nat → List V → Hp → Prop} {it : Addr} {code : Value} {h' : Heap} {m0 : Nat} {mm : Str → Option Value} {tk : Nat} {nm qn : Value}
    (hc : X.calm = true) (hN : X.N.Nodup) (ok : BlkOk X.N X.env.scope scope own) (hcell : ∀ y ∈ scope.names, y.2 ≠ .cell) (hco : scope.isCoroutine = false)
    (hg : ∀ (A : Around) (s : Shared) (H : Hp) (C : Addr) (cl : List (Str × Addr)) (cd : Value) (fp : List Addr) (pn : List (Addr × Obj)), PG (cx X A s H (genEnv scope cl C cd builtinsNs X.env) fp pn) tg g)
    (ht : ∀ (A : Around) (s : Shared) (H : Hp) (C : Addr) (cl : List (Str × Addr)) (cd : Value) (fp : List Addr) (pn : List (Addr × Obj)), Room k (A.deeper (genEnv scope cl C cd builtinsNs X.env)) → PTs (cx X A s H (genEnv scope cl C cd builtinsNs X.env) fp pn) ifs tt)
    (he : ∀ (A : Around) (s : Shared) (H : Hp) (C : Addr) (cl : List (Str × Addr)) (cd : Value) (fp : List Addr) (pn : List (Addr × Obj)), Room k (A.deeper (genEnv scope cl C cd builtinsNs X.env)) → PE (cx X A s H (genEnv scope cl C cd builtinsNs X.env) fp pn) elt te)
    (I : Inv X pins σ H2 sc) (T : Turn X.prog X.w X.K tg J fp it tn) (htn : tn 0 sc.heap) (hfp : ∀ b ∈ fp, FpOk X pins H2 b) (w0 : W 0 m0 [] H2) (turn : Turns J g tt te (own.map (·.2)) σ K W)
    (hn : h'.Ns sc.heap.objs.size mm) (hs : Heap.SameBut sc.heap.objs.size (sc.heap.push { cls := .type "frame", data := .dict #[] }) h') :
    Made X (k + 1) H2 sc fp K (.ref h'.objs.size) { sc with gens := sc.gens.push (.fresh (.compStart (.GeneratorExp elt [⟨tg, iter, ifs, 0⟩] scope pos) 0 (.ref it) .none (genEnv scope (cloFrom X.env.cells scope.names []) sc.heap.objs.size code builtinsNs X.env))), toks := tk, heap := h'.push { cls := .type "generator", data := .fields #[.int sc.gens.size 0, nm, qn] } } := by
  generalize hcl : cloFrom X.env.cells scope.names [] = cl
  have sz' : h'.objs.size = sc.heap.objs.size + 1 := by rw [hs.1, Heap.size_push]
  have keep' : ∀ b o, sc.heap.get? b = some o → h'.get? b = some o := fun b o e => hs.extBut b o (Nat.ne_of_lt (Heap.lt_size e)) (Heap.get?_push_of_some _ e)
  generalize hgo : ({ cls := .type "generator", data := .fields #[.int sc.gens.size 0, nm, qn] } : Obj) = go
  have hpush : (h'.push go).get? h'.objs.size = some go := Heap.get?_push_size _ (by rw [← hgo]; rfl)
  have keep5 : ∀ b o, sc.heap.get? b = some o → (h'.push go).get? b = some o := fun b o e => Heap.get?_push_of_some _ (keep' b o e)
  have hgen : ∀ h : Heap, h.get? h'.objs.size = some go → h.IsGen h'.objs.size sc.gens.size := fun h e => ⟨go, nm, qn, e, by rw [← hgo], by rw [← hgo], by rw [← hgo]⟩
  have sz5 : (h'.push go).objs.size = sc.heap.objs.size + 2 := by rw [Heap.size_push, sz']
  have lim5 : (h'.push go).NoLimit := I.nolimit.keeps keep5
  have hgd : ∀ v, go.data ≠ .cell v := fun v q => by rw [← hgo] at q; cases q
  have fplt : ∀ b ∈ fp, b < sc.heap.objs.size := fun b hb => by
    obtain ⟨o, e, _⟩ := T.obj _ _ htn b hb
    exact Heap.lt_size e
  refine ⟨h'.objs.size, sc.gens.size, _, m0, rfl, by omega, by show _ < (h'.push go).objs.size; omega, hgen _ hpush, Array.getElem?_push_size .., rfl, AllBare.push I.bare rfl, lim5, keep5, ?_⟩
  intro A CO Rl s2 hr hfr hCO hst hk2 hown hos hba hRl
  have hCO : ∀ b ∈ CO, sc.heap.objs.size + 2 ≤ b := fun b hb => by
    have q : (h'.push go).objs.size ≤ b := hCO b hb
    rw [sz5] at q; exact q
  have I1 := gstart (A := A) (code := code) (g5 := sc.gens.push (.fresh (.compStart (.GeneratorExp elt [⟨tg, iter, ifs, 0⟩] scope pos) 0 (.ref it) .none (genEnv scope cl sc.heap.objs.size code builtinsNs X.env)))) (d5 := sc.drawn) (t5 := tk) I ok hN hcell (fun b hb => ⟨hfp b hb, fplt b hb⟩) hr.hd hfr (hn.push go) keep5 (AllBare.push I.bare rfl)
  rw [hcl] at I1
  have I2 : Inv (cx X A sc H2 (genEnv scope cl sc.heap.objs.size code builtinsNs X.env) fp []) [] (wipe σ (own.map (·.2))) H2 s2 :=
    I1.call' (ch := []) hos (Un.kept hk2) (I1.hok.kept hk2) hba fun b z => by cases z
  have young : ∀ b, sc.heap.objs.size + 1 ≤ b → H2 b = none ∧ b ≠ sc.heap.objs.size ∧ b ∉ frs X.stack := fun b hb => by
    refine ⟨I.hok.fresh (Nat.le_of_succ_le hb), Nat.ne_of_gt hb, fun z => ?_⟩
    rcases List.mem_cons.mp (I.stkSub b z) with z | z
    · have := I.lt
      rw [← z] at this
      exact absurd (Nat.lt_of_lt_of_le this (Nat.le_of_succ_le hb)) (Nat.lt_irrefl _)
    · exact I.nofs (Nat.le_of_succ_le hb) z
  have I3 : Inv (cx X A sc H2 (genEnv scope cl sc.heap.objs.size code builtinsNs X.env) fp [(h'.objs.size, go)]) [] (wipe σ (own.map (·.2))) H2 s2 := by
    refine pinned I2 fun p hp => ?_
    rw [List.mem_singleton.mp hp]
    obtain ⟨y1, y2, y3⟩ := young h'.objs.size (by omega)
    exact ⟨hk2 _ _ hpush, y1, y2, y3, hgd⟩
  have yg : Young (cx X A sc H2 (genEnv scope cl sc.heap.objs.size code builtinsNs X.env) fp [(h'.objs.size, go)]) CO := by
    refine ⟨fun b hb => ?_, fun b hb => ?_, fun b hb x cc e z => ?_, fun b hb p hp z => ?_, fun b hb z => ?_⟩
    · have := hCO b hb; show sc.heap.objs.size ≤ b; omega
    · have := hCO b hb; exact Nat.ne_of_gt (show sc.heap.objs.size < b by omega)
    · obtain ⟨v, q⟩ := I1.cell x cc e
      have e2 : cl.lookup x = some cc := e
      rw [← hcl] at e2
      have q2 : cc < sc.heap.objs.size := by
        rcases cloFrom_mem (PySem.mem_of_lookup e2) with hm | ⟨h1, h2⟩
        · cases hm
        · have hfree : ∃ c, X.env.cells.lookup x = some c := by
            rcases ok.free _ h1 rfl with k | k
            · exact I.ok.has _ (.inl k)
            · exact I.ok.has _ (.inr k)
          obtain ⟨c2, hc2⟩ := hfree
          rw [hc2] at h2
          obtain ⟨w2, z2⟩ := I.cell _ _ hc2
          have := z2.lt
          rw [h2]; exact this
      have h9 := hCO b hb
      rw [z] at q2
      exact absurd (Nat.lt_of_lt_of_le q2 (Nat.le_trans (Nat.le_add_right _ 2) h9)) (Nat.lt_irrefl _)
    · rw [List.mem_singleton.mp hp] at z
      have := hCO b hb
      have z : (h'.objs.size : Nat) = b := z
      omega
    · exact absurd (Nat.lt_of_lt_of_le (fplt b z) (Nat.le_trans (Nat.le_add_right _ 2) (hCO b hb))) (Nat.lt_irrefl _)
  have G0 := GI.make I3 yg (fun b hb => let y := young b (by have := hCO b hb; omega); ⟨y.1, y.2.2⟩) hown
  have hdp : Room k (A.deeper (genEnv scope cl sc.heap.objs.size code builtinsNs X.env)) := hr.deeper _
  have aw : ∀ {σ' : L2.St} {H : Hp} {s : Shared}, GI (cx X A sc H2 (genEnv scope cl sc.heap.objs.size code builtinsNs X.env) fp [(h'.objs.size, go)]) CO σ' H s → Aw X sc fp H2 h'.objs.size sc.gens.size CO H s := fun {σ' H s} G => by
    have hf := G.free
    obtain ⟨pp, _, J⟩ := G
    exact ⟨J.os, J.bare, J.base, J.hok, J.nolimit, hgen _ (J.pin (h'.objs.size, go) (List.mem_append_left _ (List.mem_singleton.mpr rfl))).1, fun b hb => (hf b hb).1, fun b hb => let ⟨_, o, q1, q2, _⟩ := hf b hb; ⟨o, q1, q2⟩⟩
  have tn2 : tn 0 s2.heap := T.keep _ _ _ htn fun b _ o e => hk2 _ _ (keep5 b o e)
  refine start_code ?_ rfl ?_
  · exact T.self _ 0 s2 _ _ tn2 ⟨rfl, rfl⟩
  · refine loop (X' := cx X A sc H2 (genEnv scope cl sc.heap.objs.size code builtinsNs X.env) fp [(h'.objs.size, go)]) (fp := fp) (CO := CO) (Rl := Rl) (N := m0) (K := K) (σ := σ) (vs := own.map (·.2)) rfl rfl hc rfl hco yg (fun b hb p hp z => ?_) T (hg ..) (ht _ _ _ _ _ _ _ _ hdp) (he _ _ _ _ _ _ _ _ hdp) hst turn
      (fun n s₀ s ys H h00 hn hG hRl' dn => .inl ⟨.inr rfl, h00, ys, H, hn, aw hG, hRl', dn⟩) (fun n s₀ v s kap ys x σ' H h00 hn hv hG hRl' md hgo => ⟨h00, ys, x, H, hn, hv, aw hG, hRl', md, hgo⟩)
      m0 m0 0 [] s2 s2 H2 (fun _ _ => rfl) (Nat.add_zero _) (Nat.le_refl _) G0 hRl tn2 (fun b hb => (hfp b hb).1) w0
    rw [List.mem_singleton.mp hp] at z
    have h9 := fplt b hb
    have z : h'.objs.size = b := z
    rw [← z, sz'] at h9
    exact absurd h9 (Nat.not_lt_of_le (Nat.le_add_right _ 1))
end
end Gx
set_option Elab.async false
set_option linter.all false
set_option maxRecDepth 100000
set_option maxHeartbeats 4000000
namespace Gx
open PySem PySem.Spec PyProof.Rows L2 GenW
section
variable {X : Cx} {k : Nat} {c P : Addr} {elt tg iter : Expr} {ifs : List Expr} {scope : Scope} {own : List (Str × Nat)} {pos : Pos} {wi : TI} {g : TG} {tt : TT} {te : TE}
/-- THE RULE: a generator expression, by its parts -/
theorem psrc (hr : Room (k + 1) X.A) (hc : X.calm = true) (hN : X.N.Nodup) (TB : GxR.TabB X.base X.mg c P) (hcode : X.env.code = .ref c) (hi : PI X tg iter wi) (ok : BlkOk X.N X.env.scope scope own) (hcell : ∀ y ∈ scope.names, y.2 ≠ .cell) (h0 : scope.names.lookup (".0" : Str) = some NameKind.local) (hco : scope.isCoroutine = false)
    (hg : ∀ (A : Around) (s : Shared) (H : Hp) (C : Addr) (cl : List (Str × Addr)) (cd : Value) (fp : List Addr) (pn : List (Addr × Obj)), PG (cx X A s H (genEnv scope cl C cd builtinsNs X.env) fp pn) tg g)
    (ht : ∀ (A : Around) (s : Shared) (H : Hp) (C : Addr) (cl : List (Str × Addr)) (cd : Value) (fp : List Addr) (pn : List (Addr × Obj)), Room k (A.deeper (genEnv scope cl C cd builtinsNs X.env)) → PTs (cx X A s H (genEnv scope cl C cd builtinsNs X.env) fp pn) ifs tt)
    (he : ∀ (A : Around) (s : Shared) (H : Hp) (C : Addr) (cl : List (Str × Addr)) (cd : Value) (fp : List Addr) (pn : List (Addr × Obj)), Room k (A.deeper (genEnv scope cl C cd builtinsNs X.env)) → PE (cx X A s H (genEnv scope cl C cd builtinsNs X.env) fp pn) elt te)
    (hs : ∀ v, genFold iter X.env v = pure v := by intro _; rfl) : PSrc X (k + 1) (.GeneratorExp elt [⟨tg, iter, ifs, 0⟩] scope pos) (tGx P wi g tt te (own.map (·.2))) := by
  refine ⟨fun pins s σ H K I h => ?_⟩
  have hfree : ∀ y ∈ scope.names, y.2 = .free → ∃ c, X.env.cells.lookup y.1 = some c := fun y hy e => by
    rcases ok.free y hy e with k | k
    · exact I.ok.has _ (.inl k)
    · exact I.ok.has _ (.inr k)
  refine wpAny_GeneratorExp_make hco (closure_ok hfree) hcell h0 ok.kind (by have := hr.dp; omega) ?_ hs
  refine thn (hi.run pins s σ H _ I h) fun xv s1 hx => thn hx fun itv s2 h2 => ?_
  obtain ⟨it, fp, tn, J, H1, rfl, I2, T, st2, f2, ⟨ps, hP, htr⟩, q⟩ := h2
  refine ⟨I2.nolimit, ?_⟩
  have hPs : s2.heap.get? P = some { cls := .none, data := .fields ps } := I2.hok P _ hP
  have cd : PySem.W.CodeHd s2.heap c P := TB.code.keeps fun b u e => I2.bk b u e
  have fpP : ∀ b ∈ fp, b ≠ P := fun b hb z => by
    have := (f2 b hb).1
    rw [z, hP] at this; cases this
  have cont : ∀ (code : Value) (h3 : Heap) (tk : Nat) (ps' : Array Value), Heap.ExtBut P s2.heap h3 → h3.get? P = some { cls := .none, data := .fields ps' } → (∃ more, ps' = ps ++ more) → TriplesOk ps'.toList →
      wpAny (model X.prog X.w) X.A (builtinsFor X.env.globals X.env.builtins) (fun bi s₄ => ∀ h', h'.Ns s₄.heap.objs.size (fun y => if y = ".0" then some (.ref it) else none) → Heap.SameBut s₄.heap.objs.size (s₄.heap.push { cls := .type "frame", data := .dict #[] }) h' →
          ∃ H1 sc fp, Inv X pins σ H1 sc ∧ ExOk X pins fp ∧ Made X (k + 1) H1 sc fp K (.ref h'.objs.size) { s₄ with
            gens := s₄.gens.push (.fresh (.compStart (.GeneratorExp elt [⟨tg, iter, ifs, 0⟩] scope pos) 0 (.ref it) .none (genEnv scope (cloFrom X.env.cells scope.names []) s₄.heap.objs.size code bi X.env))),
            toks := s₄.toks + 1 + 1 + 1,
            heap := h'.push { cls := .type "generator", data := .fields #[.int s₄.gens.size 0, .str "<genexpr>" (s₄.toks + 1), .str (X.env.qual ++ "<genexpr>") (s₄.toks + 1 + 1)] } }) X.xe { s2 with heap := h3, toks := tk } := by
    intro code h3 tk ps' hx hP3 hmore ht3
    obtain ⟨more, em⟩ := hmore
    obtain ⟨bm, ob, e1, e2, e3, e4, e5, e6, e7, e8⟩ := TB.bm
    have keep3 : ∀ b u, b ≠ P → s2.heap.get? b = some u → h3.get? b = some u := fun b u hb e => hx b u hb e
    refine wpAny_builtinsFor (m := X.mg) (by rw [I2.ok.glob]; exact (I2.mod.glob.keeps I2.bk).extBut hx TB.gP) e1 e2 (keep3 _ _ e4 (I2.bk _ _ e5)) e6 e7 e8 ?_
    intro h' hn' hs'
    have I3 : Inv X pins σ (upd H1 P (.tbl ps')) { s2 with heap := h3, toks := tk } := by
      have J := GxR.inv_tab (more := more) (h' := h3) (g' := s2.gens) (d' := s2.drawn) (t' := tk) I2 hP keep3 (by rw [← em]; exact hP3) I2.bare
      rw [← em] at J
      exact J
    have T2 : GxR.Tabbed P H1 (upd H1 P (.tbl ps')) := ⟨⟨ps', upd_same, ht3⟩, fun b hb => upd_ne hb⟩
    obtain ⟨W, ⟨m0, w0⟩, turn⟩ := q _ T2
    have f3 : ∀ b ∈ fp, FpOk X pins (upd H1 P (.tbl ps')) b := fun b hb => ⟨by rw [upd_ne (fpP b hb)]; exact (f2 b hb).1, (f2 b hb).2⟩
    have tn3 : tn 0 h3 := T.keep _ _ _ st2 fun b hb o e => keep3 b o (fpP b hb) e
    refine ⟨upd H1 P (.tbl ps'), { s2 with heap := h3, toks := tk }, fp, I3, fun b hb => ⟨(f3 b hb).2.2.2.1, (f3 b hb).2.1, (f3 b hb).2.2.2.2.1, (f3 b hb).2.2.2.2.2⟩, ?_⟩
    exact made hc hN ok hcell hco hg ht he I3 T tn3 f3 w0 turn hn' hs'
  cases hf : codeAmong pos ps.toList with
  | none =>
    refine wpAny_genexprCodeX hcode (cd.code hPs htr) (cd.tab hPs) hf fun c' h' tk hx hge hlt hco' _ htab' _ => ?_
    obtain ⟨o1, vs, f1, tf, fl, tg, inF, tx, tt, op, _, _, _, _, _, _, _, _, _, htr', _⟩ := hco'
    exact cont _ h' tk _ hx htab'.2 ⟨_, rfl⟩ htr'
  | some cv =>
    refine wpAny_genexprCode_hit hcode (cd.code hPs htr) hf ?_
    exact cont cv s2.heap s2.toks ps (Heap.ExtBut.refl _ _) hPs ⟨#[], by simp⟩ htr
end

/-! ### the consumer -/
section
variable {X : Cx} {sc : Shared} {fp : List Addr} {H1 : Hp} {a : Addr} {g : Nat} {CO : List Addr} {Rl : Rel} {N : Nat} {K : GK}
/-- the generator sleeps; n items more at most -/
structure Live (X : Cx) (sc : Shared) (fp : List Addr) (H1 : Hp) (a : Addr) (g : Nat) (CO : List Addr) (Rl : Rel) (N : Nat) (K : GK) (B : Around) (n : Nat) (s : Shared) : Prop where
  gen : s.heap.IsGen a g
  lim : s.heap.NoLimit
  goes : ∃ gs, s.gens[g]? = some gs ∧ gs.Goes (model X.prog X.w) B (GEnd X sc fp H1 a g CO Rl N K) (GItem X sc fp H1 a g CO Rl N K) n (.send .none) (s.setGen g .running)
/-- an item is out: the consumer may go on from any state that kept all but its own -/
theorem next {A : Around} {n : Nat} {s : Shared} {Q : Option Value → Shared → Prop} {E : Value → Shared → Prop} (hh : A.handled = none) (hd : A.depth < recursionLimit) (hst : Stable CO Rl) (haC : a ∉ CO) (hcC : cStatics ∉ CO) (L : Live X sc fp H1 a g CO Rl N K A.in1 n s)
    (hY : ∀ ys x v H' s1, (∀ b ∈ CO, s1.heap.get? b = s.heap.get? b) → n - 1 + 1 + ys.length = N → RelV x v → Aw X sc fp H1 a g CO H' s1 → Rl ys s1 → K.mid ys x H' →
      (K.go x → ∀ s', s'.os = s1.os → s'.gens = s1.gens → (∀ b o, b ∉ CO → s1.heap.get? b = some o → s'.heap.get? b = some o) → (∀ b ∈ CO, ∃ o, s'.heap.get? b = some o ∧ ∀ v, o.data ≠ .cell v) → Rl (ys ++ [x]) s' → 0 < n ∧ Live X sc fp H1 a g CO Rl N K A.in1 (n - 1) s') → Q (some v) s1)
    (hP : ∀ ys H' s1, (∀ b ∈ CO, s1.heap.get? b = s.heap.get? b) → n + ys.length = N → Aw X sc fp H1 a g CO H' s1 → Rl ys s1 → K.done ys H' → Q none s1) :
    wpAny (model X.prog X.w) A (pyNext (.ref a)) Q E s := by
  obtain ⟨hg, hl, gs, hgs, hgo⟩ := L
  have hgl : g < s.gens.size := (Array.getElem?_eq_some_iff.mp hgs).1
  refine wpAny_gsz (n := g + 1) hgl (next_genG (A := A) (Er := fun _ _ => False) (F := GFin X sc fp H1 a g CO Rl N K) (Y := GItem X sc fp H1 a g CO Rl N K) hh hl hd hg hgs hgo (fun v s₁ gs' hbare hv => ?_) (fun s₁ hp h' hk => ?_) fun e s₁ he => he.elim)
  · intro hsz
    have hsz1 : g < s₁.gens.size := by
      have q : (s₁.setGen g gs').gens.size = s₁.gens.size := setGen_size _ _ _
      have hsz' : g + 1 ≤ (s₁.setGen g gs').gens.size := hsz
      omega
    obtain ⟨h00, ys, x, H', h1, h2, h3, h4, h5, h7⟩ := hv
    have hb : AllBare (s₁.setGen g gs').gens := allBare_setGen h3.bare hbare
    refine hY ys x v H' _ h00 h1 h2 ⟨h3.os, hb, h3.un, h3.hok, h3.lim, h3.gen, h3.free, h3.own⟩ (hst.keep ys s₁ _ (fun _ _ => rfl) h4) h5 fun hgo' s' e1 e2 e3 e4 e5 => ?_
    have z : Slept CO Rl (ys ++ [x]) s₁ (s'.setGen g .running) :=
      ⟨e1, allBare_setGen (by rw [e2]; exact hb) rfl, e3, e4, hst.keep _ s' _ (fun _ _ => rfl) e5⟩
    cases n with
    | zero => exact (h7 hgo' _ z).elim
    | succ m =>
      refine ⟨Nat.succ_pos _, ?_, ?_, gs', by rw [e2]; exact setGen_at hsz1, h7 hgo' _ z⟩
      · obtain ⟨o, nm, qn, ho, r⟩ := h3.gen
        exact ⟨o, nm, qn, e3 a o haC ho, r⟩
      · obtain ⟨mc, hns, hnn⟩ := h3.lim
        exact ⟨mc, hns.at' fun o e => e3 _ o hcC e, hnn⟩
  · intro hsz
    obtain ⟨h00, ys, H', h1, h2, h3, h4⟩ := hp
    have hsame : ∀ b ∈ CO, h'.get? b = s₁.heap.get? b := fun b hb => by
      obtain ⟨o, q1, _⟩ := h2.own b hb
      rw [q1, hk _ _ q1]
    refine hP ys H' _ (fun b hb => (hsame b hb).trans (h00 b hb)) h1 ⟨h2.os, allBare_setGen h2.bare rfl, h2.un.trans (Un.kept hk), h2.hok.kept hk, h2.lim.keeps hk, h2.gen.keeps hk, h2.free, fun b hb => let ⟨o, q1, q2⟩ := h2.own b hb; ⟨o, hk _ _ q1, q2⟩⟩ ?_ h4
    exact hst.keep ys s₁ _ hsame h3
/-- to begin with -/
theorem Made.live {k : Nat} {u : Value} {s' s2 : Shared} {A : Around} (M : Made X k H1 sc fp K u s') (hr : Room k A.in1) (hfr : A.frames = some X.stack) :
    ∃ a g N, u = .ref a ∧ sc.heap.objs.size ≤ a ∧ a < s'.heap.objs.size ∧ s'.heap.IsGen a g ∧ s'.heap.NoLimit ∧ s'.os = sc.os ∧ AllBare s'.gens ∧ (∀ b o, sc.heap.get? b = some o → s'.heap.get? b = some o) ∧
      ∀ (CO : List Addr) (Rl : Rel), (∀ b ∈ CO, s'.heap.objs.size ≤ b) → Stable CO Rl → (∀ b o, s'.heap.get? b = some o → s2.heap.get? b = some o) → (∀ b ∈ CO, ∃ o, s2.heap.get? b = some o ∧ ∀ v, o.data ≠ .cell v) → s2.os = s'.os → s2.gens = s'.gens → Rl [] s2 → Live X sc fp H1 a g CO Rl N K A.in1 N s2 := by
  obtain ⟨a, g, c, N, e, h1, h2, h3, h4, h5, h6, h7, h8, h9⟩ := M
  refine ⟨a, g, N, e, h1, h2, h3, h7, h5, h6, h8, fun CO Rl q1 q2 q3 q4 q5 q6 q7 => ⟨h3.keeps q3, h7.keeps q3, .fresh c, by rw [q6]; exact h4, ?_⟩⟩
  exact ⟨rfl, h9 A.in1 CO Rl _ hr hfr q1 q2 q3 q4 q5 (allBare_setGen (by rw [q6]; exact h6) rfl) (q2.keep _ s2 _ (fun _ _ => rfl) q7)⟩
end
end Gx
set_option Elab.async false
set_option linter.all false
set_option maxRecDepth 100000
set_option maxHeartbeats 4000000
namespace Gx
open PySem PySem.Spec PyProof.Rows L2 GenW

section
variable {X : Cx} {sc : Shared} {fp : List Addr} {H1 : Hp} {a : Addr} {g : Nat} {N : Nat} {k : Nat}

/-! ### all, any -/
def bRel (t : Bool) : Rel := fun ys _ => ∀ y ∈ ys, y = V.bl t
theorem bStable {t : Bool} {CO : List Addr} : Stable CO (bRel t) := ⟨fun _ _ _ _ h => h⟩
/-- all: an item is a bool; at the first False it ends -/
def kAll (Q : VK) : GK := ⟨fun ys y H => ∃ b, y = .bl b ∧ (b = false → (∀ z ∈ ys, z = V.bl true) → Q (.bl false) H), fun y => y = .bl true, fun ys H => (∀ z ∈ ys, z = V.bl true) → Q (.bl true) H⟩
theorem all_loop {A : Around} {R : Result → Shared → Prop} {Q : VK} (hh : A.handled = none) (hd : A.depth < recursionLimit)
    (hR : ∀ b H' s', Aw X sc fp H1 a g [] H' s' → Q (.bl b) H' → R (.ok (.ret (.bool b))) s') :
    ∀ (n : Nat) (s : Shared), Live X sc fp H1 a g [] (bRel true) N (kAll Q) A.in1.in1 n s → codeAny (model X.prog X.w) A (.builtin "all.loop" ⟨[.ref a], []⟩) R s := by
  intro n
  induction n with
  | zero =>
    intro s L
    refine codeAny_builtin F.entry_all_loop ?_
    rw [Around.under_plainId F.plain_all_loop _]
    show wpAny _ A.in1 (pyNext (.ref a) >>= _) _ _ s
    refine wpAny_bind (next (A := A.in1) hh hd bStable (by simp) (by simp) L (fun ys x v H' s1 _ hn rv aw hrl md hgo => ?_) fun ys H' s1 _ hn aw hrl dn => ?_)
    · obtain ⟨b, rfl, hf⟩ := md
      have rv : v = Value.bool b := rv
      subst rv
      cases b with
      | true =>
        have := (hgo rfl s1 rfl rfl (fun _ _ _ e => e) (fun _ hb => by cases hb) (fun y hy => by rcases List.mem_append.mp hy with hy | hy; exact hrl y hy; exact List.mem_singleton.mp hy)).1
        omega
      | false =>
        refine wpAny_bind (wpAny_holding (wpAny_truthy_bool ?_))
        refine wpAny_bind (wpAny_letGo ?_)
        simp only [Bool.false_eq_true, if_false]
        exact wpAny_bind (wpAny_rule (wpAny_pure (hR false H' _ aw (hf rfl hrl))))
    · exact wpAny_bind (wpAny_rule (wpAny_pure (hR true H' _ aw (dn hrl))))
  | succ n ih =>
    intro s L
    refine codeAny_builtin F.entry_all_loop ?_
    rw [Around.under_plainId F.plain_all_loop _]
    show wpAny _ A.in1 (pyNext (.ref a) >>= _) _ _ s
    refine wpAny_bind (next (A := A.in1) hh hd bStable (by simp) (by simp) L (fun ys x v H' s1 _ hn rv aw hrl md hgo => ?_) fun ys H' s1 _ hn aw hrl dn => ?_)
    · obtain ⟨b, rfl, hf⟩ := md
      have rv : v = Value.bool b := rv
      subst rv
      refine wpAny_bind (wpAny_holding (wpAny_truthy_bool ?_))
      refine wpAny_bind (wpAny_letGo ?_)
      cases b with
      | true =>
        simp only [if_true]
        exact wpAny_pure ⟨plainId_quiet F.plain_all_loop _, ih _ (hgo rfl s1 rfl rfl (fun _ _ _ e => e) (fun _ hb => by cases hb) (fun y hy => by rcases List.mem_append.mp hy with hy | hy; exact hrl y hy; exact List.mem_singleton.mp hy)).2⟩
      | false =>
        simp only [Bool.false_eq_true, if_false]
        exact wpAny_bind (wpAny_rule (wpAny_pure (hR false H' _ aw (hf rfl hrl))))
    · exact wpAny_bind (wpAny_rule (wpAny_pure (hR true H' _ aw (dn hrl))))
/-- any: an item is a bool; at the first True it ends -/
def kAny (Q : VK) : GK := ⟨fun ys y H => ∃ b, y = .bl b ∧ (b = true → (∀ z ∈ ys, z = V.bl false) → Q (.bl true) H), fun y => y = .bl false, fun ys H => (∀ z ∈ ys, z = V.bl false) → Q (.bl false) H⟩
theorem any_loop {A : Around} {R : Result → Shared → Prop} {Q : VK} (hh : A.handled = none) (hd : A.depth < recursionLimit)
    (hR : ∀ b H' s', Aw X sc fp H1 a g [] H' s' → Q (.bl b) H' → R (.ok (.ret (.bool b))) s') :
    ∀ (n : Nat) (s : Shared), Live X sc fp H1 a g [] (bRel false) N (kAny Q) A.in1.in1 n s → codeAny (model X.prog X.w) A (.builtin "any.loop" ⟨[.ref a], []⟩) R s := by
  intro n
  induction n with
  | zero =>
    intro s L
    refine codeAny_builtin F.entry_any_loop ?_
    rw [Around.under_plainId F.plain_any_loop _]
    show wpAny _ A.in1 (pyNext (.ref a) >>= _) _ _ s
    refine wpAny_bind (next (A := A.in1) hh hd bStable (by simp) (by simp) L (fun ys x v H' s1 _ hn rv aw hrl md hgo => ?_) fun ys H' s1 _ hn aw hrl dn => ?_)
    · obtain ⟨b, rfl, hf⟩ := md
      have rv : v = Value.bool b := rv
      subst rv
      cases b with
      | false =>
        have := (hgo rfl s1 rfl rfl (fun _ _ _ e => e) (fun _ hb => by cases hb) (fun y hy => by rcases List.mem_append.mp hy with hy | hy; exact hrl y hy; exact List.mem_singleton.mp hy)).1
        omega
      | true =>
        refine wpAny_bind (wpAny_holding (wpAny_truthy_bool ?_))
        refine wpAny_bind (wpAny_letGo ?_)
        simp only [if_true]
        exact wpAny_bind (wpAny_rule (wpAny_pure (hR true H' _ aw (hf rfl hrl))))
    · exact wpAny_bind (wpAny_rule (wpAny_pure (hR false H' _ aw (dn hrl))))
  | succ n ih =>
    intro s L
    refine codeAny_builtin F.entry_any_loop ?_
    rw [Around.under_plainId F.plain_any_loop _]
    show wpAny _ A.in1 (pyNext (.ref a) >>= _) _ _ s
    refine wpAny_bind (next (A := A.in1) hh hd bStable (by simp) (by simp) L (fun ys x v H' s1 _ hn rv aw hrl md hgo => ?_) fun ys H' s1 _ hn aw hrl dn => ?_)
    · obtain ⟨b, rfl, hf⟩ := md
      have rv : v = Value.bool b := rv
      subst rv
      refine wpAny_bind (wpAny_holding (wpAny_truthy_bool ?_))
      refine wpAny_bind (wpAny_letGo ?_)
      cases b with
      | false =>
        simp only [Bool.false_eq_true, if_false]
        exact wpAny_pure ⟨plainId_quiet F.plain_any_loop _, ih _ (hgo rfl s1 rfl rfl (fun _ _ _ e => e) (fun _ hb => by cases hb) (fun y hy => by rcases List.mem_append.mp hy with hy | hy; exact hrl y hy; exact List.mem_singleton.mp hy)).2⟩
      | true =>
        simp only [if_true]
        exact wpAny_bind (wpAny_rule (wpAny_pure (hR true H' _ aw (hf rfl hrl))))
    · exact wpAny_bind (wpAny_rule (wpAny_pure (hR false H' _ aw (dn hrl))))

/-- the consumer's end, back in the caller's context -/
theorem back {pins : List (Addr × Obj)} {σ : L2.St} {H' : Hp} {s' : Shared} {CO : List Addr} (I : Inv X pins σ H1 sc) (hex : ExOk X pins fp) (aw : Aw X sc fp H1 a g CO H' s') : Inv X pins σ H' s' :=
  I.call' (ch := fp) aw.os aw.un aw.hok aw.bare hex

def tAll (tg : TGS) : TE := fun σ H Q => tg σ H (kAll Q)
def tAny (tg : TGS) : TE := fun σ H Q => tg σ H (kAny Q)
variable {e : Expr} {tg : TGS} {p pos : Pos}
theorem pe_all (h : PSrc X k e tg) (hr : Room (k + 2) X.A) (hg : Gl X "all") (hm : X.mg "all" = none) (he : starEach [e] X.env = (false, eval e X.env) :: starEach [] X.env := by rfl) :
    PE X (.Call (.Name "all" p) [e] [] pos) (tAll tg) := by
  refine ⟨fun pins s σ H Q I hq => ?_⟩
  refine wpAny_Call_Name_kw (ld_blt I hg hm boot_all ?_)
  refine PyProof.Rows.callWith_builtin1 ?_ he (by rfl)
  rw [he]
  show wpAny _ _ (spliced ((false, eval e X.env) :: backTo pos (starEach [] X.env))) _ _ s
  refine Calls.spliced_cons (thn (h.run pins s σ H _ I hq) fun u s1 ⟨H1, sc, fp, I1, hex, M⟩ => ?_)
  refine Calls.spliced_nil ?_
  obtain ⟨a, g, N, rfl, h1, h2, h3, h4, h5, h6, h7, h8⟩ := M.live (A := X.A.in1) (s2 := s1) hr.in1.in1 I1.ok.frames
  refine call_function_tree F.kind_all F.plain_all F.entry_all (F.args_all1 _) ?_
  unfold Builtin.«all»
  refine wpAny_bind (m := oneArg "all" _) (wpAny_pure ?_)
  refine wpAny_bind (wpAny_pyIter_gen h3 ?_)
  refine wpAny_pure ⟨plainId_quiet F.plain_all_loop _, all_loop (A := X.A) hr.hd (by have := hr.dp; show X.A.depth < _; omega) (fun b H' s' aw hq => ?_) N s1 (h8 [] (bRel true) (fun b hb => by cases hb) bStable (fun _ _ e => e) (fun b hb => by cases hb) rfl rfl (fun y hy => by cases hy))⟩
  exact ⟨.bl b, H', back I1 hex aw, rfl, hq⟩
theorem pe_any (h : PSrc X k e tg) (hr : Room (k + 2) X.A) (hg : Gl X "any") (hm : X.mg "any" = none) (he : starEach [e] X.env = (false, eval e X.env) :: starEach [] X.env := by rfl) :
    PE X (.Call (.Name "any" p) [e] [] pos) (tAny tg) := by
  refine ⟨fun pins s σ H Q I hq => ?_⟩
  refine wpAny_Call_Name_kw (ld_blt I hg hm boot_any ?_)
  refine PyProof.Rows.callWith_builtin1 ?_ he (by rfl)
  rw [he]
  show wpAny _ _ (spliced ((false, eval e X.env) :: backTo pos (starEach [] X.env))) _ _ s
  refine Calls.spliced_cons (thn (h.run pins s σ H _ I hq) fun u s1 ⟨H1, sc, fp, I1, hex, M⟩ => ?_)
  refine Calls.spliced_nil ?_
  obtain ⟨a, g, N, rfl, h1, h2, h3, h4, h5, h6, h7, h8⟩ := M.live (A := X.A.in1) (s2 := s1) hr.in1.in1 I1.ok.frames
  refine call_function_tree F.kind_any F.plain_any F.entry_any (F.args_any1 _) ?_
  unfold Builtin.«any»
  refine wpAny_bind (m := oneArg "any" _) (wpAny_pure ?_)
  refine wpAny_bind (wpAny_pyIter_gen h3 ?_)
  refine wpAny_pure ⟨plainId_quiet F.plain_any_loop _, any_loop (A := X.A) hr.hd (by have := hr.dp; show X.A.depth < _; omega) (fun b H' s' aw hq => ?_) N s1 (h8 [] (bRel false) (fun b hb => by cases hb) bStable (fun _ _ e => e) (fun b hb => by cases hb) rfl rfl (fun y hy => by cases hy))⟩
  exact ⟨.bl b, H', back I1 hex aw, rfl, hq⟩

/-! ### sum -/
def intOf : V → Int
  | .int i => i
  | _ => 0
def sumV (ys : List V) : Int := (ys.map intOf).sum
def sRel (S : Addr) : Rel := fun ys s => ∃ c t, s.heap.get? S = some (lstObj #[.int (sumV ys) t] c)
theorem sStable {S : Addr} : Stable [S] (sRel S) := ⟨fun ys s s' h ⟨c, t, e⟩ => ⟨c, t, by rw [h S (List.mem_singleton.mpr rfl)]; exact e⟩⟩
def kSum (Q : VK) : GK := ⟨fun ys y _ => ∃ i, y = .int i ∧ InLong i ∧ InLong (sumV ys + i), fun _ => True, fun ys H => Q (.int (sumV ys)) H⟩
theorem sumV_snoc (ys : List V) (i : Int) : sumV (ys ++ [.int i]) = sumV ys + i := by
  unfold sumV
  rw [List.map_append, List.sum_append]
  show _ + (i + 0) = _
  rw [Int.add_zero]
theorem sum_loop {A : Around} {R : Result → Shared → Prop} {Q : VK} {S : Addr} (hh : A.handled = none) (hd : A.depth < recursionLimit) (hSa : a ≠ S) (hSc : cStatics ≠ S)
    (hR : ∀ i t H' s', Aw X sc fp H1 a g [S] H' s' → Q (.int i) H' → R (.ok (.ret (.int i t))) s') :
    ∀ (n : Nat) (s : Shared) (ys0 : List V), sRel S ys0 s → Live X sc fp H1 a g [S] (sRel S) N (kSum Q) A.in1.in1 n s → codeAny (model X.prog X.w) A (.builtin "sum.loop" ⟨[.ref a, .ref S, rawInt 0, rawInt 0], []⟩) R s := by
  intro n
  induction n with
  | zero =>
    intro s ys0 ⟨c, t, hS⟩ L
    refine codeAny_builtin F.entry_sum_loop ?_
    rw [Around.under_plainId F.plain_sum_loop _]
    show wpAny _ A.in1 (seqItems? (.ref S) >>= _) _ _ s
    refine wpAny_bind (wpAny_seqItems hS rfl ?_)
    show wpAny _ A.in1 (tryCatch (pyNext (.ref a)) _ >>= _) _ _ s
    refine wpAny_bind (wpAny_tryCatch (next (A := A.in1) hh hd sStable (by simpa using hSa) (by simpa using hSc) L (fun ys x v H' s1 h00 hn rv aw hrl md hgo => ?_) fun ys H' s1 h00 hn aw hrl dn => ?_))
    · obtain ⟨i, rfl, f1, f2⟩ := md
      obtain ⟨c1, t1, e1⟩ := hrl
      have := (hgo trivial { s1 with heap := s1.heap.update S (fun o => { o with data := .seq #[.int (sumV (ys ++ [.int i])) t1] c1 }) } rfl rfl (fun b o hb e => (Heap.get?_update_other _ _ (fun h : S = b => hb (by rw [h]; exact List.mem_singleton.mpr rfl))).trans e) (fun b hb => ?_) ?_).1
      · omega
      · rw [List.mem_singleton.mp hb]
        exact ⟨_, Heap.get?_update_self _ e1 rfl, fun v q => by cases q⟩
      · exact ⟨c1, t1, Heap.get?_update_self _ e1 rfl⟩
    · obtain ⟨c1, t1, e1⟩ := hrl
      have e2 := (h00 S (List.mem_singleton.mpr rfl)).symm.trans e1
      rw [hS] at e2
      have e3 : sumV ys0 = sumV ys := by
        have q := Option.some.inj e2
        simp only [lstObj, Obj.mk.injEq, Data.seq.injEq, Array.mk.injEq, List.cons.injEq, Value.int.injEq] at q
        exact q.2.2.1.1.1.1
      have dn : Q (.int (sumV ys)) H' := dn
      rw [← e3] at dn
      exact wpAny_pure (hR _ t H' s1 aw dn)
  | succ n ih => 
    intro s ys0 ⟨c, t, hS⟩ L
    refine codeAny_builtin F.entry_sum_loop ?_
    rw [Around.under_plainId F.plain_sum_loop _]
    show wpAny _ A.in1 (seqItems? (.ref S) >>= _) _ _ s
    refine wpAny_bind (wpAny_seqItems hS rfl ?_)
    show wpAny _ A.in1 (tryCatch (pyNext (.ref a)) _ >>= _) _ _ s
    refine wpAny_bind (wpAny_tryCatch (next (A := A.in1) hh hd sStable (by simpa using hSa) (by simpa using hSc) L (fun ys x v H' s1 h00 hn rv aw hrl md hgo => ?_) fun ys H' s1 h00 hn aw hrl dn => ?_))
    · obtain ⟨i, rfl, f1, f2⟩ := md
      obtain ⟨tv, rfl⟩ : ∃ u, v = Value.int i u := rv
      obtain ⟨c1, t1, e1⟩ := id hrl
      have e2 := (h00 S (List.mem_singleton.mpr rfl)).symm.trans e1
      rw [hS] at e2
      have e3 : sumV ys0 = sumV ys := by
        have q := Option.some.inj e2
        simp only [lstObj, Obj.mk.injEq, Data.seq.injEq, Array.mk.injEq, List.cons.injEq, Value.int.injEq] at q
        exact q.2.2.1.1.1.1
      have hc : ((decide (-(2 ^ 63) ≤ i) && decide (i < 2 ^ 63)) && (decide (-(2 ^ 63) ≤ sumV ys0 + i) && decide (sumV ys0 + i < 2 ^ 63))) = true := by
        rw [e3]
        simp only [Bool.and_eq_true, decide_eq_true_eq]
        exact ⟨⟨f1.1, f1.2⟩, f2.1, f2.2⟩
      show wpAny _ A.in1 (if (_ : Bool) = true then (mkInt (sumV ys0 + i) >>= _) else _) _ _ _
      split
      · refine wpAny_bind (wpAny_mkInt ?_)
        show wpAny _ A.in1 (updateSeq S (fun _ => #[.int (sumV ys0 + i) s1.toks]) >>= _) _ _ _
        refine wpAny_bind ?_
        have hnew : sRel S (ys ++ [.int i]) { s1 with toks := s1.toks + 1, heap := s1.heap.update S (Obj.mapSeq (fun _ => #[.int (sumV ys0 + i) s1.toks])) } := by
          rw [e3]
          obtain ⟨c9, h9⟩ : ∃ c9, Obj.mapSeq (fun _ => #[Value.int (sumV ys + i) s1.toks]) (lstObj #[.int (sumV ys) t1] c1) = lstObj #[Value.int (sumV ys + i) s1.toks] c9 := ⟨_, rfl⟩
          refine ⟨c9, s1.toks, ?_⟩
          rw [sumV_snoc, ← h9]
          exact Heap.get?_update_self _ e1 rfl
        refine wpAny_updateSeq e1 rfl (wpAny_pure ⟨plainId_quiet F.plain_sum_loop _, ih _ (ys ++ [.int i]) hnew (hgo trivial { s1 with toks := s1.toks + 1, heap := s1.heap.update S (Obj.mapSeq (fun _ => #[.int (sumV ys0 + i) s1.toks])) } rfl rfl (fun b o hb e => ?_) (fun b hb => ?_) hnew).2⟩)
        · exact (Heap.get?_update_other _ _ (fun h : S = b => hb (by rw [h]; exact List.mem_singleton.mpr rfl))).trans e
        · rw [List.mem_singleton.mp hb]
          exact ⟨_, Heap.get?_update_self _ e1 rfl, fun v q => by cases q⟩
      · rename_i hneg
        exact absurd hc hneg
    · obtain ⟨c1, t1, e1⟩ := hrl
      have e2 := (h00 S (List.mem_singleton.mpr rfl)).symm.trans e1
      rw [hS] at e2
      have e3 : sumV ys0 = sumV ys := by
        have q := Option.some.inj e2
        simp only [lstObj, Obj.mk.injEq, Data.seq.injEq, Array.mk.injEq, List.cons.injEq, Value.int.injEq] at q
        exact q.2.2.1.1.1.1
      have dn : Q (.int (sumV ys)) H' := dn
      rw [← e3] at dn
      exact wpAny_pure (hR _ t H' s1 aw dn)
def tSum (tg : TGS) : TE := fun σ H Q => tg σ H (kSum Q)
variable {e : Expr} {tg : TGS} {p pos : Pos}
theorem pe_sum (h : PSrc X k e tg) (hr : Room (k + 2) X.A) (hg : Gl X "sum") (hm : X.mg "sum" = none) (he : starEach [e] X.env = (false, eval e X.env) :: starEach [] X.env := by rfl) :
    PE X (.Call (.Name "sum" p) [e] [] pos) (tSum tg) := by
  refine ⟨fun pins s σ H Q I hq => ?_⟩
  refine wpAny_Call_Name_kw (ld_blt I hg hm boot_sum ?_)
  refine PyProof.Rows.callWith_builtin1 ?_ he (by rfl)
  rw [he]
  show wpAny _ _ (spliced ((false, eval e X.env) :: backTo pos (starEach [] X.env))) _ _ s
  refine Calls.spliced_cons (thn (h.run pins s σ H _ I hq) fun u s1 ⟨H1, sc, fp, I1, hex, M⟩ => ?_)
  refine Calls.spliced_nil ?_
  refine call_function_tree F.kind_sum F.plain_sum F.entry_sum (F.args_sum1 _) ?_
  have hM := fun s2 => M.live (A := X.A.in1) (s2 := s2) hr.in1.in1 I1.ok.frames
  obtain ⟨a, g, c, N0, rfl, q1, q2, q3, _⟩ := id M
  unfold Builtin.«sum»
  simp only [List.length_cons, List.length_nil]
  rw [if_neg (by decide)]
  refine wpAny_bind (wpAny_of_eq (show Builtin.Builtins.bindParams "sum" ["start"] 0 { } = pure [none] from rfl) ?_)
  refine wpAny_bind (wpAny_pyIter_gen q3 ?_)
  refine wpAny_bind (wpAny_mkInt ?_)
  refine wpAny_bind (wpAny_pure ?_)
  simp only [List.forIn_cons, List.forIn_nil]
  refine wpAny_bind (wpAny_bind (wpAny_bind (wpAny_isInstance (T := "int") (b := false) (typeIs_int _ _ _) PySem.sub_int_str ?_)))
  simp only [Bool.false_eq_true, if_false]
  refine wpAny_pure (wpAny_bind (wpAny_bind (wpAny_isInstance (T := "int") (b := false) (typeIs_int _ _ _) PySem.sub_int_bytes ?_)))
  simp only [Bool.false_eq_true, if_false]
  refine wpAny_pure (wpAny_bind (wpAny_bind (wpAny_isInstance (T := "int") (b := false) (typeIs_int _ _ _) PySem.sub_int_bytearray ?_)))
  simp only [Bool.false_eq_true, if_false]
  refine wpAny_pure (wpAny_pure ?_)
  refine wpAny_bind (wpAny_newObj_type ?_)
  obtain ⟨a', g', N, e', h1, h2, h3, h4, h5, h6, h7, h8⟩ := hM { s1 with heap := s1.heap.push { cls := .type "list", data := .seq ([Value.int 0 s1.toks] : List Value).toArray }, toks := s1.toks + 1 }
  cases e'
  have kp : ∀ b o, s1.heap.get? b = some o → (s1.heap.push { cls := .type "list", data := .seq ([Value.int 0 s1.toks] : List Value).toArray }).get? b = some o := fun b o e => Heap.get?_push_of_some _ e
  have hS : (s1.heap.push { cls := .type "list", data := .seq ([Value.int 0 s1.toks] : List Value).toArray }).get? s1.heap.objs.size = some (lstObj #[.int 0 s1.toks] 0) := Heap.get?_push_size _ rfl
  have hcl : cStatics < s1.heap.objs.size := let ⟨_, hn, _⟩ := h4; hn.lt
  have hr0 : sRel s1.heap.objs.size [] { s1 with heap := s1.heap.push { cls := .type "list", data := .seq ([Value.int 0 s1.toks] : List Value).toArray }, toks := s1.toks + 1 } := ⟨0, s1.toks, hS⟩
  refine wpAny_pure ⟨plainId_quiet F.plain_sum_loop _, sum_loop (A := X.A) (S := s1.heap.objs.size) (N := N) (g := g') hr.hd (by have := hr.dp; show X.A.depth < _; omega) (Nat.ne_of_lt h2) (Nat.ne_of_lt hcl) (fun i t H' s' aw hq => ?_) N _ [] hr0
    (h8 [s1.heap.objs.size] (sRel s1.heap.objs.size) (fun b hb => by rw [List.mem_singleton.mp hb]; exact Nat.le_refl _) sStable kp (fun b hb => by rw [List.mem_singleton.mp hb]; exact ⟨_, hS, fun v q => by cases q⟩) rfl rfl hr0)⟩
  exact ⟨.int i, H', back I1 hex aw, ⟨t, rfl⟩, hq⟩
end
end Gx
set_option Elab.async false
set_option linter.all false
set_option maxRecDepth 100000
set_option maxHeartbeats 4000000
namespace Gx
open PySem PySem.Spec PyProof.Rows L2 GenW

section
variable {X : Cx} {sc : Shared} {fp : List Addr} {H1 : Hp} {a : Addr} {g : Nat} {N : Nat} {k : Nat}
/-! ### a list that the consumer fills -/
def lRel (S : Addr) : Rel := fun ys s => ∃ acc c, s.heap.get? S = some (lstObj acc c) ∧ Vals ys acc.toList
theorem lStable {S : Addr} : Stable [S] (lRel S) := ⟨fun ys s s' h ⟨acc, c, e, r⟩ => ⟨acc, c, by rw [h S (List.mem_singleton.mpr rfl)]; exact e, r⟩⟩
def kLst (D : List V → Hp → Prop) : GK := ⟨fun ys _ _ => ys.length < sizeLine, fun _ => True, D⟩
theorem lRel_push {S : Addr} {ys : List V} {x : V} {v : Value} {s : Shared} {acc : Array Value} {c : Nat} (e : s.heap.get? S = some (lstObj acc c)) (r : Vals ys acc.toList) (rv : RelV x v) : lRel S (ys ++ [x]) { s with heap := s.heap.update S (Obj.mapSeq (·.push v)) } := by
  obtain ⟨c9, h9⟩ : ∃ c9, Obj.mapSeq (·.push v) (lstObj acc c) = lstObj (acc.push v) c9 := ⟨_, rfl⟩
  refine ⟨acc.push v, c9, ?_, ?_⟩
  · rw [← h9]
    exact Heap.get?_update_self _ e rfl
  · rw [Array.toList_push]
    exact r.append (.cons rv .nil)
theorem ext_loop {A : Around} {R : Result → Shared → Prop} {D : List V → Hp → Prop} {S : Addr} {res : Value} (hh : A.handled = none) (hd : A.depth < recursionLimit) (hSa : a ≠ S) (hSc : cStatics ≠ S)
    (hR : ∀ ys H' s', Aw X sc fp H1 a g [S] H' s' → lRel S ys s' → D ys H' → R (.ok (.ret res)) s') :
    ∀ (n : Nat) (s : Shared), Live X sc fp H1 a g [S] (lRel S) N (kLst D) A.in1.in1 n s → codeAny (model X.prog X.w) A (.builtin "list.extend.loop" ⟨[.ref S, .ref a, res], []⟩) R s := by
  intro n
  have sl : ∀ {ys : List V} {acc : Array Value}, Vals ys acc.toList → acc.size = ys.length := fun {ys acc} r => by
    have e1 := r.length
    have e2 : acc.toList.length = acc.size := by simp
    omega
  induction n with
  | zero =>
    intro s L
    refine codeAny_builtin F.entry_extend_loop ?_
    rw [Around.under_plainId F.plain_extend_loop _]
    show wpAny _ A.in1 (pyNext (.ref a) >>= _) _ _ s
    refine wpAny_bind (next (A := A.in1) hh hd lStable (by simpa using hSa) (by simpa using hSc) L (fun ys x v H' s1 h00 hn rv aw hrl md hgo => ?_) fun ys H' s1 h00 hn aw hrl dn => ?_)
    · obtain ⟨acc, c1, e1, r1⟩ := hrl
      have := (hgo trivial { s1 with heap := s1.heap.update S (Obj.mapSeq (·.push v)) } rfl rfl (fun b o hb e => (Heap.get?_update_other _ _ (fun h : S = b => hb (by rw [h]; exact List.mem_singleton.mpr rfl))).trans e) (fun b hb => ?_) (lRel_push e1 r1 rv)).1
      · omega
      · rw [List.mem_singleton.mp hb]
        exact ⟨_, Heap.get?_update_self _ e1 rfl, fun v q => by cases q⟩
    · exact wpAny_pure (hR ys H' s1 aw hrl dn)
  | succ n ih =>
    intro s L
    refine codeAny_builtin F.entry_extend_loop ?_
    rw [Around.under_plainId F.plain_extend_loop _]
    show wpAny _ A.in1 (pyNext (.ref a) >>= _) _ _ s
    refine wpAny_bind (next (A := A.in1) hh hd lStable (by simpa using hSa) (by simpa using hSc) L (fun ys x v H' s1 h00 hn rv aw hrl md hgo => ?_) fun ys H' s1 h00 hn aw hrl dn => ?_)
    · obtain ⟨acc, c1, e1, r1⟩ := hrl
      have hz : ys.length < sizeLine := md
      have hz1 := sl r1
      show wpAny _ A.in1 (updateSeq S (·.push v) >>= _) _ _ _
      refine wpAny_bind ?_
      refine wpAny_updateSeq e1 rfl (wpAny_pure ⟨plainId_quiet F.plain_extend_loop _, ih _ (hgo trivial { s1 with heap := s1.heap.update S (Obj.mapSeq (·.push v)) } rfl rfl (fun b o hb e => ?_) (fun b hb => ?_) (lRel_push e1 r1 rv)).2⟩) (by omega) (by show (acc.push v).size ≤ sizeLine + 1; rw [Array.size_push]; omega)
      · exact (Heap.get?_update_other _ _ (fun h : S = b => hb (by rw [h]; exact List.mem_singleton.mpr rfl))).trans e
      · rw [List.mem_singleton.mp hb]
        exact ⟨_, Heap.get?_update_self _ e1 rfl, fun v q => by cases q⟩
    · exact wpAny_pure (hR ys H' s1 aw hrl dn)

theorem collect_gx {A : Around} {D : List V → Hp → Prop} {s : Shared} {u : Value} {Q : List Value → Shared → Prop} {E : Value → Shared → Prop} (M : Made X k H1 sc fp (kLst D) u s) (hr : Room k A.in1.in1) (hfr : A.frames = some X.stack)
    (hQ : ∀ ys acc S a g H' s', Aw X sc fp H1 a g [S] H' s' → Vals ys acc → D ys H' → Q acc s') : wpAny (model X.prog X.w) A (collect u) Q E s := by
  have hM := fun s2 => M.live (A := A.in1) (s2 := s2) hr hfr
  obtain ⟨a, g, c, N0, rfl, q1, q2, q3, q4, q5, q6, q7, _⟩ := id M
  have hcl : cStatics < s.heap.objs.size := let ⟨_, hn, _⟩ := q7; hn.lt
  have hSI : s.heap.objs.size ≠ a := Nat.ne_of_gt q2
  unfold collect
  refine wpAny_bind (wpAny_runValue (codeAny_builtin F.entry_proto_collect ?_))
  rw [Around.under_plainId F.plain_proto_collect _]
  show wpAny _ A.in1 (newList [] >>= fun l => again (.builtin "list.__iadd__" ⟨[l, .ref a], []⟩)) _ _ s
  refine wpAny_bind (wpAny_newObj_type ?_)
  refine wpAny_pure ⟨plainId_quiet F.plain_list_iadd _, codeAny_builtin F.entry_list_iadd ?_⟩
  rw [Around.under_plainId F.plain_list_iadd _]
  have kp : ∀ b o, s.heap.get? b = some o → (s.heap.push { cls := .type "list", data := .seq ([] : List Value).toArray }).get? b = some o := fun b o e => Heap.get?_push_of_some _ e
  show wpAny _ A.in1 (Builtin.List.listExtendWith (.ref s.heap.objs.size) (.ref a) (.ref s.heap.objs.size)) _ _ _
  unfold Builtin.List.listExtendWith
  refine wpAny_bind (wpAny_typeOf (Heap.IsGen.typeIs (s := { s with heap := _ }) (q3.keeps kp)) ?_)
  have h1 : Builtin.List.listSameRef (.ref s.heap.objs.size) (.ref a) = false := by simp [Builtin.List.listSameRef, hSI]
  have h2 : (Value.type "generator" == Value.type "list") = false := by decide
  have h3 : (Value.type "generator" == Value.type "tuple") = false := by decide
  simp only [h1, h2, h3, Bool.or_false, Bool.false_eq_true, if_false]
  refine wpAny_bind (wpAny_pyIter_gen (s := { s with heap := _ }) (q3.keeps kp) ?_)
  refine wpAny_bind (wpAny_holding ?_)
  unfold Builtin.List.listLengthHint
  refine wpAny_bind (wpAny_specialOf (Heap.IsGen.typeIs (s := { s with heap := _ }) (q3.keeps kp)) F.gen_no_len ?_)
  show wpAny _ A.in1 (specialOf (Value.ref a) (Str.ofString "__length_hint__") >>= _) _ _ _
  refine wpAny_bind (wpAny_specialOf (Heap.IsGen.typeIs (s := { s with heap := _ }) (q3.keeps kp)) F.gen_no_hint ?_)
  refine wpAny_pure ?_
  show wpAny _ A.in1 (rule "list.extend.makes-room" >>= fun _ => Builtin.List.listTouch (.ref s.heap.objs.size) >>= fun _ =>
    again (.builtin "list.extend.loop" ⟨[.ref s.heap.objs.size, .ref a, .ref s.heap.objs.size], []⟩)) _ _ _
  refine wpAny_bind (wpAny_rule ?_)
  have hS₁ : (s.heap.push { cls := .type "list", data := .seq ([] : List Value).toArray }).get? s.heap.objs.size = some { cls := .type "list", data := .seq ([] : List Value).toArray } := Heap.get?_push_size _ rfl
  refine wpAny_bind ?_
  show wpAny _ A.in1 (updateSeq s.heap.objs.size (·.push .none) >>= fun _ => updateSeq s.heap.objs.size (·.pop)) _ _ _
  refine wpAny_bind (wpAny_updateSeq hS₁ rfl ?_)
  have hS₂ := Heap.get?_update_self (Obj.mapSeq (·.push Value.none)) hS₁ rfl
  refine wpAny_updateSeq hS₂ rfl ?_
  have hS₃ := Heap.get?_update_self (Obj.mapSeq (·.pop)) hS₂ rfl
  have oth : ∀ b o, b ≠ s.heap.objs.size → (s.heap.push { cls := .type "list", data := .seq ([] : List Value).toArray }).get? b = some o →
      (((s.heap.push { cls := .type "list", data := .seq ([] : List Value).toArray }).update s.heap.objs.size (Obj.mapSeq (·.push Value.none))).update s.heap.objs.size (Obj.mapSeq (·.pop))).get? b = some o :=
    fun b o hb e => (Heap.get?_update_other _ _ (Ne.symm hb)).trans ((Heap.get?_update_other _ _ (Ne.symm hb)).trans e)
  obtain ⟨a', g', N, e', h1, h2, h3, h4, h5, h6, h7, h8⟩ := hM { s with heap := ((s.heap.push { cls := .type "list", data := .seq ([] : List Value).toArray }).update s.heap.objs.size (Obj.mapSeq (·.push Value.none))).update s.heap.objs.size (Obj.mapSeq (·.pop)) }
  cases e'
  refine wpAny_pure ⟨plainId_quiet F.plain_extend_loop _, ext_loop (A := A) (S := s.heap.objs.size) (N := N) (g := g') (D := D) hr.hd (by have := hr.dp; show A.depth < _; have e9 : A.in1.in1.depth = A.depth := rfl; omega) (Ne.symm hSI) (Nat.ne_of_lt hcl) (fun ys H' s' aw hrl dn => ?_) N _
    (h8 [s.heap.objs.size] (lRel s.heap.objs.size) (fun b hb => by rw [List.mem_singleton.mp hb]; exact Nat.le_refl _) lStable (fun b o e => oth b o (Nat.ne_of_lt (Heap.lt_size e)) (kp b o e)) (fun b hb => by rw [List.mem_singleton.mp hb]; exact ⟨_, hS₃, fun v q => by cases q⟩) rfl rfl ⟨_, _, hS₃, .nil⟩)⟩
  obtain ⟨acc, c1, e1, r1⟩ := hrl
  show wpAny _ A (load s.heap.objs.size >>= _) _ _ s'
  refine wpAny_bind (wpAny_load e1 ?_)
  exact wpAny_pure (hQ ys acc.toList s.heap.objs.size a g' H' s' aw r1 dn)

/-! ### tuple(g) -/
def kTup (Q : VK) : GK := kLst fun ys H => ys.length ≤ sizeLine ∧ ∀ p, H p = none → Q (.ref p) (upd H p (.tup ys))
def tTupG (tg : TGS) : TE := fun σ H Q => tg σ H (kTup Q)
variable {e : Expr} {tg : TGS} {p pos : Pos}
theorem pe_tupG (h : PSrc X k e tg) (hr : Room (k + 4) X.A) (hg : Gl X "tuple") (hm : X.mg "tuple" = none) (hv : bootBuiltins "tuple" = some (.type "tuple")) (he : starEach [e] X.env = (false, eval e X.env) :: starEach [] X.env := by rfl) :
    PE X (.Call (.Name "tuple" p) [e] [] pos) (tTupG tg) := by
  refine ⟨fun pins s σ H Q I hq => ?_⟩
  refine wpAny_Call_Name_kw (ld_blt I hg hm hv ?_)
  refine PyProof.Rows.callWith_type1 ?_ he rfl
  rw [he]
  show wpAny _ _ (spliced ((false, eval e X.env) :: backTo pos (starEach [] X.env))) _ _ s
  refine Calls.spliced_cons (thn (h.run pins s σ H _ I hq) fun u s1 ⟨H1, sc, fp, I1, hex, M⟩ => ?_)
  refine Calls.spliced_nil ?_
  have hT : s1.TypeIs u "generator" := by
    obtain ⟨a, g, c, N, rfl, _, _, h3, _⟩ := id M
    exact h3.typeIs
  have main : codeAny (model X.prog X.w) X.A.in1 (.call (.builtin "tuple.__new__") ⟨[.type "tuple", u], []⟩) (wants (fun obj s2 => s2.TypeIs obj "tuple" ∧ EP X pins σ Q obj s2) X.xe) s1 := by
    refine codeAny_of_tree ?_
    show wpAny _ X.A.in1.in1 (do checkBuiltinCall "tuple.__new__" ⟨[.type "tuple", u], []⟩; again (.builtin "tuple.__new__" ⟨[.type "tuple", u], []⟩)) _ _ s1
    refine wpAny_bind (wpAny_of_eq (F.newCall_tuple_1 _) (wpAny_pure ⟨plainId_quiet F.plain_tuple_new _, codeAny_builtin F.entry_tuple_new ?_⟩))
    rw [Around.under_plainId F.plain_tuple_new _]
    have hsub := sub_tuple_self
    have hinit := init_tuple_lookup
    have hmh := madeHere_tuple
    have cg := fun (Q : List Value → Shared → Prop) (E : Value → Shared → Prop) hQ => collect_gx (A := X.A.in1.in1) (Q := Q) (E := E) M hr.in1.in1.in1.in1 I1.ok.frames hQ
    obtain ⟨a, g, c, N, rfl, _⟩ := id M
    wp_walk using wpAny_typeOf hT, cg
    intro ys acc S a' g' H' s' aw r dn
    obtain ⟨hz, dn⟩ := dn
    show wpAny _ _ (Builtin.Tuple.tupleExact acc.toArray >>= fun v => ret v) _ _ _
    unfold Builtin.Tuple.tupleExact
    refine wpAny_bind (wpAny_newObj_type ?_ (by show acc.toArray.size ≤ sizeLine; rw [List.size_toArray, ← r.length]; exact hz))
    refine wpAny_pure ⟨⟨_, Heap.get?_push_size _ rfl, rfl⟩, ?_⟩
    have I2 := back I1 hex aw
    have hf : H' s'.heap.objs.size = none := I2.hok.fresh (Nat.le_refl _)
    refine ⟨.ref s'.heap.objs.size, upd H' s'.heap.objs.size (.tup ys), I2.laid (t' := s'.toks) (fun b u e => Heap.get?_push_of_some _ e) (Nat.le_refl _) ?_, rfl, dn _ hf⟩
    exact ⟨hz, acc, r, ⟨_, Heap.get?_push_size _ rfl, rfl, _, rfl⟩⟩
  refine callType_codes (Q₁ := fun obj s₁ => s₁.TypeIs obj "tuple" ∧ EP X pins σ Q obj s₁) F.called_tuple (F.typeCall_tuple_1 _) F.entry_object_init main fun obj s₁ h₁ => ?_
  exact ⟨h₁.1, F.args_object_init_2 obj _, object_init_meets F.called_tuple.init.lookup F.called_tuple.made (by decide) X.prog X.w X.A.in1 _ s₁ ⟨h₁.1, rfl, h₁.2⟩⟩
end
end Gx
set_option Elab.async false
set_option linter.all false
set_option maxRecDepth 100000
set_option maxHeartbeats 4000000
namespace Gx
open PySem PySem.Spec PyProof.Rows L2 GenW

/-! ### defs whose code object is known by its address (for their generator expressions) -/
structure FunT (K : PySem.W.Frag) (x qual : Str) (st : Stmt) (f : Addr) (fd : FuncData) (c : Addr) : Prop where
  ex : ∃ (oc : Value) (od : Option Addr) (kV doc pm : Value) (an : Option Addr) (ct : Value) (osl : Array (Option Value)),
    fd = PySem.W.fnOf x qual (defArgs st) (defBody st) (defScope st) .none kV doc pm an (.ref c) ct ∧ K.lookup f = some ⟨oc, od, .func fd, osl⟩ ∧ PySem.W.codeIn K (.ref c) qual = true
  kp : PySem.W.keepIn K (.ref f) = true
section
variable {P : Program} {w : World} {K : PySem.W.Frag} {mg : Str → Option Value} {base : Heap}
theorem FunT.toFun {x qual : Str} {st : Stmt} {f c : Addr} {fd : FuncData} (F : FunT K x qual st f fd c) : Fun K x qual st f fd := by
  obtain ⟨oc, od, kV, doc, pm, an, ct, osl, e, l, h⟩ := F.ex
  exact ⟨⟨oc, od, kV, doc, pm, an, .ref c, ct, osl, e, l, h⟩, F.kp⟩
theorem funT_mk {x qual : Str} {st : Stmt} {f c : Addr} {oc : Value} {od an : Option Addr} {osl : Array (Option Value)} {kV doc pm ct : Value} (l : K.lookup f = some ⟨oc, od, .func (PySem.W.fnOf x qual (defArgs st) (defBody st) (defScope st) .none kV doc pm an (.ref c) ct), osl⟩)
    (h : PySem.W.codeIn K (.ref c) qual = true) (k : PySem.W.keepIn K (.ref f) = true) : FunT K x qual st f (PySem.W.fnOf x qual (defArgs st) (defBody st) (defScope st) .none kV doc pm an (.ref c) ct) c := ⟨⟨oc, od, kV, doc, pm, an, ct, osl, rfl, l, h⟩, k⟩
theorem FunT.ok {x qual : Str} {st : Stmt} {f c : Addr} {fd : FuncData} {N ps : List Str} {k : Nat} {sp : Sp} (F : FunT K x qual st f fd c) (S : FnScope N ps (defScope st)) (len : ∀ vs H Q E, sp vs H Q E → vs.length = ps.length)
    (hbody : ∀ (A : Around) (outer : List Env) (s : Shared) (H : Hp) (vs : List V) (Q : VK) (E : XK), Room k (A.deeper (envOfC qual (defScope st) s.heap.objs.size f (.ref c))) → sp vs H Q E →
      ∃ t, PSs (cxOf CX0 P w K mg base N qual (defScope st) f (.ref c) A outer s H E).nox (defBody st) t ∧ t { nx := fun _ H' => Q .non H', rt := Q } (start N vs) H) : FnOk P w K mg base CX0 (k + 1) f fd ps sp := by
  obtain ⟨oc, od, kV, doc, pm, an, ct, osl, rfl, lk, hcd⟩ := F.ex
  refine fn_of lk hcd S len fun A outer s H vs Q E hr hsp => ?_
  obtain ⟨t, h, q⟩ := hbody A outer s H vs Q E hr hsp
  exact ⟨t, h.nox, q⟩

/-! ### defs that are called where no repr runs -/
structure FnG (P : Program) (w : World) (K : PySem.W.Frag) (mg : Str → Option Value) (base : Heap) (k : Nat) (f : Addr) (fd : FuncData) (ps : List Str) (sp : Sp) : Prop where
  len : ∀ vs H Q E, sp vs H Q E → vs.length = ps.length
  run : ∀ (A : Around) (outer : List Env) (s : Shared) (H : Hp) (args : Args) (us : List Value) (vs : List V) (Q : VK) (E : XK), A.guards = some [] → Room k A → Env0 P w K mg base A outer s H → BindsTo s fd args (ps.zip us) → Vals vs us → sp vs H Q E →
    codeAny (model P w) A (.call (.ref f) args) (CR CX0 outer P w H s Q E) s
theorem okG {x qual : Str} {st : Stmt} {f : Addr} {fd : FuncData} {N ps : List Str} {k : Nat} {sp : Sp} (F : Fun K x qual st f fd) (S : FnScope N ps (defScope st)) (len : ∀ vs H Q E, sp vs H Q E → vs.length = ps.length)
    (hbody : ∀ (cdv : Value) (A : Around) (outer : List Env) (s : Shared) (H : Hp) (vs : List V) (Q : VK) (E : XK), A.guards = some [] → Room k (A.deeper (envOfC qual (defScope st) s.heap.objs.size f cdv)) → sp vs H Q E →
      ∃ t, PSs (cxOf CX0 P w K mg base N qual (defScope st) f cdv A outer s H E).nox (defBody st) t ∧ t { nx := fun _ H' => Q .non H', rt := Q } (start N vs) H) : FnG P w K mg base (k + 1) f fd ps sp := by
  obtain ⟨oc, od, kV, doc, pm, an, cdv, ct, osl, rfl, lk, hcd⟩ := F.ex
  refine ⟨len, fun A outer s H args us vs Q E hgd hr e0 hb r hsp => ?_⟩
  have hl := len _ _ _ _ hsp
  have old : ∀ b o, base.get? b = some o → s.heap.get? b = some o := fun b o e => (e0.bs b o e).1
  have KX : K.In s.heap := e0.mod.kin.keeps old
  have own : ∀ y ∈ ps.zip us, (defScope st).names.lookup y.1 = some .local ∨ ((defScope st).names.lookup y.1 = some .cell ∧ ((cellsFrom (s.heap.objs.size + 1) (defScope st).names []).lookup y.1).isSome = true) := by
    rintro ⟨n, v⟩ hy
    rcases S.par n (List.of_mem_zip hy).1 with q | q
    · exact .inl q
    · exact .inr ⟨q, PySem.W.cellsFrom_some _ _ _ (.inl q)⟩
  refine codeAny_call_function hr.depth (KX _ _ lk) rfl S.co S.gen rfl (PySem.W.codeRec_of KX hcd) (hb _ _ _ _ ?_)
  refine wpAny_newFunctionEnv_cells S.kind own ?_
  rintro env rfl s1 x
  refine ⟨(e0.mod.nolimit.keeps old).keeps x.toInCall.keep, codeAny_func ?_⟩
  obtain ⟨t, ht, hq⟩ := hbody cdv A outer s H vs Q E hgd (hr.deeper _) hsp
  have I := inv_start (CX := CX0) (E := E) S hr.hd e0 hl r x
  refine wpAny_mono (ht.nox.run [] s1 (start N vs) H _ I hq) (fun fl s' hs => ?_) fun e s' hs => hs
  cases fl with
  | ret u =>
    obtain ⟨v, σ', H', J, rv, q⟩ := hs
    exact ⟨v, H', J.os, J.bare, J.base, J.hok, rv, q⟩
  | next =>
    obtain ⟨σ', H', J, q⟩ := hs
    exact ⟨.non, H', J.os, J.bare, J.base, J.hok, rfl, q⟩
  | brk => exact let ⟨_, _, _, q⟩ := hs; q.elim
  | cont => exact let ⟨_, _, _, q⟩ := hs; q.elim

section
variable {X : Cx} {k : Nat} {f : Addr} {fd : FuncData} {ps : List Str} {sp : Sp} {x : Str} {p pos : Pos} {e : Expr} {es : List Expr} {t : TA}
theorem pe_callG (F : FnG X.prog X.w X.K X.mg X.base k f fd ps sp) (hgd : X.A.guards = some []) (hr : Room k X.A) (hg : Gl X x) (hm : X.mg x = some (.ref f)) (hk : PySem.W.keepIn X.K (.ref f) = true) (hb : Binds X.K fd ps [])
    (ha : PA X (e :: es) t) (hdb : (x == ("__debug__" : Str)) = false := by decide) (he : starEach (e :: es) X.env = (false, eval e X.env) :: starEach es X.env := by rfl) (hpl : (backTo pos (starEach es X.env)).any (·.1) = false := by rfl) :
    PE X (.Call (.Name x p) (e :: es) [] pos) (fun σ H Q => t σ H fun vs H1 => sp vs H1 Q E0) := by
  refine ⟨fun pins s σ H Q I h => ?_⟩
  refine wpAny_Call_Name_kw (ld_glob I hg hm ?_ hdb)
  refine PySem.W.callWith_K (h₀ := X.base) I.ok.mod.kin hk (thn (ha.run pos pins s σ H _ I h) fun us s1 ⟨vs, H1, I1, r, q⟩ => ⟨I1.kIn, ?_⟩) he hpl
  have hl : (us ++ []).length = ps.length := by
    rw [List.append_nil, ← r.length]
    exact F.len _ _ _ _ q
  have hb1 := hb s1 us I1.kIn hl
  rw [List.append_nil] at hb1
  refine wpAny_call (codeAny_mono (F.run X.A X.stack s1 H1 ⟨us, []⟩ us vs Q E0 hgd hr I1.env0 hb1 r q) fun r s' hq => ?_)
  cases r with
  | error e => exact False.elim hq
  | ok fl =>
    cases fl with
    | ret u => exact I1.after hq
    | next => exact False.elim hq
    | brk => exact False.elim hq
    | cont => exact False.elim hq

/-! ### repr of data -/
/-- data that repr writes -/
structure Shows (d : PyData) : Prop where
  show_ : d.showable = true
  nod : d.hasDict = false
  dep : d.depth ≤ 60
  size : d.shown.length ≤ sizeLine
  int : ∀ i, d = .int i → i.natAbs.log2 < 1920
  str : ∀ x, d ≠ .str x
def rRepr (K : PySem.W.Frag) : List V → Hp → VK → Prop := fun xs H Q => ∃ x d, xs = [x] ∧ Dp K H x d ∧ Shows d ∧ Q (.str d.shown) H
theorem call_repr (hgd : X.A.guards = some []) (hu : X.A.units + 65 < cLine) : CallR X (.builtin "repr") (rRepr X.K) := by
  intro pins s σ H xs us Q I r h
  obtain ⟨x, d, rfl, hd, S, q⟩ := h
  cases r with
  | cons r1 r2 =>
    rename_i u ut
    cases r2
    obtain ⟨as, rd⟩ := Dp.reads I d x u hd r1
    have ref : ∀ a, u = .ref a → wpAny (model X.prog X.w) X.A (call (.builtin "repr") [u]) (EP X pins σ Q) X.xe s := by
      rintro a rfl
      have := S.dep
      exact repr_of_reads' rd S.show_ (PyData.noDict_hsm S.nod) hgd (by omega) (fun _ _ e => e) (fun h' u tk hk => ⟨.str d.shown, H, I.kept (t' := tk) hk, ⟨u, rfl⟩, q⟩) S.size
    cases rd with
    | none => exact PySem.P.repr_of_none ⟨.str _, H, I.tok _, ⟨_, rfl⟩, q⟩
    | bool b => exact PySem.P.repr_of_bool ⟨.str _, H, I.tok _, ⟨_, rfl⟩, q⟩
    | int i t => exact PySem.P.repr_of_int (S.int i rfl) ⟨.str _, H, I.tok _, ⟨_, rfl⟩, q⟩
    | str z t => exact absurd rfl (S.str z)
    | list _ _ _ _ => exact ref _ rfl
    | tuple _ _ _ _ => exact ref _ rfl
    | dict _ _ _ _ _ => exact ref _ rfl
end
end
end Gx
set_option Elab.async false
set_option linter.all false
set_option maxRecDepth 100000
set_option maxHeartbeats 4000000
namespace Gx
open PySem PySem.Spec PyProof.Rows L2 GenW

/-- the abstract heap at the law's entry: the tables ts, and the script where it is none of the module's own objects -/
def entryH (K : PySem.W.Frag) (a : Addr) (o : Obj) (ns : List Int) (ts : List Addr) : Hp := fun b =>
  if b ∈ ts then some (.tbl #[]) else if b = a ∧ (K.lookup a).isNone = true then some (.frz o (.lst (ns.map V.int))) else none
section
variable {K : PySem.W.Frag} {a : Addr} {o : Obj} {ns : List Int} {ts : List Addr}
theorem entryH_tab {b : Addr} (h : b ∈ ts) : entryH K a o ns ts b = some (.tbl #[]) := if_pos h
theorem entryH_cases (b : Addr) : entryH K a o ns ts b = none ∨ (b ∈ ts ∧ entryH K a o ns ts b = some (.tbl #[])) ∨ (b ∉ ts ∧ b = a ∧ K.lookup a = none ∧ entryH K a o ns ts b = some (.frz o (.lst (ns.map V.int)))) := by
  by_cases h1 : b ∈ ts
  · exact .inr (.inl ⟨h1, entryH_tab h1⟩)
  · by_cases h2 : b = a ∧ (K.lookup a).isNone = true
    · exact .inr (.inr ⟨h1, h2.1, Option.isNone_iff_eq_none.mp h2.2, (if_neg h1).trans (if_pos h2)⟩)
    · exact .inl ((if_neg h1).trans (if_neg h2))
end
abbrev tab0 : Obj := { cls := .none, data := .fields #[] }
abbrev scrObj (vs : List Value) : Obj := { cls := .type "list", data := .seq vs.toArray }

/-- the law's call, where its promise holds with no repr around -/
theorem enterG {P : Program} {w : World} {K : PySem.W.Frag} {mg mb : Str → Option Value} {k : Nat} {fa a : Addr} {cs : List (Addr × Addr)} {fd : FuncData} {x : Str} {sp : Sp} {s : Shared} {vs : List Value} {ns : List Int}
    (KX : K.In s.heap) (gl : s.heap.Ns mainGlobals mg) (bl : s.heap.Ns builtinsNs mb) (bb : ∀ x : Str, x ≠ "__name__" → mb x = bootBuiltins x) (lim : s.heap.NoLimit) (g0 : s.gens = #[])
    (hT : ∀ p ∈ cs, s.heap.get? p.2 = some tab0 ∧ K.lookup p.2 = none ∧ PySem.W.CodeHd s.heap p.1 p.2)
    (bm : ∃ (bm : Addr) (ob : Obj), mg "__builtins__" = some (.ref bm) ∧ bm ≠ builtinsNs ∧ s.heap.get? bm = some ob ∧ ob.cls = .type "module" ∧ ob.dict = some builtinsNs ∧ ob.data = .plain)
    (ha : s.heap.get? a = some (scrObj vs)) (hi : IntsAre vs ns) (hl : ns.length ≤ sizeLine) (hr : Room k callerA) (hbind : ∀ (s : Shared) (u : Value), BindsTo s fd ⟨[u], []⟩ [(x, u)])
    (F : ∀ base : Heap, K.In base → base.Ns mainGlobals mg → (∀ p ∈ cs, GxR.TabB base mg p.1 p.2) → FnG P w K mg base k fa fd [x] sp)
    (hsp : ∀ H : Hp, (∀ p ∈ cs, GxR.TabG H p.2) → SqL K H a (ns.map V.int) → sp [.ref a] H (fun v _ => v = .bl true) E0) :
    codeAny (model P w) callerA (.call (.ref fa) ⟨[.ref a], []⟩) (fun r s' => r = .ok (.ret (.bool true)) ∧ OldK s.heap s'.heap ∧ s'.os = s.os ∧ AllBare s'.gens) s := by
  have rv := vals_ints hi
  have lenV := hi.length
  generalize hts : cs.map (·.2) = ts
  have tsT : ∀ b ∈ ts, s.heap.get? b = some tab0 ∧ K.lookup b = none := fun b hb => by
    rw [← hts] at hb
    obtain ⟨p, hp, rfl⟩ := List.mem_map.mp hb
    exact ⟨(hT p hp).1, (hT p hp).2.1⟩
  have inT : ∀ p ∈ cs, p.2 ∈ ts := fun p hp => by rw [← hts]; exact List.mem_map.mpr ⟨p, hp, rfl⟩
  have aT : a ∉ ts := fun hb => by
    have q := (tsT a hb).1
    rw [ha] at q
    exact absurd (congrArg Obj.data (Option.some.inj q)) (by intro z; cases z)
  generalize hH : entryH K a (scrObj vs) ns ts = H
  have cases_ : ∀ b, H b = none ∨ (b ∈ ts ∧ H b = some (.tbl #[])) ∨ (b ∉ ts ∧ b = a ∧ K.lookup a = none ∧ H b = some (.frz (scrObj vs) (.lst (ns.map V.int)))) := fun b => by rw [← hH]; exact entryH_cases b
  have tabs : ∀ p ∈ cs, H p.2 = some (.tbl #[]) := fun p hp => by rw [← hH]; exact entryH_tab (inT p hp)
  have hS : SqL K H a (ns.map V.int) := by
    cases hk : K.lookup a with
    | none => exact .inl (.inr ⟨scrObj vs, by rw [← hH]; exact (if_neg aT).trans (if_pos ⟨rfl, by rw [hk]; rfl⟩)⟩)
    | some u =>
      have e := KX a u hk
      rw [ha] at e
      cases e
      exact .inr ⟨_, vs.toArray, _, hk, rfl, rfl, rfl, by rw [List.size_toArray, lenV]; exact hl, by simpa using rv⟩
  have hok : HOk P w H s.heap := fun b u e => by
    rcases cases_ b with z | ⟨hb, z⟩ | ⟨_, rfl, _, z⟩
    · rw [z] at e; cases e
    · rw [z] at e; cases e
      exact (tsT b hb).1
    · rw [z] at e; cases e
      exact ⟨ha, by rw [List.length_map]; exact hl, vs, _, rv, ha⟩
  -- what is no list and no empty table is not tracked
  have clear : ∀ {b : Addr} {o : Obj}, s.heap.get? b = some o → (∀ ys n, o.data ≠ .seq ys n) → o.data ≠ .fields #[] → H b = none := fun {b o} e h1 h2 => by
    rcases cases_ b with z | ⟨hb, _⟩ | ⟨_, rfl, _, _⟩
    · exact z
    · rw [(tsT b hb).1] at e; cases e
      exact absurd rfl h2
    · rw [ha] at e; cases e
      exact absurd rfl (h1 _ _)
  have nsB : ∀ {b : Addr} {m : Str → Option Value}, s.heap.Ns b m → (hidT s.heap H).Ns b m := fun {b m} ⟨o, es, ep, e, d, r⟩ =>
    ⟨o, es, ep, hidT_get e (clear e (fun ys n z => by rw [d] at z; cases z) fun z => by rw [d] at z; cases z), d, r⟩
  have kB : K.In (hidT s.heap H) := fun b o e => hidT_get (KX b o e) (by
    rcases cases_ b with z | ⟨hb, _⟩ | ⟨_, rfl, hk, _⟩
    · exact z
    · rw [(tsT b hb).2] at e; cases e
    · rw [hk] at e; cases e)
  have modB : L2.Mod K mg (hidT s.heap H) := ⟨kB, nsB gl, ⟨mb, nsB bl, bb⟩, let ⟨mc, h1, h2⟩ := lim; ⟨mc, nsB h1, h2⟩⟩
  have noGl : ∀ {b : Addr} {o : Obj}, s.heap.get? b = some o → (∀ es ep, o.data ≠ .dict es ep) → b ≠ mainGlobals := fun {b o} e h z => by
    obtain ⟨o', es, ep, e', hd, _⟩ := gl
    rw [← z, e] at e'
    cases e'
    exact h _ _ hd
  have tb : ∀ p ∈ cs, GxR.TabB (hidT s.heap H) mg p.1 p.2 := fun p hp => by
    obtain ⟨t1, _, o, us, file, tf, flags, tg, inF, text, tt, e1, r1, r2, r3, r⟩ := hT p hp
    obtain ⟨b, ob, b1, b2, b3, b4, b5, b6⟩ := bm
    refine ⟨⟨o, us, file, tf, flags, tg, inF, text, tt, hidT_get e1 (clear e1 (fun ys n z => by rw [r2] at z; cases z) fun z => ?_), r1, r2, r3, r⟩,
      ⟨b, ob, b1, b2, noGl b3 (fun es ep z => by rw [b6] at z; cases z), fun q => ?_, hidT_get b3 (clear b3 (fun ys n z => by rw [b6] at z; cases z) fun z => by rw [b6] at z; cases z), b4, b5, b6⟩, (noGl t1 (fun es ep z => by cases z)).symm⟩
    · rw [r2] at z
      cases z
      simp at r3
    · rw [q, t1] at b3
      cases b3
      cases b6
  have e0 : Env0 P w K mg (hidT s.heap H) callerA [] s H :=
    ⟨rfl, modB, fun b o e => of_hidT e, Nat.le_of_eq (hidT_size _ _), trivial, (fun b hb => absurd (show b ∈ ([] : List Addr) from hb) (by simp)), hok, .of_eq g0⟩
  refine codeAny_mono ((F _ kB (nsB gl) tb).run callerA [] s H ⟨[.ref a], []⟩ [.ref a] [.ref a] _ E0 rfl hr e0 (hbind s (.ref a)) (.cons rfl .nil) (hsp H (fun p hp => ⟨#[], tabs p hp, by
    unfold TriplesOk
    trivial⟩) hS)) fun r s' h => ?_
  cases r with
  | error e => exact False.elim h
  | ok fl =>
    cases fl with
    | next => exact False.elim h
    | brk => exact False.elim h
    | cont => exact False.elim h
    | ret u =>
      obtain ⟨v, H', os, bare, un, hok', r', rfl⟩ := h
      obtain rfl : u = Value.bool true := r'
      have same : ∀ b o, b ∉ ts → s.heap.get? b = some o → s'.heap.get? b = some o := fun b o hb e => by
        rcases cases_ b with z | ⟨h1, _⟩ | ⟨_, rfl, _, z⟩
        · exact un.keep b o e z (by intro y; cases y) (by intro y; cases y)
        · exact absurd h1 hb
        · have z1 := (hok b _ z).1
          have z2 := (hok' b _ (un.frzs b _ _ z)).1
          rw [e] at z1
          cases z1
          exact z2
      have tabG : ∀ b ∈ ts, ∃ more : Array Value, s'.heap.get? b = some { cls := .none, data := .fields more } := fun b hb => by
        obtain ⟨more, z⟩ := un.tbls b #[] (by rw [← hH]; exact entryH_tab hb)
        exact ⟨_, hok' b _ z⟩
      refine ⟨rfl, ⟨fun b o e => ?_, fun b o e => ?_⟩, os, bare⟩
      · by_cases hb : b ∈ ts
        · obtain ⟨more, hm⟩ := tabG b hb
          have hb2 := hb
          rw [← hts] at hb2
          obtain ⟨p, hp, rfl⟩ := List.mem_map.mp hb2
          obtain ⟨t1, _, C⟩ := hT p hp
          rw [t1] at e
          cases e
          exact .inr (.inl ⟨(C.tab t1).isCodeTable, rfl, #[], more, rfl, by rw [Array.empty_append]; exact hm⟩)
        · exact .inl (same b o hb e)
      · by_cases hb : b ∈ ts
        · obtain ⟨more, hm⟩ := tabG b hb
          exact ⟨_, hm⟩
        · exact ⟨o, same b o hb e⟩

/-- what is to be shown of the law's promise at the head's heap -/
def LawG (l : PySem.W.OpenLaw) (w : World) (K : PySem.W.Frag) (k n : Nat) (x : Str) (mg : Str → Option Value) (fa : Addr) (h : Heap) : Prop :=
  ∃ (fd : FuncData) (cs : List (Addr × Addr)) (sp : Sp), (∀ p ∈ cs, h.get? p.2 = some tab0 ∧ K.lookup p.2 = none ∧ PySem.W.CodeHd h p.1 p.2) ∧ (∀ (s : Shared) (u : Value), BindsTo s fd ⟨[u], []⟩ [(x, u)]) ∧
    (∀ (H : Hp) (a : Addr) (ns : List Int), ns.length ≤ n → (∀ z ∈ ns, Builtin.Int.intBits z ≤ 1048576) → (∀ p ∈ cs, GxR.TabG H p.2) → SqL K H a (ns.map V.int) → sp [.ref a] H (fun v _ => v = .bl true) E0) ∧
    ∀ base : Heap, K.In base → base.Ns mainGlobals mg → (∀ p ∈ cs, GxR.TabB base mg p.1 p.2) → FnG l.prog w K mg base k fa fd [x] sp
theorem walkG {l : PySem.W.OpenLaw} {n k : Nat} {q : Program} {loose : List Str} {XP : (Str → Option Value) → Heap → Prop} {YP : World → Heap → Prop} {d : DefRec} {K : Params → PySem.W.Frag} {x : Str}
    (hn : l.most = some n) (hn2 : n ≤ sizeLine) (hdf : d.params.defaults = []) (hr : Room k callerA) (hY : ∀ (w : World) (h : Heap), YP w h → (K w.params).In h)
    (F : ∀ (w : World) (mg : Str → Option Value) (fa : Addr) (h : Heap), (K w.params).In h → h.Ns mainGlobals mg → mg d.name = some (.ref fa) →
      (∀ (d' : DefRec) (y : Str) (c P : Addr), (recsOf q).find? (fun e => e.name == y) = some d' → PySem.W.tabIn (K w.params) y = some (c, P) → PySem.W.CodeHd h c P ∧ h.get? P = some tab0) → LawG l w (K w.params) k n x mg fa h) :
    PySem.W.WalkO q loose XP YP l.row.toRowW d [] (fun f vs => PySem.call f vs) := by
  refine Att.attach_callB hn hdf fun w s₀ s₁ mg mb fa o pm cd doc a vs ns G Y ho hd hcd hmg hobj hints hlen hbits hg => ?_
  have KX := hY w _ Y
  obtain ⟨fd, cs, sp, hT, hb, hsp, hF⟩ := F w mg fa _ KX G.T.g hmg fun d' y c P h1 h2 => PySem.W.tab_of G.T KX h1 h2
  exact enterG KX G.T.g G.T.b G.T.builtins G.T.nolimit hg hT G.T.bmain hobj hints (Nat.le_trans hlen hn2) hr hb hF fun H h1 h2 => hsp H a ns hlen hbits h1 h2
end Gx
set_option Elab.async false
set_option linter.all false
set_option maxRecDepth 100000
set_option maxHeartbeats 4000000
namespace Gx
open PySem PySem.Spec PyProof.Rows L2 GenW
open Sem (wp)
open AutoSeq1 (wpAny_loadPart')

/-! ### enumerate over a tuple -/
theorem meets_enumT (a : Addr) (items : Array Value) :
    Meets (Builtin.«enumerate.__new__» ⟨[.type "enumerate", .ref a], []⟩) (fun _ R s => s.heap.IsTuple a items ∧
      R (.ok (.ret (.ref (s.heap.push { cls := .type "tuple_iterator", data := .fields #[.ref a, .int 0 0] }).objs.size)))
        { s with heap := (s.heap.push { cls := .type "tuple_iterator", data := .fields #[.ref a, .int 0 0] }).push { cls := .type "enumerate", data := .fields #[.none, .bool false, .ref s.heap.objs.size, rawInt 0, .none, .none] } }) :=
  .of_wp fun prog w A R s h => by
    obtain ⟨hp, g, d, tk, os⟩ := s
    obtain ⟨hT, h⟩ := h
    have hsub := sub_enumerate
    have q1 : ∀ {A' : Around} {E : Value → Shared → Prop} {Q : Value → Shared → Prop}, Q (.ref hp.objs.size) ⟨hp.push { cls := .type "tuple_iterator", data := .fields #[.ref a, .int 0 0] }, g, d, tk, os⟩ → wpAny (model prog w) A' (pyIter (.ref a)) Q E ⟨hp, g, d, tk, os⟩ :=
      fun q => (begins_tuple a items).iter prog w _ _ ⟨hp, g, d, tk, os⟩ _ hT q
    wp_walk using q1
    refine wpAny_stack_any fun st => wpAny_pure ?_
    split
    · rename_i c _ _ _ _ _
      cases (c == Value.type "enumerate")
      · wp_walk using q1
        exact ⟨_, rfl, h⟩
      · wp_walk using q1
        exact ⟨_, rfl, h⟩
    · wp_walk using q1
      exact ⟨_, rfl, h⟩
theorem call_enumT {prog : Program} {w : World} {A : Around} {E : Value → Shared → Prop} {s : Shared} {a : Addr} {items : Array Value} {Q : Value → Shared → Prop} (hT : s.heap.IsTuple a items)
    (h : ∀ h', IsEnum h' (s.heap.objs.size + 1) s.heap.objs.size 0 .none → h'.IsTupleIter s.heap.objs.size a 0 → h'.objs.size = s.heap.objs.size + 2 →
      (∀ b o, s.heap.get? b = some o → h'.get? b = some o) → Q (.ref (s.heap.objs.size + 1)) { s with heap := h' }) :
    wpAny (model prog w) A (call (.type "enumerate") [.ref a]) Q E s := by
  refine callType_new F.called_enumerate (by decide) (F.typeCall_enumerate_1 _) (F.newCall_enumerate_1 _) (fun obj => F.args_object_init_2 obj _) F.entry_enumerate_new (meets_enumT a items) ⟨hT, ?_⟩
  generalize ho : ({ cls := .type "tuple_iterator", data := .fields #[.ref a, .int 0 0] } : Obj) = o1
  have hz : (s.heap.push o1).objs.size = s.heap.objs.size + 1 := Heap.size_push ..
  show _ ∧ _
  rw [hz]
  have he : IsEnum ((s.heap.push o1).push { cls := .type "enumerate", data := .fields #[.none, .bool false, .ref s.heap.objs.size, rawInt 0, .none, .none] }) (s.heap.objs.size + 1) s.heap.objs.size 0 .none := by
    have q := Heap.get?_push_size (s.heap.push o1) (o := { cls := .type "enumerate", data := .fields #[.none, .bool false, .ref s.heap.objs.size, rawInt 0, .none, .none] }) rfl
    rw [hz] at q
    exact q
  refine ⟨⟨_, he, rfl⟩, h _ he ⟨o1, Heap.get?_push_of_some _ (Heap.get?_push_size _ (by rw [← ho]; rfl)), (by subst ho; rfl), (by subst ho; rfl)⟩ (by rw [Heap.size_push, hz]) fun b o x => Heap.get?_push_of_some _ (Heap.get?_push_of_some _ x)⟩

def IteT (K : PySem.W.Frag) (a : Addr) : It :=
  ⟨fun i H => ∃ xs x, SqT K H a xs ∧ xs[i]? = some x, fun i H v H' => ∃ T x, v = .ref T ∧ H T = none ∧ H' = upd H T (.tup [.int (i : Nat), x]) ∧ ∀ xs, SqT K H a xs → xs[i]? = some x, fun i H => ∃ xs, SqT K H a xs ∧ xs.length ≤ i⟩
theorem turn_enumT {P : Program} {w : World} {K : PySem.W.Frag} {elts : List Expr} {kk : Nat} {tpos : Pos} (a e it : Addr) :
    Turn P w K (.Tuple elts kk tpos) (IteT K a) [e, it] e (fun i h => (∃ old, IsEnum h e it ((i : Nat) : Int) old) ∧ h.IsTupleIter it a i ∧ e ≠ it ∧ a ≠ it ∧ a ≠ e) where
  mem := List.mem_cons_self
  obj := fun i h st b hb => by
    obtain ⟨⟨old, he⟩, ⟨o, ho, _, hd⟩, _⟩ := st
    rcases List.mem_cons.mp hb with z | z
    · exact ⟨_, (by rw [z]; exact he), fun v q => by cases q⟩
    · rw [List.mem_singleton.mp z]
      exact ⟨o, ho, fun v q => by rw [hd] at q; cases q⟩
  keep := fun i h h' st k => let ⟨⟨old, he⟩, hi, r⟩ := st; ⟨⟨old, k e List.mem_cons_self _ he⟩, hi.at fun o q => k it (List.mem_cons_of_mem _ List.mem_cons_self) o q, r⟩
  item := by
    intro X hP hw hK hc i pins s σ H E I hf st hg
    subst hP hw hK
    obtain ⟨⟨old, he⟩, hit, hne, hai, hae⟩ := st
    obtain ⟨xs, x, hq, hx⟩ := hg
    obtain ⟨its, rv, p, hz⟩ := I.tuple hq
    obtain ⟨u, hu, ru⟩ := rv.get hx
    have hel : e < s.heap.objs.size := Heap.lt_size he
    have hil : it < s.heap.objs.size := by obtain ⟨_, q, _⟩ := hit; exact Heap.lt_size q
    have hlt : i < its.toArray.size := by
      rw [List.size_toArray]
      exact (List.getElem?_eq_some_iff.mp hu).1
    refine wpAny_pyNext_enum_itemD (Draws.tuple (A := X.A.in1) (I.ok.hd hc) it a hai its.toArray) he ⟨hit, p⟩ hlt hne (fun z => ?_) fun y h' tk hy ho hst' hT hsz hk => ?_
    · rcases List.mem_cons.mp z with z | z
      · exact hne z
      · exact hae (List.mem_singleton.mp z).symm
    obtain rfl : u = y := by
      have q : its[i]? = some y := by simpa using hy
      rw [hu] at q
      exact Option.some.inj q
    obtain ⟨hit', _⟩ := hst'
    refine ⟨_, rfl, wpAny_letOwnedTupleGo_enum (s := { s with heap := h', toks := tk + 1 }) ho fun h'' he' sb => ?_⟩
    have hT2 : h''.get? s.heap.objs.size = some { cls := .type "tuple", data := .seq #[.int i tk, u] } := (sb.2 _ (Nat.ne_of_gt hel)).trans hT
    have new : ObjOk X.prog X.w (upd H s.heap.objs.size (.tup [.int (i : Nat), x])) h'' s.heap.objs.size (.tup [.int (i : Nat), x]) :=
      ⟨by show 2 ≤ sizeLine; decide, [.int i tk, u], .cons ⟨_, rfl⟩ (.cons ru .nil), ⟨_, hT2, rfl, _, rfl⟩⟩
    have I1 : Inv X pins σ (upd H s.heap.objs.size (.tup [.int (i : Nat), x])) { s with heap := h'', toks := tk + 1 } :=
      I.turnedNew (ch := [e, it]) (fun b ob hb q => (sb.2 b (fun z => hb (by rw [z]; exact List.mem_cons_self))).trans (hk b ob (fun z => hb (by rw [z]; exact List.mem_cons_self)) (fun z => hb (by rw [z]; exact List.mem_cons_of_mem _ List.mem_cons_self)) q)) hf (Nat.le_refl _) new
    refine ⟨.ref s.heap.objs.size, _, I1, rfl, ⟨_, x, rfl, I.hok.fresh (Nat.le_refl _), rfl, fun ys hy => by rw [I.tuple_inj hy hq]; exact hx⟩, ⟨⟨u, ?_⟩, hit'.at fun o q => (sb.2 it (Ne.symm hne)).trans q, hne, hai, hae⟩, fun b hb => ?_⟩
    · have e1 : ((i + 1 : Nat) : Int) = (i : Int) + 1 := by omega
      rw [e1]; exact he'
    · have hb' : b < s.heap.objs.size := by
        rcases List.mem_cons.mp hb with z | z
        · rw [z]; exact hel
        · rw [List.mem_singleton.mp z]; exact hil
      rw [upd_ne (Nat.ne_of_lt hb')]
      exact (hf b hb).1
  done := by
    intro X hP hw hK hc i pins s σ H E I hf st hg
    subst hP hw hK
    obtain ⟨⟨old, he⟩, hit, hne, hai, hae⟩ := st
    obtain ⟨xs, hq, hx⟩ := hg
    obtain ⟨its, rv, p, hz⟩ := I.tuple hq
    obtain ⟨f0, f1, f2, f3, f4, f5⟩ := hf it (List.mem_cons_of_mem _ List.mem_cons_self)
    have hT : s.TypeIs (.ref e) "enumerate" := ⟨_, he, rfl⟩
    have hl := rv.length
    unfold pyNext
    refine wpAny_bind (wpAny_attempt (wpAny_callSpecial?_slot (name := Str.ofString "__next__") hT F.slot_enumerate_next
      (wpAny_call_entry F.slot_enumerate_next hT F.entry_enumerate_next ?_ (F.args_enumerate_next_1 _))))
    show wpAny _ _ (field (.ref e) 2 >>= _) _ _ _
    refine wpAny_bind (wpAny_field he rfl (x := .ref it) rfl ?_)
    refine wpAny_bind (wpAny_nextOf_tuple_end (A := X.A.in1) (I.ok.hd hc) hit p (by simp; omega) fun h' x he' hx' => ?_)
    obtain ⟨o, ho, hc⟩ := hx'
    refine wpAny_bind (wpAny_isInstance (T := "StopIteration") (b := true) ⟨o, ho, hc⟩ isSubtype_stop ?_)
    exact wpAny_pure ⟨rfl, I.turned (t' := s.toks) (fun b o hb q => he' b o hb q) f0 f1 f3 f4 f5⟩
  self := fun A i s Q E st h => let ⟨⟨_, he⟩, _⟩ := st; wpAny_pyIter_enum he h
def iEnumT (K : PySem.W.Frag) (ta : TA) : TI := fun σ H R => ta σ H fun vs H1 => ∃ a xs, vs = [.ref a] ∧ SqT K H1 a xs ∧ R (IteT K a) H1
theorem pi_enumT {X : Cx} {e : Expr} {ta : TA} {p pos tpos : Pos} {elts : List Expr} {kk : Nat} (hg : Gl X "enumerate") (hm : X.mg "enumerate" = none) (ha : PA X [e] ta) (hs : starEach [e] X.env = [(false, eval e X.env)] := by rfl) :
    PI X (.Tuple elts kk tpos) (.Call (.Name "enumerate" p) [e] [] pos) (iEnumT X.K ta) := by
  refine ⟨fun pins s σ H R I h => ?_⟩
  refine Call_ (ld_blt I hg hm boot_enumerate (PyProof.Rows.callWith_type1 (thn (ha.run pos pins s σ H _ I h) fun us s1 ⟨vs, H1, I1, r1, q1⟩ => ?_) hs rfl))
  obtain ⟨a, xs, rfl, hq, q⟩ := q1
  cases r1 with
  | cons r rr =>
    cases rr
    cases r
    obtain ⟨its, rv, p', hz⟩ := I1.tuple hq
    have hal : a < s1.heap.objs.size := by obtain ⟨o, ho, _⟩ := id p'; exact Heap.lt_size ho
    refine call_enumT (show s1.heap.IsTuple a its.toArray from p') fun h' he hit hsz hk => wpAny_pyIter_enum he ?_
    have I2 : Inv X pins σ H1 { s1 with heap := h' } := I1.kept (t' := s1.toks) hk
    refine ⟨s1.heap.objs.size + 1, [s1.heap.objs.size + 1, s1.heap.objs.size], _, _, H1, rfl, I2, turn_enumT a (s1.heap.objs.size + 1) s1.heap.objs.size, ⟨⟨.none, he⟩, hit, Nat.succ_ne_self _, Nat.ne_of_lt hal, Nat.ne_of_lt (Nat.lt_succ_of_lt hal)⟩, fun b hb => ?_, q⟩
    have hle : s1.heap.objs.size ≤ b := by
      rcases List.mem_cons.mp hb with z | z
      · rw [z]; exact Nat.le_add_right _ _
      · rw [List.mem_singleton.mp z]; exact Nat.le_refl _
    exact I1.fpOk hle (I1.hok.fresh hle)
end Gx
set_option Elab.async false
set_option linter.all false
set_option maxRecDepth 100000
set_option maxHeartbeats 4000000
namespace Gx
open PySem PySem.Spec PyProof.Rows L2 GenW RZ

/-! ### turns by a bound -/
theorem by_n {J : It} {g : TG} {tt : TT} {te : TE} {vs : List Nat} {σ : L2.St} {K : GK} {H2 : Hp} (n : Nat) (Pv : Nat → List V → Hp → Prop) (h0 : Pv 0 [] H2) (hgo : ∀ i ys H, i < n → Pv i ys H → J.go i H) (hstop : ∀ ys H, Pv n ys H → J.stop n H)
    (hs : ∀ i ys H x H', i < n → Pv i ys H → J.yld i H x H' → g x (wipe σ vs) H' fun σ2 H2 => wipe σ2 vs = wipe σ vs ∧ tt σ2 H2 fun b H3 =>
      if b = true then te σ2 H3 fun y H4 => K.mid ys y H4 ∧ (K.go y → Pv (i + 1) (ys ++ [y]) H4) else Pv (i + 1) ys H3) (hd : ∀ ys H, Pv n ys H → K.done ys H) :
    ∃ W : Nat → Nat → List V → Hp → Prop, (∃ m, W 0 m [] H2) ∧ Turns J g tt te vs σ K W := by
  refine ⟨fun i m ys H => m = n - i ∧ i ≤ n ∧ Pv i ys H, ⟨n, rfl, Nat.zero_le _, h0⟩, ?_⟩
  rintro i m ys H ⟨rfl, hi, p⟩
  by_cases hlt : i < n
  · exact .inr ⟨hgo i ys H hlt p, by omega, Pv (i + 1), fun ys' H' p' => ⟨n - (i + 1), by omega, rfl, hlt, p'⟩, fun x H' y => hs i ys H x H' hlt p y⟩
  · have e : i = n := by omega
    subst e
    exact .inl ⟨hstop ys H p, hd ys H p⟩
theorem by_tup {Kf : PySem.W.Frag} {a : Addr} {xs : List V} {g : TG} {tt : TT} {te : TE} {vs : List Nat} {σ : L2.St} {K : GK} {H2 : Hp} (Pv : Nat → List V → Hp → Prop) (h0 : Pv 0 [] H2) (hl : ∀ i ys H, Pv i ys H → SqT Kf H a xs)
    (hs : ∀ i x ys H, xs[i]? = some x → Pv i ys H → g x (wipe σ vs) H fun σ2 H2 => wipe σ2 vs = wipe σ vs ∧ tt σ2 H2 fun b H3 =>
      if b = true then te σ2 H3 fun y H4 => K.mid ys y H4 ∧ (K.go y → Pv (i + 1) (ys ++ [y]) H4) else Pv (i + 1) ys H3) (hd : ∀ ys H, Pv xs.length ys H → K.done ys H) :
    ∃ W : Nat → Nat → List V → Hp → Prop, (∃ m, W 0 m [] H2) ∧ Turns (Itt Kf a) g tt te vs σ K W :=
  by_n xs.length Pv h0 (fun i ys H hi p => ⟨xs, xs[i], hl i ys H p, List.getElem?_eq_getElem hi⟩) (fun ys H p => ⟨xs, hl _ ys H p, Nat.le_refl _⟩)
    (fun i ys H x H' hi p y => by obtain ⟨rfl, f⟩ := y; exact hs i x ys _ (f xs (hl i ys _ p)) p) hd
theorem by_list {Kf : PySem.W.Frag} {a : Addr} {xs : List V} {g : TG} {tt : TT} {te : TE} {vs : List Nat} {σ : L2.St} {K : GK} {H2 : Hp} (Pv : Nat → List V → Hp → Prop) (h0 : Pv 0 [] H2) (hl : ∀ i ys H, Pv i ys H → SqL Kf H a xs)
    (hs : ∀ i x ys H, xs[i]? = some x → Pv i ys H → g x (wipe σ vs) H fun σ2 H2 => wipe σ2 vs = wipe σ vs ∧ tt σ2 H2 fun b H3 =>
      if b = true then te σ2 H3 fun y H4 => K.mid ys y H4 ∧ (K.go y → Pv (i + 1) (ys ++ [y]) H4) else Pv (i + 1) ys H3) (hd : ∀ ys H, Pv xs.length ys H → K.done ys H) :
    ∃ W : Nat → Nat → List V → Hp → Prop, (∃ m, W 0 m [] H2) ∧ Turns (Itl Kf a) g tt te vs σ K W :=
  by_n xs.length Pv h0 (fun i ys H hi p => ⟨xs, xs[i], hl i ys H p, List.getElem?_eq_getElem hi⟩) (fun ys H p => ⟨xs, hl _ ys H p, Nat.le_refl _⟩)
    (fun i ys H x H' hi p y => by obtain ⟨rfl, f⟩ := y; exact hs i x ys _ (f xs (hl i ys _ p)) p) hd
theorem by_enumT {Kf : PySem.W.Frag} {a : Addr} {xs : List V} {g : TG} {tt : TT} {te : TE} {vs : List Nat} {σ : L2.St} {K : GK} {H2 : Hp} (Pv : Nat → List V → Hp → Prop) (h0 : Pv 0 [] H2) (hl : ∀ i ys H, Pv i ys H → SqT Kf H a xs)
    (hs : ∀ i x T ys H, xs[i]? = some x → Pv i ys H → H T = none → g (.ref T) (wipe σ vs) (upd H T (.tup [.int (i : Nat), x])) fun σ2 H2 => wipe σ2 vs = wipe σ vs ∧ tt σ2 H2 fun b H3 =>
      if b = true then te σ2 H3 fun y H4 => K.mid ys y H4 ∧ (K.go y → Pv (i + 1) (ys ++ [y]) H4) else Pv (i + 1) ys H3) (hd : ∀ ys H, Pv xs.length ys H → K.done ys H) :
    ∃ W : Nat → Nat → List V → Hp → Prop, (∃ m, W 0 m [] H2) ∧ Turns (IteT Kf a) g tt te vs σ K W :=
  by_n xs.length Pv h0 (fun i ys H hi p => ⟨xs, xs[i], hl i ys H p, List.getElem?_eq_getElem hi⟩) (fun ys H p => ⟨xs, hl _ ys H p, Nat.le_refl _⟩)
    (fun i ys H v H' hi p y => by obtain ⟨T, x, rfl, hT, rfl, f⟩ := y; exact hs i x T ys _ (f xs (hl i ys _ p)) p hT) hd
theorem by_zipT {Kf : PySem.W.Frag} {a b : Addr} {xs zs : List V} {g : TG} {tt : TT} {te : TE} {vs : List Nat} {σ : L2.St} {K : GK} {H2 : Hp} (he : xs.length = zs.length) (Pv : Nat → List V → Hp → Prop) (h0 : Pv 0 [] H2) (hl : ∀ i ys H, Pv i ys H → SqT Kf H a xs ∧ SqT Kf H b zs)
    (hs : ∀ i x z T ys H, xs[i]? = some x → zs[i]? = some z → Pv i ys H → H T = none → g (.ref T) (wipe σ vs) (upd H T (.tup [x, z])) fun σ2 H2 => wipe σ2 vs = wipe σ vs ∧ tt σ2 H2 fun b H3 =>
      if b = true then te σ2 H3 fun y H4 => K.mid ys y H4 ∧ (K.go y → Pv (i + 1) (ys ++ [y]) H4) else Pv (i + 1) ys H3) (hd : ∀ ys H, Pv xs.length ys H → K.done ys H) :
    ∃ W : Nat → Nat → List V → Hp → Prop, (∃ m, W 0 m [] H2) ∧ Turns (ItzT Kf a b) g tt te vs σ K W :=
  by_n xs.length Pv h0 (fun i ys H hi p => ⟨xs, zs, xs[i], zs[i]'(by omega), (hl i ys H p).1, (hl i ys H p).2, List.getElem?_eq_getElem hi, List.getElem?_eq_getElem (by omega)⟩) (fun ys H p => ⟨xs, zs, (hl _ ys H p).1, (hl _ ys H p).2, .inl (Nat.le_refl _)⟩)
    (fun i ys H v H' hi p y => by obtain ⟨T, x, z, rfl, hT, rfl, f1, f2⟩ := y; exact hs i x z T ys _ (f1 xs (hl i ys _ p).1) (f2 zs (hl i ys _ p).2) p hT) hd

/-! ### heaps that went on: c the lists that may have changed -/
structure Ext (c : List Addr) (H H' : Hp) : Prop where
  keep : ∀ b o, H b = some o → (∀ ps, o ≠ .tbl ps) → b ∉ c → H' b = some o
  tup : ∀ b xs, H b = some (.tup xs) → H' b = some (.tup xs)
  frz : ∀ b u o, H b = some (.frz u o) → H' b = some (.frz u o)
  tab : ∀ P, GxR.TabG H P → GxR.TabG H' P
  dom : ∀ b, H' b = none → H b = none
namespace Ext
variable {c c' : List Addr} {H H1 H2 : Hp} {a p P : Addr} {K : PySem.W.Frag} {xs : List V}
theorem refl : Ext c H H := ⟨fun _ _ h _ _ => h, fun _ _ h => h, fun _ _ _ h => h, fun _ h => h, fun _ h => h⟩
theorem trans (x : Ext c H H1) (y : Ext c H1 H2) : Ext c H H2 :=
  ⟨fun b o h n hb => y.keep b o (x.keep b o h n hb) n hb, fun b xs h => y.tup b xs (x.tup b xs h), fun b u o h => y.frz b u o (x.frz b u o h), fun P h => y.tab P (x.tab P h), fun b h => x.dom b (y.dom b h)⟩
theorem mono (x : Ext c H H1) (h : ∀ b ∈ c, b ∈ c') : Ext c' H H1 := ⟨fun b o e n hb => x.keep b o e n fun z => hb (h b z), x.tup, x.frz, x.tab, x.dom⟩
theorem more (x : Ext [] H H1) : Ext c H H1 := x.mono fun _ h => by cases h
theorem new {o : HO} (h : H p = none) : Ext c H (upd H p o) :=
  ⟨fun b u e _ _ => by rw [upd_ne (ne_of_none e h)]; exact e, fun b u e => by rw [upd_ne (ne_of_none e h)]; exact e, fun b u o e => by rw [upd_ne (ne_of_none e h)]; exact e,
    fun P ⟨ps, e, t⟩ => ⟨ps, by rw [upd_ne (ne_of_none e h)]; exact e, t⟩, fun b e => by
      by_cases hb : b = p
      · rw [hb]; exact h
      · rw [upd_ne hb] at e; exact e⟩
theorem set {xs ys : List V} (hp : p ∈ c) (h : H p = some (.lst xs)) : Ext c H (upd H p (.lst ys)) := by
  have ne : ∀ {b : Addr} {u : HO}, H b = some u → (∀ xs, u ≠ .lst xs) → b ≠ p := fun {b u} e n z => by rw [z, h] at e; exact n xs (Option.some.inj e).symm
  refine ⟨fun b u e _ hb => ?_, fun b u e => ?_, fun b u o e => ?_, fun P ⟨ps, e, t⟩ => ⟨ps, ?_, t⟩, fun b e => ?_⟩
  · rw [upd_ne (fun z => hb (by rw [z]; exact hp))]; exact e
  · rw [upd_ne (ne e fun _ z => by cases z)]; exact e
  · rw [upd_ne (ne e fun _ z => by cases z)]; exact e
  · rw [upd_ne (ne e fun _ z => by cases z)]; exact e
  · by_cases hb : b = p
    · rw [hb, upd_same] at e; cases e
    · rw [upd_ne hb] at e; exact e
/-- a list that was made since may be written -/
theorem own {xs ys : List V} (x : Ext c H H1) (h0 : H p = none) (h1 : H1 p = some (.lst xs)) : Ext c H (upd H1 p (.lst ys)) := by
  have ne : ∀ {b : Addr} {u : HO}, H b = some u → b ≠ p := fun {b u} e => ne_of_none e h0
  refine ⟨fun b u e n hb => by rw [upd_ne (ne e)]; exact x.keep b u e n hb, fun b u e => by rw [upd_ne (ne e)]; exact x.tup b u e, fun b u o e => by rw [upd_ne (ne e)]; exact x.frz b u o e, fun P h => ?_, fun b e => ?_⟩
  · obtain ⟨ps, e, t⟩ := x.tab P h
    obtain ⟨_, e2, _⟩ := h
    exact ⟨ps, by rw [upd_ne (ne e2)]; exact e, t⟩
  · by_cases hb : b = p
    · rw [hb, upd_same] at e; cases e
    · rw [upd_ne hb] at e; exact x.dom b e
theorem tabbed (h : GxR.TabG H P) (t : GxR.Tabbed P H H1) : Ext c H H1 := by
  obtain ⟨ps, e0, t0⟩ := h
  obtain ⟨⟨ps', e1, t1⟩, k⟩ := t
  have ne : ∀ {b : Addr} {u : HO}, H b = some u → (∀ q, u ≠ .tbl q) → b ≠ P := fun {b u} e n z => by rw [z, e0] at e; exact n ps (Option.some.inj e).symm
  refine ⟨fun b u e n _ => by rw [k b (ne e n)]; exact e, fun b u e => by rw [k b (ne e fun _ z => by cases z)]; exact e, fun b u o e => by rw [k b (ne e fun _ z => by cases z)]; exact e, fun Q h => ?_, fun b e => ?_⟩
  · by_cases hQ : Q = P
    · rw [hQ]; exact ⟨ps', e1, t1⟩
    · obtain ⟨qs, e, t⟩ := h
      exact ⟨qs, by rw [k Q hQ]; exact e, t⟩
  · by_cases hb : b = P
    · rw [hb, e1] at e; cases e
    · rw [k b hb] at e; exact e
theorem sqT (x : Ext c H H1) (h : SqT K H a xs) : SqT K H1 a xs := by
  rcases h with h | h
  · rcases h with h | ⟨u, h⟩
    · exact .inl (.inl (x.tup _ _ h))
    · exact .inl (.inr ⟨u, x.frz _ _ _ h⟩)
  · exact .inr h
theorem sqL (x : Ext c H H1) (h : SqL K H a xs) (ha : a ∉ c) : SqL K H1 a xs := by
  rcases h with h | h
  · rcases h with h | ⟨u, h⟩
    · exact .inl (.inl (x.keep _ _ h (fun _ z => by cases z) ha))
    · exact .inl (.inr ⟨u, x.frz _ _ _ h⟩)
  · exact .inr h
theorem lst (x : Ext c H H1) (h : H a = some (.lst xs)) (ha : a ∉ c) : H1 a = some (.lst xs) := x.keep _ _ h (fun _ z => by cases z) ha
end Ext

/-! ### nets in the heap -/
abbrev Rd3 := Nat × Nat × Int
def RdAt (K : PySem.W.Frag) (H : Hp) (v : V) (r : Rd3) : Prop := ∃ p, v = .ref p ∧ SqT K H p [.int r.1, .int r.2.1, .int r.2.2]
def RdsAt (K : PySem.W.Frag) (H : Hp) (p : Addr) (rs : List Rd3) : Prop := ∃ vs, SqT K H p vs ∧ vs.length = rs.length ∧ ∀ (i : Nat) (r : Rd3), rs[i]? = some r → ∃ v, vs[i]? = some v ∧ RdAt K H v r
def NetAt (K : PySem.W.Frag) (H : Hp) (p : Addr) (ms : List Str) (rs : List Rd3) : Prop := ∃ mp rp, SqT K H p [.str "net", .ref mp, .ref rp] ∧ SqT K H mp (ms.map V.str) ∧ RdsAt K H rp rs
section
variable {K : PySem.W.Frag} {H H1 : Hp} {c : List Addr}
theorem RdAt.ext {v : V} {r : Rd3} (h : RdAt K H v r) (x : Ext c H H1) : RdAt K H1 v r := let ⟨p, e, q⟩ := h; ⟨p, e, x.sqT q⟩
theorem RdsAt.ext {p : Addr} {rs : List Rd3} (h : RdsAt K H p rs) (x : Ext c H H1) : RdsAt K H1 p rs := let ⟨vs, q, l, f⟩ := h; ⟨vs, x.sqT q, l, fun i r e => let ⟨v, e1, e2⟩ := f i r e; ⟨v, e1, e2.ext x⟩⟩
theorem NetAt.ext {p : Addr} {ms : List Str} {rs : List Rd3} (h : NetAt K H p ms rs) (x : Ext c H H1) : NetAt K H1 p ms rs := let ⟨mp, rp, q1, q2, q3⟩ := h; ⟨mp, rp, x.sqT q1, x.sqT q2, q3.ext x⟩
end
/-- the readings go between n marks -/
def Good (n : Nat) (rs : List Rd3) : Prop := ∀ r ∈ rs, r.1 < n ∧ r.2.1 < n ∧ r.1 ≠ r.2.1
def missR (hs : List Int) (r : Rd3) : Int := r.2.2 - hs.getD r.2.1 0 + hs.getD r.1 0
theorem snoc {α β : Type} (f : α → β) (l : List α) {i : Nat} (h : i < l.length) : (l.take i).map f ++ [f l[i]] = (l.take (i + 1)).map f := by
  rw [List.take_add_one, List.getElem?_eq_getElem h, List.map_append]
  rfl
theorem ints_snoc {α : Type} (f : α → Int) (l : List α) {i : Nat} (h : i < l.length) : ((l.take i).map f).map V.int ++ [.int (f l[i])] = ((l.take (i + 1)).map f).map V.int := by
  rw [← snoc f l h, List.map_append]
  rfl
theorem ints_at {hs : List Int} {i : Nat} (h : i < hs.length) : (hs.map V.int)[i]? = some (.int (hs.getD i 0)) := by
  rw [List.getElem?_map, List.getElem?_eq_getElem h, List.getD_eq_getElem?_getD, List.getElem?_eq_getElem h]
  rfl
/-! ### xs[i] for xs[i] op= e -/
def rGetL (K : PySem.W.Frag) : V → V → Hp → VK → Prop := fun x y H Q => ∃ p xs i v, x = .ref p ∧ y = .int (i : Nat) ∧ SqL K H p xs ∧ xs[i]? = some v ∧ Q v H
theorem get_list {X : Cx} : PGet X (rGetL X.K) := by
  intro pins s σ H o i ov iv Q I ro ri h
  obtain ⟨p, xs, j, v, rfl, rfl, hq, hv, q⟩ := h
  cases ro
  obtain ⟨t, rfl⟩ := ri
  obtain ⟨its, r, pl, hz⟩ := I.list hq
  obtain ⟨u, hu, ru⟩ := r.get hv
  have hj : j < xs.length := (List.getElem?_eq_some_iff.mp hv).1
  have hn := line63
  exact wpAny_getItem_list pl.isList (Int.natCast_nonneg _) (by omega) (x := u) (by simpa using hu) ⟨v, H, I, ru, q⟩
theorem ixN_nat {n i : Nat} (h : i < n) : ixN n (i : Int) = some i := by
  unfold ixN
  rw [if_pos (Int.natCast_nonneg _), if_pos (by omega)]
  rfl

/-! ### sums -/
theorem sumV_ints (ns : List Int) : sumV (ns.map V.int) = ns.sum := by
  unfold sumV
  rw [List.map_map]
  congr 1
  exact List.map_id' ns
theorem sum_bound {B : Int} (hB : 0 ≤ B) : ∀ l : List Int, (∀ x ∈ l, -B ≤ x ∧ x ≤ B) → -(l.length * B) ≤ l.sum ∧ l.sum ≤ l.length * B
  | [], _ => by simp
  | x :: r, h => by
    have ih := sum_bound hB r fun y hy => h y (List.mem_cons_of_mem _ hy)
    have hx := h x List.mem_cons_self
    have e : ((x :: r).length : Int) * B = r.length * B + B := by
      rw [List.length_cons]
      push_cast
      rw [Int.add_mul, Int.one_mul]
    rw [List.sum_cons, e]
    omega
/-- small sums of at most 1,000 numbers below 2 ^ 50 -/
theorem sum_long {l : List Int} (hl : l.length ≤ 1000) (h : ∀ x ∈ l, -(2 ^ 50) ≤ x ∧ x ≤ 2 ^ 50) : InLong l.sum := by
  have hb := sum_bound (B := 2 ^ 50) (by decide) l h
  have e : (l.length : Int) * 2 ^ 50 ≤ 1000 * 2 ^ 50 := Int.mul_le_mul_of_nonneg_right (by omega) (by decide)
  have e2 : (1000 : Int) * 2 ^ 50 < 2 ^ 63 := by decide
  exact ⟨by omega, by omega⟩
/-- the sum of the items so far, for sum -/
theorem mid_long {α : Type} (f : α → Int) (l : List α) {i : Nat} (hl : l.length ≤ 1000) (h : ∀ x ∈ l, -(2 ^ 50) ≤ f x ∧ f x ≤ 2 ^ 50) (hi : i < l.length) : InLong (f l[i]) ∧ InLong (sumV (((l.take i).map f).map V.int) + f l[i]) := by
  have hx := h l[i] (List.getElem_mem hi)
  refine ⟨⟨by omega, by omega⟩, ?_⟩
  have e : sumV (((l.take i).map f).map V.int) + f l[i] = ((l.take (i + 1)).map f).sum := by
    rw [sumV_ints, ← snoc f l hi, List.sum_append]
    simp
  rw [e]
  refine sum_long ?_ fun x hx => ?_
  · rw [List.length_map, List.length_take]
    omega
  · obtain ⟨y, hy, rfl⟩ := List.mem_map.mp hx
    exact h y (List.mem_of_mem_take hy)
end Gx
set_option Elab.async false
set_option linter.all false
set_option maxRecDepth 100000
set_option maxHeartbeats 4000000
namespace Gx
open PySem PySem.Spec PyProof.Rows L2 RZ
/-! ### data in the heap whose lists are none of c -/
mutual
def DQ (c : List Addr) (K : PySem.W.Frag) (H : Hp) : PyData → V → Prop
  | .none, v => v = .non
  | .bool b, v => v = .bl b
  | .int i, v => v = .int i
  | .str x, v => v = .str x
  | .list ds, v => ∃ a xs, v = .ref a ∧ a ∉ c ∧ SqL K H a xs ∧ DQs c K H ds xs
  | .tuple ds, v => ∃ a xs, v = .ref a ∧ SqT K H a xs ∧ DQs c K H ds xs
  | .dict _, _ => False
def DQs (c : List Addr) (K : PySem.W.Frag) (H : Hp) : List PyData → List V → Prop
  | [], xs => xs = []
  | d :: ds, xs => ∃ v vs, xs = v :: vs ∧ DQ c K H d v ∧ DQs c K H ds vs
end
section
variable {c : List Addr} {K : PySem.W.Frag} {H H' : Hp}
mutual
theorem DQ.ext (x : Ext c H H') : ∀ (d : PyData) (v : V), DQ c K H d v → DQ c K H' d v
  | .none, _, h => h
  | .bool _, _, h => h
  | .int _, _, h => h
  | .str _, _, h => h
  | .list ds, v, h => by
    rw [DQ] at h ⊢
    obtain ⟨a, xs, e, hc, hs, hq⟩ := h
    exact ⟨a, xs, e, hc, x.sqL hs hc, DQs.ext x ds xs hq⟩
  | .tuple ds, v, h => by
    rw [DQ] at h ⊢
    obtain ⟨a, xs, e, hs, hq⟩ := h
    exact ⟨a, xs, e, x.sqT hs, DQs.ext x ds xs hq⟩
  | .dict _, _, h => by rw [DQ] at h; exact h.elim
theorem DQs.ext (x : Ext c H H') : ∀ (ds : List PyData) (xs : List V), DQs c K H ds xs → DQs c K H' ds xs
  | [], _, h => by
    rw [DQs] at h ⊢
    exact h
  | d :: ds, xs, h => by
    rw [DQs] at h ⊢
    obtain ⟨v, vs, e, h1, h2⟩ := h
    exact ⟨v, vs, e, DQ.ext x d v h1, DQs.ext x ds vs h2⟩
end
mutual
theorem DQ.sub {c' : List Addr} (hs : ∀ a ∈ c', a ∈ c) : ∀ (d : PyData) (v : V), DQ c K H d v → DQ c' K H d v
  | .none, _, h => h
  | .bool _, _, h => h
  | .int _, _, h => h
  | .str _, _, h => h
  | .list ds, v, h => by
    rw [DQ] at h ⊢
    obtain ⟨a, xs, e, hc, hl, hq⟩ := h
    exact ⟨a, xs, e, fun z => hc (hs _ z), hl, DQs.sub hs ds xs hq⟩
  | .tuple ds, v, h => by
    rw [DQ] at h ⊢
    obtain ⟨a, xs, e, hl, hq⟩ := h
    exact ⟨a, xs, e, hl, DQs.sub hs ds xs hq⟩
  | .dict _, _, h => by rw [DQ] at h; exact h.elim
theorem DQs.sub {c' : List Addr} (hs : ∀ a ∈ c', a ∈ c) : ∀ (ds : List PyData) (xs : List V), DQs c K H ds xs → DQs c' K H ds xs
  | [], _, h => by
    rw [DQs] at h ⊢
    exact h
  | d :: ds, xs, h => by
    rw [DQs] at h ⊢
    obtain ⟨v, vs, e, h1, h2⟩ := h
    exact ⟨v, vs, e, DQ.sub hs d v h1, DQs.sub hs ds vs h2⟩
end
mutual
theorem DQ.dp : ∀ (d : PyData) (v : V), DQ c K H d v → Dp K H v d
  | .none, _, h => by rw [DQ] at h; subst h; exact .non
  | .bool _, _, h => by rw [DQ] at h; subst h; exact .bl _
  | .int _, _, h => by rw [DQ] at h; subst h; exact .int _
  | .str _, _, h => by rw [DQ] at h; subst h; exact .str _
  | .list ds, v, h => by
    rw [DQ] at h
    obtain ⟨a, xs, rfl, _, hl, hq⟩ := h
    exact .lst hl (DQs.dp ds xs hq)
  | .tuple ds, v, h => by
    rw [DQ] at h
    obtain ⟨a, xs, rfl, hl, hq⟩ := h
    exact .tup hl (DQs.dp ds xs hq)
  | .dict _, _, h => by rw [DQ] at h; exact h.elim
theorem DQs.dp : ∀ (ds : List PyData) (xs : List V), DQs c K H ds xs → DpAll K H xs ds
  | [], _, h => by rw [DQs] at h; subst h; exact .nil
  | d :: ds, xs, h => by
    rw [DQs] at h
    obtain ⟨v, vs, rfl, h1, h2⟩ := h
    exact .cons (DQ.dp d v h1) (DQs.dp ds vs h2)
end
theorem DQs.length : ∀ {ds : List PyData} {xs : List V}, DQs c K H ds xs → xs.length = ds.length
  | [], _, h => by rw [DQs] at h; subst h; rfl
  | d :: ds, xs, h => by
    rw [DQs] at h
    obtain ⟨v, vs, rfl, _, h2⟩ := h
    rw [List.length_cons, List.length_cons, DQs.length h2]
theorem DQs.at_ : ∀ {ds : List PyData} {xs : List V} {i : Nat} {v : V}, DQs c K H ds xs → xs[i]? = some v → ∃ d, ds[i]? = some d ∧ DQ c K H d v
  | [], _, i, v, h, e => by rw [DQs] at h; subst h; simp at e
  | d :: ds, xs, i, v, h, e => by
    rw [DQs] at h
    obtain ⟨v0, vs, rfl, h1, h2⟩ := h
    cases i with
    | zero => cases e; exact ⟨d, rfl, h1⟩
    | succ i => exact DQs.at_ (ds := ds) h2 e
theorem DQs.cons {d : PyData} {ds : List PyData} {v : V} {vs : List V} (h1 : DQ c K H d v) (h2 : DQs c K H ds vs) : DQs c K H (d :: ds) (v :: vs) := by
  rw [DQs]
  exact ⟨v, vs, rfl, h1, h2⟩
theorem DQs.nil : DQs c K H [] [] := by rw [DQs]
theorem DQs.app : ∀ {ds es : List PyData} {xs ys : List V}, DQs c K H ds xs → DQs c K H es ys → DQs c K H (ds ++ es) (xs ++ ys)
  | [], _, _, _, h, k => by rw [DQs] at h; subst h; exact k
  | d :: ds, es, xs, ys, h, k => by
    rw [DQs] at h
    obtain ⟨v, vs, rfl, h1, h2⟩ := h
    exact DQs.cons h1 (DQs.app h2 k)
theorem DQ.tup {a : Addr} {xs : List V} {ds : List PyData} (h : SqT K H a xs) (k : DQs c K H ds xs) : DQ c K H (.tuple ds) (.ref a) := by
  rw [DQ]
  exact ⟨a, xs, rfl, h, k⟩
theorem DQ.lst {a : Addr} {xs : List V} {ds : List PyData} (hc : a ∉ c) (h : SqL K H a xs) (k : DQs c K H ds xs) : DQ c K H (.list ds) (.ref a) := by
  rw [DQ]
  exact ⟨a, xs, rfl, hc, h, k⟩
theorem DQ.int (i : Int) : DQ c K H (.int i) (.int i) := by rw [DQ]
theorem DQ.bl (b : Bool) : DQ c K H (.bool b) (.bl b) := by rw [DQ]
theorem DQ.str (x : Str) : DQ c K H (.str x) (.str x) := by rw [DQ]
theorem DQ.non : DQ c K H .none .non := by rw [DQ]
theorem DQs.ints : ∀ ns : List Int, DQs c K H (ns.map .int) (ns.map V.int)
  | [] => DQs.nil
  | n :: r => DQs.cons (DQ.int n) (DQs.ints r)
theorem DQs.strs : ∀ ns : List Str, DQs c K H (ns.map .str) (ns.map V.str)
  | [] => DQs.nil
  | n :: r => DQs.cons (DQ.str n) (DQs.strs r)
/-! ### kinds -/
def tyD : PyData → String
  | .none => "NoneType"
  | .bool _ => "bool"
  | .int _ => "int"
  | .str _ => "str"
  | .list _ => "list"
  | .tuple _ => "tuple"
  | .dict _ => "dict"
theorem DQ.ty : ∀ (d : PyData) (v : V), DQ c K H d v → TyX K H v (.type (tyD d))
  | .none, _, h => by rw [DQ] at h; subst h; exact .base .non
  | .bool _, _, h => by rw [DQ] at h; subst h; exact .base (.bl _)
  | .int _, _, h => by rw [DQ] at h; subst h; exact .base (.int _)
  | .str _, _, h => by rw [DQ] at h; subst h; exact .base (.str _)
  | .list ds, v, h => by
    rw [DQ] at h
    obtain ⟨a, xs, rfl, _, hl, hq⟩ := h
    rcases hl with (h | ⟨o, h⟩) | ⟨o, its, n, h, hc, _⟩
    · exact .base (.lst h)
    · exact .base (.frz h)
    · exact .kList h hc
  | .tuple ds, v, h => by
    rw [DQ] at h
    obtain ⟨a, xs, rfl, hl, hq⟩ := h
    rcases hl with (h | ⟨o, h⟩) | ⟨o, its, n, h, hc, _⟩
    · exact .base (.tup h)
    · exact .fTuple h
    · exact .kTuple h hc
  | .dict _, _, h => by rw [DQ] at h; exact h.elim
def isInt : PyData → Bool
  | .int _ => true
  | _ => false
def isBool : PyData → Bool
  | .bool _ => true
  | _ => false
def isStr : PyData → Bool
  | .str _ => true
  | _ => false
def isTup : PyData → Bool
  | .tuple _ => true
  | _ => false
def isDict : PyData → Bool
  | .dict _ => true
  | _ => false
theorem kit_int : ∀ d : PyData, isDict d = false → PySem.W.kitOne K (.type (tyD d)) (.type "int") = some (isInt d || isBool d)
  | .none, _ => kit_ty (a := "NoneType") (b := "int") (r := false) (by decide +kernel)
  | .bool _, _ => kit_ty (a := "bool") (b := "int") (r := true) (by decide +kernel)
  | .int _, _ => kit_ty (a := "int") (b := "int") (r := true) (by decide +kernel)
  | .str _, _ => kit_ty (a := "str") (b := "int") (r := false) (by decide +kernel)
  | .list _, _ => kit_ty (a := "list") (b := "int") (r := false) (by decide +kernel)
  | .tuple _, _ => kit_ty (a := "tuple") (b := "int") (r := false) (by decide +kernel)
  | .dict _, h => by cases h
theorem kit_bool : ∀ d : PyData, isDict d = false → PySem.W.kitOne K (.type (tyD d)) (.type "bool") = some (isBool d)
  | .none, _ => kit_ty (a := "NoneType") (b := "bool") (r := false) (by decide +kernel)
  | .bool _, _ => kit_ty (a := "bool") (b := "bool") (r := true) (by decide +kernel)
  | .int _, _ => kit_ty (a := "int") (b := "bool") (r := false) (by decide +kernel)
  | .str _, _ => kit_ty (a := "str") (b := "bool") (r := false) (by decide +kernel)
  | .list _, _ => kit_ty (a := "list") (b := "bool") (r := false) (by decide +kernel)
  | .tuple _, _ => kit_ty (a := "tuple") (b := "bool") (r := false) (by decide +kernel)
  | .dict _, h => by cases h
theorem kit_str : ∀ d : PyData, isDict d = false → PySem.W.kitOne K (.type (tyD d)) (.type "str") = some (isStr d)
  | .none, _ => kit_ty (a := "NoneType") (b := "str") (r := false) (by decide +kernel)
  | .bool _, _ => kit_ty (a := "bool") (b := "str") (r := false) (by decide +kernel)
  | .int _, _ => kit_ty (a := "int") (b := "str") (r := false) (by decide +kernel)
  | .str _, _ => kit_ty (a := "str") (b := "str") (r := true) (by decide +kernel)
  | .list _, _ => kit_ty (a := "list") (b := "str") (r := false) (by decide +kernel)
  | .tuple _, _ => kit_ty (a := "tuple") (b := "str") (r := false) (by decide +kernel)
  | .dict _, h => by cases h
theorem kit_tup : ∀ d : PyData, isDict d = false → PySem.W.kitOne K (.type (tyD d)) (.type "tuple") = some (isTup d)
  | .none, _ => kit_ty (a := "NoneType") (b := "tuple") (r := false) (by decide +kernel)
  | .bool _, _ => kit_ty (a := "bool") (b := "tuple") (r := false) (by decide +kernel)
  | .int _, _ => kit_ty (a := "int") (b := "tuple") (r := false) (by decide +kernel)
  | .str _, _ => kit_ty (a := "str") (b := "tuple") (r := false) (by decide +kernel)
  | .list _, _ => kit_ty (a := "list") (b := "tuple") (r := false) (by decide +kernel)
  | .tuple _, _ => kit_ty (a := "tuple") (b := "tuple") (r := true) (by decide +kernel)
  | .dict _, h => by cases h
theorem DQ.nodict : ∀ {d : PyData} {v : V}, DQ c K H d v → isDict d = false
  | .dict _, _, h => by rw [DQ] at h; exact h.elim
  | .none, _, _ => rfl
  | .bool _, _, _ => rfl
  | .int _, _, _ => rfl
  | .str _, _, _ => rfl
  | .list _, _, _ => rfl
  | .tuple _, _, _ => rfl
end
end Gx
set_option Elab.async false
set_option linter.all false
set_option maxRecDepth 100000
set_option maxHeartbeats 4000000
namespace K0
open PySem PySem.Spec PyProof.Rows L2 Gx RZ
def topS (i : Nat) : Stmt := PySem.Challenge.pw_truelevels_k00_nets_are_checked.main.body.getD i (.Pass ⟨0, 0, 0, 0⟩)
abbrev sIsWhole : Stmt := topS 7
abbrev sIsIndex : Stmt := topS 8
abbrev sIsRow : Stmt := topS 9
abbrev sIsName : Stmt := topS 10
abbrev sCheckNet : Stmt := topS 15
abbrev sIsNet : Stmt := topS 16
abbrev sAreMarks : Stmt := topS 17
abbrev sAreReadings : Stmt := topS 18
abbrev sIsReading : Stmt := topS 19
abbrev sIsValue : Stmt := topS 20
abbrev sIsJoined : Stmt := topS 21
abbrev sReached : Stmt := topS 22
abbrev sNeighbours : Stmt := topS 23
abbrev sNeighboursOver : Stmt := topS 24
/-! ### what is what -/
def isIndexD (d : PyData) (n : Nat) : Bool :=
  match d with
  | .int i => decide (0 ≤ i) && decide (i < n)
  | _ => false
def isRowD (d : PyData) (n : Nat) : Bool :=
  match d with
  | .tuple ds => decide (ds.length = n)
  | _ => false
section
variable {P : Program} {w : World} {K : PySem.W.Frag} {mg : Str → Option Value} {base : Heap}
/-! ### is_whole -/
def spIsWhole (K : PySem.W.Frag) : Sp := fun vs H Q _ => ∃ (v : V) (d : PyData), vs = [v] ∧ DQ [] K H d v ∧ Q (.bl (isInt d)) H
theorem scIsWhole : FnScope ["thing"] ["thing"] (defScope sIsWhole) := ⟨rfl, rfl, rfl, by decide +kernel, rfl, by decide +kernel, by decide +kernel⟩
theorem ok_isWhole {f : Addr} {fd : FuncData} (mii : mg "isinstance" = none) (mi : mg "int" = none) (mb : mg "bool" = none) (F : Fun K "is_whole" "is_whole" sIsWhole f fd) : FnOk P w K mg base CX0 1 f fd ["thing"] (spIsWhole K) := by
  refine F.ok scIsWhole (fun vs H Q E h => ?_) (fun cdv A outer s H vs Q E hr h => ?_)
  · obtain ⟨_, _, rfl, _⟩ := h
    rfl
  · obtain ⟨v, d, rfl, hd, q⟩ := h
    refine ⟨_, pss_one (ps_ret (pe_and (pe_callB call_isi (by rfl) mii PyProof.Rows.boot_isinstance (pa_cons (pv 0) (pa_cons (pe_bltn (v := .ty "int") (u := .type "int") (by rfl) mi (by decide +kernel) rfl) pa_nil)))
      (pe_one (pe_not (pe_callB call_isi (by rfl) mii PyProof.Rows.boot_isinstance (pa_cons (pv 0) (pa_cons (pe_bltn (v := .ty "bool") (u := .type "bool") (by rfl) mb (by decide +kernel) rfl) pa_nil))))))), ?_⟩
    refine ⟨_, rfl, v, .ty "int", _, _, _, rfl, .ty "int", hd.ty d v, kit_int d hd.nodict, _, rfl, ite2 (fun c => ?_) (fun c => ?_)⟩
    · refine ⟨_, rfl, v, .ty "bool", _, _, _, rfl, .ty "bool", hd.ty d v, kit_bool d hd.nodict, _, rfl, ?_⟩
      have e : (!isBool d) = isInt d := by
        cases d <;> first | rfl | cases c
      rw [e]
      exact q
    · have e : isInt d = false := by
        cases h : isInt d
        · rfl
        · rw [h] at c
          exact absurd rfl c
      rw [e] at q
      exact q
/-! ### is_index -/
def spIsIndex (K : PySem.W.Frag) : Sp := fun vs H Q _ => ∃ (v : V) (d : PyData) (n : Nat), vs = [v, .int (n : Nat)] ∧ DQ [] K H d v ∧ Q (.bl (isIndexD d n)) H
theorem scIsIndex : FnScope ["thing", "many"] ["thing", "many"] (defScope sIsIndex) := ⟨rfl, rfl, rfl, by decide +kernel, rfl, by decide +kernel, by decide +kernel⟩
theorem ok_isIndex {f fW : Addr} {fd fdW : FuncData} (mii : mg "isinstance" = none) (mi : mg "int" = none) (mb : mg "bool" = none) (F : Fun K "is_index" "is_index" sIsIndex f fd)
    (FW : Fun K "is_whole" "is_whole" sIsWhole fW fdW) (bW : Binds K fdW ["thing"] []) (gW : mg "is_whole" = some (.ref fW)) : FnOk P w K mg base CX0 2 f fd ["thing", "many"] (spIsIndex K) := by
  have GW : FnOk P w K mg base CX0 1 fW fdW ["thing"] (spIsWhole K) := ok_isWhole mii mi mb FW
  refine F.ok scIsIndex (fun vs H Q E h => ?_) (fun cdv A outer s H vs Q E hr h => ?_)
  · obtain ⟨_, _, _, rfl, _⟩ := h
    rfl
  · obtain ⟨v, d, n, rfl, hd, q⟩ := h
    refine ⟨_, pss_one (ps_ret (pe_and (pe_call GW hr (by rfl) gW FW.kp bW .nil pass0 (pa_cons (pv 0) pa_nil)) (pe_one (pe_chain op_le op_lt pe_int (pv 0) (pv 1))))), ?_⟩
    refine ⟨_, rfl, v, d, rfl, hd, _, rfl, ite2 (fun c => ?_) (fun c => ?_)⟩
    · obtain ⟨i, rfl⟩ : ∃ i, d = .int i := by
        cases d <;> first | exact ⟨_, rfl⟩ | cases c
      rw [DQ] at hd
      subst hd
      refine ⟨_, rfl, _, _, rfl, rfl, _, rfl, ite2 (fun c1 => ?_) (fun c1 => ?_)⟩
      · refine ⟨_, rfl, _, _, rfl, rfl, ?_⟩
        have e : isIndexD (.int i) n = decide (i < n) := by
          show (decide (0 ≤ i) && decide (i < n)) = _
          rw [c1, Bool.true_and]
        rw [e] at q
        exact q
      · have e : isIndexD (.int i) n = false := by
          show (decide (0 ≤ i) && decide (i < n)) = _
          rw [Bool.eq_false_iff.mpr c1, Bool.false_and]
        rw [e] at q
        exact q
    · have e : isIndexD d n = false := by
        cases d <;> first | rfl | exact absurd rfl c
      rw [e] at q
      exact q
/-! ### is_row -/
def spIsRow (K : PySem.W.Frag) : Sp := fun vs H Q _ => ∃ (v : V) (d : PyData) (n : Nat), vs = [v, .int (n : Nat)] ∧ DQ [] K H d v ∧ Q (.bl (isRowD d n)) H
theorem scIsRow : FnScope ["thing", "many"] ["thing", "many"] (defScope sIsRow) := ⟨rfl, rfl, rfl, by decide +kernel, rfl, by decide +kernel, by decide +kernel⟩
theorem dq_tup {H : Hp} {d : PyData} {v : V} (h : DQ [] K H d v) (c : isTup d = true) : ∃ ds a xs, d = .tuple ds ∧ v = .ref a ∧ SqT K H a xs ∧ DQs [] K H ds xs := by
  cases d with
  | tuple ds =>
    rw [DQ] at h
    obtain ⟨a, xs, e, hs, hq⟩ := h
    exact ⟨ds, a, xs, rfl, e, hs, hq⟩
  | _ => cases c
theorem ok_isRow {f : Addr} {fd : FuncData} (mii : mg "isinstance" = none) (mt : mg "tuple" = none) (ml : mg "len" = none) (F : Fun K "is_row" "is_row" sIsRow f fd) : FnOk P w K mg base CX0 1 f fd ["thing", "many"] (spIsRow K) := by
  refine F.ok scIsRow (fun vs H Q E h => ?_) (fun cdv A outer s H vs Q E hr h => ?_)
  · obtain ⟨_, _, _, rfl, _⟩ := h
    rfl
  · obtain ⟨v, d, n, rfl, hd, q⟩ := h
    refine ⟨_, pss_one (ps_ret (pe_and (pe_callB call_isi (by rfl) mii PyProof.Rows.boot_isinstance (pa_cons (pv 0) (pa_cons (pe_bltn (v := .ty "tuple") (u := .type "tuple") (by rfl) mt (by decide +kernel) rfl) pa_nil)))
      (pe_one (pe_cmpR op_eq (pe_callB call_len_seq (by rfl) ml PySem.boot_len (pa_cons (pv 0) pa_nil)) (pv 1) (nomark _))))), ?_⟩
    refine ⟨_, rfl, v, .ty "tuple", _, _, _, rfl, .ty "tuple", hd.ty d v, kit_tup d hd.nodict, _, rfl, ite2 (fun c => ?_) (fun c => ?_)⟩
    · obtain ⟨ds, a, xs, rfl, rfl, hs, hq⟩ := dq_tup hd c
      refine ⟨_, rfl, a, xs, rfl, .inr hs, _, rfl, rfl, ?_⟩
      have e : isRowD (.tuple ds) n = decide (V.int (xs.length : Nat) = V.int (n : Nat)) := by
        show decide (ds.length = n) = _
        rw [← hq.length]
        exact decide_eq_decide.mpr ⟨fun h => by rw [h], fun h => by have := V.int.inj h; omega⟩
      rw [e] at q
      exact q
    · have e : isRowD d n = false := by
        cases d <;> first | rfl | exact absurd rfl c
      rw [e] at q
      exact q
/-! ### is_value -/
def spIsValue : Sp := fun vs H Q _ => ∃ i : Int, vs = [.int i] ∧ Q (.bl (decide (-1000000 ≤ i ∧ i ≤ 1000000))) H
theorem scIsValue : FnScope ["number"] ["number"] (defScope sIsValue) := ⟨rfl, rfl, rfl, by decide +kernel, rfl, by decide +kernel, by decide +kernel⟩
theorem ok_isValue {f : Addr} {fd : FuncData} {tk : Tok} (mv : mg "MOST_VALUE" = some (.int 1000000 tk)) (F : Fun K "is_value" "is_value" sIsValue f fd) : FnOk P w K mg base CX0 1 f fd ["number"] spIsValue := by
  refine F.ok scIsValue (fun vs H Q E h => ?_) (fun cdv A outer s H vs Q E hr h => ?_)
  · obtain ⟨_, rfl, _⟩ := h
    rfl
  · obtain ⟨i, rfl, q⟩ := h
    refine ⟨_, pss_one (ps_ret (pe_chain op_le op_le (pe_un un_neg (pe_glob (v := .int 1000000) rfl mv ⟨_, rfl⟩)) (pv 0) (pe_glob (v := .int 1000000) rfl mv ⟨_, rfl⟩))), ?_⟩
    refine ⟨_, rfl, _, rfl, _, _, rfl, rfl, _, rfl, ite2 (fun c => ?_) (fun c => ?_)⟩
    · refine ⟨_, _, rfl, rfl, ?_⟩
      have e : decide (-1000000 ≤ i ∧ i ≤ 1000000) = decide (i ≤ 1000000) := by
        have h1 := of_decide_eq_true c
        simp [h1]
      rw [e] at q
      exact q
    · have e : decide (-1000000 ≤ i ∧ i ≤ 1000000) = false := decide_eq_false fun h => c (decide_eq_true h.1)
      rw [e] at q
      exact q
end
end K0
set_option Elab.async false
set_option linter.all false
set_option maxRecDepth 100000
set_option maxHeartbeats 4000000
namespace K0
open PySem PySem.Spec PyProof.Rows L2 Gx RZ
def isNameS (x : Str) : Bool := decide (1 ≤ x.length ∧ x.length ≤ 8) && x.cps.toList.all fun c => decide (97 ≤ c ∧ c ≤ 122)
def isNameD (d : PyData) : Bool :=
  match d with
  | .str x => isNameS x
  | _ => false
def isValueD (d : PyData) : Bool :=
  match d with
  | .int i => decide (-1000000 ≤ i ∧ i ≤ 1000000)
  | _ => false
def eqI (a b : PyData) : Bool :=
  match a, b with
  | .int i, .int j => decide (i = j)
  | _, _ => false
def isReadingD (d : PyData) (n : Nat) : Bool :=
  match d with
  | .tuple [s, e, v] => isIndexD s n && (isIndexD e n && (!eqI s e && isValueD v))
  | _ => false
section
variable {P : Program} {w : World} {K : PySem.W.Frag} {mg : Str → Option Value} {base : Heap}
theorem sign_lt {a b : Nat} : (!decide (([a] : List Nat) < [b])) = decide (b ≤ a) := by
  by_cases h : b ≤ a
  · rw [decide_eq_true h]
    simp [List.cons_lt_cons_iff]
    omega
  · rw [decide_eq_false h]
    simp [List.cons_lt_cons_iff]
    omega
/-! ### is_name -/
def spIsName (K : PySem.W.Frag) (T : Addr) : Sp := fun vs H Q _ => ∃ (v : V) (d : PyData), vs = [v] ∧ DQ [] K H d v ∧ (∀ x, d = .str x → x.length ≤ 1000) ∧ GxR.TabG H T ∧ ∀ H', Ext [] H H' → Q (.bl (isNameD d)) H'
abbrev nIsName : List Str := ["thing", "letter"]
theorem scIsName : FnScope nIsName ["thing"] (defScope sIsName) := ⟨rfl, rfl, rfl, by decide +kernel, rfl, by decide +kernel, by decide +kernel⟩
theorem ok_isName {f c T : Addr} {fd : FuncData} {tk : Tok} (mii : mg "isinstance" = none) (ms : mg "str" = none) (ml : mg "len" = none) (mal : mg "all" = none) (mv : mg "MOST_LETTERS" = some (.int 8 tk)) (F : FunT K "is_name" "is_name" sIsName f fd c) (TB : GxR.TabB base mg c T) :
    FnOk P w K mg base CX0 8 f fd ["thing"] (spIsName K T) := by
  have nd := scIsName.nd
  refine F.ok scIsName (fun vs H Q E h => ?_) (fun A outer s H vs Q E hr h => ?_)
  · obtain ⟨_, _, rfl, _⟩ := h
    rfl
  · obtain ⟨v, d, rfl, hd, hsh, hT, q⟩ := h
    refine ⟨_, pss_cons (ps_if (PW.pt (pw_or (pt_not (pt_val (pe_callB call_isi (by rfl) mii PyProof.Rows.boot_isinstance (pa_cons (pv 0) (pa_cons (pe_bltn (v := .ty "str") (u := .type "str") (by rfl) ms (by decide +kernel) rfl) pa_nil)))))
        (pw_or1 (pt_not (pt_chain op_le op_le pe_int (pe_callB call_len_str (by rfl) ml PySem.boot_len (pa_cons (pv 0) pa_nil)) (pe_glob (v := .int 8) rfl mv ⟨_, rfl⟩)))))) (pss_one (ps_ret pe_bl)) pss_nil)
      (pss_one (ps_ret (pe_all (k := 2) (psrc (k := 1) (own := [("letter", 1)]) (hr.mono (by decide)) rfl nd TB rfl (pi_str (pv 0)) (blkOk_by (N := nIsName) (sc := defScope sIsName) (by decide +kernel)) (by decide +kernel) rfl rfl
        (fun _ _ _ _ _ _ _ _ => pg_name (i := 1) nd rfl (.inl rfl)) (fun _ _ _ _ _ _ _ _ _ => pts_nil) (fun _ _ _ _ _ _ _ _ _ => pe_chain op_le_str op_le_str pe_str (pv 1) pe_str)) (hr.mono (by decide)) rfl mal))), ?_⟩
    refine ⟨_, rfl, v, .ty "str", _, _, _, rfl, .ty "str", hd.ty d v, kit_str d hd.nodict, _, rfl, ?_⟩
    refine ite2 (fun c0 => ?_) (fun c0 => ?_)
    · have e : isNameD d = false := by
        cases d <;> first | rfl | cases c0
      rw [e] at q
      exact iteT (q H .refl)
    · obtain ⟨x, rfl⟩ : ∃ x, d = .str x := by
        cases d <;> first | exact ⟨_, rfl⟩ | exact absurd rfl c0
      rw [DQ] at hd
      subst hd
      have hx := hsh x rfl
      refine ⟨_, rfl, x, rfl, by show _ ≤ 2 ^ 24; omega, _, _, rfl, rfl, _, rfl, ?_⟩
      have bad : ¬ (1 ≤ x.length ∧ x.length ≤ 8) → Q (.bl false) H := fun hb => by
        have e : isNameD (.str x) = false := by
          show (decide _ && _) = false
          rw [decide_eq_false hb, Bool.false_and]
        rw [e] at q
        exact q H .refl
      refine ite2 (fun c1 => ?_) (fun c1 => ?_)
      · refine ⟨_, _, rfl, rfl, _, rfl, ite2 (fun c2 => ?_) (fun c2 => ?_)⟩
        · exact bad fun z => by
            rw [decide_eq_true (show ((x.length : Nat) : Int) ≤ 8 by omega)] at c2
            cases c2
        · have hb : 1 ≤ x.length ∧ x.length ≤ 8 := by
            have h1 := of_decide_eq_true c1
            have h2 : ((x.length : Nat) : Int) ≤ 8 := by
              apply Classical.byContradiction
              intro z
              rw [decide_eq_false z] at c2
              exact c2 rfl
            omega
          have eN : isNameD (.str x) = x.cps.toList.all fun c => decide (97 ≤ c ∧ c ≤ 122) := by
            show (decide _ && _) = _
            rw [decide_eq_true hb, Bool.true_and]
          rw [eN] at q
          refine ⟨_, rfl, x, rfl, hT, fun H2 tb => ?_⟩
          have x2 : Ext [] H H2 := .tabbed hT tb
          refine by_n x.cps.size (fun i ys H3 => Ext [] H H3 ∧ ys = (x.cps.toList.take i).map fun c => V.bl (decide (97 ≤ c ∧ c ≤ 122))) ⟨x2, rfl⟩ (fun i ys H3 hi _ => hi) (fun ys H3 _ => Nat.le_refl _) (fun i ys H3 y H4 hi h3 hy => ?_) (fun ys H3 h3 => ?_)
          · obtain ⟨x3, rfl⟩ := h3
            obtain ⟨rfl, c, hc, rfl⟩ := hy
            have hil : i < x.cps.toList.length := by simpa using hi
            have ec : x.cps.toList[i] = c := by
              rw [Array.getElem_toList]
              exact (Array.getElem?_eq_some_iff.mp hc).2
            refine ⟨rfl, _, rfl, _, _, rfl, rfl, _, rfl, ?_⟩
            have done : ∀ b : Bool, b = decide (97 ≤ c ∧ c ≤ 122) → (kAll fun v H' => Q v H').mid ((x.cps.toList.take i).map fun c => V.bl (decide (97 ≤ c ∧ c ≤ 122))) (.bl b) H4 ∧ ((kAll fun v H' => Q v H').go (.bl b) → Ext [] H H4 ∧ (List.map (fun c => V.bl (decide (97 ≤ c ∧ c ≤ 122))) (x.cps.toList.take i)) ++ [V.bl b] = (x.cps.toList.take (i + 1)).map fun c => V.bl (decide (97 ≤ c ∧ c ≤ 122))) := fun b hb => by
              subst hb
              refine ⟨⟨_, rfl, fun hf _ => ?_⟩, fun _ => ⟨x3, ?_⟩⟩
              · have : (x.cps.toList.all fun c => decide (97 ≤ c ∧ c ≤ 122)) = false := by
                  rw [List.all_eq_false]
                  exact ⟨_, List.getElem_mem hil, by rw [ec, hf]; decide⟩
                rw [this] at q
                exact q _ x3
              · rw [← snoc (fun c => V.bl (decide (97 ≤ c ∧ c ≤ 122))) x.cps.toList hil, ec]
            have e1 : (!decide ((⟨#[c]⟩ : Str).cps.toList < ("a" : Str).cps.toList)) = decide (97 ≤ c) := sign_lt
            have e2 : (!decide (("z" : Str).cps.toList < (⟨#[c]⟩ : Str).cps.toList)) = decide (c ≤ 122) := sign_lt
            refine ite2 (fun k1 => ?_) (fun k1 => ?_)
            · rw [e1] at k1
              have h1 := of_decide_eq_true k1
              refine ⟨_, _, rfl, rfl, done _ ?_⟩
              rw [e2]
              exact decide_eq_decide.mpr ⟨fun h => ⟨h1, h⟩, fun h => h.2⟩
            · rw [e1] at k1
              exact done false (decide_eq_false fun h => k1 (decide_eq_true h.1)).symm
          · obtain ⟨x3, rfl⟩ := h3
            intro hall
            have : (x.cps.toList.all fun c => decide (97 ≤ c ∧ c ≤ 122)) = true := by
              rw [List.all_eq_true]
              intro c hc
              have lx : x.cps.size = x.cps.toList.length := by simp
              rw [lx, List.take_length] at hall
              have := hall _ (List.mem_map.mpr ⟨c, hc, rfl⟩)
              exact V.bl.inj this
            rw [this] at q
            exact q _ x3
      · refine ⟨_, rfl, iteT (bad fun z => c1 (decide_eq_true (by omega)))⟩
end
end K0
set_option Elab.async false
set_option linter.all false
set_option maxRecDepth 100000
set_option maxHeartbeats 4000000
namespace K0
open PySem PySem.Spec PyProof.Rows L2 Gx RZ
def areReadingsD (d : PyData) (n : Nat) : Bool :=
  match d with
  | .tuple ds => decide (ds.length ≤ 80) && ds.all fun x => isReadingD x n
  | _ => false
section
variable {P : Program} {w : World} {K : PySem.W.Frag} {mg : Str → Option Value} {base : Heap}
theorem three_of {H : Hp} {ds : List PyData} {xs : List V} (h : DQs [] K H ds xs) (l : ds.length = 3) : ∃ a b c u v w', ds = [a, b, c] ∧ xs = [u, v, w'] ∧ DQ [] K H a u ∧ DQ [] K H b v ∧ DQ [] K H c w' := by
  match ds, l, h with
  | [a, b, c], _, h =>
    rw [DQs] at h
    obtain ⟨u, us, rfl, h1, h⟩ := h
    rw [DQs] at h
    obtain ⟨v, vs, rfl, h2, h⟩ := h
    rw [DQs] at h
    obtain ⟨x, ws, rfl, h3, h⟩ := h
    rw [DQs] at h
    subst h
    exact ⟨a, b, c, u, v, x, rfl, rfl, h1, h2, h3⟩
theorem int_of {H : Hp} {d : PyData} {v : V} {n : Nat} (h : DQ [] K H d v) (c : isIndexD d n = true) : ∃ i : Int, d = .int i ∧ v = .int i := by
  cases d with
  | int i =>
    rw [DQ] at h
    exact ⟨i, rfl, h⟩
  | _ => cases c
/-! ### is_reading -/
def spIsReading (K : PySem.W.Frag) : Sp := fun vs H Q _ => ∃ (v : V) (d : PyData) (n : Nat), vs = [v, .int (n : Nat)] ∧ DQ [] K H d v ∧ Q (.bl (isReadingD d n)) H
abbrev nIsReading : List Str := ["thing", "many", "start", "end", "value"]
theorem scIsReading : FnScope nIsReading ["thing", "many"] (defScope sIsReading) := ⟨rfl, rfl, rfl, by decide +kernel, rfl, by decide +kernel, by decide +kernel⟩
theorem isReading_no {d : PyData} {n : Nat} (h : isRowD d 3 = false) : isReadingD d n = false := by
  match d, h with
  | .tuple [], _ => rfl
  | .tuple [_], _ => rfl
  | .tuple [_, _], _ => rfl
  | .tuple [_, _, _], h => cases h
  | .tuple (_ :: _ :: _ :: _ :: _), _ => rfl
  | .none, _ => rfl
  | .bool _, _ => rfl
  | .int _, _ => rfl
  | .str _, _ => rfl
  | .list _, _ => rfl
  | .dict _, _ => rfl
theorem ok_isReading {f fR fI fW fV : Addr} {fd fdR fdI fdW fdV : FuncData} {tk : Tok} (mii : mg "isinstance" = none) (mi : mg "int" = none) (mb : mg "bool" = none) (mt : mg "tuple" = none) (ml : mg "len" = none) (mv : mg "MOST_VALUE" = some (.int 1000000 tk)) (F : Fun K "is_reading" "is_reading" sIsReading f fd)
    (FR : Fun K "is_row" "is_row" sIsRow fR fdR) (bR : Binds K fdR ["thing", "many"] []) (gR : mg "is_row" = some (.ref fR)) (FI : Fun K "is_index" "is_index" sIsIndex fI fdI) (bI : Binds K fdI ["thing", "many"] []) (gI : mg "is_index" = some (.ref fI))
    (FW : Fun K "is_whole" "is_whole" sIsWhole fW fdW) (bW : Binds K fdW ["thing"] []) (gW : mg "is_whole" = some (.ref fW)) (FV : Fun K "is_value" "is_value" sIsValue fV fdV) (bV : Binds K fdV ["number"] []) (gV : mg "is_value" = some (.ref fV)) :
    FnOk P w K mg base CX0 3 f fd ["thing", "many"] (spIsReading K) := by
  have nd := scIsReading.nd
  have GW : FnOk P w K mg base CX0 1 fW fdW ["thing"] (spIsWhole K) := ok_isWhole mii mi mb FW
  have GR : FnOk P w K mg base CX0 1 fR fdR ["thing", "many"] (spIsRow K) := ok_isRow mii mt ml FR
  have GI : FnOk P w K mg base CX0 2 fI fdI ["thing", "many"] (spIsIndex K) := ok_isIndex mii mi mb FI FW bW gW
  have GV : FnOk P w K mg base CX0 1 fV fdV ["number"] spIsValue := ok_isValue mv FV
  refine F.ok scIsReading (fun vs H Q E h => ?_) (fun cdv A outer s H vs Q E hr h => ?_)
  · obtain ⟨_, _, _, rfl, _⟩ := h
    rfl
  · obtain ⟨v, d, n, rfl, hd, q⟩ := h
    have hr1 := hr.mono (show 1 ≤ 2 by decide)
    refine ⟨_, pss_cons (ps_if (pt_not (pt_val (pe_call GR hr1 (by rfl) gR FR.kp bR .nil pass0 (pa_cons (pv 0) (pa_cons pe_int pa_nil))))) (pss_one (ps_ret pe_bl)) pss_nil)
      (pss_cons (ps_asg (pv 0) (pg_tup rfl (pgs_cons (pg_name (i := 2) nd rfl (.inl rfl)) (pgs_cons (pg_name (i := 3) nd rfl (.inl rfl)) (pgs_cons (pg_name (i := 4) nd rfl (.inl rfl)) pgs_nil)))))
      (pss_cons (ps_if (PW.pt (pw_or (pt_not (pt_val (pe_call GI hr (by rfl) gI FI.kp bI .nil pass0 (pa_cons (pv 2) (pa_cons (pv 1) pa_nil))))) (pw_or (pt_not (pt_val (pe_call GI hr (by rfl) gI FI.kp bI .nil pass0 (pa_cons (pv 3) (pa_cons (pv 1) pa_nil)))))
          (pw_or1 (pt_cmpR op_eq (pv 2) (pv 3) (nomark _)))))) (pss_one (ps_ret pe_bl)) pss_nil)
      (pss_one (ps_ret (pe_and (pe_call GW hr1 (by rfl) gW FW.kp bW .nil pass0 (pa_cons (pv 4) pa_nil)) (pe_one (pe_call GV hr1 (by rfl) gV FV.kp bV .nil pass0 (pa_cons (pv 4) pa_nil)))))))), ?_⟩
    refine ⟨_, rfl, v, d, 3, rfl, hd, _, rfl, ite2 (fun c0 => ?_) (fun c0 => ?_)⟩
    · have e : isRowD d 3 = false := by
        cases h : isRowD d 3
        · rfl
        · rw [h] at c0
          cases c0
      rw [isReading_no e] at q
      exact q
    · have hrow : isRowD d 3 = true := by
        cases h : isRowD d 3
        · rw [h] at c0
          exact absurd rfl c0
        · rfl
      obtain ⟨ds, a, xs, rfl, rfl, hs, hq⟩ := dq_tup hd (by cases d <;> first | rfl | cases hrow)
      obtain ⟨s1, e1, v1, u1, u2, u3, rfl, rfl, h1, h2, h3⟩ := three_of hq (of_decide_eq_true hrow)
      have eR : isReadingD (.tuple [s1, e1, v1]) n = (isIndexD s1 n && (isIndexD e1 n && (!eqI s1 e1 && isValueD v1))) := rfl
      rw [eR] at q
      refine ⟨_, rfl, a, _, rfl, hs, rfl, _, _, rfl, _, _, rfl, _, _, rfl, rfl, ?_⟩
      refine ⟨_, rfl, _, rfl, u1, s1, n, rfl, h1, _, rfl, ?_⟩
      cases i1 : isIndexD s1 n
      · rw [i1, Bool.false_and] at q
        exact iteT q
      rw [i1, Bool.true_and] at q
      refine iteF ⟨_, rfl, _, rfl, u2, e1, n, rfl, h2, _, rfl, ?_⟩
      cases i2 : isIndexD e1 n
      · rw [i2, Bool.false_and] at q
        exact iteT q
      rw [i2, Bool.true_and] at q
      obtain ⟨i, rfl, rfl⟩ := int_of h1 i1
      obtain ⟨j, rfl, rfl⟩ := int_of h2 i2
      refine iteF ⟨_, rfl, _, rfl, rfl, _, rfl, ite2 (fun c1 => ?_) (fun c1 => ?_)⟩
      · have : i = j := V.int.inj (of_decide_eq_true c1)
        have e : eqI (.int i) (.int j) = true := decide_eq_true this
        rw [e, Bool.not_true, Bool.false_and] at q
        exact q
      · have e : eqI (.int i) (.int j) = false := decide_eq_false fun z => c1 (decide_eq_true (by rw [z]))
        rw [e, Bool.not_false, Bool.true_and] at q
        refine ⟨_, rfl, u3, v1, rfl, h3, _, rfl, ite2 (fun c2 => ?_) (fun c2 => ?_)⟩
        · obtain ⟨m, rfl⟩ : ∃ m, v1 = .int m := by
            cases v1 <;> first | exact ⟨_, rfl⟩ | cases c2
          rw [DQ] at h3
          subst h3
          exact ⟨_, rfl, m, rfl, q⟩
        · have e : isValueD v1 = false := by
            cases v1 <;> first | rfl | exact absurd rfl c2
          rw [e] at q
          exact q
/-! ### are_readings -/
def spAreReadings (K : PySem.W.Frag) (T : Addr) : Sp := fun vs H Q _ => ∃ (v : V) (d : PyData) (n : Nat), vs = [v, .int (n : Nat)] ∧ DQ [] K H d v ∧ GxR.TabG H T ∧ ∀ H', Ext [] H H' → Q (.bl (areReadingsD d n)) H'
abbrev nAreReadings : List Str := ["thing", "many", "reading"]
theorem scAreReadings : FnScope nAreReadings ["thing", "many"] (defScope sAreReadings) := ⟨rfl, rfl, rfl, by decide +kernel, rfl, by decide +kernel, by decide +kernel⟩
theorem ok_areReadings {f c T fG : Addr} {fd fdG : FuncData} {tk : Tok} (mii : mg "isinstance" = none) (mt : mg "tuple" = none) (ml : mg "len" = none) (mal : mg "all" = none) (mv : mg "MOST_READINGS" = some (.int 80 tk)) (F : FunT K "are_readings" "are_readings" sAreReadings f fd c) (TB : GxR.TabB base mg c T)
    (GG : FnOk P w K mg base CX0 3 fG fdG ["thing", "many"] (spIsReading K)) (kG : PySem.W.keepIn K (.ref fG) = true) (bG : Binds K fdG ["thing", "many"] []) (gG : mg "is_reading" = some (.ref fG)) :
    FnOk P w K mg base CX0 8 f fd ["thing", "many"] (spAreReadings K T) := by
  have nd := scAreReadings.nd
  refine F.ok scAreReadings (fun vs H Q E h => ?_) (fun A outer s H vs Q E hr h => ?_)
  · obtain ⟨_, _, _, rfl, _⟩ := h
    rfl
  · obtain ⟨v, d, n, rfl, hd, hT, q⟩ := h
    refine ⟨_, pss_cons (ps_if (PW.pt (pw_or (pt_not (pt_val (pe_callB call_isi (by rfl) mii PyProof.Rows.boot_isinstance (pa_cons (pv 0) (pa_cons (pe_bltn (v := .ty "tuple") (u := .type "tuple") (by rfl) mt (by decide +kernel) rfl) pa_nil)))))
        (pw_or1 (pt_cmpR op_gt (pe_callB call_len_seq (by rfl) ml PySem.boot_len (pa_cons (pv 0) pa_nil)) (pe_glob (v := .int 80) rfl mv ⟨_, rfl⟩) (nomark _))))) (pss_one (ps_ret pe_bl)) pss_nil)
      (pss_one (ps_ret (pe_all (k := 4) (psrc (k := 3) (own := [("reading", 2)]) (hr.mono (by decide)) rfl nd TB rfl (pi_tup (pv 0)) (blkOk_by (N := nAreReadings) (sc := defScope sAreReadings) (by decide +kernel)) (by decide +kernel) rfl rfl
        (fun _ _ _ _ _ _ _ _ => pg_name (i := 2) nd rfl (.inl rfl)) (fun _ _ _ _ _ _ _ _ _ => pts_nil) (fun _ _ _ _ _ _ _ _ hr' => pe_call GG (hr'.mono (by decide)) (by rfl) gG kG bG .nil pass0 (pa_cons (pv 2) (pa_cons (pv 1) pa_nil)))) (hr.mono (by decide)) rfl mal))), ?_⟩
    refine ⟨_, rfl, v, .ty "tuple", _, _, _, rfl, .ty "tuple", hd.ty d v, kit_tup d hd.nodict, _, rfl, ite2 (fun c0 => ?_) (fun c0 => ?_)⟩
    · have e : areReadingsD d n = false := by
        cases d <;> first | rfl | cases c0
      rw [e] at q
      exact iteT (q H .refl)
    · obtain ⟨ds, a, xs, rfl, rfl, hs, hq⟩ := dq_tup hd (by cases d <;> first | rfl | exact absurd rfl c0)
      have hl := hq.length
      refine ⟨_, rfl, a, xs, rfl, .inr hs, _, _, rfl, rfl, _, rfl, ite2 (fun c1 => ?_) (fun c1 => ?_)⟩
      · have h1 := of_decide_eq_true c1
        have e : areReadingsD (.tuple ds) n = false := by
          show (decide _ && _) = false
          rw [decide_eq_false (by omega), Bool.false_and]
        rw [e] at q
        exact q H .refl
      · have h1 : ds.length ≤ 80 := by
          apply Classical.byContradiction
          intro z
          exact c1 (decide_eq_true (by omega))
        have e : areReadingsD (.tuple ds) n = ds.all fun x => isReadingD x n := by
          show (decide _ && _) = _
          rw [decide_eq_true h1, Bool.true_and]
        rw [e] at q
        refine ⟨_, rfl, a, rfl, ⟨_, hs⟩, hT, fun H2 tb => ?_⟩
        have x2 : Ext [] H H2 := .tabbed hT tb
        refine by_tup (fun i ys H3 => Ext [] H H3 ∧ ys = (ds.take i).map fun x => V.bl (isReadingD x n)) ⟨x2, rfl⟩ (fun i ys H3 h3 => h3.1.sqT hs) (fun i y ys H3 hy h3 => ?_) (fun ys H3 h3 => ?_)
        · obtain ⟨x3, rfl⟩ := h3
          obtain ⟨dy, hdy, hqy⟩ := hq.at_ hy
          obtain ⟨hi, ei⟩ := List.getElem?_eq_some_iff.mp hdy
          refine ⟨rfl, _, rfl, _, rfl, y, dy, n, rfl, hqy.ext x3, ⟨_, rfl, fun hf _ => ?_⟩, fun _ => ⟨x3, ?_⟩⟩
          · have : (ds.all fun x => isReadingD x n) = false := by
              rw [List.all_eq_false]
              exact ⟨_, List.getElem_mem hi, by rw [ei, hf]; decide⟩
            rw [this] at q
            exact q _ x3
          · rw [← snoc (fun x => V.bl (isReadingD x n)) ds hi, ei]
        · obtain ⟨x3, rfl⟩ := h3
          intro hall
          have : (ds.all fun x => isReadingD x n) = true := by
            rw [List.all_eq_true]
            intro x hx
            rw [hl, List.take_length] at hall
            exact V.bl.inj (hall _ (List.mem_map.mpr ⟨x, hx, rfl⟩))
          rw [this] at q
          exact q _ x3
end
end K0
set_option Elab.async false
set_option linter.all false
set_option maxRecDepth 100000
set_option maxHeartbeats 4000000
namespace Gx
open PySem PySem.Spec PyProof.Rows L2 RZ
/-! ### for loops by a bound, over anything -/
theorem for_n {J : It} {g : TG} {tb : TS} {D : Ends} {σ : L2.St} {H : Hp} (n : Nat) (Pv : Nat → L2.St → Hp → Prop) (h0 : Pv 0 σ H) (hgo : ∀ i σ H, i < n → Pv i σ H → J.go i H) (hstop : ∀ σ H, Pv n σ H → J.stop n H)
    (hs : ∀ i σ H x H', i < n → Pv i σ H → J.yld i H x H' → g x σ H' fun σ2 H2 => tb { D with nx := Pv (i + 1), ct := Pv (i + 1), bk := D.nx } σ2 H2) (hd : ∀ σ H, Pv n σ H → D.nx σ H) :
    ∃ W : Nat → Nat → L2.St → Hp → Prop, (∃ m, W 0 m σ H) ∧ ∀ i m σ H, W i m σ H →
      (J.stop i H ∧ D.nx σ H) ∨ (J.go i H ∧ ∃ N : L2.St → Hp → Prop, (∀ σ' H', N σ' H' → ∃ m', m' < m ∧ W (i + 1) m' σ' H') ∧ ∀ x H', J.yld i H x H' → g x σ H' fun σ2 H2 => tb { D with nx := N, ct := N, bk := D.nx } σ2 H2) := by
  refine ⟨fun i m σ H => m = n - i ∧ i ≤ n ∧ Pv i σ H, ⟨n, rfl, Nat.zero_le _, h0⟩, ?_⟩
  rintro i m σ H ⟨rfl, hi, p⟩
  by_cases hlt : i < n
  · exact .inr ⟨hgo i σ H hlt p, Pv (i + 1), fun σ' H' p' => ⟨n - (i + 1), by omega, rfl, hlt, p'⟩, fun x H' y => hs i σ H x H' hlt p y⟩
  · have e : i = n := by omega
    subst e
    exact .inl ⟨hstop σ H p, hd σ H p⟩
theorem for_enumT {Kf : PySem.W.Frag} {a : Addr} {xs : List V} {g : TG} {tb : TS} {D : Ends} {σ : L2.St} {H : Hp} (Pv : Nat → L2.St → Hp → Prop) (h0 : Pv 0 σ H) (hl : ∀ i σ H, Pv i σ H → SqT Kf H a xs)
    (hs : ∀ i x T σ H, xs[i]? = some x → Pv i σ H → H T = none → g (.ref T) σ (upd H T (.tup [.int (i : Nat), x])) fun σ2 H2 => tb { D with nx := Pv (i + 1), ct := Pv (i + 1), bk := D.nx } σ2 H2) (hd : ∀ σ H, Pv xs.length σ H → D.nx σ H) :
    ∃ W : Nat → Nat → L2.St → Hp → Prop, (∃ m, W 0 m σ H) ∧ ∀ i m σ H, W i m σ H →
      ((IteT Kf a).stop i H ∧ D.nx σ H) ∨ ((IteT Kf a).go i H ∧ ∃ N : L2.St → Hp → Prop, (∀ σ' H', N σ' H' → ∃ m', m' < m ∧ W (i + 1) m' σ' H') ∧ ∀ x H', (IteT Kf a).yld i H x H' → g x σ H' fun σ2 H2 => tb { D with nx := N, ct := N, bk := D.nx } σ2 H2) :=
  for_n xs.length Pv h0 (fun i σ H hi p => ⟨xs, xs[i], hl i σ H p, List.getElem?_eq_getElem hi⟩) (fun σ H p => ⟨xs, hl _ σ H p, Nat.le_refl _⟩)
    (fun i σ H v H' hi p y => by obtain ⟨T, x, rfl, hT, rfl, f⟩ := y; exact hs i x T σ _ (f xs (hl i σ _ p)) p hT) hd
/-! ### steps from the marks -/
abbrev StepM := Nat × Int × Nat
def stepAt (i : Nat) (r : Rd3) (m : Nat) : List StepM := if r.1 = m then [(i, 1, r.2.1)] else if r.2.1 = m then [(i, -1, r.1)] else []
def adjT (rs : List Rd3) : Nat → Nat → List StepM
  | 0, _ => []
  | k + 1, m => adjT rs k m ++ stepAt k (rs.getD k (0, 0, 0)) m
theorem adjT_length (rs : List Rd3) (m : Nat) : ∀ k, (adjT rs k m).length ≤ k
  | 0 => Nat.le_refl _
  | k + 1 => by
    have ih := adjT_length rs m k
    unfold adjT
    rw [List.length_append]
    have : (stepAt k (rs.getD k (0, 0, 0)) m).length ≤ 1 := by
      unfold stepAt
      split
      · exact Nat.le_refl _
      · split
        · exact Nat.le_refl _
        · exact Nat.zero_le _
    omega
def StepsAt (K : PySem.W.Frag) (H : Hp) (a : Addr) (l : List StepM) : Prop := ∃ vs, H a = some (.lst vs) ∧ vs.length = l.length ∧ ∀ (j : Nat) (st : StepM), l[j]? = some st → ∃ t, vs[j]? = some (.ref t) ∧ SqT K H t [.int st.1, .int st.2.1, .int st.2.2]
def NearAt (K : PySem.W.Frag) (H : Hp) (np : Addr) (n : Nat) (adj : Nat → List StepM) : Prop := ∃ ads : List Addr, H np = some (.lst (ads.map V.ref)) ∧ ads.length = n ∧ ∀ m a, ads[m]? = some a → StepsAt K H a (adj m)
section
variable {K : PySem.W.Frag} {H H1 : Hp} {c : List Addr}
theorem StepsAt.ext {a : Addr} {l : List StepM} (h : StepsAt K H a l) (x : Ext c H H1) (ha : a ∉ c) : StepsAt K H1 a l := by
  obtain ⟨vs, h1, h2, h3⟩ := h
  exact ⟨vs, x.lst h1 ha, h2, fun j st e => let ⟨t, e1, e2⟩ := h3 j st e; ⟨t, e1, x.sqT e2⟩⟩
theorem NearAt.ext {np : Addr} {n : Nat} {adj : Nat → List StepM} (h : NearAt K H np n adj) (x : Ext [] H H1) : NearAt K H1 np n adj := by
  obtain ⟨ads, h1, h2, h3⟩ := h
  exact ⟨ads, x.lst h1 (by simp), h2, fun m a e => (h3 m a e).ext x (by simp)⟩
/-- a step more at a -/
theorem StepsAt.push {H0 : Hp} {a t : Addr} {l : List StepM} {vs : List V} {st : StepM} (x : Ext [] H0 H) (h0 : H0 a = none) (h1 : H a = some (.lst vs)) (h2 : vs.length = l.length) (h3 : ∀ (j : Nat) (st : StepM), l[j]? = some st → ∃ t, vs[j]? = some (.ref t) ∧ SqT K H t [.int st.1, .int st.2.1, .int st.2.2])
    (ht : SqT K H t [.int st.1, .int st.2.1, .int st.2.2]) : StepsAt K (upd H a (.lst (vs ++ [.ref t]))) a (l ++ [st]) := by
  have xo : Ext [a] H (upd H a (.lst (vs ++ [.ref t]))) := .set (List.mem_singleton.mpr rfl) h1
  refine ⟨_, upd_same, by rw [List.length_append, List.length_append, h2]; rfl, fun j s e => ?_⟩
  by_cases hj : j < l.length
  · rw [List.getElem?_append_left hj] at e
    obtain ⟨t', e1, e2⟩ := h3 j s e
    exact ⟨t', by rw [List.getElem?_append_left (by omega)]; exact e1, xo.sqT e2⟩
  · rw [List.getElem?_append_right (by omega)] at e
    have hj0 : j - l.length = 0 := by
      cases h : j - l.length with
      | zero => rfl
      | succ k => rw [h] at e; cases e
    rw [hj0] at e
    cases e
    refine ⟨t, ?_, xo.sqT ht⟩
    rw [List.getElem?_append_right (by omega), h2, hj0]
    rfl
end
end Gx
set_option Elab.async false
set_option linter.all false
set_option maxRecDepth 100000
set_option maxHeartbeats 4000000
namespace K0
open PySem PySem.Spec PyProof.Rows L2 Gx RZ
section
variable {P : Program} {w : World} {K : PySem.W.Frag} {mg : Str → Option Value} {base : Heap}
/-! ### neighbours -/
/-- the list of lists while it is made -/
structure Near (K : PySem.W.Frag) (H0 H : Hp) (np : Addr) (ads : List Addr) (adj : Nat → List StepM) : Prop where
  x : Ext [] H0 H
  new : H0 np = none
  lst : H np = some (.lst (ads.map V.ref))
  nod : ads.Nodup
  npn : np ∉ ads
  anew : ∀ a ∈ ads, H0 a = none
  at_ : ∀ m a, ads[m]? = some a → StepsAt K H a (adj m)
theorem Near.near {H0 H : Hp} {np : Addr} {ads : List Addr} {adj : Nat → List StepM} (N : Near K H0 H np ads adj) : NearAt K H np ads.length adj := ⟨ads, N.lst, rfl, N.at_⟩
theorem Near.ext {H0 H H1 : Hp} {np : Addr} {ads : List Addr} {adj : Nat → List StepM} (N : Near K H0 H np ads adj) (x : Ext [] H H1) : Near K H0 H1 np ads adj :=
  ⟨N.x.trans x, N.new, x.lst N.lst (by simp), N.nod, N.npn, N.anew, fun m a e => (N.at_ m a e).ext x (by simp)⟩
/-- one more empty list -/
theorem Near.more {H0 H : Hp} {np a : Addr} {ads : List Addr} (N : Near K H0 H np ads fun _ => []) (ha : H a = none) : Near K H0 (upd (upd H a (.lst [])) np (.lst (ads.map V.ref ++ [.ref a]))) np (ads ++ [a]) fun _ => [] := by
  have nan : np ≠ a := ne_of_none N.lst ha
  have e1 : (upd H a (.lst [])) np = some (.lst (ads.map V.ref)) := by rw [upd_ne nan]; exact N.lst
  have x1 : Ext [] H0 (upd H a (.lst [])) := N.x.trans (.new ha)
  have anew : a ∉ ads := fun h => by
    obtain ⟨m, hm, e⟩ := List.getElem_of_mem h
    obtain ⟨vs, hv, _⟩ := N.at_ m a (by rw [List.getElem?_eq_getElem hm, e])
    rw [ha] at hv
    cases hv
  refine ⟨x1.own N.new e1, N.new, by rw [upd_same, List.map_append]; rfl, ?_, ?_, ?_, fun m b e => ?_⟩
  · rw [List.nodup_append]
    refine ⟨N.nod, by simp, fun b hb d hd => ?_⟩
    rw [List.mem_singleton.mp hd]
    exact fun z => anew (z ▸ hb)
  · intro h
    rcases List.mem_append.mp h with h | h
    · exact N.npn h
    · exact nan (List.mem_singleton.mp h)
  · intro b hb
    rcases List.mem_append.mp hb with hb | hb
    · exact N.anew b hb
    · rw [List.mem_singleton.mp hb]
      exact N.x.dom a ha
  · by_cases hm : m < ads.length
    · rw [List.getElem?_append_left hm] at e
      obtain ⟨vs, h1, h2, h3⟩ := N.at_ m b e
      have nb : b ≠ np := fun z => N.npn (z ▸ List.mem_of_getElem? e)
      have nba : b ≠ a := ne_of_none h1 ha
      cases vs with
      | nil => exact ⟨[], by rw [upd_ne nb, upd_ne nba]; exact h1, rfl, fun j st z => by cases z⟩
      | cons v vs => simp at h2
    · have hb : b = a := by
        rw [List.getElem?_append_right (by omega)] at e
        cases h : m - ads.length with
        | zero => rw [h] at e; cases e; rfl
        | succ k => rw [h] at e; cases e
      subst hb
      exact ⟨[], by rw [upd_ne nan.symm]; exact upd_same, rfl, fun j st z => by cases z⟩
/-- a step more from mark m -/
theorem Near.step {H0 H : Hp} {np t a : Addr} {ads : List Addr} {adj : Nat → List StepM} {m : Nat} {st : StepM} {vs : List V} (N : Near K H0 H np ads adj) (hm : ads[m]? = some a) (hv : H a = some (.lst vs)) (ht : SqT K H t [.int st.1, .int st.2.1, .int st.2.2]) :
    Near K H0 (upd H a (.lst (vs ++ [.ref t]))) np ads fun k => if k = m then adj k ++ [st] else adj k := by
  have hma := List.mem_of_getElem? hm
  have nan : np ≠ a := fun z => N.npn (z ▸ hma)
  have xs : Ext [a] H (upd H a (.lst (vs ++ [.ref t]))) := .set (List.mem_singleton.mpr rfl) hv
  refine ⟨N.x.own (N.anew a hma) hv, N.new, by rw [upd_ne nan]; exact N.lst, N.nod, N.npn, N.anew, fun k b e => ?_⟩
  by_cases hk : k = m
  · subst hk
    rw [if_pos rfl]
    obtain rfl : a = b := Option.some.inj (hm.symm.trans e)
    obtain ⟨vs', h1, h2, h3⟩ := N.at_ k a e
    obtain rfl : vs' = vs := HO.lst.inj (Option.some.inj (h1.symm.trans hv))
    exact StepsAt.push N.x (N.anew a hma) hv h2 h3 ht
  · rw [if_neg hk]
    refine (N.at_ k b e).ext xs ?_
    rw [List.mem_singleton]
    intro z
    subst z
    have h1 := List.getElem?_eq_some_iff.mp e
    have h2 := List.getElem?_eq_some_iff.mp hm
    obtain ⟨l1, z1⟩ := h1
    obtain ⟨l2, z2⟩ := h2
    rcases Nat.lt_trichotomy k m with h | h | h
    · exact List.pairwise_iff_getElem.mp N.nod k m l1 l2 h (z1.trans z2.symm)
    · exact hk h
    · exact List.pairwise_iff_getElem.mp N.nod m k l2 l1 h (z2.trans z1.symm)
def spNeighO (K : PySem.W.Frag) : Sp := fun vs H Q _ => ∃ (rp cp : Addr) (n : Nat) (rs : List Rd3), vs = [.int (n : Nat), .ref rp, .ref cp] ∧ SqT K H cp ((List.range rs.length).map fun i => V.int (i : Nat)) ∧ RdsAt K H rp rs ∧ Gx.Good n rs ∧ n ≤ 1000 ∧ rs.length ≤ 1000 ∧
  ∀ np H', Ext [] H H' → H np = none → NearAt K H' np n (adjT rs rs.length) → Q (.ref np) H'
def spNeigh (K : PySem.W.Frag) : Sp := fun vs H Q _ => ∃ (rp : Addr) (n : Nat) (rs : List Rd3), vs = [.int (n : Nat), .ref rp] ∧ RdsAt K H rp rs ∧ Gx.Good n rs ∧ n ≤ 1000 ∧ rs.length ≤ 1000 ∧
  ∀ np H', Ext [] H H' → H np = none → NearAt K H' np n (adjT rs rs.length) → Q (.ref np) H'
abbrev nNeighO : List Str := ["many", "readings", "chosen", "near", "index", "start", "end", "_"]
theorem scNeighO : FnScope nNeighO ["many", "readings", "chosen"] (defScope sNeighboursOver) := ⟨rfl, rfl, rfl, by decide +kernel, rfl, by decide +kernel, by decide +kernel⟩
theorem ok_neighO {f : Addr} {fd : FuncData} (mr : mg "range" = none) (F : Fun K "neighbours_over" "neighbours_over" sNeighboursOver f fd) : FnOk P w K mg base CX0 2 f fd ["many", "readings", "chosen"] (spNeighO K) := by
  have nd := scNeighO.nd
  refine F.ok scNeighO (fun vs H Q E h => ?_) (fun cdv A outer s H vs Q E hr h => ?_)
  · obtain ⟨_, _, _, _, rfl, _⟩ := h
    rfl
  · obtain ⟨rp, cp, n, rs, rfl, hcp, ⟨vs, n3, n4, n5⟩, hgood, hn, hlen, q⟩ := h
    refine ⟨_, pss_cons (ps_setLc (i := 3) (own := [("_", 7)]) (g := gName 7) rfl nd rfl rfl (sw_true rfl rfl rfl (by decide +kernel)) (pi_range1 (by rfl) mr (pa_cons (pv 0) pa_nil)) (blkOk_by (N := nNeighO) (sc := defScope sNeighboursOver) (by decide +kernel))
          (fun _ _ _ _ _ => pg_name (i := 7) nd rfl (.inl rfl)) (fun _ _ _ _ _ => pts_nil) (fun _ _ _ _ _ => pe_lst pa_nil))
      (pss_cons (ps_for PassesOwn.never rfl (pi_tup (pv 2)) (pg_name (i := 4) nd rfl (.inl rfl))
        (pss_cons (ps_asg (pe_ix ix_tup (pv 1) (pv 4) (fun _ _ => rfl)) (pg_tup rfl (pgs_cons (pg_name (i := 5) nd rfl (.inl rfl)) (pgs_cons (pg_name (i := 6) nd rfl (.inl rfl)) (pgs_cons (pg_name (i := 7) nd rfl (.inl rfl)) pgs_nil)))))
        (pss_cons (ps_expr (pe_bm PySem.F.plainAttrs_list PySem.F.slot_list_append PySem.F.type_list_append mt_append (pe_ix ix_list (pv 3) (pv 5) (fun _ _ => rfl)) (pa_cons (pe_tup (pa_cons (pv 4) (pa_cons pe_int (pa_cons (pv 6) pa_nil)))) pa_nil)))
        (pss_one (ps_expr (pe_bm PySem.F.plainAttrs_list PySem.F.slot_list_append PySem.F.type_list_append mt_append (pe_ix ix_list (pv 3) (pv 6) (fun _ _ => rfl)) (pa_cons (pe_tup (pa_cons (pv 4) (pa_cons (pe_un un_neg pe_int) (pa_cons (pv 5) pa_nil)))) pa_nil)))))))
      (pss_one (ps_ret (pv 3)))), ?_⟩
    refine ⟨_, rfl, (n : Nat), rfl, by omega, by omega, fun D hD => ?_⟩
    rw [Int.toNat_natCast]
    refine lc_range (fun j H2 => ∃ ads, ads.length = j ∧ Near K H H2 D ads fun _ => []) ⟨[], rfl, ⟨.new hD, hD, upd_same, .nil, by simp, (fun a h => by cases h), fun m a e => by cases e⟩⟩ (fun j H2 hj h2 => ?_) (fun H2 h2 => ?_)
    · obtain ⟨ads, hl, N⟩ := h2
      refine ⟨rfl, by decide, fun e he => ⟨ads.map V.ref, by rw [upd_ne (ne_of_none N.lst he)]; exact N.lst, by rw [List.length_map, hl]; exact small1000 (by omega), ads ++ [e], by rw [List.length_append, hl]; rfl, N.more he⟩⟩
    · obtain ⟨ads, hl, N⟩ := h2
      refine ⟨_, rfl, cp, rfl, ⟨_, N.x.sqT hcp⟩, ?_⟩
      refine for_tup (xs := (List.range rs.length).map fun i => V.int (i : Nat)) (fun i σ H3 => ∃ y4 y5 y6 y7, σ = [some (.int (n : Nat)), some (.ref rp), some (.ref cp), some (.ref D), y4, y5, y6, y7] ∧ Near K H H3 D ads (adjT rs i)) ⟨_, _, _, _, rfl, N⟩ (fun i σ H3 _ h3 => ?_) (fun i v σ H3 hv h3 => ?_) (fun σ H3 h3 => ?_)
      · obtain ⟨_, _, _, _, _, N3⟩ := h3
        exact N3.x.sqT hcp
      · obtain ⟨y4, y5, y6, y7, rfl, N4⟩ := h3
        have hi : i < rs.length := by
          have := (List.getElem?_eq_some_iff.mp hv).1
          rwa [List.length_map, List.length_range] at this
        have hvi : v = .int (i : Nat) := by
          rw [List.getElem?_map, List.getElem?_range hi] at hv
          exact (Option.some.inj hv).symm
        subst hvi
        obtain ⟨v', e1, rp', rfl, e2⟩ := n5 i rs[i] (List.getElem?_eq_getElem hi)
        obtain ⟨g1, g2, g3⟩ := hgood _ (List.getElem_mem hi)
        refine ⟨_, rfl, _, rfl, rp, _, _, _, rfl, rfl, N4.x.sqT n3, atI_nat e1, ?_⟩
        refine ⟨rp', _, rfl, N4.x.sqT e2, rfl, _, _, rfl, _, _, rfl, _, _, rfl, rfl, ?_⟩
        -- from the start
        have l1 : rs[i].1 < ads.length := by omega
        have l2 : rs[i].2.1 < ads.length := by omega
        have a1 : (ads.map V.ref)[rs[i].1]? = some (.ref ads[rs[i].1]) := by rw [List.getElem?_map, List.getElem?_eq_getElem l1]; rfl
        have a2 : (ads.map V.ref)[rs[i].2.1]? = some (.ref ads[rs[i].2.1]) := by rw [List.getElem?_map, List.getElem?_eq_getElem l2]; rfl
        obtain ⟨ws, w1, w2, _⟩ := N4.at_ _ _ (List.getElem?_eq_getElem l1)
        have hw1 : ws.length ≤ 1000 := by
          rw [w2]
          have := adjT_length rs rs[i].1 i
          omega
        refine ⟨_, rfl, _, rfl, D, _, _, _, rfl, rfl, SqL.of N4.lst, atI_nat a1, .inl ⟨rfl, _, SqL.of w1⟩, _, rfl, _, rfl, by show 3 ≤ sizeLine; decide, fun t ht => ?_⟩
        have w1' : (upd H3 t (.tup [.int (i : Nat), .int 1, .int (rs[i].2.1 : Nat)])) ads[rs[i].1] = some (.lst ws) := by rw [upd_ne (ne_of_none w1 ht)]; exact w1
        refine ⟨ads[rs[i].1], _, _, rfl, rfl, w1', small1000 hw1, ?_⟩
        have N5 := (N4.ext (.new ht)).step (st := (i, 1, rs[i].2.1)) (t := t) (List.getElem?_eq_getElem l1) w1' (.inl (.inl upd_same))
        generalize upd (upd H3 t (.tup [.int (i : Nat), .int 1, .int (rs[i].2.1 : Nat)])) ads[rs[i].1] (.lst (ws ++ [.ref t])) = H5 at N5 ⊢
        -- from the end
        obtain ⟨ws2, v1, v2, _⟩ := N5.at_ _ _ (List.getElem?_eq_getElem l2)
        have hw2 : ws2.length ≤ 1000 := by
          rw [v2, if_neg g3.symm]
          have := adjT_length rs rs[i].2.1 i
          omega
        refine ⟨_, rfl, _, rfl, D, _, _, _, rfl, rfl, SqL.of N5.lst, atI_nat a2, .inl ⟨rfl, _, SqL.of v1⟩, _, rfl, _, rfl, _, rfl, by show 3 ≤ sizeLine; decide, fun t2 ht2 => ?_⟩
        have v1' : (upd H5 t2 (.tup [.int (i : Nat), .int (-1), .int (rs[i].1 : Nat)])) ads[rs[i].2.1] = some (.lst ws2) := by rw [upd_ne (ne_of_none v1 ht2)]; exact v1
        refine ⟨ads[rs[i].2.1], _, _, rfl, rfl, v1', small1000 hw2, ?_⟩
        have N6 := (N5.ext (.new ht2)).step (st := (i, -1, rs[i].1)) (t := t2) (List.getElem?_eq_getElem l2) v1' (.inl (.inl upd_same))
        refine ⟨_, _, _, _, rfl, ?_⟩
        have eA : (fun k => if k = rs[i].2.1 then (if k = rs[i].1 then adjT rs i k ++ [(i, 1, rs[i].2.1)] else adjT rs i k) ++ [(i, -1, rs[i].1)] else if k = rs[i].1 then adjT rs i k ++ [(i, 1, rs[i].2.1)] else adjT rs i k) = adjT rs (i + 1) := by
          funext k
          have eg : rs.getD i (0, 0, 0) = rs[i] := by rw [List.getD_eq_getElem?_getD, List.getElem?_eq_getElem hi]; rfl
          show _ = adjT rs i k ++ stepAt i (rs.getD i (0, 0, 0)) k
          rw [eg]
          unfold stepAt
          by_cases k1 : rs[i].1 = k
          · rw [if_pos k1, if_neg (by omega), if_pos k1.symm]
          · rw [if_neg k1, if_neg (Ne.symm k1)]
            by_cases k2 : rs[i].2.1 = k
            · rw [if_pos k2, if_pos k2.symm]
            · rw [if_neg k2, if_neg (Ne.symm k2), List.append_nil]
        rw [eA] at N6
        exact N6
      · obtain ⟨y4, y5, y6, y7, rfl, N3⟩ := h3
        refine ⟨_, rfl, q D H3 N3.x N3.new ?_⟩
        rw [List.length_map, List.length_range] at N3
        rw [← hl]
        exact N3.near
abbrev nNeigh : List Str := ["many", "readings"]
theorem scNeigh : FnScope nNeigh ["many", "readings"] (defScope sNeighbours) := ⟨rfl, rfl, rfl, by decide +kernel, rfl, by decide +kernel, by decide +kernel⟩
theorem ok_neigh {f fO : Addr} {fd fdO : FuncData} (mr : mg "range" = none) (ml : mg "len" = none) (mt : mg "tuple" = none) (F : Fun K "neighbours" "neighbours" sNeighbours f fd)
    (FO : Fun K "neighbours_over" "neighbours_over" sNeighboursOver fO fdO) (bO : Binds K fdO ["many", "readings", "chosen"] []) (gO : mg "neighbours_over" = some (.ref fO)) : FnOk P w K mg base CX0 3 f fd ["many", "readings"] (spNeigh K) := by
  have GO : FnOk P w K mg base CX0 2 fO fdO ["many", "readings", "chosen"] (spNeighO K) := ok_neighO mr FO
  refine F.ok scNeigh (fun vs H Q E h => ?_) (fun cdv A outer s H vs Q E hr h => ?_)
  · obtain ⟨_, _, _, rfl, _⟩ := h
    rfl
  · obtain ⟨rp, n, rs, rfl, hrd, hgood, hn, hlen, q⟩ := h
    refine ⟨_, pss_one (ps_ret (pe_call GO hr (by rfl) gO FO.kp bO .nil pass0 (pa_cons (pv 0) (pa_cons (pv 1) (pa_cons (pe_tupRg rfl (by rfl) mt (prg_1 (by rfl) mr (pe_callB call_len_seq (by rfl) ml PySem.boot_len (pa_cons (pv 1) pa_nil)))) pa_nil))))), ?_⟩
    obtain ⟨vs, n3, n4, n5⟩ := hrd
    refine ⟨_, rfl, _, rfl, _, rfl, rp, vs, rfl, .inr n3, _, rfl, RgOk.of_le (by omega) (by omega) (by omega) (by omega), fun cp hcp => ?_⟩
    have x1 : Ext [] H (upd H cp (.tup (rgV 0 (vs.length : Nat)))) := .new hcp
    refine ⟨rp, cp, n, rs, rfl, .inl (.inl ?_), RdsAt.ext (⟨vs, n3, n4, n5⟩ : RdsAt K H rp rs) x1, hgood, hn, hlen, fun np H' x2 hnp hat => q np H' (x1.trans x2) (x1.dom np hnp) hat⟩
    rw [upd_same, n4]
    unfold rgV
    congr 2
    rw [show (((rs.length : Nat) : Int) - 0).toNat = rs.length by omega]
    exact List.map_congr_left fun i _ => by rw [Int.zero_add]
end
end K0
set_option Elab.async false
set_option linter.all false
set_option maxRecDepth 100000
set_option maxHeartbeats 4000000
namespace K0
open PySem PySem.Spec PyProof.Rows L2 Gx RZ
/-! ### who is joined with whom -/
def Adj (rs : List Rd3) (m k : Nat) : Prop := ∃ r ∈ rs, (r.1 = m ∧ r.2.1 = k) ∨ (r.2.1 = m ∧ r.1 = k)
inductive Conn (rs : List Rd3) (a : Nat) : Nat → Prop
  | refl : Conn rs a a
  | step {m k : Nat} (h : Conn rs a m) (e : Adj rs m k) : Conn rs a k
theorem Adj.lt {rs : List Rd3} {n m k : Nat} (hg : Gx.Good n rs) (h : Adj rs m k) : k < n := by
  obtain ⟨r, hr, h | h⟩ := h
  · have := (hg r hr).2.1
    omega
  · have := (hg r hr).1
    omega
theorem Conn.lt {rs : List Rd3} {n a m : Nat} (hg : Gx.Good n rs) (ha : a < n) (h : Conn rs a m) : m < n := by
  cases h with
  | refl => exact ha
  | step _ e => exact e.lt hg
theorem adjT_adj {rs : List Rd3} {m : Nat} : ∀ k, k ≤ rs.length → ∀ st ∈ adjT rs k m, Adj rs m st.2.2
  | 0, _, st, h => by cases h
  | k + 1, hk, st, h => by
    unfold adjT at h
    rcases List.mem_append.mp h with h | h
    · exact adjT_adj k (by omega) st h
    · have hk' : k < rs.length := hk
      have eg : rs.getD k (0, 0, 0) = rs[k] := by rw [List.getD_eq_getElem?_getD, List.getElem?_eq_getElem hk']; rfl
      rw [eg] at h
      unfold stepAt at h
      by_cases c1 : rs[k].1 = m
      · rw [if_pos c1] at h
        rw [List.mem_singleton.mp h]
        exact ⟨rs[k], List.getElem_mem hk', .inl ⟨c1, rfl⟩⟩
      · rw [if_neg c1] at h
        by_cases c2 : rs[k].2.1 = m
        · rw [if_pos c2] at h
          rw [List.mem_singleton.mp h]
          exact ⟨rs[k], List.getElem_mem hk', .inr ⟨c2, rfl⟩⟩
        · rw [if_neg c2] at h
          cases h
theorem adj_adjT {rs : List Rd3} {m k : Nat} (hne : ∀ r ∈ rs, r.1 ≠ r.2.1) : ∀ j, j ≤ rs.length → (∃ i, i < j ∧ ((rs.getD i (0, 0, 0)).1 = m ∧ (rs.getD i (0, 0, 0)).2.1 = k ∨ (rs.getD i (0, 0, 0)).2.1 = m ∧ (rs.getD i (0, 0, 0)).1 = k)) → ∃ st ∈ adjT rs j m, st.2.2 = k
  | 0, _, ⟨i, h, _⟩ => by cases h
  | j + 1, hj, ⟨i, hi, h⟩ => by
    unfold adjT
    by_cases c : i < j
    · obtain ⟨st, h1, h2⟩ := adj_adjT hne j (by omega) ⟨i, c, h⟩
      exact ⟨st, List.mem_append_left _ h1, h2⟩
    · have e : i = j := by omega
      subst e
      have hj' : i < rs.length := hj
      have eg : rs.getD i (0, 0, 0) = rs[i] := by rw [List.getD_eq_getElem?_getD, List.getElem?_eq_getElem hj']; rfl
      rw [eg] at h ⊢
      have hn := hne _ (List.getElem_mem hj')
      unfold stepAt
      rcases h with ⟨h1, h2⟩ | ⟨h1, h2⟩
      · rw [if_pos h1]
        exact ⟨_, List.mem_append_right _ (List.mem_singleton.mpr rfl), h2⟩
      · rw [if_neg (fun z => hn (z.trans h1.symm)), if_pos h1]
        exact ⟨_, List.mem_append_right _ (List.mem_singleton.mpr rfl), h2⟩
theorem adj_mem {rs : List Rd3} {n m k : Nat} (hg : Gx.Good n rs) (h : Adj rs m k) : ∃ st ∈ adjT rs rs.length m, st.2.2 = k := by
  obtain ⟨r, hr, h⟩ := h
  obtain ⟨i, hi, e⟩ := List.getElem_of_mem hr
  have eg : rs.getD i (0, 0, 0) = r := by rw [List.getD_eq_getElem?_getD, List.getElem?_eq_getElem hi, e]; rfl
  exact adj_adjT (fun r hr => (hg r hr).2.2) rs.length (Nat.le_refl _) ⟨i, hi, by rw [eg]; exact h⟩
open Classical in
/-- the marks to which one comes, ascending -/
noncomputable def conR (rs : List Rd3) (n a : Nat) : List Nat := (List.range n).filter fun i => decide (Conn rs a i)
/-! ### the search's state -/
structure Sea (rs : List Rd3) (n a : Nat) (fb : List Bool) (wt : List Nat) (ex : Nat → Prop) : Prop where
  len : fb.length = n
  wtl : ∀ m ∈ wt, m < n
  wtf : ∀ m ∈ wt, fb.getD m false = true
  src : fb.getD a false = true
  con : ∀ m, fb.getD m false = true → Conn rs a m
  clo : ∀ m, fb.getD m false = true → m ∉ wt → ¬ ex m → ∀ st ∈ adjT rs rs.length m, fb.getD st.2.2 false = true
theorem Sea.full {rs : List Rd3} {n a : Nat} {fb : List Bool} (S : Sea rs n a fb [] fun _ => False) (hg : Gx.Good n rs) : ∀ m, Conn rs a m → fb.getD m false = true := by
  intro m h
  induction h with
  | refl => exact S.src
  | step h e ih =>
    obtain ⟨st, h1, h2⟩ := adj_mem hg e
    rw [← h2]
    exact S.clo _ ih (by simp) (fun z => z) st h1
theorem getB_set {fb : List Bool} {k : Nat} (hk : k < fb.length) (m : Nat) : (fb.set k true).getD m false = if m = k then true else fb.getD m false := by
  by_cases h : m = k
  · subst h
    rw [if_pos rfl, List.getD_eq_getElem?_getD, List.getElem?_set_self hk]
    rfl
  · rw [if_neg h, List.getD_eq_getElem?_getD, List.getElem?_set_ne (Ne.symm h), ← List.getD_eq_getElem?_getD]
theorem Sea.push {rs : List Rd3} {n a k : Nat} {fb : List Bool} {wt : List Nat} {ex : Nat → Prop} (S : Sea rs n a fb wt ex) (hk : k < n) (hc : Conn rs a k) : Sea rs n a (fb.set k true) (wt ++ [k]) ex := by
  have hkl : k < fb.length := by rw [S.len]; exact hk
  refine ⟨by rw [List.length_set, S.len], fun m hm => ?_, fun m hm => ?_, ?_, fun m hm => ?_, fun m h1 h2 h3 st hs => ?_⟩
  · rcases List.mem_append.mp hm with hm | hm
    · exact S.wtl m hm
    · rw [List.mem_singleton.mp hm]
      exact hk
  · rw [getB_set hkl]
    split
    · rfl
    · rename_i e
      rcases List.mem_append.mp hm with hm | hm
      · exact S.wtf m hm
      · exact absurd (List.mem_singleton.mp hm) e
  · rw [getB_set hkl]
    split
    · rfl
    · exact S.src
  · rw [getB_set hkl] at hm
    by_cases e : m = k
    · rw [e]
      exact hc
    · rw [if_neg e] at hm
      exact S.con m hm
  · rw [getB_set hkl] at h1 ⊢
    have e : m ≠ k := fun z => h2 (List.mem_append_right _ (List.mem_singleton.mpr z))
    rw [if_neg e] at h1
    have := S.clo m h1 (fun z => h2 (List.mem_append_left _ z)) h3 st hs
    split
    · rfl
    · exact this
def nF : List Bool → Nat
  | [] => 0
  | b :: r => (if b = true then 0 else 1) + nF r
theorem nF_set : ∀ (fb : List Bool) (k : Nat), k < fb.length → fb.getD k false = false → nF (fb.set k true) + 1 = nF fb
  | [], k, h, _ => by cases h
  | b :: r, 0, _, e => by
    have : b = false := e
    subst this
    show (0 + nF r) + 1 = 1 + nF r
    omega
  | b :: r, k + 1, h, e => by
    have ih := nF_set r k (by simpa using h) e
    show ((if b = true then 0 else 1) + nF (r.set k true)) + 1 = (if b = true then 0 else 1) + nF r
    omega
theorem nF_rep : ∀ n, nF (List.replicate n false) = n
  | 0 => rfl
  | n + 1 => by
    rw [List.replicate_succ]
    show 1 + nF (List.replicate n false) = n + 1
    rw [nF_rep n]
    omega
/-- the measure, by what stands in the heap -/
def fV : List V → Nat
  | [] => 0
  | .bl true :: r => fV r
  | _ :: r => 1 + fV r
theorem fV_of : ∀ fb : List Bool, fV (fb.map V.bl) = nF fb
  | [] => rfl
  | true :: r => by
    show fV (r.map V.bl) = 0 + nF r
    rw [fV_of r]
    omega
  | false :: r => by
    show 1 + fV (r.map V.bl) = 1 + nF r
    rw [fV_of r]
def mMu (H : Hp) (f wl : Addr) : Nat := (match H f with | some (.lst vs) => fV vs | _ => 0) + (match H wl with | some (.lst vs) => vs.length | _ => 0)
theorem mMu_of {H : Hp} {f wl : Addr} {fb : List Bool} {xs : List V} (h1 : H f = some (.lst (fb.map V.bl))) (h2 : H wl = some (.lst xs)) : mMu H f wl = nF fb + xs.length := by
  unfold mMu
  rw [h1, h2]
  show fV (fb.map V.bl) + xs.length = _
  rw [fV_of]
def nI (l : List Nat) : List Int := l.map fun (x : Nat) => (x : Int)
theorem nI_length (l : List Nat) : (nI l).length = l.length := List.length_map _
theorem nI_snoc (l : List Nat) (x : Nat) : (nI l).map V.int ++ [.int (x : Nat)] = (nI (l ++ [x])).map V.int := by
  unfold nI
  rw [List.map_append, List.map_append]
  rfl
theorem bl_at {fb : List Bool} {i : Nat} (h : i < fb.length) : (fb.map V.bl)[i]? = some (.bl (fb.getD i false)) := by
  rw [List.getElem?_map, List.getElem?_eq_getElem h, List.getD_eq_getElem?_getD, List.getElem?_eq_getElem h]
  rfl
theorem flat_repB (n : Nat) : (List.replicate n [V.bl false]).flatten = (List.replicate n false).map V.bl := by
  induction n with
  | zero => rfl
  | succ n ih =>
    rw [List.replicate_succ, List.flatten_cons, ih, List.replicate_succ, List.map_cons]
    rfl
end K0
set_option Elab.async false
set_option linter.all false
set_option maxRecDepth 100000
set_option maxHeartbeats 4000000
namespace K0
open PySem PySem.Spec PyProof.Rows L2 Gx RZ
section
variable {P : Program} {w : World} {K : PySem.W.Frag} {mg : Str → Option Value} {base : Heap}
def spReached (K : PySem.W.Frag) (T : Addr) : Sp := fun vs H Q _ => ∃ (rp : Addr) (n a : Nat) (rs : List Rd3), vs = [.int (n : Nat), .ref rp, .int (a : Nat)] ∧ RdsAt K H rp rs ∧ Gx.Good n rs ∧ a < n ∧ n ≤ 1000 ∧ rs.length ≤ 1000 ∧ GxR.TabG H T ∧
  ∀ q H', Ext [] H H' → H' q = some (.tup ((nI (conR rs n a)).map V.int)) → Q (.ref q) H'
abbrev nReached : List Str := ["many", "readings", "start", "near", "waiting", "mark", "_", "other", "found", "index"]
theorem scReached : FnScope nReached ["many", "readings", "start"] (defScope sReached) := ⟨rfl, rfl, rfl, by decide +kernel, rfl, by decide +kernel, by decide +kernel⟩
theorem con_snoc {p : Nat → Bool} {i : Nat} : (List.range (i + 1)).filter p = (List.range i).filter p ++ (if p i = true then [i] else []) := by
  rw [List.range_succ, List.filter_append]
  congr 1
  cases h : p i <;> simp [h]
open Classical in
theorem ok_reached {f c T fN fO : Addr} {fd fdN fdO : FuncData} (mr : mg "range" = none) (ml : mg "len" = none) (mt : mg "tuple" = none) (F : FunT K "reached" "reached" sReached f fd c) (TB : GxR.TabB base mg c T)
    (FN : Fun K "neighbours" "neighbours" sNeighbours fN fdN) (bN : Binds K fdN ["many", "readings"] []) (gN : mg "neighbours" = some (.ref fN))
    (FO : Fun K "neighbours_over" "neighbours_over" sNeighboursOver fO fdO) (bO : Binds K fdO ["many", "readings", "chosen"] []) (gO : mg "neighbours_over" = some (.ref fO)) : FnOk P w K mg base CX0 8 f fd ["many", "readings", "start"] (spReached K T) := by
  have nd := scReached.nd
  have GN : FnOk P w K mg base CX0 3 fN fdN ["many", "readings"] (spNeigh K) := ok_neigh mr ml mt FN FO bO gO
  refine F.ok scReached (fun vs H Q E h => ?_) (fun A outer s H vs Q E hr h => ?_)
  · obtain ⟨_, _, _, _, rfl, _⟩ := h
    rfl
  · obtain ⟨rp, n, a, rs, rfl, hrd, hgood, han, hn, hlen, hT, q⟩ := h
    refine ⟨_, pss_cons (ps_set (i := 3) nd rfl (.inl rfl) (pe_call GN (hr.mono (by decide)) (by rfl) gN FN.kp bN .nil pass0 (pa_cons (pv 0) (pa_cons (pv 1) pa_nil))))
      (pss_cons (ps_set (i := 8) nd rfl (.inr rfl) (pe_op op_rep (pe_lst (pa_cons pe_bl pa_nil)) (pv 0)))
      (pss_cons (ps_asg pe_bl (pg_sub (pv 8) (pv 2) set_list))
      (pss_cons (ps_set (i := 4) nd rfl (.inl rfl) (pe_lst (pa_cons (pv 2) pa_nil)))
      (pss_cons (ps_while PassesOwn.never (pt_truth (pv 4) (by intro _; rfl))
        (pss_cons (ps_set (i := 5) nd rfl (.inl rfl) (pe_bm0 PySem.F.plainAttrs_list PySem.F.slot_list_pop PySem.F.type_list_pop mt_pop (pv 4)))
        (pss_one (ps_for PassesOwn.never rfl (pi_list (pe_ix ix_list (pv 3) (pv 5) (fun _ _ => rfl))) (pg_tup rfl (pgs_cons (pg_name (i := 6) nd rfl (.inl rfl)) (pgs_cons (pg_name (i := 6) nd rfl (.inl rfl)) (pgs_cons (pg_name (i := 7) nd rfl (.inl rfl)) pgs_nil))))
          (pss_one (ps_if (pt_not (pt_val (pe_ix ix_list (pv 8) (pv 7) (fun _ _ => rfl))))
            (pss_cons (ps_asg pe_bl (pg_sub (pv 8) (pv 7) set_list)) (pss_one (ps_expr (pe_bm PySem.F.plainAttrs_list PySem.F.slot_list_append PySem.F.type_list_append mt_append (pv 4) (pa_cons (pv 7) pa_nil))))) pss_nil))))))
      (pss_one (ps_ret (pe_tupG (k := 2) (psrc (k := 1) (own := [("index", 9)]) (hr.mono (by decide)) rfl nd TB rfl (pi_range1 (by rfl) mr (pa_cons (pv 0) pa_nil)) (blkOk_by (N := nReached) (sc := defScope sReached) (by decide +kernel)) (by decide +kernel) rfl rfl
        (fun _ _ _ _ _ _ _ _ => pg_name (i := 9) nd rfl (.inl rfl)) (fun _ _ _ _ _ _ _ _ _ => pts_one (pt_val (pe_ix (r := rIxL K) ix_list (pv 8) (pv 9) (fun _ _ => rfl)))) (fun _ _ _ _ _ _ _ _ _ => pv 9)) (hr.mono (by decide)) rfl mt PyProof.Rows.boot_tuple))))))), ?_⟩
    -- near
    refine ⟨_, rfl, _, rfl, rp, n, rs, rfl, hrd, hgood, hn, hlen, fun np H1 x1 np0 hnear => ?_⟩
    -- found
    refine ⟨by show 1 ≤ sizeLine; decide, fun l1 hl1 => ⟨_, rfl, l1, _, _, rfl, rfl, upd_same, by omega, by omega, ?_, fun f0 hf => ?_⟩⟩
    · show 1 * (n : Int).toNat ≤ sizeLine
      rw [Int.toNat_natCast, Nat.one_mul]
      exact Nat.le_of_lt (small1000 hn)
    have x2 : Ext [] H1 (upd (upd H1 l1 (.lst [V.bl false])) f0 (.lst (List.replicate ((n : Nat) : Int).toNat [V.bl false]).flatten)) := (Ext.new hl1).trans (.new hf)
    have hf1 : H1 f0 = none := (Ext.new (c := []) (o := .lst [V.bl false]) hl1).dom _ hf
    have ef2 : (upd (upd H1 l1 (.lst [V.bl false])) f0 (.lst (List.replicate ((n : Nat) : Int).toNat [V.bl false]).flatten)) f0 = some (.lst ((List.replicate n false).map V.bl)) := by
      rw [upd_same, Int.toNat_natCast, flat_repB]
    generalize upd (upd H1 l1 (.lst [V.bl false])) f0 (.lst (List.replicate ((n : Nat) : Int).toNat [V.bl false]).flatten) = H2 at x2 ef2 ⊢
    -- found[start]
    refine ⟨_, rfl, _, rfl, f0, _, _, a, rfl, rfl, ef2, ixN_nat (by rw [List.length_map, List.length_replicate]; exact han), ?_⟩
    have eset : ((List.replicate n false).map V.bl).set a (.bl true) = ((List.replicate n false).set a true).map V.bl := by rw [List.map_set]
    rw [eset]
    have x3 : Ext [] H1 (upd H2 f0 (.lst (((List.replicate n false).set a true).map V.bl))) := x2.own hf1 ef2
    have ef3 : (upd H2 f0 (.lst (((List.replicate n false).set a true).map V.bl))) f0 = some (.lst (((List.replicate n false).set a true).map V.bl)) := upd_same
    generalize upd H2 f0 (.lst (((List.replicate n false).set a true).map V.bl)) = H3 at x3 ef3 ⊢
    -- waiting
    refine ⟨_, rfl, by show 1 ≤ sizeLine; decide, fun wl hwl => ?_⟩
    have hwl1 : H1 wl = none := x3.dom _ hwl
    obtain ⟨ads, ea, la, hst⟩ := hnear
    have nfw : f0 ≠ wl := ne_of_none ef3 hwl
    have hrl : a < (List.replicate n false).length := by rw [List.length_replicate]; exact han
    have hr0 : ∀ m, (List.replicate n false).getD m false = false := fun m => by
      rw [List.getD_eq_getElem?_getD, List.getElem?_replicate]
      split <;> rfl
    dsimp only [gName, tSeq]
    refine while_by (fun σ H4 => ∃ fb wt y5 y6 y7, σ = [some (.int (n : Nat)), some (.ref rp), some (.int (a : Nat)), some (.ref np), some (.ref wl), y5, y6, y7, some (.ref f0), none] ∧ Ext [] H1 H4 ∧ H4 f0 = some (.lst (fb.map V.bl)) ∧ H4 wl = some (.lst ((nI wt).map V.int)) ∧
        Sea rs n a fb wt (fun _ => False) ∧ nF fb + wt.length ≤ n) (fun _ H4 => mMu H4 f0 wl)
      ⟨(List.replicate n false).set a true, [a], _, _, _, rfl, x3.trans (.new hwl), by rw [upd_ne nfw]; exact ef3, upd_same, ⟨by rw [List.length_set, List.length_replicate], fun m hm => by rw [List.mem_singleton.mp hm]; exact han, fun m hm => by rw [List.mem_singleton.mp hm, getB_set hrl, if_pos rfl], by rw [getB_set hrl, if_pos rfl], fun m hm => ?_, fun m h1 h2 => ?_⟩, ?_⟩ (fun σ H4 h4 => ?_) (fun σ H4 Q1 Q2 hQ h => ?_)
    · rw [getB_set hrl] at hm
      by_cases e : m = a
      · rw [e]
        exact .refl
      · rw [if_neg e, hr0] at hm
        cases hm
    · rw [getB_set hrl] at h1
      by_cases e : m = a
      · exact absurd (List.mem_singleton.mpr e) h2
      · rw [if_neg e, hr0] at h1
        cases h1
    · have := nF_set (List.replicate n false) a hrl (hr0 a)
      rw [nF_rep] at this
      show nF _ + 1 ≤ n
      omega
    · obtain ⟨fb, wt, y5, y6, y7, rfl, x4, ef4, ew4, S, hM⟩ := h4
      refine ⟨_, rfl, _, .inl ⟨_, SqL.of ew4, rfl⟩, ite2 (fun c0 => ?_) (fun c0 => ?_)⟩
      · -- a mark from the row
        have hne : wt ≠ [] := fun z => by
          rw [z] at c0
          cases c0
        obtain ⟨wt0, mk, rfl⟩ : ∃ wt0 mk, wt = wt0 ++ [mk] := ⟨wt.dropLast, wt.getLast hne, (List.dropLast_concat_getLast hne).symm⟩
        have hmk : mk < n := S.wtl mk (List.mem_append_right _ (List.mem_singleton.mpr rfl))
        have hlast : ((nI (wt0 ++ [mk])).map V.int)[((nI (wt0 ++ [mk])).map V.int).length - 1]? = some (.int (mk : Nat)) := by
          rw [← nI_snoc, List.length_append, List.length_singleton, Nat.add_sub_cancel, List.getElem?_append_right (Nat.le_refl _), Nat.sub_self]
          rfl
        have hdrop : ((nI (wt0 ++ [mk])).map V.int).dropLast = (nI wt0).map V.int := by
          rw [← nI_snoc, List.dropLast_concat]
        refine ⟨_, rfl, .inl ⟨rfl, _, SqL.of ew4⟩, wl, _, _, rfl, rfl, ew4, hlast, ?_⟩
        rw [hdrop]
        have x5 : Ext [] H1 (upd H4 wl (.lst ((nI wt0).map V.int))) := x4.own hwl1 ew4
        have ef5 : (upd H4 wl (.lst ((nI wt0).map V.int))) f0 = some (.lst (fb.map V.bl)) := by rw [upd_ne nfw]; exact ef4
        have ew5 : (upd H4 wl (.lst ((nI wt0).map V.int))) wl = some (.lst ((nI wt0).map V.int)) := upd_same
        have hmu : mMu H4 f0 wl = nF fb + (wt0.length + 1) := by rw [mMu_of ef4 ew4, List.length_map, nI_length, List.length_append]; rfl
        generalize upd H4 wl (.lst ((nI wt0).map V.int)) = H5 at x5 ef5 ew5 ⊢
        have S5 : Sea rs n a fb wt0 (fun m => m = mk) := ⟨S.len, fun m hm => S.wtl m (List.mem_append_left _ hm), fun m hm => S.wtf m (List.mem_append_left _ hm), S.src, S.con, fun m h1 h2 h3 => S.clo m h1 (fun z => by
          rcases List.mem_append.mp z with z | z
          · exact h2 z
          · exact h3 (List.mem_singleton.mp z)) (fun z => z)⟩
        have hcm : fb.getD mk false = true := S.wtf mk (List.mem_append_right _ (List.mem_singleton.mpr rfl))
        have hM5 : nF fb + wt0.length + 1 ≤ n := by
          rw [List.length_append, List.length_singleton] at hM
          omega
        have hal : mk < ads.length := by omega
        obtain ⟨vs, v1, v2, v3⟩ := hst mk _ (List.getElem?_eq_getElem hal)
        have aat : (ads.map V.ref)[mk]? = some (.ref ads[mk]) := by rw [List.getElem?_map, List.getElem?_eq_getElem hal]; rfl
        have hw1k : wt0.length ≤ 1000 := by omega
        refine ⟨_, rfl, _, rfl, np, _, _, _, rfl, rfl, SqL.of (x5.lst ea (by simp)), atI_nat aat, ads[mk], rfl, ⟨_, SqL.of (x5.lst v1 (by simp))⟩, ?_⟩
        refine for_list (xs := vs) (fun j σ H6 => ∃ fb wt y6 y7, σ = [some (.int (n : Nat)), some (.ref rp), some (.int (a : Nat)), some (.ref np), some (.ref wl), some (.int (mk : Nat)), y6, y7, some (.ref f0), none] ∧ Ext [] H1 H6 ∧ H6 f0 = some (.lst (fb.map V.bl)) ∧ H6 wl = some (.lst ((nI wt).map V.int)) ∧
            Sea rs n a fb wt (fun m => m = mk) ∧ nF fb + wt.length + 1 ≤ mMu H4 f0 wl ∧ fb.getD mk false = true ∧ ∀ st ∈ (adjT rs rs.length mk).take j, fb.getD st.2.2 false = true)
          ⟨fb, wt0, _, _, rfl, x5, ef5, ew5, S5, by omega, hcm, fun st hs => by simp at hs⟩ (fun j σ H6 _ h6 => ?_) (fun j v σ H6 hv h6 => ?_) (fun σ H6 h6 => ?_)
        · obtain ⟨_, _, _, _, _, x6, _⟩ := h6
          exact SqL.of (x6.lst v1 (by simp))
        · obtain ⟨fb6, wt6, y6, y7, rfl, x6, ef6, ew6, S6, hM6, hc6, hdn⟩ := h6
          have hj : j < (adjT rs rs.length mk).length := by
            rw [← v2]
            exact (List.getElem?_eq_some_iff.mp hv).1
          obtain ⟨t, e1, e2⟩ := v3 j _ (List.getElem?_eq_getElem hj)
          obtain rfl := Option.some.inj (hv.symm.trans e1)
          generalize hst6 : (adjT rs rs.length mk)[j] = st at e2
          have hadj : Adj rs mk st.2.2 := adjT_adj rs.length (Nat.le_refl _) st (by rw [← hst6]; exact List.getElem_mem hj)
          have hko : st.2.2 < n := hadj.lt hgood
          have hkl : st.2.2 < fb6.length := by rw [S6.len]; exact hko
          have eT : (adjT rs rs.length mk).take (j + 1) = (adjT rs rs.length mk).take j ++ [st] := by
            rw [List.take_add_one, List.getElem?_eq_getElem hj, hst6]
            rfl
          refine ⟨t, _, rfl, x6.sqT e2, rfl, _, _, rfl, _, _, rfl, _, _, rfl, rfl, ?_⟩
          refine ⟨_, rfl, _, rfl, f0, _, _, _, rfl, rfl, SqL.of ef6, atI_nat (bl_at hkl), _, rfl, ?_⟩
          cases hfo : fb6.getD st.2.2 false
          · -- not yet found
            refine iteT ⟨_, rfl, _, rfl, f0, _, _, st.2.2, rfl, rfl, ef6, ixN_nat (by rw [List.length_map]; exact hkl), ?_⟩
            have hmuN := mMu_of ef4 ew4
            have hwt : wt6.length ≤ 1000 := by
              rw [hmu] at hM6
              omega
            have x7 : Ext [] H1 (upd H6 f0 (.lst ((fb6.map V.bl).set st.2.2 (.bl true)))) := x6.own hf1 ef6
            have ef7 : (upd H6 f0 (.lst ((fb6.map V.bl).set st.2.2 (.bl true)))) f0 = some (.lst ((fb6.set st.2.2 true).map V.bl)) := by rw [upd_same, List.map_set]
            have ew7 : (upd H6 f0 (.lst ((fb6.map V.bl).set st.2.2 (.bl true)))) wl = some (.lst ((nI wt6).map V.int)) := by rw [upd_ne nfw.symm]; exact ew6
            generalize upd H6 f0 (.lst ((fb6.map V.bl).set st.2.2 (.bl true))) = H7 at x7 ef7 ew7 ⊢
            refine ⟨_, rfl, .inl ⟨rfl, _, SqL.of ew7⟩, _, rfl, wl, _, _, rfl, rfl, ew7, by rw [List.length_map, nI_length]; exact small1000 hwt, ?_⟩
            have hnf := nF_set fb6 st.2.2 hkl hfo
            refine ⟨fb6.set st.2.2 true, wt6 ++ [st.2.2], _, _, rfl, x7.own hwl1 ew7, by rw [upd_ne nfw]; exact ef7, by rw [upd_same, ← nI_snoc], S6.push hko (.step (S6.con mk hc6) hadj), ?_, ?_, fun s hs => ?_⟩
            · rw [List.length_append, List.length_singleton]
              omega
            · rw [getB_set hkl]
              split
              · rfl
              · exact hc6
            · rw [getB_set hkl]
              split
              · rfl
              · rename_i e
                rw [eT] at hs
                rcases List.mem_append.mp hs with hs | hs
                · exact hdn s hs
                · rw [List.mem_singleton.mp hs] at e
                  exact absurd rfl e
          · refine iteF ⟨fb6, wt6, _, _, rfl, x6, ef6, ew6, S6, hM6, hc6, fun s hs => ?_⟩
            rw [eT] at hs
            rcases List.mem_append.mp hs with hs | hs
            · exact hdn s hs
            · rw [List.mem_singleton.mp hs]
              exact hfo
        · obtain ⟨fb6, wt6, y6, y7, rfl, x6, ef6, ew6, S6, hM6, hc6, hdn⟩ := h6
          rw [v2, List.take_length] at hdn
          refine ⟨⟨fb6, wt6, _, _, _, rfl, x6, ef6, ew6, ⟨S6.len, S6.wtl, S6.wtf, S6.src, S6.con, fun m h1 h2 _ => ?_⟩, ?_⟩, ?_⟩
          · by_cases e : m = mk
            · rw [e]
              exact hdn
            · exact S6.clo m h1 h2 e
          · rw [hmu] at hM6
            omega
          · rw [mMu_of ef6 ew6, List.length_map, nI_length]
            omega
      · have hnil : wt = [] := by
          cases wt with
          | nil => rfl
          | cons x r => exact absurd rfl c0
        subst hnil
        have hfull := S.full hgood
        have hfc : ∀ m, fb.getD m false = decide (Conn rs a m) := fun m => by
          by_cases hc : Conn rs a m
          · rw [decide_eq_true hc]
            exact hfull m hc
          · rw [decide_eq_false hc]
            cases h : fb.getD m false
            · rfl
            · exact absurd (S.con m h) hc
        refine ⟨_, rfl, (n : Nat), rfl, by omega, by omega, (x1.trans x4).tab _ hT, fun H5 tb => ?_⟩
        rw [Int.toNat_natCast]
        have x5 : Ext [] H4 H5 := .tabbed ((x1.trans x4).tab _ hT) tb
        refine by_n n (fun i ys H6 => Ext [] H4 H6 ∧ ys = (nI ((List.range i).filter fun k => decide (Conn rs a k))).map V.int) ⟨x5, rfl⟩ (fun i ys H6 hi _ => hi) (fun ys H6 _ => Nat.le_refl _) (fun i ys H6 y H7 hi h6 hy => ?_) (fun ys H6 h6 => ?_)
        · obtain ⟨x6, rfl⟩ := h6
          obtain ⟨rfl, rfl⟩ := hy
          have hk0 : ((0 : Int) + (i : Nat)) = ((i : Nat) : Int) := by omega
          refine ⟨rfl, _, rfl, _, rfl, f0, _, _, _, rfl, by rw [hk0], SqL.of (x6.lst ef4 (by simp)), atI_nat (bl_at (by rw [S.len]; exact hi)), _, rfl, ?_⟩
          refine ite2 (fun e => ?_) (fun e => ?_)
          · refine ⟨_, rfl, ?_, fun _ => ⟨x6, ?_⟩⟩
            · show (List.map V.int _).length < sizeLine
              rw [List.length_map, nI_length]
              have := List.length_filter_le (fun k => decide (Conn rs a k)) (List.range i)
              rw [List.length_range] at this
              exact small1000 (by omega)
            · rw [con_snoc, if_pos (by rw [← hfc]; exact e), ← nI_snoc, hk0]
          · refine ⟨x6, ?_⟩
            rw [con_snoc, if_neg (by rw [← hfc]; exact e), List.append_nil]
        · obtain ⟨x6, rfl⟩ := h6
          have hle : (conR rs n a).length ≤ 1000 := by
            have := List.length_filter_le (fun k => decide (Conn rs a k)) (List.range n)
            rw [List.length_range] at this
            exact Nat.le_trans this hn
          refine ⟨?_, fun z hz => q z _ ((x1.trans (x4.trans x6)).trans (.new hz)) upd_same⟩
          rw [List.length_map, nI_length]
          exact Nat.le_of_lt (small1000 hle)
    · obtain ⟨v, e, k, t, h⟩ := h
      exact ⟨v, e, k, t, hQ _ _ h⟩
noncomputable def joinedR (rs : List Rd3) (n : Nat) : Bool := decide ((conR rs n 0).length = n)
end
end K0
set_option Elab.async false
set_option linter.all false
set_option maxRecDepth 100000
set_option maxHeartbeats 4000000
namespace Gx
open PySem PySem.Spec PyProof.Rows L2 RZ
/-! ### set(t) and len(set(t)), t a tuple of texts -/
/-- the texts met first, of the first i -/
def metS (zs : List Str) : Nat → List Str
  | 0 => []
  | i + 1 => if (metS zs i).any (· == zs.getD i Str.empty) = true then metS zs i else metS zs i ++ [zs.getD i Str.empty]
theorem metS_le (zs : List Str) : ∀ i, (metS zs i).length ≤ i
  | 0 => Nat.le_refl _
  | i + 1 => by
    have ih := metS_le zs i
    unfold metS
    split
    · omega
    · rw [List.length_append, List.length_singleton]
      omega
theorem metS_any (zs : List Str) (i : Nat) (z : Str) : ((metS zs i).any (· == z) || decide (z = zs.getD i Str.empty)) = (metS zs (i + 1)).any (· == z) := by
  have e1 : metS zs (i + 1) = if (metS zs i).any (· == zs.getD i Str.empty) = true then metS zs i else metS zs i ++ [zs.getD i Str.empty] := rfl
  rw [e1]
  generalize zs.getD i Str.empty = k
  by_cases hc : (metS zs i).any (· == k) = true
  · rw [if_pos hc]
    by_cases e : z = k
    · subst e
      rw [hc, Bool.true_or]
    · rw [decide_eq_false e, Bool.or_false]
  · rw [if_neg hc, List.any_append]
    congr 1
    show decide (z = k) = ((k == z) || false)
    rw [Bool.or_false]
    by_cases e : z = k
    · subst e
      simp
    · rw [decide_eq_false e]
      exact (beq_eq_false_iff_ne.mpr (Ne.symm e)).symm
theorem metS_len (zs : List Str) (i : Nat) : (if (metS zs i).any (· == zs.getD i Str.empty) = true then (metS zs i).length else (metS zs i).length + 1) = (metS zs (i + 1)).length := by
  have e1 : metS zs (i + 1) = if (metS zs i).any (· == zs.getD i Str.empty) = true then metS zs i else metS zs i ++ [zs.getD i Str.empty] := rfl
  rw [e1]
  split
  · rfl
  · rw [List.length_append, List.length_singleton]
theorem metS_mem (zs : List Str) : ∀ i, i ≤ zs.length → ∀ z, z ∈ metS zs i ↔ z ∈ zs.take i
  | 0, _, z => by simp [metS]
  | i + 1, hi, z => by
    have hl : i < zs.length := hi
    have eg : zs.getD i Str.empty = zs[i] := by rw [List.getD_eq_getElem?_getD, List.getElem?_eq_getElem hl]; rfl
    have ih := metS_mem zs i (Nat.le_of_lt hl) z
    unfold metS
    rw [List.take_add_one, List.getElem?_eq_getElem hl, eg]
    split
    · rename_i h
      rw [ih]
      constructor
      · intro k
        exact List.mem_append_left _ k
      · intro k
        rcases List.mem_append.mp k with k | k
        · exact k
        · obtain ⟨y, hy, e⟩ := List.any_eq_true.mp h
          have e1 : y = zs[i] := eq_of_beq e
          have e2 : z = zs[i] := by simpa using k
          rw [e2, ← e1]
          exact (metS_mem zs i (Nat.le_of_lt hl) y).mp hy
    · rw [List.mem_append, List.mem_append, ih]
      simp
theorem metS_full (zs : List Str) : ∀ i, i ≤ zs.length → (metS zs i).length = i → (zs.take i).Nodup
  | 0, _, _ => by simp
  | i + 1, hi, h => by
    have hl : i < zs.length := hi
    have eg : zs.getD i Str.empty = zs[i] := by rw [List.getD_eq_getElem?_getD, List.getElem?_eq_getElem hl]; rfl
    unfold metS at h
    rw [eg] at h
    split at h
    · have := metS_le zs i
      omega
    · rename_i c
      rw [List.length_append, List.length_singleton] at h
      rw [List.take_add_one, List.getElem?_eq_getElem hl]
      show (zs.take i ++ [zs[i]]).Nodup
      rw [List.nodup_append]
      refine ⟨metS_full zs i (Nat.le_of_lt hl) (by omega), by simp, fun a ha b hb z => c ?_⟩
      rw [List.mem_singleton.mp hb] at z
      rw [List.any_eq_true]
      exact ⟨zs[i], (metS_mem zs i (Nat.le_of_lt hl) _).mpr (z ▸ ha), by simp⟩
theorem metS_nodup (zs : List Str) (hn : zs.Nodup) : ∀ i, i ≤ zs.length → metS zs i = zs.take i
  | 0, _ => rfl
  | i + 1, hi => by
    have hl : i < zs.length := hi
    have eg : zs.getD i Str.empty = zs[i] := by rw [List.getD_eq_getElem?_getD, List.getElem?_eq_getElem hl]; rfl
    have ih := metS_nodup zs hn i (Nat.le_of_lt hl)
    unfold metS
    rw [ih, eg, List.take_add_one, List.getElem?_eq_getElem hl]
    rw [if_neg]
    · rfl
    · intro h
      obtain ⟨y, hy, e⟩ := List.any_eq_true.mp h
      have e1 : y = zs[i] := eq_of_beq e
      rw [e1] at hy
      obtain ⟨j, hj, ej⟩ := List.getElem_of_mem hy
      rw [List.length_take] at hj
      rw [List.getElem_take] at ej
      exact List.pairwise_iff_getElem.mp hn j i (by omega) hl (by omega) ej
def setLenS (zs : List Str) : Nat := (metS zs zs.length).length
theorem setLenS_eq (zs : List Str) : decide (V.int (setLenS zs : Nat) = V.int (zs.length : Nat)) = decide zs.Nodup := by
  by_cases h : zs.Nodup
  · have e : setLenS zs = zs.length := by
      unfold setLenS
      rw [metS_nodup zs h zs.length (Nat.le_refl _), List.take_length]
    rw [e, decide_eq_true h]
    exact decide_eq_true rfl
  · rw [decide_eq_false h]
    refine decide_eq_false fun z => h ?_
    have e : setLenS zs = zs.length := by
      have := V.int.inj z
      omega
    have := metS_full zs zs.length (Nat.le_refl _) e
    rwa [List.take_length] at this
section
variable {prog : Program} {w : World} {A : Around} {R : Result → Shared → Prop} {it : Addr} {mine wr : List Addr} {GG : Array GenState → Array GenState → Prop} {n : Nat} {PV : Nat → Value → Prop} {SS : Nat → Shared → Prop}
theorem loop_strs (W : WalksS prog w A.in1 it mine wr GG n PV SS) (a : Addr) (ham : a ∉ mine) (zs : List Str) (hz : zs.length = n) (hb : n + 1 < scanBound) (hv : ∀ i v, PV i v → ∃ t, v = .str (zs.getD i Str.empty) t) :
    ∀ (left i : Nat) (s : Shared), n - i = left → i ≤ n → SS i s → s.heap.SetOf (PySem.strKind prog w) a (fun z => (metS zs i).any (· == z)) (metS zs i).length →
      (∀ s', Moved (a :: wr) GG s s' → s'.heap.SetOf (PySem.strKind prog w) a (fun z => (metS zs n).any (· == z)) (metS zs n).length → R (.ok (.ret .none)) s') →
      codeAny (model prog w) A (.builtin "set.update.loop" ⟨[.ref a, .ref it], []⟩) R s := by
  have haw : a ∉ wr := fun h => ham (W.sub _ h)
  have sub1 : ∀ b ∈ wr, b ∈ a :: wr := fun _ h => List.mem_cons_of_mem _ h
  intro left
  induction left with
  | zero =>
    intro i s hl hi hs hset fin
    obtain rfl : i = n := by omega
    refine codeAny_builtin PyProof.Rows.F.entry_set_update_loop ?_
    rw [Around.under_plainId PyProof.Rows.F.plain_set_update_loop _]
    show wpAny _ A.in1 (pyNext (.ref it) >>= _) _ _ s
    refine wpAny_bind (W.done s _ _ hs fun s1 mv => ?_)
    show wpAny _ A.in1 (ret Value.none) _ _ s1
    refine wpAny_pure (fin s1 (mv.mono sub1) ?_)
    obtain ⟨o, es, ep, t, e, more⟩ := hset
    exact ⟨o, es, ep, t, mv.heap a _ haw e, more⟩
  | succ left ih =>
    intro i s hl hi hs hset fin
    have hlt : i < n := by omega
    refine codeAny_builtin PyProof.Rows.F.entry_set_update_loop ?_
    rw [Around.under_plainId PyProof.Rows.F.plain_set_update_loop _]
    show wpAny _ A.in1 (pyNext (.ref it) >>= _) _ _ s
    refine wpAny_bind (W.item i s _ _ hlt hs fun v s1 hP hs1 mv => ?_)
    obtain ⟨t, rfl⟩ := hv i v hP
    have set1 : s1.heap.SetOf (PySem.strKind prog w) a (fun z => (metS zs i).any (· == z)) (metS zs i).length := by
      obtain ⟨o, es, ep, t, e, more⟩ := hset
      exact ⟨o, es, ep, t, mv.heap a _ haw e, more⟩
    show wpAny _ A.in1 (holding [Value.str (zs.getD i Str.empty) t] (setAdd a (.str (zs.getD i Str.empty) t)) >>= _) _ _ s1
    refine wpAny_bind (wpAny_holding ?_)
    unfold setAdd
    refine wpAny_holding (wpAny_bind ((PySem.strKind prog w).pyHash (k := zs.getD i Str.empty) (strKind_is _ _ _ _) ?_))
    have hroom : (metS zs i).length + 1 < scanBound := by have := metS_le zs i; omega
    refine wpAny_setAddHashed_of (knd := PySem.strKind prog w) (s := { s1 with toks := s1.toks + 1 }) (strKind_is _ _ _ _) rfl set1 hroom fun h2 sb set2 => ?_
    have set3 : h2.SetOf (PySem.strKind prog w) a (fun z => (metS zs (i + 1)).any (· == z)) (metS zs (i + 1)).length := by
      exact SetOf_congr set2 (fun z => metS_any zs i z) (metS_len zs i)
    refine wpAny_pure ⟨plainId_quiet PyProof.Rows.F.plain_set_update_loop _, ih (i + 1) _ (by omega) hlt (W.frame _ s1 _ _ hs1 (Nat.le_succ _) fun b hbm o e => ?_) set3 fun s3 mv3 set4 => ?_⟩
    · exact (sb.2 b (fun z => ham (z ▸ hbm))).trans e
    · refine fin s3 (Moved.trans W.gtrans ((mv.mono sub1).then_heap (Nat.le_succ _) fun b o hbn e => ?_) mv3) set4
      exact (sb.2 b (fun z => hbn (z ▸ List.mem_cons_self))).trans e
end
end Gx
namespace Gx
open PySem PySem.Spec PyProof.Rows L2 RZ
section
variable {prog : Program} {w : World} {A : Around} {E : Value → Shared → Prop} {s : Shared}
theorem strA : ∀ {us : List Value} {zs : List Str}, StrsAre us zs → ∀ (i : Nat) (v : Value), us[i]? = some v → ∃ t, v = .str (zs.getD i Str.empty) t
  | _, _, .nil, _, _, e => by cases e
  | _, _, .cons z t r, 0, _, e => by cases e; exact ⟨t, rfl⟩
  | _, _, .cons z t r, i + 1, v, e => strA r i v e
abbrev set0 (led : Bool) : Obj := { cls := .type "set", dict := none, data := .set #[] 0 (.fresh 0 0 led) }
set_option maxHeartbeats 8000000 in
theorem set_of_strs {l : Addr} {its : Array Value} {zs : List Str} {Q : Value → Shared → Prop} (hd : A.handled = none) (tl : s.heap.IsTuple l its) (za : StrsAre its.toList zs) (hb : zs.length + 1 < scanBound)
    (fin : ∀ (h2 : Heap) (tk : Nat), h2.SetOf (PySem.strKind prog w) s.heap.objs.size (fun z => (metS zs zs.length).any (· == z)) (metS zs zs.length).length → (∀ b o, b < s.heap.objs.size → s.heap.get? b = some o → h2.get? b = some o) →
      Q (.ref s.heap.objs.size) { s with heap := h2, toks := tk }) : wpAny (model prog w) A (call (.type "set") [.ref l]) Q E s := by
  obtain ⟨m1, m2, mroS⟩ := PySem.F.called_set.mro
  have madeS := PySem.F.called_set.made
  have subS := PySem.F.called_set.sub
  refine wpAny_call (codeAny_of_tree ?_)
  show wpAny _ _ (callAny (.type "set") _) _ _ _
  refine wpAny_pure ⟨Code.quiet_builtin _ (by decide +kernel), codeAny_builtin PySem.F.entry_type_call ?_⟩
  rw [Around.under_plain (weight_type_call_type "set" [.ref l] []) rfl]
  have nT := PySem.F.called_set.notType
  have cC := PySem.F.called_set.canCreate
  have tC := PySem.F.typeCall_set_1 (.ref l)
  repeat (any_goals (first | assumption | wp_step))
  refine codeAny_mono (code_set_new_1 (.ref l) (E := E) (Q₁ := fun x s1 => ∃ led : Bool, x = .ref s.heap.objs.size ∧ s1 = { s with heap := s.heap.push (set0 led) }) fun led => ⟨led, rfl, rfl⟩) fun r s1 made => ?_
  cases r with
  | error e => exact made
  | ok fl =>
    cases fl with
    | ret x =>
      obtain ⟨led, rfl, rfl⟩ := made
      have at0 : (s.heap.push (set0 led)).get? s.heap.objs.size = some (set0 led) := Heap.get?_push_size _ rfl
      have ty0 : Shared.TypeIs { s with heap := s.heap.push (set0 led) } (.ref s.heap.objs.size) "set" := ⟨_, at0, rfl⟩
      have iL := PySem.F.called_set.init.lookup
      have iB := PySem.F.called_set.init.bind (.ref s.heap.objs.size)
      repeat (any_goals (first | assumption | wp_step))
      refine codeAny_mono (codeAny_call_builtin (R := wants (fun x s2 => x = .none ∧ ∃ h2 tk, s2 = { s with heap := h2, toks := tk } ∧ h2.SetOf (PySem.strKind prog w) s.heap.objs.size (fun z => (metS zs zs.length).any (· == z)) (metS zs zs.length).length ∧
          ∀ b o, b < s.heap.objs.size → s.heap.get? b = some o → h2.get? b = some o) E) PySem.F.called_set.init.plain PySem.F.entry_set_init (check_set_init_1 ty0 ?_)) fun r2 s2 got => ?_
      · obtain ⟨ob, eo, ec, nn, ed⟩ := tl
        obtain ⟨oc, od, odt, osl⟩ := ob
        simp only at ec ed
        subst ec; subst ed
        have eo2 : (s.heap.push (set0 led)).get? l = some { cls := .type "tuple", dict := od, data := .seq its nn, slots := osl } := Heap.get?_push_of_some _ eo
        have s1 := PySem.F.sub_tuple_set
        have s2 := PySem.F.sub_tuple_frozenset
        have s3 : (Value.type "tuple" == Value.type "dict") = false := by decide
        have tl1 : (s.heap.push (set0 led)).IsTuple l its := ⟨_, eo2, rfl, nn, rfl⟩
        unfold Builtin.«set.__init__» noKeywords Builtin.Frozenset.updateFrom
        generalize hPI : pyIter = PI
        wp_walk
        subst hPI
        refine wpAny_pyIter_tuple tl1 (wpAny_bind (wpAny_runValue ?_))
        have lS : l < s.heap.objs.size := Heap.lt_size eo
        have hd3 : A.in1.in1.in1.handled = none := by simp [hd]
        have lI : l ≠ (s.heap.push (set0 led)).objs.size := by
          rw [Heap.size_push]
          exact Nat.ne_of_lt (Nat.lt_succ_of_lt lS)
        have aM : s.heap.objs.size ∉ [(s.heap.push (set0 led)).objs.size, l] := by
          rw [Heap.size_push]
          simp only [List.mem_cons, List.not_mem_nil, or_false, not_or]
          refine ⟨?_, ?_⟩
          · exact Nat.ne_of_lt (Nat.lt_succ_self _)
          · exact Nat.ne_of_gt lS
        have zl : zs.length = its.size := by rw [← StrsAre.len_eq za, Array.length_toList]
        have zv : ∀ (i : Nat) (v : Value), its[i]? = some v → ∃ t, v = .str (zs.getD i Str.empty) t := fun i v hv => strA za i v (by rw [Array.getElem?_toList]; exact hv)
        refine loop_strs ((Walks.tuple hd3 _ l lI its).toS) s.heap.objs.size aM zs zl (by rw [← zl]; exact hb) zv (its.size - 0) 0 _ (by omega) (Nat.zero_le _) ⟨⟨_, Heap.get?_push_size _ rfl, rfl, rfl⟩, tl1.push _⟩ ?first ?last
        case first =>
          have at1 : ((s.heap.push (set0 led)).push { cls := .type "tuple_iterator", data := .fields #[.ref l, .int 0 0] }).get? s.heap.objs.size = some (set0 led) := Heap.get?_push_of_some _ at0
          exact SetOf_congr ((setObjOf_fresh (knd := PySem.strKind prog w) led).setOf at1 (by unfold scanBound; omega)) (fun _ => rfl) rfl
        case last =>
          intro s4 mv set4
          obtain ⟨h4, g4, d4, t4, os4⟩ := s4
          obtain rfl : g4 = s.gens := mv.gens
          obtain rfl : d4 = s.drawn := mv.drawn
          obtain rfl : os4 = s.os := mv.os
          show wpAny _ _ _ _ _ _
          refine wpAny_pure ?_
          show wpAny _ _ (ret Value.none) _ _ _
          rw [← zl] at set4
          refine wpAny_pure ⟨rfl, h4, t4, rfl, set4, fun b o hbs e => ?_⟩
          refine mv.heap b o ?_ (Heap.get?_push_of_some _ (Heap.get?_push_of_some _ e))
          rw [Heap.size_push]
          simp only [List.mem_cons, List.not_mem_nil, or_false, not_or]
          refine ⟨?_, ?_⟩
          · exact Nat.ne_of_lt hbs
          · exact Nat.ne_of_lt (Nat.lt_succ_of_lt hbs)
      · cases r2 with
        | error e => exact got
        | ok f2 =>
          cases f2 with
          | ret x =>
            obtain ⟨rfl, h2, tk, rfl, set5, keep5⟩ := got
            repeat (any_goals (first | assumption | wp_step))
            exact fin _ _ set5 keep5
          | _ => exact got.elim
    | _ => exact made.elim
def tLenSetS (K : PySem.W.Frag) (ta : TE) : TE := fun σ H Q => ta σ H fun x H1 => ∃ (l : Addr) (zs : List Str), x = .ref l ∧ SqT K H1 l (zs.map V.str) ∧ zs.length ≤ 4000 ∧ Q (.int (setLenS zs : Nat)) H1
theorem pe_lenSetS {X : Cx} {a : Expr} {ta : TE} {p p2 q pos : Pos} (hg : Gl X "len") (hm : X.mg "len" = none) (hg2 : Gl X "set") (hm2 : X.mg "set" = none) (ha : PE X a ta) (hc : X.calm = true := by rfl)
    (na : starEach [a] X.env = (false, eval a X.env) :: starEach [] X.env := by rfl) : PE X (.Call (.Name "len" p) [.Call (.Name "set" p2) [a] [] q] [] pos) (tLenSetS X.K ta) := by
  refine ⟨fun pins s σ H Q I h => ?_⟩
  refine Call_ (ld_blt I hg hm PySem.boot_len (PyProof.Rows.callWith_builtin1 (PyProof.Rows.args_cons ?_ rfl) rfl rfl))
  refine Call_ (ld_blt I hg2 hm2 PyProof.Rows.boot_set (PyProof.Rows.callWith_type1 (PyProof.Rows.args_cons (thn (ha.run pins s σ H _ I h) fun v s1 hv => PyProof.Rows.args_nil ?_) na) na rfl))
  obtain ⟨x, H1, I1, r1, l, zs, rfl, hq, hl, q1⟩ := hv
  cases r1
  obtain ⟨its, r, pl, hz⟩ := I1.tuple hq
  refine set_of_strs (I1.ok.hd hc) pl (by simpa using strsAre_of r) (by unfold scanBound; omega) fun h2 tk hS hk => PyProof.Rows.args_nil ?_
  obtain ⟨o, es, ep, t, ho, hex, hd, _, _, _, hf, hn⟩ := hS
  have I2 : Inv X pins σ H1 { s1 with heap := h2, toks := tk } := I1.kept fun b o e => hk b o (Heap.lt_size e) e
  have hle := metS_le zs zs.length
  exact call_len_set ho hex hd hf (by rw [hn] <;> omega) ⟨.int (setLenS zs : Nat), H1, I2.tok _, ⟨_, by rw [hn]; rfl⟩, q1⟩
end
end Gx
set_option Elab.async false
set_option linter.all false
set_option maxRecDepth 100000
set_option maxHeartbeats 4000000
namespace K0
open PySem PySem.Spec PyProof.Rows L2 Gx RZ
def strOf : PyData → Str
  | .str x => x
  | _ => Str.empty
def areMarksD (d : PyData) : Bool :=
  match d with
  | .tuple ds => decide (1 ≤ ds.length ∧ ds.length ≤ 16) && ((ds.all isNameD) && decide (ds.map strOf).Nodup)
  | _ => false
def lenD : PyData → Nat
  | .tuple ds => ds.length
  | _ => 0
/-- texts are short -/
def Short (d : PyData) : Prop := ∀ ds, d = .tuple ds → ∀ e ∈ ds, ∀ x, e = .str x → x.length ≤ 1000
section
variable {P : Program} {w : World} {K : PySem.W.Frag} {mg : Str → Option Value} {base : Heap}
/-! ### is_joined -/
def spJoined (K : PySem.W.Frag) (T : Addr) : Sp := fun vs H Q _ => ∃ (mp rp : Addr) (xs : List V) (rs : List Rd3), vs = [.ref mp, .ref rp] ∧ SqT K H mp xs ∧ RdsAt K H rp rs ∧ Gx.Good xs.length rs ∧ 0 < xs.length ∧ xs.length ≤ 1000 ∧ rs.length ≤ 1000 ∧ GxR.TabG H T ∧
  ∀ H', Ext [] H H' → Q (.bl (joinedR rs xs.length)) H'
theorem scJoined : FnScope ["marks", "readings"] ["marks", "readings"] (defScope sIsJoined) := ⟨rfl, rfl, rfl, by decide +kernel, rfl, by decide +kernel, by decide +kernel⟩
theorem ok_joined {f fR T : Addr} {fd fdR : FuncData} (ml : mg "len" = none) (F : Fun K "is_joined" "is_joined" sIsJoined f fd)
    (GR : FnOk P w K mg base CX0 8 fR fdR ["many", "readings", "start"] (spReached K T)) (kR : PySem.W.keepIn K (.ref fR) = true) (bR : Binds K fdR ["many", "readings", "start"] []) (gR : mg "reached" = some (.ref fR)) :
    FnOk P w K mg base CX0 9 f fd ["marks", "readings"] (spJoined K T) := by
  refine F.ok scJoined (fun vs H Q E h => ?_) (fun cdv A outer s H vs Q E hr h => ?_)
  · obtain ⟨_, _, _, _, rfl, _⟩ := h
    rfl
  · obtain ⟨mp, rp, xs, rs, rfl, hm, hrd, hgood, h0, hn, hlen, hT, q⟩ := h
    refine ⟨_, pss_one (ps_ret (pe_cmpR op_eq (pe_callB call_len_seq (by rfl) ml PySem.boot_len (pa_cons (pe_call GR hr (by rfl) gR kR bR .nil pass0 (pa_cons (pe_callB call_len_seq (by rfl) ml PySem.boot_len (pa_cons (pv 0) pa_nil)) (pa_cons (pv 1) (pa_cons pe_int pa_nil)))) pa_nil)) (pe_callB call_len_seq (by rfl) ml PySem.boot_len (pa_cons (pv 0) pa_nil)) (nomark _))), ?_⟩
    refine ⟨_, rfl, mp, xs, rfl, .inr hm, _, rfl, rp, xs.length, 0, rs, rfl, hrd, hgood, h0, hn, hlen, hT, fun z H' x e => ?_⟩
    refine ⟨z, _, rfl, .inr (.inl (.inl e)), _, rfl, mp, xs, rfl, .inr (x.sqT hm), rfl, ?_⟩
    have ej : joinedR rs xs.length = decide (V.int (((nI (conR rs xs.length 0)).map V.int).length : Nat) = V.int (xs.length : Nat)) := by
      show decide ((conR rs xs.length 0).length = xs.length) = _
      rw [List.length_map, nI_length]
      exact decide_eq_decide.mpr ⟨fun h => by rw [h], fun h => by have := V.int.inj h; omega⟩
    have := q H' x
    rw [ej] at this
    exact this
/-! ### are_marks -/
def spAreMarks (K : PySem.W.Frag) (T T2 : Addr) : Sp := fun vs H Q _ => ∃ (v : V) (d : PyData), vs = [v] ∧ DQ [] K H d v ∧ Short d ∧ GxR.TabG H T ∧ GxR.TabG H T2 ∧ ∀ H', Ext [] H H' → Q (.bl (areMarksD d)) H'
abbrev nAreMarks : List Str := ["thing", "name"]
theorem scAreMarks : FnScope nAreMarks ["thing"] (defScope sAreMarks) := ⟨rfl, rfl, rfl, by decide +kernel, rfl, by decide +kernel, by decide +kernel⟩
theorem strs_of {H : Hp} : ∀ {ds : List PyData} {xs : List V}, DQs [] K H ds xs → ds.all isNameD = true → xs = (ds.map strOf).map V.str
  | [], xs, h, _ => by rw [DQs] at h; exact h
  | d :: ds, xs, h, hn => by
    rw [DQs] at h
    obtain ⟨v, vs, rfl, h1, h2⟩ := h
    rw [List.all_cons, Bool.and_eq_true] at hn
    cases d with
    | str x =>
      rw [DQ] at h1
      subst h1
      rw [strs_of h2 hn.2]
      rfl
    | _ => cases hn.1
theorem ok_areMarks {f c T T2 fN : Addr} {fd fdN : FuncData} {tk : Tok} (mii : mg "isinstance" = none) (mt : mg "tuple" = none) (ml : mg "len" = none) (mal : mg "all" = none) (mst : mg "set" = none) (mv : mg "MOST_MARKS" = some (.int 16 tk)) (F : FunT K "are_marks" "are_marks" sAreMarks f fd c) (TB : GxR.TabB base mg c T)
    (GN : FnOk P w K mg base CX0 8 fN fdN ["thing"] (spIsName K T2)) (kN : PySem.W.keepIn K (.ref fN) = true) (bN : Binds K fdN ["thing"] []) (gN : mg "is_name" = some (.ref fN)) : FnOk P w K mg base CX0 12 f fd ["thing"] (spAreMarks K T T2) := by
  have nd := scAreMarks.nd
  refine F.ok scAreMarks (fun vs H Q E h => ?_) (fun A outer s H vs Q E hr h => ?_)
  · obtain ⟨_, _, rfl, _⟩ := h
    rfl
  · obtain ⟨v, d, rfl, hd, hsh, hT, hT2, q⟩ := h
    refine ⟨_, pss_cons (ps_if (PW.pt (pw_or (pt_not (pt_val (pe_callB call_isi (by rfl) mii PyProof.Rows.boot_isinstance (pa_cons (pv 0) (pa_cons (pe_bltn (v := .ty "tuple") (u := .type "tuple") (by rfl) mt (by decide +kernel) rfl) pa_nil)))))
        (pw_or1 (pt_not (pt_chain op_le op_le pe_int (pe_callB call_len_seq (by rfl) ml PySem.boot_len (pa_cons (pv 0) pa_nil)) (pe_glob (v := .int 16) rfl mv ⟨_, rfl⟩)))))) (pss_one (ps_ret pe_bl)) pss_nil)
      (pss_one (ps_ret (pe_and (pe_all (k := 9) (psrc (k := 8) (own := [("name", 1)]) (hr.mono (by decide)) rfl nd TB rfl (pi_tup (pv 0)) (blkOk_by (N := nAreMarks) (sc := defScope sAreMarks) (by decide +kernel)) (by decide +kernel) rfl rfl
        (fun _ _ _ _ _ _ _ _ => pg_name (i := 1) nd rfl (.inl rfl)) (fun _ _ _ _ _ _ _ _ _ => pts_nil) (fun _ _ _ _ _ _ _ _ hr' => pe_call GN (hr'.mono (by decide)) (by rfl) gN kN bN .nil pass0 (pa_cons (pv 1) pa_nil))) (hr.mono (by decide)) rfl mal)
        (pe_one (pe_cmpR op_eq (pe_lenSetS (by rfl) ml (by rfl) mst (pv 0)) (pe_callB call_len_seq (by rfl) ml PySem.boot_len (pa_cons (pv 0) pa_nil)) (nomark _)))))), ?_⟩
    refine ⟨_, rfl, v, .ty "tuple", _, _, _, rfl, .ty "tuple", hd.ty d v, kit_tup d hd.nodict, _, rfl, ite2 (fun c0 => ?_) (fun c0 => ?_)⟩
    · have e : areMarksD d = false := by
        cases d <;> first | rfl | cases c0
      rw [e] at q
      exact iteT (q H .refl)
    · obtain ⟨ds, a, xs, rfl, rfl, hs, hq⟩ := dq_tup hd (by cases d <;> first | rfl | exact absurd rfl c0)
      have hl := hq.length
      have bad : ¬ (1 ≤ ds.length ∧ ds.length ≤ 16) → Q (.bl false) H := fun hb => by
        have e : areMarksD (.tuple ds) = false := by
          show (decide _ && _) = false
          rw [decide_eq_false hb, Bool.false_and]
        rw [e] at q
        exact q H .refl
      refine ⟨_, rfl, a, xs, rfl, .inr hs, _, _, rfl, rfl, _, rfl, ?_⟩
      refine ite2 (fun c1 => ?_) (fun c1 => ?_)
      · refine ⟨_, _, rfl, rfl, _, rfl, ite2 (fun c2 => ?_) (fun c2 => ?_)⟩
        · exact bad fun z => by
            rw [decide_eq_true (show ((xs.length : Nat) : Int) ≤ 16 by omega)] at c2
            cases c2
        · have hb : 1 ≤ ds.length ∧ ds.length ≤ 16 := by
            have h1 := of_decide_eq_true c1
            have h2 : ((xs.length : Nat) : Int) ≤ 16 := by
              apply Classical.byContradiction
              intro z
              rw [decide_eq_false z] at c2
              exact c2 rfl
            omega
          have eM : areMarksD (.tuple ds) = ((ds.all isNameD) && decide (ds.map strOf).Nodup) := by
            show (decide _ && _) = _
            rw [decide_eq_true hb, Bool.true_and]
          rw [eM] at q
          refine ⟨_, rfl, a, rfl, ⟨_, hs⟩, hT, fun H2 tb => ?_⟩
          have x2 : Ext [] H H2 := .tabbed hT tb
          refine by_tup (fun i ys H3 => Ext [] H H3 ∧ ys = (ds.take i).map fun x => V.bl (isNameD x)) ⟨x2, rfl⟩ (fun i ys H3 h3 => h3.1.sqT hs) (fun i y ys H3 hy h3 => ?_) (fun ys H3 h3 => ?_)
          · obtain ⟨x3, rfl⟩ := h3
            obtain ⟨dy, hdy, hqy⟩ := hq.at_ hy
            obtain ⟨hi, ei⟩ := List.getElem?_eq_some_iff.mp hdy
            refine ⟨rfl, _, rfl, y, dy, rfl, hqy.ext x3, hsh ds rfl dy (List.mem_of_getElem? hdy), x3.tab _ hT2, fun H4 x4 => ⟨⟨_, rfl, fun hf _ => ?_⟩, fun _ => ⟨x3.trans x4, ?_⟩⟩⟩
            · have : (ds.all isNameD) = false := by
                rw [List.all_eq_false]
                exact ⟨_, List.getElem_mem hi, by rw [ei, hf]; decide⟩
              rw [this, Bool.false_and] at q
              exact ⟨false, rfl, iteF (q _ (x3.trans x4))⟩
            · rw [← snoc (fun x => V.bl (isNameD x)) ds hi, ei]
          · obtain ⟨x3, rfl⟩ := h3
            intro hall
            have hnm : (ds.all isNameD) = true := by
              rw [List.all_eq_true]
              intro x hx
              rw [hl, List.take_length] at hall
              exact V.bl.inj (hall _ (List.mem_map.mpr ⟨x, hx, rfl⟩))
            rw [hnm, Bool.true_and] at q
            have ex := strs_of hq hnm
            have hs3 : SqT K H3 a ((ds.map strOf).map V.str) := by
              rw [← ex]
              exact x3.sqT hs
            refine ⟨true, rfl, iteT ?_⟩
            refine ⟨_, rfl, a, ds.map strOf, rfl, hs3, by rw [List.length_map]; omega, _, rfl, a, _, rfl, .inr hs3, rfl, ?_⟩
            rw [List.length_map, setLenS_eq]
            exact q _ x3
      · exact ⟨_, rfl, iteT (bad fun z => c1 (decide_eq_true (by omega)))⟩
end
end K0
set_option Elab.async false
set_option linter.all false
set_option maxRecDepth 100000
set_option maxHeartbeats 4000000
namespace Gx
open PySem PySem.Spec PyProof.Rows L2 RZ
/-! ### isinstance(e, c) in an except suite, e with a dict -/
def rIsX (K : PySem.W.Frag) (D a : Addr) (cls : Value) (d : Option Addr) : List V → Hp → VK → Prop := fun xs H Q => cls = .ref D ∧ ∃ (dd : Addr) (c : V) (cv : Value) (b : Bool) (fs : List (Str × V)), d = some dd ∧ xs = [.ref a, c] ∧ (∀ u, RelV c u → u = cv) ∧ PySem.W.kitOne K (.ref D) cv = some b ∧ H dd = some (.xd fs) ∧ Q (.bl b) H
theorem call_isX {X : Cx} {a D : Addr} {cls : Value} {d : Option Addr} {oe : Obj} {pn : List (Addr × Obj)} (C : ExcC X.K D) (hz : Zc cls d oe) (hf : ∃ vs, oe.data = .fields vs) : CallR (X.suite a ((a, oe) :: pn)) (.builtin "isinstance") (rIsX X.K D a cls d) := by
  intro pins s σ H xs us Q I r h
  obtain ⟨rfl, dd, c, cv, b, fs, rfl, rfl, hcv, e, hd, q⟩ := h
  obtain ⟨u1, u2, rfl, r1, r2⟩ := vals2 r
  obtain rfl : u1 = Value.ref a := r1
  obtain rfl := hcv _ r2
  obtain ⟨ha, _⟩ := I.pin (a, oe) (List.mem_append_left _ List.mem_cons_self)
  obtain ⟨vs, hv⟩ := hf
  have hx : ObjOk X.prog X.w H s.heap dd (.xd fs) := I.hok dd _ hd
  obtain ⟨mA, hns, _⟩ := hx
  obtain ⟨od, ho, _⟩ := lookIn_ns hns
  have J : PySem.W.InstAt s.heap a oe D (some od) := ⟨ha, hz.1, by unfold PySem.W.notCls; rw [hv] <;> rfl, by rw [hz.2]; exact ho⟩
  have hcl : (PySem.W.clsIn X.K D).isSome = true := by
    obtain ⟨cd, hc, _⟩ := PySem.W.any_some C.hd
    rw [hc]
    rfl
  exact PySem.W.kia_one (PySem.W.kitx_exc (od := some od) hcl C.hg C.hk C.hs C.ha C.hn C.ht C.hm) I.kIn J e (fun z => nomatch z) fun tk => ⟨.bl b, H, I.kept (t' := tk) fun _ _ z => z, rfl, q⟩
/-- the heap behind a raise -/
theorem ext_two {H H1 : Hp} {a d : Addr} {o : HO} (ha : H a = none) (hd : H d = none) (h : ∀ b, b ≠ a → b ≠ d → H1 b = H b) (hd1 : H1 d = some o) : Ext [] H H1 := by
  have k : ∀ {b : Addr} {u : HO}, H b = some u → H1 b = some u := fun {b u} e => by
    rw [h b (fun z => by rw [z, ha] at e; cases e) (fun z => by rw [z, hd] at e; cases e)]
    exact e
  refine ⟨fun b u e _ _ => k e, fun b u e => k e, fun b u o e => k e, fun P ⟨ps, e, t⟩ => ⟨ps, k e, t⟩, fun b e => ?_⟩
  by_cases h1 : b = a
  · rw [h1]; exact ha
  · by_cases h2 : b = d
    · rw [h2, hd1] at e; cases e
    · rw [← h b h1 h2]; exact e
end Gx
set_option Elab.async false
set_option linter.all false
set_option maxRecDepth 100000
set_option maxHeartbeats 4000000
namespace K0
open PySem PySem.Spec PyProof.Rows L2 Gx RZ
def isNetD (d : PyData) : Bool :=
  match d with
  | .tuple [t, m, r] => PyData.eqv t (.str "net") && (areMarksD m && areReadingsD r (lenD m))
  | _ => false
/-- what the promises want of the data: texts are short, the first part may be compared -/
def Fit (d : PyData) : Prop := ∀ t m r, d = .tuple [t, m, r] → SeqAt.shaped t = true ∧ Short m
def toRd : PyData → Rd3
  | .tuple [.int s, .int e, .int v] => (s.toNat, e.toNat, v)
  | _ => (0, 0, 0)
noncomputable def joinD (d : PyData) : Bool :=
  match d with
  | .tuple [_, m, .tuple rds] => joinedR (rds.map toRd) (lenD m)
  | _ => false
section
variable {P : Program} {w : World} {K : PySem.W.Frag} {mg : Str → Option Value} {base : Heap}
theorem isNet_no {d : PyData} (h : isRowD d 3 = false) : isNetD d = false := by
  match d, h with
  | .tuple [], _ => rfl
  | .tuple [_], _ => rfl
  | .tuple [_, _], _ => rfl
  | .tuple [_, _, _], h => cases h
  | .tuple (_ :: _ :: _ :: _ :: _), _ => rfl
  | .none, _ => rfl
  | .bool _, _ => rfl
  | .int _, _ => rfl
  | .str _, _ => rfl
  | .list _, _ => rfl
  | .dict _, _ => rfl
/-! ### is_net -/
/-- the tables that a net's look needs: of are_marks, is_name, are_readings -/
structure Tabs3 (H : Hp) (T1 T2 T3 : Addr) : Prop where
  t1 : GxR.TabG H T1
  t2 : GxR.TabG H T2
  t3 : GxR.TabG H T3
theorem Tabs3.ext {H H' : Hp} {T1 T2 T3 : Addr} {c : List Addr} (t : Tabs3 H T1 T2 T3) (x : Ext c H H') : Tabs3 H' T1 T2 T3 := ⟨x.tab _ t.t1, x.tab _ t.t2, x.tab _ t.t3⟩
def spIsNet (K : PySem.W.Frag) (T1 T2 T3 : Addr) : Sp := fun vs H Q _ => ∃ (v : V) (d : PyData), vs = [v] ∧ DQ [] K H d v ∧ Fit d ∧ Tabs3 H T1 T2 T3 ∧ ∀ H', Ext [] H H' → Q (.bl (isNetD d)) H'
abbrev nIsNet : List Str := ["thing", "_", "marks", "readings"]
theorem scIsNet : FnScope nIsNet ["thing"] (defScope sIsNet) := ⟨rfl, rfl, rfl, by decide +kernel, rfl, by decide +kernel, by decide +kernel⟩
theorem ok_isNet {f fR fA fG T1 T2 T3 : Addr} {fd fdR fdA fdG : FuncData} (ml : mg "len" = none) (mii : mg "isinstance" = none) (mt : mg "tuple" = none) (F : Fun K "is_net" "is_net" sIsNet f fd)
    (FR : Fun K "is_row" "is_row" sIsRow fR fdR) (bR : Binds K fdR ["thing", "many"] []) (gR : mg "is_row" = some (.ref fR))
    (GA : FnOk P w K mg base CX0 12 fA fdA ["thing"] (spAreMarks K T1 T2)) (kA : PySem.W.keepIn K (.ref fA) = true) (bA : Binds K fdA ["thing"] []) (gA : mg "are_marks" = some (.ref fA))
    (GG : FnOk P w K mg base CX0 8 fG fdG ["thing", "many"] (spAreReadings K T3)) (kG : PySem.W.keepIn K (.ref fG) = true) (bG : Binds K fdG ["thing", "many"] []) (gG : mg "are_readings" = some (.ref fG)) :
    FnOk P w K mg base CX0 13 f fd ["thing"] (spIsNet K T1 T2 T3) := by
  have nd := scIsNet.nd
  have GR : FnOk P w K mg base CX0 1 fR fdR ["thing", "many"] (spIsRow K) := ok_isRow mii mt ml FR
  refine F.ok scIsNet (fun vs H Q E h => ?_) (fun cdv A outer s H vs Q E hr h => ?_)
  · obtain ⟨_, _, rfl, _⟩ := h
    rfl
  · obtain ⟨v, d, rfl, hd, hfit, ht, q⟩ := h
    have hu := hr.units
    refine ⟨_, pss_cons (ps_if (PW.pt (pw_or (pt_not (pt_val (pe_call GR (hr.mono (by decide)) (by rfl) gR FR.kp bR .nil pass0 (pa_cons (pv 0) (pa_cons pe_int pa_nil))))) (pw_or1 (pt_cmpR (op_neD hu) (pe_ix ix_tup (pv 0) pe_int (fun _ _ => rfl)) pe_str (nomark _))))) (pss_one (ps_ret pe_bl)) pss_nil)
      (pss_cons (ps_asg (pv 0) (pg_tup rfl (pgs_cons (pg_name (i := 1) nd rfl (.inl rfl)) (pgs_cons (pg_name (i := 2) nd rfl (.inl rfl)) (pgs_cons (pg_name (i := 3) nd rfl (.inl rfl)) pgs_nil)))))
      (pss_one (ps_ret (pe_and (pe_call GA hr (by rfl) gA kA bA .nil pass0 (pa_cons (pv 2) pa_nil)) (pe_one (pe_call GG (hr.mono (by decide)) (by rfl) gG kG bG .nil pass0 (pa_cons (pv 3) (pa_cons (pe_callB call_len_seq (by rfl) ml PySem.boot_len (pa_cons (pv 2) pa_nil)) pa_nil)))))))), ?_⟩
    refine ⟨_, rfl, v, d, 3, rfl, hd, _, rfl, ?_⟩
    cases hrow : isRowD d 3
    · rw [isNet_no hrow] at q
      exact iteT (q H .refl)
    obtain ⟨ds, a, xs, rfl, rfl, hs, hq⟩ := dq_tup hd (by cases d <;> first | rfl | cases hrow)
    obtain ⟨t, m, r, u1, u2, u3, rfl, rfl, h1, h2, h3⟩ := three_of hq (of_decide_eq_true hrow)
    obtain ⟨f1, f2⟩ := hfit t m r rfl
    have eN : isNetD (.tuple [t, m, r]) = (PyData.eqv t (.str "net") && (areMarksD m && areReadingsD r (lenD m))) := rfl
    rw [eN] at q
    refine iteF ⟨_, rfl, a, _, _, _, rfl, rfl, hs, atI_nat (j := 0) rfl, _, _, h1.dp t u1, .str _, f1, by decide +kernel, _, rfl, ?_⟩
    cases he : PyData.eqv t (.str "net")
    · rw [he, Bool.false_and] at q
      exact iteT (q H .refl)
    rw [he, Bool.true_and] at q
    refine iteF ?_
    refine ⟨_, rfl, a, _, rfl, hs, rfl, _, _, rfl, _, _, rfl, _, _, rfl, rfl, ?_⟩
    refine ⟨_, rfl, u2, m, rfl, h2, f2, ht.t1, ht.t2, fun H1 x1 => ⟨_, rfl, ?_⟩⟩
    cases hm : areMarksD m
    · rw [hm, Bool.false_and] at q
      exact iteF (q H1 x1)
    rw [hm, Bool.true_and] at q
    obtain ⟨ms, am, ys, rfl, rfl, hms, hqm⟩ := dq_tup h2 (by cases m <;> first | rfl | cases hm)
    have lm : ys.length = lenD (.tuple ms) := hqm.length
    refine iteT ⟨_, rfl, _, rfl, am, ys, rfl, .inr (x1.sqT hms), u3, r, ys.length, rfl, h3.ext x1 r u3, x1.tab _ ht.t3, fun H2 x2 => ?_⟩
    rw [lm]
    exact q H2 (x1.trans x2)
/-! ### BadNet.__init__ -/
def sInit : Stmt := match topS 2 with
  | .ClassDef (body := b) .. => b.getD 0 (.Pass ⟨0, 0, 0, 0⟩)
  | _ => .Pass ⟨0, 0, 0, 0⟩
/-- what the written part says of BadNet -/
structure BadC (K : PySem.W.Frag) (C : Addr) : Prop where
  o : OexC K C
  fl : PySem.W.findIn K (.ref C) "line" = some none
  fr : PySem.W.findIn K (.ref C) "reason" = some none
def spInit (K : PySem.W.Frag) (C : Addr) : Sp := fun vs H Q _ => ∃ (a : Addr) (x y : V), vs = [.ref a, x, y] ∧ BadC K C ∧ H a = some (exo a C none) ∧
  ∀ dx, H dx = none → dx ≠ a → Q .non (upd (upd (upd H dx (exd dx [("line", x)])) a (exo a C (some dx))) dx (exd dx [("reason", y), ("line", x)]))
theorem scInit : FnScope ["self", "line", "reason"] ["self", "line", "reason"] (defScope sInit) := ⟨rfl, rfl, rfl, by decide +kernel, rfl, by decide +kernel, by decide +kernel⟩
theorem ok_init {f C : Addr} {fd : FuncData} (F : Fun K "__init__" "BadNet.__init__" sInit f fd) : FnOk P w K mg base CX0 1 f fd ["self", "line", "reason"] (spInit K C) := by
  refine F.ok scInit (fun vs H Q E h => ?_) (fun cdv A outer s H vs Q E hr h => ?_)
  · obtain ⟨_, _, _, rfl, _⟩ := h
    rfl
  · obtain ⟨a, x, y, rfl, B, ha, q⟩ := h
    refine ⟨_, pss_cons (ps_ost (pv 0) (pv 1)) (pss_one (ps_ost (pv 0) (pv 2))), ?_⟩
    refine ⟨_, rfl, _, rfl, a, C, rfl, B.o, B.fl, .inl ⟨ha, fun dx h1 h2 => ?_⟩⟩
    exact ⟨_, rfl, _, rfl, a, C, rfl, B.o, B.fr, .inr ⟨dx, [("line", x)], upd_same, by rw [upd_ne h2]; exact upd_same, by show 1 ≤ 900; decide, q dx h1 h2⟩⟩
/-! ### check_net -/
def spCheck (K : PySem.W.Frag) (C T1 T2 T3 T4 : Addr) : Sp := fun vs H Q E => ∃ (v : V) (d : PyData), vs = [v] ∧ DQ [] K H d v ∧ Fit d ∧ Tabs3 H T1 T2 T3 ∧ GxR.TabG H T4 ∧ BadC K C ∧
  (isNetD d = false → ∀ H' dd, Ext [] H H' → H' dd = some (.xd [("reason", .str "not a net"), ("line", .int 0)]) → E (.ref C) (some dd) H') ∧
  (isNetD d = true → (joinD d = false → ∀ H' dd, Ext [] H H' → H' dd = some (.xd [("reason", .str "not joined"), ("line", .int 0)]) → E (.ref C) (some dd) H') ∧ (joinD d = true → ∀ H', Ext [] H H' → Q .non H'))
abbrev nCheck : List Str := ["net", "_", "marks", "readings"]
theorem scCheck : FnScope nCheck ["net"] (defScope sCheckNet) := ⟨rfl, rfl, rfl, by decide +kernel, rfl, by decide +kernel, by decide +kernel⟩
theorem rds_of {H : Hp} {n : Nat} : ∀ {ds : List PyData} {xs : List V}, DQs [] K H ds xs → (ds.all fun x => isReadingD x n) = true → (∀ (i : Nat) (r : Rd3), (ds.map toRd)[i]? = some r → ∃ v, xs[i]? = some v ∧ RdAt K H v r) ∧ Gx.Good n (ds.map toRd)
  | [], xs, _, _ => ⟨fun i r e => (by cases e), fun r hr => (by cases hr)⟩
  | d :: ds, xs, h, hr => by
    rw [DQs] at h
    obtain ⟨v, vs, rfl, h1, h2⟩ := h
    rw [List.all_cons, Bool.and_eq_true] at hr
    obtain ⟨hr1, hr2⟩ := hr
    obtain ⟨ih1, ih2⟩ := rds_of h2 hr2
    have hrow : isRowD d 3 = true := by
      cases e : isRowD d 3
      · rw [isReading_no e] at hr1
        cases hr1
      · rfl
    obtain ⟨es, a, ys, rfl, rfl, hs, hq⟩ := dq_tup h1 (by cases d <;> first | rfl | cases hrow)
    obtain ⟨s1, e1, v1, u1, u2, u3, rfl, rfl, k1, k2, k3⟩ := three_of hq (of_decide_eq_true hrow)
    have eR : (isIndexD s1 n && (isIndexD e1 n && (!eqI s1 e1 && isValueD v1))) = true := hr1
    rw [Bool.and_eq_true, Bool.and_eq_true, Bool.and_eq_true] at eR
    obtain ⟨i1, i2, i3, i4⟩ := eR
    obtain ⟨i, rfl, rfl⟩ := int_of k1 i1
    obtain ⟨j, rfl, rfl⟩ := int_of k2 i2
    obtain ⟨k, rfl⟩ : ∃ k, v1 = .int k := by
      cases v1 <;> first | exact ⟨_, rfl⟩ | cases i4
    rw [DQ] at k3
    subst k3
    have b1 : 0 ≤ i ∧ i < n := by
      have : (decide (0 ≤ i) && decide (i < n)) = true := i1
      rw [Bool.and_eq_true] at this
      exact ⟨of_decide_eq_true this.1, of_decide_eq_true this.2⟩
    have b2 : 0 ≤ j ∧ j < n := by
      have : (decide (0 ≤ j) && decide (j < n)) = true := i2
      rw [Bool.and_eq_true] at this
      exact ⟨of_decide_eq_true this.1, of_decide_eq_true this.2⟩
    have b3 : i ≠ j := fun z => by
      have : (!decide (i = j)) = true := i3
      rw [decide_eq_true z] at this
      cases this
    refine ⟨fun m r e => ?_, fun r hr => ?_⟩
    · cases m with
      | zero =>
        cases e
        refine ⟨_, rfl, a, rfl, ?_⟩
        show SqT K H a [.int ((i.toNat : Nat) : Int), .int ((j.toNat : Nat) : Int), .int k]
        rw [Int.toNat_of_nonneg b1.1, Int.toNat_of_nonneg b2.1]
        exact hs
      | succ m => exact ih1 m r e
    · rcases List.mem_cons.mp hr with rfl | hr
      · show i.toNat < n ∧ j.toNat < n ∧ i.toNat ≠ j.toNat
        omega
      · exact ih2 r hr
theorem ok_check {f fN fJ fI C T1 T2 T3 T4 : Addr} {fd fdN fdJ fdI : FuncData} (F : Fun K "check_net" "check_net" sCheckNet f fd)
    (GN : FnOk P w K mg base CX0 13 fN fdN ["thing"] (spIsNet K T1 T2 T3)) (kN : PySem.W.keepIn K (.ref fN) = true) (bN : Binds K fdN ["thing"] []) (gN : mg "is_net" = some (.ref fN))
    (GJ : FnOk P w K mg base CX0 9 fJ fdJ ["marks", "readings"] (spJoined K T4)) (kJ : PySem.W.keepIn K (.ref fJ) = true) (bJ : Binds K fdJ ["marks", "readings"] []) (gJ : mg "is_joined" = some (.ref fJ))
    (FI : Fun K "__init__" "BadNet.__init__" sInit fI fdI) (bI : Binds K fdI ["self", "line", "reason"] []) (iC : PySem.W.findIn K (.ref C) "__init__" = some (some (.ref fI))) (tI : PySem.W.typeIn K (.ref fI) = some (.type "function")) (gC : mg "BadNet" = some (.ref C)) (BC : BadC K C) :
    FnOk P w K mg base (CX P w) 14 f fd ["net"] (spCheck K C T1 T2 T3 T4) := by
  have nd := scCheck.nd
  have GI : FnOk P w K mg base CX0 1 fI fdI ["self", "line", "reason"] (spInit K C) := ok_init FI
  refine F.okX scCheck (fun vs H Q E h => ?_) (fun cdv A outer s H vs Q E hr h => ?_)
  · obtain ⟨_, _, rfl, _⟩ := h
    rfl
  · obtain ⟨v, d, rfl, hd, hfit, ht, ht4, BC, q1, q2⟩ := h
    refine ⟨_, pss_cons (ps_if (pt_not (pt_val (pe_call GN hr (by rfl) gN kN bN .nil pass0 (pa_cons (pv 0) pa_nil)))) (pss_one (ps_raise rfl (takes_of rfl rfl rfl rfl) (pmk_oex BC.o iC tI GI (hr.mono (by decide)) bI .nil pass0 (by rfl) gC (pa_cons pe_int (pa_cons pe_str pa_nil))))) pss_nil)
      (pss_cons (ps_asg (pv 0) (pg_tup rfl (pgs_cons (pg_name (i := 1) nd rfl (.inl rfl)) (pgs_cons (pg_name (i := 2) nd rfl (.inl rfl)) (pgs_cons (pg_name (i := 3) nd rfl (.inl rfl)) pgs_nil)))))
      (pss_one (ps_if (pt_not (pt_val (pe_call GJ (hr.mono (by decide)) (by rfl) gJ kJ bJ .nil pass0 (pa_cons (pv 2) (pa_cons (pv 3) pa_nil))))) (pss_one (ps_raise rfl (takes_of rfl rfl rfl rfl) (pmk_oex BC.o iC tI GI (hr.mono (by decide)) bI .nil pass0 (by rfl) gC (pa_cons pe_int (pa_cons pe_str pa_nil))))) pss_nil))), ?_⟩
    have made : ∀ (x : Str) (H1 : Hp) (EE : XK), (∀ H' dd, Ext [] H1 H' → H' dd = some (.xd [("reason", .str x), ("line", .int 0)]) → EE (.ref C) (some dd) H') →
        ∀ a, H1 a = none → spInit K C [.ref a, .int 0, .str x] (upd H1 a (exo a C none)) (fun v H2 => v = .non ∧ ∃ (d : Addr) (fs : List (Str × V)), H2 a = some (exo a C (some d)) ∧ H2 d = some (exd d fs) ∧ H1 d = none ∧ EE (.ref C) (some d) (upd (del H2 a) d (.xd fs))) (fun _ _ _ => False) := fun x H1 EE hE a ha => by
      refine ⟨a, .int 0, .str x, rfl, BC, upd_same, fun dx h1 h2 => ⟨rfl, dx, _, by rw [upd_ne h2.symm]; exact upd_same, upd_same, by rw [upd_ne h2] at h1; exact h1, ?_⟩⟩
      have hd1 : H1 dx = none := by rw [upd_ne h2] at h1; exact h1
      refine hE _ dx (ext_two ha hd1 (fun b hb1 hb2 => ?_) upd_same) upd_same
      rw [upd_ne hb2, del_ne hb1, upd_ne hb2, upd_ne hb1, upd_ne hb2, upd_ne hb1]
    refine ⟨_, rfl, v, d, rfl, hd, hfit, ht, fun H1 x1 => ⟨_, rfl, ?_⟩⟩
    cases hN : isNetD d
    · refine iteT ⟨by decide, made "not a net" H1 E fun H' dd x e => q1 hN H' dd (x1.trans x) e⟩
    obtain ⟨qa, qb⟩ := q2 hN
    have hrow : isRowD d 3 = true := by
      cases e : isRowD d 3
      · rw [isNet_no e] at hN
        cases hN
      · rfl
    obtain ⟨ds, a, xs, rfl, rfl, hs, hq⟩ := dq_tup hd (by cases d <;> first | rfl | cases hrow)
    obtain ⟨t, m, r, u1, u2, u3, rfl, rfl, h1, h2, h3⟩ := three_of hq (of_decide_eq_true hrow)
    have eN : (PyData.eqv t (.str "net") && (areMarksD m && areReadingsD r (lenD m))) = true := hN
    rw [Bool.and_eq_true, Bool.and_eq_true] at eN
    obtain ⟨_, em, er⟩ := eN
    obtain ⟨ms, am, ys, rfl, rfl, hms, hqm⟩ := dq_tup h2 (by cases m <;> first | rfl | cases em)
    obtain ⟨rds, ar, zs, rfl, rfl, hrs, hqr⟩ := dq_tup h3 (by cases r <;> first | rfl | cases er)
    have lm : ys.length = ms.length := hqm.length
    have em2 : (decide (1 ≤ ms.length ∧ ms.length ≤ 16) && ((ms.all isNameD) && decide (ms.map strOf).Nodup)) = true := em
    have er2 : (decide (rds.length ≤ 80) && rds.all fun x => isReadingD x ms.length) = true := er
    rw [Bool.and_eq_true] at em2 er2
    have bm := of_decide_eq_true em2.1
    have br := of_decide_eq_true er2.1
    have hqr1 := DQs.ext x1 rds zs hqr
    obtain ⟨f1, f2⟩ := rds_of hqr1 er2.2
    refine iteF ⟨_, rfl, a, _, rfl, x1.sqT hs, rfl, _, _, rfl, _, _, rfl, _, _, rfl, rfl, ?_⟩
    refine ⟨_, rfl, _, rfl, am, ar, ys, rds.map toRd, rfl, x1.sqT hms, ⟨zs, x1.sqT hrs, by rw [hqr.length, List.length_map], f1⟩, by rw [lm]; exact f2, by omega, by omega, by rw [List.length_map]; omega, x1.tab _ ht4, fun H2 x2 => ⟨_, rfl, ?_⟩⟩
    rw [lm]
    have eJ : joinD (.tuple [t, .tuple ms, .tuple rds]) = joinedR (rds.map toRd) ms.length := rfl
    rw [eJ] at qa qb
    cases hJ : joinedR (rds.map toRd) ms.length
    · exact iteT ⟨by decide, made "not joined" H2 E fun H' dd x e => qa hJ H' dd ((x1.trans x2).trans x) e⟩
    · exact iteF (qb hJ H2 (x1.trans x2))
end
end K0
set_option Elab.async false
set_option linter.all false
set_option maxRecDepth 100000
set_option maxHeartbeats 4000000
namespace L0
open PySem PySem.Spec PyProof.Rows L2 Gx RZ
abbrev sCell : Stmt := K0.topS 26
abbrev sDigits : Stmt := K0.topS 27
abbrev sDraw : Stmt := K0.topS 28
abbrev sPick : Stmt := K0.topS 29
abbrev sSame : Stmt := K0.topS 30
abbrev sMarks : Stmt := K0.topS 31
abbrev sReading : Stmt := K0.topS 32
abbrev sNet : Stmt := K0.topS 33
abbrev sTold : Stmt := K0.topS 36
abbrev sBadR : Stmt := K0.topS 37
abbrev sBadM : Stmt := K0.topS 38
abbrev sReachL : Stmt := K0.topS 39
abbrev sLaw : Stmt := K0.topS 40
section
variable {P : Program} {w : World} {K : PySem.W.Frag} {mg : Str → Option Value} {base : Heap}
/-! ### _law_cell -/
def spCell (K : PySem.W.Frag) : Sp := fun vs H Q _ => ∃ (a : Addr) (xs : List Int) (k : Nat), vs = [.ref a, .int (k : Nat)] ∧ SqL K H a (xs.map V.int) ∧ ∀ x : Int, Q (.int x) H
theorem scCell : FnScope ["script", "k"] ["script", "k"] (defScope sCell) := ⟨rfl, rfl, rfl, by decide +kernel, rfl, by decide +kernel, by decide +kernel⟩
theorem ok_cell {f : Addr} {fd : FuncData} (ml : mg "len" = none) (F : Fun K "_law_cell" "_law_cell" sCell f fd) : FnOk P w K mg base CX0 1 f fd ["script", "k"] (spCell K) := by
  refine F.ok scCell (fun vs H Q E h => ?_) (fun cdv A outer s H vs Q E hr h => ?_)
  · obtain ⟨_, _, _, rfl, _⟩ := h
    rfl
  · obtain ⟨a, xs, k, rfl, hs, q⟩ := h
    refine ⟨_, pss_cons (ps_if (pt_cmpR op_lt (pv 1) (pe_callB call_len_seq (by rfl) ml PySem.boot_len (pa_cons (pv 0) pa_nil)) (nomark _)) (pss_one (ps_ret (pe_ix ix_list (pv 0) (pv 1) (fun _ _ => rfl)))) pss_nil)
      (pss_one (ps_ret pe_int)), ?_⟩
    refine ⟨_, rfl, _, rfl, a, _, rfl, .inl hs, _, _, rfl, rfl, _, rfl, ite2 (fun e => ?_) (fun e => ?_)⟩
    · have hk : k < xs.length := by
        have := of_decide_eq_true e
        rw [List.length_map] at this
        omega
      exact ⟨_, rfl, _, rfl, a, _, _, _, rfl, rfl, hs, atI_nat (ints_at hk), q _⟩
    · exact q 0
/-! ### _law_digits -/
def spDigits (K : PySem.W.Frag) : Sp := fun vs H Q _ => ∃ (a : Addr) (xs : List Int), vs = [.ref a, .int 0, .int 60] ∧ SqL K H a (xs.map V.int) ∧
  ∀ (d : Addr) (ds : List Int) (H' : Hp), Ext [] H H' → H d = none → H' d = some (.lst (ds.map V.int)) → Q (.ref d) H'
abbrev nDigits : List Str := ["script", "first", "last", "digits", "k", "cell", "turn", "seed"]
theorem scDigits : FnScope nDigits ["script", "first", "last"] (defScope sDigits) := ⟨rfl, rfl, rfl, by decide +kernel, rfl, by decide +kernel, by decide +kernel⟩
/-- the list that is made -/
structure Dig (H : Hp) (n : Nat) (d : Addr) (H' : Hp) : Prop where
  x : Ext [] H H'
  new : H d = none
  lst : ∃ ds : List Int, H' d = some (.lst (ds.map V.int)) ∧ ds.length ≤ n
theorem Dig.push {H H' : Hp} {n : Nat} {d : Addr} {ds : List Int} (h : Dig H n d H') (e : H' d = some (.lst (ds.map V.int))) (hn : ds.length ≤ n) (i : Int) : Dig H (n + 1) d (upd H' d (.lst (ds.map V.int ++ [.int i]))) :=
  ⟨h.x.own h.new e, h.new, ds ++ [i], by rw [upd_same, List.map_append]; rfl, by rw [List.length_append]; simpa using hn⟩
theorem ok_digits {f fC : Addr} {fd fdC : FuncData} (ml : mg "len" = none) (mr : mg "range" = none) (mi : mg "int" = none) (F : Fun K "_law_digits" "_law_digits" sDigits f fd)
    (FC : Fun K "_law_cell" "_law_cell" sCell fC fdC) (bC : Binds K fdC ["script", "k"] []) (gC : mg "_law_cell" = some (.ref fC)) : FnOk P w K mg base CX0 2 f fd ["script", "first", "last"] (spDigits K) := by
  have GC : FnOk P w K mg base CX0 1 fC fdC ["script", "k"] (spCell K) := ok_cell ml FC
  have nd := scDigits.nd
  refine F.ok scDigits (fun vs H Q E h => ?_) (fun cdv A outer s H vs Q E hr h => ?_)
  · obtain ⟨_, _, rfl, _⟩ := h
    rfl
  · obtain ⟨a, xs, rfl, hs, q⟩ := h
    refine ⟨_, pss_cons (ps_set (i := 3) nd rfl (.inl rfl) (pe_lst pa_nil))
      (pss_cons (ps_for PassesOwn.never rfl (pi_range2 (by rfl) mr (pa_cons (pv 1) (pa_cons (pv 2) pa_nil))) (pg_name (i := 4) nd rfl (.inl rfl))
        (pss_cons (ps_set (i := 5) nd rfl (.inl rfl) (pe_call GC hr (by rfl) gC FC.kp bC .nil pass0 (pa_cons (pv 0) (pa_cons (pv 4) pa_nil))))
        (pss_cons (ps_if (pt_cmpR op_lt (pv 5) pe_int (nomark _)) (pss_one (ps_set (i := 5) nd rfl (.inl rfl) (pe_op op_sub pe_int (pe_op op_mul pe_int (pv 5))))) pss_nil)
        (pss_one (ps_if (pt_cmpR op_ge (pv 5) (pe_op op_pow pe_int pe_int) (nomark _))
          (pss_one (ps_for PassesOwn.never rfl (pi_range1 (by rfl) mr (pa_cons pe_int pa_nil)) (pg_name (i := 6) nd rfl (.inl rfl))
            (pss_one (ps_if (pt_cmpR op_gt (pv 5) pe_int (nomark _))
              (pss_cons (ps_expr (pe_bm PySem.F.plainAttrs_list PySem.F.slot_list_append PySem.F.type_list_append mt_append (pv 3) (pa_cons (pe_op op_mod (pe_callTy call_int1 (by rfl) mi PyProof.Rows.boot_int (pa_cons (pv 5) pa_nil)) pe_int) pa_nil)))
              (pss_one (ps_set (i := 5) nd rfl (.inl rfl) (pe_op op_fdiv (pv 5) pe_int)))) pss_nil))))
          (pss_cons (ps_set (i := 7) nd rfl (.inl rfl) (pe_op op_mod (pe_callTy call_int1 (by rfl) mi PyProof.Rows.boot_int (pa_cons (pe_op op_add (pe_op op_add (pe_op op_mul (pv 5) pe_int) (pe_op op_mul (pv 4) pe_int)) pe_int) pa_nil)) pe_int))
          (pss_one (ps_for PassesOwn.never rfl (pi_range1 (by rfl) mr (pa_cons pe_int pa_nil)) (pg_name (i := 6) nd rfl (.inl rfl))
            (pss_cons (ps_set (i := 7) nd rfl (.inl rfl) (pe_op op_mod (pe_callTy call_int1 (by rfl) mi PyProof.Rows.boot_int (pa_cons (pe_op op_add (pe_op op_add (pe_op op_mul (pv 7) pe_int) (pe_op op_mul pe_int (pv 6))) pe_int) pa_nil)) pe_int))
            (pss_one (ps_expr (pe_bm PySem.F.plainAttrs_list PySem.F.slot_list_append PySem.F.type_list_append mt_append (pv 3) (pa_cons (pe_op op_mod (pe_callTy call_int1 (by rfl) mi PyProof.Rows.boot_int (pa_cons (pe_op op_fdiv (pv 7) pe_int) pa_nil)) pe_int) pa_nil)))))))))))))
      (pss_one (ps_ret (pv 3)))), ?_⟩
    refine ⟨by decide, fun d hd => ?_⟩
    refine ⟨_, rfl, _, rfl, 0, 60, rfl, by decide, for_range (n := 60)
      (fun i σ H3 => ∃ y4 y5 y6 y7, σ = [some (.ref a), some (.int 0), some (.int 60), some (.ref d), y4, y5, y6, y7] ∧ Dig H (60 * i) d H3)
      ⟨_, _, _, _, rfl, .new hd, hd, [], upd_same, Nat.le_refl _⟩ (fun i σ H3 hi h3 => ?_) (fun σ H3 h3 => ?_)⟩
    · obtain ⟨y4, y5, y6, y7, rfl, D3⟩ := h3
      have hk : ((0 : Int) + (i : Nat)) = ((i : Nat) : Int) := by omega
      refine ⟨_, rfl, _, rfl, a, xs, i, by rw [hk]; rfl, D3.x.sqL hs (by simp), fun x => ?_⟩
      -- the sign
      refine ⟨_, rfl, _, _, rfl, rfl, _, rfl, ?_⟩
      refine ite2 (fun _ => ?_) (fun _ => ?_)
      refine ⟨_, rfl, _, _, rfl, rfl, .inl (by decide), _, _, rfl, rfl, ?_⟩
      all_goals
        refine ⟨_, rfl, _, _, rfl, rfl, ⟨by decide, by decide, by decide⟩, _, _, rfl, rfl, _, rfl, ?_⟩
        refine ite2 (fun _ => ?_) (fun _ => ?_)
        · refine ⟨_, rfl, by decide, by decide, for_range (n := 60)
            (fun j σ H4 => ∃ y5 y6, σ = [some (.ref a), some (.int 0), some (.int 60), some (.ref d), some (.int (0 + (i : Nat))), some (.int y5), y6, y7] ∧ Dig H (60 * i + j) d H4)
            ⟨_, _, rfl, D3⟩ (fun j σ H4 hj h4 => ?_) (fun σ H4 h4 => ?_)⟩
          · obtain ⟨c, z6, rfl, D4⟩ := h4
            refine ⟨_, rfl, _, _, rfl, rfl, _, rfl, ?_⟩
            refine ite2 (fun _ => ?_) (fun _ => ?_)
            · obtain ⟨ds, e, hn⟩ := D4.lst
              refine ⟨_, rfl, .inl ⟨rfl, _, SqL.of e⟩, _, rfl, .inl ⟨_, rfl, _, _, rfl, rfl, by show (0 : Int) < 1000; decide, ?_⟩⟩
              refine ⟨d, _, _, rfl, rfl, e, by rw [List.length_map]; show _ < 2 ^ 24; omega, ?_⟩
              refine ⟨_, rfl, _, _, rfl, rfl, ⟨by decide, by decide⟩, _, _, rfl, D4.push e hn _⟩
            · exact ⟨_, _, rfl, D4.x, D4.new, let ⟨ds, e, hn⟩ := D4.lst; ⟨ds, e, Nat.le_succ_of_le hn⟩⟩
          · obtain ⟨c, z6, rfl, D4⟩ := h4
            exact ⟨_, _, _, _, rfl, D4.x, D4.new, let ⟨ds, e, hn⟩ := D4.lst; ⟨ds, e, by omega⟩⟩
        · refine ⟨_, rfl, _, _, rfl, rfl, .inr (by decide), _, rfl, _, _, rfl, rfl, .inr (by decide), _, _, rfl, rfl, _, _, rfl, rfl, .inl ⟨_, rfl, _, _, rfl, rfl, by show (0 : Int) < 2147483647; decide, ?_⟩⟩
          refine ⟨_, rfl, by decide, by decide, for_range (n := 12)
            (fun j σ H4 => ∃ y5 y6 y7, σ = [some (.ref a), some (.int 0), some (.int 60), some (.ref d), some (.int (0 + (i : Nat))), y5, y6, some (.int y7)] ∧ Dig H (60 * i + j) d H4)
            ⟨_, _, _, rfl, D3⟩ (fun j σ H4 hj h4 => ?_) (fun σ H4 h4 => ?_)⟩
          · obtain ⟨z5, z6, c, rfl, D4⟩ := h4
            refine ⟨_, rfl, _, _, rfl, rfl, .inr (by decide), _, rfl, _, _, rfl, rfl, .inl (by decide), _, _, rfl, rfl, _, _, rfl, rfl, .inl ⟨_, rfl, _, _, rfl, rfl, by show (0 : Int) < 2147483647; decide, ?_⟩⟩
            obtain ⟨ds, e, hn⟩ := D4.lst
            refine ⟨_, rfl, .inl ⟨rfl, _, SqL.of e⟩, _, rfl, _, _, rfl, rfl, ⟨by decide, by decide⟩, .inl ⟨_, rfl, _, _, rfl, rfl, by show (0 : Int) < 1000; decide, ?_⟩⟩
            refine ⟨d, _, _, rfl, rfl, e, by rw [List.length_map]; show _ < 2 ^ 24; omega, ?_⟩
            exact ⟨_, _, _, rfl, D4.push e hn _⟩
          · obtain ⟨z5, z6, c, rfl, D4⟩ := h4
            exact ⟨_, _, _, _, rfl, D4.x, D4.new, let ⟨ds, e, hn⟩ := D4.lst; ⟨ds, e, by omega⟩⟩
    · obtain ⟨y4, y5, y6, y7, rfl, D3⟩ := h3
      obtain ⟨ds, e, _⟩ := D3.lst
      exact ⟨_, rfl, q d ds H3 D3.x hd e⟩
end
end L0
set_option Elab.async false
set_option linter.all false
set_option maxRecDepth 100000
set_option maxHeartbeats 4000000
namespace L0
open PySem PySem.Spec PyProof.Rows L2 Gx RZ
/-- the box of digits -/
def Box (H : Hp) (b d : Addr) : Prop := ∃ (ds : List Int) (at_ : Nat), H b = some (.lst [.ref d, .int (at_ : Nat)]) ∧ H d = some (.lst (ds.map V.int))
theorem Box.ne {H : Hp} {a b d : Addr} {xs : List Int} (h : Box H b d) (e : H a = some (.lst (xs.map V.int))) : a ≠ b := by
  obtain ⟨ds, at_, h1, h2⟩ := h
  intro z
  rw [z, h1] at e
  have e2 := HO.lst.inj (Option.some.inj e)
  cases xs with
  | nil => cases e2
  | cons x r =>
    rw [List.map_cons] at e2
    have := (List.cons.inj e2).1
    cases this
theorem Box.ext {H H' : Hp} {b d : Addr} (h : Box H b d) (x : Ext [] H H') : Box H' b d := let ⟨ds, at_, h1, h2⟩ := h; ⟨ds, at_, x.lst h1 (by simp), x.lst h2 (by simp)⟩
theorem Box.upd {H H1 : Hp} {b d p : Addr} {o : HO} (h : Box H b d) (h1 : Box H1 b d) (hp : H p = none) : Box (L2.upd H1 p o) b d := by
  obtain ⟨_, _, e1, e2⟩ := h
  obtain ⟨ds, at_, k1, k2⟩ := h1
  exact ⟨ds, at_, by rw [upd_ne (ne_of_none e1 hp)]; exact k1, by rw [upd_ne (ne_of_none e2 hp)]; exact k2⟩
/-! ### names of marks -/
def nm (p j : Nat) : Str := ⟨#[p, 97 + j]⟩
theorem alph {j : Nat} (h : j < 26) : ("abcdefghijklmnopqrstuvwxyz" : Str).cps.toList[j]? = some (97 + j) := by
  have a : ∀ i : Fin 26, ("abcdefghijklmnopqrstuvwxyz" : Str).cps.toList[i.val]? = some (97 + i.val) := by decide +kernel
  exact a ⟨j, h⟩
theorem nm_name {p j : Nat} (hp : 97 ≤ p ∧ p ≤ 122) (hj : j < 26) : K0.isNameS (nm p j) = true := by
  unfold K0.isNameS nm
  have h1 : (⟨#[p, 97 + j]⟩ : Str).length = 2 := rfl
  rw [h1]
  simp
  omega
def rowN (p a n : Nat) : List Str := (List.range n).map fun k => nm p (a + k)
theorem rowN_length (p a n : Nat) : (rowN p a n).length = n := by
  unfold rowN
  rw [List.length_map, List.length_range]
theorem rowN_succ (p a n : Nat) : rowN p a (n + 1) = rowN p a n ++ [nm p (a + n)] := by
  unfold rowN
  rw [List.range_succ, List.map_append]
  rfl
theorem rowN_names {p a n : Nat} (hp : 97 ≤ p ∧ p ≤ 122) (h : a + n ≤ 26) : ∀ m ∈ rowN p a n, K0.isNameS m = true := fun m hm => by
  obtain ⟨k, hk, rfl⟩ := List.mem_map.mp hm
  exact nm_name hp (by have := List.mem_range.mp hk; omega)
theorem rowN_nodup (p a : Nat) : ∀ n, (rowN p a n).Nodup
  | 0 => .nil
  | n + 1 => by
    rw [rowN_succ, List.nodup_append]
    refine ⟨rowN_nodup p a n, by simp, fun x hx y hy z => ?_⟩
    rw [List.mem_singleton.mp hy] at z
    obtain ⟨k, hk, e⟩ := List.mem_map.mp hx
    have hk' := List.mem_range.mp hk
    have : nm p (a + k) = nm p (a + n) := e.trans z
    unfold nm at this
    have h2 := congrArg (fun s : Str => s.cps.toList) this
    simp at h2
    omega
section
variable {P : Program} {w : World} {K : PySem.W.Frag} {mg : Str → Option Value} {base : Heap}
/-! ### _law_draw -/
def spDraw : Sp := fun vs H Q _ => ∃ (b d : Addr) (many : Int), vs = [.ref b, .int many] ∧ Box H b d ∧ 0 < many ∧ ∀ (r : Int) (H' : Hp), 0 ≤ r → r < many → Ext [b] H H' → Box H' b d → Q (.int r) H'
theorem scDraw : FnScope ["box", "many", "at"] ["box", "many"] (defScope sDraw) := ⟨rfl, rfl, rfl, by decide +kernel, rfl, by decide +kernel, by decide +kernel⟩
theorem ok_draw {f : Addr} {fd : FuncData} (ml : mg "len" = none) (mi : mg "int" = none) (F : Fun K "_law_draw" "_law_draw" sDraw f fd) : FnOk P w K mg base CX0 1 f fd ["box", "many"] spDraw := by
  have nd := scDraw.nd
  refine F.ok scDraw (fun vs H Q E h => ?_) (fun cdv A outer s H vs Q E hr h => ?_)
  · obtain ⟨_, _, _, rfl, _⟩ := h
    rfl
  · obtain ⟨b, d, many, rfl, ⟨ds, k, hb, hd⟩, hm, q⟩ := h
    refine ⟨_, pss_cons (ps_set (i := 2) nd rfl (.inl rfl) (pe_ix ix_list (pv 0) pe_int (fun _ _ => rfl)))
      (pss_cons (ps_asg (pe_op op_add (pv 2) pe_int) (pg_sub (pv 0) pe_int set_list))
      (pss_cons (ps_if (pt_cmpR op_lt (pv 2) (pe_callB call_len_seq (by rfl) ml PySem.boot_len (pa_cons (pe_ix ix_list (pv 0) pe_int (fun _ _ => rfl)) pa_nil)) (nomark _))
        (pss_one (ps_ret (pe_op op_mod (pe_callTy call_int1 (by rfl) mi PyProof.Rows.boot_int (pa_cons (pe_ix ix_list (pe_ix ix_list (pv 0) pe_int (fun _ _ => rfl)) (pv 2) (fun _ _ => rfl)) pa_nil)) (pv 1)))) pss_nil)
      (pss_one (ps_ret pe_int)))), ?_⟩
    have ndb : d ≠ b := by
      have := Box.ne ⟨ds, k, hb, hd⟩ hd
      exact this
    refine ⟨_, rfl, b, _, _, _, rfl, rfl, SqL.of hb, atI_nat (j := 1) rfl, ?_⟩
    refine ⟨_, rfl, _, _, rfl, rfl, _, rfl, b, _, _, 1, rfl, rfl, hb, rfl, ?_⟩
    have x1 : Ext [b] H (upd H b (.lst [.ref d, .int ((k : Int) + 1)])) := .set (List.mem_singleton.mpr rfl) hb
    have hb1 : (upd H b (.lst [.ref d, .int ((k : Int) + 1)])) b = some (.lst [.ref d, .int ((k : Int) + 1)]) := upd_same
    have hd1 : (upd H b (.lst [.ref d, .int ((k : Int) + 1)])) d = some (.lst (ds.map V.int)) := by rw [upd_ne ndb]; exact hd
    have bx : Box (L2.upd H b (.lst [.ref d, .int ((k : Int) + 1)])) b d := ⟨ds, k + 1, by rw [hb1]; rfl, hd1⟩
    refine ⟨_, rfl, _, rfl, b, _, _, _, rfl, rfl, SqL.of hb1, atI_nat (j := 0) rfl, d, _, rfl, .inl (SqL.of hd1), _, _, rfl, rfl, _, rfl, ite2 (fun e => ?_) (fun e => ?_)⟩
    · have hk : k < ds.length := by
        have := of_decide_eq_true e
        rw [List.length_map] at this
        omega
      refine ⟨_, rfl, b, _, _, _, rfl, rfl, SqL.of hb1, atI_nat (j := 0) rfl, _, rfl, d, _, _, _, rfl, rfl, SqL.of hd1, atI_nat (ints_at hk), .inl ⟨_, rfl, _, rfl, _, _, rfl, rfl, hm, ?_⟩⟩
      exact q _ _ (Int.emod_nonneg _ (by omega)) (Int.emod_lt_of_pos _ hm) x1 bx
    · exact q 0 _ (by omega) hm x1 bx
/-! ### _law_pick -/
def spPick (K : PySem.W.Frag) : Sp := fun vs H Q _ => ∃ (b d t : Addr) (xs : List V), vs = [.ref b, .ref t] ∧ Box H b d ∧ H t = some (.lst xs) ∧ t ≠ b ∧ 0 < xs.length ∧ ∀ (j : Nat) (v : V), xs[j]? = some v → ∀ H', Ext [b] H H' → Box H' b d → Q v H'
theorem scPick : FnScope ["box", "things"] ["box", "things"] (defScope sPick) := ⟨rfl, rfl, rfl, by decide +kernel, rfl, by decide +kernel, by decide +kernel⟩
theorem ok_pick {f fD : Addr} {fd fdD : FuncData} (ml : mg "len" = none) (mi : mg "int" = none) (F : Fun K "_law_pick" "_law_pick" sPick f fd)
    (FD : Fun K "_law_draw" "_law_draw" sDraw fD fdD) (bD : Binds K fdD ["box", "many"] []) (gD : mg "_law_draw" = some (.ref fD)) : FnOk P w K mg base CX0 2 f fd ["box", "things"] (spPick K) := by
  have nd := scPick.nd
  have GD : FnOk P w K mg base CX0 1 fD fdD ["box", "many"] spDraw := ok_draw ml mi FD
  refine F.ok scPick (fun vs H Q E h => ?_) (fun cdv A outer s H vs Q E hr h => ?_)
  · obtain ⟨_, _, _, _, rfl, _⟩ := h
    rfl
  · obtain ⟨b, d, t, xs, rfl, hb, ht, htb, hx, q⟩ := h
    refine ⟨_, pss_one (ps_ret (pe_ix ix_list (pv 1) (pe_op op_mod (pe_callTy call_int1 (by rfl) mi PyProof.Rows.boot_int (pa_cons (pe_call GD hr (by rfl) gD FD.kp bD .nil pass0 (pa_cons (pv 0) (pa_cons pe_int pa_nil))) pa_nil)) (pe_callB call_len_seq (by rfl) ml PySem.boot_len (pa_cons (pv 1) pa_nil))) (fun _ _ => rfl))), ?_⟩
    refine ⟨_, rfl, _, rfl, b, d, 900, rfl, hb, by decide, fun r H1 h0 h1 x1 b1 => .inl ⟨_, rfl, ?_⟩⟩
    have ht1 : H1 t = some (.lst xs) := x1.lst ht (by rw [List.mem_singleton]; exact htb)
    have hlI : (0 : Int) < (xs.length : Nat) := by omega
    refine ⟨_, rfl, t, _, rfl, .inl (SqL.of ht1), _, _, rfl, rfl, hlI, ?_⟩
    have e0 := Int.emod_nonneg r (Int.ne_of_gt hlI)
    have e1 := Int.emod_lt_of_pos r hlI
    obtain ⟨j, hj⟩ : ∃ j : Nat, r % (xs.length : Nat) = (j : Int) := ⟨_, (Int.toNat_of_nonneg e0).symm⟩
    rw [hj] at e1
    have hjl : j < xs.length := by omega
    have hv := List.getElem?_eq_getElem hjl
    exact ⟨t, _, _, _, rfl, by rw [← hj], SqL.of ht1, atI_nat hv, q j _ hv _ x1 b1⟩
/-! ### _law_marks -/
def spMarks : Sp := fun vs H Q _ => ∃ (b d : Addr) (n : Nat), vs = [.ref b, .int (n : Nat)] ∧ Box H b d ∧ n ≤ 7 ∧ ∀ (q : Addr) (ms : List Str) (H' : Hp), ms.length = n → (∀ m ∈ ms, K0.isNameS m = true) → ms.Nodup → Ext [b] H H' → Box H' b d → H' q = some (.tup (ms.map V.str)) → Q (.ref q) H'
abbrev nMarks : List Str := ["box", "many", "at", "k"]
theorem scMarks : FnScope nMarks ["box", "many"] (defScope sMarks) := ⟨rfl, rfl, rfl, by decide +kernel, rfl, by decide +kernel, by decide +kernel⟩
theorem ok_marks {f fD : Addr} {fd fdD : FuncData} (ml : mg "len" = none) (mi : mg "int" = none) (mr : mg "range" = none) (mt : mg "tuple" = none) (F : Fun K "_law_marks" "_law_marks" sMarks f fd)
    (FD : Fun K "_law_draw" "_law_draw" sDraw fD fdD) (bD : Binds K fdD ["box", "many"] []) (gD : mg "_law_draw" = some (.ref fD)) : FnOk P w K mg base CX0 2 f fd ["box", "many"] spMarks := by
  have nd := scMarks.nd
  have GD : FnOk P w K mg base CX0 1 fD fdD ["box", "many"] spDraw := ok_draw ml mi FD
  refine F.ok scMarks (fun vs H Q E h => ?_) (fun cdv A outer s H vs Q E hr h => ?_)
  · obtain ⟨_, _, _, rfl, _⟩ := h
    rfl
  · obtain ⟨b, d, n, rfl, hb, hn, q⟩ := h
    refine ⟨_, pss_cons (ps_set (i := 2) nd rfl (.inr rfl) (pe_call GD hr (by rfl) gD FD.kp bD .nil pass0 (pa_cons (pv 0) (pa_cons pe_int pa_nil))))
      (pss_one (ps_ret (pe_callTy call_tuple_of (by rfl) mt PyProof.Rows.boot_tuple (pa_cons (pe_lc (own := [("k", 3)]) (g := gName 3) (tt := tYes) rfl nd (pi_range1 (by rfl) mr (pa_cons (pv 1) pa_nil)) (blkOk_by (N := nMarks) (sc := defScope sMarks) (by decide +kernel))
        (fun _ _ _ _ _ => pg_name (i := 3) nd rfl (.inl rfl)) (fun _ _ _ _ _ => pts_nil) (fun _ _ _ _ _ => pe_op op_add_str pe_str (pe_ix ix_str pe_str (pe_op op_add (pv 2) (pv 3)) (fun _ _ => rfl)))) pa_nil)))), ?_⟩
    refine ⟨_, rfl, b, d, 20, rfl, hb, by decide, fun r H1 h0 h1 x1 b1 => ?_⟩
    refine ⟨_, rfl, (n : Int), rfl, by omega, by omega, fun D hD => ?_⟩
    rw [Int.toNat_natCast]
    obtain ⟨a, rfl⟩ : ∃ a : Nat, r = (a : Int) := ⟨r.toNat, (Int.toNat_of_nonneg h0).symm⟩
    refine lc_range (fun i H2 => Ext [] H1 H2 ∧ H2 D = some (.lst ((rowN 109 a i).map V.str))) ⟨.new hD, upd_same⟩ (fun i H2 hi h2 => ?_) (fun H2 h2 => ?_)
    · obtain ⟨x2, e2⟩ := h2
      have hj : (a : Int) + (0 + (i : Nat)) = ((a + i : Nat) : Int) := by omega
      have hjl : a + i < 26 := by omega
      refine ⟨rfl, _, rfl, _, rfl, _, _, rfl, rfl, _, _, _, rfl, rfl, by decide, by rw [hj]; exact atI_nat (alph hjl), _, _, rfl, rfl, by show 1 + 1 ≤ 2 ^ 24; decide, ?_⟩
      refine ⟨_, e2, by rw [List.length_map, rowN_length]; exact small1000 (by omega), x2.own hD e2, ?_⟩
      rw [upd_same, rowN_succ, List.map_append]
      rfl
    · obtain ⟨x2, e2⟩ := h2
      refine ⟨D, _, rfl, .inl ⟨SqL.of e2, fun l hl => q l (rowN 109 a n) _ (rowN_length _ _ _) (rowN_names (by decide) (by omega)) (rowN_nodup _ _ _) (x1.trans ((x2.trans (.new hl)).mono (by simp))) (b1.ext (x2.trans (.new hl))) upd_same⟩⟩
/-! ### _law_reading -/
def spReading (K : PySem.W.Frag) : Sp := fun vs H Q _ => ∃ (b d h : Addr) (hs : List Int) (one other : Nat), vs = [.ref b, .ref h, .int (one : Nat), .int (other : Nat)] ∧ Box H b d ∧ H h = some (.lst (hs.map V.int)) ∧ one < hs.length ∧ other < hs.length ∧ one ≠ other ∧ (∀ x ∈ hs, -10 ≤ x ∧ x ≤ 10) ∧
  ∀ (q : Addr) (r : Rd3) (H' : Hp), (r.1 < hs.length ∧ r.2.1 < hs.length ∧ r.1 ≠ r.2.1) → ((r.1 = one ∧ r.2.1 = other) ∨ (r.1 = other ∧ r.2.1 = one)) → (-100 ≤ r.2.2 ∧ r.2.2 ≤ 100) → Ext [b] H H' → Box H' b d → H' q = some (.tup [.int r.1, .int r.2.1, .int r.2.2]) → Q (.ref q) H'
abbrev nReading : List Str := ["box", "heights", "one", "other", "value"]
theorem scReading : FnScope nReading ["box", "heights", "one", "other"] (defScope sReading) := ⟨rfl, rfl, rfl, by decide +kernel, rfl, by decide +kernel, by decide +kernel⟩
theorem getD_mem {hs : List Int} {i : Nat} (h : i < hs.length) : hs.getD i 0 ∈ hs := by
  rw [List.getD_eq_getElem?_getD, List.getElem?_eq_getElem h]
  exact List.getElem_mem h
theorem ok_reading {f fD : Addr} {fd fdD : FuncData} (ml : mg "len" = none) (mi : mg "int" = none) (F : Fun K "_law_reading" "_law_reading" sReading f fd)
    (FD : Fun K "_law_draw" "_law_draw" sDraw fD fdD) (bD : Binds K fdD ["box", "many"] []) (gD : mg "_law_draw" = some (.ref fD)) : FnOk P w K mg base CX0 2 f fd ["box", "heights", "one", "other"] (spReading K) := by
  have nd := scReading.nd
  have GD : FnOk P w K mg base CX0 1 fD fdD ["box", "many"] spDraw := ok_draw ml mi FD
  refine F.ok scReading (fun vs H Q E h => ?_) (fun cdv A outer s H vs Q E hr h => ?_)
  · obtain ⟨_, _, _, _, _, _, rfl, _⟩ := h
    rfl
  · obtain ⟨b, d, h, hs, one, other, rfl, hb, hh, l1, l2, ne, hbd, q⟩ := h
    refine ⟨_, pss_cons (ps_set (i := 4) nd rfl (.inl rfl) (pe_op op_sub (pe_ix ix_list (pv 1) (pv 3) (fun _ _ => rfl)) (pe_ix ix_list (pv 1) (pv 2) (fun _ _ => rfl))))
      (pss_cons (ps_if (pt_cmpR op_eq (pe_call GD hr (by rfl) gD FD.kp bD .nil pass0 (pa_cons (pv 0) (pa_cons pe_int pa_nil))) pe_int (nomark _))
        (pss_one (ps_set (i := 4) nd rfl (.inl rfl) (pe_op op_sub (pe_op op_add (pv 4) (pe_call GD hr (by rfl) gD FD.kp bD .nil pass0 (pa_cons (pv 0) (pa_cons pe_int pa_nil)))) pe_int))) pss_nil)
      (pss_cons (ps_if (pt_cmpR op_eq (pe_call GD hr (by rfl) gD FD.kp bD .nil pass0 (pa_cons (pv 0) (pa_cons pe_int pa_nil))) pe_int (nomark _))
        (pss_one (ps_ret (pe_tup (pa_cons (pv 3) (pa_cons (pv 2) (pa_cons (pe_op op_sub pe_int (pv 4)) pa_nil)))))) pss_nil)
      (pss_one (ps_ret (pe_tup (pa_cons (pv 2) (pa_cons (pv 3) (pa_cons (pv 4) pa_nil)))))))), ?_⟩
    have b1 := hbd _ (getD_mem l1)
    have b2 := hbd _ (getD_mem l2)
    refine ⟨_, rfl, _, rfl, h, _, _, _, rfl, rfl, SqL.of hh, atI_nat (ints_at l2), _, rfl, _, rfl, h, _, _, _, rfl, rfl, SqL.of hh, atI_nat (ints_at l1), _, _, rfl, rfl, ?_⟩
    refine ⟨_, rfl, b, d, 3, rfl, hb, by decide, fun r1 H1 _ _ x1 bx1 => ⟨rfl, _, rfl, ?_⟩⟩
    refine ite2 (fun _ => ?_) (fun _ => ?_)
    · refine ⟨_, rfl, _, rfl, b, d, 15, rfl, bx1, by decide, fun r2 H2 h0 h1 x2 bx2 => ⟨_, _, rfl, rfl, _, _, rfl, rfl, ?_⟩⟩
      refine ⟨_, rfl, b, d, 2, rfl, bx2, by decide, fun r3 H3 _ _ x3 bx3 => ⟨rfl, _, rfl, ite2 (fun _ => ?_) (fun _ => ?_)⟩⟩
      · refine ⟨_, rfl, _, rfl, _, rfl, _, _, rfl, rfl, by show 3 ≤ sizeLine; decide, fun t ht => ?_⟩
        exact q t (other, one, _) _ ⟨l2, l1, ne.symm⟩ (.inr ⟨rfl, rfl⟩) (by dsimp only; omega) (((x1.trans x2).trans x3).trans (.new ht)) (bx3.ext (.new ht)) upd_same
      · refine ⟨_, rfl, _, rfl, _, rfl, by show 3 ≤ sizeLine; decide, fun t ht => ?_⟩
        exact q t (one, other, _) _ ⟨l1, l2, ne⟩ (.inl ⟨rfl, rfl⟩) (by dsimp only; omega) (((x1.trans x2).trans x3).trans (.new ht)) (bx3.ext (.new ht)) upd_same
    · refine ⟨_, rfl, b, d, 2, rfl, bx1, by decide, fun r3 H3 _ _ x3 bx3 => ⟨rfl, _, rfl, ite2 (fun _ => ?_) (fun _ => ?_)⟩⟩
      · refine ⟨_, rfl, _, rfl, _, rfl, _, _, rfl, rfl, by show 3 ≤ sizeLine; decide, fun t ht => ?_⟩
        exact q t (other, one, _) _ ⟨l2, l1, ne.symm⟩ (.inr ⟨rfl, rfl⟩) (by dsimp only; omega) ((x1.trans x3).trans (.new ht)) (bx3.ext (.new ht)) upd_same
      · refine ⟨_, rfl, _, rfl, _, rfl, by show 3 ≤ sizeLine; decide, fun t ht => ?_⟩
        exact q t (one, other, _) _ ⟨l1, l2, ne⟩ (.inl ⟨rfl, rfl⟩) (by dsimp only; omega) ((x1.trans x3).trans (.new ht)) (bx3.ext (.new ht)) upd_same
end
end L0
set_option Elab.async false
set_option linter.all false
set_option maxRecDepth 100000
set_option maxHeartbeats 4000000
namespace L0
open PySem PySem.Spec PyProof.Rows L2 Gx RZ
section
variable {P : Program} {w : World} {K : PySem.W.Frag} {mg : Str → Option Value} {base : Heap}
theorem catA_by {H : Hp} {a b : Addr} {xs ys : List V} {Q : VK} (ha : SqT K H a xs) (hb : SqT K H b ys) (hl : xs.length + ys.length ≤ sizeLine) (q : ∀ p H', Ext [] H H' → SqT K H' p (xs ++ ys) → Q (.ref p) H') : rCatA K (.ref a) (.ref b) H Q := by
  refine ⟨a, b, xs, ys, rfl, rfl, ha, hb, hl, fun e => ?_, fun _ e => ?_, fun _ _ p hp => q p _ (.new hp) (.inl (.inl upd_same))⟩
  · subst e
    exact q b H .refl hb
  · subst e
    exact q a H .refl (by rw [List.append_nil]; exact ha)
theorem slA_by {H : Hp} {a : Addr} {xs : List V} {lo hi : Option Int} {Q : VK} (ha : SqT K H a xs) (q : ∀ p H', Ext [] H H' → SqT K H' p (cutV xs lo hi) → Q (.ref p) H') : rSlA K (.ref a) lo hi H Q := by
  refine ⟨a, xs, rfl, ha, fun e => ?_, fun _ p hp => q p _ (.new hp) (.inl (.inl upd_same))⟩
  refine q a H .refl ?_
  have : cutV xs lo hi = xs := by
    unfold cutV
    rw [e.1, e.2, Nat.sub_zero, List.drop_zero, List.take_length]
  rw [this]
  exact ha
theorem pr_app {α β : Type} {F : α → β → Prop} : ∀ {a : List α} {b : List β} {c : List α} {d : List β}, Paired F a b → Paired F c d → Paired F (a ++ c) (b ++ d)
  | _, _, _, _, .nil, h => h
  | _, _, _, _, .cons x t, h => .cons x (pr_app t h)
theorem pr_take {α β : Type} {F : α → β → Prop} : ∀ {a : List α} {b : List β} (n : Nat), Paired F a b → Paired F (a.take n) (b.take n)
  | _, _, 0, _ => by simpa using Paired.nil
  | _, _, n + 1, .nil => .nil
  | _, _, n + 1, .cons x t => .cons x (pr_take n t)
theorem pr_drop {α β : Type} {F : α → β → Prop} : ∀ {a : List α} {b : List β} (n : Nat), Paired F a b → Paired F (a.drop n) (b.drop n)
  | _, _, 0, h => by simpa using h
  | _, _, n + 1, .nil => .nil
  | _, _, n + 1, .cons _ t => pr_drop n t
theorem pr_at {α β : Type} {F : α → β → Prop} : ∀ {a : List α} {b : List β}, Paired F a b → ∀ (i : Nat) (y : β), b[i]? = some y → ∃ x, a[i]? = some x ∧ F x y
  | _, _, .nil, i, y, e => by cases e
  | _, _, .cons x t, 0, y, e => by cases e; exact ⟨_, rfl, x⟩
  | _, _, .cons _ t, i + 1, y, e => pr_at t i y e
def RdB (n : Nat) (r : Rd3) : Prop := (r.1 < n ∧ r.2.1 < n ∧ r.1 ≠ r.2.1) ∧ (-100 ≤ r.2.2 ∧ r.2.2 ≤ 100)
/-- a tuple of readings between n marks -/
def Rds (K : PySem.W.Frag) (H : Hp) (n : Nat) (p : Addr) (rs : List Rd3) : Prop := ∃ vs, SqT K H p vs ∧ Paired (RdAt K H) vs rs ∧ ∀ r ∈ rs, RdB n r
theorem Rds.ext {H H' : Hp} {n : Nat} {p : Addr} {rs : List Rd3} {c : List Addr} (h : Rds K H n p rs) (x : Ext c H H') : Rds K H' n p rs := let ⟨vs, h1, h2, h3⟩ := h; ⟨vs, x.sqT h1, L2.Paired.mapP h2 fun _ _ k => k.ext x, h3⟩
/-- each mark is joined with one ahead of it -/
def LinkN (rs : List Rd3) (j : Nat) : Prop := ∀ k, 1 ≤ k → k < j → ∃ r ∈ rs, (r.1 = k ∧ r.2.1 < k) ∨ (r.2.1 = k ∧ r.1 < k)
theorem LinkN.conn {rs : List Rd3} {n : Nat} (h : LinkN rs n) : ∀ k, k < n → K0.Conn rs 0 k := by
  intro k
  induction k using Nat.strongRecOn with
  | ind k ih =>
    intro hk
    by_cases h0 : k = 0
    · rw [h0]
      exact .refl
    · obtain ⟨r, hr, ⟨e, l⟩ | ⟨e, l⟩⟩ := h k (by omega) hk
      · exact .step (ih _ l (by omega)) ⟨r, hr, .inr ⟨rfl, e⟩⟩
      · exact .step (ih _ l (by omega)) ⟨r, hr, .inl ⟨rfl, e⟩⟩
theorem cut_lo {xs : List V} {j : Nat} (h : j ≤ xs.length) : cutV xs none (some (j : Int)) = xs.take j := by
  unfold cutV
  rw [HT.sIx_nat, HT.sIx_none, List.drop_zero, Nat.sub_zero, Nat.min_eq_left h]
theorem cut_hi {xs : List V} {j : Nat} (h : j ≤ xs.length) : cutV xs (some (j : Int)) none = xs.drop j := by
  unfold cutV
  rw [HT.sIx_nat, HT.sIx_none, Nat.min_eq_left h, List.take_of_length_le (by rw [List.length_drop]; omega)]
theorem cut_two {xs : List V} {j : Nat} : (cutV xs none (some (j : Int))).length + (cutV xs (some (j : Int)) none).length ≤ xs.length := by
  unfold cutV
  rw [HT.sIx_nat, HT.sIx_none, HT.sIx_nat, HT.sIx_none, List.length_take, List.length_drop, List.length_take, List.length_drop]
  omega
/-! ### _law_net -/
def spNet (K : PySem.W.Frag) : Sp := fun vs H Q _ => ∃ (b d : Addr) (most more : Nat), vs = [.ref b, .int (most : Nat), .int (more : Nat)] ∧ Box H b d ∧ 0 < most ∧ most ≤ 7 ∧ more ≤ 100 ∧
  ∀ (p : Addr) (ms : List Str) (rs : List Rd3) (H' : Hp), 1 ≤ ms.length → ms.length ≤ most → rs.length ≤ most + more → Good ms.length rs → (∀ r ∈ rs, -100 ≤ r.2.2 ∧ r.2.2 ≤ 100) → LinkN rs ms.length → (∀ m ∈ ms, K0.isNameS m = true) → ms.Nodup → Ext [b] H H' → Box H' b d → NetAt K H' p ms rs → Q (.ref p) H'
abbrev nNet : List Str := ["box", "most", "more", "many", "k", "heights", "readings", "one", "other", "at"]
theorem scNet : FnScope nNet ["box", "most", "more"] (defScope sNet) := ⟨rfl, rfl, rfl, by decide +kernel, rfl, by decide +kernel, by decide +kernel⟩
theorem nat_of {r : Int} (h : 0 ≤ r) : ∃ j : Nat, r = (j : Int) := ⟨r.toNat, (Int.toNat_of_nonneg h).symm⟩
theorem ok_net {f fD fR fM : Addr} {fd fdD fdR fdM : FuncData} (ml : mg "len" = none) (mi : mg "int" = none) (mr : mg "range" = none) (mt : mg "tuple" = none) (F : Fun K "_law_net" "_law_net" sNet f fd)
    (FD : Fun K "_law_draw" "_law_draw" sDraw fD fdD) (bD : Binds K fdD ["box", "many"] []) (gD : mg "_law_draw" = some (.ref fD))
    (FR : Fun K "_law_reading" "_law_reading" sReading fR fdR) (bR : Binds K fdR ["box", "heights", "one", "other"] []) (gR : mg "_law_reading" = some (.ref fR))
    (FM : Fun K "_law_marks" "_law_marks" sMarks fM fdM) (bM : Binds K fdM ["box", "many"] []) (gM : mg "_law_marks" = some (.ref fM)) : FnOk P w K mg base CX0 3 f fd ["box", "most", "more"] (spNet K) := by
  have nd := scNet.nd
  have GD : FnOk P w K mg base CX0 1 fD fdD ["box", "many"] spDraw := ok_draw ml mi FD
  have GR : FnOk P w K mg base CX0 2 fR fdR ["box", "heights", "one", "other"] (spReading K) := ok_reading ml mi FR FD bD gD
  have GM : FnOk P w K mg base CX0 2 fM fdM ["box", "many"] spMarks := ok_marks ml mi mr mt FM FD bD gD
  refine F.ok scNet (fun vs H Q E h => ?_) (fun cdv A outer s H vs Q E hr h => ?_)
  · obtain ⟨_, _, _, _, rfl, _⟩ := h
    rfl
  · obtain ⟨b, d, most, more, rfl, hb, m1, m2, m3, q⟩ := h
    have hr1 : Room 1 (A.deeper (envOfC "_law_net" (defScope sNet) s.heap.objs.size f cdv)) := hr.mono (by decide)
    refine ⟨_, pss_cons (ps_set (i := 3) nd rfl (.inl rfl) (pe_op op_add pe_int (pe_call GD hr1 (by rfl) gD FD.kp bD .nil pass0 (pa_cons (pv 0) (pa_cons (pv 1) pa_nil)))))
      (pss_cons (ps_set (i := 5) nd rfl (.inl rfl) (pe_op op_cat (pe_lst (pa_cons pe_int pa_nil)) (pe_lc (own := [("k", 4)]) (g := gName 4) (tt := tYes) rfl nd (pi_range1 (by rfl) mr (pa_cons (pe_op op_sub (pv 3) pe_int) pa_nil)) (blkOk_by (N := nNet) (sc := defScope sNet) (by decide +kernel))
        (fun _ _ _ _ _ => pg_name (i := 4) nd rfl (.inl rfl)) (fun _ _ _ _ _ => pts_nil) (fun _ _ _ _ _ => pe_op op_sub (pe_call GD hr1 (by rfl) gD FD.kp bD .nil pass0 (pa_cons (pv 0) (pa_cons pe_int pa_nil))) pe_int))))
      (pss_cons (ps_set (i := 6) nd rfl (.inl rfl) (pe_tup pa_nil))
      (pss_cons (ps_for PassesOwn.never rfl (pi_range2 (by rfl) mr (pa_cons pe_int (pa_cons (pv 3) pa_nil))) (pg_name (i := 4) nd rfl (.inl rfl))
        (pss_one (ps_set (i := 6) nd rfl (.inl rfl) (pe_op op_catA (pv 6) (pe_tup (pa_cons (pe_call GR hr (by rfl) gR FR.kp bR .nil pass0 (pa_cons (pv 0) (pa_cons (pv 5) (pa_cons (pe_call GD hr1 (by rfl) gD FD.kp bD .nil pass0 (pa_cons (pv 0) (pa_cons (pv 4) pa_nil))) (pa_cons (pv 4) pa_nil))))) pa_nil))))))
      (pss_cons (ps_for PassesOwn.never rfl (pi_range1 (by rfl) mr (pa_cons (pe_op op_mul (pe_call GD hr1 (by rfl) gD FD.kp bD .nil pass0 (pa_cons (pv 0) (pa_cons (pe_op op_add (pv 2) pe_int) pa_nil))) (pe_callTy call_int1 (by rfl) mi PyProof.Rows.boot_int (pa_cons (pe_cmpR op_gt (pv 3) pe_int (nomark _)) pa_nil))) pa_nil)) (pg_name (i := 4) nd rfl (.inl rfl))
        (pss_cons (ps_set (i := 7) nd rfl (.inl rfl) (pe_call GD hr1 (by rfl) gD FD.kp bD .nil pass0 (pa_cons (pv 0) (pa_cons (pv 3) pa_nil))))
        (pss_cons (ps_set (i := 8) nd rfl (.inl rfl) (pe_op op_mod (pe_callTy call_int1 (by rfl) mi PyProof.Rows.boot_int (pa_cons (pe_op op_add (pe_op op_add (pv 7) pe_int) (pe_call GD hr1 (by rfl) gD FD.kp bD .nil pass0 (pa_cons (pv 0) (pa_cons (pe_op op_sub (pv 3) pe_int) pa_nil)))) pa_nil)) (pv 3)))
        (pss_cons (ps_set (i := 9) nd rfl (.inl rfl) (pe_call GD hr1 (by rfl) gD FD.kp bD .nil pass0 (pa_cons (pv 0) (pa_cons (pe_op op_add (pe_callB call_len_seq (by rfl) ml PySem.boot_len (pa_cons (pv 6) pa_nil)) pe_int) pa_nil))))
        (pss_one (ps_set (i := 6) nd rfl (.inl rfl) (pe_op op_catA (pe_op op_catA (pe_slice sl_tupA (pv 6) po_none (po_some (pv 9))) (pe_tup (pa_cons (pe_call GR hr (by rfl) gR FR.kp bR .nil pass0 (pa_cons (pv 0) (pa_cons (pv 5) (pa_cons (pv 7) (pa_cons (pv 8) pa_nil))))) pa_nil))) (pe_slice sl_tupA (pv 6) (po_some (pv 9)) po_none))))))))
      (pss_one (ps_ret (pe_tup (pa_cons pe_str (pa_cons (pe_call GM hr (by rfl) gM FM.kp bM .nil pass0 (pa_cons (pv 0) (pa_cons (pv 3) pa_nil))) (pa_cons (pv 6) pa_nil)))))))))), ?_⟩
    -- many
    refine ⟨_, rfl, _, rfl, b, d, most, rfl, hb, by omega, fun r H1 h0 h1 x1 b1 => ⟨_, _, rfl, rfl, ?_⟩⟩
    obtain ⟨n, hn⟩ : ∃ n : Nat, (1 : Int) + r = (n : Int) := nat_of (by omega)
    have hn1 : 1 ≤ n := by omega
    have hn7 : n ≤ most := by omega
    -- heights
    refine ⟨by decide, fun l0 hl0 => ?_⟩
    have x2 : Ext [b] H (upd H1 l0 (.lst [V.int 0])) := x1.trans (.new hl0)
    have b2 := b1.ext (Ext.new (c := []) (o := .lst [V.int 0]) hl0)
    refine ⟨_, rfl, _, _, rfl, rfl, _, rfl, by omega, by omega, fun D hD => ?_⟩
    have nDl : l0 ≠ D := ne_of_none upd_same hD
    refine lc_range (fun i H3 => ∃ hs : List Int, hs.length = i ∧ (∀ x ∈ hs, -10 ≤ x ∧ x ≤ 10) ∧ Ext [b] H H3 ∧ Box H3 b d ∧ H3 D = some (.lst (hs.map V.int)) ∧ H3 l0 = some (.lst [V.int 0]))
      ⟨[], rfl, (fun _ h => by cases h), x2.trans (.new hD), b2.ext (.new hD), upd_same, by rw [upd_ne (ne_of_none upd_same hD)]; exact upd_same⟩ (fun i H3 hi h3 => ?_) (fun H3 h3 => ?_)
    · obtain ⟨hs, e1, e2, x3, b3, eD, e0⟩ := h3
      refine ⟨rfl, _, rfl, b, d, 21, rfl, b3, by decide, fun r4 H4 g0 g1 x4 b4 => ⟨_, _, rfl, rfl, ?_⟩⟩
      have eD4 : H4 D = some (.lst (hs.map V.int)) := x4.lst eD (by rw [List.mem_singleton]; exact b3.ne eD)
      have e04 : H4 l0 = some (.lst [V.int 0]) := x4.lst e0 (by rw [List.mem_singleton]; exact b3.ne (xs := [0]) e0)
      refine ⟨_, eD4, by rw [List.length_map, e1]; exact small1000 (by omega), hs ++ [r4 - 10], by rw [List.length_append, e1]; rfl, fun x hx => ?_, ?_, ?_, ?_, ?_⟩
      · rcases List.mem_append.mp hx with hx | hx
        · exact e2 x hx
        · rw [List.mem_singleton.mp hx]
          omega
      · exact (x3.trans x4).own (x2.dom D hD) eD4
      · exact hb.upd b4 (x2.dom D hD)
      · rw [upd_same, List.map_append]
        rfl
      · rw [upd_ne nDl]
        exact e04
    · obtain ⟨hs, e1, e2, x3, b3, eD, e0⟩ := h3
      refine ⟨l0, D, _, _, rfl, rfl, e0, eD, by rw [List.length_map, e1]; show 1 + _ ≤ 2 ^ 24; omega, fun h hh => ?_⟩
      generalize hhs : (0 : Int) :: hs = hs0
      have ehs : [V.int 0] ++ hs.map V.int = hs0.map V.int := by rw [← hhs]; rfl
      have lhs : hs0.length = n := by rw [← hhs, List.length_cons, e1]; omega
      have bhs : ∀ x ∈ hs0, -10 ≤ x ∧ x ≤ 10 := fun x hx => by
        rw [← hhs] at hx
        rcases List.mem_cons.mp hx with rfl | hx
        · decide
        · exact e2 x hx
      rw [ehs]
      have x4 : Ext [b] H (upd H3 h (.lst (hs0.map V.int))) := x3.trans (.new hh)
      have b4 : Box (L2.upd H3 h (.lst (hs0.map V.int))) b d := b3.ext (.new hh)
      have h4 : (upd H3 h (.lst (hs0.map V.int))) h = some (.lst (hs0.map V.int)) := upd_same
      -- readings
      refine ⟨by decide, fun p0 hp0 => ?_⟩
      have x5 := x4.trans (Ext.new (c := [b]) (o := .tup []) hp0)
      have b5 := b4.ext (Ext.new (c := []) (o := .tup []) hp0)
      refine ⟨_, rfl, 1, 1 + r, rfl, ⟨by decide, by decide, by omega, by omega⟩, for_range
        (fun i σ H6 => ∃ y4 y7 y8 y9 p rs, σ = [some (.ref b), some (.int (most : Nat)), some (.int (more : Nat)), some (.int (1 + r)), y4, some (.ref h), some (.ref p), y7, y8, y9] ∧ Ext [b] H H6 ∧ Box H6 b d ∧ H6 h = some (.lst (hs0.map V.int)) ∧ Rds K H6 n p rs ∧ rs.length = i ∧ LinkN rs (1 + i))
        ⟨_, _, _, _, p0, [], rfl, x5, b5, by rw [upd_ne (ne_of_none h4 hp0)]; exact h4, ⟨[], .inl (.inl upd_same), .nil, fun _ h => by cases h⟩, rfl, fun k h1 h2 => by omega⟩ (fun i σ H6 hi h6 => ?_) (fun σ H6 h6 => ?_)⟩
      · obtain ⟨y4, y7, y8, y9, p, rs, rfl, x6, b6, eh, hR, hl, hL⟩ := h6
        obtain ⟨k, hk⟩ : ∃ k : Nat, (1 : Int) + (i : Nat) = (k : Int) := nat_of (by omega)
        have hkn : k < n := by omega
        refine ⟨_, rfl, _, rfl, _, rfl, _, rfl, _, rfl, b, d, (1 : Int) + (i : Nat), rfl, b6, by omega, fun r7 H7 g0 g1 x7 b7 => ?_⟩
        obtain ⟨j, hj⟩ := nat_of g0
        have eh7 : H7 h = some (.lst (hs0.map V.int)) := x7.lst eh (by rw [List.mem_singleton]; exact b6.ne eh)
        refine ⟨_, rfl, b, d, h, hs0, j, k, by rw [hj, hk]; rfl, b7, eh7, by omega, by omega, by omega, bhs, fun q8 r8 H8 k1 k3 k2 x8 b8 e8 => ?_⟩
        have eh8 : H8 h = some (.lst (hs0.map V.int)) := x8.lst eh7 (by rw [List.mem_singleton]; exact b7.ne eh7)
        refine ⟨by show 1 ≤ sizeLine; decide, fun t ht => ?_⟩
        have x9 : Ext [b] H6 (upd H8 t (.tup [.ref q8])) := (x7.trans x8).trans (.new ht)
        have rd8 : RdAt K (upd H8 t (.tup [.ref q8])) (.ref q8) r8 := ⟨q8, rfl, (Ext.new (c := []) ht).sqT (.inl (.inl e8))⟩
        have bd8 : RdB n r8 := ⟨by rw [lhs] at k1; exact k1, k2⟩
        obtain ⟨vs, s1, s2, s3⟩ := hR.ext x9
        have hvl : vs.length = rs.length := s2.length
        refine catA_by s1 (.inl (.inl upd_same)) (by rw [hvl, hl]; show _ + 1 ≤ 2 ^ 24; omega) fun p' H9 x10 s10 => ?_
        have b9 : Box (upd H8 t (.tup [.ref q8])) b d := b8.ext (.new ht)
        refine ⟨_, _, _, _, p', rs ++ [r8], rfl, (x6.trans x9).trans x10.more, b9.ext x10, ?_, ⟨vs ++ [V.ref q8], s10, L2.Paired.mapP (s2.snoc rd8) fun _ _ k => k.ext x10, fun r hr => ?_⟩, by rw [List.length_append, hl]; rfl, fun k' h1 h2 => ?_⟩
        · exact x10.lst (by rw [upd_ne (ne_of_none eh8 ht)]; exact eh8) (by simp)
        · rcases List.mem_append.mp hr with hr | hr
          · exact s3 r hr
          · rw [List.mem_singleton.mp hr]
            exact bd8
        · by_cases c : k' < 1 + i
          · obtain ⟨r, hr, e⟩ := hL k' h1 c
            exact ⟨r, List.mem_append_left _ hr, e⟩
          · refine ⟨r8, List.mem_append_right _ (List.mem_singleton.mpr rfl), ?_⟩
            rcases k3 with ⟨z1, z2⟩ | ⟨z1, z2⟩
            · exact .inr ⟨by omega, by omega⟩
            · exact .inl ⟨by omega, by omega⟩
      · obtain ⟨y4, y7, y8, y9, p, rs, rfl, x6, b6, eh, hR, hl, hL⟩ := h6
        refine ⟨_, rfl, _, rfl, _, _, rfl, rfl, b, d, _, rfl, b6, by omega, fun r7 H7 g0 g1 x7 b7 => ?_⟩
        have eh7 : H7 h = some (.lst (hs0.map V.int)) := x7.lst eh (by rw [List.mem_singleton]; exact b6.ne eh)
        refine ⟨_, rfl, _, _, rfl, rfl, .inr ⟨_, rfl, _, _, rfl, rfl, .inl ⟨by omega, by omega⟩, ?_⟩⟩
        obtain ⟨cnt, hcnt⟩ : ∃ c : Int, c = r7 * (if decide (1 < 1 + r) = true then 1 else 0) := ⟨_, rfl⟩
        have hc : 0 ≤ cnt ∧ cnt ≤ more ∧ (0 < cnt → 1 < n) := by
          by_cases e : (1 : Int) < 1 + r
          · rw [if_pos (decide_eq_true e), Int.mul_one] at hcnt
            omega
          · rw [if_neg (by simpa using e), Int.mul_zero] at hcnt
            omega
        refine ⟨cnt, by subst hcnt; rfl, by omega, by omega, for_range
          (fun i σ H6 => ∃ y4 y7 y8 y9 p rs, σ = [some (.ref b), some (.int (most : Nat)), some (.int (more : Nat)), some (.int (1 + r)), y4, some (.ref h), some (.ref p), y7, y8, y9] ∧ Ext [b] H H6 ∧ Box H6 b d ∧ H6 h = some (.lst (hs0.map V.int)) ∧ Rds K H6 n p rs ∧ rs.length = (1 + r - 1).toNat + i ∧ LinkN rs n)
          ⟨_, _, _, _, p, rs, rfl, x6.trans x7, b7, eh7, hR.ext x7, hl, fun k' h1 h2 => hL k' h1 (by omega)⟩ (fun i σ H6 hi h6 => ?_) (fun σ H6 h6 => ?_)⟩
        · obtain ⟨y4, y7, y8, y9, p, rs, rfl, x8, b8, eh8, hR8, hl8, hL8⟩ := h6
          have hn2 : 1 < n := hc.2.2 (by omega)
          refine ⟨_, rfl, _, rfl, b, d, _, rfl, b8, by omega, fun r9 H9 g0 g1 x9 b9 => ?_⟩
          obtain ⟨one, h1'⟩ := nat_of g0
          refine ⟨_, rfl, _, _, rfl, rfl, _, rfl, _, rfl, _, _, rfl, rfl, b, d, _, rfl, b9, by omega, fun r10 H10 k0 k1 x10 b10 => ?_⟩
          refine ⟨_, _, rfl, rfl, .inl ⟨_, rfl, _, rfl, _, _, rfl, rfl, by omega, ?_⟩⟩
          obtain ⟨other, h2'⟩ : ∃ j : Nat, (r9 + 1 + r10) % (1 + r) = (j : Int) := nat_of (Int.emod_nonneg _ (by omega))
          have l1 : one < n := by omega
          have l2 : other < n := by
            have := Int.emod_lt_of_pos (r9 + 1 + r10) (show (0 : Int) < 1 + r by omega)
            omega
          have hne : one ≠ other := fun z => by
            by_cases c : r9 + 1 + r10 < 1 + r
            · rw [Int.emod_eq_of_lt (by omega) c] at h2'
              omega
            · have : (r9 + 1 + r10) % (1 + r) = r9 + 1 + r10 - (1 + r) := by
                rw [← Int.emod_eq_of_lt (show 0 ≤ r9 + 1 + r10 - (1 + r) by omega) (show r9 + 1 + r10 - (1 + r) < 1 + r by omega), Int.sub_emod_right]
              rw [this] at h2'
              omega
          have x8b := (x9.trans x10)
          obtain ⟨vs, s1, s2, s3⟩ := hR8
          have hvl : vs.length = rs.length := s2.length
          refine ⟨_, rfl, _, rfl, p, _, rfl, .inr (x8b.sqT s1), _, _, rfl, rfl, b, d, _, rfl, b10, by omega, fun r11 H11 j0 j1 x11 b11 => ?_⟩
          obtain ⟨at_, rfl⟩ := nat_of j0
          have hat : at_ ≤ vs.length := by omega
          have x8c := x8b.trans x11
          have eh11 : H11 h = some (.lst (hs0.map V.int)) := x11.lst (x10.lst (x9.lst eh8 (by rw [List.mem_singleton]; exact b8.ne eh8)) (by rw [List.mem_singleton]; exact b8.ne eh8)) (by rw [List.mem_singleton]; exact b8.ne eh8)
          -- readings[:at]
          refine ⟨_, rfl, _, rfl, (at_ : Int), rfl, slA_by (x8c.sqT s1) fun p1 H12 x12 s12 => ?_⟩
          have s12' : SqT K H12 p1 (vs.take at_) := by
            rw [← cut_lo hat]
            exact s12
          have eh12 : H12 h = some (.lst (hs0.map V.int)) := x12.lst eh11 (by simp)
          -- the new one
          refine ⟨_, rfl, _, rfl, _, rfl, _, rfl, b, d, h, hs0, one, other, by rw [← h1', ← h2']; rfl, b11.ext x12, eh12, by omega, by omega, hne, bhs, fun q8 r8 H13 k1 k3 k2 x13 b13 e8 => ?_⟩
          have eh13 : H13 h = some (.lst (hs0.map V.int)) := x13.lst eh12 (by rw [List.mem_singleton]; exact b8.ne eh8)
          refine ⟨by show 1 ≤ sizeLine; decide, fun t ht => ?_⟩
          have x14 : Ext [b] H12 (L2.upd H13 t (.tup [V.ref q8])) := x13.trans (.new ht)
          have rd8 : RdAt K (L2.upd H13 t (.tup [V.ref q8])) (.ref q8) r8 := ⟨q8, rfl, (Ext.new (c := []) ht).sqT (.inl (.inl e8))⟩
          have bd8 : RdB n r8 := ⟨by rw [lhs] at k1; exact k1, k2⟩
          have b14 : Box (L2.upd H13 t (.tup [V.ref q8])) b d := b13.ext (.new ht)
          have eh14 : (L2.upd H13 t (.tup [V.ref q8])) h = some (.lst (hs0.map V.int)) := by rw [upd_ne (ne_of_none eh13 ht)]; exact eh13
          have lt1 : (vs.take at_).length = at_ := by rw [List.length_take]; omega
          have ld1 : (vs.drop at_).length = vs.length - at_ := List.length_drop
          refine catA_by (x14.sqT s12') (.inl (.inl upd_same)) (by rw [lt1]; show _ + 1 ≤ 2 ^ 24; omega) fun p2 H15 x15 s15 => ?_
          -- readings[at:]
          have x8d : Ext [b] H6 H15 := ((x8c.trans x12.more).trans x14).trans x15.more
          refine ⟨_, rfl, _, rfl, (at_ : Int), rfl, ?_⟩
          dsimp only [tNoPart]
          refine slA_by (x8d.sqT s1) fun p3 H16 x16 s16 => ?_
          rw [cut_hi hat] at s16
          refine catA_by (x16.sqT s15) s16 (by rw [List.length_append, lt1, ld1]; show at_ + 1 + (vs.length - at_) ≤ 2 ^ 24; omega) fun p4 H17 x17 s17 => ?_
          have x8e : Ext [b] H6 H17 := (x8d.trans x16.more).trans x17.more
          have xE : Ext [] H15 H17 := x16.trans x17
          have s2e : Paired (RdAt K H17) vs rs := L2.Paired.mapP s2 fun _ _ k => k.ext x8e
          have rd8e : RdAt K H17 (.ref q8) r8 := (rd8.ext x15).ext xE
          have mem : ∀ r ∈ rs, r ∈ rs.take at_ ++ [r8] ++ rs.drop at_ := fun r hr => by
            rw [← List.take_append_drop at_ rs] at hr
            rcases List.mem_append.mp hr with hr | hr
            · exact List.mem_append_left _ (List.mem_append_left _ hr)
            · exact List.mem_append_right _ hr
          refine ⟨_, _, _, _, p4, rs.take at_ ++ [r8] ++ rs.drop at_, rfl, x8.trans x8e, (b14.ext x15).ext xE, ?_, ⟨vs.take at_ ++ [V.ref q8] ++ vs.drop at_, s17, pr_app ((pr_take at_ s2e).snoc rd8e) (pr_drop at_ s2e), fun r hr => ?_⟩, ?_, fun k' h1 h2 => ?_⟩
          · exact xE.lst (x15.lst eh14 (by simp)) (by simp)
          · rcases List.mem_append.mp hr with hr | hr
            · rcases List.mem_append.mp hr with hr | hr
              · exact s3 r (List.mem_of_mem_take hr)
              · rw [List.mem_singleton.mp hr]
                exact bd8
            · exact s3 r (List.mem_of_mem_drop hr)
          · rw [List.length_append, List.length_append, List.length_take, List.length_drop, List.length_singleton]
            omega
          · obtain ⟨r, hr, e⟩ := hL8 k' h1 h2
            exact ⟨r, mem r hr, e⟩
        · obtain ⟨y4, y7, y8, y9, p, rs, rfl, x8, b8, eh8, hR8, hl8, hL8⟩ := h6
          refine ⟨_, rfl, _, rfl, b, d, n, by rw [hn]; rfl, b8, by omega, fun q9 ms H9 hms hnm hnd x9 b9 e9 => ⟨_, rfl, by show 3 ≤ sizeLine; decide, fun t ht => ?_⟩⟩
          have x10 : Ext [b] H9 (upd H9 t (.tup [.str "net", .ref q9, .ref p])) := .new ht
          obtain ⟨vs, s1, s2, s3⟩ := (hR8.ext x9).ext x10
          refine q t ms rs _ (by omega) (by omega) (by omega) (fun r hr => by rw [hms]; exact (s3 r hr).1) (fun r hr => (s3 r hr).2) (by rw [hms]; exact hL8) hnm hnd ((x8.trans x9).trans x10) (b9.ext (.new ht)) ⟨q9, p, .inl (.inl upd_same), x10.sqT (.inl (.inl e9)), vs, s1, s2.length, pr_at s2⟩
end
end L0
set_option Elab.async false
set_option linter.all false
set_option maxRecDepth 100000
set_option maxHeartbeats 4000000
namespace L0
open PySem PySem.Spec PyProof.Rows L2 Gx RZ
/-! ### what repr writes -/
theorem weight_ints : ∀ ns : List Int, (∀ n ∈ ns, n.natAbs < 10 ^ 12) → PyData.weightAll (ns.map .int) ≤ 42 * ns.length
  | [], _ => Nat.le_refl _
  | n :: r, h => by
    have ih := weight_ints r fun m hm => h m (List.mem_cons_of_mem _ hm)
    have h1 : n.natAbs.log2 < 40 := PySem.Flt.log2_lt_of (by decide) (Nat.lt_trans (h n List.mem_cons_self) (by decide))
    rw [List.map_cons, PyData.weightAll, List.length_cons]
    simp only [PyData.weight]
    split <;> omega
theorem leaves_ints : ∀ ns : List Int, (∀ n ∈ ns, n.natAbs < 10 ^ 12) → PyData.leavesShortAll 13 (ns.map .int) = true
  | [], _ => rfl
  | n :: r, h => by
    rw [List.map_cons, PyData.leavesShortAll, Bool.and_eq_true]
    exact ⟨by simp only [PyData.leavesShort, decide_eq_true_eq]; exact PyData.shown_int_le (h n List.mem_cons_self), leaves_ints r fun m hm => h m (List.mem_cons_of_mem _ hm)⟩
theorem showable_ints : ∀ ns : List Int, (∀ n ∈ ns, n.natAbs < 10 ^ 12) → PyData.showableAll (ns.map .int) = true
  | [], _ => rfl
  | n :: r, h => by
    rw [List.map_cons, PyData.showableAll, Bool.and_eq_true]
    refine ⟨?_, showable_ints r fun m hm => h m (List.mem_cons_of_mem _ hm)⟩
    have h1 := h n List.mem_cons_self
    simp only [PyData.showable, decide_eq_true_eq]
    exact Nat.lt_trans (PySem.Flt.log2_lt_of (k := 40) (by decide) (Nat.lt_trans h1 (by decide))) (by decide)
theorem nodict_ints : ∀ ns : List Int, PyData.hasDictAll (ns.map .int) = false
  | [] => rfl
  | n :: r => by rw [List.map_cons, PyData.hasDictAll, nodict_ints r]; rfl
theorem depth_ints : ∀ ns : List Int, PyData.depthAll (ns.map .int) = 0
  | [] => rfl
  | n :: r => by rw [List.map_cons, PyData.depthAll, depth_ints r]; rfl
theorem log_small {n : Int} (h : n.natAbs < 10 ^ 12) : n.natAbs.log2 < 1920 := Nat.lt_trans (PySem.Flt.log2_lt_of (k := 40) (by decide) (Nat.lt_trans h (by decide))) (by decide)
theorem shows_tupI {ns : List Int} (h : ∀ n ∈ ns, n.natAbs < 10 ^ 12) (hl : ns.length ≤ 1000) : Shows (.tuple (ns.map .int)) := by
  refine ⟨by simp only [PyData.showable]; exact showable_ints ns h, by simp only [PyData.hasDict]; exact nodict_ints ns, by simp only [PyData.depth, depth_ints]; decide, ?_, fun i e => (by cases e), fun x e => (by cases e)⟩
  have e := PyData.shown_le 13 (by decide) (.tuple (ns.map .int)) (by simp only [PyData.leavesShort]; exact leaves_ints ns h)
  have e2 := weight_ints ns h
  simp only [PyData.weight] at e
  show _ ≤ 2 ^ 24
  omega
theorem shows_int {n : Int} (h : n.natAbs < 10 ^ 12) : Shows (.int n) :=
  ⟨by simp only [PyData.showable, decide_eq_true_eq]; exact log_small h, rfl, Nat.zero_le _, Nat.le_trans (PyData.shown_int_le h) (by decide), fun i e => by cases e; exact log_small h, fun x e => by cases e⟩
theorem shows_bl (b : Bool) : Shows (.bool b) := ⟨rfl, rfl, Nat.zero_le _, by cases b <;> decide, fun i e => (by cases e), fun x e => (by cases e)⟩
theorem dp_ints {K : PySem.W.Frag} {H : Hp} : ∀ ns : List Int, DpAll K H (ns.map V.int) (ns.map .int)
  | [] => .nil
  | n :: r => .cons (.int n) (dp_ints r)
theorem dp_tupI {K : PySem.W.Frag} {H : Hp} {a : Addr} {ns : List Int} (h : SqT K H a (ns.map V.int)) : Dp K H (.ref a) (.tuple (ns.map .int)) := .tup h (dp_ints ns)
theorem dp_lstI {K : PySem.W.Frag} {H : Hp} {a : Addr} {ns : List Int} (h : SqL K H a (ns.map V.int)) : Dp K H (.ref a) (.list (ns.map .int)) := .lst h (dp_ints ns)
section
variable {P : Program} {w : World} {K : PySem.W.Frag} {mg : Str → Option Value} {base : Heap}
/-! ### _law_same -/
def spSame (K : PySem.W.Frag) : Sp := fun vs H Q _ => ∃ (x y : V) (d : PyData), vs = [x, y] ∧ Dp K H x d ∧ Dp K H y d ∧ Shows d ∧ Q (.bl true) H
theorem scSame : FnScope ["actual", "due"] ["actual", "due"] (defScope sSame) := ⟨rfl, rfl, rfl, by decide +kernel, rfl, by decide +kernel, by decide +kernel⟩
theorem ok_same {f : Addr} {fd : FuncData} (mrp : mg "repr" = none) (F : Fun K "_law_same" "_law_same" sSame f fd) : FnG P w K mg base 1 f fd ["actual", "due"] (spSame K) := by
  refine okG F scSame (fun vs H Q E h => ?_) (fun cdv A outer s H vs Q E hgd hr h => ?_)
  · obtain ⟨_, _, _, rfl, _⟩ := h
    rfl
  · obtain ⟨x, y, d, rfl, dx, dy, S, q⟩ := h
    have hu : (A.deeper (envOfC "_law_same" (defScope sSame) s.heap.objs.size f cdv)).units + 65 < cLine := by
      have := hr.un
      omega
    refine ⟨_, pss_one (ps_ret (pe_cmpR op_eq (pe_callB (call_repr hgd hu) (by rfl) mrp PyProof.Rows.boot_repr (pa_cons (pv 0) pa_nil)) (pe_callB (call_repr hgd hu) (by rfl) mrp PyProof.Rows.boot_repr (pa_cons (pv 1) pa_nil)) (nomark _))), ?_⟩
    refine ⟨_, rfl, x, d, rfl, dx, S, _, rfl, y, d, rfl, dy, S, rfl, ?_⟩
    rw [decide_eq_true rfl]
    exact q
/-! ### _law_told -/
/-- what the written part says of the classes of errors: C BadNet, L LevelError, E BadEntry, S BadState -/
structure Errs (K : PySem.W.Frag) (mg : Str → Option Value) (C L E S : Addr) : Prop where
  bc : K0.BadC K C
  xc : ExcC K C
  xf : XfC K C
  gL : mg "LevelError" = some (.ref L)
  gE : mg "BadEntry" = some (.ref E)
  gS : mg "BadState" = some (.ref S)
  gC : mg "BadNet" = some (.ref C)
  gV : mg "ValueError" = none
  ex : PySem.W.exmOne K (.ref C) (.ref L) = some true
  kE : PySem.W.kitOne K (.ref C) (.ref E) = some false
  kS : PySem.W.kitOne K (.ref C) (.ref S) = some false
  kC : PySem.W.kitOne K (.ref C) (.ref C) = some true
  kV : PySem.W.kitOne K (.ref C) (.type "ValueError") = some true
def spTold (K : PySem.W.Frag) (T1 T2 T3 T4 : Addr) : Sp := fun vs H Q _ => ∃ (v : V) (d : PyData), vs = [v] ∧ DQ [] K H d v ∧ K0.Fit d ∧ K0.Tabs3 H T1 T2 T3 ∧ GxR.TabG H T4 ∧
  (K0.isNetD d = false → ∀ q H', Ext [] H H' → H' q = some (.tup [.int 0, .str "not a net"]) → Q (.ref q) H') ∧
  (K0.isNetD d = true → (K0.joinD d = false → ∀ q H', Ext [] H H' → H' q = some (.tup [.int 0, .str "not joined"]) → Q (.ref q) H') ∧ (K0.joinD d = true → ∀ H', Ext [] H H' → Q (.str "") H'))
theorem scTold : FnScope ["net", "e"] ["net"] (defScope sTold) := ⟨rfl, rfl, rfl, by decide +kernel, rfl, by decide +kernel, by decide +kernel⟩
theorem ok_told {f fC C L E S T1 T2 T3 T4 : Addr} {fd fdC : FuncData} (mii : mg "isinstance" = none) (F : Fun K "_law_told" "_law_told" sTold f fd) (X : Errs K mg C L E S)
    (GC : FnOk P w K mg base (CX P w) 14 fC fdC ["net"] (K0.spCheck K C T1 T2 T3 T4)) (kC : PySem.W.keepIn K (.ref fC) = true) (bC : Binds K fdC ["net"] []) (gC : mg "check_net" = some (.ref fC)) : FnOk P w K mg base CX0 15 f fd ["net"] (spTold K T1 T2 T3 T4) := by
  have nd := scTold.nd
  refine F.ok scTold (fun vs H Q E h => ?_) (fun cdv A outer s H vs Q EE hr h => ?_)
  · obtain ⟨_, _, rfl, _⟩ := h
    rfl
  · obtain ⟨v, d, rfl, hd, hfit, ht, ht4, q1, q2⟩ := h
    refine ⟨_, pss_cons (ps_try_as (i := 1) rfl rfl nd rfl rfl ⟨rfl, by decide, .inl X.gL⟩ takes0 (fun W pn xe tk _ => pss_one (ps_expr (pe_callS GC hr rfl gC kC bC (fun σ => passAt tk σ) (pa_cons (pv 0) pa_nil))))
        (fun a oe cls dd pn hz hf => pss_cons (ps_if (PW.pt (pw_or (pt_val (pe_callB (call_isX X.xc hz hf) (by rfl) mii PyProof.Rows.boot_isinstance (pa_cons (pv 1) (pa_cons (pe_glob (v := .ref E) rfl X.gE rfl) pa_nil))))
            (pw_or (pt_val (pe_callB (call_isX X.xc hz hf) (by rfl) mii PyProof.Rows.boot_isinstance (pa_cons (pv 1) (pa_cons (pe_glob (v := .ref S) rfl X.gS rfl) pa_nil))))
            (pw_or (pt_not (pt_val (pe_callB (call_isX X.xc hz hf) (by rfl) mii PyProof.Rows.boot_isinstance (pa_cons (pv 1) (pa_cons (pe_glob (v := .ref C) rfl X.gC rfl) pa_nil)))))
            (pw_or1 (pt_not (pt_val (pe_callB (call_isX X.xc hz hf) (by rfl) mii PyProof.Rows.boot_isinstance (pa_cons (pv 1) (pa_cons (pe_bltn (v := .ty "ValueError") (u := .type "ValueError") (by rfl) X.gV (by decide +kernel) rfl) pa_nil)))))))))) (pss_one (ps_ret pe_str)) pss_nil)
          (pss_one (ps_ret (pe_tup (pa_cons (pe_xf X.xf X.bc.fl hz hf (pv 1)) (pa_cons (pe_xf X.xf X.bc.fr hz hf (pv 1)) pa_nil)))))))
      (pss_one (ps_ret pe_str)), ?_⟩
    refine ⟨_, rfl, v, d, rfl, hd, hfit, ht, ht4, X.bc, fun hN H1 dd x1 e1 => ?_, fun hN => ⟨fun hJ H1 dd x1 e1 => ?_, fun hJ H1 x1 => ?_⟩⟩
    · refine ⟨true, X.ex, fun _ a ha => ?_, fun z => nomatch z⟩
      refine ⟨_, rfl, rfl, dd, _, _, _, _, rfl, rfl, (fun u r => r), X.kE, e1, _, rfl, iteF ?_⟩
      refine ⟨_, rfl, rfl, dd, _, _, _, _, rfl, rfl, (fun u r => r), X.kS, e1, _, rfl, iteF ?_⟩
      refine ⟨_, rfl, rfl, dd, _, _, _, _, rfl, rfl, (fun u r => r), X.kC, e1, _, rfl, iteF ?_⟩
      refine ⟨_, rfl, rfl, dd, _, _, _, _, rfl, rfl, (fun u r => r), X.kV, e1, _, rfl, iteF ?_⟩
      refine ⟨_, rfl, rfl, rfl, dd, _, _, rfl, e1, rfl, _, rfl, rfl, rfl, dd, _, _, rfl, e1, rfl, by show 2 ≤ sizeLine; decide, fun t ht' => ?_⟩
      exact q1 hN t _ (x1.trans (.new ht')) upd_same
    · refine ⟨true, X.ex, fun _ a ha => ?_, fun z => nomatch z⟩
      refine ⟨_, rfl, rfl, dd, _, _, _, _, rfl, rfl, (fun u r => r), X.kE, e1, _, rfl, iteF ?_⟩
      refine ⟨_, rfl, rfl, dd, _, _, _, _, rfl, rfl, (fun u r => r), X.kS, e1, _, rfl, iteF ?_⟩
      refine ⟨_, rfl, rfl, dd, _, _, _, _, rfl, rfl, (fun u r => r), X.kC, e1, _, rfl, iteF ?_⟩
      refine ⟨_, rfl, rfl, dd, _, _, _, _, rfl, rfl, (fun u r => r), X.kV, e1, _, rfl, iteF ?_⟩
      refine ⟨_, rfl, rfl, rfl, dd, _, _, rfl, e1, rfl, _, rfl, rfl, rfl, dd, _, _, rfl, e1, rfl, by show 2 ≤ sizeLine; decide, fun t ht' => ?_⟩
      exact (q2 hN).1 hJ t _ (x1.trans (.new ht')) upd_same
    · exact (q2 hN).2 hJ H1 x1
end
end L0
set_option Elab.async false
set_option linter.all false
set_option maxRecDepth 100000
set_option maxHeartbeats 4000000
namespace Gx
open PySem PySem.Spec PyProof.Rows L2 RZ
/-! ### displays of data: what their readings need -/
def Trk (c : List Addr) (H : Hp) : Prop := ∀ a ∈ c, H a ≠ none
theorem Trk.ext {c c' : List Addr} {H H' : Hp} (t : Trk c H) (x : Ext c' H H') : Trk c H' := fun a ha e => t a ha (x.dom a e)
def GD (c : List Addr) (K : PySem.W.Frag) (σ : L2.St) (H0 : Hp) (t : TE) (d : PyData) : Prop := ∀ H Q, Ext [] H0 H → (∀ v H', Ext [] H H' → DQ c K H' d v → Q v H') → t σ H Q
def GDs (c : List Addr) (K : PySem.W.Frag) (σ : L2.St) (H0 : Hp) (t : TA) (ds : List PyData) : Prop := ∀ H Q, Ext [] H0 H → (∀ xs H', Ext [] H H' → DQs c K H' ds xs → Q xs H') → t σ H Q
section
variable {c : List Addr} {K : PySem.W.Frag} {σ : L2.St} {H0 : Hp} {t t2 : TE} {ta : TA} {d : PyData} {ds es : List PyData}
theorem dq_more {H H' : Hp} {v : V} (h : DQ c K H d v) (x : Ext [] H H') : DQ c K H' d v := DQ.ext x.more d v h
theorem gd_int (i : Int) : GD c K σ H0 (tC (.int i)) (.int i) := fun H Q _ q => q _ H .refl (DQ.int i)
theorem gd_str (x : Str) : GD c K σ H0 (tC (.str x)) (.str x) := fun H Q _ q => q _ H .refl (DQ.str x)
theorem gd_bl (b : Bool) : GD c K σ H0 (tC (.bl b)) (.bool b) := fun H Q _ q => q _ H .refl (DQ.bl b)
theorem gd_non : GD c K σ H0 (tC .non) .none := fun H Q _ q => q _ H .refl DQ.non
theorem gd_neg (i : Int) : GD c K σ H0 (tUn (rU fun i => .int (-i)) (tC (.int i))) (.int (-i)) := fun H Q _ q => ⟨i, rfl, q _ H .refl (DQ.int _)⟩
theorem gd_var {i : Nat} {v : V} (hv : σ[i]? = some (some v)) (h : DQ c K H0 d v) : GD c K σ H0 (tVar i) d := fun H Q x q => ⟨v, hv, q v H .refl (dq_more h x)⟩
theorem gds_nil : GDs c K σ H0 tNil [] := fun H Q _ q => q [] H .refl DQs.nil
theorem gds_cons (h : GD c K σ H0 t d) (hs : GDs c K σ H0 ta ds) : GDs c K σ H0 (tCons t ta) (d :: ds) := fun H Q x q =>
  h H _ x fun v H1 x1 h1 => hs H1 _ (x.trans x1) fun xs H2 x2 h2 => q (v :: xs) H2 (x1.trans x2) (DQs.cons (dq_more h1 x2) h2)
theorem gd_tup (h : GDs c K σ H0 ta ds) (hl : ds.length ≤ 1000) : GD c K σ H0 (tTup ta) (.tuple ds) := fun H Q x q =>
  h H _ x fun xs H1 x1 h1 => ⟨by rw [h1.length]; exact Nat.le_of_lt (small1000 hl), fun p hp => q (.ref p) _ (x1.trans (.new hp)) (DQ.tup (.inl (.inl upd_same)) (DQs.ext (Ext.new hp) _ _ h1))⟩
/-- a list that is made: where it stands -/
theorem lst_new (h : GDs c K σ H0 ta ds) (hl : ds.length ≤ 1000) {H : Hp} {Q : VK} (x : Ext [] H0 H) (q : ∀ a xs H', Ext [] H H' → H a = none → H' a = some (.lst xs) → DQs c K H' ds xs → Q (.ref a) H') : tLst ta σ H Q :=
  h H _ x fun xs H1 x1 h1 => ⟨by rw [h1.length]; exact Nat.le_of_lt (small1000 hl), fun p hp => q p xs _ (x1.trans (.new hp)) (x1.dom p hp) upd_same (DQs.ext (Ext.new hp) _ _ h1)⟩
theorem gd_lst (ht : Trk c H0) (h : GDs c K σ H0 ta ds) (hl : ds.length ≤ 1000) : GD c K σ H0 (tLst ta) (.list ds) := fun H Q x q =>
  lst_new h hl x fun a xs H' x1 a0 e1 h1 => q (.ref a) H' x1 (DQ.lst (fun z => (ht.ext x) a z a0) (SqL.of e1) h1)
theorem gd_cat (h1 : GD c K σ H0 t (.tuple ds)) (h2 : GD c K σ H0 t2 (.tuple es)) (hl : ds.length + es.length ≤ 1000) : GD c K σ H0 (tOp (rCatA K) t t2) (.tuple (ds ++ es)) := fun H Q x q =>
  h1 H _ x fun v H1 x1 k1 => h2 H1 _ (x.trans x1) fun w' H2 x2 k2 => by
    have k1' := dq_more k1 x2
    rw [DQ] at k1' k2
    obtain ⟨a, xs, rfl, s1, q1⟩ := k1'
    obtain ⟨b, ys, rfl, s2, q2⟩ := k2
    have x12 := x1.trans x2
    refine ⟨a, b, xs, ys, rfl, rfl, s1, s2, ?_, fun e => ?_, fun _ e => ?_, fun _ _ p hp => ?_⟩
    · rw [q1.length, q2.length]
      exact Nat.le_of_lt (small1000 hl)
    · subst e
      have := q1.length
      have e2 : ds = [] := List.length_eq_zero_iff.mp this.symm
      subst e2
      exact q _ H2 x12 (DQ.tup s2 q2)
    · subst e
      have e2 : es = [] := List.length_eq_zero_iff.mp q2.length.symm
      subst e2
      refine q _ H2 x12 (DQ.tup (ds := ds ++ []) s1 ?_)
      rw [List.append_nil]
      exact q1
    · exact q _ _ (x12.trans (.new hp)) (DQ.tup (.inl (.inl upd_same)) (DQs.ext (Ext.new hp) _ _ (DQs.app q1 q2)))
theorem dqs_get : ∀ {ds : List PyData} {xs : List V} {H : Hp} {j : Nat} {d : PyData}, DQs c K H ds xs → ds[j]? = some d → ∃ v, xs[j]? = some v ∧ DQ c K H d v
  | [], _, _, _, _, h, e => by cases e
  | d0 :: ds, xs, H, j, d, h, e => by
    rw [DQs] at h
    obtain ⟨v, vs, rfl, h1, h2⟩ := h
    cases j with
    | zero => cases e; exact ⟨v, rfl, h1⟩
    | succ j => exact dqs_get (ds := ds) (xs := vs) h2 e
theorem gd_ix {j : Nat} (h : GD c K σ H0 t (.tuple ds)) (hj : ds[j]? = some d) : GD c K σ H0 (tOp (rIxT K) t (tC (.int (j : Nat)))) d := fun H Q x q =>
  h H _ x fun v H1 x1 k1 => by
    have k2 := k1
    rw [DQ] at k2
    obtain ⟨a, xs, rfl, s1, q1⟩ := k2
    obtain ⟨w', hw, hd⟩ := dqs_get q1 hj
    exact ⟨a, xs, _, w', rfl, rfl, s1, atI_nat hw, q w' H1 x1 hd⟩
end
end Gx
set_option Elab.async false
set_option linter.all false
set_option maxRecDepth 100000
set_option maxHeartbeats 400000
namespace L0
open PySem PySem.Spec PyProof.Rows L2 Gx RZ
section
variable {P : Program} {w : World} {K : PySem.W.Frag} {mg : Str → Option Value} {base : Heap}
/-! ### _law_bad_readings -/
def badR1 (n : Nat) : List PyData := [.tuple [.int 0, .int 0, .int 5], .tuple [.int 0, .int (n : Nat), .int 5], .tuple [.int (-1), .int 0, .int 5], .tuple [.int 0, .int 1, .int 1000001], .tuple [.int 0, .int 1, .int (-1000001)],
  .tuple [.int 0, .int 1, .bool true], .tuple [.bool false, .int 1, .int 5], .tuple [.int 0, .int 1], .tuple [.int 0, .int 1, .int 5, .int 5]]
def badR2 : List PyData := [.list [.int 0, .int 1, .int 5], .tuple [.int 0, .int 1, .str "5"], .tuple [.int 0, .int 1, .none], .int 7, .tuple [], .tuple [.str "a", .str "b", .int 5], .tuple [.bool true, .int 0, .int 5], .tuple [.int 0, .bool true, .int 5]]
theorem badR_bad (n : Nat) : ∀ d ∈ badR1 n ++ badR2, K0.isReadingD d n = false := by
  intro d hd
  unfold badR1 badR2 at hd
  simp only [List.cons_append, List.nil_append, List.mem_cons, List.not_mem_nil, or_false] at hd
  rcases hd with rfl | rfl | rfl | rfl | rfl | rfl | rfl | rfl | rfl | rfl | rfl | rfl | rfl | rfl | rfl | rfl | rfl <;>
    simp [K0.isReadingD, K0.isIndexD, K0.eqI, K0.isValueD]
def spBadR (K : PySem.W.Frag) : Sp := fun vs H Q _ => ∃ (n : Nat) (c : List Addr), vs = [.int (n : Nat)] ∧ Trk c H ∧ ∀ t xs H', Ext [] H H' → H t = none → H' t = some (.lst xs) → DQs c K H' (badR1 n ++ badR2) xs → Q (.ref t) H'
theorem scBadR : FnScope ["many", "rows"] ["many"] (defScope sBadR) := ⟨rfl, rfl, rfl, by decide +kernel, rfl, by decide +kernel, by decide +kernel⟩
theorem ok_badR {f : Addr} {fd : FuncData} (F : Fun K "_law_bad_readings" "_law_bad_readings" sBadR f fd) : FnOk P w K mg base CX0 1 f fd ["many"] (spBadR K) := by
  have nd := scBadR.nd
  refine F.ok scBadR (fun vs H Q E h => ?_) (fun cdv A outer s H vs Q E hr h => ?_)
  · obtain ⟨_, _, rfl, _⟩ := h
    rfl
  · obtain ⟨n, c, rfl, ht, q⟩ := h
    refine ⟨_, pss_cons (ps_set (i := 1) nd rfl (.inl rfl) (pe_lst (pa_cons (pe_tup (pa_cons pe_int (pa_cons pe_int (pa_cons pe_int pa_nil)))) (pa_cons (pe_tup (pa_cons pe_int (pa_cons (pv 0) (pa_cons pe_int pa_nil)))) (pa_cons (pe_tup (pa_cons (pe_un un_neg pe_int) (pa_cons pe_int (pa_cons pe_int pa_nil))))
        (pa_cons (pe_tup (pa_cons pe_int (pa_cons pe_int (pa_cons pe_int pa_nil)))) (pa_cons (pe_tup (pa_cons pe_int (pa_cons pe_int (pa_cons (pe_un un_neg pe_int) pa_nil)))) (pa_cons (pe_tup (pa_cons pe_int (pa_cons pe_int (pa_cons pe_bl pa_nil)))) (pa_cons (pe_tup (pa_cons pe_bl (pa_cons pe_int (pa_cons pe_int pa_nil))))
        (pa_cons (pe_tup (pa_cons pe_int (pa_cons pe_int pa_nil))) (pa_cons (pe_tup (pa_cons pe_int (pa_cons pe_int (pa_cons pe_int (pa_cons pe_int pa_nil))))) pa_nil)))))))))))
      (pss_one (ps_ret (pe_op op_cat (pv 1) (pe_lst (pa_cons (pe_lst (pa_cons pe_int (pa_cons pe_int (pa_cons pe_int pa_nil)))) (pa_cons (pe_tup (pa_cons pe_int (pa_cons pe_int (pa_cons pe_str pa_nil)))) (pa_cons (pe_tup (pa_cons pe_int (pa_cons pe_int (pa_cons pe_non pa_nil))))
        (pa_cons pe_int (pa_cons (pe_tup pa_nil) (pa_cons (pe_tup (pa_cons pe_str (pa_cons pe_str (pa_cons pe_int pa_nil)))) (pa_cons (pe_tup (pa_cons pe_bl (pa_cons pe_int (pa_cons pe_int pa_nil)))) (pa_cons (pe_tup (pa_cons pe_int (pa_cons pe_bl (pa_cons pe_int pa_nil)))) pa_nil)))))))))))), ?_⟩
    dsimp only [tSeq, tAsg]
    refine lst_new (c := c) (K := K) (H0 := H) (ds := [.tuple [.int 0, .int 0, .int 5], .tuple [.int 0, .int (n : Nat), .int 5], .tuple [.int (-1), .int 0, .int 5], .tuple [.int 0, .int 1, .int 1000001], .tuple [.int 0, .int 1, .int (-1000001)],
      .tuple [.int 0, .int 1, .bool true], .tuple [.bool false, .int 1, .int 5], .tuple [.int 0, .int 1], .tuple [.int 0, .int 1, .int 5, .int 5]]) ?_ (by show 9 ≤ 1000; decide) .refl fun a xs H1 x1 a0 e1 d1 => ?_
    · repeat' (first | exact gds_nil | exact gd_int _ | exact gd_str _ | exact gd_bl _ | exact gd_non | exact gd_neg _ | exact gd_var rfl (DQ.int _) | refine gds_cons ?_ ?_ | refine gd_tup ?_ (Nat.le_of_ble_eq_true rfl) | refine gd_lst ht ?_ (Nat.le_of_ble_eq_true rfl))
    dsimp only [gName, tRet, tOp]
    refine ⟨_, rfl, ?_⟩
    refine lst_new (c := c) (K := K) (H0 := H1) (ds := [.list [.int 0, .int 1, .int 5], .tuple [.int 0, .int 1, .str "5"], .tuple [.int 0, .int 1, .none], .int 7, .tuple [], .tuple [.str "a", .str "b", .int 5], .tuple [.bool true, .int 0, .int 5], .tuple [.int 0, .bool true, .int 5]]) ?_ (by show 8 ≤ 1000; decide) .refl fun a2 xs2 H2 x2 a20 e2 d2 => ?_
    · repeat' (first | exact gds_nil | exact gd_int _ | exact gd_str _ | exact gd_bl _ | exact gd_non | exact gd_neg _ | exact gd_var rfl (DQ.int _) | refine gds_cons ?_ ?_ | refine gd_tup ?_ (Nat.le_of_ble_eq_true rfl) | refine gd_lst (ht.ext x1) ?_ (Nat.le_of_ble_eq_true rfl))
    refine ⟨a, a2, xs, xs2, rfl, rfl, x2.lst e1 (by simp), e2, by rw [d1.length, d2.length]; show 9 + 8 ≤ 2 ^ 24; decide, fun p hp => ?_⟩
    have x3 := (x1.trans x2).trans (Ext.new (c := []) (o := .lst (xs ++ xs2)) hp)
    refine q p _ _ x3 ((x1.trans x2).dom p hp) upd_same ?_
    exact DQs.ext (Ext.new hp) _ _ (DQs.app (DQs.ext x2.more _ _ d1) d2)
end
end L0
set_option Elab.async false
set_option linter.all false
set_option maxRecDepth 100000
set_option maxHeartbeats 800000
namespace L0
open PySem PySem.Spec PyProof.Rows L2 Gx RZ
section
variable {P : Program} {w : World} {K : PySem.W.Frag} {mg : Str → Option Value} {base : Heap}
/-! ### _law_bad_marks -/
def mD (ms : List Str) : List PyData := ms.map .str
def badM1 (ms : List Str) : List PyData := [.tuple [], .list (mD ms), .str "a", .none, .tuple (mD ms ++ [.str (ms.getD 0 Str.empty)]), .tuple (mD ms ++ [.str ""]), .tuple (mD ms ++ [.str "A"]), .tuple (mD ms ++ [.str "abcdefghi"]), .tuple (mD ms ++ [.str "a1"])]
def badM2 (ms : List Str) : List PyData := [.tuple (mD ms ++ [.int 5]), .tuple (mD ms ++ [.tuple [.str "a"]]), .tuple (mD ms ++ [.str " a"])]
def badM3 : List PyData := [.tuple (mD (rowN 122 0 17))]
theorem mD_str (ms : List Str) : (mD ms).map K0.strOf = ms := by
  unfold mD
  rw [List.map_map]
  exact List.map_id' ms
theorem bad_last {ms : List Str} {d : PyData} (h : K0.isNameD d = false) : K0.areMarksD (.tuple (mD ms ++ [d])) = false := by
  show (decide _ && (((mD ms ++ [d]).all K0.isNameD) && _)) = false
  rw [List.all_append]
  have : ([d].all K0.isNameD) = false := by
    show (K0.isNameD d && true) = false
    rw [h]
    rfl
  rw [this, Bool.and_false, Bool.false_and, Bool.and_false]
theorem badM_bad {ms : List Str} (h0 : 0 < ms.length) : ∀ d ∈ badM1 ms ++ badM2 ms ++ badM3, K0.areMarksD d = false := by
  intro d hd
  unfold badM1 badM2 badM3 at hd
  simp only [List.cons_append, List.nil_append, List.mem_cons, List.not_mem_nil, or_false] at hd
  rcases hd with rfl | rfl | rfl | rfl | rfl | rfl | rfl | rfl | rfl | rfl | rfl | rfl | rfl
  · rfl
  · rfl
  · rfl
  · rfl
  · show (decide (1 ≤ (mD ms ++ [PyData.str (ms.getD 0 Str.empty)]).length ∧ (mD ms ++ [PyData.str (ms.getD 0 Str.empty)]).length ≤ 16) && (((mD ms ++ [PyData.str (ms.getD 0 Str.empty)]).all K0.isNameD) && decide ((mD ms ++ [PyData.str (ms.getD 0 Str.empty)]).map K0.strOf).Nodup)) = false
    have : ¬ ((mD ms ++ [PyData.str (ms.getD 0 Str.empty)]).map K0.strOf).Nodup := by
      rw [List.map_append, mD_str, List.nodup_append]
      intro h
      refine h.2.2 (ms.getD 0 Str.empty) ?_ _ (List.mem_singleton.mpr rfl) rfl
      rw [List.getD_eq_getElem?_getD, List.getElem?_eq_getElem h0]
      exact List.getElem_mem h0
    rw [decide_eq_false this, Bool.and_false, Bool.and_false]
  · exact bad_last (by decide +kernel)
  · exact bad_last (by decide +kernel)
  · exact bad_last (by decide +kernel)
  · exact bad_last (by decide +kernel)
  · exact bad_last rfl
  · exact bad_last rfl
  · exact bad_last (by decide +kernel)
  · have e : (mD (rowN 122 0 17)).length = 17 := by
      unfold mD
      rw [List.length_map, rowN_length]
    show (decide (1 ≤ (mD (rowN 122 0 17)).length ∧ (mD (rowN 122 0 17)).length ≤ 16) && (((mD (rowN 122 0 17)).all K0.isNameD) && decide ((mD (rowN 122 0 17)).map K0.strOf).Nodup)) = false
    rw [e]
    rfl
def spBadM (K : PySem.W.Frag) : Sp := fun vs H Q _ => ∃ (mp : Addr) (ms : List Str) (c : List Addr), vs = [.ref mp] ∧ SqT K H mp (ms.map V.str) ∧ 0 < ms.length ∧ ms.length ≤ 100 ∧ Trk c H ∧ ∀ t xs H', Ext [] H H' → H t = none → H' t = some (.lst xs) → DQs c K H' (badM1 ms ++ badM2 ms ++ badM3) xs → Q (.ref t) H'
abbrev nBadM : List Str := ["marks", "rows", "k"]
theorem scBadM : FnScope nBadM ["marks"] (defScope sBadM) := ⟨rfl, rfl, rfl, by decide +kernel, rfl, by decide +kernel, by decide +kernel⟩
theorem gd_list {c : List Addr} {σ : L2.St} {H0 : Hp} {t : TE} {ds : List PyData} (ht : Trk c H0) (h : GD c K σ H0 t (.tuple ds)) :
    GD c K σ H0 (tCB (fun xs H Q => ∃ p ys, xs = [.ref p] ∧ (SqL K H p ys ∨ SqT K H p ys) ∧ ∀ l, H l = none → Q (.ref l) (upd H l (.lst ys))) (tCons t tNil)) (.list ds) := fun H Q x q =>
  h H _ x fun v H1 x1 k1 => by
    rw [DQ] at k1
    obtain ⟨a, xs, rfl, s1, q1⟩ := k1
    exact ⟨a, xs, rfl, .inr s1, fun l hl => q _ _ (x1.trans (.new hl)) (DQ.lst (fun z => ((ht.ext x).ext x1) l z hl) (SqL.of upd_same) (DQs.ext (Ext.new hl) _ _ q1))⟩
theorem ok_badM {f : Addr} {fd : FuncData} (ml : mg "list" = none) (mt : mg "tuple" = none) (mr : mg "range" = none) (F : Fun K "_law_bad_marks" "_law_bad_marks" sBadM f fd) : FnOk P w K mg base CX0 1 f fd ["marks"] (spBadM K) := by
  have nd := scBadM.nd
  refine F.ok scBadM (fun vs H Q E h => ?_) (fun cdv A outer s H vs Q E hr h => ?_)
  · obtain ⟨_, _, _, rfl, _⟩ := h
    rfl
  · obtain ⟨mp, ms, c, rfl, hm, h0, h100, ht, q⟩ := h
    refine ⟨_, pss_cons (ps_set (i := 1) nd rfl (.inl rfl) (pe_lst (pa_cons (pe_tup pa_nil) (pa_cons (pe_callTy call_list_of (by rfl) ml PyProof.Rows.boot_list (pa_cons (pv 0) pa_nil)) (pa_cons pe_str (pa_cons pe_non
        (pa_cons (pe_op op_catA (pv 0) (pe_tup (pa_cons (pe_ix ix_tup (pv 0) pe_int (fun _ _ => rfl)) pa_nil))) (pa_cons (pe_op op_catA (pv 0) (pe_tup (pa_cons pe_str pa_nil))) (pa_cons (pe_op op_catA (pv 0) (pe_tup (pa_cons pe_str pa_nil))) (pa_cons (pe_op op_catA (pv 0) (pe_tup (pa_cons pe_str pa_nil))) (pa_cons (pe_op op_catA (pv 0) (pe_tup (pa_cons pe_str pa_nil))) pa_nil)))))))))))
      (pss_cons (ps_set (i := 1) nd rfl (.inl rfl) (pe_op op_cat (pv 1) (pe_lst (pa_cons (pe_op op_catA (pv 0) (pe_tup (pa_cons pe_int pa_nil))) (pa_cons (pe_op op_catA (pv 0) (pe_tup (pa_cons (pe_tup (pa_cons pe_str pa_nil)) pa_nil))) (pa_cons (pe_op op_catA (pv 0) (pe_tup (pa_cons pe_str pa_nil))) pa_nil))))))
      (pss_one (ps_ret (pe_op op_cat (pv 1) (pe_lst (pa_cons (pe_callTy call_tuple_of (by rfl) mt PyProof.Rows.boot_tuple (pa_cons (pe_lc (own := [("k", 2)]) (g := gName 2) (tt := tYes) rfl nd (pi_range1 (by rfl) mr (pa_cons pe_int pa_nil)) (blkOk_by (N := nBadM) (sc := defScope sBadM) (by decide +kernel))
          (fun _ _ _ _ _ => pg_name (i := 2) nd rfl (.inl rfl)) (fun _ _ _ _ _ => pts_nil) (fun _ _ _ _ _ => pe_op op_add_str pe_str (pe_ix ix_str pe_str (pv 2) (fun _ _ => rfl)))) pa_nil)) pa_nil)))))), ?_⟩
    have hM : DQ c K H (.tuple (mD ms)) (.ref mp) := DQ.tup hm (DQs.strs ms)
    have lM : (mD ms).length = ms.length := List.length_map _
    have hg : (mD ms)[0]? = some (.str (ms.getD 0 Str.empty)) := by
      unfold mD
      rw [List.getElem?_map, List.getElem?_eq_getElem h0, List.getD_eq_getElem?_getD, List.getElem?_eq_getElem h0]
      rfl
    have cat : ∀ {H0 : Hp} {σ : L2.St} {t2 : TE} {d : PyData}, σ[0]? = some (some (.ref mp)) → DQ c K H0 (.tuple (mD ms)) (.ref mp) → GD c K σ H0 t2 (.tuple [d]) → GD c K σ H0 (tOp (rCatA K) (tVar 0) t2) (.tuple (mD ms ++ [d])) := fun hs hm' h => gd_cat (gd_var hs hm') h (by rw [lM]; show ms.length + 1 ≤ 1000; omega)
    dsimp only [tSeq, tAsg]
    refine lst_new (c := c) (K := K) (H0 := H) (ds := [.tuple [], .list (mD ms), .str "a", .none, .tuple (mD ms ++ [.str (ms.getD 0 Str.empty)]), .tuple (mD ms ++ [.str ""]), .tuple (mD ms ++ [.str "A"]), .tuple (mD ms ++ [.str "abcdefghi"]), .tuple (mD ms ++ [.str "a1"])]) ?_ (Nat.le_of_ble_eq_true rfl) .refl fun a xs H1 x1 a0 e1 d1 => ?_
    · refine gds_cons (gd_tup gds_nil (Nat.le_of_ble_eq_true rfl)) (gds_cons (gd_list ht (gd_var rfl hM)) (gds_cons (gd_str _) (gds_cons gd_non (gds_cons (cat rfl hM (gd_tup (gds_cons (gd_ix (j := 0) (gd_var rfl hM) hg) gds_nil) (Nat.le_of_ble_eq_true rfl)))
        (gds_cons (cat rfl hM (gd_tup (gds_cons (gd_str _) gds_nil) (Nat.le_of_ble_eq_true rfl))) (gds_cons (cat rfl hM (gd_tup (gds_cons (gd_str _) gds_nil) (Nat.le_of_ble_eq_true rfl))) (gds_cons (cat rfl hM (gd_tup (gds_cons (gd_str _) gds_nil) (Nat.le_of_ble_eq_true rfl))) (gds_cons (cat rfl hM (gd_tup (gds_cons (gd_str _) gds_nil) (Nat.le_of_ble_eq_true rfl))) gds_nil))))))))
    have hM1 := dq_more hM x1
    dsimp only [gName, tRet, tOp]
    refine ⟨_, rfl, ?_⟩
    refine lst_new (c := c) (K := K) (H0 := H1) (ds := [.tuple (mD ms ++ [.int 5]), .tuple (mD ms ++ [.tuple [.str "a"]]), .tuple (mD ms ++ [.str " a"])]) ?_ (Nat.le_of_ble_eq_true rfl) .refl fun a2 xs2 H2 x2 a20 e2 d2 => ?_
    · refine gds_cons (cat rfl hM1 (gd_tup (gds_cons (gd_int _) gds_nil) (Nat.le_of_ble_eq_true rfl))) (gds_cons (cat rfl hM1 (gd_tup (gds_cons (gd_tup (gds_cons (gd_str _) gds_nil) (Nat.le_of_ble_eq_true rfl)) gds_nil) (Nat.le_of_ble_eq_true rfl))) (gds_cons (cat rfl hM1 (gd_tup (gds_cons (gd_str _) gds_nil) (Nat.le_of_ble_eq_true rfl))) gds_nil))
    have la : xs.length = 9 := d1.length
    have la2 : xs2.length = 3 := d2.length
    refine ⟨a, a2, xs, xs2, rfl, rfl, x2.lst e1 (by simp), e2, by rw [la, la2]; show 9 + 3 ≤ 2 ^ 24; decide, fun p hp => ?_⟩
    have x12 := x1.trans x2
    have x3 : Ext [] H2 (upd H2 p (.lst (xs ++ xs2))) := .new hp
    have d12 := DQs.ext x3.more _ _ (DQs.app (DQs.ext x2.more _ _ d1) d2)
    have e12 : (upd H2 p (.lst (xs ++ xs2))) p = some (.lst (xs ++ xs2)) := upd_same
    have x123 := x12.trans x3
    generalize upd H2 p (.lst (xs ++ xs2)) = H3 at x3 d12 e12 x123 ⊢
    refine ⟨_, rfl, 17, rfl, by decide, by decide, fun D hD => ?_⟩
    refine lc_range (n := 17) (fun i H4 => Ext [] H3 H4 ∧ H4 D = some (.lst ((rowN 122 0 i).map V.str))) ⟨.new hD, upd_same⟩ (fun i H4 hi h4 => ?_) (fun H4 h4 => ?_)
    · obtain ⟨x4, e4⟩ := h4
      have hj : (0 : Int) + (i : Nat) = ((0 + i : Nat) : Int) := by omega
      have hjl : 0 + i < 26 := by omega
      refine ⟨rfl, _, rfl, _, _, _, rfl, rfl, by decide, by rw [hj]; exact atI_nat (alph hjl), _, _, rfl, rfl, by show 1 + 1 ≤ 2 ^ 24; decide, ?_⟩
      refine ⟨_, e4, by rw [List.length_map, rowN_length]; exact small1000 (by omega), x4.own hD e4, ?_⟩
      rw [upd_same, rowN_succ, List.map_append]
      rfl
    · obtain ⟨x4, e4⟩ := h4
      refine ⟨D, _, rfl, .inl ⟨SqL.of e4, fun t ht' => ?_⟩⟩
      have x5 : Ext [] H3 (upd H4 t (.tup ((rowN 122 0 17).map V.str))) := x4.trans (.new ht')
      refine ⟨by show 1 ≤ sizeLine; decide, fun l hl => ?_⟩
      have x6 : Ext [] H3 (upd (upd H4 t (.tup ((rowN 122 0 17).map V.str))) l (.lst [.ref t])) := x5.trans (.new hl)
      have et : (upd (upd H4 t (.tup ((rowN 122 0 17).map V.str))) l (.lst [.ref t])) t = some (.tup ((rowN 122 0 17).map V.str)) := by rw [upd_ne (ne_of_none upd_same hl)]; exact upd_same
      refine ⟨p, l, xs ++ xs2, [.ref t], rfl, rfl, x6.lst e12 (by simp), upd_same, by rw [List.length_append, la, la2]; show 9 + 3 + 1 ≤ 2 ^ 24; decide, fun z hz => ?_⟩
      have x7 := x6.trans (Ext.new (c := []) (o := .lst (xs ++ xs2 ++ [.ref t])) hz)
      refine q z _ _ (x123.trans x7) (x123.dom z (x6.dom z hz)) upd_same ?_
      refine DQs.app (DQs.ext x7.more _ _ d12) (DQs.cons (DQ.tup (.inl (.inl ?_)) (DQs.strs _)) DQs.nil)
      rw [upd_ne (ne_of_none et hz)]
      exact et
end
end L0
set_option Elab.async false
set_option linter.all false
set_option maxRecDepth 100000
set_option maxHeartbeats 800000
namespace L0
open PySem PySem.Spec PyProof.Rows L2 Gx RZ
/-! ### lists of marks -/
theorem len_le : ∀ (n : Nat) (fs : List Nat), fs.Nodup → (∀ x ∈ fs, x < n) → fs.length ≤ n
  | 0, [], _, _ => Nat.le_refl _
  | 0, x :: _, _, h => absurd (h x List.mem_cons_self) (by omega)
  | n + 1, fs, hn, h => by
    by_cases c : n ∈ fs
    · have h1 := len_le n (fs.erase n) (hn.erase n) fun x hx => by
        have := (List.Nodup.mem_erase_iff hn).mp hx
        have := h x this.2
        omega
      rw [List.length_erase_of_mem c] at h1
      omega
    · have := len_le n fs hn fun x hx => by
        have h2 := h x hx
        have : x ≠ n := fun z => c (z ▸ hx)
        omega
      omega
theorem asc_eq : ∀ (a b : List Nat), a.Pairwise (· < ·) → b.Pairwise (· < ·) → (∀ x, x ∈ a ↔ x ∈ b) → a = b
  | [], [], _, _, _ => rfl
  | [], y :: b, _, _, h => absurd ((h y).mpr List.mem_cons_self) (by simp)
  | x :: a, [], _, _, h => absurd ((h x).mp List.mem_cons_self) (by simp)
  | x :: a, y :: b, ha, hb, h => by
    rw [List.pairwise_cons] at ha hb
    have hxy : x = y := by
      rcases List.mem_cons.mp ((h x).mp List.mem_cons_self) with e | e
      · exact e
      · rcases List.mem_cons.mp ((h y).mpr List.mem_cons_self) with e2 | e2
        · exact e2.symm
        · have h1 := hb.1 x e
          have h2 := ha.1 y e2
          omega
    subst hxy
    rw [asc_eq a b ha.2 hb.2 fun z => ?_]
    constructor
    · intro hz
      rcases List.mem_cons.mp ((h z).mp (List.mem_cons_of_mem _ hz)) with e | e
      · have := ha.1 z hz
        omega
      · exact e
    · intro hz
      rcases List.mem_cons.mp ((h z).mpr (List.mem_cons_of_mem _ hz)) with e | e
      · have := hb.1 z hz
        omega
      · exact e
/-- the marks that the law's own walk has found -/
structure Fnd (rs : List Rd3) (a : Nat) (fs : List Nat) : Prop where
  nod : fs.Nodup
  src : a ∈ fs
  con : ∀ m ∈ fs, K0.Conn rs a m
def Closed (rs : List Rd3) (fs : List Nat) : Prop := ∀ r ∈ rs, (r.1 ∈ fs ↔ r.2.1 ∈ fs)
theorem Fnd.add {rs : List Rd3} {a m : Nat} {fs : List Nat} (F : Fnd rs a fs) (hc : K0.Conn rs a m) (hm : m ∉ fs) : Fnd rs a (fs ++ [m]) := by
  refine ⟨?_, List.mem_append_left _ F.src, fun k hk => ?_⟩
  · rw [List.nodup_append]
    refine ⟨F.nod, by simp, fun x hx y hy z => ?_⟩
    rw [List.mem_singleton.mp hy] at z
    exact hm (z ▸ hx)
  · rcases List.mem_append.mp hk with hk | hk
    · exact F.con k hk
    · rw [List.mem_singleton.mp hk]
      exact hc
theorem Fnd.full {rs : List Rd3} {a : Nat} {fs : List Nat} (F : Fnd rs a fs) (hc : Closed rs fs) : ∀ m, K0.Conn rs a m → m ∈ fs := by
  intro m h
  induction h with
  | refl => exact F.src
  | step h e ih =>
    obtain ⟨r, hr, ⟨z1, z2⟩ | ⟨z1, z2⟩⟩ := e
    · rw [← z2]
      exact (hc r hr).mp (z1 ▸ ih)
    · rw [← z2]
      exact (hc r hr).mpr (z1 ▸ ih)
/-- within a turn: behind j readings, fs0 what was found ahead of the turn -/
def Trn (rs : List Rd3) (fs0 fs : List Nat) (j : Nat) : Prop := (fs = fs0 ∧ ∀ r ∈ rs.take j, (r.1 ∈ fs0 ↔ r.2.1 ∈ fs0)) ∨ (fs0.length < fs.length ∧ ¬ Closed rs fs0)
theorem mem_nI {x : Nat} {l : List Nat} : (x : Int) ∈ K0.nI l ↔ x ∈ l := by
  unfold K0.nI
  constructor
  · intro h
    obtain ⟨y, hy, e⟩ := List.mem_map.mp h
    have : y = x := by omega
    exact this ▸ hy
  · intro h
    exact List.mem_map.mpr ⟨x, h, rfl⟩
theorem inV_ints (x : Int) (ns : List Int) : inV (.int x) (ns.map V.int) = decide (x ∈ ns) := by
  unfold inV
  by_cases h : x ∈ ns
  · rw [decide_eq_true h, List.any_eq_true]
    exact ⟨.int x, List.mem_map.mpr ⟨x, h, rfl⟩, by show (x == x) = true; simp⟩
  · rw [decide_eq_false h, List.any_eq_false]
    intro y hy
    obtain ⟨n, hn, rfl⟩ := List.mem_map.mp hy
    show ¬ (n == x) = true
    rw [beq_iff_eq]
    intro z
    exact h (z ▸ hn)
theorem flat_ints (ns : List Int) : (ns.map V.int).all flatV = true := by
  rw [List.all_eq_true]
  intro x hx
  obtain ⟨n, _, rfl⟩ := List.mem_map.mp hx
  rfl
open Classical in
theorem asc_conR (rs : List Rd3) (n a : Nat) : (K0.conR rs n a).Pairwise (· < ·) := by
  unfold K0.conR
  exact List.Pairwise.filter _ List.pairwise_lt_range
open Classical in
theorem mem_conR {rs : List Rd3} {n a m : Nat} (hg : Gx.Good n rs) (ha : a < n) : m ∈ K0.conR rs n a ↔ K0.Conn rs a m := by
  unfold K0.conR
  rw [List.mem_filter, List.mem_range]
  constructor
  · intro h
    exact of_decide_eq_true h.2
  · intro h
    exact ⟨h.lt hg ha, decide_eq_true h⟩
end L0
set_option Elab.async false
set_option linter.all false
set_option maxRecDepth 100000
set_option maxHeartbeats 800000
namespace L0
open PySem PySem.Spec PyProof.Rows L2 Gx RZ
section
variable {P : Program} {w : World} {K : PySem.W.Frag} {mg : Str → Option Value} {base : Heap}
def spReachL (K : PySem.W.Frag) : Sp := fun vs H Q _ => ∃ (rp : Addr) (n a : Nat) (rs : List Rd3), vs = [.int (n : Nat), .ref rp, .int (a : Nat)] ∧ RdsAt K H rp rs ∧ Gx.Good n rs ∧ a < n ∧ n < 60 ∧
  ∀ q H', Ext [] H H' → H' q = some (.tup ((K0.nI (K0.conR rs n a)).map V.int)) → Q (.ref q) H'
abbrev nReachL : List Str := ["many", "readings", "start", "found", "turn", "one", "other", "value"]
theorem scReachL : FnScope nReachL ["many", "readings", "start"] (defScope sReachL) := ⟨rfl, rfl, rfl, by decide +kernel, rfl, by decide +kernel, by decide +kernel⟩
theorem adj1 {rs : List Rd3} {r : Rd3} (h : r ∈ rs) : K0.Adj rs r.1 r.2.1 := ⟨r, h, .inl ⟨rfl, rfl⟩⟩
theorem adj2 {rs : List Rd3} {r : Rd3} (h : r ∈ rs) : K0.Adj rs r.2.1 r.1 := ⟨r, h, .inr ⟨rfl, rfl⟩⟩
theorem ok_reachL {f : Addr} {fd : FuncData} (mr : mg "range" = none) (mt : mg "tuple" = none) (ms : mg "sorted" = none) (F : Fun K "_law_reached" "_law_reached" sReachL f fd) : FnOk P w K mg base CX0 1 f fd ["many", "readings", "start"] (spReachL K) := by
  have nd := scReachL.nd
  refine F.ok scReachL (fun vs H Q E h => ?_) (fun cdv A outer s H vs Q E hr h => ?_)
  · obtain ⟨_, _, _, _, rfl, _⟩ := h
    rfl
  · obtain ⟨rp, n, a, rs, rfl, ⟨vs, n3, n4, n5⟩, hgood, han, hn, q⟩ := h
    refine ⟨_, pss_cons (ps_set (i := 3) nd rfl (.inl rfl) (pe_lst (pa_cons (pv 2) pa_nil)))
      (pss_cons (ps_for PassesOwn.never rfl (pi_range1 (by rfl) mr (pa_cons (pv 0) pa_nil)) (pg_name (i := 4) nd rfl (.inl rfl))
        (pss_one (ps_for PassesOwn.never rfl (pi_tup (pv 1)) (pg_tup rfl (pgs_cons (pg_name (i := 5) nd rfl (.inl rfl)) (pgs_cons (pg_name (i := 6) nd rfl (.inl rfl)) (pgs_cons (pg_name (i := 7) nd rfl (.inl rfl)) pgs_nil))))
          (pss_cons (ps_if (PW.pt (pw_and (pt_cmpR op_in_seq (pv 5) (pv 3) (by rfl)) (pw_and1 (pt_cmpR op_notIn_seq (pv 6) (pv 3) (by rfl))))) (pss_one (ps_expr (pe_bm PySem.F.plainAttrs_list PySem.F.slot_list_append PySem.F.type_list_append mt_append (pv 3) (pa_cons (pv 6) pa_nil)))) pss_nil)
          (pss_one (ps_if (PW.pt (pw_and (pt_cmpR op_in_seq (pv 6) (pv 3) (by rfl)) (pw_and1 (pt_cmpR op_notIn_seq (pv 5) (pv 3) (by rfl))))) (pss_one (ps_expr (pe_bm PySem.F.plainAttrs_list PySem.F.slot_list_append PySem.F.type_list_append mt_append (pv 3) (pa_cons (pv 5) pa_nil)))) pss_nil))))))
      (pss_one (ps_ret (pe_callTy call_tuple_of (by rfl) mt PyProof.Rows.boot_tuple (pa_cons (pe_callB cr_sorted (by rfl) ms PyProof.Rows.boot_sorted (pa_cons (pv 3) pa_nil)) pa_nil))))), ?_⟩
    refine ⟨_, rfl, by show 1 ≤ sizeLine; decide, fun f0 hf => ?_⟩
    have hbig : ∀ fs, Fnd rs a fs → fs.length ≤ n := fun fs F => len_le n fs F.nod fun x hx => (F.con x hx).lt hgood han
    refine ⟨_, rfl, (n : Nat), rfl, by omega, by omega, for_range
      (fun i σ H1 => ∃ fs y4 y5 y6 y7, σ = [some (.int (n : Nat)), some (.ref rp), some (.int (a : Nat)), some (.ref f0), y4, y5, y6, y7] ∧ Ext [] H H1 ∧ H1 f0 = some (.lst ((K0.nI fs).map V.int)) ∧ Fnd rs a fs ∧ (Closed rs fs ∨ i + 1 ≤ fs.length))
      ⟨[a], _, _, _, _, rfl, .new hf, upd_same, ⟨by simp, List.mem_singleton.mpr rfl, fun m hm => by rw [List.mem_singleton.mp hm]; exact .refl⟩, .inr (Nat.le_refl _)⟩ (fun i σ H1 hi h1 => ?_) (fun σ H1 h1 => ?_)⟩
    · obtain ⟨fs0, y4, y5, y6, y7, rfl, x1, e1, F0, hc0⟩ := h1
      refine ⟨_, rfl, rp, rfl, ⟨_, x1.sqT n3⟩, ?_⟩
      refine for_tup (xs := vs) (fun j σ H2 => ∃ fs y4 y5 y6 y7, σ = [some (.int (n : Nat)), some (.ref rp), some (.int (a : Nat)), some (.ref f0), y4, y5, y6, y7] ∧ Ext [] H H2 ∧ H2 f0 = some (.lst ((K0.nI fs).map V.int)) ∧ Fnd rs a fs ∧ Trn rs fs0 fs j)
        ⟨fs0, _, _, _, _, rfl, x1, e1, F0, .inl ⟨rfl, fun r hr => by simp at hr⟩⟩ (fun j σ H2 _ h2 => ?_) (fun j v σ H2 hv h2 => ?_) (fun σ H2 h2 => ?_)
      · obtain ⟨_, _, _, _, _, _, x2, _⟩ := h2
        exact x2.sqT n3
      · obtain ⟨fs, z4, z5, z6, z7, rfl, x2, e2, F2, T2⟩ := h2
        have hj : j < rs.length := by
          rw [← n4]
          exact (List.getElem?_eq_some_iff.mp hv).1
        obtain ⟨v', k1, rp', rfl, k2⟩ := n5 j rs[j] (List.getElem?_eq_getElem hj)
        obtain rfl := Option.some.inj (hv.symm.trans k1)
        have hmem := List.getElem_mem hj
        have hfl : fs.length ≤ 1000 := by have := hbig fs F2; omega
        have eT : rs.take (j + 1) = rs.take j ++ [rs[j]] := by
          rw [List.take_add_one, List.getElem?_eq_getElem hj]
          rfl
        refine ⟨rp', _, rfl, x2.sqT k2, rfl, _, _, rfl, _, _, rfl, _, _, rfl, rfl, ?_⟩
        -- if one in found and other not in found
        refine ⟨_, rfl, _, rfl, f0, _, rfl, .inl (SqL.of e2), rfl, flat_ints _, _, rfl, ?_⟩
        have i1 : inV (.int (rs[j].1 : Nat)) ((K0.nI fs).map V.int) = decide (rs[j].1 ∈ fs) := by rw [inV_ints]; exact decide_eq_decide.mpr mem_nI
        have i2 : inV (.int (rs[j].2.1 : Nat)) ((K0.nI fs).map V.int) = decide (rs[j].2.1 ∈ fs) := by rw [inV_ints]; exact decide_eq_decide.mpr mem_nI
        have i1b : (!inV (.int (rs[j].1 : Nat)) ((K0.nI fs).map V.int)) = decide (rs[j].1 ∉ fs) := by rw [i1]; simp
        have i2b : (!inV (.int (rs[j].2.1 : Nat)) ((K0.nI fs).map V.int)) = decide (rs[j].2.1 ∉ fs) := by rw [i2]; simp
        -- nothing new
        have same : (rs[j].1 ∈ fs ↔ rs[j].2.1 ∈ fs) → Trn rs fs0 fs (j + 1) := fun h => by
          rcases T2 with ⟨rfl, hp⟩ | hr
          · refine .inl ⟨rfl, fun r hr => ?_⟩
            rw [eT] at hr
            rcases List.mem_append.mp hr with hr | hr
            · exact hp r hr
            · rw [List.mem_singleton.mp hr]
              exact h
          · exact .inr hr
        have more : ∀ m, ¬ (rs[j].1 ∈ fs ↔ rs[j].2.1 ∈ fs) → Trn rs fs0 (fs ++ [m]) (j + 1) := fun m h => by
          rcases T2 with ⟨rfl, hp⟩ | ⟨h1, h2⟩
          · exact .inr ⟨by rw [List.length_append, List.length_singleton]; omega, fun hc => h (hc _ hmem)⟩
          · exact .inr ⟨by rw [List.length_append, List.length_singleton]; omega, h2⟩
        refine ite2 (fun c1 => ?_) (fun c1 => iteF ?_)
        · have m1 : rs[j].1 ∈ fs := of_decide_eq_true (i1.symm.trans c1)
          refine ⟨_, rfl, _, rfl, f0, _, rfl, .inl (SqL.of e2), rfl, flat_ints _, _, rfl, ite2 (fun c2 => ?_) (fun c2 => ?_)⟩
          · have m2 : rs[j].2.1 ∉ fs := of_decide_eq_true (i2b.symm.trans c2)
            refine ⟨_, rfl, .inl ⟨rfl, _, SqL.of e2⟩, _, rfl, f0, _, _, rfl, rfl, e2, by rw [List.length_map, K0.nI_length]; exact small1000 hfl, ?_⟩
            have x3 : Ext [] H (upd H2 f0 (.lst ((K0.nI fs).map V.int ++ [.int (rs[j].2.1 : Nat)]))) := x2.own hf e2
            have e3 : (upd H2 f0 (.lst ((K0.nI fs).map V.int ++ [.int (rs[j].2.1 : Nat)]))) f0 = some (.lst ((K0.nI (fs ++ [rs[j].2.1])).map V.int)) := by rw [upd_same, K0.nI_snoc]
            have F3 := F2.add (.step (F2.con _ m1) (adj1 hmem)) m2
            have T3 := more rs[j].2.1 fun z => m2 (z.mp m1)
            refine ⟨_, rfl, _, rfl, f0, _, rfl, .inl (SqL.of e3), rfl, flat_ints _, _, rfl, ?_⟩
            refine ite2 (fun k1 => ?_) (fun k1 => iteF ⟨_, _, _, _, _, rfl, x3, e3, F3, T3⟩)
            refine ⟨_, rfl, _, rfl, f0, _, rfl, .inl (SqL.of e3), rfl, flat_ints _, _, rfl, ite2 (fun k2 => ?_) (fun k2 => ⟨_, _, _, _, _, rfl, x3, e3, F3, T3⟩)⟩
            have k3 : (!inV (.int (rs[j].1 : Nat)) ((K0.nI (fs ++ [rs[j].2.1])).map V.int)) = true := k2
            rw [inV_ints, decide_eq_true (mem_nI.mpr (List.mem_append_left _ m1))] at k3
            cases k3
          · have m2 : rs[j].2.1 ∈ fs := by
              apply Classical.byContradiction
              intro z
              exact c2 (i2b.trans (decide_eq_true z))
            have T3 := same ⟨fun _ => m2, fun _ => m1⟩
            refine ⟨_, rfl, _, rfl, f0, _, rfl, .inl (SqL.of e2), rfl, flat_ints _, _, rfl, ?_⟩
            refine ite2 (fun k1 => ?_) (fun k1 => iteF ⟨_, _, _, _, _, rfl, x2, e2, F2, T3⟩)
            refine ⟨_, rfl, _, rfl, f0, _, rfl, .inl (SqL.of e2), rfl, flat_ints _, _, rfl, ite2 (fun k2 => ?_) (fun k2 => ⟨_, _, _, _, _, rfl, x2, e2, F2, T3⟩)⟩
            exact absurd m1 (of_decide_eq_true (i1b.symm.trans k2))
        · have m1 : rs[j].1 ∉ fs := fun z => c1 (i1.trans (decide_eq_true z))
          refine ⟨_, rfl, _, rfl, f0, _, rfl, .inl (SqL.of e2), rfl, flat_ints _, _, rfl, ?_⟩
          refine ite2 (fun k1 => ?_) (fun k1 => ?_)
          · have m2 : rs[j].2.1 ∈ fs := of_decide_eq_true (i2.symm.trans k1)
            refine ⟨_, rfl, _, rfl, f0, _, rfl, .inl (SqL.of e2), rfl, flat_ints _, _, rfl, ite2 (fun k2 => ?_) (fun k2 => ?_)⟩
            · refine ⟨_, rfl, .inl ⟨rfl, _, SqL.of e2⟩, _, rfl, f0, _, _, rfl, rfl, e2, by rw [List.length_map, K0.nI_length]; exact small1000 hfl, ?_⟩
              exact ⟨fs ++ [rs[j].1], _, _, _, _, rfl, x2.own hf e2, by rw [upd_same, ← K0.nI_snoc], F2.add (.step (F2.con _ m2) (adj2 hmem)) m1, more rs[j].1 fun z => m1 (z.mpr m2)⟩
            · exact absurd (i1b.trans (decide_eq_true m1)) k2
          · have m2 : rs[j].2.1 ∉ fs := fun z => k1 (i2.trans (decide_eq_true z))
            exact iteF ⟨_, _, _, _, _, rfl, x2, e2, F2, same ⟨fun z => absurd z m1, fun z => absurd z m2⟩⟩
      · obtain ⟨fs, z4, z5, z6, z7, rfl, x2, e2, F2, T2⟩ := h2
        rw [n4, Trn, List.take_length] at T2
        refine ⟨fs, _, _, _, _, rfl, x2, e2, F2, ?_⟩
        rcases T2 with ⟨rfl, hcl⟩ | ⟨hlt, hnc⟩
        · exact .inl hcl
        · rcases hc0 with hc | hc
          · exact absurd hc hnc
          · exact .inr (by omega)
    · obtain ⟨fs, y4, y5, y6, y7, rfl, x1, e1, F0, hc0⟩ := h1
      have hcl : Closed rs fs := by
        rcases hc0 with hc | hc
        · exact hc
        · have := hbig fs F0
          rw [Int.toNat_natCast] at hc
          omega
      have hl64 : (K0.nI fs).length < 64 := by
        rw [K0.nI_length]
        have := hbig fs F0
        omega
      refine ⟨_, rfl, f0, K0.nI fs, rfl, SqL.of e1, hl64, fun ns p hperm hsrt hp => ?_⟩
      have ens : ns = K0.nI (K0.conR rs n a) := by
        have nn : ∀ x ∈ ns, 0 ≤ x := fun x hx => by
          obtain ⟨y, _, e⟩ := List.mem_map.mp (hperm.mem_iff.mp hx)
          omega
        have e1' : ns = K0.nI (ns.map Int.toNat) := by
          unfold K0.nI
          rw [List.map_map]
          refine (List.map_id' ns).symm.trans (List.map_congr_left fun x hx => ?_)
          show x = ((x.toNat : Nat) : Int)
          rw [Int.toNat_of_nonneg (nn x hx)]
        have hp2 : (ns.map Int.toNat).Perm fs := by
          have := hperm.map Int.toNat
          have e2' : (K0.nI fs).map Int.toNat = fs := by
            unfold K0.nI
            rw [List.map_map]
            exact List.map_id' fs
          rwa [e2'] at this
        have hle : (ns.map Int.toNat).Pairwise (· ≤ ·) := by
          rw [List.pairwise_map]
          exact hsrt.imp fun h => Int.toNat_le_toNat h
        have hlt : (ns.map Int.toNat).Pairwise (· < ·) := by
          have hnd : (ns.map Int.toNat).Nodup := hp2.nodup_iff.mpr F0.nod
          exact (hle.and hnd).imp fun h => Nat.lt_of_le_of_ne h.1 h.2
        rw [e1', asc_eq _ _ hlt (asc_conR rs n a) fun m => ?_]
        rw [hp2.mem_iff, mem_conR hgood han]
        exact ⟨fun h => F0.con m h, fun h => F0.full hcl m h⟩
      subst ens
      refine ⟨p, _, rfl, .inl ⟨SqL.of upd_same, fun t ht => ?_⟩⟩
      exact q t _ ((x1.trans (.new hp)).trans (.new ht)) upd_same
end
end L0
set_option Elab.async false
set_option linter.all false
set_option maxRecDepth 100000
set_option maxHeartbeats 800000
namespace L0
open PySem PySem.Spec PyProof.Rows L2 Gx RZ
/-! ### the data of nets -/
def rdD (r : Rd3) : PyData := .tuple [.int (r.1 : Nat), .int (r.2.1 : Nat), .int r.2.2]
def netX (m r : PyData) : PyData := .tuple [.str "net", m, r]
theorem toRd_rdD (r : Rd3) : K0.toRd (rdD r) = r := by
  show (((r.1 : Nat) : Int).toNat, ((r.2.1 : Nat) : Int).toNat, r.2.2) = r
  rw [Int.toNat_natCast, Int.toNat_natCast]
theorem map_rdD (rs : List Rd3) : (rs.map rdD).map K0.toRd = rs := by
  rw [List.map_map]
  refine (List.map_congr_left fun r _ => toRd_rdD r).trans (List.map_id' rs)
theorem net_is (m r : PyData) : K0.isNetD (netX m r) = (K0.areMarksD m && K0.areReadingsD r (K0.lenD m)) := by
  show (PyData.eqv (.str "net") (.str "net") && _) = _
  have : PyData.eqv (.str "net") (.str "net") = true := by decide +kernel
  rw [this]
  rfl
theorem marks_ok {ms : List Str} (h : 1 ≤ ms.length ∧ ms.length ≤ 16) (hn : ∀ m ∈ ms, K0.isNameS m = true) (hd : ms.Nodup) : K0.areMarksD (.tuple (mD ms)) = true := by
  show (decide (1 ≤ (mD ms).length ∧ (mD ms).length ≤ 16) && (((mD ms).all K0.isNameD) && decide ((mD ms).map K0.strOf).Nodup)) = true
  have e : (mD ms).length = ms.length := List.length_map _
  rw [e, mD_str, decide_eq_true h, decide_eq_true hd, Bool.true_and, Bool.and_true, List.all_eq_true]
  intro x hx
  obtain ⟨m, hm, rfl⟩ := List.mem_map.mp hx
  exact hn m hm
theorem reading_ok {n : Nat} {r : Rd3} (h : r.1 < n ∧ r.2.1 < n ∧ r.1 ≠ r.2.1) (hv : -1000000 ≤ r.2.2 ∧ r.2.2 ≤ 1000000) : K0.isReadingD (rdD r) n = true := by
  show ((decide (0 ≤ ((r.1 : Nat) : Int)) && decide (((r.1 : Nat) : Int) < n)) && ((decide (0 ≤ ((r.2.1 : Nat) : Int)) && decide (((r.2.1 : Nat) : Int) < n)) && (!decide (((r.1 : Nat) : Int) = ((r.2.1 : Nat) : Int)) && decide (-1000000 ≤ r.2.2 ∧ r.2.2 ≤ 1000000)))) = true
  rw [decide_eq_true (show (0 : Int) ≤ ((r.1 : Nat) : Int) by omega), decide_eq_true (show ((r.1 : Nat) : Int) < n by omega), decide_eq_true (show (0 : Int) ≤ ((r.2.1 : Nat) : Int) by omega), decide_eq_true (show ((r.2.1 : Nat) : Int) < n by omega), decide_eq_false (show ¬ ((r.1 : Nat) : Int) = ((r.2.1 : Nat) : Int) by omega), decide_eq_true hv]
  rfl
theorem readings_is (ds : List PyData) (n : Nat) : K0.areReadingsD (.tuple ds) n = (decide (ds.length ≤ 80) && ds.all fun x => K0.isReadingD x n) := rfl
theorem readings_ok {n : Nat} {rs : List Rd3} (hl : rs.length ≤ 80) (h : ∀ r ∈ rs, (r.1 < n ∧ r.2.1 < n ∧ r.1 ≠ r.2.1) ∧ (-1000000 ≤ r.2.2 ∧ r.2.2 ≤ 1000000)) : K0.areReadingsD (.tuple (rs.map rdD)) n = true := by
  rw [readings_is, decide_eq_true (by rw [List.length_map]; exact hl), Bool.true_and, List.all_eq_true]
  intro x hx
  obtain ⟨r, hr, rfl⟩ := List.mem_map.mp hx
  exact reading_ok (h r hr).1 (h r hr).2
theorem readings_bad {n : Nat} {as bs : List PyData} {d : PyData} (h : K0.isReadingD d n = false) : K0.areReadingsD (.tuple (as ++ [d] ++ bs)) n = false := by
  rw [readings_is]
  have : ((as ++ [d] ++ bs).all fun x => K0.isReadingD x n) = false := by
    rw [List.all_eq_false]
    exact ⟨d, by simp, by rw [h]; decide⟩
  rw [this, Bool.and_false]
theorem join_is (ms : List Str) (rs : List Rd3) : K0.joinD (netX (.tuple (mD ms)) (.tuple (rs.map rdD))) = K0.joinedR rs ms.length := by
  show K0.joinedR ((rs.map rdD).map K0.toRd) (mD ms).length = _
  rw [map_rdD]
  have e : (mD ms).length = ms.length := List.length_map _
  rw [e]
open Classical in
theorem joined_all {rs : List Rd3} {n : Nat} (h : ∀ k, k < n → K0.Conn rs 0 k) : K0.joinedR rs n = true := by
  unfold K0.joinedR K0.conR
  have : (List.range n).filter (fun i => decide (K0.Conn rs 0 i)) = List.range n := List.filter_eq_self.mpr fun i hi => decide_eq_true (h i (List.mem_range.mp hi))
  rw [this, List.length_range]
  exact decide_eq_true rfl
theorem conn_nil {a k : Nat} (h : K0.Conn [] a k) : k = a := by
  induction h with
  | refl => rfl
  | step _ e _ => obtain ⟨r, hr, _⟩ := e; cases hr
open Classical in
theorem joined_nil {n : Nat} (h : 2 ≤ n) : K0.joinedR [] n = false := by
  unfold K0.joinedR
  refine decide_eq_false fun z => ?_
  have h1 : (1 : Nat) ∈ K0.conR [] n 0 := by
    have e : K0.conR [] n 0 = List.range n := by
      have hs : (K0.conR [] n 0).Sublist (List.range n) := by unfold K0.conR; exact List.filter_sublist
      exact hs.eq_of_length (by rw [z, List.length_range])
    rw [e]
    exact List.mem_range.mpr (by omega)
  unfold K0.conR at h1
  have := of_decide_eq_true (List.mem_filter.mp h1).2
  have := conn_nil this
  omega
section
variable {K : PySem.W.Frag} {H : Hp} {c : List Addr}
theorem rd_dq {v : V} {r : Rd3} (h : RdAt K H v r) : DQ c K H (rdD r) v := by
  obtain ⟨p, rfl, hp⟩ := h
  exact DQ.tup hp (DQs.cons (DQ.int _) (DQs.cons (DQ.int _) (DQs.cons (DQ.int _) DQs.nil)))
theorem rds_dq : ∀ {rs : List Rd3} {vs : List V}, vs.length = rs.length → (∀ (i : Nat) (r : Rd3), rs[i]? = some r → ∃ v, vs[i]? = some v ∧ RdAt K H v r) → DQs c K H (rs.map rdD) vs
  | [], [], _, _ => DQs.nil
  | r :: rs, v :: vs, hl, h => by
    obtain ⟨v0, e, hv⟩ := h 0 r rfl
    cases e
    exact DQs.cons (rd_dq hv) (rds_dq (by simpa using hl) fun i r e => h (i + 1) r e)
  | [], _ :: _, h, _ => by simp at h
  | _ :: _, [], h, _ => by simp at h
theorem fit_net {m r : PyData} (h : K0.Short m) : K0.Fit (netX m r) := fun t m' r' e => by
  cases e
  exact ⟨by decide +kernel, h⟩
theorem short_strs {ms : List Str} (h : ∀ m ∈ ms, m.length ≤ 1000) : K0.Short (.tuple (mD ms)) := fun ds e x hx y hy => by
  cases e
  subst hy
  obtain ⟨m, hm, e⟩ := List.mem_map.mp hx
  cases e
  exact h _ hm
theorem short_names {ms : List Str} (h : ∀ m ∈ ms, K0.isNameS m = true) : ∀ m ∈ ms, m.length ≤ 1000 := fun m hm => by
  have := h m hm
  unfold K0.isNameS at this
  rw [Bool.and_eq_true] at this
  have := of_decide_eq_true this.1
  omega
end
end L0
set_option Elab.async false
set_option linter.all false
set_option maxRecDepth 100000
set_option maxHeartbeats 4000000
namespace L0
open PySem PySem.Spec PyProof.Rows L2 Gx RZ
abbrev nLaw : List Str := ["script", "box", "net", "marks", "many", "odd", "bad", "at", "wrong", "thing", "edge", "size", "full", "less", "found", "start", "reading", "k"]
theorem scLaw : FnScope nLaw ["script"] (defScope sLaw) := ⟨rfl, rfl, rfl, by decide +kernel, rfl, by decide +kernel, by decide +kernel⟩
section
variable {P : Program} {w : World} {K : PySem.W.Frag} {mg : Str → Option Value} {base : Heap}
theorem neF {A B : Prop} {d e : PyData} (h : PyData.eqv d e = true) (hB : B) : if (!PyData.eqv d e) = true then A else B := by
  rw [h]
  exact iteF hB
theorem eqv_two (i : Int) (x : Str) : PyData.eqv (.tuple [.int i, .str x]) (.tuple [.int i, .str x]) = true := by
  simp [PyData.eqv, PyData.eqvAll]
theorem shaped_two (i : Int) (x : Str) (h : SeqAt.shaped (.str x) = true) : SeqAt.shaped (.tuple [.int i, .str x]) = true := by
  have h1 := SeqAt.canLay_of_shaped h
  unfold SeqAt.shaped
  simp only [PyData.canLay0, PyData.canLayAll0, PyData.depth, PyData.depthAll] at h1 ⊢
  simp [h1]
theorem dqs_take {c : List Addr} {K : PySem.W.Frag} {H : Hp} : ∀ {ds : List PyData} {xs : List V} (n : Nat), DQs c K H ds xs → DQs c K H (ds.take n) (xs.take n)
  | _, _, 0, _ => by simpa using DQs.nil
  | [], _, n + 1, h => by rw [DQs] at h; subst h; exact DQs.nil
  | d :: ds, xs, n + 1, h => by
    rw [DQs] at h
    obtain ⟨v, vs, rfl, h1, h2⟩ := h
    exact DQs.cons h1 (dqs_take n h2)
theorem dqs_drop {c : List Addr} {K : PySem.W.Frag} {H : Hp} : ∀ {ds : List PyData} {xs : List V} (n : Nat), DQs c K H ds xs → DQs c K H (ds.drop n) (xs.drop n)
  | _, _, 0, h => by simpa using h
  | [], _, n + 1, h => by rw [DQs] at h; subst h; exact DQs.nil
  | d :: ds, xs, n + 1, h => by
    rw [DQs] at h
    obtain ⟨v, vs, rfl, h1, h2⟩ := h
    exact dqs_drop n h2
theorem short_app {ms : List Str} {d : PyData} (h : ∀ m ∈ ms, m.length ≤ 1000) (hd : ∀ x, d = .str x → x.length ≤ 1000) : K0.Short (.tuple (mD ms ++ [d])) := fun ds e x hx y hy => by
  cases e
  rcases List.mem_append.mp hx with hx | hx
  · exact short_strs h _ rfl x hx y hy
  · rw [List.mem_singleton.mp hx] at hy
    exact hd y hy
theorem badM_short {ms : List Str} (h : ∀ m ∈ ms, K0.isNameS m = true) (h0 : 0 < ms.length) : ∀ d ∈ badM1 ms ++ badM2 ms ++ badM3, K0.Short d := by
  have hs := short_names h
  intro d hd
  unfold badM1 badM2 badM3 at hd
  simp only [List.cons_append, List.nil_append, List.mem_cons, List.not_mem_nil, or_false] at hd
  rcases hd with rfl | rfl | rfl | rfl | rfl | rfl | rfl | rfl | rfl | rfl | rfl | rfl | rfl
  · intro ds e x hx; cases e; cases hx
  · intro ds e; cases e
  · intro ds e; cases e
  · intro ds e; cases e
  · refine short_app hs fun x e => ?_
    cases e
    refine hs _ ?_
    rw [List.getD_eq_getElem?_getD, List.getElem?_eq_getElem h0]
    exact List.getElem_mem h0
  · exact short_app hs fun x e => by cases e; decide
  · exact short_app hs fun x e => by cases e; decide
  · exact short_app hs fun x e => by cases e; decide
  · exact short_app hs fun x e => by cases e; decide
  · exact short_app hs fun x e => by cases e
  · exact short_app hs fun x e => by cases e
  · exact short_app hs fun x e => by cases e; decide
  · exact short_strs (short_names (rowN_names (by decide) (by decide)))
theorem gd_sl2 {c : List Addr} {K : PySem.W.Frag} {σ : L2.St} {H0 : Hp} {t : TE} {ds : List PyData} (h : GD c K σ H0 t (.tuple ds)) (hl : 2 ≤ ds.length) : GD c K σ H0 (tSl (rSlA K) t tNoPart (tPart (tC (.int 2)))) (.tuple (ds.take 2)) := fun H Q x q =>
  h H _ x fun v H1 x1 k1 => by
    rw [DQ] at k1
    obtain ⟨a, xs, rfl, s1, q1⟩ := k1
    refine ⟨2, rfl, ?_⟩
    show rSlA K (.ref a) none (some ((2 : Nat) : Int)) H1 Q
    refine slA_by s1 fun p H' x' s' => ?_
    rw [cut_lo (by rw [q1.length]; exact hl)] at s'
    exact q _ _ (x1.trans x') (DQ.tup s' (dqs_take 2 (DQs.ext x'.more _ _ q1)))
def nine (M : PyData) (rd : List PyData) : List PyData := [.tuple [.str "nets", M, .tuple rd], .tuple [.str "net", M], .tuple ([.str "net", M, .tuple rd] ++ [.tuple []]), .list [.str "net", M, .tuple rd], .none, .int 7, .tuple [.str "net", M, .list rd], .tuple [], .tuple [.tuple [.str "net"], M, .tuple rd]]
theorem nine_bad {M : PyData} {rd : List PyData} (hM : K0.Short M) : ∀ d ∈ nine M rd, K0.isNetD d = false ∧ K0.Fit d := by
  intro d hd
  unfold nine at hd
  simp only [List.mem_cons, List.not_mem_nil, or_false] at hd
  rcases hd with rfl | rfl | rfl | rfl | rfl | rfl | rfl | rfl | rfl
  · refine ⟨?_, fun t m r e => by cases e; exact ⟨by decide +kernel, hM⟩⟩
    show (PyData.eqv (.str "nets") (.str "net") && (K0.areMarksD M && K0.areReadingsD (.tuple rd) (K0.lenD M))) = false
    rw [show PyData.eqv (.str "nets") (.str "net") = false from by decide +kernel]
    rfl
  · exact ⟨rfl, fun t m r e => by cases e⟩
  · exact ⟨rfl, fun t m r e => by cases e⟩
  · exact ⟨rfl, fun t m r e => by cases e⟩
  · exact ⟨rfl, fun t m r e => by cases e⟩
  · exact ⟨rfl, fun t m r e => by cases e⟩
  · refine ⟨?_, fun t m r e => by cases e; exact ⟨by decide +kernel, hM⟩⟩
    show K0.isNetD (netX M (.list rd)) = false
    rw [net_is, show K0.areReadingsD (.list rd) (K0.lenD M) = false from rfl, Bool.and_false]
  · exact ⟨rfl, fun t m r e => by cases e⟩
  · refine ⟨?_, fun t m r e => by cases e; exact ⟨by decide +kernel, hM⟩⟩
    show (PyData.eqv (.tuple [.str "net"]) (.str "net") && (K0.areMarksD M && K0.areReadingsD (.tuple rd) (K0.lenD M))) = false
    rw [show PyData.eqv (.tuple [.str "net"]) (.str "net") = false from by decide +kernel]
    rfl
theorem next_eq (D : Ends) (σ : L2.St) (H : Hp) : tNext D σ H = D.nx σ H := rfl
theorem seq_eq (t u : TS) (D : Ends) (σ : L2.St) (H : Hp) : tSeq t u D σ H = t { D with nx := u D } σ H := rfl
theorem forL_eq (K : PySem.W.Frag) (te : TE) (g : TG) (tb : TS) (D : Ends) (σ : L2.St) (H : Hp) : tFor (iList K te) g tb D σ H = te σ H fun x H1 => ∃ a, x = .ref a ∧ (∃ xs, SqL K H1 a xs) ∧ ∃ W : Nat → Nat → L2.St → Hp → Prop, (∃ m, W 0 m σ H1) ∧ ∀ i m σ H, W i m σ H →
    ((Itl K a).stop i H ∧ D.nx σ H) ∨ ((Itl K a).go i H ∧ ∃ N : L2.St → Hp → Prop, (∀ σ' H', N σ' H' → ∃ m', m' < m ∧ W (i + 1) m' σ' H') ∧ ∀ x H', (Itl K a).yld i H x H' → g x σ H' fun σ2 H2 => tb { D with nx := N, ct := N, bk := D.nx } σ2 H2) := rfl
theorem dqs_rep {c : List Addr} {K : PySem.W.Frag} {H : Hp} {d : PyData} {v : V} (h : DQ c K H d v) : ∀ k, DQs c K H (List.replicate k d) (List.replicate k v)
  | 0 => DQs.nil
  | k + 1 => by
    rw [List.replicate_succ, List.replicate_succ]
    exact DQs.cons h (dqs_rep h k)
theorem link_more {rs qs : List Rd3} {n : Nat} (h : LinkN rs n) : LinkN (rs ++ qs) n := fun k h1 h2 => let ⟨r, hr, e⟩ := h k h1 h2; ⟨r, List.mem_append_left _ hr, e⟩
structure Mods (mg : Str → Option Value) : Prop where
  len : mg "len" = none
  int : mg "int" = none
  range : mg "range" = none
  tuple : mg "tuple" = none
  list : mg "list" = none
/-- a def that the law calls: its promise at its level, how it is bound -/
structure Cd (P : Program) (w : World) (K : PySem.W.Frag) (mg : Str → Option Value) (base : Heap) (k : Nat) (x : Str) (ps : List Str) (sp : Sp) (f : Addr) (fd : FuncData) : Prop where
  ok : FnOk P w K mg base CX0 k f fd ps sp
  kp : PySem.W.keepIn K (.ref f) = true
  bi : Binds K fd ps []
  gl : mg x = some (.ref f)
def spLaw (K : PySem.W.Frag) (T1 T2 T3 T4 : Addr) : Sp := fun vs H Q _ => ∃ (a : Addr) (xs : List Int), vs = [.ref a] ∧ SqL K H a (xs.map V.int) ∧ K0.Tabs3 H T1 T2 T3 ∧ GxR.TabG H T4 ∧ ∀ H', Q (.bl true) H'
theorem ok_law {fL fDg fD fP fS fN fT fBR fBM fRL fJ fR T1 T2 T3 T4 : Addr} {dL dDg dD dP dS dN dT dBR dBM dRL dJ dR : FuncData} (B : Mods mg) (F : Fun K "law" "law" sLaw fL dL)
    (DDg : Cd P w K mg base 2 "_law_digits" ["script", "first", "last"] (spDigits K) fDg dDg) (DD : Cd P w K mg base 1 "_law_draw" ["box", "many"] spDraw fD dD) (DP : Cd P w K mg base 2 "_law_pick" ["box", "things"] (spPick K) fP dP)
    (DN : Cd P w K mg base 3 "_law_net" ["box", "most", "more"] (spNet K) fN dN) (DT : Cd P w K mg base 15 "_law_told" ["net"] (spTold K T1 T2 T3 T4) fT dT) (DBR : Cd P w K mg base 1 "_law_bad_readings" ["many"] (spBadR K) fBR dBR)
    (DBM : Cd P w K mg base 1 "_law_bad_marks" ["marks"] (spBadM K) fBM dBM) (DRL : Cd P w K mg base 1 "_law_reached" ["many", "readings", "start"] (spReachL K) fRL dRL) (DJ : Cd P w K mg base 9 "is_joined" ["marks", "readings"] (K0.spJoined K T4) fJ dJ) (DR : Cd P w K mg base 8 "reached" ["many", "readings", "start"] (K0.spReached K T4) fR dR)
    (GS : FnG P w K mg base 1 fS dS ["actual", "due"] (spSame K)) (kS : PySem.W.keepIn K (.ref fS) = true) (bS : Binds K dS ["actual", "due"] []) (gS : mg "_law_same" = some (.ref fS)) :
    FnG P w K mg base 17 fL dL ["script"] (spLaw K T1 T2 T3 T4) := by
  have nd := scLaw.nd
  refine okG F scLaw (fun vs H Q E h => ?_) (fun cdv A outer s H vs Q E hgd hr h => ?_)
  · obtain ⟨_, _, rfl, _⟩ := h
    rfl
  · obtain ⟨a, xs, rfl, hs, ht, ht4, q⟩ := h
    generalize hA : A.deeper (envOfC "law" (defScope sLaw) s.heap.objs.size fL cdv) = A9 at hr
    have hgd9 : A9.guards = some [] := by rw [← hA]; exact hgd
    subst hA
    have hu := hr.units
    have r1 := hr.mono (show 1 ≤ 16 by decide)
    have r2 := hr.mono (show 2 ≤ 16 by decide)
    have r3 := hr.mono (show 3 ≤ 16 by decide)
    have r8 := hr.mono (show 8 ≤ 16 by decide)
    have r9 := hr.mono (show 9 ≤ 16 by decide)
    have r15 := hr.mono (show 15 ≤ 16 by decide)
    apply Exists.intro
    refine And.intro ?hb ?hc
    case hb =>
      apply pss_cons
      · exact ps_set (i := 1) nd rfl (.inr rfl) (pe_lst (pa_cons (pe_call DDg.ok r2 (by rfl) DDg.gl DDg.kp DDg.bi .nil pass0 (pa_cons (pv 0) (pa_cons pe_int (pa_cons pe_int pa_nil)))) (pa_cons pe_int pa_nil)))
      apply pss_cons
      · exact ps_set (i := 2) nd rfl (.inl rfl) (pe_call DN.ok r3 (by rfl) DN.gl DN.kp DN.bi .nil pass0 (pa_cons (pv 1) (pa_cons pe_int (pa_cons pe_int pa_nil))))
      apply pss_cons
      · exact ps_set (i := 3) nd rfl (.inl rfl) (pe_ix ix_tup (pv 2) pe_int (fun _ _ => rfl))
      apply pss_cons
      · exact ps_set (i := 4) nd rfl (.inl rfl) (pe_callB call_len_seq (by rfl) B.len PySem.boot_len (pa_cons (pv 3) pa_nil))
      apply pss_cons
      · exact ps_if (PW.pt (pw_or (pt_cmpR (op_neD hu) (pe_call DT.ok r15 (by rfl) DT.gl DT.kp DT.bi .nil pass0 (pa_cons (pv 2) pa_nil)) pe_str (nomark _)) (pw_or1 (pt_cmpR op_notBl (pe_call DJ.ok r9 (by rfl) DJ.gl DJ.kp DJ.bi .nil pass0 (pa_cons (pv 3) (pa_cons (pe_ix ix_tup (pv 2) pe_int (fun _ _ => rfl)) pa_nil))) pe_bl (nomark _))))) (pss_one (ps_ret pe_bl)) pss_nil
      apply pss_cons
      · exact ps_set (i := 5) nd rfl (.inl rfl) pe_str
      apply pss_cons
      · exact ps_set (i := 6) nd rfl (.inl rfl) (pe_call DP.ok r2 (by rfl) DP.gl DP.kp DP.bi .nil pass0 (pa_cons (pv 1) (pa_cons (pe_call DBM.ok r1 (by rfl) DBM.gl DBM.kp DBM.bi .nil pass0 (pa_cons (pv 3) pa_nil)) pa_nil)))
      apply pss_cons
      · exact ps_if (pt_cmpR (op_neD hu) (pe_call DT.ok r15 (by rfl) DT.gl DT.kp DT.bi .nil pass0 (pa_cons (pe_tup (pa_cons pe_str (pa_cons (pv 6) (pa_cons (pe_tup pa_nil) pa_nil)))) pa_nil)) (pe_tup (pa_cons pe_int (pa_cons (pv 5) pa_nil))) (nomark _)) (pss_one (ps_ret pe_bl)) pss_nil
      apply pss_cons
      · exact ps_set (i := 7) nd rfl (.inl rfl) (pe_call DD.ok r1 (by rfl) DD.gl DD.kp DD.bi .nil pass0 (pa_cons (pv 1) (pa_cons (pe_op op_add (pe_callB call_len_seq (by rfl) B.len PySem.boot_len (pa_cons (pe_ix ix_tup (pv 2) pe_int (fun _ _ => rfl)) pa_nil)) pe_int) pa_nil)))
      apply pss_cons
      · exact ps_set (i := 8) nd rfl (.inl rfl) (pe_call DP.ok r2 (by rfl) DP.gl DP.kp DP.bi .nil pass0 (pa_cons (pv 1) (pa_cons (pe_call DBR.ok r1 (by rfl) DBR.gl DBR.kp DBR.bi .nil pass0 (pa_cons (pv 4) pa_nil)) pa_nil)))
      apply pss_cons
      · exact ps_if (pt_cmpR (op_neD hu) (pe_call DT.ok r15 (by rfl) DT.gl DT.kp DT.bi .nil pass0 (pa_cons (pe_tup (pa_cons pe_str (pa_cons (pv 3) (pa_cons (pe_op op_catA (pe_op op_catA (pe_slice sl_tupA (pe_ix ix_tup (pv 2) pe_int (fun _ _ => rfl)) po_none (po_some (pv 7))) (pe_tup (pa_cons (pv 8) pa_nil))) (pe_slice sl_tupA (pe_ix ix_tup (pv 2) pe_int (fun _ _ => rfl)) (po_some (pv 7)) po_none)) pa_nil)))) pa_nil)) (pe_tup (pa_cons pe_int (pa_cons (pv 5) pa_nil))) (nomark _)) (pss_one (ps_ret pe_bl)) pss_nil
      apply pss_cons
      · exact ps_for PassesOwn.never rfl (pi_list (pe_lst (pa_cons (pe_tup (pa_cons pe_str (pa_cons (pv 3) (pa_cons (pe_ix ix_tup (pv 2) pe_int (fun _ _ => rfl)) pa_nil)))) (pa_cons (pe_slice sl_tupA (pv 2) po_none (po_some pe_int)) (pa_cons (pe_op op_catA (pv 2) (pe_tup (pa_cons (pe_tup pa_nil) pa_nil)))
          (pa_cons (pe_callTy call_list_of (by rfl) B.list PyProof.Rows.boot_list (pa_cons (pv 2) pa_nil)) (pa_cons pe_non (pa_cons pe_int (pa_cons (pe_tup (pa_cons pe_str (pa_cons (pv 3) (pa_cons (pe_callTy call_list_of (by rfl) B.list PyProof.Rows.boot_list (pa_cons (pe_ix ix_tup (pv 2) pe_int (fun _ _ => rfl)) pa_nil)) pa_nil))))
          (pa_cons (pe_tup pa_nil) (pa_cons (pe_tup (pa_cons (pe_tup (pa_cons pe_str pa_nil)) (pa_cons (pv 3) (pa_cons (pe_ix ix_tup (pv 2) pe_int (fun _ _ => rfl)) pa_nil)))) pa_nil))))))))))) (pg_name (i := 9) nd rfl (.inl rfl))
          (pss_one (ps_if (pt_cmpR (op_neD hu) (pe_call DT.ok r15 (by rfl) DT.gl DT.kp DT.bi .nil pass0 (pa_cons (pv 9) pa_nil)) (pe_tup (pa_cons pe_int (pa_cons (pv 5) pa_nil))) (nomark _)) (pss_one (ps_ret pe_bl)) pss_nil))
      apply pss_cons
      · exact ps_if (pt_cmpR op_gt (pv 4) pe_int (nomark _)) (pss_cons (ps_set (i := 10) nd rfl (.inl rfl) (pe_tup (pa_cons pe_int (pa_cons pe_int (pa_cons (pe_op op_mul pe_int (pe_op op_sub pe_int (pe_op op_mul pe_int (pe_call DD.ok r1 (by rfl) DD.gl DD.kp DD.bi .nil pass0 (pa_cons (pv 1) (pa_cons pe_int pa_nil)))))) pa_nil)))))
        (pss_cons (ps_set (i := 11) nd rfl (.inl rfl) (pe_op op_add pe_int (pe_call DD.ok r1 (by rfl) DD.gl DD.kp DD.bi .nil pass0 (pa_cons (pv 1) (pa_cons pe_int pa_nil)))))
        (pss_cons (ps_set (i := 12) nd rfl (.inl rfl) (pe_op op_catA (pe_ix ix_tup (pv 2) pe_int (fun _ _ => rfl)) (pe_op op_repT (pe_tup (pa_cons (pv 10) pa_nil)) (pe_op op_sub (pv 11) (pe_callB call_len_seq (by rfl) B.len PySem.boot_len (pa_cons (pe_ix ix_tup (pv 2) pe_int (fun _ _ => rfl)) pa_nil))))))
        (pss_cons (ps_if (pt_cmpR (op_neD hu) (pe_call DT.ok r15 (by rfl) DT.gl DT.kp DT.bi .nil pass0 (pa_cons (pe_tup (pa_cons pe_str (pa_cons (pv 3) (pa_cons (pv 12) pa_nil)))) pa_nil)) (pe_ix ix_list (pe_lst (pa_cons pe_str (pa_cons (pe_tup (pa_cons pe_int (pa_cons (pv 5) pa_nil))) pa_nil))) (pe_callTy call_int1 (by rfl) B.int PyProof.Rows.boot_int (pa_cons (pe_cmpR op_eq (pv 11) pe_int (nomark _)) pa_nil)) (fun _ _ => rfl)) (nomark _)) (pss_one (ps_ret pe_bl)) pss_nil)
        (pss_cons (ps_set (i := 13) nd rfl (.inl rfl) (pe_callTy call_tuple_of (by rfl) B.tuple PyProof.Rows.boot_tuple (pa_cons (pe_lc (own := [("reading", 16)]) (g := gName 16) rfl nd (pi_tup (pe_ix ix_tup (pv 2) pe_int (fun _ _ => rfl))) (blkOk_by (N := nLaw) (sc := defScope sLaw) (by decide +kernel)) (fun _ _ _ _ _ => pg_name (i := 16) nd rfl (.inl rfl)) (fun _ _ _ _ _ => pts_one (pt_cmpR op_gt (pe_call DD.ok r1 (by rfl) DD.gl DD.kp DD.bi .nil pass0 (pa_cons (pv 1) (pa_cons pe_int pa_nil))) pe_int (nomark _))) (fun _ _ _ _ _ => pv 16)) pa_nil)))
        (pss_cons (ps_set (i := 14) nd rfl (.inl rfl) (pe_call DRL.ok r1 (by rfl) DRL.gl DRL.kp DRL.bi .nil pass0 (pa_cons (pv 4) (pa_cons (pv 13) (pa_cons pe_int pa_nil)))))
        (pss_cons (ps_if (pt_not (pt_val (pe_callG GS hgd9 r1 (by rfl) gS kS bS (pa_cons (pe_call DJ.ok r9 (by rfl) DJ.gl DJ.kp DJ.bi .nil pass0 (pa_cons (pv 3) (pa_cons (pv 13) pa_nil))) (pa_cons (pe_cmpR op_eq (pe_callB call_len_seq (by rfl) B.len PySem.boot_len (pa_cons (pv 14) pa_nil)) (pv 4) (nomark _)) pa_nil))))) (pss_one (ps_ret pe_bl)) pss_nil)
        (pss_cons (ps_if (pt_cmpR (op_neD hu) (pe_call DT.ok r15 (by rfl) DT.gl DT.kp DT.bi .nil pass0 (pa_cons (pe_tup (pa_cons pe_str (pa_cons (pv 3) (pa_cons (pv 13) pa_nil)))) pa_nil)) (pe_ix ix_list (pe_lst (pa_cons pe_str (pa_cons (pe_tup (pa_cons pe_int (pa_cons pe_str pa_nil))) pa_nil))) (pe_callTy call_int1 (by rfl) B.int PyProof.Rows.boot_int (pa_cons (pe_cmpR op_lt (pe_callB call_len_seq (by rfl) B.len PySem.boot_len (pa_cons (pv 14) pa_nil)) (pv 4) (nomark _)) pa_nil)) (fun _ _ => rfl)) (nomark _)) (pss_one (ps_ret pe_bl)) pss_nil)
        (pss_cons (ps_set (i := 15) nd rfl (.inl rfl) (pe_call DD.ok r1 (by rfl) DD.gl DD.kp DD.bi .nil pass0 (pa_cons (pv 1) (pa_cons (pv 4) pa_nil))))
        (pss_one (ps_if (pt_not (pt_val (pe_callG GS hgd9 r1 (by rfl) gS kS bS (pa_cons (pe_call DR.ok r8 (by rfl) DR.gl DR.kp DR.bi .nil pass0 (pa_cons (pv 4) (pa_cons (pv 13) (pa_cons (pv 15) pa_nil)))) (pa_cons (pe_call DRL.ok r1 (by rfl) DRL.gl DRL.kp DRL.bi .nil pass0 (pa_cons (pv 4) (pa_cons (pv 13) (pa_cons (pv 15) pa_nil)))) pa_nil))))) (pss_one (ps_ret pe_bl)) pss_nil)
        )))))))))) pss_nil
      exact pss_one (ps_ret (pe_cmpR (op_eqD hu) (pe_call DT.ok r15 (by rfl) DT.gl DT.kp DT.bi .nil pass0 (pa_cons (pe_tup (pa_cons pe_str (pa_cons (pe_callTy call_tuple_of (by rfl) B.tuple PyProof.Rows.boot_tuple (pa_cons (pe_lc (own := [("k", 17)]) (g := gName 17) (tt := tYes) rfl nd (pi_range1 (by rfl) B.range (pa_cons pe_int pa_nil)) (blkOk_by (N := nLaw) (sc := defScope sLaw) (by decide +kernel)) (fun _ _ _ _ _ => pg_name (i := 17) nd rfl (.inl rfl)) (fun _ _ _ _ _ => pts_nil) (fun _ _ _ _ _ => pe_op op_add_str pe_str (pe_ix ix_str pe_str (pv 17) (fun _ _ => rfl)))) pa_nil)) (pa_cons (pe_tup pa_nil) pa_nil)))) pa_nil)) (pe_tup (pa_cons pe_int (pa_cons pe_str pa_nil))) (nomark _)))
    case hc =>
      -- box, net
      refine ⟨_, rfl, a, xs, rfl, hs, fun d ds H1 x1 hd0 ed => ⟨by show 2 ≤ sizeLine; decide, fun b hb => ?_⟩⟩
      have x2 : Ext [] H (upd H1 b (.lst [.ref d, .int 0])) := x1.trans (.new hb)
      have bx : Box (upd H1 b (.lst [.ref d, .int 0])) b d := ⟨ds, 0, upd_same, by rw [upd_ne (ne_of_none ed hb)]; exact ed⟩
      refine ⟨_, rfl, b, d, 6, 6, rfl, bx, by decide, by decide, by decide, fun p ms rs Hn hm1 hm6 hrl hgood hval hlink hnames hnod x3 bn hnet => ?_⟩
      have htn := (ht.ext x2).ext x3
      have h4n : GxR.TabG Hn T4 := x3.tab _ (x2.tab _ ht4)
      clear x1 x2 x3 hb bx ed hd0 ht ht4 hs
      obtain ⟨mp, rp, n1, n2, vs, n3, n4, n5⟩ := id hnet
      -- the data
      have hM : DQ [b] K Hn (.tuple (mD ms)) (.ref mp) := DQ.tup n2 (DQs.strs ms)
      have hR : DQ [b] K Hn (.tuple (rs.map rdD)) (.ref rp) := DQ.tup n3 (rds_dq n4 n5)
      have hN : DQ [b] K Hn (netX (.tuple (mD ms)) (.tuple (rs.map rdD))) (.ref p) := DQ.tup n1 (DQs.cons (DQ.str _) (DQs.cons hM (DQs.cons hR DQs.nil)))
      have sub : ∀ {H : Hp} {d : PyData} {v : V}, DQ [b] K H d v → DQ [] K H d v := fun {H d v} h => DQ.sub (by simp) d v h
      have hsh : K0.Short (.tuple (mD ms)) := short_strs (short_names hnames)
      have mOK : K0.areMarksD (.tuple (mD ms)) = true := marks_ok ⟨hm1, by omega⟩ hnames hnod
      have lD : K0.lenD (.tuple (mD ms)) = ms.length := List.length_map _
      have rOK : K0.areReadingsD (.tuple (rs.map rdD)) ms.length = true := readings_ok (by omega) fun r hr => ⟨hgood r hr, by have := hval r hr; omega⟩
      have netOK : K0.isNetD (netX (.tuple (mD ms)) (.tuple (rs.map rdD))) = true := by rw [net_is, mOK, lD, rOK]; rfl
      have jr : K0.joinedR rs ms.length = true := joined_all hlink.conn
      have jOK : K0.joinD (netX (.tuple (mD ms)) (.tuple (rs.map rdD))) = true := by rw [join_is, jr]
      have bnr : Trk [b] Hn := fun a ha => by
        rw [List.mem_singleton.mp ha]
        obtain ⟨_, _, e, _⟩ := bn
        rw [e]
        exact fun z => by cases z
      have shE : SeqAt.shaped (.str "") = true := by decide +kernel
      have shO : SeqAt.shaped (.tuple [.int 0, .str "not a net"]) = true := shaped_two _ _ (by decide +kernel)
      have shJ : SeqAt.shaped (.tuple [.int 0, .str "not joined"]) = true := shaped_two _ _ (by decide +kernel)
      have dpT : ∀ {H : Hp} {t : Addr} {x : Str}, H t = some (.tup [.int 0, .str x]) → Dp K H (.ref t) (.tuple [.int 0, .str x]) := fun e => .tup (.inl (.inl e)) (.cons (.int 0) (.cons (.str _) .nil))
      -- marks, many
      refine ⟨_, rfl, p, _, _, _, rfl, rfl, n1, atI_nat (j := 1) rfl, ?_⟩
      refine ⟨_, rfl, mp, _, rfl, .inr n2, ?_⟩
      rw [List.length_map]
      -- the net is one
      refine ⟨_, rfl, .ref p, _, rfl, sub hN, fit_net hsh, htn, h4n, fun z => absurd (netOK.symm.trans z) (by decide), fun _ => ⟨fun z => absurd (jOK.symm.trans z) (by decide), fun _ H2 x2 => ?_⟩⟩
      refine ⟨_, _, .str _, .str _, shE, shE, _, rfl, neF (by decide +kernel) ?_⟩
      refine ⟨_, rfl, _, rfl, p, _, _, _, rfl, rfl, x2.sqT n1, atI_nat (j := 2) rfl, mp, rp, ms.map V.str, rs, rfl, x2.sqT n2, ⟨vs, x2.sqT n3, n4, fun i r e => let ⟨v, e1, e2⟩ := n5 i r e; ⟨v, e1, e2.ext x2⟩⟩, by rw [List.length_map]; exact hgood, by rw [List.length_map]; omega, by rw [List.length_map]; omega, by omega, x2.tab _ h4n, fun H3 x3 => ?_⟩
      rw [List.length_map, jr]
      refine ⟨true, true, rfl, rfl, _, rfl, iteF ?_⟩
      have y3 : Ext [b] Hn H3 := (x2.trans x3).more
      have b3 := bn.ext (x2.trans x3)
      clear x2 x3
      -- bad marks
      refine ⟨_, rfl, _, rfl, mp, ms, [b], rfl, y3.sqT n2, by omega, by omega, bnr.ext y3, fun t ts H4 x4 t0 et dt => ?_⟩
      have ntb : t ≠ b := fun z => by
        obtain ⟨_, _, e, _⟩ := b3
        rw [z, e] at t0
        cases t0
      refine ⟨b, d, t, ts, rfl, b3.ext x4, et, ntb, by rw [dt.length]; show 0 < 13; decide, fun j bad hbad H5 x5 b5 => ?_⟩
      obtain ⟨bd, hbd, dbd0⟩ := dt.at_ hbad
      have bbad := badM_bad (by omega) bd (List.mem_of_getElem? hbd)
      have dbd : DQ [b] K H5 bd bad := DQ.ext x5 _ _ dbd0
      have y5 : Ext [b] Hn H5 := (y3.trans x4.more).trans x5
      have bsh := badM_short hnames (by omega) bd (List.mem_of_getElem? hbd)
      refine ⟨_, rfl, by decide, fun e0 he0 => ⟨by show 3 ≤ sizeLine; decide, fun t3 ht3 => ?_⟩⟩
      have x6 : Ext [] H5 (upd (upd H5 e0 (.tup [])) t3 (.tup [.str "net", bad, .ref e0])) := (Ext.new he0).trans (.new ht3)
      have d6 : DQ [b] K (upd (upd H5 e0 (.tup [])) t3 (.tup [.str "net", bad, .ref e0])) (netX bd (.tuple [])) (.ref t3) := DQ.tup (.inl (.inl upd_same)) (DQs.cons (DQ.str _) (DQs.cons (DQ.ext x6.more _ _ dbd) (DQs.cons (DQ.tup (.inl (.inl (by rw [upd_ne (ne_of_none upd_same ht3)]; exact upd_same))) DQs.nil) DQs.nil)))
      have bN : K0.isNetD (netX bd (.tuple [])) = false := by rw [net_is, bbad]; rfl
      refine ⟨.ref t3, _, rfl, sub d6, fit_net bsh, (htn.ext y5).ext x6, x6.tab _ (y5.tab _ h4n), fun _ q7 H7 x7 e7 => ?_, fun z => absurd (bN.symm.trans z) (by decide)⟩
      refine ⟨_, rfl, by show 2 ≤ sizeLine; decide, fun t8 ht8 => ⟨_, _, dpT (by rw [upd_ne (ne_of_none e7 ht8)]; exact e7), dpT upd_same, shO, shO, _, rfl, neF (eqv_two _ _) ?_⟩⟩
      have y8 : Ext [b] Hn (upd H7 t8 (.tup [.int 0, .str "not a net"])) := ((y5.trans x6.more).trans x7.more).trans (.new ht8)
      have b8 : Box (L2.upd H7 t8 (.tup [.int 0, .str "not a net"])) b d := ((b5.ext x6).ext x7).ext (.new ht8)
      generalize L2.upd H7 t8 (.tup [.int 0, .str "not a net"]) = H8 at y8 b8 ⊢
      clear ht8 e7 x7 bN d6 x6 ht3 he0 bsh y5 dbd bbad dbd0 hbd hbad b5 x5 ntb dt et t0 x4 b3 y3
      -- at
      refine ⟨_, rfl, _, rfl, p, _, _, _, rfl, rfl, y8.sqT n1, atI_nat (j := 2) rfl, rp, vs, rfl, .inr (y8.sqT n3), _, _, rfl, rfl, b, d, _, rfl, b8, by omega, fun r9 H9 g0 g1 x9 b9 => ?_⟩
      obtain ⟨at_, rfl⟩ := nat_of g0
      have hat : at_ ≤ vs.length := by omega
      have y9 := y8.trans x9
      -- a wrong reading
      refine ⟨_, rfl, _, rfl, ms.length, [b], rfl, bnr.ext y9, fun t ts H10 x10 t0 et dt => ?_⟩
      have ntb : t ≠ b := fun z => by
        obtain ⟨_, _, e, _⟩ := b9
        rw [z, e] at t0
        cases t0
      refine ⟨b, d, t, ts, rfl, b9.ext x10, et, ntb, by rw [dt.length]; show 0 < 17; decide, fun j wr hwr H11 x11 b11 => ?_⟩
      obtain ⟨wd, hwd, dwd0⟩ := dt.at_ hwr
      have wbad := badR_bad ms.length wd (List.mem_of_getElem? hwd)
      have dwd : DQ [b] K H11 wd wr := DQ.ext x11 _ _ dwd0
      have y11 : Ext [b] Hn H11 := (y9.trans x10.more).trans x11
      have hRs := DQ.ext y11 _ _ hR
      refine ⟨_, rfl, _, rfl, p, _, _, _, rfl, rfl, y11.sqT n1, atI_nat (j := 2) rfl, _, rfl, (at_ : Int), rfl, slA_by (y11.sqT n3) fun p1 H12 x12 s12 => ?_⟩
      rw [cut_lo hat] at s12
      refine ⟨_, rfl, by show 1 ≤ sizeLine; decide, fun w1 hw1 => ?_⟩
      have x13 : Ext [] H11 (upd H12 w1 (.tup [wr])) := x12.trans (.new hw1)
      have lt1 : (vs.take at_).length = at_ := by rw [List.length_take]; omega
      have ld1 : (vs.drop at_).length = vs.length - at_ := List.length_drop
      refine catA_by ((Ext.new (c := []) hw1).sqT s12) (.inl (.inl upd_same)) (by rw [lt1]; show _ + 1 ≤ 2 ^ 24; omega) fun p2 H14 x14 s14 => ?_
      have x15 := x13.trans x14
      have y14 := y11.trans x15.more
      refine ⟨_, rfl, p, _, _, _, rfl, rfl, y14.sqT n1, atI_nat (j := 2) rfl, _, rfl, (at_ : Int), rfl, ?_⟩
      dsimp only [tNoPart]
      refine slA_by (y14.sqT n3) fun p3 H16 x16 s16 => ?_
      rw [cut_hi hat] at s16
      refine catA_by (x16.sqT s14) s16 (by rw [List.length_append, lt1, ld1]; show at_ + 1 + (vs.length - at_) ≤ 2 ^ 24; omega) fun p4 H17 x17 s17 => ⟨by show 3 ≤ sizeLine; decide, fun t3 ht3 => ?_⟩
      have x18 : Ext [] H11 (upd H17 t3 (.tup [.str "net", .ref mp, .ref p4])) := ((x15.trans x16).trans x17).trans (.new ht3)
      have y18 := y11.trans x18.more
      have dR : DQs [b] K (upd H17 t3 (.tup [.str "net", .ref mp, .ref p4])) ((rs.map rdD).take at_ ++ [wd] ++ (rs.map rdD).drop at_) (vs.take at_ ++ [wr] ++ vs.drop at_) := by
        have k := DQs.ext (y11.trans x18.more) _ _ (rds_dq (c := [b]) n4 n5)
        exact DQs.app (DQs.app (dqs_take at_ k) (DQs.cons (DQ.ext x18.more _ _ dwd) DQs.nil)) (dqs_drop at_ k)
      have d18 : DQ [b] K (upd H17 t3 (.tup [.str "net", .ref mp, .ref p4])) (netX (.tuple (mD ms)) (.tuple ((rs.map rdD).take at_ ++ [wd] ++ (rs.map rdD).drop at_))) (.ref t3) :=
        DQ.tup (.inl (.inl upd_same)) (DQs.cons (DQ.str _) (DQs.cons (DQ.ext y18 _ _ hM) (DQs.cons (DQ.tup ((Ext.new (c := []) ht3).sqT s17) dR) DQs.nil)))
      have wN : K0.isNetD (netX (.tuple (mD ms)) (.tuple ((rs.map rdD).take at_ ++ [wd] ++ (rs.map rdD).drop at_))) = false := by rw [net_is, lD, readings_bad wbad, Bool.and_false]
      refine ⟨.ref t3, _, rfl, sub d18, fit_net hsh, htn.ext y18, y18.tab _ h4n, fun _ q7 H19 x19 e19 => ?_, fun z => absurd (wN.symm.trans z) (by decide)⟩
      refine ⟨_, rfl, by show 2 ≤ sizeLine; decide, fun t8 ht8 => ⟨_, _, dpT (by rw [upd_ne (ne_of_none e19 ht8)]; exact e19), dpT upd_same, shO, shO, _, rfl, neF (eqv_two _ _) ?_⟩⟩
      have y20 : Ext [b] Hn (upd H19 t8 (.tup [.int 0, .str "not a net"])) := (y18.trans x19.more).trans (.new ht8)
      have b20 : Box (L2.upd H19 t8 (.tup [.int 0, .str "not a net"])) b d := ((b11.ext x18).ext x19).ext (.new ht8)
      generalize L2.upd H19 t8 (.tup [.int 0, .str "not a net"]) = H20 at y20 b20 ⊢
      clear ht8 e19 x19 wN d18 dR y18 x18 ht3 s17 x17 s16 x16 y14 x15 s14 x14 x13 hw1 s12 x12 hRs y11 dwd wbad dwd0 hwd hwr b11 x11 ntb dt et t0 x10 y9 b9 x9 b8 y8
      -- the nine things
      rw [next_eq]
      dsimp only
      rw [seq_eq, forL_eq]
      have hN20 := DQ.ext y20 _ _ hN
      have hM20 := DQ.ext y20 _ _ hM
      have tr20 := bnr.ext y20
      refine lst_new (c := [b]) (K := K) (H0 := H20) (ds := nine (.tuple (mD ms)) (rs.map rdD)) ?_ (Nat.le_of_ble_eq_true rfl) .refl fun L ts H21 x21 L0 eL dL => ?_
      · have vN : ∀ {σ : L2.St}, σ[2]? = some (some (.ref p)) → GD [b] K σ H20 (tVar 2) (.tuple [.str "net", .tuple (mD ms), .tuple (rs.map rdD)]) := fun h => gd_var h hN20
        have vM : ∀ {σ : L2.St}, σ[3]? = some (some (.ref mp)) → GD [b] K σ H20 (tVar 3) (.tuple (mD ms)) := fun h => gd_var h hM20
        have vR : ∀ {σ : L2.St}, σ[2]? = some (some (.ref p)) → GD [b] K σ H20 (tOp (rIxT K) (tVar 2) (tC (.int 2))) (.tuple (rs.map rdD)) := fun h => gd_ix (j := 2) (vN h) rfl
        unfold nine
        refine gds_cons (gd_tup (gds_cons (gd_str _) (gds_cons (vM rfl) (gds_cons (vR rfl) gds_nil))) (Nat.le_of_ble_eq_true rfl)) ?_
        refine gds_cons (gd_sl2 (vN rfl) (Nat.le_of_ble_eq_true rfl)) ?_
        refine gds_cons (gd_cat (vN rfl) (gd_tup (gds_cons (gd_tup gds_nil (Nat.le_of_ble_eq_true rfl)) gds_nil) (Nat.le_of_ble_eq_true rfl)) (Nat.le_of_ble_eq_true rfl)) ?_
        refine gds_cons (gd_list tr20 (vN rfl)) (gds_cons gd_non (gds_cons (gd_int _) ?_))
        refine gds_cons (gd_tup (gds_cons (gd_str _) (gds_cons (vM rfl) (gds_cons (gd_list tr20 (vR rfl)) gds_nil))) (Nat.le_of_ble_eq_true rfl)) ?_
        refine gds_cons (gd_tup gds_nil (Nat.le_of_ble_eq_true rfl)) (gds_cons (gd_tup (gds_cons (gd_tup (gds_cons (gd_str _) gds_nil) (Nat.le_of_ble_eq_true rfl)) (gds_cons (vM rfl) (gds_cons (vR rfl) gds_nil))) (Nat.le_of_ble_eq_true rfl)) gds_nil)
      have y21 := y20.trans x21.more
      have b21 := b20.ext x21
      refine ⟨L, rfl, ⟨ts, SqL.of eL⟩, ?_⟩
      refine for_list (xs := ts) (fun i σ H22 => ∃ y9, σ = [some (.ref a), some (.ref b), some (.ref p), some (.ref mp), some (.int (ms.length : Nat)), some (.str "not a net"), some bad, some (.int (at_ : Nat)), some wr, y9, none, none, none, none, none, none, none, none] ∧ Ext [] H21 H22)
        ⟨_, rfl, .refl⟩ (fun i σ H22 _ h22 => SqL.of (let ⟨_, _, x⟩ := h22; x.lst eL (by simp))) (fun i v σ H22 hv h22 => ?_) (fun σ H22 h22 => ?_)
      · obtain ⟨y9, rfl, x22⟩ := h22
        obtain ⟨dv, hdv, dq⟩ := dL.at_ hv
        obtain ⟨nb, nf⟩ := nine_bad hsh dv (List.mem_of_getElem? hdv)
        refine ⟨_, rfl, v, dv, rfl, sub (DQ.ext x22.more _ _ dq), nf, (htn.ext y21).ext x22, x22.tab _ (y21.tab _ h4n), fun _ q7 H23 x23 e23 => ?_, fun z => absurd (nb.symm.trans z) (by decide)⟩
        refine ⟨_, rfl, by show 2 ≤ sizeLine; decide, fun t8 ht8 => ⟨_, _, dpT (by rw [upd_ne (ne_of_none e23 ht8)]; exact e23), dpT upd_same, shO, shO, _, rfl, neF (eqv_two _ _) ?_⟩⟩
        exact ⟨_, rfl, (x22.trans x23).trans (.new ht8)⟩
      · obtain ⟨y9, rfl, x22⟩ := h22
        have y22 := y21.trans x22.more
        have b22 := b21.ext x22
        clear x22 b21 y21 dL eL L0 x21 tr20 hM20 hN20 y20 b20
        have lz : K0.lenD (.tuple (mD (rowN 122 0 16))) = 16 := by
          show (mD (rowN 122 0 16)).length = 16
          unfold mD
          rw [List.length_map, rowN_length]
        have zOK : K0.areMarksD (.tuple (mD (rowN 122 0 16))) = true := marks_ok (by rw [rowN_length]; decide) (rowN_names (by decide) (by decide)) (rowN_nodup _ _ _)
        have zN : K0.isNetD (netX (.tuple (mD (rowN 122 0 16))) (.tuple [])) = true := by
          rw [net_is, zOK, lz]
          rfl
        have zJ : K0.joinD (netX (.tuple (mD (rowN 122 0 16))) (.tuple [])) = false := by
          have := join_is (rowN 122 0 16) []
          rw [rowN_length, joined_nil (by decide)] at this
          exact this
        have zS : K0.Short (.tuple (mD (rowN 122 0 16))) := short_strs (short_names (rowN_names (by decide) (by decide)))
        refine ⟨_, rfl, _, _, rfl, rfl, _, rfl, ite2 (fun c => ?_) (fun c => ?_)⟩
        · have hn2 : 1 < ms.length := by
            have := of_decide_eq_true c
            omega
          -- edge, size
          refine ⟨_, rfl, b, d, 2, rfl, b22, by decide, fun r H23 g0 g1 x23 b23 => ⟨_, _, rfl, rfl, .inl ⟨by decide, by decide⟩, _, _, rfl, rfl, _, _, rfl, rfl, .inl ⟨by decide, by decide⟩, by show 3 ≤ sizeLine; decide, fun te hte => ?_⟩⟩
          obtain ⟨ev, hev⟩ : ∃ e : Int, e = 1000000 * (1 - 2 * r) := ⟨_, rfl⟩
          have hev2 : -1000000 ≤ ev ∧ ev ≤ 1000000 := by omega
          have y24 : Ext [b] Hn (upd H23 te (.tup [.int 0, .int 1, .int ev])) := (y22.trans x23).trans (.new hte)
          have b24 : Box (L2.upd H23 te (.tup [.int 0, .int 1, .int ev])) b d := b23.ext (.new hte)
          have e24 : (upd H23 te (.tup [.int 0, .int 1, .int ev])) te = some (.tup [.int 0, .int 1, .int ev]) := upd_same
          subst hev
          generalize upd H23 te (.tup [.int 0, .int 1, .int (1000000 * (1 - 2 * r))]) = H24 at y24 b24 e24 ⊢
          refine ⟨_, rfl, b, d, 2, rfl, b24, by decide, fun r2 H25 k0 k1 x25 b25 => ⟨_, _, rfl, rfl, ?_⟩⟩
          have y25 := y24.trans x25
          have e25 := x25.tup _ _ e24
          -- full
          refine ⟨_, rfl, p, _, _, _, rfl, rfl, y25.sqT n1, atI_nat (j := 2) rfl, _, rfl, by show 1 ≤ sizeLine; decide, fun tq htq => ?_⟩
          have x26 : Ext [] H25 (upd H25 tq (.tup [.ref te])) := .new htq
          have y26 := y25.trans x26.more
          refine ⟨_, rfl, _, rfl, p, _, _, _, rfl, rfl, y26.sqT n1, atI_nat (j := 2) rfl, rp, vs, rfl, .inr (y26.sqT n3), _, _, rfl, rfl, ?_⟩
          obtain ⟨k, hk⟩ : ∃ k : Nat, 80 + r2 - ((vs.length : Nat) : Int) = (k : Int) := nat_of (by omega)
          refine ⟨tq, _, [.ref te], rfl, rfl, .inl (.inl upd_same), by simp, by omega, by omega, by show 1 ≤ 1000; decide, fun tz htz => ?_⟩
          rw [hk, Int.toNat_natCast, List.flatten_replicate_singleton]
          have x27 : Ext [] H25 (upd (upd H25 tq (.tup [.ref te])) tz (.tup (List.replicate k (V.ref te)))) := x26.trans (.new htz)
          have y27 := y25.trans x27.more
          refine catA_by (y27.sqT n3) (.inl (.inl upd_same)) (by rw [List.length_replicate]; show _ ≤ 2 ^ 24; omega) fun pf H28 x28 s28 => ?_
          have x28' := x27.trans x28
          have y28 := y25.trans x28'.more
          have dF : DQs [b] K H28 ((rs ++ List.replicate k (0, 1, 1000000 * (1 - 2 * r))).map rdD) (vs ++ List.replicate k (V.ref te)) := by
            rw [List.map_append, List.map_replicate]
            refine DQs.app (DQs.ext y28 _ _ (rds_dq n4 n5)) (dqs_rep ?_ k)
            exact DQ.tup (.inl (.inl (x28'.tup _ _ e25))) (DQs.cons (DQ.int _) (DQs.cons (DQ.int _) (DQs.cons (DQ.int _) DQs.nil)))
          have fgood : ∀ q ∈ rs ++ List.replicate k ((0, 1, 1000000 * (1 - 2 * r)) : Rd3), (q.1 < ms.length ∧ q.2.1 < ms.length ∧ q.1 ≠ q.2.1) ∧ (-1000000 ≤ q.2.2 ∧ q.2.2 ≤ 1000000) := fun q hq => by
            rcases List.mem_append.mp hq with hq | hq
            · exact ⟨hgood q hq, by have := hval q hq; omega⟩
            · rw [(List.mem_replicate.mp hq).2]
              exact ⟨⟨by show 0 < _; omega, by show 1 < _; omega, by show (0 : Nat) ≠ 1; decide⟩, hev2⟩
          have lF : (rs ++ List.replicate k ((0, 1, 1000000 * (1 - 2 * r)) : Rd3)).length = rs.length + k := by rw [List.length_append, List.length_replicate]
          generalize hfu : rs ++ List.replicate k ((0, 1, 1000000 * (1 - 2 * r)) : Rd3) = fu at dF fgood lF
          have flink : LinkN fu ms.length := by rw [← hfu]; exact link_more hlink
          refine ⟨_, rfl, _, rfl, by show 3 ≤ sizeLine; decide, fun t3 ht3 => ?_⟩
          have x29 : Ext [] H28 (upd H28 t3 (.tup [.str "net", .ref mp, .ref pf])) := .new ht3
          have y29 := y28.trans x29.more
          have d29 : DQ [b] K (upd H28 t3 (.tup [.str "net", .ref mp, .ref pf])) (netX (.tuple (mD ms)) (.tuple (fu.map rdD))) (.ref t3) :=
            DQ.tup (.inl (.inl upd_same)) (DQs.cons (DQ.str _) (DQs.cons (DQ.ext y29 _ _ hM) (DQs.cons (DQ.tup (x29.sqT s28) (DQs.ext x29.more _ _ dF)) DQs.nil)))
          have b29 : Box (L2.upd H28 t3 (.tup [.str "net", .ref mp, .ref pf])) b d := (b25.ext x28').ext x29
          have isN : K0.isNetD (netX (.tuple (mD ms)) (.tuple (fu.map rdD))) = decide (fu.length ≤ 80) := by
            rw [net_is, mOK, lD, readings_is, List.length_map]
            have : ((fu.map rdD).all fun x => K0.isReadingD x ms.length) = true := by
              rw [List.all_eq_true]
              intro x hx
              obtain ⟨q, hq, rfl⟩ := List.mem_map.mp hx
              exact reading_ok (fgood q hq).1 (fgood q hq).2
            rw [this, Bool.and_true, Bool.true_and]
          have isJ : K0.joinD (netX (.tuple (mD ms)) (.tuple (fu.map rdD))) = true := by rw [join_is, joined_all flink.conn]
          refine ⟨.ref t3, _, rfl, sub d29, fit_net hsh, htn.ext y29, y29.tab _ h4n, fun hF q7 H30 x30 e30 => ?_, fun hT => ⟨fun z => absurd (isJ.symm.trans z) (by decide), fun _ H30 x30 => ?_⟩⟩
          rotate_left
          have hr2 : r2 = 0 := by
            have h1 : fu.length ≤ 80 := of_decide_eq_true (isN.symm.trans hT)
            omega
          subst hr2
          refine ⟨_, rfl, by show 2 ≤ sizeLine; decide, fun tt htt => ⟨by show 2 ≤ sizeLine; decide, fun tl htl => ?_⟩⟩
          have x31 : Ext [] H30 (upd (upd H30 tt (.tup [.int 0, .str "not a net"])) tl (.lst [.str "", .ref tt])) := (Ext.new htt).trans (.new htl)
          refine ⟨_, rfl, rfl, .inr ⟨_, rfl, tl, [.str "", .ref tt], _, .str "", rfl, rfl, SqL.of upd_same, by rw [if_neg (by decide)]; exact atI_nat (j := 0) rfl, _, _, .str _, .str _, shE, shE, _, rfl, neF (by decide +kernel) ?_⟩⟩
          have y31 : Ext [b] Hn (upd (upd H30 tt (.tup [.int 0, .str "not a net"])) tl (.lst [.str "", .ref tt])) := (y29.trans x30.more).trans x31.more
          have b31 : Box (L2.upd (L2.upd H30 tt (.tup [.int 0, .str "not a net"])) tl (.lst [.str "", .ref tt])) b d := (b29.ext x30).ext x31
          generalize L2.upd (L2.upd H30 tt (.tup [.int 0, .str "not a net"])) tl (.lst [.str "", .ref tt]) = H31 at y31 b31 ⊢
          clear x31 x30
          rotate_left
          have hr2 : r2 = 1 := by
            have h1 : ¬ fu.length ≤ 80 := of_decide_eq_false (isN.symm.trans hF)
            omega
          subst hr2
          refine ⟨_, rfl, by show 2 ≤ sizeLine; decide, fun tt htt => ⟨by show 2 ≤ sizeLine; decide, fun tl htl => ?_⟩⟩
          have et : (upd (upd H30 tt (.tup [.int 0, .str "not a net"])) tl (.lst [.str "", .ref tt])) tt = some (.tup [.int 0, .str "not a net"]) := by rw [upd_ne (ne_of_none upd_same htl)]; exact upd_same
          have x31 : Ext [] H30 (upd (upd H30 tt (.tup [.int 0, .str "not a net"])) tl (.lst [.str "", .ref tt])) := (Ext.new htt).trans (.new htl)
          refine ⟨_, rfl, rfl, .inr ⟨_, rfl, tl, [.str "", .ref tt], _, .ref tt, rfl, rfl, SqL.of upd_same, by rw [if_pos (by decide)]; exact atI_nat (j := 1) rfl, _, _, dpT (x31.tup _ _ e30), dpT et, shO, shO, _, rfl, neF (eqv_two _ _) ?_⟩⟩
          have y31 : Ext [b] Hn (upd (upd H30 tt (.tup [.int 0, .str "not a net"])) tl (.lst [.str "", .ref tt])) := (y29.trans x30.more).trans x31.more
          have b31 : Box (L2.upd (L2.upd H30 tt (.tup [.int 0, .str "not a net"])) tl (.lst [.str "", .ref tt])) b d := (b29.ext x30).ext x31
          generalize L2.upd (L2.upd H30 tt (.tup [.int 0, .str "not a net"])) tl (.lst [.str "", .ref tt]) = H31 at y31 b31 ⊢
          clear x31 x30
          all_goals
            -- less
            refine ⟨_, rfl, p, _, _, _, rfl, rfl, y31.sqT n1, atI_nat (j := 2) rfl, rp, rfl, ⟨_, y31.sqT n3⟩, fun D hD => ?_⟩
            have hD0 : Hn D = none := y31.dom _ hD
            refine lc_tup (xs := vs) (fun i H2 => ∃ (acc : List V) (ls : List Rd3), Paired (RdAt K H2) acc ls ∧ (∀ q ∈ ls, q ∈ rs) ∧ ls.length ≤ i ∧ Ext [b] Hn H2 ∧ Box H2 b d ∧ H2 D = some (.lst acc) ∧ D ≠ b)
              ⟨[], [], .nil, (fun q hq => by cases hq), Nat.le_refl _, y31.trans (.new hD), b31.ext (.new hD), upd_same, fun z => ?_⟩ (fun i H2 _ h2 => ?_) (fun i v H2 hv h2 => ?_) (fun H2 h2 => ?_)
            · obtain ⟨_, _, e, _⟩ := bn
              rw [z, e] at hD0
              cases hD0
            · obtain ⟨_, _, _, _, _, x, _⟩ := h2
              exact x.sqT n3
            · obtain ⟨acc, ls, pr, hin, hls, x2, b2, eD, nDb⟩ := h2
              have hi : i < rs.length := by
                rw [← n4]
                exact (List.getElem?_eq_some_iff.mp hv).1
              obtain ⟨v', k1', k2'⟩ := n5 i rs[i] (List.getElem?_eq_getElem hi)
              obtain rfl : v = v' := Option.some.inj (hv.symm.trans k1')
              refine ⟨rfl, _, rfl, b, d, 3, rfl, b2, by decide, fun r3 H3 _ _ x3 b3 => ⟨_, _, rfl, rfl, _, rfl, ?_⟩⟩
              have eD3 := x3.keep _ _ eD (fun _ z => by cases z) (by rw [List.mem_singleton]; exact nDb)
              have pr3 : Paired (RdAt K H3) acc ls := L2.Paired.mapP pr fun _ _ k => k.ext x3
              refine ite2 (fun _ => ?_) (fun _ => ⟨acc, ls, pr3, hin, Nat.le_succ_of_le hls, x2.trans x3, b3, eD3, nDb⟩)
              have hal : acc.length = ls.length := pr.length
              refine ⟨_, rfl, acc, eD3, small1000 (by omega), acc ++ [v], ls ++ [rs[i]], ?_, fun q hq => ?_, by rw [List.length_append, List.length_singleton]; omega, (x2.trans x3).own hD0 eD3, bn.upd b3 hD0, upd_same, nDb⟩
              · have xo : Ext [D] H3 (upd H3 D (.lst (acc ++ [v]))) := .set (List.mem_singleton.mpr rfl) eD3
                exact L2.Paired.mapP (pr3.snoc (k2'.ext (x2.trans x3))) fun _ _ k => k.ext xo
              · rcases List.mem_append.mp hq with hq | hq
                · exact hin q hq
                · rw [List.mem_singleton.mp hq]
                  exact List.getElem_mem hi
            obtain ⟨acc, ls, pr, hin, hls, x2, b2, eD, nDb⟩ := h2
            refine ⟨D, acc, rfl, .inl ⟨SqL.of eD, fun lt hlt => ?_⟩⟩
            have x3 : Ext [] H2 (upd H2 lt (.tup acc)) := .new hlt
            have y33 := x2.trans x3.more
            have b33 := b2.ext x3
            have e33 : (upd H2 lt (.tup acc)) lt = some (.tup acc) := upd_same
            have pr33 : Paired (RdAt K (upd H2 lt (.tup acc))) acc ls := L2.Paired.mapP pr fun _ _ k => k.ext x3
            generalize upd H2 lt (.tup acc) = H33 at x3 y33 b33 e33 pr33 ⊢
            have hal : acc.length = ls.length := pr33.length
            have lsl : ls.length ≤ 80 := by omega
            have lgood : Gx.Good ms.length ls := fun q hq => hgood q (hin q hq)
            have rdl : ∀ {H : Hp}, Ext [] H33 H → RdsAt K H lt ls := fun x => ⟨acc, x.sqT (.inl (.inl e33)), hal, fun i r e => let ⟨v, h1, h2⟩ := pr_at pr33 i r e; ⟨v, h1, h2.ext x⟩⟩
            -- found
            refine ⟨_, rfl, _, rfl, lt, ms.length, 0, ls, rfl, rdl .refl, lgood, by omega, by omega, fun qf H34 x34 e34 => ?_⟩
            have y34 := y33.trans x34.more
            refine ⟨_, rfl, _, rfl, mp, lt, ms.map V.str, ls, rfl, y34.sqT n2, rdl x34, by rw [List.length_map]; exact lgood, by rw [List.length_map]; omega, by rw [List.length_map]; omega, by omega, y34.tab _ h4n, fun H35 x35 => ?_⟩
            rw [List.length_map]
            have ej : decide (V.int (((K0.nI (K0.conR ls ms.length 0)).map V.int).length : Nat) = V.int (ms.length : Nat)) = K0.joinedR ls ms.length := by
              show _ = decide ((K0.conR ls ms.length 0).length = ms.length)
              rw [List.length_map, K0.nI_length]
              exact decide_eq_decide.mpr ⟨fun h => by have := V.int.inj h; omega, fun h => by rw [h]⟩
            have y35 := y34.trans x35.more
            have b35 := (b33.ext x34).ext x35
            have e35 := x35.tup _ _ e34
            have x345 := x34.trans x35
            refine ⟨_, rfl, qf, _, rfl, .inr (.inl (.inl e35)), _, rfl, rfl, ?_⟩
            refine ⟨_, _, .bool (K0.joinedR ls ms.length), rfl, .bl _, by rw [ej]; exact .bl _, shows_bl _, _, rfl, iteF ?_⟩
            have cle : (K0.conR ls ms.length 0).length ≤ ms.length := by
              have := len_le ms.length (K0.conR ls ms.length 0) ((asc_conR ls ms.length 0).imp fun h => Nat.ne_of_lt h) fun x hx => ((mem_conR lgood (by omega)).mp hx).lt lgood (by omega)
              exact this
            -- told of less
            refine ⟨_, rfl, _, rfl, by show 3 ≤ sizeLine; decide, fun t5 ht5 => ?_⟩
            have x36 : Ext [] H35 (upd H35 t5 (.tup [.str "net", .ref mp, .ref lt])) := .new ht5
            have y36 := y35.trans x36.more
            have b36 := b35.ext x36
            have d36 : DQ [b] K (upd H35 t5 (.tup [.str "net", .ref mp, .ref lt])) (netX (.tuple (mD ms)) (.tuple (ls.map rdD))) (.ref t5) :=
              DQ.tup (.inl (.inl upd_same)) (DQs.cons (DQ.str _) (DQs.cons (DQ.ext y36 _ _ hM) (DQs.cons (let ⟨vs', h1, h2, h3⟩ := rdl (x345.trans x36); DQ.tup h1 (rds_dq h2 h3)) DQs.nil)))
            have e36 := x36.tup _ _ e35
            have x356 := x345.trans x36
            have lN : K0.isNetD (netX (.tuple (mD ms)) (.tuple (ls.map rdD))) = true := by
              rw [net_is, mOK, lD, readings_ok lsl fun q hq => ⟨lgood q hq, by have := hval q (hin q hq); omega⟩]
              rfl
            have lJ := join_is ms ls
            generalize upd H35 t5 (.tup [.str "net", .ref mp, .ref lt]) = H36 at x36 y36 b36 d36 e36 x356 ⊢
            refine ⟨.ref t5, _, rfl, sub d36, fit_net hsh, htn.ext y36, y36.tab _ h4n, fun z => absurd (lN.symm.trans z) (by decide), fun _ => ⟨fun hJ q8 H37 x37 e37 => ?_, fun hJ H37 x37 => ?_⟩⟩
            rotate_left
            have hlen : (K0.conR ls ms.length 0).length = ms.length := of_decide_eq_true (lJ.symm.trans hJ)
            have e37 := x37.tup _ _ e36
            refine ⟨by show 2 ≤ sizeLine; decide, fun tt htt => ⟨by show 2 ≤ sizeLine; decide, fun tl htl => ?_⟩⟩
            have x38 : Ext [] H37 (upd (upd H37 tt (.tup [.int 0, .str "not joined"])) tl (.lst [.str "", .ref tt])) := (Ext.new htt).trans (.new htl)
            refine ⟨_, rfl, qf, _, rfl, .inr (.inl (.inl (x38.tup _ _ e37))), _, rfl, _, _, rfl, rfl, .inr ⟨_, rfl, tl, [.str "", .ref tt], _, .str "", rfl, rfl, SqL.of upd_same, by rw [if_neg (by rw [List.length_map, K0.nI_length, hlen]; simp)]; exact atI_nat (j := 0) rfl, _, _, .str _, .str _, shE, shE, _, rfl, neF (by decide +kernel) ?_⟩⟩
            have y38 : Ext [b] Hn (upd (upd H37 tt (.tup [.int 0, .str "not joined"])) tl (.lst [.str "", .ref tt])) := (y36.trans x37.more).trans x38.more
            have b38 : Box (L2.upd (L2.upd H37 tt (.tup [.int 0, .str "not joined"])) tl (.lst [.str "", .ref tt])) b d := (b36.ext x37).ext x38
            have z38 : Ext [] H33 (upd (upd H37 tt (.tup [.int 0, .str "not joined"])) tl (.lst [.str "", .ref tt])) := (x356.trans x37).trans x38
            generalize L2.upd (L2.upd H37 tt (.tup [.int 0, .str "not joined"])) tl (.lst [.str "", .ref tt]) = H38 at y38 b38 z38 ⊢
            clear x38
            rotate_left
            have hlt : (K0.conR ls ms.length 0).length < ms.length := by
              have : ¬ (K0.conR ls ms.length 0).length = ms.length := of_decide_eq_false (lJ.symm.trans hJ)
              omega
            have e38 := x37.tup _ _ e36
            refine ⟨by show 2 ≤ sizeLine; decide, fun tt htt => ⟨by show 2 ≤ sizeLine; decide, fun tl htl => ?_⟩⟩
            have x38 : Ext [] H37 (upd (upd H37 tt (.tup [.int 0, .str "not joined"])) tl (.lst [.str "", .ref tt])) := (Ext.new htt).trans (.new htl)
            have ett : (upd (upd H37 tt (.tup [.int 0, .str "not joined"])) tl (.lst [.str "", .ref tt])) tt = some (.tup [.int 0, .str "not joined"]) := by rw [upd_ne (ne_of_none upd_same htl)]; exact upd_same
            refine ⟨_, rfl, qf, _, rfl, .inr (.inl (.inl (x38.tup _ _ e38))), _, rfl, _, _, rfl, rfl, .inr ⟨_, rfl, tl, [.str "", .ref tt], _, .ref tt, rfl, rfl, SqL.of upd_same, by rw [if_pos (by rw [List.length_map, K0.nI_length]; exact decide_eq_true (by omega))]; exact atI_nat (j := 1) rfl, _, _, dpT (x38.tup _ _ e37), dpT ett, shJ, shJ, _, rfl, neF (eqv_two _ _) ?_⟩⟩
            have y38 : Ext [b] Hn (upd (upd H37 tt (.tup [.int 0, .str "not joined"])) tl (.lst [.str "", .ref tt])) := (y36.trans x37.more).trans x38.more
            have b38 : Box (L2.upd (L2.upd H37 tt (.tup [.int 0, .str "not joined"])) tl (.lst [.str "", .ref tt])) b d := (b36.ext x37).ext x38
            have z38 : Ext [] H33 (upd (upd H37 tt (.tup [.int 0, .str "not joined"])) tl (.lst [.str "", .ref tt])) := (x356.trans x37).trans x38
            generalize L2.upd (L2.upd H37 tt (.tup [.int 0, .str "not joined"])) tl (.lst [.str "", .ref tt]) = H38 at y38 b38 z38 ⊢
            clear x38
            all_goals
              -- start, reached
              refine ⟨_, rfl, _, rfl, b, d, ms.length, rfl, b38, by omega, fun r9 H39 g9 g10 x39 b39 => ?_⟩
              obtain ⟨st, rfl⟩ := nat_of g9
              have hst : st < ms.length := by omega
              have y39 := y38.trans x39
              have rd39 : RdsAt K H39 lt ls := (rdl z38).ext x39
              refine ⟨_, rfl, _, rfl, _, rfl, lt, ms.length, st, ls, rfl, rd39, lgood, hst, by omega, by omega, y39.tab _ h4n, fun q1 H40 x40 e40 => ?_⟩
              refine ⟨_, rfl, _, rfl, _, rfl, lt, ms.length, st, ls, rfl, rd39.ext x40, lgood, hst, by omega, fun q2 H44 x44 e44 => ?_⟩
              have y44 := (y39.trans x40.more).trans x44.more
              have cl2 : (K0.conR ls ms.length st).length ≤ ms.length := len_le ms.length (K0.conR ls ms.length st) ((asc_conR ls ms.length st).imp fun h => Nat.ne_of_lt h) fun x hx => ((mem_conR lgood hst).mp hx).lt lgood hst
              refine ⟨_, _, .tuple ((K0.nI (K0.conR ls ms.length st)).map .int), rfl, dp_tupI (.inl (.inl (x44.tup _ _ e40))), dp_tupI (.inl (.inl e44)), shows_tupI (fun n hn => ?_) (by rw [K0.nI_length]; omega), _, rfl, iteF ?_⟩
              · obtain ⟨m, hm, rfl⟩ := List.mem_map.mp hn
                have := ((mem_conR lgood hst).mp hm).lt lgood hst
                omega
              refine ⟨16, rfl, by decide, by decide, fun D hD => ?_⟩
              refine lc_range (n := 16) (fun i H4 => Ext [] H44 H4 ∧ H4 D = some (.lst ((rowN 122 0 i).map V.str))) ⟨.new hD, upd_same⟩ (fun i H4 hi h4 => ?_) (fun H4 h4 => ?_)
              · obtain ⟨x4, e4⟩ := h4
                have hj : (0 : Int) + (i : Nat) = ((0 + i : Nat) : Int) := by omega
                refine ⟨rfl, _, rfl, _, _, _, rfl, rfl, by decide, by rw [hj]; exact atI_nat (alph (by omega)), _, _, rfl, rfl, by show 1 + 1 ≤ 2 ^ 24; decide, ?_⟩
                refine ⟨_, e4, by rw [List.length_map, rowN_length]; exact small1000 (by omega), x4.own hD e4, ?_⟩
                rw [upd_same, rowN_succ, List.map_append]
                rfl
              · obtain ⟨x4, e4⟩ := h4
                refine ⟨D, _, rfl, .inl ⟨SqL.of e4, fun t ht' => ⟨by decide, fun e0 he0 => ⟨by show 3 ≤ sizeLine; decide, fun t3 ht3 => ?_⟩⟩⟩⟩
                have x5 : Ext [] H44 (upd (upd (upd H4 t (.tup ((rowN 122 0 16).map V.str))) e0 (.tup [])) t3 (.tup [.str "net", .ref t, .ref e0])) := ((x4.trans (.new ht')).trans (.new he0)).trans (.new ht3)
                have d5 : DQ [b] K (upd (upd (upd H4 t (.tup ((rowN 122 0 16).map V.str))) e0 (.tup [])) t3 (.tup [.str "net", .ref t, .ref e0])) (netX (.tuple (mD (rowN 122 0 16))) (.tuple [])) (.ref t3) :=
                  DQ.tup (.inl (.inl upd_same)) (DQs.cons (DQ.str _) (DQs.cons (DQ.tup (((Ext.new (c := []) he0).trans (.new ht3)).sqT (.inl (.inl upd_same))) (DQs.strs _)) (DQs.cons (DQ.tup ((Ext.new (c := []) ht3).sqT (.inl (.inl upd_same))) DQs.nil) DQs.nil)))
                refine ⟨.ref t3, _, rfl, sub d5, fit_net zS, (htn.ext y44).ext x5, x5.tab _ (y44.tab _ h4n), fun z => absurd (zN.symm.trans z) (by decide), fun _ => ⟨fun _ q7 H23 x23 e23 => ?_, fun z => absurd (zJ.symm.trans z) (by decide)⟩⟩
                refine ⟨by show 2 ≤ sizeLine; decide, fun t8 ht8 => ⟨_, _, dpT (by rw [upd_ne (ne_of_none e23 ht8)]; exact e23), dpT upd_same, shJ, shJ, ?_⟩⟩
                rw [eqv_two]
                exact q _
        · refine ⟨16, rfl, by decide, by decide, fun D hD => ?_⟩
          refine lc_range (n := 16) (fun i H4 => Ext [] H22 H4 ∧ H4 D = some (.lst ((rowN 122 0 i).map V.str))) ⟨.new hD, upd_same⟩ (fun i H4 hi h4 => ?_) (fun H4 h4 => ?_)
          · obtain ⟨x4, e4⟩ := h4
            have hj : (0 : Int) + (i : Nat) = ((0 + i : Nat) : Int) := by omega
            refine ⟨rfl, _, rfl, _, _, _, rfl, rfl, by decide, by rw [hj]; exact atI_nat (alph (by omega)), _, _, rfl, rfl, by show 1 + 1 ≤ 2 ^ 24; decide, ?_⟩
            refine ⟨_, e4, by rw [List.length_map, rowN_length]; exact small1000 (by omega), x4.own hD e4, ?_⟩
            rw [upd_same, rowN_succ, List.map_append]
            rfl
          · obtain ⟨x4, e4⟩ := h4
            refine ⟨D, _, rfl, .inl ⟨SqL.of e4, fun t ht' => ⟨by decide, fun e0 he0 => ⟨by show 3 ≤ sizeLine; decide, fun t3 ht3 => ?_⟩⟩⟩⟩
            have x5 : Ext [] H22 (upd (upd (upd H4 t (.tup ((rowN 122 0 16).map V.str))) e0 (.tup [])) t3 (.tup [.str "net", .ref t, .ref e0])) := ((x4.trans (.new ht')).trans (.new he0)).trans (.new ht3)
            have d5 : DQ [b] K (upd (upd (upd H4 t (.tup ((rowN 122 0 16).map V.str))) e0 (.tup [])) t3 (.tup [.str "net", .ref t, .ref e0])) (netX (.tuple (mD (rowN 122 0 16))) (.tuple [])) (.ref t3) :=
              DQ.tup (.inl (.inl upd_same)) (DQs.cons (DQ.str _) (DQs.cons (DQ.tup (((Ext.new (c := []) he0).trans (.new ht3)).sqT (.inl (.inl upd_same))) (DQs.strs _)) (DQs.cons (DQ.tup ((Ext.new (c := []) ht3).sqT (.inl (.inl upd_same))) DQs.nil) DQs.nil)))
            refine ⟨.ref t3, _, rfl, sub d5, fit_net zS, (htn.ext y22).ext x5, x5.tab _ (y22.tab _ h4n), fun z => absurd (zN.symm.trans z) (by decide), fun _ => ⟨fun _ q7 H23 x23 e23 => ?_, fun z => absurd (zJ.symm.trans z) (by decide)⟩⟩
            refine ⟨by show 2 ≤ sizeLine; decide, fun t8 ht8 => ⟨_, _, dpT (by rw [upd_ne (ne_of_none e23 ht8)]; exact e23), dpT upd_same, shJ, shJ, ?_⟩⟩
            rw [eqv_two]
            exact q _
end
end L0
set_option Elab.async false
set_option linter.all false
set_option maxRecDepth 100000
set_option maxHeartbeats 4000000
namespace L0
open PySem PySem.Spec PyProof.Rows L2 Gx RZ
theorem tabIn_of {K : PySem.W.Frag} {x qual : Str} {f c P : Addr} {oc : Value} {od an : Option Addr} {osl : Array (Option Value)} {kV doc pm ct : Value} {st : Stmt} {e : Value} {dd : Option Addr} {vs : Array Value} {sl : Array (Option Value)}
    (a : PySem.W.nsIn K mainGlobals x = some (some (.ref f))) (l : K.lookup f = some ⟨oc, od, .func (PySem.W.fnOf x qual (defArgs st) (defBody st) (defScope st) .none kV doc pm an (.ref c) ct), osl⟩) (lc : K.lookup c = some ⟨e, dd, .fields vs, sl⟩) (v : vs[11]? = some (.ref P)) :
    PySem.W.tabIn K x = some (c, P) := by
  unfold PySem.W.tabIn
  rw [a]
  simp only [l, lc, v, PySem.W.fnOf]
theorem lawK {l : PySem.W.OpenLaw} {q : Program} {w : World} {K : PySem.W.Frag} {mg : Str → Option Value} {fa : Addr} {h : Heap} (KX : K.In h) (G : h.Ns mainGlobals mg) (hmg : mg "law" = some (.ref fa))
   (HT : ∀ (d' : DefRec) (y : Str) (c P : Addr), (recsOf q).find? (fun e => e.name == y) = some d' → PySem.W.tabIn K y = some (c, P) → PySem.W.CodeHd h c P ∧ h.get? P = some Gx.tab0)
    {odL anL : Option Addr} {slL : Array (Option Value)} {ocL kVL dcL pmL ctL : Value} {fL : Addr} {cdL : Value}
    (aL : PySem.W.nsIn K mainGlobals "law" = some (some (.ref fL))) (lL : K.lookup fL = some ⟨ocL, odL, .func (PySem.W.fnOf "law" "law" (defArgs sLaw) (defBody sLaw) (defScope sLaw) .none kVL dcL pmL anL cdL ctL), slL⟩) (hL : PySem.W.codeIn K cdL "law" = true) (kL : PySem.W.keepIn K (.ref fL) = true)
    {odDg anDg : Option Addr} {slDg : Array (Option Value)} {ocDg kVDg dcDg pmDg ctDg : Value} {fDg : Addr} {cdDg : Value}
    (aDg : PySem.W.nsIn K mainGlobals "_law_digits" = some (some (.ref fDg))) (lDg : K.lookup fDg = some ⟨ocDg, odDg, .func (PySem.W.fnOf "_law_digits" "_law_digits" (defArgs sDigits) (defBody sDigits) (defScope sDigits) .none kVDg dcDg pmDg anDg cdDg ctDg), slDg⟩) (hDg : PySem.W.codeIn K cdDg "_law_digits" = true) (kDg : PySem.W.keepIn K (.ref fDg) = true)
    {odC anC : Option Addr} {slC : Array (Option Value)} {ocC kVC dcC pmC ctC : Value} {fC : Addr} {cdC : Value}
    (aC : PySem.W.nsIn K mainGlobals "_law_cell" = some (some (.ref fC))) (lC : K.lookup fC = some ⟨ocC, odC, .func (PySem.W.fnOf "_law_cell" "_law_cell" (defArgs sCell) (defBody sCell) (defScope sCell) .none kVC dcC pmC anC cdC ctC), slC⟩) (hC : PySem.W.codeIn K cdC "_law_cell" = true) (kC : PySem.W.keepIn K (.ref fC) = true)
    {odD anD : Option Addr} {slD : Array (Option Value)} {ocD kVD dcD pmD ctD : Value} {fD : Addr} {cdD : Value}
    (aD : PySem.W.nsIn K mainGlobals "_law_draw" = some (some (.ref fD))) (lD : K.lookup fD = some ⟨ocD, odD, .func (PySem.W.fnOf "_law_draw" "_law_draw" (defArgs sDraw) (defBody sDraw) (defScope sDraw) .none kVD dcD pmD anD cdD ctD), slD⟩) (hD : PySem.W.codeIn K cdD "_law_draw" = true) (kD : PySem.W.keepIn K (.ref fD) = true)
    {odP anP : Option Addr} {slP : Array (Option Value)} {ocP kVP dcP pmP ctP : Value} {fP : Addr} {cdP : Value}
    (aP : PySem.W.nsIn K mainGlobals "_law_pick" = some (some (.ref fP))) (lP : K.lookup fP = some ⟨ocP, odP, .func (PySem.W.fnOf "_law_pick" "_law_pick" (defArgs sPick) (defBody sPick) (defScope sPick) .none kVP dcP pmP anP cdP ctP), slP⟩) (hP : PySem.W.codeIn K cdP "_law_pick" = true) (kP : PySem.W.keepIn K (.ref fP) = true)
    {odS anS : Option Addr} {slS : Array (Option Value)} {ocS kVS dcS pmS ctS : Value} {fS : Addr} {cdS : Value}
    (aS : PySem.W.nsIn K mainGlobals "_law_same" = some (some (.ref fS))) (lS : K.lookup fS = some ⟨ocS, odS, .func (PySem.W.fnOf "_law_same" "_law_same" (defArgs sSame) (defBody sSame) (defScope sSame) .none kVS dcS pmS anS cdS ctS), slS⟩) (hS : PySem.W.codeIn K cdS "_law_same" = true) (kS : PySem.W.keepIn K (.ref fS) = true)
    {odM anM : Option Addr} {slM : Array (Option Value)} {ocM kVM dcM pmM ctM : Value} {fM : Addr} {cdM : Value}
    (aM : PySem.W.nsIn K mainGlobals "_law_marks" = some (some (.ref fM))) (lM : K.lookup fM = some ⟨ocM, odM, .func (PySem.W.fnOf "_law_marks" "_law_marks" (defArgs sMarks) (defBody sMarks) (defScope sMarks) .none kVM dcM pmM anM cdM ctM), slM⟩) (hM : PySem.W.codeIn K cdM "_law_marks" = true) (kM : PySem.W.keepIn K (.ref fM) = true)
    {odR anR : Option Addr} {slR : Array (Option Value)} {ocR kVR dcR pmR ctR : Value} {fR : Addr} {cdR : Value}
    (aR : PySem.W.nsIn K mainGlobals "_law_reading" = some (some (.ref fR))) (lR : K.lookup fR = some ⟨ocR, odR, .func (PySem.W.fnOf "_law_reading" "_law_reading" (defArgs sReading) (defBody sReading) (defScope sReading) .none kVR dcR pmR anR cdR ctR), slR⟩) (hR : PySem.W.codeIn K cdR "_law_reading" = true) (kR : PySem.W.keepIn K (.ref fR) = true)
    {odN anN : Option Addr} {slN : Array (Option Value)} {ocN kVN dcN pmN ctN : Value} {fN : Addr} {cdN : Value}
    (aN : PySem.W.nsIn K mainGlobals "_law_net" = some (some (.ref fN))) (lN : K.lookup fN = some ⟨ocN, odN, .func (PySem.W.fnOf "_law_net" "_law_net" (defArgs sNet) (defBody sNet) (defScope sNet) .none kVN dcN pmN anN cdN ctN), slN⟩) (hN : PySem.W.codeIn K cdN "_law_net" = true) (kN : PySem.W.keepIn K (.ref fN) = true)
    {odT anT : Option Addr} {slT : Array (Option Value)} {ocT kVT dcT pmT ctT : Value} {fT : Addr} {cdT : Value}
    (aT : PySem.W.nsIn K mainGlobals "_law_told" = some (some (.ref fT))) (lT : K.lookup fT = some ⟨ocT, odT, .func (PySem.W.fnOf "_law_told" "_law_told" (defArgs sTold) (defBody sTold) (defScope sTold) .none kVT dcT pmT anT cdT ctT), slT⟩) (hT : PySem.W.codeIn K cdT "_law_told" = true) (kT : PySem.W.keepIn K (.ref fT) = true)
    {odBr anBr : Option Addr} {slBr : Array (Option Value)} {ocBr kVBr dcBr pmBr ctBr : Value} {fBr : Addr} {cdBr : Value}
    (aBr : PySem.W.nsIn K mainGlobals "_law_bad_readings" = some (some (.ref fBr))) (lBr : K.lookup fBr = some ⟨ocBr, odBr, .func (PySem.W.fnOf "_law_bad_readings" "_law_bad_readings" (defArgs sBadR) (defBody sBadR) (defScope sBadR) .none kVBr dcBr pmBr anBr cdBr ctBr), slBr⟩) (hBr : PySem.W.codeIn K cdBr "_law_bad_readings" = true) (kBr : PySem.W.keepIn K (.ref fBr) = true)
    {odBm anBm : Option Addr} {slBm : Array (Option Value)} {ocBm kVBm dcBm pmBm ctBm : Value} {fBm : Addr} {cdBm : Value}
    (aBm : PySem.W.nsIn K mainGlobals "_law_bad_marks" = some (some (.ref fBm))) (lBm : K.lookup fBm = some ⟨ocBm, odBm, .func (PySem.W.fnOf "_law_bad_marks" "_law_bad_marks" (defArgs sBadM) (defBody sBadM) (defScope sBadM) .none kVBm dcBm pmBm anBm cdBm ctBm), slBm⟩) (hBm : PySem.W.codeIn K cdBm "_law_bad_marks" = true) (kBm : PySem.W.keepIn K (.ref fBm) = true)
    {odRl anRl : Option Addr} {slRl : Array (Option Value)} {ocRl kVRl dcRl pmRl ctRl : Value} {fRl : Addr} {cdRl : Value}
    (aRl : PySem.W.nsIn K mainGlobals "_law_reached" = some (some (.ref fRl))) (lRl : K.lookup fRl = some ⟨ocRl, odRl, .func (PySem.W.fnOf "_law_reached" "_law_reached" (defArgs sReachL) (defBody sReachL) (defScope sReachL) .none kVRl dcRl pmRl anRl cdRl ctRl), slRl⟩) (hRl : PySem.W.codeIn K cdRl "_law_reached" = true) (kRl : PySem.W.keepIn K (.ref fRl) = true)
    {odwh anwh : Option Addr} {slwh : Array (Option Value)} {ocwh kVwh dcwh pmwh ctwh : Value} {fwh : Addr} {cdwh : Value}
    (awh : PySem.W.nsIn K mainGlobals "is_whole" = some (some (.ref fwh))) (lwh : K.lookup fwh = some ⟨ocwh, odwh, .func (PySem.W.fnOf "is_whole" "is_whole" (defArgs K0.sIsWhole) (defBody K0.sIsWhole) (defScope K0.sIsWhole) .none kVwh dcwh pmwh anwh cdwh ctwh), slwh⟩) (hwh : PySem.W.codeIn K cdwh "is_whole" = true) (kwh : PySem.W.keepIn K (.ref fwh) = true)
    {odix anix : Option Addr} {slix : Array (Option Value)} {ocix kVix dcix pmix ctix : Value} {fix : Addr} {cdix : Value}
    (aix : PySem.W.nsIn K mainGlobals "is_index" = some (some (.ref fix))) (lix : K.lookup fix = some ⟨ocix, odix, .func (PySem.W.fnOf "is_index" "is_index" (defArgs K0.sIsIndex) (defBody K0.sIsIndex) (defScope K0.sIsIndex) .none kVix dcix pmix anix cdix ctix), slix⟩) (hix : PySem.W.codeIn K cdix "is_index" = true) (kix : PySem.W.keepIn K (.ref fix) = true)
    {odro anro : Option Addr} {slro : Array (Option Value)} {ocro kVro dcro pmro ctro : Value} {fro : Addr} {cdro : Value}
    (aro : PySem.W.nsIn K mainGlobals "is_row" = some (some (.ref fro))) (lro : K.lookup fro = some ⟨ocro, odro, .func (PySem.W.fnOf "is_row" "is_row" (defArgs K0.sIsRow) (defBody K0.sIsRow) (defScope K0.sIsRow) .none kVro dcro pmro anro cdro ctro), slro⟩) (hro : PySem.W.codeIn K cdro "is_row" = true) (kro : PySem.W.keepIn K (.ref fro) = true)
    {odva anva : Option Addr} {slva : Array (Option Value)} {ocva kVva dcva pmva ctva : Value} {fva : Addr} {cdva : Value}
    (ava : PySem.W.nsIn K mainGlobals "is_value" = some (some (.ref fva))) (lva : K.lookup fva = some ⟨ocva, odva, .func (PySem.W.fnOf "is_value" "is_value" (defArgs K0.sIsValue) (defBody K0.sIsValue) (defScope K0.sIsValue) .none kVva dcva pmva anva cdva ctva), slva⟩) (hva : PySem.W.codeIn K cdva "is_value" = true) (kva : PySem.W.keepIn K (.ref fva) = true)
    {odre anre : Option Addr} {slre : Array (Option Value)} {ocre kVre dcre pmre ctre : Value} {fre : Addr} {cdre : Value}
    (are : PySem.W.nsIn K mainGlobals "is_reading" = some (some (.ref fre))) (lre : K.lookup fre = some ⟨ocre, odre, .func (PySem.W.fnOf "is_reading" "is_reading" (defArgs K0.sIsReading) (defBody K0.sIsReading) (defScope K0.sIsReading) .none kVre dcre pmre anre cdre ctre), slre⟩) (hre : PySem.W.codeIn K cdre "is_reading" = true) (kre : PySem.W.keepIn K (.ref fre) = true)
    {odne anne : Option Addr} {slne : Array (Option Value)} {ocne kVne dcne pmne ctne : Value} {fne : Addr} {cdne : Value}
    (ane : PySem.W.nsIn K mainGlobals "is_net" = some (some (.ref fne))) (lne : K.lookup fne = some ⟨ocne, odne, .func (PySem.W.fnOf "is_net" "is_net" (defArgs K0.sIsNet) (defBody K0.sIsNet) (defScope K0.sIsNet) .none kVne dcne pmne anne cdne ctne), slne⟩) (hne : PySem.W.codeIn K cdne "is_net" = true) (kne : PySem.W.keepIn K (.ref fne) = true)
    {odjo anjo : Option Addr} {sljo : Array (Option Value)} {ocjo kVjo dcjo pmjo ctjo : Value} {fjo : Addr} {cdjo : Value}
    (ajo : PySem.W.nsIn K mainGlobals "is_joined" = some (some (.ref fjo))) (ljo : K.lookup fjo = some ⟨ocjo, odjo, .func (PySem.W.fnOf "is_joined" "is_joined" (defArgs K0.sIsJoined) (defBody K0.sIsJoined) (defScope K0.sIsJoined) .none kVjo dcjo pmjo anjo cdjo ctjo), sljo⟩) (hjo : PySem.W.codeIn K cdjo "is_joined" = true) (kjo : PySem.W.keepIn K (.ref fjo) = true)
    {odnb annb : Option Addr} {slnb : Array (Option Value)} {ocnb kVnb dcnb pmnb ctnb : Value} {fnb : Addr} {cdnb : Value}
    (anb : PySem.W.nsIn K mainGlobals "neighbours" = some (some (.ref fnb))) (lnb : K.lookup fnb = some ⟨ocnb, odnb, .func (PySem.W.fnOf "neighbours" "neighbours" (defArgs K0.sNeighbours) (defBody K0.sNeighbours) (defScope K0.sNeighbours) .none kVnb dcnb pmnb annb cdnb ctnb), slnb⟩) (hnb : PySem.W.codeIn K cdnb "neighbours" = true) (knb : PySem.W.keepIn K (.ref fnb) = true)
    {odno anno : Option Addr} {slno : Array (Option Value)} {ocno kVno dcno pmno ctno : Value} {fno : Addr} {cdno : Value}
    (ano : PySem.W.nsIn K mainGlobals "neighbours_over" = some (some (.ref fno))) (lno : K.lookup fno = some ⟨ocno, odno, .func (PySem.W.fnOf "neighbours_over" "neighbours_over" (defArgs K0.sNeighboursOver) (defBody K0.sNeighboursOver) (defScope K0.sNeighboursOver) .none kVno dcno pmno anno cdno ctno), slno⟩) (hno : PySem.W.codeIn K cdno "neighbours_over" = true) (kno : PySem.W.keepIn K (.ref fno) = true)
    {odch anch : Option Addr} {slch : Array (Option Value)} {occh kVch dcch pmch ctch : Value} {fch : Addr} {cdch : Value}
    (ach : PySem.W.nsIn K mainGlobals "check_net" = some (some (.ref fch))) (lch : K.lookup fch = some ⟨occh, odch, .func (PySem.W.fnOf "check_net" "check_net" (defArgs K0.sCheckNet) (defBody K0.sCheckNet) (defScope K0.sCheckNet) .none kVch dcch pmch anch cdch ctch), slch⟩) (hch : PySem.W.codeIn K cdch "check_net" = true) (kch : PySem.W.keepIn K (.ref fch) = true)
    {odnm annm : Option Addr} {slnm : Array (Option Value)} {ocnm kVnm dcnm pmnm ctnm : Value} {fnm : Addr} {cnm Pnm : Addr} {dnm : DefRec} {enm : Value} {ddnm : Option Addr} {vsnm : Array Value} {scnm : Array (Option Value)}
    (anm : PySem.W.nsIn K mainGlobals "is_name" = some (some (.ref fnm))) (lnm : K.lookup fnm = some ⟨ocnm, odnm, .func (PySem.W.fnOf "is_name" "is_name" (defArgs K0.sIsName) (defBody K0.sIsName) (defScope K0.sIsName) .none kVnm dcnm pmnm annm (.ref cnm) ctnm), slnm⟩) (hnm : PySem.W.codeIn K (.ref cnm) "is_name" = true) (knm : PySem.W.keepIn K (.ref fnm) = true)
    (fnm' : (recsOf q).find? (fun e => e.name == ("is_name" : Str)) = some dnm) (lcnm : K.lookup cnm = some ⟨enm, ddnm, .fields vsnm, scnm⟩) (vnm : vsnm[11]? = some (.ref Pnm)) (nnm : K.lookup Pnm = none)
    {odam anam : Option Addr} {slam : Array (Option Value)} {ocam kVam dcam pmam ctam : Value} {fam : Addr} {cam Pam : Addr} {dam : DefRec} {eam : Value} {ddam : Option Addr} {vsam : Array Value} {scam : Array (Option Value)}
    (aam : PySem.W.nsIn K mainGlobals "are_marks" = some (some (.ref fam))) (lam : K.lookup fam = some ⟨ocam, odam, .func (PySem.W.fnOf "are_marks" "are_marks" (defArgs K0.sAreMarks) (defBody K0.sAreMarks) (defScope K0.sAreMarks) .none kVam dcam pmam anam (.ref cam) ctam), slam⟩) (ham : PySem.W.codeIn K (.ref cam) "are_marks" = true) (kam : PySem.W.keepIn K (.ref fam) = true)
    (fam' : (recsOf q).find? (fun e => e.name == ("are_marks" : Str)) = some dam) (lcam : K.lookup cam = some ⟨eam, ddam, .fields vsam, scam⟩) (vam : vsam[11]? = some (.ref Pam)) (nam : K.lookup Pam = none)
    {odar anar : Option Addr} {slar : Array (Option Value)} {ocar kVar dcar pmar ctar : Value} {far : Addr} {car Par : Addr} {dar : DefRec} {ear : Value} {ddar : Option Addr} {vsar : Array Value} {scar : Array (Option Value)}
    (aar : PySem.W.nsIn K mainGlobals "are_readings" = some (some (.ref far))) (lar : K.lookup far = some ⟨ocar, odar, .func (PySem.W.fnOf "are_readings" "are_readings" (defArgs K0.sAreReadings) (defBody K0.sAreReadings) (defScope K0.sAreReadings) .none kVar dcar pmar anar (.ref car) ctar), slar⟩) (har : PySem.W.codeIn K (.ref car) "are_readings" = true) (kar : PySem.W.keepIn K (.ref far) = true)
    (far' : (recsOf q).find? (fun e => e.name == ("are_readings" : Str)) = some dar) (lcar : K.lookup car = some ⟨ear, ddar, .fields vsar, scar⟩) (var : vsar[11]? = some (.ref Par)) (nar : K.lookup Par = none)
    {odrc anrc : Option Addr} {slrc : Array (Option Value)} {ocrc kVrc dcrc pmrc ctrc : Value} {frc : Addr} {crc Prc : Addr} {drc : DefRec} {erc : Value} {ddrc : Option Addr} {vsrc : Array Value} {scrc : Array (Option Value)}
    (arc : PySem.W.nsIn K mainGlobals "reached" = some (some (.ref frc))) (lrc : K.lookup frc = some ⟨ocrc, odrc, .func (PySem.W.fnOf "reached" "reached" (defArgs K0.sReached) (defBody K0.sReached) (defScope K0.sReached) .none kVrc dcrc pmrc anrc (.ref crc) ctrc), slrc⟩) (hrc : PySem.W.codeIn K (.ref crc) "reached" = true) (krc : PySem.W.keepIn K (.ref frc) = true)
    (frc' : (recsOf q).find? (fun e => e.name == ("reached" : Str)) = some drc) (lcrc : K.lookup crc = some ⟨erc, ddrc, .fields vsrc, scrc⟩) (vrc : vsrc[11]? = some (.ref Prc)) (nrc : K.lookup Prc = none)
    (z_len : PySem.W.nsIn K mainGlobals "len" = some none)
    (z_int : PySem.W.nsIn K mainGlobals "int" = some none)
    (z_range : PySem.W.nsIn K mainGlobals "range" = some none)
    (z_tuple : PySem.W.nsIn K mainGlobals "tuple" = some none)
    (z_list : PySem.W.nsIn K mainGlobals "list" = some none)
    (z_isinstance : PySem.W.nsIn K mainGlobals "isinstance" = some none)
    (z_bool : PySem.W.nsIn K mainGlobals "bool" = some none)
    (z_str : PySem.W.nsIn K mainGlobals "str" = some none)
    (z_all : PySem.W.nsIn K mainGlobals "all" = some none)
    (z_set : PySem.W.nsIn K mainGlobals "set" = some none)
    (z_repr : PySem.W.nsIn K mainGlobals "repr" = some none)
    (z_sorted : PySem.W.nsIn K mainGlobals "sorted" = some none)
    (z_ValueError : PySem.W.nsIn K mainGlobals "ValueError" = some none)
    {tkMOST_LETTERS : Tok} (i_MOST_LETTERS : PySem.W.nsIn K mainGlobals "MOST_LETTERS" = some (some (.int 8 tkMOST_LETTERS)))
    {tkMOST_MARKS : Tok} (i_MOST_MARKS : PySem.W.nsIn K mainGlobals "MOST_MARKS" = some (some (.int 16 tkMOST_MARKS)))
    {tkMOST_READINGS : Tok} (i_MOST_READINGS : PySem.W.nsIn K mainGlobals "MOST_READINGS" = some (some (.int 80 tkMOST_READINGS)))
    {tkMOST_VALUE : Tok} (i_MOST_VALUE : PySem.W.nsIn K mainGlobals "MOST_VALUE" = some (some (.int 1000000 tkMOST_VALUE)))
    {Cn Le Be Bs : Addr} (yC : PySem.W.nsIn K mainGlobals "BadNet" = some (some (.ref Cn))) (yL : PySem.W.nsIn K mainGlobals "LevelError" = some (some (.ref Le))) (yE : PySem.W.nsIn K mainGlobals "BadEntry" = some (some (.ref Be))) (yS : PySem.W.nsIn K mainGlobals "BadState" = some (some (.ref Bs)))
    {fI : Addr} {odI anI : Option Addr} {slI : Array (Option Value)} {ocI kVI dcI pmI ctI cdI : Value} (iC : PySem.W.findIn K (.ref Cn) "__init__" = some (some (.ref fI))) (tI : PySem.W.typeIn K (.ref fI) = some (.type "function")) (lI : K.lookup fI = some ⟨ocI, odI, .func (PySem.W.fnOf "__init__" "BadNet.__init__" (defArgs K0.sInit) (defBody K0.sInit) (defScope K0.sInit) .none kVI dcI pmI anI cdI ctI), slI⟩) (hI : PySem.W.codeIn K cdI "BadNet.__init__" = true) (kI : PySem.W.keepIn K (.ref fI) = true)
    {nm q' N bs bm sn sub ab col dd k0 k1 k2 k3 k5} (o1 : K.lookup Cn = some (excClassObj nm q' Cn N bs bm true sn sub ab col dd k0 k1 k2 k3 k5 "ValueError.__new__")) (o2 : PySem.HandSPX.refsVE bm = true) (o3 : PySem.W.findIn K (.ref Cn) "__setattr__" = some (some (.builtin "object.__setattr__"))) (o4 : PySem.W.subIn K (.ref Cn) (.type "BaseException") = some true) (o5 : PySem.W.typeIn K (.ref Cn) = some (.type "type")) (o8 : PySem.W.keepIn K (.ref Cn) = true)
    (o6 : PySem.W.findIn K (.ref Cn) "line" = some none) (o7 : PySem.W.findIn K (.ref Cn) "reason" = some none) (xc : ExcC K Cn) (xf : XfC K Cn)
    (eX : PySem.W.exmOne K (.ref Cn) (.ref Le) = some true) (kE : PySem.W.kitOne K (.ref Cn) (.ref Be) = some false) (kS' : PySem.W.kitOne K (.ref Cn) (.ref Bs) = some false) (kC' : PySem.W.kitOne K (.ref Cn) (.ref Cn) = some true) (kV' : PySem.W.kitOne K (.ref Cn) (.type "ValueError") = some true)
    : Gx.LawG l w K 17 63 "script" mg fa h := by
  have e := hmg.symm.trans (PySem.W.mg_of KX G aL)
  cases e
  have FL := fun_mk (st := sLaw) lL hL kL
  have FDg := fun_mk (st := sDigits) lDg hDg kDg
  have FC := fun_mk (st := sCell) lC hC kC
  have FD := fun_mk (st := sDraw) lD hD kD
  have FP := fun_mk (st := sPick) lP hP kP
  have FS := fun_mk (st := sSame) lS hS kS
  have FM := fun_mk (st := sMarks) lM hM kM
  have FR := fun_mk (st := sReading) lR hR kR
  have FN := fun_mk (st := sNet) lN hN kN
  have FT := fun_mk (st := sTold) lT hT kT
  have FBr := fun_mk (st := sBadR) lBr hBr kBr
  have FBm := fun_mk (st := sBadM) lBm hBm kBm
  have FRl := fun_mk (st := sReachL) lRl hRl kRl
  have Fwh := fun_mk (st := K0.sIsWhole) lwh hwh kwh
  have Fix := fun_mk (st := K0.sIsIndex) lix hix kix
  have Fro := fun_mk (st := K0.sIsRow) lro hro kro
  have Fva := fun_mk (st := K0.sIsValue) lva hva kva
  have Fre := fun_mk (st := K0.sIsReading) lre hre kre
  have Fne := fun_mk (st := K0.sIsNet) lne hne kne
  have Fjo := fun_mk (st := K0.sIsJoined) ljo hjo kjo
  have Fnb := fun_mk (st := K0.sNeighbours) lnb hnb knb
  have Fno := fun_mk (st := K0.sNeighboursOver) lno hno kno
  have Fch := fun_mk (st := K0.sCheckNet) lch hch kch
  have FI := fun_mk (st := K0.sInit) lI hI kI
  have bI := FI.binds (ps := ["self", "line", "reason"]) fun _ _ _ _ _ _ us hl => match us, hl with | [_, _, _], _ => rfl
  have Fnm := funT_mk (st := K0.sIsName) lnm hnm knm
  have Tnm := HT dnm "is_name" cnm Pnm fnm' (tabIn_of anm lnm lcnm vnm)
  have Fam := funT_mk (st := K0.sAreMarks) lam ham kam
  have Tam := HT dam "are_marks" cam Pam fam' (tabIn_of aam lam lcam vam)
  have Far := funT_mk (st := K0.sAreReadings) lar har kar
  have Tar := HT dar "are_readings" car Par far' (tabIn_of aar lar lcar var)
  have Frc := funT_mk (st := K0.sReached) lrc hrc krc
  have Trc := HT drc "reached" crc Prc frc' (tabIn_of arc lrc lcrc vrc)
  have bDg := FDg.binds (ps := ["script", "first", "last"]) fun _ _ _ _ _ _ us hl => match us, hl with | [_, _, _], _ => rfl
  have gDg := PySem.W.mg_of KX G aDg
  have bC := FC.binds (ps := ["script", "k"]) fun _ _ _ _ _ _ us hl => match us, hl with | [_, _], _ => rfl
  have gC := PySem.W.mg_of KX G aC
  have bD := FD.binds (ps := ["box", "many"]) fun _ _ _ _ _ _ us hl => match us, hl with | [_, _], _ => rfl
  have gD := PySem.W.mg_of KX G aD
  have bP := FP.binds (ps := ["box", "things"]) fun _ _ _ _ _ _ us hl => match us, hl with | [_, _], _ => rfl
  have gP := PySem.W.mg_of KX G aP
  have bS := FS.binds (ps := ["actual", "due"]) fun _ _ _ _ _ _ us hl => match us, hl with | [_, _], _ => rfl
  have gS := PySem.W.mg_of KX G aS
  have bM := FM.binds (ps := ["box", "many"]) fun _ _ _ _ _ _ us hl => match us, hl with | [_, _], _ => rfl
  have gM := PySem.W.mg_of KX G aM
  have bR := FR.binds (ps := ["box", "heights", "one", "other"]) fun _ _ _ _ _ _ us hl => match us, hl with | [_, _, _, _], _ => rfl
  have gR := PySem.W.mg_of KX G aR
  have bN := FN.binds (ps := ["box", "most", "more"]) fun _ _ _ _ _ _ us hl => match us, hl with | [_, _, _], _ => rfl
  have gN := PySem.W.mg_of KX G aN
  have bT := FT.binds (ps := ["net"]) fun _ _ _ _ _ _ us hl => match us, hl with | [_], _ => rfl
  have gT := PySem.W.mg_of KX G aT
  have bBr := FBr.binds (ps := ["many"]) fun _ _ _ _ _ _ us hl => match us, hl with | [_], _ => rfl
  have gBr := PySem.W.mg_of KX G aBr
  have bBm := FBm.binds (ps := ["marks"]) fun _ _ _ _ _ _ us hl => match us, hl with | [_], _ => rfl
  have gBm := PySem.W.mg_of KX G aBm
  have bRl := FRl.binds (ps := ["many", "readings", "start"]) fun _ _ _ _ _ _ us hl => match us, hl with | [_, _, _], _ => rfl
  have gRl := PySem.W.mg_of KX G aRl
  have bwh := Fwh.binds (ps := ["thing"]) fun _ _ _ _ _ _ us hl => match us, hl with | [_], _ => rfl
  have gwh := PySem.W.mg_of KX G awh
  have bix := Fix.binds (ps := ["thing", "many"]) fun _ _ _ _ _ _ us hl => match us, hl with | [_, _], _ => rfl
  have gix := PySem.W.mg_of KX G aix
  have bro := Fro.binds (ps := ["thing", "many"]) fun _ _ _ _ _ _ us hl => match us, hl with | [_, _], _ => rfl
  have gro := PySem.W.mg_of KX G aro
  have bva := Fva.binds (ps := ["number"]) fun _ _ _ _ _ _ us hl => match us, hl with | [_], _ => rfl
  have gva := PySem.W.mg_of KX G ava
  have bre := Fre.binds (ps := ["thing", "many"]) fun _ _ _ _ _ _ us hl => match us, hl with | [_, _], _ => rfl
  have gre := PySem.W.mg_of KX G are
  have bne := Fne.binds (ps := ["thing"]) fun _ _ _ _ _ _ us hl => match us, hl with | [_], _ => rfl
  have gne := PySem.W.mg_of KX G ane
  have bjo := Fjo.binds (ps := ["marks", "readings"]) fun _ _ _ _ _ _ us hl => match us, hl with | [_, _], _ => rfl
  have gjo := PySem.W.mg_of KX G ajo
  have bnb := Fnb.binds (ps := ["many", "readings"]) fun _ _ _ _ _ _ us hl => match us, hl with | [_, _], _ => rfl
  have bno := Fno.binds (ps := ["many", "readings", "chosen"]) fun _ _ _ _ _ _ us hl => match us, hl with | [_, _, _], _ => rfl
  have gnb := PySem.W.mg_of KX G anb
  have gno := PySem.W.mg_of KX G ano
  have bch := Fch.binds (ps := ["net"]) fun _ _ _ _ _ _ us hl => match us, hl with | [_], _ => rfl
  have gch := PySem.W.mg_of KX G ach
  have bnm := Fnm.toFun.binds (ps := ["thing"]) fun _ _ _ _ _ _ us hl => match us, hl with | [_], _ => rfl
  have gnm := PySem.W.mg_of KX G anm
  have bam := Fam.toFun.binds (ps := ["thing"]) fun _ _ _ _ _ _ us hl => match us, hl with | [_], _ => rfl
  have gam := PySem.W.mg_of KX G aam
  have bar := Far.toFun.binds (ps := ["thing", "many"]) fun _ _ _ _ _ _ us hl => match us, hl with | [_, _], _ => rfl
  have gar := PySem.W.mg_of KX G aar
  have brc := Frc.toFun.binds (ps := ["many", "readings", "start"]) fun _ _ _ _ _ _ us hl => match us, hl with | [_, _, _], _ => rfl
  have grc := PySem.W.mg_of KX G arc
  have m_len := PySem.W.mg_none_of KX G z_len
  have m_int := PySem.W.mg_none_of KX G z_int
  have m_range := PySem.W.mg_none_of KX G z_range
  have m_tuple := PySem.W.mg_none_of KX G z_tuple
  have m_list := PySem.W.mg_none_of KX G z_list
  have m_isinstance := PySem.W.mg_none_of KX G z_isinstance
  have m_bool := PySem.W.mg_none_of KX G z_bool
  have m_str := PySem.W.mg_none_of KX G z_str
  have m_all := PySem.W.mg_none_of KX G z_all
  have m_set := PySem.W.mg_none_of KX G z_set
  have m_repr := PySem.W.mg_none_of KX G z_repr
  have m_sorted := PySem.W.mg_none_of KX G z_sorted
  have m_ValueError := PySem.W.mg_none_of KX G z_ValueError
  have j_MOST_LETTERS := PySem.W.mg_of KX G i_MOST_LETTERS
  have j_MOST_MARKS := PySem.W.mg_of KX G i_MOST_MARKS
  have j_MOST_READINGS := PySem.W.mg_of KX G i_MOST_READINGS
  have j_MOST_VALUE := PySem.W.mg_of KX G i_MOST_VALUE
  have BC : K0.BadC K Cn := ⟨⟨⟨_, _, _, _, _, _, _, _, _, _, _, _, _, _, _, o1, o2⟩, o3, o4, o5, o8⟩, o6, o7⟩
  have X : Errs K mg Cn Le Be Bs := ⟨BC, xc, xf, PySem.W.mg_of KX G yL, PySem.W.mg_of KX G yE, PySem.W.mg_of KX G yS, PySem.W.mg_of KX G yC, m_ValueError, eX, kE, kS', kC', kV'⟩
  refine ⟨PySem.W.fnOf "law" "law" (defArgs sLaw) (defBody sLaw) (defScope sLaw) .none kVL dcL pmL anL cdL ctL, [(cam, Pam), (cnm, Pnm), (car, Par), (crc, Prc)], spLaw K Pam Pnm Par Prc, fun p hp => ?_, fun s v => .of_eq rfl, fun H a ns _ _ hH hS => ⟨a, ns, rfl, hS, ⟨hH (cam, Pam) (by simp), hH (cnm, Pnm) (by simp), hH (car, Par) (by simp)⟩, hH (crc, Prc) (by simp), fun _ => rfl⟩, fun base _ _ hB => ?_⟩
  · simp only [List.mem_cons, List.not_mem_nil, or_false] at hp
    rcases hp with rfl | rfl | rfl | rfl
    · exact ⟨Tam.2, nam, Tam.1⟩
    · exact ⟨Tnm.2, nnm, Tnm.1⟩
    · exact ⟨Tar.2, nar, Tar.1⟩
    · exact ⟨Trc.2, nrc, Trc.1⟩
  · have tam := hB (cam, Pam) (by simp)
    have tnm := hB (cnm, Pnm) (by simp)
    have tar := hB (car, Par) (by simp)
    have trc := hB (crc, Prc) (by simp)
    have Ord := K0.ok_isReading (P := l.prog) (w := w) (base := base) m_isinstance m_int m_bool m_tuple m_len j_MOST_VALUE Fre Fro bro gro Fix bix gix Fwh bwh gwh Fva bva gva
    have Oar := K0.ok_areReadings m_isinstance m_tuple m_len m_all j_MOST_READINGS Far tar Ord kre bre gre
    have Onm := K0.ok_isName (P := l.prog) (w := w) m_isinstance m_str m_len m_all j_MOST_LETTERS Fnm tnm
    have Oam := K0.ok_areMarks m_isinstance m_tuple m_len m_all m_set j_MOST_MARKS Fam tam Onm knm bnm gnm
    have One := K0.ok_isNet m_len m_isinstance m_tuple Fne Fro bro gro Oam kam bam gam Oar kar bar gar
    have Orc := K0.ok_reached (P := l.prog) (w := w) m_range m_len m_tuple Frc trc Fnb bnb gnb Fno bno gno
    have Ojo := K0.ok_joined m_len Fjo Orc krc brc grc
    have Och := K0.ok_check Fch One kne bne gne Ojo kjo bjo gjo FI bI iC tI (PySem.W.mg_of KX G yC) BC
    have Otd := ok_told m_isinstance FT X Och kch bch gch
    exact ok_law ⟨m_len, m_int, m_range, m_tuple, m_list⟩ FL ⟨ok_digits m_len m_range m_int FDg FC bC gC, kDg, bDg, gDg⟩ ⟨ok_draw m_len m_int FD, kD, bD, gD⟩ ⟨ok_pick m_len m_int FP FD bD gD, kP, bP, gP⟩ ⟨ok_net m_len m_int m_range m_tuple FN FD bD gD FR bR gR FM bM gM, kN, bN, gN⟩ ⟨Otd, kT, bT, gT⟩ ⟨ok_badR FBr, kBr, bBr, gBr⟩ ⟨ok_badM m_list m_tuple m_range FBm, kBm, bBm, gBm⟩ ⟨ok_reachL m_range m_tuple m_sorted FRl, kRl, bRl, gRl⟩ ⟨Ojo, kjo, bjo, gjo⟩ ⟨Orc, krc, brc, grc⟩ (ok_same m_repr FS) kS bS gS
end L0
open PySem PySem.W PyProof.Rows
set_option maxHeartbeats 0 in
theorem PySem.Challenge.cw_truelevels_k00_nets_are_checked_holds : PySem.Challenge.rw_truelevels_k00_nets_are_checked.Holds := by
  w_on; o_law; k_head; (case hw => w_witness2)
  k_fill
  refine Gx.walkG (l := PySem.Challenge.rw_truelevels_k00_nets_are_checked) (n := 63) (k := 17) (x := "script") rfl (by decide) rfl ⟨rfl, by decide, by decide⟩ (fun w h Y => PySem.W.kIn_of Y) ?F
  case F =>
    intro w mg fa h KX G hmg HT
    refine' L0.lawK KX G hmg HT ?aL ?lL ?hL ?kL ?aDg ?lDg ?hDg ?kDg ?aC ?lC ?hC ?kC ?aD ?lD ?hD ?kD ?aP ?lP ?hP ?kP ?aS ?lS ?hS ?kS ?aM ?lM ?hM ?kM ?aR ?lR ?hR ?kR ?aN ?lN ?hN ?kN ?aT ?lT ?hT ?kT ?aBr ?lBr ?hBr ?kBr ?aBm ?lBm ?hBm ?kBm ?aRl ?lRl ?hRl ?kRl ?awh ?lwh ?hwh ?kwh ?aix ?lix ?hix ?kix ?aro ?lro ?hro ?kro ?ava ?lva ?hva ?kva ?are ?lre ?hre ?kre ?ane ?lne ?hne ?kne ?ajo ?ljo ?hjo ?kjo ?anb ?lnb ?hnb ?knb ?ano ?lno ?hno ?kno ?ach ?lch ?hch ?kch ?anm ?lnm ?hnm ?knm ?fnm_ ?lcnm ?vnm ?nnm ?aam ?lam ?ham ?kam ?fam_ ?lcam ?vam ?nam ?aar ?lar ?har ?kar ?far_ ?lcar ?var ?nar ?arc ?lrc ?hrc ?krc ?frc_ ?lcrc ?vrc ?nrc ?z_len ?z_int ?z_range ?z_tuple ?z_list ?z_isinstance ?z_bool ?z_str ?z_all ?z_set ?z_repr ?z_sorted ?z_ValueError ?i_MOST_LETTERS ?i_MOST_MARKS ?i_MOST_READINGS ?i_MOST_VALUE ?yC ?yL ?yE ?yS ?iC ?tI ?lI ?hI ?kI ?o1 ?o2 ?o3 ?o4 ?o5 ?o8 ?o6 ?o7 ?xc ?xf ?eX ?kE ?kS_ ?kC_ ?kV_
    (case aL => k_is)
    (case lL => k_is)
    (case hL => k_is)
    (case kL => k_is)
    (case aDg => k_is)
    (case lDg => k_is)
    (case hDg => k_is)
    (case kDg => k_is)
    (case aC => k_is)
    (case lC => k_is)
    (case hC => k_is)
    (case kC => k_is)
    (case aD => k_is)
    (case lD => k_is)
    (case hD => k_is)
    (case kD => k_is)
    (case aP => k_is)
    (case lP => k_is)
    (case hP => k_is)
    (case kP => k_is)
    (case aS => k_is)
    (case lS => k_is)
    (case hS => k_is)
    (case kS => k_is)
    (case aM => k_is)
    (case lM => k_is)
    (case hM => k_is)
    (case kM => k_is)
    (case aR => k_is)
    (case lR => k_is)
    (case hR => k_is)
    (case kR => k_is)
    (case aN => k_is)
    (case lN => k_is)
    (case hN => k_is)
    (case kN => k_is)
    (case aT => k_is)
    (case lT => k_is)
    (case hT => k_is)
    (case kT => k_is)
    (case aBr => k_is)
    (case lBr => k_is)
    (case hBr => k_is)
    (case kBr => k_is)
    (case aBm => k_is)
    (case lBm => k_is)
    (case hBm => k_is)
    (case kBm => k_is)
    (case aRl => k_is)
    (case lRl => k_is)
    (case hRl => k_is)
    (case kRl => k_is)
    (case awh => k_is)
    (case lwh => k_is)
    (case hwh => k_is)
    (case kwh => k_is)
    (case aix => k_is)
    (case lix => k_is)
    (case hix => k_is)
    (case kix => k_is)
    (case aro => k_is)
    (case lro => k_is)
    (case hro => k_is)
    (case kro => k_is)
    (case ava => k_is)
    (case lva => k_is)
    (case hva => k_is)
    (case kva => k_is)
    (case are => k_is)
    (case lre => k_is)
    (case hre => k_is)
    (case kre => k_is)
    (case ane => k_is)
    (case lne => k_is)
    (case hne => k_is)
    (case kne => k_is)
    (case ajo => k_is)
    (case ljo => k_is)
    (case hjo => k_is)
    (case kjo => k_is)
    (case anb => k_is)
    (case lnb => k_is)
    (case hnb => k_is)
    (case knb => k_is)
    (case ano => k_is)
    (case lno => k_is)
    (case hno => k_is)
    (case kno => k_is)
    (case ach => k_is)
    (case lch => k_is)
    (case hch => k_is)
    (case kch => k_is)
    (case anm => k_is)
    (case lnm => k_is)
    (case hnm => k_is)
    (case knm => k_is)
    (case fnm_ => rfl)
    (case lcnm => k_is)
    (case vnm => rfl)
    (case nnm => rfl)
    (case aam => k_is)
    (case lam => k_is)
    (case ham => k_is)
    (case kam => k_is)
    (case fam_ => rfl)
    (case lcam => k_is)
    (case vam => rfl)
    (case nam => rfl)
    (case aar => k_is)
    (case lar => k_is)
    (case har => k_is)
    (case kar => k_is)
    (case far_ => rfl)
    (case lcar => k_is)
    (case var => rfl)
    (case nar => rfl)
    (case arc => k_is)
    (case lrc => k_is)
    (case hrc => k_is)
    (case krc => k_is)
    (case frc_ => rfl)
    (case lcrc => k_is)
    (case vrc => rfl)
    (case nrc => rfl)
    (case z_len => k_is)
    (case z_int => k_is)
    (case z_range => k_is)
    (case z_tuple => k_is)
    (case z_list => k_is)
    (case z_isinstance => k_is)
    (case z_bool => k_is)
    (case z_str => k_is)
    (case z_all => k_is)
    (case z_set => k_is)
    (case z_repr => k_is)
    (case z_sorted => k_is)
    (case z_ValueError => k_is)
    (case i_MOST_LETTERS => k_is)
    (case i_MOST_MARKS => k_is)
    (case i_MOST_READINGS => k_is)
    (case i_MOST_VALUE => k_is)
    (case yC => k_is)
    (case yL => k_is)
    (case yE => k_is)
    (case yS => k_is)
    (case iC => k_is)
    (case tI => k_is)
    (case lI => k_is)
    (case hI => k_is)
    (case kI => k_is)
    (case o1 => k_is)
    (case o2 => decide +kernel)
    (case o3 => k_is)
    (case o4 => k_is)
    (case o5 => k_is)
    (case o8 => k_is)
    (case o6 => k_is)
    (case o7 => k_is)
    (case xc => (constructor <;> k_is))
    (case xf => (constructor <;> k_is))
    (case eX => kts_exm)
    (case kE => kit_is)
    (case kS_ => kit_is)
    (case kC_ => kit_is)
    (case kV_ => kit_is)
