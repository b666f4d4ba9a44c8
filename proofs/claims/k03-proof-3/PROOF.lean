import PyProof.Rows.All
import Wide.All
import OpenK.AllK
import Wide.FinOn
import HandS.GenList
import HandS.Comp
import HandS.AnyAll
import PyProof.CodeObjX
import PyProof.TupleOfGen
import HandS.ForMost
import HandS.EndBits
import KE.GoesMore
import KE.GoesEnum
import HandS.Zip
import HandS.TupAny
import HandS.Style
import PySem.Challenge.RW_truelevels_k03_flows_are_below
set_option Elab.async false
set_option linter.all false
set_option maxRecDepth 100000
set_option maxHeartbeats 4000000
/-! Generator expressions over the hand layer: the frame's context, its turns, its making. -/
namespace Gx
open PySem PySem.Spec PyProof.Rows L2 GenW

theorem over_gx {A : Around} {elt tg iter : Expr} {ifs : List Expr} {scope : Scope} {pos : Pos} {it acc : Value} {cenv : Env} : A.over (.compLoop (.GeneratorExp elt [⟨tg, iter, ifs, 0⟩] scope pos) 0 it acc cenv) [] = A.deeper cenv := by
  obtain ⟨hd, d, fr, gs, u⟩ := A; simp [Around.over, Around.deeper, marksOver, frameCount, unitsOf, envsOf, guardsOf, pushEnvs, pushGuards, Code.envs, Code.env?, Code.isFrame, Code.guards, Code.isGuard, Code.weight, Code.frames, Code.isCreation, Code.isCaller, Code.cUnits]
theorem over_gxs {A : Around} {elt tg iter : Expr} {ifs : List Expr} {scope : Scope} {pos : Pos} {it acc : Value} {cenv : Env} : A.over (.compStart (.GeneratorExp elt [⟨tg, iter, ifs, 0⟩] scope pos) 0 it acc cenv) [] = A.deeper cenv := by
  obtain ⟨hd, d, fr, gs, u⟩ := A; simp [Around.over, Around.deeper, marksOver, frameCount, unitsOf, envsOf, guardsOf, pushEnvs, pushGuards, Code.envs, Code.env?, Code.isFrame, Code.guards, Code.isGuard, Code.weight, Code.frames, Code.isCreation, Code.isCaller, Code.cUnits]

/-- the context of the frame: s the state ahead of it, fp its iterator's objects, pn the generator's own object -/
abbrev cx (X : Cx) (A : Around) (s : Shared) (H : Hp) (cenv : Env) (fp : List Addr) (pn : List (Addr × Obj)) : Cx :=
  { X with A := A.deeper cenv, s_0 := s, H_0 := H, env := cenv, outer := X.stack, stack := cenv :: X.stack, ex := fp, fn := fun _ => false, pn := pn, xe := fun _ _ => False }

section
variable {X : Cx} {pins : List (Addr × Obj)} {σ : L2.St} {H : Hp} {s : Shared}
theorem gstart {scope : Scope} {own : List (Str × Nat)} {fp : List Addr} {A : Around} {code : Value} {h5 : Heap} {g5 : Array GenState} {d5 : Drawn} {t5 : Nat} {m : Str → Option Value}
    (I : Inv X pins σ H s) (ok : BlkOk X.N X.env.scope scope own) (hN : X.N.Nodup) (hcell : ∀ y ∈ scope.names, y.2 ≠ .cell) (hfp : ∀ b ∈ fp, FpOk X pins H b ∧ b < s.heap.objs.size)
    (hA : A.handled = none) (hfr : A.frames = some X.stack) (hn : h5.Ns s.heap.objs.size m) (hk : ∀ b o, s.heap.get? b = some o → h5.get? b = some o) (hb : AllBare g5) :
    Inv (cx X A s H (genEnv scope (cloFrom X.env.cells scope.names []) s.heap.objs.size code builtinsNs X.env) fp []) [] (wipe σ (own.map (·.2))) H { s with heap := h5, gens := g5, drawn := d5, toks := t5 } := by
  have hfree : ∀ y ∈ scope.names, y.2 = .free → ∃ c, X.env.cells.lookup y.1 = some c := fun y hy e => by
    rcases ok.free y hy e with k | k
    · exact I.ok.has _ (.inl k)
    · exact I.ok.has _ (.inr k)
  have cm : ∀ {y c}, (y, c) ∈ cloFrom X.env.cells scope.names [] → X.env.cells.lookup y = some c ∧ c < s.heap.objs.size := fun {y c} hm => by
    rcases cloFrom_mem hm with hm | ⟨h1, rfl⟩
    · cases hm
    · obtain ⟨c, hc⟩ := hfree _ h1 rfl
      rw [hc]
      obtain ⟨w, z⟩ := I.cell _ _ hc
      exact ⟨rfl, z.lt⟩
  have look : ∀ {y}, scope.names.lookup y = some .free → ∃ c, (cloFrom X.env.cells scope.names []).lookup y = some c ∧ X.env.cells.lookup y = some c := fun {y} hl => by
    have hy : (y, NameKind.free) ∈ scope.names := PySem.mem_of_lookup hl
    obtain ⟨c', e'⟩ := mem_lookup (cloFrom_has (cells := X.env.cells) (acc := []) hy)
    exact ⟨c', e', (cm (PySem.mem_of_lookup e')).1⟩
  generalize hcenv : genEnv scope (cloFrom X.env.cells scope.names []) s.heap.objs.size code builtinsNs X.env = cenv
  have hL : cenv.locals = s.heap.objs.size := by rw [← hcenv]; rfl
  have hcl : cenv.cells = cloFrom X.env.cells scope.names [] := by rw [← hcenv]; rfl
  have hsc : cenv.scope = scope := by rw [← hcenv]; rfl
  have mem : ∀ {y c}, cenv.cells.lookup y = some c → X.env.cells.lookup y = some c ∧ c < s.heap.objs.size := fun {y c} e => by
    rw [hcl] at e
    exact cm (PySem.mem_of_lookup e)
  have nocell : ∀ {y}, scope.names.lookup y ≠ some .cell := fun {y} e => hcell _ (PySem.mem_of_lookup e) rfl
  have okB : (cx X A s H cenv fp []).Ok := by
    refine ⟨I.ok.mod, by show cenv.scope.kind = _; rw [hsc]; exact ok.kind, by show cenv.globals = _; rw [← hcenv]; exact I.ok.glob, by show cenv.builtins = _; rw [← hcenv]; rfl, by show s.heap.objs.size ≤ cenv.locals; rw [hL]; exact Nat.le_refl _,
      fun y z c e1 e2 => I.ok.inj y z c (mem e1).1 (mem e2).1, fun y hy => ?_, fun y c z e => Bool.noConfusion z, fun _ => hA, Around.frames_deeper hfr, .inr ⟨rfl, by show cenv.frame = some cenv.locals; rw [← hcenv]; rfl⟩, fun b hb => ⟨?_, fun y c e z => ?_⟩, I.bs, Nat.le_trans I.ok.bsz I.sz, fun b o e hb => ?_, fun b hb z => ?_, I.stack, I.stkFree⟩
    · show ∃ c, cenv.cells.lookup y = some c
      have hy : cenv.scope.names.lookup y = some .cell ∨ cenv.scope.names.lookup y = some .free := hy
      rw [hsc] at hy
      rcases hy with hy | hy
      · exact absurd hy nocell
      · obtain ⟨c, h1, _⟩ := look hy
        exact ⟨c, by rw [hcl]; exact h1⟩
    · show b ≠ cenv.locals
      rw [hL]; exact Nat.ne_of_lt (hfp b hb).2
    · exact (hfp b hb).1.2.2.2.2.1 y c (mem e).1 z
    · rcases (hfp b hb).1.2.2.2.1 with z | z
      · exact I.ok.noex b o e z
      · exact absurd (Nat.lt_of_lt_of_le (Heap.lt_size e) (Nat.le_trans I.ok.bsz z)) (Nat.lt_irrefl _)
    · rcases List.mem_cons.mp (I.stkSub b z) with z | z
      · exact (hfp b hb).1.2.1 z
      · exact (hfp b hb).1.2.2.1 z
  refine ⟨okB, rfl, hb, Un.kept hk, ⟨m, ?_, fun i y av e1 e2 e3 => ?_⟩, fun y c e => ?_, ?_, fun y c e => ?_, fun p hp => ?_, I.hok.kept hk, by rw [wipe_length]; exact I.len⟩
  · show Heap.Ns _ cenv.locals _
    rw [hL]
    exact hn
  · obtain ⟨e2, hne⟩ := wipe_some e2
    have e3 : Vis cenv.scope y := e3
    rw [hsc] at e3
    have no : ¬ (scope.names.lookup y = some .local ∨ scope.names.lookup y = some .cell) := fun hh => by
      obtain ⟨k, hk', hkk⟩ : ∃ k, (y, k) ∈ scope.names ∧ (k = NameKind.local ∨ k = NameKind.cell) := by
        rcases hh with hh | hh
        · exact ⟨_, PySem.mem_of_lookup hh, .inl rfl⟩
        · exact ⟨_, PySem.mem_of_lookup hh, .inr rfl⟩
      rcases ok.own (y, k) hk' hkk with e' | e'
      · obtain ⟨p, hp, hpy⟩ := List.mem_map.mp e'
        have e3 := ok.ix p hp
        have : p.1 = y := hpy
        rw [this] at e3
        exact hne (List.mem_map.mpr ⟨p, hp, nodup_ix hN e3 e1⟩)
      · exact e' (List.mem_of_getElem? e1)
    have hfr : scope.names.lookup y = some .free := by
      rcases e3 with e3 | e3 | e3
      · exact absurd (.inl e3) no
      · exact absurd (.inr e3) no
      · exact e3
    obtain ⟨m', hn', hl⟩ := I.loc
    have hvis : Vis X.env.scope y := (ok.free _ (PySem.mem_of_lookup hfr) rfl).elim (fun k => .inr (.inl k)) (fun k => .inr (.inr k))
    obtain ⟨w, r, q⟩ := hl i y av e1 e2 hvis
    refine ⟨w, r, .inr ⟨.inr (by show cenv.scope.names.lookup y = _; rw [hsc]; exact hfr), ?_⟩⟩
    obtain ⟨c, h1, h2⟩ := look hfr
    rcases q with ⟨k, _⟩ | ⟨_, c', e', z⟩
    · have k : X.env.scope.names.lookup y = some .local := k
      rcases ok.free _ (PySem.mem_of_lookup hfr) rfl with k' | k' <;> rw [show X.env.scope.names.lookup y = _ from k'] at k <;> cases k
    · rw [h2] at e'; cases e'
      exact ⟨c, by show cenv.cells.lookup y = _; rw [hcl]; exact h1, z.keeps hk⟩
  · have e : cenv.cells.lookup y = some c := e
    obtain ⟨w, z⟩ := I.cell y c (mem e).1
    exact ⟨w, z.keeps hk⟩
  · show H cenv.locals = none
    rw [hL]; exact I.hok.fresh (Nat.le_refl _)
  · have e : cenv.cells.lookup y = some c := e
    exact I.freeC y c (mem e).1
  · exact absurd (show p ∈ ([] : List (Addr × Obj)) ++ [] from hp) (by simp)
end

/-! ### the consumer's memory, the protocol -/
/-- CO: the addresses at which the consumer keeps its own; Rl: what is out, and how it stands there -/
abbrev Rel := List V → Shared → Prop
structure Stable (CO : List Addr) (Rl : Rel) : Prop where
  keep : ∀ ys s s', (∀ b ∈ CO, s'.heap.get? b = s.heap.get? b) → Rl ys s → Rl ys s'
/-- while the generator sleeps -/
structure Slept (CO : List Addr) (Rl : Rel) (ys : List V) (s s' : Shared) : Prop where
  os : s'.os = s.os
  bare : AllBare s'.gens
  keep : ∀ b o, b ∉ CO → s.heap.get? b = some o → s'.heap.get? b = some o
  own : ∀ b ∈ CO, ∃ o, s'.heap.get? b = some o ∧ ∀ v, o.data ≠ .cell v
  rel : Rl ys s'
/-- running -/
def GI (X' : Cx) (CO : List Addr) (σ : L2.St) (H : Hp) (s : Shared) : Prop := ∃ pins, pins.map (·.1) = CO ∧ Inv X' pins σ H s
structure Young (X' : Cx) (CO : List Addr) : Prop where
  sz : ∀ b ∈ CO, X'.s_0.heap.objs.size ≤ b
  loc : ∀ b ∈ CO, b ≠ X'.env.locals
  cell : ∀ b ∈ CO, ∀ x c, X'.env.cells.lookup x = some c → c ≠ b
  pn : ∀ b ∈ CO, ∀ p ∈ X'.pn, p.1 ≠ b
  ex : ∀ b ∈ CO, b ∉ X'.ex
theorem GI.free {X' : Cx} {CO : List Addr} {σ : L2.St} {H : Hp} {s : Shared} (h : GI X' CO σ H s) : ∀ b ∈ CO, H b = none ∧ ∃ o, s.heap.get? b = some o ∧ (∀ v, o.data ≠ .cell v) ∧ b ∉ X'.fs := fun b hb => by
  obtain ⟨pins, e, I⟩ := h
  rw [← e] at hb
  obtain ⟨p, hp, rfl⟩ := List.mem_map.mp hb
  obtain ⟨h1, h2, h3, h4, h5⟩ := I.pin p (List.mem_append_right _ hp)
  exact ⟨h2, p.2, h1, h5, h4⟩
/-- the pins at CO, as they stand -/
theorem pins_at {CO : List Addr} {s : Shared} (h : ∀ b ∈ CO, ∃ o, s.heap.get? b = some o ∧ ∀ v : Option Value, o.data ≠ .cell v) : ∃ pins : List (Addr × Obj), pins.map (·.1) = CO ∧ ∀ p ∈ pins, s.heap.get? p.1 = some p.2 ∧ ∀ v : Option Value, p.2.data ≠ .cell v := by
  induction CO with
  | nil => exact ⟨[], rfl, fun p hp => by cases hp⟩
  | cons b r ih =>
    obtain ⟨pins, e, hp⟩ := ih fun c hc => h c (List.mem_cons_of_mem _ hc)
    obtain ⟨o, h1, h2⟩ := h b List.mem_cons_self
    refine ⟨(b, o) :: pins, by rw [List.map_cons, e], fun p hp' => ?_⟩
    rcases List.mem_cons.mp hp' with rfl | hp'
    · exact ⟨h1, h2⟩
    · exact hp p hp'
theorem GI.make {X' : Cx} {CO : List Addr} {σ : L2.St} {H : Hp} {s : Shared} (I : Inv X' [] σ H s) (y : Young X' CO) (hf : ∀ b ∈ CO, H b = none ∧ b ∉ X'.fs) (h : ∀ b ∈ CO, ∃ o, s.heap.get? b = some o ∧ ∀ v : Option Value, o.data ≠ .cell v) : GI X' CO σ H s := by
  obtain ⟨pins, e, hp⟩ := pins_at h
  refine ⟨pins, e, I.pins_of fun p hp' => ?_⟩
  have hm : p.1 ∈ CO := by rw [← e]; exact List.mem_map.mpr ⟨p, hp', rfl⟩
  exact ⟨(hp p hp').1, (hf _ hm).1, y.loc _ hm, (hf _ hm).2, (hp p hp').2⟩
theorem GI.woken {X' : Cx} {CO : List Addr} {Rl : Rel} {ys : List V} {σ : L2.St} {H : Hp} {s s' : Shared} (y : Young X' CO) (h : GI X' CO σ H s) (z : Slept CO Rl ys s s') : GI X' CO σ H s' := by
  have hf := h.free
  obtain ⟨pins, e, I⟩ := h
  have I0 : Inv X' [] σ H s := I.pins_of fun p hp => by cases hp
  have nt : ∀ b u, H b = some u → b ∉ CO := fun b u q hb => by rw [(hf b hb).1] at q; cases q
  obtain ⟨z1, z2, z3, z4, _⟩ := z
  obtain ⟨hh, g, d, t, o⟩ := s'
  have ho : o = s.os := z1
  subst ho
  have J : Inv X' [] σ H { s with heap := hh, gens := g, drawn := d, toks := t } := by
    refine I0.step (g' := g) (t' := t) (d' := d) (ch := CO) (fun b hb => ⟨.inr (y.sz b hb), y.loc b hb, y.cell b hb, fun p hp => ?_⟩)
      (fun b ob _ _ hc q _ => z3 b ob hc q) (fun b ob _ _ hc q _ => ⟨ob.slots, z3 b ob hc q⟩) (fun _ _ _ _ n => n) (fun b ob hc q => ⟨ob, z3 b ob hc q⟩)
      (fun _ _ q => q) (fun _ _ _ q => q) (fun b ps q => ⟨#[], by rw [q]; simp⟩) (fun m hm => ?_) (fun b u q => ?_) z2
    · rcases List.mem_append.mp hp with hp | hp
      · exact y.pn b hb p hp
      · cases hp
    · obtain ⟨ob, es, ep, ho, r⟩ := hm
      exact ⟨ob, es, ep, z3 _ ob (fun hc => y.loc _ hc rfl) ho, r⟩
    · refine (I0.hok b u q).stay (fun c v hc y' => z3 c v ?_ y') (fun _ y => y) fun _ _ y => y
      rcases hc with y' | y'
      · rw [y']; exact nt b u q
      · exact nt c _ y'
  exact GI.make J y (fun b hb => ⟨(hf b hb).1, let ⟨_, _, _, h⟩ := hf b hb; h.2⟩) z4

/-- the state behind what ran so far, by the caller's data -/
structure Aw (X : Cx) (sc : Shared) (fp : List Addr) (H1 : Hp) (a : Addr) (g : Nat) (CO : List Addr) (H' : Hp) (s : Shared) : Prop where
  os : s.os = sc.os
  bare : AllBare s.gens
  un : Un (frs X.stack) fp H1 H' sc.heap s.heap
  hok : HOk X.prog X.w H' s.heap
  lim : s.heap.NoLimit
  gen : s.heap.IsGen a g
  free : ∀ b ∈ CO, H' b = none
  own : ∀ b ∈ CO, ∃ o, s.heap.get? b = some o ∧ ∀ v, o.data ≠ .cell v
/-- what a consumer asks: of an item that is out, behind which it goes on if go; at the end -/
structure GK where
  mid : List V → V → Hp → Prop
  go : V → Prop
  done : List V → Hp → Prop
def GFin (X : Cx) (sc : Shared) (fp : List Addr) (H1 : Hp) (a : Addr) (g : Nat) (CO : List Addr) (Rl : Rel) (N : Nat) (K : GK) (n : Nat) (s₀ s1 : Shared) : Prop :=
  (∀ b ∈ CO, s1.heap.get? b = s₀.heap.get? b) ∧ ∃ ys H', n + ys.length = N ∧ Aw X sc fp H1 a g CO H' s1 ∧ Rl ys s1 ∧ K.done ys H'
def GEnd (X : Cx) (sc : Shared) (fp : List Addr) (H1 : Hp) (a : Addr) (g : Nat) (CO : List Addr) (Rl : Rel) (N : Nat) (K : GK) : GenEnd := fun n s₀ r s1 =>
  ((r = .ok (.ret .none) ∨ r = .ok .next) ∧ GFin X sc fp H1 a g CO Rl N K n s₀ s1) ∨ ∃ e, r = .error e ∧ False
def GItem (X : Cx) (sc : Shared) (fp : List Addr) (H1 : Hp) (a : Addr) (g : Nat) (CO : List Addr) (Rl : Rel) (N : Nat) (K : GK) : Protocol := fun n s₀ v s1 kap =>
  (∀ b ∈ CO, s1.heap.get? b = s₀.heap.get? b) ∧ ∃ ys x H', n + 1 + ys.length = N ∧ RelV x v ∧ Aw X sc fp H1 a g CO H' s1 ∧ Rl ys s1 ∧ K.mid ys x H' ∧ (K.go x → ∀ s', Slept CO Rl (ys ++ [x]) s1 s' → kap (.send .none) s')
end Gx

set_option maxRecDepth 100000
set_option maxHeartbeats 4000000
namespace Gx
open PySem PySem.Spec PyProof.Rows L2 GenW

/-- a turn's reading -/
def Turns (J : It) (g : TG) (tt : TT) (te : TE) (vs : List Nat) (σ : L2.St) (K : GK) (W : Nat → Nat → List V → Hp → Prop) : Prop :=
  ∀ i m ys H, W i m ys H → (J.stop i H ∧ K.done ys H) ∨ (J.go i H ∧ 0 < m ∧ ∃ Nx : List V → Hp → Prop, (∀ ys' H', Nx ys' H' → ∃ m', m' < m ∧ W (i + 1) m' ys' H') ∧
    ∀ x H', J.yld i H x H' → g x (wipe σ vs) H' fun σ2 H2 => wipe σ2 vs = wipe σ vs ∧ tt σ2 H2 fun b H3 =>
      if b = true then te σ2 H3 fun y H4 => K.mid ys y H4 ∧ (K.go y → Nx (ys ++ [y]) H4) else Nx ys H3)

section
variable {X' : Cx} {A : Around} {elt tg iter : Expr} {ifs : List Expr} {scope : Scope} {pos : Pos} {it : Addr} {fp : List Addr} {tn : Nat → Heap → Prop} {J : It} {g : TG} {tt : TT} {te : TE} {vs : List Nat} {σ : L2.St} {CO : List Addr} {Rl : Rel} {N : Nat} {K : GK}
  {W : Nat → Nat → List V → Hp → Prop} {R : GenEnd} {Y : Protocol}

theorem loop (hA : X'.A = A.deeper X'.env) (hxe : X'.xe = fun _ _ => False) (hc : X'.calm = true) (hex : X'.ex = fp) (hco : X'.env.scope.isCoroutine = false) (y : Young X' CO) (hpn : ∀ b ∈ fp, ∀ p ∈ X'.pn, p.1 ≠ b)
    (T : Turn X'.prog X'.w X'.K tg J fp it tn) (pg : PG X' tg g) (pt : PTs X' ifs tt) (pe : PE X' elt te) (hst : Stable CO Rl) (turn : Turns J g tt te vs σ K W)
    (hR : ∀ n s₀ s ys H, (∀ b ∈ CO, s.heap.get? b = s₀.heap.get? b) → n + ys.length = N → GI X' CO (wipe σ vs) H s → Rl ys s → K.done ys H → R n s₀ (.ok .next) s)
    (hY : ∀ n s₀ v s kap ys x σ' H, (∀ b ∈ CO, s.heap.get? b = s₀.heap.get? b) → n + 1 + ys.length = N → RelV x v → GI X' CO σ' H s → Rl ys s → K.mid ys x H → (K.go x → ∀ s', Slept CO Rl (ys ++ [x]) s s' → kap (.send .none) s') → Y n s₀ v s kap) :
    ∀ (m n i : Nat) (ys : List V) (s₀ s : Shared) (H : Hp), (∀ b ∈ CO, s.heap.get? b = s₀.heap.get? b) → n + ys.length = N → m ≤ n → GI X' CO (wipe σ vs) H s → Rl ys s → tn i s.heap → (∀ b ∈ fp, H b = none) → W i m ys H →
      Seg (model X'.prog X'.w) A R Y n s₀ (.compLoop (.GeneratorExp elt [⟨tg, iter, ifs, 0⟩] scope pos) 0 (.ref it) .none X'.env) ((model X'.prog X'.w).den (.compLoop (.GeneratorExp elt [⟨tg, iter, ifs, 0⟩] scope pos) 0 (.ref it) .none X'.env)) [] s := by
  have hov : A.over (.compLoop (.GeneratorExp elt [⟨tg, iter, ifs, 0⟩] scope pos) 0 (.ref it) .none X'.env) [] = X'.A := over_gx.trans hA.symm
  have nox : ∀ {e : Value} {s : Shared}, X'.xe e s → False := fun {e s} h => by rw [hxe] at h; exact h
  intro m
  induction m using Nat.strongRecOn with
  | ind m ih =>
    intro n i ys s₀ s H h00 hn hmn hI hRl htn hfp w
    obtain ⟨pins, ep, I⟩ := hI
    have pinCO : ∀ b ∈ CO, ∃ o, (b, o) ∈ pins := fun b hb => by
      rw [← ep] at hb
      obtain ⟨p, hp, rfl⟩ := List.mem_map.mp hb
      exact ⟨p.2, hp⟩
    have fpok : ∀ {σ' : L2.St} {H' : Hp} {s' : Shared}, Inv X' pins σ' H' s' → (∀ b ∈ fp, H' b = none) → ∀ b ∈ fp, FpOk X' pins H' b := fun {σ' H' s'} I' hn b hb => by
      have hb' : b ∈ X'.ex := by rw [hex]; exact hb
      refine ⟨hn b hb, (I'.ok.exf b hb').1, I'.ok.exfs b hb', .inl hb', fun x c e => (I'.ok.exf b hb').2 x c e, fun p hp => ?_⟩
      rcases List.mem_append.mp hp with hp | hp
      · exact hpn b hb p hp
      · have hm : p.1 ∈ CO := by rw [← ep]; exact List.mem_map.mpr ⟨p, hp, rfl⟩
        exact fun z => y.ex _ hm (by rw [hex, z]; exact hb)
    have keepCO : ∀ {σ' : L2.St} {H' : Hp} {s' : Shared} {more : List (Addr × Obj)}, Inv X' (pins ++ more) σ' H' s' → ∀ b ∈ CO, s'.heap.get? b = s.heap.get? b := fun {σ' H' s' more} I' b hb => by
      obtain ⟨o, ho⟩ := pinCO b hb
      exact (I'.pin (b, o) (List.mem_append_right _ (List.mem_append_left _ ho))).1.trans (I.pin (b, o) (List.mem_append_right _ ho)).1.symm
    have back : ∀ {σ' : L2.St} {H' : Hp} {s' : Shared} {more : List (Addr × Obj)}, Inv X' (pins ++ more) σ' H' s' → GI X' CO σ' H' s' := fun {σ' H' s' more} I' => ⟨pins, ep, I'.unpinned⟩
    show Seg _ A _ _ _ s₀ _ ((compTurn (.GeneratorExp elt [⟨tg, iter, ifs, 0⟩] scope pos) 0 (.ref it) .none X'.env).onRaise (leaving X'.env)) [] s
    rw [compTurn_gen, Sem.onRaise_eq_wrap]
    refine seg_bind_wrap (wpAny_standAt ?_)
    rcases turn i m ys H w with ⟨stop, dn⟩ | ⟨go, hm0, Nx, hNx, step⟩
    · refine seg_bind_wrap ?_
      rw [hov]
      refine wpAny_mono (T.done X' rfl rfl rfl hc i pins s _ H _ I (fpok I hfp) htn stop) (fun r s1 ⟨hr, I1⟩ => ?_) fun _ _ h => h
      subst hr
      exact seg_end (.ok .next) (hR n s₀ s1 ys H (fun b hb => (keepCO (more := []) (by rw [List.append_nil]; exact I1) b hb).trans (h00 b hb)) hn ⟨pins, ep, I1⟩ (hst.keep ys s s1 (fun b hb => keepCO (more := []) (by rw [List.append_nil]; exact I1) b hb) hRl) dn)
    · refine seg_bind_wrap ?_
      rw [hov]
      refine wpAny_mono (T.item X' rfl rfl rfl hc i pins s _ H _ I (fpok I hfp) htn go) (fun r s1 ⟨u, hr, h1⟩ => ?_) fun _ _ h => h
      subst hr
      dsimp only
      refine seg_bind_wrap ?_
      rw [hov]
      refine wpAny_mono h1 (fun _ s2 ⟨x, H2, I2, r2, y2, tn2, fp2⟩ => ?_) fun _ _ h => h
      have I2' := I2.pinned (fpok I2 fp2) (T.obj _ _ tn2)
      refine seg_bind_wrap ?_
      rw [hov]
      refine wpAny_mono (pg.run _ s2 _ H2 x u _ I2' r2 (step x H2 y2)) (fun _ s3 ⟨σ3, H3, I3, hw3, q3⟩ => ?_) fun _ _ h => (nox h).elim
      refine seg_bind_wrap ?_
      rw [hov]
      refine wpAny_mono (pt.run _ s3 σ3 H3 _ I3 q3) (fun b s4 ⟨H4, I4, q4⟩ => ?_) fun _ _ h => (nox h).elim
      have hl : (wipe σ vs).length = σ3.length := by rw [← hw3, wipe_length]
      have weak : ∀ {H' : Hp} {s' : Shared}, GI X' CO σ3 H' s' → GI X' CO (wipe σ vs) H' s' := fun {H' s'} hG => by
        obtain ⟨pins', e', I'⟩ := hG
        refine ⟨pins', e', I'.weak hl fun j v e => ?_⟩
        rw [← hw3] at e
        exact (wipe_some e).1
      have pin' : ∀ {H' : Hp} {s' : Shared}, Inv X' (pins ++ pinsAt fp s2.heap) σ3 H' s' → ∀ b ∈ fp, ∀ o, s2.heap.get? b = some o → s'.heap.get? b = some o ∧ H' b = none := fun {H' s'} I' b hb o e =>
        let z := I'.pin (b, o) (List.mem_append_right _ (List.mem_append_right _ (mem_pinsAt hb e)))
        ⟨z.1, z.2.1⟩
      have tnk : ∀ {H' : Hp} {s' : Shared}, Inv X' (pins ++ pinsAt fp s2.heap) σ3 H' s' → tn (i + 1) s'.heap := fun {H' s'} I' => T.keep _ _ _ tn2 fun b hb o e => (pin' I' b hb o e).1
      have fpn : ∀ {H' : Hp} {s' : Shared}, Inv X' (pins ++ pinsAt fp s2.heap) σ3 H' s' → ∀ b ∈ fp, H' b = none := fun {H' s'} I' b hb => by
        obtain ⟨o, e, _⟩ := T.obj _ _ tn2 b hb
        exact (pin' I' b hb o e).2
      cases b with
      | false =>
        simp only [Bool.false_eq_true, if_false] at q4 ⊢
        obtain ⟨m', hm', w'⟩ := hNx ys H4 q4
        exact seg_again rfl (ih m' hm' n (i + 1) ys s₀ s4 H4 (fun b hb => (keepCO I4 b hb).trans (h00 b hb)) hn (by omega) (weak (back I4)) (hst.keep ys s s4 (keepCO I4) hRl) (tnk I4) (fpn I4) w')
      | true =>
        simp only [if_true] at q4 ⊢
        have hyo : ∀ v, yieldOut X'.env v = yieldValue v := fun v => by simp only [yieldOut, hco, Bool.false_eq_true, if_false]
        simp only [hyo]
        rw [Sem.bind_eq_wrap', Sem.bind_eq_wrap', Sem.wrap_wrap, Sem.wrap_wrap]
        refine seg_wrap ?_
        rw [hov]
        refine wpAny_mono (pe.run _ s4 σ3 H4 _ I4 q4) (fun v s5 ⟨yv, H5, I5, r5, md, hgo⟩ => ?_) fun _ _ h => (nox h).elim
        have Rl5 : Rl ys s5 := hst.keep ys s s5 (keepCO I5) hRl
        obtain ⟨n', rfl⟩ : ∃ k, n = k + 1 := ⟨n - 1, by omega⟩
        refine seg_at (seg_yield rfl rfl rfl (hY n' s₀ v s5 _ ys yv σ3 H5 (fun b hb => (keepCO I5 b hb).trans (h00 b hb)) hn r5 (back I5) Rl5 md fun hg s' z => ?_))
        obtain ⟨m', hm', w'⟩ := hNx (ys ++ [yv]) H5 (hgo hg)
        have G' := (back I5).woken y z
        have kb : ∀ b ∈ fp, ∀ o, s5.heap.get? b = some o → s'.heap.get? b = some o := fun b hb o e => z.keep b o (fun hC => y.ex b hC (by rw [hex]; exact hb)) e
        exact seg_again rfl (ih m' hm' n' (i + 1) (ys ++ [yv]) s' s' H5 (fun _ _ => rfl) (by rw [List.length_append, List.length_singleton]; omega) (by omega) (weak G') z.rel (T.keep _ _ _ (tnk I5) kb) (fpn I5) w')
end
end Gx

set_option maxRecDepth 100000
set_option maxHeartbeats 4000000
namespace Gx
open PySem PySem.Spec PyProof.Rows L2 GenW

/-- what the expression gives: a generator that has not begun -/
def Made (X : Cx) (k : Nat) (H1 : Hp) (sc : Shared) (fp : List Addr) (K : GK) (u : Value) (s' : Shared) : Prop :=
  ∃ (a : Addr) (g : Nat) (c : Code) (N : Nat), u = .ref a ∧ sc.heap.objs.size ≤ a ∧ a < s'.heap.objs.size ∧ s'.heap.IsGen a g ∧ s'.gens[g]? = some (.fresh c) ∧ s'.os = sc.os ∧ AllBare s'.gens ∧ s'.heap.NoLimit ∧ (∀ b o, sc.heap.get? b = some o → s'.heap.get? b = some o) ∧
    ∀ (A : Around) (CO : List Addr) (Rl : Rel) (s2 : Shared), Room k A → A.frames = some X.stack → (∀ b ∈ CO, s'.heap.objs.size ≤ b) → Stable CO Rl → (∀ b o, s'.heap.get? b = some o → s2.heap.get? b = some o) → (∀ b ∈ CO, ∃ o, s2.heap.get? b = some o ∧ ∀ v, o.data ≠ .cell v) →
      s2.os = s'.os → AllBare s2.gens → Rl [] s2 → Seg (model X.prog X.w) A (GEnd X sc fp H1 a g CO Rl N K) (GItem X sc fp H1 a g CO Rl N K) N s2 c ((model X.prog X.w).den c) [] s2

abbrev TGS := L2.St → Hp → GK → Prop
structure PSrc (X : Cx) (k : Nat) (e : Expr) (tg : TGS) : Prop where
  run : ∀ (pins : List (Addr × Obj)) (s : Shared) (σ : L2.St) (H : Hp) (K : GK), Inv X pins σ H s → tg σ H K → wpAny (model X.prog X.w) X.A (eval e X.env)
    (fun u s' => ∃ H1 sc fp, Inv X pins σ H1 sc ∧ ExOk X pins fp ∧ Made X k H1 sc fp K u s') X.xe s

/-- the reading: the walked thing, the table grown, the turns -/
def tGx (P : Addr) (wi : TI) (g : TG) (tt : TT) (te : TE) (vs : List Nat) : TGS := fun σ H K => wi σ H fun J H1 => GxR.TabG H1 P ∧ ∀ H2, GxR.Tabbed P H1 H2 →
  ∃ W : Nat → Nat → List V → Hp → Prop, (∃ m, W 0 m [] H2) ∧ Turns J g tt te vs σ K W

section
variable {X : Cx} {k : Nat} {c P : Addr} {elt tg iter : Expr} {ifs : List Expr} {scope : Scope} {own : List (Str × Nat)} {pos : Pos} {wi : TI} {g : TG} {tt : TT} {te : TE}

theorem start_code {M : Model} {A : Around} {R : GenEnd} {Y : Protocol} {n : Nat} {s₀ s : Shared} {it : Addr} {cenv : Env}
    (hself : wpAny M (A.deeper cenv) (pyIter (.ref it)) (fun it' s' => it' = .ref it ∧ s' = s) (fun _ _ => False) s)
    (hden : M.den (.compStart (.GeneratorExp elt [⟨tg, iter, ifs, 0⟩] scope pos) 0 (.ref it) .none cenv) = (compStart (.GeneratorExp elt [⟨tg, iter, ifs, 0⟩] scope pos) 0 (.ref it) .none cenv).onRaise (leaving cenv))
    (lp : Seg M A R Y n s₀ (.compLoop (.GeneratorExp elt [⟨tg, iter, ifs, 0⟩] scope pos) 0 (.ref it) .none cenv) (M.den (.compLoop (.GeneratorExp elt [⟨tg, iter, ifs, 0⟩] scope pos) 0 (.ref it) .none cenv)) [] s) :
    Seg M A R Y n s₀ (.compStart (.GeneratorExp elt [⟨tg, iter, ifs, 0⟩] scope pos) 0 (.ref it) .none cenv) (M.den (.compStart (.GeneratorExp elt [⟨tg, iter, ifs, 0⟩] scope pos) 0 (.ref it) .none cenv)) [] s := by
  have sf : ∀ (Q : Value → Shared → Prop) (E : Value → Shared → Prop), Q (.ref it) s → wpAny M (A.over (.compStart (.GeneratorExp elt [⟨tg, iter, ifs, 0⟩] scope pos) 0 (.ref it) .none cenv) []) (pyIter (.ref it)) Q E s := fun Q E hQ => by
    rw [over_gxs]
    exact wpAny_mono hself (fun u s' ⟨e1, e2⟩ => by subst e1 e2; exact hQ) fun _ _ h => h.elim
  rw [hden]
  unfold compStart
  rw [Sem.onRaise_eq_wrap]
  show Seg _ A _ _ _ s₀ _ ((ask >>= _).wrap _ _ _ _) [] s
  refine seg_bind_wrap (wpAny_askSetting ?_)
  split
  · exact seg_again rfl lp
  · first
      | exact seg_bind_wrap (wpAny_rule (seg_bind_wrap (wpAny_standAt (seg_bind_wrap (sf _ _ (seg_again rfl lp))))))
      | (refine seg_bind_wrap (wpAny_rule ?_); show Seg _ A _ _ _ s₀ _ ((standAt iter.pos >>= _).wrap _ _ _ _) [] s; exact seg_bind_wrap (wpAny_standAt (seg_bind_wrap (sf _ _ (seg_again rfl lp)))))
end
end Gx

set_option maxRecDepth 100000
set_option maxHeartbeats 4000000
namespace Gx
open PySem PySem.Spec PyProof.Rows L2 GenW

theorem pinned {X : Cx} {A : Around} {sc s : Shared} {H H' : Hp} {cenv : Env} {fp : List Addr} {pn : List (Addr × Obj)} {σ : L2.St} (I : Inv (cx X A sc H cenv fp []) [] σ H' s)
    (h : ∀ p ∈ pn, s.heap.get? p.1 = some p.2 ∧ H' p.1 = none ∧ p.1 ≠ cenv.locals ∧ p.1 ∉ frs X.stack ∧ ∀ v, p.2.data ≠ .cell v) : Inv (cx X A sc H cenv fp pn) [] σ H' s :=
  ⟨⟨I.ok.mod, I.ok.kind, I.ok.glob, I.ok.blt, I.ok.above, I.ok.inj, I.ok.has, I.ok.cab, I.ok.hd, I.ok.frames, I.ok.stk, I.ok.exf, I.ok.bs, I.ok.bsz, I.ok.noex, I.ok.exfs, I.ok.funs, I.ok.frf⟩, I.os, I.bare, I.base, I.loc, I.cell, I.free, I.freeC,
    fun p hp => h p (by simpa using hp), I.hok, I.len⟩

section
variable {X : Cx} {k : Nat} {c P : Addr} {elt tg iter : Expr} {ifs : List Expr} {scope : Scope} {own : List (Str × Nat)} {pos : Pos} {wi : TI} {g : TG} {tt : TT} {te : TE}

theorem made {pins : List (Addr × Obj)} {σ : L2.St} {H2 : Hp} {sc : Shared} {fp : List Addr} {tn : Nat → Heap → Prop} {J : It} {K : GK} {W : Nat → Nat → List V → Hp → Prop} {it : Addr} {code : Value} {h' : Heap} {m0 : Nat} {mm : Str → Option Value} {tk : Nat} {nm qn : Value}
    (hc : X.calm = true) (hN : X.N.Nodup) (ok : BlkOk X.N X.env.scope scope own) (hcell : ∀ y ∈ scope.names, y.2 ≠ .cell) (hco : scope.isCoroutine = false)
    (hg : ∀ (A : Around) (s : Shared) (H : Hp) (C : Addr) (cl : List (Str × Addr)) (cd : Value) (fp : List Addr) (pn : List (Addr × Obj)), PG (cx X A s H (genEnv scope cl C cd builtinsNs X.env) fp pn) tg g)
    (ht : ∀ (A : Around) (s : Shared) (H : Hp) (C : Addr) (cl : List (Str × Addr)) (cd : Value) (fp : List Addr) (pn : List (Addr × Obj)), Room k (A.deeper (genEnv scope cl C cd builtinsNs X.env)) → PTs (cx X A s H (genEnv scope cl C cd builtinsNs X.env) fp pn) ifs tt)
    (he : ∀ (A : Around) (s : Shared) (H : Hp) (C : Addr) (cl : List (Str × Addr)) (cd : Value) (fp : List Addr) (pn : List (Addr × Obj)), Room k (A.deeper (genEnv scope cl C cd builtinsNs X.env)) → PE (cx X A s H (genEnv scope cl C cd builtinsNs X.env) fp pn) elt te)
    (I : Inv X pins σ H2 sc) (T : Turn X.prog X.w X.K tg J fp it tn) (htn : tn 0 sc.heap) (hfp : ∀ b ∈ fp, FpOk X pins H2 b) (w0 : W 0 m0 [] H2) (turn : Turns J g tt te (own.map (·.2)) σ K W)
    (hn : h'.Ns sc.heap.objs.size mm) (hs : Heap.SameBut sc.heap.objs.size (sc.heap.push { cls := .type "frame", data := .dict #[] }) h') :
    Made X (k + 1) H2 sc fp K (.ref h'.objs.size) { sc with gens := sc.gens.push (.fresh (.compStart (.GeneratorExp elt [⟨tg, iter, ifs, 0⟩] scope pos) 0 (.ref it) .none (genEnv scope (cloFrom X.env.cells scope.names []) sc.heap.objs.size code builtinsNs X.env))), toks := tk, heap := h'.push { cls := .type "generator", data := .fields #[.int sc.gens.size 0, nm, qn] } } := by
  generalize hcl : cloFrom X.env.cells scope.names [] = cl
  have sz' : h'.objs.size = sc.heap.objs.size + 1 := by rw [hs.1, Heap.size_push]
  have keep' : ∀ b o, sc.heap.get? b = some o → h'.get? b = some o := fun b o e => hs.extBut b o (Nat.ne_of_lt (Heap.lt_size e)) (Heap.get?_push_of_some _ e)
  generalize hgo : ({ cls := .type "generator", data := .fields #[.int sc.gens.size 0, nm, qn] } : Obj) = go
  have hpush : (h'.push go).get? h'.objs.size = some go := Heap.get?_push_size _ (by rw [← hgo]; rfl)
  have keep5 : ∀ b o, sc.heap.get? b = some o → (h'.push go).get? b = some o := fun b o e => Heap.get?_push_of_some _ (keep' b o e)
  have hgen : ∀ h : Heap, h.get? h'.objs.size = some go → h.IsGen h'.objs.size sc.gens.size := fun h e => ⟨go, nm, qn, e, by rw [← hgo], by rw [← hgo], by rw [← hgo]⟩
  have sz5 : (h'.push go).objs.size = sc.heap.objs.size + 2 := by rw [Heap.size_push, sz']
  have lim5 : (h'.push go).NoLimit := I.nolimit.keeps keep5
  have hgd : ∀ v, go.data ≠ .cell v := fun v q => by rw [← hgo] at q; cases q
  have fplt : ∀ b ∈ fp, b < sc.heap.objs.size := fun b hb => by
    obtain ⟨o, e, _⟩ := T.obj _ _ htn b hb
    exact Heap.lt_size e
  refine ⟨h'.objs.size, sc.gens.size, _, m0, rfl, by omega, by show _ < (h'.push go).objs.size; omega, hgen _ hpush, Array.getElem?_push_size .., rfl, AllBare.push I.bare rfl, lim5, keep5, ?_⟩
  intro A CO Rl s2 hr hfr hCO hst hk2 hown hos hba hRl
  have hCO : ∀ b ∈ CO, sc.heap.objs.size + 2 ≤ b := fun b hb => by
    have q : (h'.push go).objs.size ≤ b := hCO b hb
    rw [sz5] at q; exact q
  have I1 := gstart (A := A) (code := code) (g5 := sc.gens.push (.fresh (.compStart (.GeneratorExp elt [⟨tg, iter, ifs, 0⟩] scope pos) 0 (.ref it) .none (genEnv scope cl sc.heap.objs.size code builtinsNs X.env)))) (d5 := sc.drawn) (t5 := tk) I ok hN hcell (fun b hb => ⟨hfp b hb, fplt b hb⟩) hr.hd hfr (hn.push go) keep5 (AllBare.push I.bare rfl)
  rw [hcl] at I1
  have I2 : Inv (cx X A sc H2 (genEnv scope cl sc.heap.objs.size code builtinsNs X.env) fp []) [] (wipe σ (own.map (·.2))) H2 s2 :=
    I1.call' (ch := []) hos (Un.kept hk2) (I1.hok.kept hk2) hba fun b z => by cases z
  have young : ∀ b, sc.heap.objs.size + 1 ≤ b → H2 b = none ∧ b ≠ sc.heap.objs.size ∧ b ∉ frs X.stack := fun b hb => by
    refine ⟨I.hok.fresh (Nat.le_of_succ_le hb), Nat.ne_of_gt hb, fun z => ?_⟩
    rcases List.mem_cons.mp (I.stkSub b z) with z | z
    · have := I.lt
      rw [← z] at this
      exact absurd (Nat.lt_of_lt_of_le this (Nat.le_of_succ_le hb)) (Nat.lt_irrefl _)
    · exact I.nofs (Nat.le_of_succ_le hb) z
  have I3 : Inv (cx X A sc H2 (genEnv scope cl sc.heap.objs.size code builtinsNs X.env) fp [(h'.objs.size, go)]) [] (wipe σ (own.map (·.2))) H2 s2 := by
    refine pinned I2 fun p hp => ?_
    rw [List.mem_singleton.mp hp]
    obtain ⟨y1, y2, y3⟩ := young h'.objs.size (by omega)
    exact ⟨hk2 _ _ hpush, y1, y2, y3, hgd⟩
  have yg : Young (cx X A sc H2 (genEnv scope cl sc.heap.objs.size code builtinsNs X.env) fp [(h'.objs.size, go)]) CO := by
    refine ⟨fun b hb => ?_, fun b hb => ?_, fun b hb x cc e z => ?_, fun b hb p hp z => ?_, fun b hb z => ?_⟩
    · have := hCO b hb; show sc.heap.objs.size ≤ b; omega
    · have := hCO b hb; exact Nat.ne_of_gt (show sc.heap.objs.size < b by omega)
    · obtain ⟨v, q⟩ := I1.cell x cc e
      have e2 : cl.lookup x = some cc := e
      rw [← hcl] at e2
      have q2 : cc < sc.heap.objs.size := by
        rcases cloFrom_mem (PySem.mem_of_lookup e2) with hm | ⟨h1, h2⟩
        · cases hm
        · have hfree : ∃ c, X.env.cells.lookup x = some c := by
            rcases ok.free _ h1 rfl with k | k
            · exact I.ok.has _ (.inl k)
            · exact I.ok.has _ (.inr k)
          obtain ⟨c2, hc2⟩ := hfree
          rw [hc2] at h2
          obtain ⟨w2, z2⟩ := I.cell _ _ hc2
          have := z2.lt
          rw [h2]; exact this
      have h9 := hCO b hb
      rw [z] at q2
      exact absurd (Nat.lt_of_lt_of_le q2 (Nat.le_trans (Nat.le_add_right _ 2) h9)) (Nat.lt_irrefl _)
    · rw [List.mem_singleton.mp hp] at z
      have := hCO b hb
      have z : (h'.objs.size : Nat) = b := z
      omega
    · exact absurd (Nat.lt_of_lt_of_le (fplt b z) (Nat.le_trans (Nat.le_add_right _ 2) (hCO b hb))) (Nat.lt_irrefl _)
  have G0 := GI.make I3 yg (fun b hb => let y := young b (by have := hCO b hb; omega); ⟨y.1, y.2.2⟩) hown
  have hdp : Room k (A.deeper (genEnv scope cl sc.heap.objs.size code builtinsNs X.env)) := hr.deeper _
  have aw : ∀ {σ' : L2.St} {H : Hp} {s : Shared}, GI (cx X A sc H2 (genEnv scope cl sc.heap.objs.size code builtinsNs X.env) fp [(h'.objs.size, go)]) CO σ' H s → Aw X sc fp H2 h'.objs.size sc.gens.size CO H s := fun {σ' H s} G => by
    have hf := G.free
    obtain ⟨pp, _, J⟩ := G
    exact ⟨J.os, J.bare, J.base, J.hok, J.nolimit, hgen _ (J.pin (h'.objs.size, go) (List.mem_append_left _ (List.mem_singleton.mpr rfl))).1, fun b hb => (hf b hb).1, fun b hb => let ⟨_, o, q1, q2, _⟩ := hf b hb; ⟨o, q1, q2⟩⟩
  have tn2 : tn 0 s2.heap := T.keep _ _ _ htn fun b _ o e => hk2 _ _ (keep5 b o e)
  refine start_code ?_ rfl ?_
  · exact T.self _ 0 s2 _ _ tn2 ⟨rfl, rfl⟩
  · refine loop (X' := cx X A sc H2 (genEnv scope cl sc.heap.objs.size code builtinsNs X.env) fp [(h'.objs.size, go)]) (fp := fp) (CO := CO) (Rl := Rl) (N := m0) (K := K) (σ := σ) (vs := own.map (·.2)) rfl rfl hc rfl hco yg (fun b hb p hp z => ?_) T (hg ..) (ht _ _ _ _ _ _ _ _ hdp) (he _ _ _ _ _ _ _ _ hdp) hst turn
      (fun n s₀ s ys H h00 hn hG hRl' dn => .inl ⟨.inr rfl, h00, ys, H, hn, aw hG, hRl', dn⟩) (fun n s₀ v s kap ys x σ' H h00 hn hv hG hRl' md hgo => ⟨h00, ys, x, H, hn, hv, aw hG, hRl', md, hgo⟩)
      m0 m0 0 [] s2 s2 H2 (fun _ _ => rfl) (Nat.add_zero _) (Nat.le_refl _) G0 hRl tn2 (fun b hb => (hfp b hb).1) w0
    rw [List.mem_singleton.mp hp] at z
    have h9 := fplt b hb
    have z : h'.objs.size = b := z
    rw [← z, sz'] at h9
    exact absurd h9 (Nat.not_lt_of_le (Nat.le_add_right _ 1))
end
end Gx

set_option maxRecDepth 100000
set_option maxHeartbeats 4000000
namespace Gx
open PySem PySem.Spec PyProof.Rows L2 GenW
section
variable {X : Cx} {k : Nat} {c P : Addr} {elt tg iter : Expr} {ifs : List Expr} {scope : Scope} {own : List (Str × Nat)} {pos : Pos} {wi : TI} {g : TG} {tt : TT} {te : TE}
/-- THE RULE: a generator expression, by its parts -/
theorem psrc (hr : Room (k + 1) X.A) (hc : X.calm = true) (hN : X.N.Nodup) (TB : GxR.TabB X.base X.mg c P) (hcode : X.env.code = .ref c) (hi : PI X tg iter wi) (ok : BlkOk X.N X.env.scope scope own) (hcell : ∀ y ∈ scope.names, y.2 ≠ .cell) (h0 : scope.names.lookup (".0" : Str) = some NameKind.local) (hco : scope.isCoroutine = false)
    (hg : ∀ (A : Around) (s : Shared) (H : Hp) (C : Addr) (cl : List (Str × Addr)) (cd : Value) (fp : List Addr) (pn : List (Addr × Obj)), PG (cx X A s H (genEnv scope cl C cd builtinsNs X.env) fp pn) tg g)
    (ht : ∀ (A : Around) (s : Shared) (H : Hp) (C : Addr) (cl : List (Str × Addr)) (cd : Value) (fp : List Addr) (pn : List (Addr × Obj)), Room k (A.deeper (genEnv scope cl C cd builtinsNs X.env)) → PTs (cx X A s H (genEnv scope cl C cd builtinsNs X.env) fp pn) ifs tt)
    (he : ∀ (A : Around) (s : Shared) (H : Hp) (C : Addr) (cl : List (Str × Addr)) (cd : Value) (fp : List Addr) (pn : List (Addr × Obj)), Room k (A.deeper (genEnv scope cl C cd builtinsNs X.env)) → PE (cx X A s H (genEnv scope cl C cd builtinsNs X.env) fp pn) elt te)
    (hs : ∀ v, genFold iter X.env v = pure v := by intro _; rfl) : PSrc X (k + 1) (.GeneratorExp elt [⟨tg, iter, ifs, 0⟩] scope pos) (tGx P wi g tt te (own.map (·.2))) := by
  refine ⟨fun pins s σ H K I h => ?_⟩
  have hfree : ∀ y ∈ scope.names, y.2 = .free → ∃ c, X.env.cells.lookup y.1 = some c := fun y hy e => by
    rcases ok.free y hy e with k | k
    · exact I.ok.has _ (.inl k)
    · exact I.ok.has _ (.inr k)
  refine wpAny_GeneratorExp_make hco (closure_ok hfree) hcell h0 ok.kind (by have := hr.dp; omega) ?_ hs
  refine thn (hi.run pins s σ H _ I h) fun xv s1 hx => thn hx fun itv s2 h2 => ?_
  obtain ⟨it, fp, tn, J, H1, rfl, I2, T, st2, f2, ⟨ps, hP, htr⟩, q⟩ := h2
  refine ⟨I2.nolimit, ?_⟩
  have hPs : s2.heap.get? P = some { cls := .none, data := .fields ps } := I2.hok P _ hP
  have cd : PySem.W.CodeHd s2.heap c P := TB.code.keeps fun b u e => I2.bk b u e
  have fpP : ∀ b ∈ fp, b ≠ P := fun b hb z => by
    have := (f2 b hb).1
    rw [z, hP] at this; cases this
  have cont : ∀ (code : Value) (h3 : Heap) (tk : Nat) (ps' : Array Value), Heap.ExtBut P s2.heap h3 → h3.get? P = some { cls := .none, data := .fields ps' } → (∃ more, ps' = ps ++ more) → TriplesOk ps'.toList →
      wpAny (model X.prog X.w) X.A (builtinsFor X.env.globals X.env.builtins) (fun bi s₄ => ∀ h', h'.Ns s₄.heap.objs.size (fun y => if y = ".0" then some (.ref it) else none) → Heap.SameBut s₄.heap.objs.size (s₄.heap.push { cls := .type "frame", data := .dict #[] }) h' →
          ∃ H1 sc fp, Inv X pins σ H1 sc ∧ ExOk X pins fp ∧ Made X (k + 1) H1 sc fp K (.ref h'.objs.size) { s₄ with
            gens := s₄.gens.push (.fresh (.compStart (.GeneratorExp elt [⟨tg, iter, ifs, 0⟩] scope pos) 0 (.ref it) .none (genEnv scope (cloFrom X.env.cells scope.names []) s₄.heap.objs.size code bi X.env))),
            toks := s₄.toks + 1 + 1 + 1,
            heap := h'.push { cls := .type "generator", data := .fields #[.int s₄.gens.size 0, .str "<genexpr>" (s₄.toks + 1), .str (X.env.qual ++ "<genexpr>") (s₄.toks + 1 + 1)] } }) X.xe { s2 with heap := h3, toks := tk } := by
    intro code h3 tk ps' hx hP3 hmore ht3
    obtain ⟨more, em⟩ := hmore
    obtain ⟨bm, ob, e1, e2, e3, e4, e5, e6, e7, e8⟩ := TB.bm
    have keep3 : ∀ b u, b ≠ P → s2.heap.get? b = some u → h3.get? b = some u := fun b u hb e => hx b u hb e
    refine wpAny_builtinsFor (m := X.mg) (by rw [I2.ok.glob]; exact (I2.mod.glob.keeps I2.bk).extBut hx TB.gP) e1 e2 (keep3 _ _ e4 (I2.bk _ _ e5)) e6 e7 e8 ?_
    intro h' hn' hs'
    have I3 : Inv X pins σ (upd H1 P (.tbl ps')) { s2 with heap := h3, toks := tk } := by
      have J := GxR.inv_tab (more := more) (h' := h3) (g' := s2.gens) (d' := s2.drawn) (t' := tk) I2 hP keep3 (by rw [← em]; exact hP3) I2.bare
      rw [← em] at J
      exact J
    have T2 : GxR.Tabbed P H1 (upd H1 P (.tbl ps')) := ⟨⟨ps', upd_same, ht3⟩, fun b hb => upd_ne hb⟩
    obtain ⟨W, ⟨m0, w0⟩, turn⟩ := q _ T2
    have f3 : ∀ b ∈ fp, FpOk X pins (upd H1 P (.tbl ps')) b := fun b hb => ⟨by rw [upd_ne (fpP b hb)]; exact (f2 b hb).1, (f2 b hb).2⟩
    have tn3 : tn 0 h3 := T.keep _ _ _ st2 fun b hb o e => keep3 b o (fpP b hb) e
    refine ⟨upd H1 P (.tbl ps'), { s2 with heap := h3, toks := tk }, fp, I3, fun b hb => ⟨(f3 b hb).2.2.2.1, (f3 b hb).2.1, (f3 b hb).2.2.2.2.1, (f3 b hb).2.2.2.2.2⟩, ?_⟩
    exact made hc hN ok hcell hco hg ht he I3 T tn3 f3 w0 turn hn' hs'
  cases hf : codeAmong pos ps.toList with
  | none =>
    refine wpAny_genexprCodeX hcode (cd.code hPs htr) (cd.tab hPs) hf fun c' h' tk hx hge hlt hco' _ htab' _ => ?_
    obtain ⟨o1, vs, f1, tf, fl, tg, inF, tx, tt, op, _, _, _, _, _, _, _, _, _, htr', _⟩ := hco'
    exact cont _ h' tk _ hx htab'.2 ⟨_, rfl⟩ htr'
  | some cv =>
    refine wpAny_genexprCode_hit hcode (cd.code hPs htr) hf ?_
    exact cont cv s2.heap s2.toks ps (Heap.ExtBut.refl _ _) hPs ⟨#[], by simp⟩ htr
end

/-! ### the consumer -/
section
variable {X : Cx} {sc : Shared} {fp : List Addr} {H1 : Hp} {a : Addr} {g : Nat} {CO : List Addr} {Rl : Rel} {N : Nat} {K : GK}
/-- the generator sleeps; n items more at most -/
structure Live (X : Cx) (sc : Shared) (fp : List Addr) (H1 : Hp) (a : Addr) (g : Nat) (CO : List Addr) (Rl : Rel) (N : Nat) (K : GK) (B : Around) (n : Nat) (s : Shared) : Prop where
  gen : s.heap.IsGen a g
  lim : s.heap.NoLimit
  goes : ∃ gs, s.gens[g]? = some gs ∧ gs.Goes (model X.prog X.w) B (GEnd X sc fp H1 a g CO Rl N K) (GItem X sc fp H1 a g CO Rl N K) n (.send .none) (s.setGen g .running)
/-- an item is out: the consumer may go on from any state that kept all but its own -/
theorem next {A : Around} {n : Nat} {s : Shared} {Q : Option Value → Shared → Prop} {E : Value → Shared → Prop} (hh : A.handled = none) (hd : A.depth < recursionLimit) (hst : Stable CO Rl) (haC : a ∉ CO) (hcC : cStatics ∉ CO) (L : Live X sc fp H1 a g CO Rl N K A.in1 n s)
    (hY : ∀ ys x v H' s1, (∀ b ∈ CO, s1.heap.get? b = s.heap.get? b) → n - 1 + 1 + ys.length = N → RelV x v → Aw X sc fp H1 a g CO H' s1 → Rl ys s1 → K.mid ys x H' →
      (K.go x → ∀ s', s'.os = s1.os → s'.gens = s1.gens → (∀ b o, b ∉ CO → s1.heap.get? b = some o → s'.heap.get? b = some o) → (∀ b ∈ CO, ∃ o, s'.heap.get? b = some o ∧ ∀ v, o.data ≠ .cell v) → Rl (ys ++ [x]) s' → 0 < n ∧ Live X sc fp H1 a g CO Rl N K A.in1 (n - 1) s') → Q (some v) s1)
    (hP : ∀ ys H' s1, (∀ b ∈ CO, s1.heap.get? b = s.heap.get? b) → n + ys.length = N → Aw X sc fp H1 a g CO H' s1 → Rl ys s1 → K.done ys H' → Q none s1) :
    wpAny (model X.prog X.w) A (pyNext (.ref a)) Q E s := by
  obtain ⟨hg, hl, gs, hgs, hgo⟩ := L
  have hgl : g < s.gens.size := (Array.getElem?_eq_some_iff.mp hgs).1
  refine wpAny_gsz (n := g + 1) hgl (next_genG (A := A) (Er := fun _ _ => False) (F := GFin X sc fp H1 a g CO Rl N K) (Y := GItem X sc fp H1 a g CO Rl N K) hh hl hd hg hgs hgo (fun v s₁ gs' hbare hv => ?_) (fun s₁ hp h' hk => ?_) fun e s₁ he => he.elim)
  · intro hsz
    have hsz1 : g < s₁.gens.size := by
      have q : (s₁.setGen g gs').gens.size = s₁.gens.size := setGen_size _ _ _
      have hsz' : g + 1 ≤ (s₁.setGen g gs').gens.size := hsz
      omega
    obtain ⟨h00, ys, x, H', h1, h2, h3, h4, h5, h7⟩ := hv
    have hb : AllBare (s₁.setGen g gs').gens := allBare_setGen h3.bare hbare
    refine hY ys x v H' _ h00 h1 h2 ⟨h3.os, hb, h3.un, h3.hok, h3.lim, h3.gen, h3.free, h3.own⟩ (hst.keep ys s₁ _ (fun _ _ => rfl) h4) h5 fun hgo' s' e1 e2 e3 e4 e5 => ?_
    have z : Slept CO Rl (ys ++ [x]) s₁ (s'.setGen g .running) :=
      ⟨e1, allBare_setGen (by rw [e2]; exact hb) rfl, e3, e4, hst.keep _ s' _ (fun _ _ => rfl) e5⟩
    cases n with
    | zero => exact (h7 hgo' _ z).elim
    | succ m =>
      refine ⟨Nat.succ_pos _, ?_, ?_, gs', by rw [e2]; exact setGen_at hsz1, h7 hgo' _ z⟩
      · obtain ⟨o, nm, qn, ho, r⟩ := h3.gen
        exact ⟨o, nm, qn, e3 a o haC ho, r⟩
      · obtain ⟨mc, hns, hnn⟩ := h3.lim
        exact ⟨mc, hns.at' fun o e => e3 _ o hcC e, hnn⟩
  · intro hsz
    obtain ⟨h00, ys, H', h1, h2, h3, h4⟩ := hp
    have hsame : ∀ b ∈ CO, h'.get? b = s₁.heap.get? b := fun b hb => by
      obtain ⟨o, q1, _⟩ := h2.own b hb
      rw [q1, hk _ _ q1]
    refine hP ys H' _ (fun b hb => (hsame b hb).trans (h00 b hb)) h1 ⟨h2.os, allBare_setGen h2.bare rfl, h2.un.trans (Un.kept hk), h2.hok.kept hk, h2.lim.keeps hk, h2.gen.keeps hk, h2.free, fun b hb => let ⟨o, q1, q2⟩ := h2.own b hb; ⟨o, hk _ _ q1, q2⟩⟩ ?_ h4
    exact hst.keep ys s₁ _ hsame h3
/-- to begin with -/
theorem Made.live {k : Nat} {u : Value} {s' s2 : Shared} {A : Around} (M : Made X k H1 sc fp K u s') (hr : Room k A.in1) (hfr : A.frames = some X.stack) :
    ∃ a g N, u = .ref a ∧ sc.heap.objs.size ≤ a ∧ a < s'.heap.objs.size ∧ s'.heap.IsGen a g ∧ s'.heap.NoLimit ∧ s'.os = sc.os ∧ AllBare s'.gens ∧ (∀ b o, sc.heap.get? b = some o → s'.heap.get? b = some o) ∧
      ∀ (CO : List Addr) (Rl : Rel), (∀ b ∈ CO, s'.heap.objs.size ≤ b) → Stable CO Rl → (∀ b o, s'.heap.get? b = some o → s2.heap.get? b = some o) → (∀ b ∈ CO, ∃ o, s2.heap.get? b = some o ∧ ∀ v, o.data ≠ .cell v) → s2.os = s'.os → s2.gens = s'.gens → Rl [] s2 → Live X sc fp H1 a g CO Rl N K A.in1 N s2 := by
  obtain ⟨a, g, c, N, e, h1, h2, h3, h4, h5, h6, h7, h8, h9⟩ := M
  refine ⟨a, g, N, e, h1, h2, h3, h7, h5, h6, h8, fun CO Rl q1 q2 q3 q4 q5 q6 q7 => ⟨h3.keeps q3, h7.keeps q3, .fresh c, by rw [q6]; exact h4, ?_⟩⟩
  exact ⟨rfl, h9 A.in1 CO Rl _ hr hfr q1 q2 q3 q4 q5 (allBare_setGen (by rw [q6]; exact h6) rfl) (q2.keep _ s2 _ (fun _ _ => rfl) q7)⟩
end
end Gx

set_option maxRecDepth 100000
set_option maxHeartbeats 4000000
namespace Gx
open PySem PySem.Spec PyProof.Rows L2 GenW

section
variable {X : Cx} {sc : Shared} {fp : List Addr} {H1 : Hp} {a : Addr} {g : Nat} {N : Nat} {k : Nat}

/-! ### all, any -/
def bRel (t : Bool) : Rel := fun ys _ => ∀ y ∈ ys, y = V.bl t
theorem bStable {t : Bool} {CO : List Addr} : Stable CO (bRel t) := ⟨fun _ _ _ _ h => h⟩
/-- all: an item is a bool; at the first False it ends -/
def kAll (Q : VK) : GK := ⟨fun ys y H => ∃ b, y = .bl b ∧ (b = false → (∀ z ∈ ys, z = V.bl true) → Q (.bl false) H), fun y => y = .bl true, fun ys H => (∀ z ∈ ys, z = V.bl true) → Q (.bl true) H⟩
theorem all_loop {A : Around} {R : Result → Shared → Prop} {Q : VK} (hh : A.handled = none) (hd : A.depth < recursionLimit)
    (hR : ∀ b H' s', Aw X sc fp H1 a g [] H' s' → Q (.bl b) H' → R (.ok (.ret (.bool b))) s') :
    ∀ (n : Nat) (s : Shared), Live X sc fp H1 a g [] (bRel true) N (kAll Q) A.in1.in1 n s → codeAny (model X.prog X.w) A (.builtin "all.loop" ⟨[.ref a], []⟩) R s := by
  intro n
  induction n with
  | zero =>
    intro s L
    refine codeAny_builtin F.entry_all_loop ?_
    rw [Around.under_plainId F.plain_all_loop _]
    show wpAny _ A.in1 (pyNext (.ref a) >>= _) _ _ s
    refine wpAny_bind (next (A := A.in1) hh hd bStable (by simp) (by simp) L (fun ys x v H' s1 _ hn rv aw hrl md hgo => ?_) fun ys H' s1 _ hn aw hrl dn => ?_)
    · obtain ⟨b, rfl, hf⟩ := md
      have rv : v = Value.bool b := rv
      subst rv
      cases b with
      | true =>
        have := (hgo rfl s1 rfl rfl (fun _ _ _ e => e) (fun _ hb => by cases hb) (fun y hy => by rcases List.mem_append.mp hy with hy | hy; exact hrl y hy; exact List.mem_singleton.mp hy)).1
        omega
      | false =>
        refine wpAny_bind (wpAny_holding (wpAny_truthy_bool ?_))
        refine wpAny_bind (wpAny_letGo ?_)
        simp only [Bool.false_eq_true, if_false]
        exact wpAny_bind (wpAny_rule (wpAny_pure (hR false H' _ aw (hf rfl hrl))))
    · exact wpAny_bind (wpAny_rule (wpAny_pure (hR true H' _ aw (dn hrl))))
  | succ n ih =>
    intro s L
    refine codeAny_builtin F.entry_all_loop ?_
    rw [Around.under_plainId F.plain_all_loop _]
    show wpAny _ A.in1 (pyNext (.ref a) >>= _) _ _ s
    refine wpAny_bind (next (A := A.in1) hh hd bStable (by simp) (by simp) L (fun ys x v H' s1 _ hn rv aw hrl md hgo => ?_) fun ys H' s1 _ hn aw hrl dn => ?_)
    · obtain ⟨b, rfl, hf⟩ := md
      have rv : v = Value.bool b := rv
      subst rv
      refine wpAny_bind (wpAny_holding (wpAny_truthy_bool ?_))
      refine wpAny_bind (wpAny_letGo ?_)
      cases b with
      | true =>
        simp only [if_true]
        exact wpAny_pure ⟨plainId_quiet F.plain_all_loop _, ih _ (hgo rfl s1 rfl rfl (fun _ _ _ e => e) (fun _ hb => by cases hb) (fun y hy => by rcases List.mem_append.mp hy with hy | hy; exact hrl y hy; exact List.mem_singleton.mp hy)).2⟩
      | false =>
        simp only [Bool.false_eq_true, if_false]
        exact wpAny_bind (wpAny_rule (wpAny_pure (hR false H' _ aw (hf rfl hrl))))
    · exact wpAny_bind (wpAny_rule (wpAny_pure (hR true H' _ aw (dn hrl))))
/-- any: an item is a bool; at the first True it ends -/
def kAny (Q : VK) : GK := ⟨fun ys y H => ∃ b, y = .bl b ∧ (b = true → (∀ z ∈ ys, z = V.bl false) → Q (.bl true) H), fun y => y = .bl false, fun ys H => (∀ z ∈ ys, z = V.bl false) → Q (.bl false) H⟩
theorem any_loop {A : Around} {R : Result → Shared → Prop} {Q : VK} (hh : A.handled = none) (hd : A.depth < recursionLimit)
    (hR : ∀ b H' s', Aw X sc fp H1 a g [] H' s' → Q (.bl b) H' → R (.ok (.ret (.bool b))) s') :
    ∀ (n : Nat) (s : Shared), Live X sc fp H1 a g [] (bRel false) N (kAny Q) A.in1.in1 n s → codeAny (model X.prog X.w) A (.builtin "any.loop" ⟨[.ref a], []⟩) R s := by
  intro n
  induction n with
  | zero =>
    intro s L
    refine codeAny_builtin F.entry_any_loop ?_
    rw [Around.under_plainId F.plain_any_loop _]
    show wpAny _ A.in1 (pyNext (.ref a) >>= _) _ _ s
    refine wpAny_bind (next (A := A.in1) hh hd bStable (by simp) (by simp) L (fun ys x v H' s1 _ hn rv aw hrl md hgo => ?_) fun ys H' s1 _ hn aw hrl dn => ?_)
    · obtain ⟨b, rfl, hf⟩ := md
      have rv : v = Value.bool b := rv
      subst rv
      cases b with
      | false =>
        have := (hgo rfl s1 rfl rfl (fun _ _ _ e => e) (fun _ hb => by cases hb) (fun y hy => by rcases List.mem_append.mp hy with hy | hy; exact hrl y hy; exact List.mem_singleton.mp hy)).1
        omega
      | true =>
        refine wpAny_bind (wpAny_holding (wpAny_truthy_bool ?_))
        refine wpAny_bind (wpAny_letGo ?_)
        simp only [if_true]
        exact wpAny_bind (wpAny_rule (wpAny_pure (hR true H' _ aw (hf rfl hrl))))
    · exact wpAny_bind (wpAny_rule (wpAny_pure (hR false H' _ aw (dn hrl))))
  | succ n ih =>
    intro s L
    refine codeAny_builtin F.entry_any_loop ?_
    rw [Around.under_plainId F.plain_any_loop _]
    show wpAny _ A.in1 (pyNext (.ref a) >>= _) _ _ s
    refine wpAny_bind (next (A := A.in1) hh hd bStable (by simp) (by simp) L (fun ys x v H' s1 _ hn rv aw hrl md hgo => ?_) fun ys H' s1 _ hn aw hrl dn => ?_)
    · obtain ⟨b, rfl, hf⟩ := md
      have rv : v = Value.bool b := rv
      subst rv
      refine wpAny_bind (wpAny_holding (wpAny_truthy_bool ?_))
      refine wpAny_bind (wpAny_letGo ?_)
      cases b with
      | false =>
        simp only [Bool.false_eq_true, if_false]
        exact wpAny_pure ⟨plainId_quiet F.plain_any_loop _, ih _ (hgo rfl s1 rfl rfl (fun _ _ _ e => e) (fun _ hb => by cases hb) (fun y hy => by rcases List.mem_append.mp hy with hy | hy; exact hrl y hy; exact List.mem_singleton.mp hy)).2⟩
      | true =>
        simp only [if_true]
        exact wpAny_bind (wpAny_rule (wpAny_pure (hR true H' _ aw (hf rfl hrl))))
    · exact wpAny_bind (wpAny_rule (wpAny_pure (hR false H' _ aw (dn hrl))))

/-- the consumer's end, back in the caller's context -/
theorem back {pins : List (Addr × Obj)} {σ : L2.St} {H' : Hp} {s' : Shared} {CO : List Addr} (I : Inv X pins σ H1 sc) (hex : ExOk X pins fp) (aw : Aw X sc fp H1 a g CO H' s') : Inv X pins σ H' s' :=
  I.call' (ch := fp) aw.os aw.un aw.hok aw.bare hex

def tAll (tg : TGS) : TE := fun σ H Q => tg σ H (kAll Q)
def tAny (tg : TGS) : TE := fun σ H Q => tg σ H (kAny Q)
variable {e : Expr} {tg : TGS} {p pos : Pos}
theorem pe_all (h : PSrc X k e tg) (hr : Room (k + 2) X.A) (hg : Gl X "all") (hm : X.mg "all" = none) (he : starEach [e] X.env = (false, eval e X.env) :: starEach [] X.env := by rfl) :
    PE X (.Call (.Name "all" p) [e] [] pos) (tAll tg) := by
  refine ⟨fun pins s σ H Q I hq => ?_⟩
  refine wpAny_Call_Name_kw (ld_blt I hg hm boot_all ?_)
  refine PyProof.Rows.callWith_builtin1 ?_ he (by rfl)
  rw [he]
  show wpAny _ _ (spliced ((false, eval e X.env) :: backTo pos (starEach [] X.env))) _ _ s
  refine Calls.spliced_cons (thn (h.run pins s σ H _ I hq) fun u s1 ⟨H1, sc, fp, I1, hex, M⟩ => ?_)
  refine Calls.spliced_nil ?_
  obtain ⟨a, g, N, rfl, h1, h2, h3, h4, h5, h6, h7, h8⟩ := M.live (A := X.A.in1) (s2 := s1) hr.in1.in1 I1.ok.frames
  refine call_function_tree F.kind_all F.plain_all F.entry_all (F.args_all1 _) ?_
  unfold Builtin.«all»
  refine wpAny_bind (m := oneArg "all" _) (wpAny_pure ?_)
  refine wpAny_bind (wpAny_pyIter_gen h3 ?_)
  refine wpAny_pure ⟨plainId_quiet F.plain_all_loop _, all_loop (A := X.A) hr.hd (by have := hr.dp; show X.A.depth < _; omega) (fun b H' s' aw hq => ?_) N s1 (h8 [] (bRel true) (fun b hb => by cases hb) bStable (fun _ _ e => e) (fun b hb => by cases hb) rfl rfl (fun y hy => by cases hy))⟩
  exact ⟨.bl b, H', back I1 hex aw, rfl, hq⟩
theorem pe_any (h : PSrc X k e tg) (hr : Room (k + 2) X.A) (hg : Gl X "any") (hm : X.mg "any" = none) (he : starEach [e] X.env = (false, eval e X.env) :: starEach [] X.env := by rfl) :
    PE X (.Call (.Name "any" p) [e] [] pos) (tAny tg) := by
  refine ⟨fun pins s σ H Q I hq => ?_⟩
  refine wpAny_Call_Name_kw (ld_blt I hg hm boot_any ?_)
  refine PyProof.Rows.callWith_builtin1 ?_ he (by rfl)
  rw [he]
  show wpAny _ _ (spliced ((false, eval e X.env) :: backTo pos (starEach [] X.env))) _ _ s
  refine Calls.spliced_cons (thn (h.run pins s σ H _ I hq) fun u s1 ⟨H1, sc, fp, I1, hex, M⟩ => ?_)
  refine Calls.spliced_nil ?_
  obtain ⟨a, g, N, rfl, h1, h2, h3, h4, h5, h6, h7, h8⟩ := M.live (A := X.A.in1) (s2 := s1) hr.in1.in1 I1.ok.frames
  refine call_function_tree F.kind_any F.plain_any F.entry_any (F.args_any1 _) ?_
  unfold Builtin.«any»
  refine wpAny_bind (m := oneArg "any" _) (wpAny_pure ?_)
  refine wpAny_bind (wpAny_pyIter_gen h3 ?_)
  refine wpAny_pure ⟨plainId_quiet F.plain_any_loop _, any_loop (A := X.A) hr.hd (by have := hr.dp; show X.A.depth < _; omega) (fun b H' s' aw hq => ?_) N s1 (h8 [] (bRel false) (fun b hb => by cases hb) bStable (fun _ _ e => e) (fun b hb => by cases hb) rfl rfl (fun y hy => by cases hy))⟩
  exact ⟨.bl b, H', back I1 hex aw, rfl, hq⟩

/-! ### sum -/
def intOf : V → Int
  | .int i => i
  | _ => 0
def sumV (ys : List V) : Int := (ys.map intOf).sum
def sRel (S : Addr) : Rel := fun ys s => ∃ c t, s.heap.get? S = some (lstObj #[.int (sumV ys) t] c)
theorem sStable {S : Addr} : Stable [S] (sRel S) := ⟨fun ys s s' h ⟨c, t, e⟩ => ⟨c, t, by rw [h S (List.mem_singleton.mpr rfl)]; exact e⟩⟩
def kSum (Q : VK) : GK := ⟨fun ys y _ => ∃ i, y = .int i ∧ InLong i ∧ InLong (sumV ys + i), fun _ => True, fun ys H => Q (.int (sumV ys)) H⟩
theorem sumV_snoc (ys : List V) (i : Int) : sumV (ys ++ [.int i]) = sumV ys + i := by
  unfold sumV
  rw [List.map_append, List.sum_append]
  show _ + (i + 0) = _
  rw [Int.add_zero]
theorem sum_loop {A : Around} {R : Result → Shared → Prop} {Q : VK} {S : Addr} (hh : A.handled = none) (hd : A.depth < recursionLimit) (hSa : a ≠ S) (hSc : cStatics ≠ S)
    (hR : ∀ i t H' s', Aw X sc fp H1 a g [S] H' s' → Q (.int i) H' → R (.ok (.ret (.int i t))) s') :
    ∀ (n : Nat) (s : Shared) (ys0 : List V), sRel S ys0 s → Live X sc fp H1 a g [S] (sRel S) N (kSum Q) A.in1.in1 n s → codeAny (model X.prog X.w) A (.builtin "sum.loop" ⟨[.ref a, .ref S, rawInt 0, rawInt 0], []⟩) R s := by
  intro n
  induction n with
  | zero =>
    intro s ys0 ⟨c, t, hS⟩ L
    refine codeAny_builtin F.entry_sum_loop ?_
    rw [Around.under_plainId F.plain_sum_loop _]
    show wpAny _ A.in1 (seqItems? (.ref S) >>= _) _ _ s
    refine wpAny_bind (wpAny_seqItems hS rfl ?_)
    show wpAny _ A.in1 (tryCatch (pyNext (.ref a)) _ >>= _) _ _ s
    refine wpAny_bind (wpAny_tryCatch (next (A := A.in1) hh hd sStable (by simpa using hSa) (by simpa using hSc) L (fun ys x v H' s1 h00 hn rv aw hrl md hgo => ?_) fun ys H' s1 h00 hn aw hrl dn => ?_))
    · obtain ⟨i, rfl, f1, f2⟩ := md
      obtain ⟨c1, t1, e1⟩ := hrl
      have := (hgo trivial { s1 with heap := s1.heap.update S (fun o => { o with data := .seq #[.int (sumV (ys ++ [.int i])) t1] c1 }) } rfl rfl (fun b o hb e => (Heap.get?_update_other _ _ (fun h : S = b => hb (by rw [h]; exact List.mem_singleton.mpr rfl))).trans e) (fun b hb => ?_) ?_).1
      · omega
      · rw [List.mem_singleton.mp hb]
        exact ⟨_, Heap.get?_update_self _ e1 rfl, fun v q => by cases q⟩
      · exact ⟨c1, t1, Heap.get?_update_self _ e1 rfl⟩
    · obtain ⟨c1, t1, e1⟩ := hrl
      have e2 := (h00 S (List.mem_singleton.mpr rfl)).symm.trans e1
      rw [hS] at e2
      have e3 : sumV ys0 = sumV ys := by
        have q := Option.some.inj e2
        simp only [lstObj, Obj.mk.injEq, Data.seq.injEq, Array.mk.injEq, List.cons.injEq, Value.int.injEq] at q
        exact q.2.2.1.1.1.1
      have dn : Q (.int (sumV ys)) H' := dn
      rw [← e3] at dn
      exact wpAny_pure (hR _ t H' s1 aw dn)
  | succ n ih => 
    intro s ys0 ⟨c, t, hS⟩ L
    refine codeAny_builtin F.entry_sum_loop ?_
    rw [Around.under_plainId F.plain_sum_loop _]
    show wpAny _ A.in1 (seqItems? (.ref S) >>= _) _ _ s
    refine wpAny_bind (wpAny_seqItems hS rfl ?_)
    show wpAny _ A.in1 (tryCatch (pyNext (.ref a)) _ >>= _) _ _ s
    refine wpAny_bind (wpAny_tryCatch (next (A := A.in1) hh hd sStable (by simpa using hSa) (by simpa using hSc) L (fun ys x v H' s1 h00 hn rv aw hrl md hgo => ?_) fun ys H' s1 h00 hn aw hrl dn => ?_))
    · obtain ⟨i, rfl, f1, f2⟩ := md
      obtain ⟨tv, rfl⟩ : ∃ u, v = Value.int i u := rv
      obtain ⟨c1, t1, e1⟩ := id hrl
      have e2 := (h00 S (List.mem_singleton.mpr rfl)).symm.trans e1
      rw [hS] at e2
      have e3 : sumV ys0 = sumV ys := by
        have q := Option.some.inj e2
        simp only [lstObj, Obj.mk.injEq, Data.seq.injEq, Array.mk.injEq, List.cons.injEq, Value.int.injEq] at q
        exact q.2.2.1.1.1.1
      have hc : ((decide (-(2 ^ 63) ≤ i) && decide (i < 2 ^ 63)) && (decide (-(2 ^ 63) ≤ sumV ys0 + i) && decide (sumV ys0 + i < 2 ^ 63))) = true := by
        rw [e3]
        simp only [Bool.and_eq_true, decide_eq_true_eq]
        exact ⟨⟨f1.1, f1.2⟩, f2.1, f2.2⟩
      show wpAny _ A.in1 (if (_ : Bool) = true then (mkInt (sumV ys0 + i) >>= _) else _) _ _ _
      split
      · refine wpAny_bind (wpAny_mkInt ?_)
        show wpAny _ A.in1 (updateSeq S (fun _ => #[.int (sumV ys0 + i) s1.toks]) >>= _) _ _ _
        refine wpAny_bind ?_
        have hnew : sRel S (ys ++ [.int i]) { s1 with toks := s1.toks + 1, heap := s1.heap.update S (Obj.mapSeq (fun _ => #[.int (sumV ys0 + i) s1.toks])) } := by
          rw [e3]
          obtain ⟨c9, h9⟩ : ∃ c9, Obj.mapSeq (fun _ => #[Value.int (sumV ys + i) s1.toks]) (lstObj #[.int (sumV ys) t1] c1) = lstObj #[Value.int (sumV ys + i) s1.toks] c9 := ⟨_, rfl⟩
          refine ⟨c9, s1.toks, ?_⟩
          rw [sumV_snoc, ← h9]
          exact Heap.get?_update_self _ e1 rfl
        refine wpAny_updateSeq e1 rfl (wpAny_pure ⟨plainId_quiet F.plain_sum_loop _, ih _ (ys ++ [.int i]) hnew (hgo trivial { s1 with toks := s1.toks + 1, heap := s1.heap.update S (Obj.mapSeq (fun _ => #[.int (sumV ys0 + i) s1.toks])) } rfl rfl (fun b o hb e => ?_) (fun b hb => ?_) hnew).2⟩)
        · exact (Heap.get?_update_other _ _ (fun h : S = b => hb (by rw [h]; exact List.mem_singleton.mpr rfl))).trans e
        · rw [List.mem_singleton.mp hb]
          exact ⟨_, Heap.get?_update_self _ e1 rfl, fun v q => by cases q⟩
      · rename_i hneg
        exact absurd hc hneg
    · obtain ⟨c1, t1, e1⟩ := hrl
      have e2 := (h00 S (List.mem_singleton.mpr rfl)).symm.trans e1
      rw [hS] at e2
      have e3 : sumV ys0 = sumV ys := by
        have q := Option.some.inj e2
        simp only [lstObj, Obj.mk.injEq, Data.seq.injEq, Array.mk.injEq, List.cons.injEq, Value.int.injEq] at q
        exact q.2.2.1.1.1.1
      have dn : Q (.int (sumV ys)) H' := dn
      rw [← e3] at dn
      exact wpAny_pure (hR _ t H' s1 aw dn)
def tSum (tg : TGS) : TE := fun σ H Q => tg σ H (kSum Q)
variable {e : Expr} {tg : TGS} {p pos : Pos}
theorem pe_sum (h : PSrc X k e tg) (hr : Room (k + 2) X.A) (hg : Gl X "sum") (hm : X.mg "sum" = none) (he : starEach [e] X.env = (false, eval e X.env) :: starEach [] X.env := by rfl) :
    PE X (.Call (.Name "sum" p) [e] [] pos) (tSum tg) := by
  refine ⟨fun pins s σ H Q I hq => ?_⟩
  refine wpAny_Call_Name_kw (ld_blt I hg hm boot_sum ?_)
  refine PyProof.Rows.callWith_builtin1 ?_ he (by rfl)
  rw [he]
  show wpAny _ _ (spliced ((false, eval e X.env) :: backTo pos (starEach [] X.env))) _ _ s
  refine Calls.spliced_cons (thn (h.run pins s σ H _ I hq) fun u s1 ⟨H1, sc, fp, I1, hex, M⟩ => ?_)
  refine Calls.spliced_nil ?_
  refine call_function_tree F.kind_sum F.plain_sum F.entry_sum (F.args_sum1 _) ?_
  have hM := fun s2 => M.live (A := X.A.in1) (s2 := s2) hr.in1.in1 I1.ok.frames
  obtain ⟨a, g, c, N0, rfl, q1, q2, q3, _⟩ := id M
  unfold Builtin.«sum»
  simp only [List.length_cons, List.length_nil]
  rw [if_neg (by decide)]
  refine wpAny_bind (wpAny_of_eq (show Builtin.Builtins.bindParams "sum" ["start"] 0 { } = pure [none] from rfl) ?_)
  refine wpAny_bind (wpAny_pyIter_gen q3 ?_)
  refine wpAny_bind (wpAny_mkInt ?_)
  refine wpAny_bind (wpAny_pure ?_)
  simp only [List.forIn_cons, List.forIn_nil]
  refine wpAny_bind (wpAny_bind (wpAny_bind (wpAny_isInstance (T := "int") (b := false) (typeIs_int _ _ _) PySem.sub_int_str ?_)))
  simp only [Bool.false_eq_true, if_false]
  refine wpAny_pure (wpAny_bind (wpAny_bind (wpAny_isInstance (T := "int") (b := false) (typeIs_int _ _ _) PySem.sub_int_bytes ?_)))
  simp only [Bool.false_eq_true, if_false]
  refine wpAny_pure (wpAny_bind (wpAny_bind (wpAny_isInstance (T := "int") (b := false) (typeIs_int _ _ _) PySem.sub_int_bytearray ?_)))
  simp only [Bool.false_eq_true, if_false]
  refine wpAny_pure (wpAny_pure ?_)
  refine wpAny_bind (wpAny_newObj_type ?_)
  obtain ⟨a', g', N, e', h1, h2, h3, h4, h5, h6, h7, h8⟩ := hM { s1 with heap := s1.heap.push { cls := .type "list", data := .seq ([Value.int 0 s1.toks] : List Value).toArray }, toks := s1.toks + 1 }
  cases e'
  have kp : ∀ b o, s1.heap.get? b = some o → (s1.heap.push { cls := .type "list", data := .seq ([Value.int 0 s1.toks] : List Value).toArray }).get? b = some o := fun b o e => Heap.get?_push_of_some _ e
  have hS : (s1.heap.push { cls := .type "list", data := .seq ([Value.int 0 s1.toks] : List Value).toArray }).get? s1.heap.objs.size = some (lstObj #[.int 0 s1.toks] 0) := Heap.get?_push_size _ rfl
  have hcl : cStatics < s1.heap.objs.size := let ⟨_, hn, _⟩ := h4; hn.lt
  have hr0 : sRel s1.heap.objs.size [] { s1 with heap := s1.heap.push { cls := .type "list", data := .seq ([Value.int 0 s1.toks] : List Value).toArray }, toks := s1.toks + 1 } := ⟨0, s1.toks, hS⟩
  refine wpAny_pure ⟨plainId_quiet F.plain_sum_loop _, sum_loop (A := X.A) (S := s1.heap.objs.size) (N := N) (g := g') hr.hd (by have := hr.dp; show X.A.depth < _; omega) (Nat.ne_of_lt h2) (Nat.ne_of_lt hcl) (fun i t H' s' aw hq => ?_) N _ [] hr0
    (h8 [s1.heap.objs.size] (sRel s1.heap.objs.size) (fun b hb => by rw [List.mem_singleton.mp hb]; exact Nat.le_refl _) sStable kp (fun b hb => by rw [List.mem_singleton.mp hb]; exact ⟨_, hS, fun v q => by cases q⟩) rfl rfl hr0)⟩
  exact ⟨.int i, H', back I1 hex aw, ⟨t, rfl⟩, hq⟩
end
end Gx

set_option maxRecDepth 100000
set_option maxHeartbeats 4000000
namespace Gx
open PySem PySem.Spec PyProof.Rows L2 GenW

section
variable {X : Cx} {sc : Shared} {fp : List Addr} {H1 : Hp} {a : Addr} {g : Nat} {N : Nat} {k : Nat}
/-! ### a list that the consumer fills -/
def lRel (S : Addr) : Rel := fun ys s => ∃ acc c, s.heap.get? S = some (lstObj acc c) ∧ Vals ys acc.toList
theorem lStable {S : Addr} : Stable [S] (lRel S) := ⟨fun ys s s' h ⟨acc, c, e, r⟩ => ⟨acc, c, by rw [h S (List.mem_singleton.mpr rfl)]; exact e, r⟩⟩
def kLst (D : List V → Hp → Prop) : GK := ⟨fun ys _ _ => ys.length < sizeLine, fun _ => True, D⟩
theorem lRel_push {S : Addr} {ys : List V} {x : V} {v : Value} {s : Shared} {acc : Array Value} {c : Nat} (e : s.heap.get? S = some (lstObj acc c)) (r : Vals ys acc.toList) (rv : RelV x v) : lRel S (ys ++ [x]) { s with heap := s.heap.update S (Obj.mapSeq (·.push v)) } := by
  obtain ⟨c9, h9⟩ : ∃ c9, Obj.mapSeq (·.push v) (lstObj acc c) = lstObj (acc.push v) c9 := ⟨_, rfl⟩
  refine ⟨acc.push v, c9, ?_, ?_⟩
  · rw [← h9]
    exact Heap.get?_update_self _ e rfl
  · rw [Array.toList_push]
    exact r.append (.cons rv .nil)
theorem ext_loop {A : Around} {R : Result → Shared → Prop} {D : List V → Hp → Prop} {S : Addr} {res : Value} (hh : A.handled = none) (hd : A.depth < recursionLimit) (hSa : a ≠ S) (hSc : cStatics ≠ S)
    (hR : ∀ ys H' s', Aw X sc fp H1 a g [S] H' s' → lRel S ys s' → D ys H' → R (.ok (.ret res)) s') :
    ∀ (n : Nat) (s : Shared), Live X sc fp H1 a g [S] (lRel S) N (kLst D) A.in1.in1 n s → codeAny (model X.prog X.w) A (.builtin "list.extend.loop" ⟨[.ref S, .ref a, res], []⟩) R s := by
  intro n
  have sl : ∀ {ys : List V} {acc : Array Value}, Vals ys acc.toList → acc.size = ys.length := fun {ys acc} r => by
    have e1 := r.length
    have e2 : acc.toList.length = acc.size := by simp
    omega
  induction n with
  | zero =>
    intro s L
    refine codeAny_builtin F.entry_extend_loop ?_
    rw [Around.under_plainId F.plain_extend_loop _]
    show wpAny _ A.in1 (pyNext (.ref a) >>= _) _ _ s
    refine wpAny_bind (next (A := A.in1) hh hd lStable (by simpa using hSa) (by simpa using hSc) L (fun ys x v H' s1 h00 hn rv aw hrl md hgo => ?_) fun ys H' s1 h00 hn aw hrl dn => ?_)
    · obtain ⟨acc, c1, e1, r1⟩ := hrl
      have := (hgo trivial { s1 with heap := s1.heap.update S (Obj.mapSeq (·.push v)) } rfl rfl (fun b o hb e => (Heap.get?_update_other _ _ (fun h : S = b => hb (by rw [h]; exact List.mem_singleton.mpr rfl))).trans e) (fun b hb => ?_) (lRel_push e1 r1 rv)).1
      · omega
      · rw [List.mem_singleton.mp hb]
        exact ⟨_, Heap.get?_update_self _ e1 rfl, fun v q => by cases q⟩
    · exact wpAny_pure (hR ys H' s1 aw hrl dn)
  | succ n ih =>
    intro s L
    refine codeAny_builtin F.entry_extend_loop ?_
    rw [Around.under_plainId F.plain_extend_loop _]
    show wpAny _ A.in1 (pyNext (.ref a) >>= _) _ _ s
    refine wpAny_bind (next (A := A.in1) hh hd lStable (by simpa using hSa) (by simpa using hSc) L (fun ys x v H' s1 h00 hn rv aw hrl md hgo => ?_) fun ys H' s1 h00 hn aw hrl dn => ?_)
    · obtain ⟨acc, c1, e1, r1⟩ := hrl
      have hz : ys.length < sizeLine := md
      have hz1 := sl r1
      show wpAny _ A.in1 (updateSeq S (·.push v) >>= _) _ _ _
      refine wpAny_bind ?_
      refine wpAny_updateSeq e1 rfl (wpAny_pure ⟨plainId_quiet F.plain_extend_loop _, ih _ (hgo trivial { s1 with heap := s1.heap.update S (Obj.mapSeq (·.push v)) } rfl rfl (fun b o hb e => ?_) (fun b hb => ?_) (lRel_push e1 r1 rv)).2⟩) (by omega) (by show (acc.push v).size ≤ sizeLine + 1; rw [Array.size_push]; omega)
      · exact (Heap.get?_update_other _ _ (fun h : S = b => hb (by rw [h]; exact List.mem_singleton.mpr rfl))).trans e
      · rw [List.mem_singleton.mp hb]
        exact ⟨_, Heap.get?_update_self _ e1 rfl, fun v q => by cases q⟩
    · exact wpAny_pure (hR ys H' s1 aw hrl dn)

theorem collect_gx {A : Around} {D : List V → Hp → Prop} {s : Shared} {u : Value} {Q : List Value → Shared → Prop} {E : Value → Shared → Prop} (M : Made X k H1 sc fp (kLst D) u s) (hr : Room k A.in1.in1) (hfr : A.frames = some X.stack)
    (hQ : ∀ ys acc S a g H' s', Aw X sc fp H1 a g [S] H' s' → Vals ys acc → D ys H' → Q acc s') : wpAny (model X.prog X.w) A (collect u) Q E s := by
  have hM := fun s2 => M.live (A := A.in1) (s2 := s2) hr hfr
  obtain ⟨a, g, c, N0, rfl, q1, q2, q3, q4, q5, q6, q7, _⟩ := id M
  have hcl : cStatics < s.heap.objs.size := let ⟨_, hn, _⟩ := q7; hn.lt
  have hSI : s.heap.objs.size ≠ a := Nat.ne_of_gt q2
  unfold collect
  refine wpAny_bind (wpAny_runValue (codeAny_builtin F.entry_proto_collect ?_))
  rw [Around.under_plainId F.plain_proto_collect _]
  show wpAny _ A.in1 (newList [] >>= fun l => again (.builtin "list.__iadd__" ⟨[l, .ref a], []⟩)) _ _ s
  refine wpAny_bind (wpAny_newObj_type ?_)
  refine wpAny_pure ⟨plainId_quiet F.plain_list_iadd _, codeAny_builtin F.entry_list_iadd ?_⟩
  rw [Around.under_plainId F.plain_list_iadd _]
  have kp : ∀ b o, s.heap.get? b = some o → (s.heap.push { cls := .type "list", data := .seq ([] : List Value).toArray }).get? b = some o := fun b o e => Heap.get?_push_of_some _ e
  show wpAny _ A.in1 (Builtin.List.listExtendWith (.ref s.heap.objs.size) (.ref a) (.ref s.heap.objs.size)) _ _ _
  unfold Builtin.List.listExtendWith
  refine wpAny_bind (wpAny_typeOf (Heap.IsGen.typeIs (s := { s with heap := _ }) (q3.keeps kp)) ?_)
  have h1 : Builtin.List.listSameRef (.ref s.heap.objs.size) (.ref a) = false := by simp [Builtin.List.listSameRef, hSI]
  have h2 : (Value.type "generator" == Value.type "list") = false := by decide
  have h3 : (Value.type "generator" == Value.type "tuple") = false := by decide
  simp only [h1, h2, h3, Bool.or_false, Bool.false_eq_true, if_false]
  refine wpAny_bind (wpAny_pyIter_gen (s := { s with heap := _ }) (q3.keeps kp) ?_)
  refine wpAny_bind (wpAny_holding ?_)
  unfold Builtin.List.listLengthHint
  refine wpAny_bind (wpAny_specialOf (Heap.IsGen.typeIs (s := { s with heap := _ }) (q3.keeps kp)) F.gen_no_len ?_)
  show wpAny _ A.in1 (specialOf (Value.ref a) (Str.ofString "__length_hint__") >>= _) _ _ _
  refine wpAny_bind (wpAny_specialOf (Heap.IsGen.typeIs (s := { s with heap := _ }) (q3.keeps kp)) F.gen_no_hint ?_)
  refine wpAny_pure ?_
  show wpAny _ A.in1 (rule "list.extend.makes-room" >>= fun _ => Builtin.List.listTouch (.ref s.heap.objs.size) >>= fun _ =>
    again (.builtin "list.extend.loop" ⟨[.ref s.heap.objs.size, .ref a, .ref s.heap.objs.size], []⟩)) _ _ _
  refine wpAny_bind (wpAny_rule ?_)
  have hS₁ : (s.heap.push { cls := .type "list", data := .seq ([] : List Value).toArray }).get? s.heap.objs.size = some { cls := .type "list", data := .seq ([] : List Value).toArray } := Heap.get?_push_size _ rfl
  refine wpAny_bind ?_
  show wpAny _ A.in1 (updateSeq s.heap.objs.size (·.push .none) >>= fun _ => updateSeq s.heap.objs.size (·.pop)) _ _ _
  refine wpAny_bind (wpAny_updateSeq hS₁ rfl ?_)
  have hS₂ := Heap.get?_update_self (Obj.mapSeq (·.push Value.none)) hS₁ rfl
  refine wpAny_updateSeq hS₂ rfl ?_
  have hS₃ := Heap.get?_update_self (Obj.mapSeq (·.pop)) hS₂ rfl
  have oth : ∀ b o, b ≠ s.heap.objs.size → (s.heap.push { cls := .type "list", data := .seq ([] : List Value).toArray }).get? b = some o →
      (((s.heap.push { cls := .type "list", data := .seq ([] : List Value).toArray }).update s.heap.objs.size (Obj.mapSeq (·.push Value.none))).update s.heap.objs.size (Obj.mapSeq (·.pop))).get? b = some o :=
    fun b o hb e => (Heap.get?_update_other _ _ (Ne.symm hb)).trans ((Heap.get?_update_other _ _ (Ne.symm hb)).trans e)
  obtain ⟨a', g', N, e', h1, h2, h3, h4, h5, h6, h7, h8⟩ := hM { s with heap := ((s.heap.push { cls := .type "list", data := .seq ([] : List Value).toArray }).update s.heap.objs.size (Obj.mapSeq (·.push Value.none))).update s.heap.objs.size (Obj.mapSeq (·.pop)) }
  cases e'
  refine wpAny_pure ⟨plainId_quiet F.plain_extend_loop _, ext_loop (A := A) (S := s.heap.objs.size) (N := N) (g := g') (D := D) hr.hd (by have := hr.dp; show A.depth < _; have e9 : A.in1.in1.depth = A.depth := rfl; omega) (Ne.symm hSI) (Nat.ne_of_lt hcl) (fun ys H' s' aw hrl dn => ?_) N _
    (h8 [s.heap.objs.size] (lRel s.heap.objs.size) (fun b hb => by rw [List.mem_singleton.mp hb]; exact Nat.le_refl _) lStable (fun b o e => oth b o (Nat.ne_of_lt (Heap.lt_size e)) (kp b o e)) (fun b hb => by rw [List.mem_singleton.mp hb]; exact ⟨_, hS₃, fun v q => by cases q⟩) rfl rfl ⟨_, _, hS₃, .nil⟩)⟩
  obtain ⟨acc, c1, e1, r1⟩ := hrl
  show wpAny _ A (load s.heap.objs.size >>= _) _ _ s'
  refine wpAny_bind (wpAny_load e1 ?_)
  exact wpAny_pure (hQ ys acc.toList s.heap.objs.size a g' H' s' aw r1 dn)

/-! ### tuple(g) -/
def kTup (Q : VK) : GK := kLst fun ys H => ys.length ≤ sizeLine ∧ ∀ p, H p = none → Q (.ref p) (upd H p (.tup ys))
def tTupG (tg : TGS) : TE := fun σ H Q => tg σ H (kTup Q)
variable {e : Expr} {tg : TGS} {p pos : Pos}
theorem pe_tupG (h : PSrc X k e tg) (hr : Room (k + 4) X.A) (hg : Gl X "tuple") (hm : X.mg "tuple" = none) (hv : bootBuiltins "tuple" = some (.type "tuple")) (he : starEach [e] X.env = (false, eval e X.env) :: starEach [] X.env := by rfl) :
    PE X (.Call (.Name "tuple" p) [e] [] pos) (tTupG tg) := by
  refine ⟨fun pins s σ H Q I hq => ?_⟩
  refine wpAny_Call_Name_kw (ld_blt I hg hm hv ?_)
  refine PyProof.Rows.callWith_type1 ?_ he rfl
  rw [he]
  show wpAny _ _ (spliced ((false, eval e X.env) :: backTo pos (starEach [] X.env))) _ _ s
  refine Calls.spliced_cons (thn (h.run pins s σ H _ I hq) fun u s1 ⟨H1, sc, fp, I1, hex, M⟩ => ?_)
  refine Calls.spliced_nil ?_
  have hT : s1.TypeIs u "generator" := by
    obtain ⟨a, g, c, N, rfl, _, _, h3, _⟩ := id M
    exact h3.typeIs
  have main : codeAny (model X.prog X.w) X.A.in1 (.call (.builtin "tuple.__new__") ⟨[.type "tuple", u], []⟩) (wants (fun obj s2 => s2.TypeIs obj "tuple" ∧ EP X pins σ Q obj s2) X.xe) s1 := by
    refine codeAny_of_tree ?_
    show wpAny _ X.A.in1.in1 (do checkBuiltinCall "tuple.__new__" ⟨[.type "tuple", u], []⟩; again (.builtin "tuple.__new__" ⟨[.type "tuple", u], []⟩)) _ _ s1
    refine wpAny_bind (wpAny_of_eq (F.newCall_tuple_1 _) (wpAny_pure ⟨plainId_quiet F.plain_tuple_new _, codeAny_builtin F.entry_tuple_new ?_⟩))
    rw [Around.under_plainId F.plain_tuple_new _]
    have hsub := sub_tuple_self
    have hinit := init_tuple_lookup
    have hmh := madeHere_tuple
    have cg := fun (Q : List Value → Shared → Prop) (E : Value → Shared → Prop) hQ => collect_gx (A := X.A.in1.in1) (Q := Q) (E := E) M hr.in1.in1.in1.in1 I1.ok.frames hQ
    obtain ⟨a, g, c, N, rfl, _⟩ := id M
    wp_walk using wpAny_typeOf hT, cg
    intro ys acc S a' g' H' s' aw r dn
    obtain ⟨hz, dn⟩ := dn
    show wpAny _ _ (Builtin.Tuple.tupleExact acc.toArray >>= fun v => ret v) _ _ _
    unfold Builtin.Tuple.tupleExact
    refine wpAny_bind (wpAny_newObj_type ?_ (by show acc.toArray.size ≤ sizeLine; rw [List.size_toArray, ← r.length]; exact hz))
    refine wpAny_pure ⟨⟨_, Heap.get?_push_size _ rfl, rfl⟩, ?_⟩
    have I2 := back I1 hex aw
    have hf : H' s'.heap.objs.size = none := I2.hok.fresh (Nat.le_refl _)
    refine ⟨.ref s'.heap.objs.size, upd H' s'.heap.objs.size (.tup ys), I2.laid (t' := s'.toks) (fun b u e => Heap.get?_push_of_some _ e) (Nat.le_refl _) ?_, rfl, dn _ hf⟩
    exact ⟨hz, acc, r, ⟨_, Heap.get?_push_size _ rfl, rfl, _, rfl⟩⟩
  refine callType_codes (Q₁ := fun obj s₁ => s₁.TypeIs obj "tuple" ∧ EP X pins σ Q obj s₁) F.called_tuple (F.typeCall_tuple_1 _) F.entry_object_init main fun obj s₁ h₁ => ?_
  exact ⟨h₁.1, F.args_object_init_2 obj _, object_init_meets F.called_tuple.init.lookup F.called_tuple.made (by decide) X.prog X.w X.A.in1 _ s₁ ⟨h₁.1, rfl, h₁.2⟩⟩
end
end Gx

set_option maxRecDepth 100000
set_option maxHeartbeats 4000000
namespace Gx
open PySem PySem.Spec PyProof.Rows L2 GenW

/-! ### defs whose code object is known by its address (for their generator expressions) -/
structure FunT (K : PySem.W.Frag) (x qual : Str) (st : Stmt) (f : Addr) (fd : FuncData) (c : Addr) : Prop where
  ex : ∃ (oc : Value) (od : Option Addr) (kV doc pm : Value) (an : Option Addr) (ct : Value) (osl : Array (Option Value)),
    fd = PySem.W.fnOf x qual (defArgs st) (defBody st) (defScope st) .none kV doc pm an (.ref c) ct ∧ K.lookup f = some ⟨oc, od, .func fd, osl⟩ ∧ PySem.W.codeIn K (.ref c) qual = true
  kp : PySem.W.keepIn K (.ref f) = true
section
variable {P : Program} {w : World} {K : PySem.W.Frag} {mg : Str → Option Value} {base : Heap}
theorem FunT.toFun {x qual : Str} {st : Stmt} {f c : Addr} {fd : FuncData} (F : FunT K x qual st f fd c) : Fun K x qual st f fd := by
  obtain ⟨oc, od, kV, doc, pm, an, ct, osl, e, l, h⟩ := F.ex
  exact ⟨⟨oc, od, kV, doc, pm, an, .ref c, ct, osl, e, l, h⟩, F.kp⟩
theorem funT_mk {x qual : Str} {st : Stmt} {f c : Addr} {oc : Value} {od an : Option Addr} {osl : Array (Option Value)} {kV doc pm ct : Value} (l : K.lookup f = some ⟨oc, od, .func (PySem.W.fnOf x qual (defArgs st) (defBody st) (defScope st) .none kV doc pm an (.ref c) ct), osl⟩)
    (h : PySem.W.codeIn K (.ref c) qual = true) (k : PySem.W.keepIn K (.ref f) = true) : FunT K x qual st f (PySem.W.fnOf x qual (defArgs st) (defBody st) (defScope st) .none kV doc pm an (.ref c) ct) c := ⟨⟨oc, od, kV, doc, pm, an, ct, osl, rfl, l, h⟩, k⟩
theorem FunT.ok {x qual : Str} {st : Stmt} {f c : Addr} {fd : FuncData} {N ps : List Str} {k : Nat} {sp : Sp} (F : FunT K x qual st f fd c) (S : FnScope N ps (defScope st)) (len : ∀ vs H Q E, sp vs H Q E → vs.length = ps.length)
    (hbody : ∀ (A : Around) (outer : List Env) (s : Shared) (H : Hp) (vs : List V) (Q : VK) (E : XK), Room k (A.deeper (envOfC qual (defScope st) s.heap.objs.size f (.ref c))) → sp vs H Q E →
      ∃ t, PSs (cxOf CX0 P w K mg base N qual (defScope st) f (.ref c) A outer s H E).nox (defBody st) t ∧ t { nx := fun _ H' => Q .non H', rt := Q } (start N vs) H) : FnOk P w K mg base CX0 (k + 1) f fd ps sp := by
  obtain ⟨oc, od, kV, doc, pm, an, ct, osl, rfl, lk, hcd⟩ := F.ex
  refine fn_of lk hcd S len fun A outer s H vs Q E hr hsp => ?_
  obtain ⟨t, h, q⟩ := hbody A outer s H vs Q E hr hsp
  exact ⟨t, h.nox, q⟩

/-! ### defs that are called where no repr runs -/
structure FnG (P : Program) (w : World) (K : PySem.W.Frag) (mg : Str → Option Value) (base : Heap) (k : Nat) (f : Addr) (fd : FuncData) (ps : List Str) (sp : Sp) : Prop where
  len : ∀ vs H Q E, sp vs H Q E → vs.length = ps.length
  run : ∀ (A : Around) (outer : List Env) (s : Shared) (H : Hp) (args : Args) (us : List Value) (vs : List V) (Q : VK) (E : XK), A.guards = some [] → Room k A → Env0 P w K mg base A outer s H → BindsTo s fd args (ps.zip us) → Vals vs us → sp vs H Q E →
    codeAny (model P w) A (.call (.ref f) args) (CR CX0 outer P w H s Q E) s
theorem okG {x qual : Str} {st : Stmt} {f : Addr} {fd : FuncData} {N ps : List Str} {k : Nat} {sp : Sp} (F : Fun K x qual st f fd) (S : FnScope N ps (defScope st)) (len : ∀ vs H Q E, sp vs H Q E → vs.length = ps.length)
    (hbody : ∀ (cdv : Value) (A : Around) (outer : List Env) (s : Shared) (H : Hp) (vs : List V) (Q : VK) (E : XK), A.guards = some [] → Room k (A.deeper (envOfC qual (defScope st) s.heap.objs.size f cdv)) → sp vs H Q E →
      ∃ t, PSs (cxOf CX0 P w K mg base N qual (defScope st) f cdv A outer s H E).nox (defBody st) t ∧ t { nx := fun _ H' => Q .non H', rt := Q } (start N vs) H) : FnG P w K mg base (k + 1) f fd ps sp := by
  obtain ⟨oc, od, kV, doc, pm, an, cdv, ct, osl, rfl, lk, hcd⟩ := F.ex
  refine ⟨len, fun A outer s H args us vs Q E hgd hr e0 hb r hsp => ?_⟩
  have hl := len _ _ _ _ hsp
  have old : ∀ b o, base.get? b = some o → s.heap.get? b = some o := fun b o e => (e0.bs b o e).1
  have KX : K.In s.heap := e0.mod.kin.keeps old
  have own : ∀ y ∈ ps.zip us, (defScope st).names.lookup y.1 = some .local ∨ ((defScope st).names.lookup y.1 = some .cell ∧ ((cellsFrom (s.heap.objs.size + 1) (defScope st).names []).lookup y.1).isSome = true) := by
    rintro ⟨n, v⟩ hy
    rcases S.par n (List.of_mem_zip hy).1 with q | q
    · exact .inl q
    · exact .inr ⟨q, PySem.W.cellsFrom_some _ _ _ (.inl q)⟩
  refine codeAny_call_function hr.depth (KX _ _ lk) rfl S.co S.gen rfl (PySem.W.codeRec_of KX hcd) (hb _ _ _ _ ?_)
  refine wpAny_newFunctionEnv_cells S.kind own ?_
  rintro env rfl s1 x
  refine ⟨(e0.mod.nolimit.keeps old).keeps x.toInCall.keep, codeAny_func ?_⟩
  obtain ⟨t, ht, hq⟩ := hbody cdv A outer s H vs Q E hgd (hr.deeper _) hsp
  have I := inv_start (CX := CX0) (E := E) S hr.hd e0 hl r x
  refine wpAny_mono (ht.nox.run [] s1 (start N vs) H _ I hq) (fun fl s' hs => ?_) fun e s' hs => hs
  cases fl with
  | ret u =>
    obtain ⟨v, σ', H', J, rv, q⟩ := hs
    exact ⟨v, H', J.os, J.bare, J.base, J.hok, rv, q⟩
  | next =>
    obtain ⟨σ', H', J, q⟩ := hs
    exact ⟨.non, H', J.os, J.bare, J.base, J.hok, rfl, q⟩
  | brk => exact let ⟨_, _, _, q⟩ := hs; q.elim
  | cont => exact let ⟨_, _, _, q⟩ := hs; q.elim

section
variable {X : Cx} {k : Nat} {f : Addr} {fd : FuncData} {ps : List Str} {sp : Sp} {x : Str} {p pos : Pos} {e : Expr} {es : List Expr} {t : TA}
theorem pe_callG (F : FnG X.prog X.w X.K X.mg X.base k f fd ps sp) (hgd : X.A.guards = some []) (hr : Room k X.A) (hg : Gl X x) (hm : X.mg x = some (.ref f)) (hk : PySem.W.keepIn X.K (.ref f) = true) (hb : Binds X.K fd ps [])
    (ha : PA X (e :: es) t) (hdb : (x == ("__debug__" : Str)) = false := by decide) (he : starEach (e :: es) X.env = (false, eval e X.env) :: starEach es X.env := by rfl) (hpl : (backTo pos (starEach es X.env)).any (·.1) = false := by rfl) :
    PE X (.Call (.Name x p) (e :: es) [] pos) (fun σ H Q => t σ H fun vs H1 => sp vs H1 Q E0) := by
  refine ⟨fun pins s σ H Q I h => ?_⟩
  refine wpAny_Call_Name_kw (ld_glob I hg hm ?_ hdb)
  refine PySem.W.callWith_K (h₀ := X.base) I.ok.mod.kin hk (thn (ha.run pos pins s σ H _ I h) fun us s1 ⟨vs, H1, I1, r, q⟩ => ⟨I1.kIn, ?_⟩) he hpl
  have hl : (us ++ []).length = ps.length := by
    rw [List.append_nil, ← r.length]
    exact F.len _ _ _ _ q
  have hb1 := hb s1 us I1.kIn hl
  rw [List.append_nil] at hb1
  refine wpAny_call (codeAny_mono (F.run X.A X.stack s1 H1 ⟨us, []⟩ us vs Q E0 hgd hr I1.env0 hb1 r q) fun r s' hq => ?_)
  cases r with
  | error e => exact False.elim hq
  | ok fl =>
    cases fl with
    | ret u => exact I1.after hq
    | next => exact False.elim hq
    | brk => exact False.elim hq
    | cont => exact False.elim hq

/-! ### repr of data -/
/-- data that repr writes -/
structure Shows (d : PyData) : Prop where
  show_ : d.showable = true
  nod : d.hasDict = false
  dep : d.depth ≤ 60
  size : d.shown.length ≤ sizeLine
  int : ∀ i, d = .int i → i.natAbs.log2 < 1920
  str : ∀ x, d ≠ .str x
def rRepr (K : PySem.W.Frag) : List V → Hp → VK → Prop := fun xs H Q => ∃ x d, xs = [x] ∧ Dp K H x d ∧ Shows d ∧ Q (.str d.shown) H
theorem call_repr (hgd : X.A.guards = some []) (hu : X.A.units + 65 < cLine) : CallR X (.builtin "repr") (rRepr X.K) := by
  intro pins s σ H xs us Q I r h
  obtain ⟨x, d, rfl, hd, S, q⟩ := h
  cases r with
  | cons r1 r2 =>
    rename_i u ut
    cases r2
    obtain ⟨as, rd⟩ := Dp.reads I d x u hd r1
    have ref : ∀ a, u = .ref a → wpAny (model X.prog X.w) X.A (call (.builtin "repr") [u]) (EP X pins σ Q) X.xe s := by
      rintro a rfl
      have := S.dep
      exact repr_of_reads' rd S.show_ (PyData.noDict_hsm S.nod) hgd (by omega) (fun _ _ e => e) (fun h' u tk hk => ⟨.str d.shown, H, I.kept (t' := tk) hk, ⟨u, rfl⟩, q⟩) S.size
    cases rd with
    | none => exact PySem.P.repr_of_none ⟨.str _, H, I.tok _, ⟨_, rfl⟩, q⟩
    | bool b => exact PySem.P.repr_of_bool ⟨.str _, H, I.tok _, ⟨_, rfl⟩, q⟩
    | int i t => exact PySem.P.repr_of_int (S.int i rfl) ⟨.str _, H, I.tok _, ⟨_, rfl⟩, q⟩
    | str z t => exact absurd rfl (S.str z)
    | list _ _ _ _ => exact ref _ rfl
    | tuple _ _ _ _ => exact ref _ rfl
    | dict _ _ _ _ _ => exact ref _ rfl
end
end
end Gx

set_option maxRecDepth 100000
set_option maxHeartbeats 4000000
namespace Gx
open PySem PySem.Spec PyProof.Rows L2 GenW

/-- the abstract heap at the law's entry: the tables ts, and the script where it is none of the module's own objects -/
def entryH (K : PySem.W.Frag) (a : Addr) (o : Obj) (ns : List Int) (ts : List Addr) : Hp := fun b =>
  if b ∈ ts then some (.tbl #[]) else if b = a ∧ (K.lookup a).isNone = true then some (.frz o (.lst (ns.map V.int))) else none
section
variable {K : PySem.W.Frag} {a : Addr} {o : Obj} {ns : List Int} {ts : List Addr}
theorem entryH_tab {b : Addr} (h : b ∈ ts) : entryH K a o ns ts b = some (.tbl #[]) := if_pos h
theorem entryH_cases (b : Addr) : entryH K a o ns ts b = none ∨ (b ∈ ts ∧ entryH K a o ns ts b = some (.tbl #[])) ∨ (b ∉ ts ∧ b = a ∧ K.lookup a = none ∧ entryH K a o ns ts b = some (.frz o (.lst (ns.map V.int)))) := by
  by_cases h1 : b ∈ ts
  · exact .inr (.inl ⟨h1, entryH_tab h1⟩)
  · by_cases h2 : b = a ∧ (K.lookup a).isNone = true
    · exact .inr (.inr ⟨h1, h2.1, Option.isNone_iff_eq_none.mp h2.2, (if_neg h1).trans (if_pos h2)⟩)
    · exact .inl ((if_neg h1).trans (if_neg h2))
end
abbrev tab0 : Obj := { cls := .none, data := .fields #[] }
abbrev scrObj (vs : List Value) : Obj := { cls := .type "list", data := .seq vs.toArray }

/-- the law's call, where its promise holds with no repr around -/
theorem enterG {P : Program} {w : World} {K : PySem.W.Frag} {mg mb : Str → Option Value} {k : Nat} {fa a : Addr} {cs : List (Addr × Addr)} {fd : FuncData} {x : Str} {sp : Sp} {s : Shared} {vs : List Value} {ns : List Int}
    (KX : K.In s.heap) (gl : s.heap.Ns mainGlobals mg) (bl : s.heap.Ns builtinsNs mb) (bb : ∀ x : Str, x ≠ "__name__" → mb x = bootBuiltins x) (lim : s.heap.NoLimit) (g0 : s.gens = #[])
    (hT : ∀ p ∈ cs, s.heap.get? p.2 = some tab0 ∧ K.lookup p.2 = none ∧ PySem.W.CodeHd s.heap p.1 p.2)
    (bm : ∃ (bm : Addr) (ob : Obj), mg "__builtins__" = some (.ref bm) ∧ bm ≠ builtinsNs ∧ s.heap.get? bm = some ob ∧ ob.cls = .type "module" ∧ ob.dict = some builtinsNs ∧ ob.data = .plain)
    (ha : s.heap.get? a = some (scrObj vs)) (hi : IntsAre vs ns) (hl : ns.length ≤ sizeLine) (hr : Room k callerA) (hbind : ∀ (s : Shared) (u : Value), BindsTo s fd ⟨[u], []⟩ [(x, u)])
    (F : ∀ base : Heap, K.In base → base.Ns mainGlobals mg → (∀ p ∈ cs, GxR.TabB base mg p.1 p.2) → FnG P w K mg base k fa fd [x] sp)
    (hsp : ∀ H : Hp, (∀ p ∈ cs, GxR.TabG H p.2) → SqL K H a (ns.map V.int) → sp [.ref a] H (fun v _ => v = .bl true) E0) :
    codeAny (model P w) callerA (.call (.ref fa) ⟨[.ref a], []⟩) (fun r s' => r = .ok (.ret (.bool true)) ∧ OldK s.heap s'.heap ∧ s'.os = s.os ∧ AllBare s'.gens) s := by
  have rv := vals_ints hi
  have lenV := hi.length
  generalize hts : cs.map (·.2) = ts
  have tsT : ∀ b ∈ ts, s.heap.get? b = some tab0 ∧ K.lookup b = none := fun b hb => by
    rw [← hts] at hb
    obtain ⟨p, hp, rfl⟩ := List.mem_map.mp hb
    exact ⟨(hT p hp).1, (hT p hp).2.1⟩
  have inT : ∀ p ∈ cs, p.2 ∈ ts := fun p hp => by rw [← hts]; exact List.mem_map.mpr ⟨p, hp, rfl⟩
  have aT : a ∉ ts := fun hb => by
    have q := (tsT a hb).1
    rw [ha] at q
    exact absurd (congrArg Obj.data (Option.some.inj q)) (by intro z; cases z)
  generalize hH : entryH K a (scrObj vs) ns ts = H
  have cases_ : ∀ b, H b = none ∨ (b ∈ ts ∧ H b = some (.tbl #[])) ∨ (b ∉ ts ∧ b = a ∧ K.lookup a = none ∧ H b = some (.frz (scrObj vs) (.lst (ns.map V.int)))) := fun b => by rw [← hH]; exact entryH_cases b
  have tabs : ∀ p ∈ cs, H p.2 = some (.tbl #[]) := fun p hp => by rw [← hH]; exact entryH_tab (inT p hp)
  have hS : SqL K H a (ns.map V.int) := by
    cases hk : K.lookup a with
    | none => exact .inl (.inr ⟨scrObj vs, by rw [← hH]; exact (if_neg aT).trans (if_pos ⟨rfl, by rw [hk]; rfl⟩)⟩)
    | some u =>
      have e := KX a u hk
      rw [ha] at e
      cases e
      exact .inr ⟨_, vs.toArray, _, hk, rfl, rfl, rfl, by rw [List.size_toArray, lenV]; exact hl, by simpa using rv⟩
  have hok : HOk P w H s.heap := fun b u e => by
    rcases cases_ b with z | ⟨hb, z⟩ | ⟨_, rfl, _, z⟩
    · rw [z] at e; cases e
    · rw [z] at e; cases e
      exact (tsT b hb).1
    · rw [z] at e; cases e
      exact ⟨ha, by rw [List.length_map]; exact hl, vs, _, rv, ha⟩
  -- what is no list and no empty table is not tracked
  have clear : ∀ {b : Addr} {o : Obj}, s.heap.get? b = some o → (∀ ys n, o.data ≠ .seq ys n) → o.data ≠ .fields #[] → H b = none := fun {b o} e h1 h2 => by
    rcases cases_ b with z | ⟨hb, _⟩ | ⟨_, rfl, _, _⟩
    · exact z
    · rw [(tsT b hb).1] at e; cases e
      exact absurd rfl h2
    · rw [ha] at e; cases e
      exact absurd rfl (h1 _ _)
  have nsB : ∀ {b : Addr} {m : Str → Option Value}, s.heap.Ns b m → (hidT s.heap H).Ns b m := fun {b m} ⟨o, es, ep, e, d, r⟩ =>
    ⟨o, es, ep, hidT_get e (clear e (fun ys n z => by rw [d] at z; cases z) fun z => by rw [d] at z; cases z), d, r⟩
  have kB : K.In (hidT s.heap H) := fun b o e => hidT_get (KX b o e) (by
    rcases cases_ b with z | ⟨hb, _⟩ | ⟨_, rfl, hk, _⟩
    · exact z
    · rw [(tsT b hb).2] at e; cases e
    · rw [hk] at e; cases e)
  have modB : L2.Mod K mg (hidT s.heap H) := ⟨kB, nsB gl, ⟨mb, nsB bl, bb⟩, let ⟨mc, h1, h2⟩ := lim; ⟨mc, nsB h1, h2⟩⟩
  have noGl : ∀ {b : Addr} {o : Obj}, s.heap.get? b = some o → (∀ es ep, o.data ≠ .dict es ep) → b ≠ mainGlobals := fun {b o} e h z => by
    obtain ⟨o', es, ep, e', hd, _⟩ := gl
    rw [← z, e] at e'
    cases e'
    exact h _ _ hd
  have tb : ∀ p ∈ cs, GxR.TabB (hidT s.heap H) mg p.1 p.2 := fun p hp => by
    obtain ⟨t1, _, o, us, file, tf, flags, tg, inF, text, tt, e1, r1, r2, r3, r⟩ := hT p hp
    obtain ⟨b, ob, b1, b2, b3, b4, b5, b6⟩ := bm
    refine ⟨⟨o, us, file, tf, flags, tg, inF, text, tt, hidT_get e1 (clear e1 (fun ys n z => by rw [r2] at z; cases z) fun z => ?_), r1, r2, r3, r⟩,
      ⟨b, ob, b1, b2, noGl b3 (fun es ep z => by rw [b6] at z; cases z), fun q => ?_, hidT_get b3 (clear b3 (fun ys n z => by rw [b6] at z; cases z) fun z => by rw [b6] at z; cases z), b4, b5, b6⟩, (noGl t1 (fun es ep z => by cases z)).symm⟩
    · rw [r2] at z
      cases z
      simp at r3
    · rw [q, t1] at b3
      cases b3
      cases b6
  have e0 : Env0 P w K mg (hidT s.heap H) callerA [] s H :=
    ⟨rfl, modB, fun b o e => of_hidT e, Nat.le_of_eq (hidT_size _ _), trivial, (fun b hb => absurd (show b ∈ ([] : List Addr) from hb) (by simp)), hok, .of_eq g0⟩
  refine codeAny_mono ((F _ kB (nsB gl) tb).run callerA [] s H ⟨[.ref a], []⟩ [.ref a] [.ref a] _ E0 rfl hr e0 (hbind s (.ref a)) (.cons rfl .nil) (hsp H (fun p hp => ⟨#[], tabs p hp, by
    unfold TriplesOk
    trivial⟩) hS)) fun r s' h => ?_
  cases r with
  | error e => exact False.elim h
  | ok fl =>
    cases fl with
    | next => exact False.elim h
    | brk => exact False.elim h
    | cont => exact False.elim h
    | ret u =>
      obtain ⟨v, H', os, bare, un, hok', r', rfl⟩ := h
      obtain rfl : u = Value.bool true := r'
      have same : ∀ b o, b ∉ ts → s.heap.get? b = some o → s'.heap.get? b = some o := fun b o hb e => by
        rcases cases_ b with z | ⟨h1, _⟩ | ⟨_, rfl, _, z⟩
        · exact un.keep b o e z (by intro y; cases y) (by intro y; cases y)
        · exact absurd h1 hb
        · have z1 := (hok b _ z).1
          have z2 := (hok' b _ (un.frzs b _ _ z)).1
          rw [e] at z1
          cases z1
          exact z2
      have tabG : ∀ b ∈ ts, ∃ more : Array Value, s'.heap.get? b = some { cls := .none, data := .fields more } := fun b hb => by
        obtain ⟨more, z⟩ := un.tbls b #[] (by rw [← hH]; exact entryH_tab hb)
        exact ⟨_, hok' b _ z⟩
      refine ⟨rfl, ⟨fun b o e => ?_, fun b o e => ?_⟩, os, bare⟩
      · by_cases hb : b ∈ ts
        · obtain ⟨more, hm⟩ := tabG b hb
          have hb2 := hb
          rw [← hts] at hb2
          obtain ⟨p, hp, rfl⟩ := List.mem_map.mp hb2
          obtain ⟨t1, _, C⟩ := hT p hp
          rw [t1] at e
          cases e
          exact .inr (.inl ⟨(C.tab t1).isCodeTable, rfl, #[], more, rfl, by rw [Array.empty_append]; exact hm⟩)
        · exact .inl (same b o hb e)
      · by_cases hb : b ∈ ts
        · obtain ⟨more, hm⟩ := tabG b hb
          exact ⟨_, hm⟩
        · exact ⟨o, same b o hb e⟩

/-- what is to be shown of the law's promise at the head's heap -/
def LawG (l : PySem.W.OpenLaw) (w : World) (K : PySem.W.Frag) (k n : Nat) (x : Str) (mg : Str → Option Value) (fa : Addr) (h : Heap) : Prop :=
  ∃ (fd : FuncData) (cs : List (Addr × Addr)) (sp : Sp), (∀ p ∈ cs, h.get? p.2 = some tab0 ∧ K.lookup p.2 = none ∧ PySem.W.CodeHd h p.1 p.2) ∧ (∀ (s : Shared) (u : Value), BindsTo s fd ⟨[u], []⟩ [(x, u)]) ∧
    (∀ (H : Hp) (a : Addr) (ns : List Int), ns.length ≤ n → (∀ z ∈ ns, Builtin.Int.intBits z ≤ 1048576) → (∀ p ∈ cs, GxR.TabG H p.2) → SqL K H a (ns.map V.int) → sp [.ref a] H (fun v _ => v = .bl true) E0) ∧
    ∀ base : Heap, K.In base → base.Ns mainGlobals mg → (∀ p ∈ cs, GxR.TabB base mg p.1 p.2) → FnG l.prog w K mg base k fa fd [x] sp
theorem walkG {l : PySem.W.OpenLaw} {n k : Nat} {q : Program} {loose : List Str} {XP : (Str → Option Value) → Heap → Prop} {YP : World → Heap → Prop} {d : DefRec} {K : Params → PySem.W.Frag} {x : Str}
    (hn : l.most = some n) (hn2 : n ≤ sizeLine) (hdf : d.params.defaults = []) (hr : Room k callerA) (hY : ∀ (w : World) (h : Heap), YP w h → (K w.params).In h)
    (F : ∀ (w : World) (mg : Str → Option Value) (fa : Addr) (h : Heap), (K w.params).In h → h.Ns mainGlobals mg → mg d.name = some (.ref fa) →
      (∀ (d' : DefRec) (y : Str) (c P : Addr), (recsOf q).find? (fun e => e.name == y) = some d' → PySem.W.tabIn (K w.params) y = some (c, P) → PySem.W.CodeHd h c P ∧ h.get? P = some tab0) → LawG l w (K w.params) k n x mg fa h) :
    PySem.W.WalkO q loose XP YP l.row.toRowW d [] (fun f vs => PySem.call f vs) := by
  refine Att.attach_callB hn hdf fun w s₀ s₁ mg mb fa o pm cd doc a vs ns G Y ho hd hcd hmg hobj hints hlen hbits hg => ?_
  have KX := hY w _ Y
  obtain ⟨fd, cs, sp, hT, hb, hsp, hF⟩ := F w mg fa _ KX G.T.g hmg fun d' y c P h1 h2 => PySem.W.tab_of G.T KX h1 h2
  exact enterG KX G.T.g G.T.b G.T.builtins G.T.nolimit hg hT G.T.bmain hobj hints (Nat.le_trans hlen hn2) hr hb hF fun H h1 h2 => hsp H a ns hlen hbits h1 h2
end Gx

set_option maxRecDepth 100000
set_option maxHeartbeats 4000000
namespace Gx
open PySem PySem.Spec PyProof.Rows L2 GenW
open Sem (wp)
open AutoSeq1 (wpAny_loadPart')

/-! ### enumerate over a tuple -/
theorem meets_enumT (a : Addr) (items : Array Value) :
    Meets (Builtin.«enumerate.__new__» ⟨[.type "enumerate", .ref a], []⟩) (fun _ R s => s.heap.IsTuple a items ∧
      R (.ok (.ret (.ref (s.heap.push { cls := .type "tuple_iterator", data := .fields #[.ref a, .int 0 0] }).objs.size)))
        { s with heap := (s.heap.push { cls := .type "tuple_iterator", data := .fields #[.ref a, .int 0 0] }).push { cls := .type "enumerate", data := .fields #[.none, .bool false, .ref s.heap.objs.size, rawInt 0, .none, .none] } }) :=
  .of_wp fun prog w A R s h => by
    obtain ⟨hp, g, d, tk, os⟩ := s
    obtain ⟨hT, h⟩ := h
    have hsub := sub_enumerate
    have q1 : ∀ {A' : Around} {E : Value → Shared → Prop} {Q : Value → Shared → Prop}, Q (.ref hp.objs.size) ⟨hp.push { cls := .type "tuple_iterator", data := .fields #[.ref a, .int 0 0] }, g, d, tk, os⟩ → wpAny (model prog w) A' (pyIter (.ref a)) Q E ⟨hp, g, d, tk, os⟩ :=
      fun q => (begins_tuple a items).iter prog w _ _ ⟨hp, g, d, tk, os⟩ _ hT q
    wp_walk using q1
    refine wpAny_stack_any fun st => wpAny_pure ?_
    split
    · rename_i c _ _ _ _ _
      cases (c == Value.type "enumerate")
      · wp_walk using q1
        exact ⟨_, rfl, h⟩
      · wp_walk using q1
        exact ⟨_, rfl, h⟩
    · wp_walk using q1
      exact ⟨_, rfl, h⟩
theorem call_enumT {prog : Program} {w : World} {A : Around} {E : Value → Shared → Prop} {s : Shared} {a : Addr} {items : Array Value} {Q : Value → Shared → Prop} (hT : s.heap.IsTuple a items)
    (h : ∀ h', IsEnum h' (s.heap.objs.size + 1) s.heap.objs.size 0 .none → h'.IsTupleIter s.heap.objs.size a 0 → h'.objs.size = s.heap.objs.size + 2 →
      (∀ b o, s.heap.get? b = some o → h'.get? b = some o) → Q (.ref (s.heap.objs.size + 1)) { s with heap := h' }) :
    wpAny (model prog w) A (call (.type "enumerate") [.ref a]) Q E s := by
  refine callType_new F.called_enumerate (by decide) (F.typeCall_enumerate_1 _) (F.newCall_enumerate_1 _) (fun obj => F.args_object_init_2 obj _) F.entry_enumerate_new (meets_enumT a items) ⟨hT, ?_⟩
  generalize ho : ({ cls := .type "tuple_iterator", data := .fields #[.ref a, .int 0 0] } : Obj) = o1
  have hz : (s.heap.push o1).objs.size = s.heap.objs.size + 1 := Heap.size_push ..
  show _ ∧ _
  rw [hz]
  have he : IsEnum ((s.heap.push o1).push { cls := .type "enumerate", data := .fields #[.none, .bool false, .ref s.heap.objs.size, rawInt 0, .none, .none] }) (s.heap.objs.size + 1) s.heap.objs.size 0 .none := by
    have q := Heap.get?_push_size (s.heap.push o1) (o := { cls := .type "enumerate", data := .fields #[.none, .bool false, .ref s.heap.objs.size, rawInt 0, .none, .none] }) rfl
    rw [hz] at q
    exact q
  refine ⟨⟨_, he, rfl⟩, h _ he ⟨o1, Heap.get?_push_of_some _ (Heap.get?_push_size _ (by rw [← ho]; rfl)), (by subst ho; rfl), (by subst ho; rfl)⟩ (by rw [Heap.size_push, hz]) fun b o x => Heap.get?_push_of_some _ (Heap.get?_push_of_some _ x)⟩

def IteT (K : PySem.W.Frag) (a : Addr) : It :=
  ⟨fun i H => ∃ xs x, SqT K H a xs ∧ xs[i]? = some x, fun i H v H' => ∃ T x, v = .ref T ∧ H T = none ∧ H' = upd H T (.tup [.int (i : Nat), x]) ∧ ∀ xs, SqT K H a xs → xs[i]? = some x, fun i H => ∃ xs, SqT K H a xs ∧ xs.length ≤ i⟩
theorem turn_enumT {P : Program} {w : World} {K : PySem.W.Frag} {elts : List Expr} {kk : Nat} {tpos : Pos} (a e it : Addr) :
    Turn P w K (.Tuple elts kk tpos) (IteT K a) [e, it] e (fun i h => (∃ old, IsEnum h e it ((i : Nat) : Int) old) ∧ h.IsTupleIter it a i ∧ e ≠ it ∧ a ≠ it ∧ a ≠ e) where
  mem := List.mem_cons_self
  obj := fun i h st b hb => by
    obtain ⟨⟨old, he⟩, ⟨o, ho, _, hd⟩, _⟩ := st
    rcases List.mem_cons.mp hb with z | z
    · exact ⟨_, (by rw [z]; exact he), fun v q => by cases q⟩
    · rw [List.mem_singleton.mp z]
      exact ⟨o, ho, fun v q => by rw [hd] at q; cases q⟩
  keep := fun i h h' st k => let ⟨⟨old, he⟩, hi, r⟩ := st; ⟨⟨old, k e List.mem_cons_self _ he⟩, hi.at fun o q => k it (List.mem_cons_of_mem _ List.mem_cons_self) o q, r⟩
  item := by
    intro X hP hw hK hc i pins s σ H E I hf st hg
    subst hP hw hK
    obtain ⟨⟨old, he⟩, hit, hne, hai, hae⟩ := st
    obtain ⟨xs, x, hq, hx⟩ := hg
    obtain ⟨its, rv, p, hz⟩ := I.tuple hq
    obtain ⟨u, hu, ru⟩ := rv.get hx
    have hel : e < s.heap.objs.size := Heap.lt_size he
    have hil : it < s.heap.objs.size := by obtain ⟨_, q, _⟩ := hit; exact Heap.lt_size q
    have hlt : i < its.toArray.size := by
      rw [List.size_toArray]
      exact (List.getElem?_eq_some_iff.mp hu).1
    refine wpAny_pyNext_enum_itemD (Draws.tuple (A := X.A.in1) (I.ok.hd hc) it a hai its.toArray) he ⟨hit, p⟩ hlt hne (fun z => ?_) fun y h' tk hy ho hst' hT hsz hk => ?_
    · rcases List.mem_cons.mp z with z | z
      · exact hne z
      · exact hae (List.mem_singleton.mp z).symm
    obtain rfl : u = y := by
      have q : its[i]? = some y := by simpa using hy
      rw [hu] at q
      exact Option.some.inj q
    obtain ⟨hit', _⟩ := hst'
    refine ⟨_, rfl, wpAny_letOwnedTupleGo_enum (s := { s with heap := h', toks := tk + 1 }) ho fun h'' he' sb => ?_⟩
    have hT2 : h''.get? s.heap.objs.size = some { cls := .type "tuple", data := .seq #[.int i tk, u] } := (sb.2 _ (Nat.ne_of_gt hel)).trans hT
    have new : ObjOk X.prog X.w (upd H s.heap.objs.size (.tup [.int (i : Nat), x])) h'' s.heap.objs.size (.tup [.int (i : Nat), x]) :=
      ⟨by show 2 ≤ sizeLine; decide, [.int i tk, u], .cons ⟨_, rfl⟩ (.cons ru .nil), ⟨_, hT2, rfl, _, rfl⟩⟩
    have I1 : Inv X pins σ (upd H s.heap.objs.size (.tup [.int (i : Nat), x])) { s with heap := h'', toks := tk + 1 } :=
      I.turnedNew (ch := [e, it]) (fun b ob hb q => (sb.2 b (fun z => hb (by rw [z]; exact List.mem_cons_self))).trans (hk b ob (fun z => hb (by rw [z]; exact List.mem_cons_self)) (fun z => hb (by rw [z]; exact List.mem_cons_of_mem _ List.mem_cons_self)) q)) hf (Nat.le_refl _) new
    refine ⟨.ref s.heap.objs.size, _, I1, rfl, ⟨_, x, rfl, I.hok.fresh (Nat.le_refl _), rfl, fun ys hy => by rw [I.tuple_inj hy hq]; exact hx⟩, ⟨⟨u, ?_⟩, hit'.at fun o q => (sb.2 it (Ne.symm hne)).trans q, hne, hai, hae⟩, fun b hb => ?_⟩
    · have e1 : ((i + 1 : Nat) : Int) = (i : Int) + 1 := by omega
      rw [e1]; exact he'
    · have hb' : b < s.heap.objs.size := by
        rcases List.mem_cons.mp hb with z | z
        · rw [z]; exact hel
        · rw [List.mem_singleton.mp z]; exact hil
      rw [upd_ne (Nat.ne_of_lt hb')]
      exact (hf b hb).1
  done := by
    intro X hP hw hK hc i pins s σ H E I hf st hg
    subst hP hw hK
    obtain ⟨⟨old, he⟩, hit, hne, hai, hae⟩ := st
    obtain ⟨xs, hq, hx⟩ := hg
    obtain ⟨its, rv, p, hz⟩ := I.tuple hq
    obtain ⟨f0, f1, f2, f3, f4, f5⟩ := hf it (List.mem_cons_of_mem _ List.mem_cons_self)
    have hT : s.TypeIs (.ref e) "enumerate" := ⟨_, he, rfl⟩
    have hl := rv.length
    unfold pyNext
    refine wpAny_bind (wpAny_attempt (wpAny_callSpecial?_slot (name := Str.ofString "__next__") hT F.slot_enumerate_next
      (wpAny_call_entry F.slot_enumerate_next hT F.entry_enumerate_next ?_ (F.args_enumerate_next_1 _))))
    show wpAny _ _ (field (.ref e) 2 >>= _) _ _ _
    refine wpAny_bind (wpAny_field he rfl (x := .ref it) rfl ?_)
    refine wpAny_bind (wpAny_nextOf_tuple_end (A := X.A.in1) (I.ok.hd hc) hit p (by simp; omega) fun h' x he' hx' => ?_)
    obtain ⟨o, ho, hc⟩ := hx'
    refine wpAny_bind (wpAny_isInstance (T := "StopIteration") (b := true) ⟨o, ho, hc⟩ isSubtype_stop ?_)
    exact wpAny_pure ⟨rfl, I.turned (t' := s.toks) (fun b o hb q => he' b o hb q) f0 f1 f3 f4 f5⟩
  self := fun A i s Q E st h => let ⟨⟨_, he⟩, _⟩ := st; wpAny_pyIter_enum he h
def iEnumT (K : PySem.W.Frag) (ta : TA) : TI := fun σ H R => ta σ H fun vs H1 => ∃ a xs, vs = [.ref a] ∧ SqT K H1 a xs ∧ R (IteT K a) H1
theorem pi_enumT {X : Cx} {e : Expr} {ta : TA} {p pos tpos : Pos} {elts : List Expr} {kk : Nat} (hg : Gl X "enumerate") (hm : X.mg "enumerate" = none) (ha : PA X [e] ta) (hs : starEach [e] X.env = [(false, eval e X.env)] := by rfl) :
    PI X (.Tuple elts kk tpos) (.Call (.Name "enumerate" p) [e] [] pos) (iEnumT X.K ta) := by
  refine ⟨fun pins s σ H R I h => ?_⟩
  refine Call_ (ld_blt I hg hm boot_enumerate (PyProof.Rows.callWith_type1 (thn (ha.run pos pins s σ H _ I h) fun us s1 ⟨vs, H1, I1, r1, q1⟩ => ?_) hs rfl))
  obtain ⟨a, xs, rfl, hq, q⟩ := q1
  cases r1 with
  | cons r rr =>
    cases rr
    cases r
    obtain ⟨its, rv, p', hz⟩ := I1.tuple hq
    have hal : a < s1.heap.objs.size := by obtain ⟨o, ho, _⟩ := id p'; exact Heap.lt_size ho
    refine call_enumT (show s1.heap.IsTuple a its.toArray from p') fun h' he hit hsz hk => wpAny_pyIter_enum he ?_
    have I2 : Inv X pins σ H1 { s1 with heap := h' } := I1.kept (t' := s1.toks) hk
    refine ⟨s1.heap.objs.size + 1, [s1.heap.objs.size + 1, s1.heap.objs.size], _, _, H1, rfl, I2, turn_enumT a (s1.heap.objs.size + 1) s1.heap.objs.size, ⟨⟨.none, he⟩, hit, Nat.succ_ne_self _, Nat.ne_of_lt hal, Nat.ne_of_lt (Nat.lt_succ_of_lt hal)⟩, fun b hb => ?_, q⟩
    have hle : s1.heap.objs.size ≤ b := by
      rcases List.mem_cons.mp hb with z | z
      · rw [z]; exact Nat.le_add_right _ _
      · rw [List.mem_singleton.mp z]; exact Nat.le_refl _
    exact I1.fpOk hle (I1.hok.fresh hle)
end Gx

set_option maxRecDepth 100000
set_option maxHeartbeats 4000000
namespace Gx
open PySem PySem.Spec PyProof.Rows L2 GenW RZ

/-! ### turns by a bound -/
theorem by_n {J : It} {g : TG} {tt : TT} {te : TE} {vs : List Nat} {σ : L2.St} {K : GK} {H2 : Hp} (n : Nat) (Pv : Nat → List V → Hp → Prop) (h0 : Pv 0 [] H2) (hgo : ∀ i ys H, i < n → Pv i ys H → J.go i H) (hstop : ∀ ys H, Pv n ys H → J.stop n H)
    (hs : ∀ i ys H x H', i < n → Pv i ys H → J.yld i H x H' → g x (wipe σ vs) H' fun σ2 H2 => wipe σ2 vs = wipe σ vs ∧ tt σ2 H2 fun b H3 =>
      if b = true then te σ2 H3 fun y H4 => K.mid ys y H4 ∧ (K.go y → Pv (i + 1) (ys ++ [y]) H4) else Pv (i + 1) ys H3) (hd : ∀ ys H, Pv n ys H → K.done ys H) :
    ∃ W : Nat → Nat → List V → Hp → Prop, (∃ m, W 0 m [] H2) ∧ Turns J g tt te vs σ K W := by
  refine ⟨fun i m ys H => m = n - i ∧ i ≤ n ∧ Pv i ys H, ⟨n, rfl, Nat.zero_le _, h0⟩, ?_⟩
  rintro i m ys H ⟨rfl, hi, p⟩
  by_cases hlt : i < n
  · exact .inr ⟨hgo i ys H hlt p, by omega, Pv (i + 1), fun ys' H' p' => ⟨n - (i + 1), by omega, rfl, hlt, p'⟩, fun x H' y => hs i ys H x H' hlt p y⟩
  · have e : i = n := by omega
    subst e
    exact .inl ⟨hstop ys H p, hd ys H p⟩
theorem by_tup {Kf : PySem.W.Frag} {a : Addr} {xs : List V} {g : TG} {tt : TT} {te : TE} {vs : List Nat} {σ : L2.St} {K : GK} {H2 : Hp} (Pv : Nat → List V → Hp → Prop) (h0 : Pv 0 [] H2) (hl : ∀ i ys H, Pv i ys H → SqT Kf H a xs)
    (hs : ∀ i x ys H, xs[i]? = some x → Pv i ys H → g x (wipe σ vs) H fun σ2 H2 => wipe σ2 vs = wipe σ vs ∧ tt σ2 H2 fun b H3 =>
      if b = true then te σ2 H3 fun y H4 => K.mid ys y H4 ∧ (K.go y → Pv (i + 1) (ys ++ [y]) H4) else Pv (i + 1) ys H3) (hd : ∀ ys H, Pv xs.length ys H → K.done ys H) :
    ∃ W : Nat → Nat → List V → Hp → Prop, (∃ m, W 0 m [] H2) ∧ Turns (Itt Kf a) g tt te vs σ K W :=
  by_n xs.length Pv h0 (fun i ys H hi p => ⟨xs, xs[i], hl i ys H p, List.getElem?_eq_getElem hi⟩) (fun ys H p => ⟨xs, hl _ ys H p, Nat.le_refl _⟩)
    (fun i ys H x H' hi p y => by obtain ⟨rfl, f⟩ := y; exact hs i x ys _ (f xs (hl i ys _ p)) p) hd
theorem by_list {Kf : PySem.W.Frag} {a : Addr} {xs : List V} {g : TG} {tt : TT} {te : TE} {vs : List Nat} {σ : L2.St} {K : GK} {H2 : Hp} (Pv : Nat → List V → Hp → Prop) (h0 : Pv 0 [] H2) (hl : ∀ i ys H, Pv i ys H → SqL Kf H a xs)
    (hs : ∀ i x ys H, xs[i]? = some x → Pv i ys H → g x (wipe σ vs) H fun σ2 H2 => wipe σ2 vs = wipe σ vs ∧ tt σ2 H2 fun b H3 =>
      if b = true then te σ2 H3 fun y H4 => K.mid ys y H4 ∧ (K.go y → Pv (i + 1) (ys ++ [y]) H4) else Pv (i + 1) ys H3) (hd : ∀ ys H, Pv xs.length ys H → K.done ys H) :
    ∃ W : Nat → Nat → List V → Hp → Prop, (∃ m, W 0 m [] H2) ∧ Turns (Itl Kf a) g tt te vs σ K W :=
  by_n xs.length Pv h0 (fun i ys H hi p => ⟨xs, xs[i], hl i ys H p, List.getElem?_eq_getElem hi⟩) (fun ys H p => ⟨xs, hl _ ys H p, Nat.le_refl _⟩)
    (fun i ys H x H' hi p y => by obtain ⟨rfl, f⟩ := y; exact hs i x ys _ (f xs (hl i ys _ p)) p) hd
theorem by_enumT {Kf : PySem.W.Frag} {a : Addr} {xs : List V} {g : TG} {tt : TT} {te : TE} {vs : List Nat} {σ : L2.St} {K : GK} {H2 : Hp} (Pv : Nat → List V → Hp → Prop) (h0 : Pv 0 [] H2) (hl : ∀ i ys H, Pv i ys H → SqT Kf H a xs)
    (hs : ∀ i x T ys H, xs[i]? = some x → Pv i ys H → H T = none → g (.ref T) (wipe σ vs) (upd H T (.tup [.int (i : Nat), x])) fun σ2 H2 => wipe σ2 vs = wipe σ vs ∧ tt σ2 H2 fun b H3 =>
      if b = true then te σ2 H3 fun y H4 => K.mid ys y H4 ∧ (K.go y → Pv (i + 1) (ys ++ [y]) H4) else Pv (i + 1) ys H3) (hd : ∀ ys H, Pv xs.length ys H → K.done ys H) :
    ∃ W : Nat → Nat → List V → Hp → Prop, (∃ m, W 0 m [] H2) ∧ Turns (IteT Kf a) g tt te vs σ K W :=
  by_n xs.length Pv h0 (fun i ys H hi p => ⟨xs, xs[i], hl i ys H p, List.getElem?_eq_getElem hi⟩) (fun ys H p => ⟨xs, hl _ ys H p, Nat.le_refl _⟩)
    (fun i ys H v H' hi p y => by obtain ⟨T, x, rfl, hT, rfl, f⟩ := y; exact hs i x T ys _ (f xs (hl i ys _ p)) p hT) hd
theorem by_zipT {Kf : PySem.W.Frag} {a b : Addr} {xs zs : List V} {g : TG} {tt : TT} {te : TE} {vs : List Nat} {σ : L2.St} {K : GK} {H2 : Hp} (he : xs.length = zs.length) (Pv : Nat → List V → Hp → Prop) (h0 : Pv 0 [] H2) (hl : ∀ i ys H, Pv i ys H → SqT Kf H a xs ∧ SqT Kf H b zs)
    (hs : ∀ i x z T ys H, xs[i]? = some x → zs[i]? = some z → Pv i ys H → H T = none → g (.ref T) (wipe σ vs) (upd H T (.tup [x, z])) fun σ2 H2 => wipe σ2 vs = wipe σ vs ∧ tt σ2 H2 fun b H3 =>
      if b = true then te σ2 H3 fun y H4 => K.mid ys y H4 ∧ (K.go y → Pv (i + 1) (ys ++ [y]) H4) else Pv (i + 1) ys H3) (hd : ∀ ys H, Pv xs.length ys H → K.done ys H) :
    ∃ W : Nat → Nat → List V → Hp → Prop, (∃ m, W 0 m [] H2) ∧ Turns (ItzT Kf a b) g tt te vs σ K W :=
  by_n xs.length Pv h0 (fun i ys H hi p => ⟨xs, zs, xs[i], zs[i]'(by omega), (hl i ys H p).1, (hl i ys H p).2, List.getElem?_eq_getElem hi, List.getElem?_eq_getElem (by omega)⟩) (fun ys H p => ⟨xs, zs, (hl _ ys H p).1, (hl _ ys H p).2, .inl (Nat.le_refl _)⟩)
    (fun i ys H v H' hi p y => by obtain ⟨T, x, z, rfl, hT, rfl, f1, f2⟩ := y; exact hs i x z T ys _ (f1 xs (hl i ys _ p).1) (f2 zs (hl i ys _ p).2) p hT) hd

/-! ### heaps that went on: c the lists that may have changed -/
structure Ext (c : List Addr) (H H' : Hp) : Prop where
  keep : ∀ b o, H b = some o → (∀ ps, o ≠ .tbl ps) → b ∉ c → H' b = some o
  tup : ∀ b xs, H b = some (.tup xs) → H' b = some (.tup xs)
  frz : ∀ b u o, H b = some (.frz u o) → H' b = some (.frz u o)
  tab : ∀ P, GxR.TabG H P → GxR.TabG H' P
  dom : ∀ b, H' b = none → H b = none
namespace Ext
variable {c c' : List Addr} {H H1 H2 : Hp} {a p P : Addr} {K : PySem.W.Frag} {xs : List V}
theorem refl : Ext c H H := ⟨fun _ _ h _ _ => h, fun _ _ h => h, fun _ _ _ h => h, fun _ h => h, fun _ h => h⟩
theorem trans (x : Ext c H H1) (y : Ext c H1 H2) : Ext c H H2 :=
  ⟨fun b o h n hb => y.keep b o (x.keep b o h n hb) n hb, fun b xs h => y.tup b xs (x.tup b xs h), fun b u o h => y.frz b u o (x.frz b u o h), fun P h => y.tab P (x.tab P h), fun b h => x.dom b (y.dom b h)⟩
theorem mono (x : Ext c H H1) (h : ∀ b ∈ c, b ∈ c') : Ext c' H H1 := ⟨fun b o e n hb => x.keep b o e n fun z => hb (h b z), x.tup, x.frz, x.tab, x.dom⟩
theorem more (x : Ext [] H H1) : Ext c H H1 := x.mono fun _ h => by cases h
theorem new {o : HO} (h : H p = none) : Ext c H (upd H p o) :=
  ⟨fun b u e _ _ => by rw [upd_ne (ne_of_none e h)]; exact e, fun b u e => by rw [upd_ne (ne_of_none e h)]; exact e, fun b u o e => by rw [upd_ne (ne_of_none e h)]; exact e,
    fun P ⟨ps, e, t⟩ => ⟨ps, by rw [upd_ne (ne_of_none e h)]; exact e, t⟩, fun b e => by
      by_cases hb : b = p
      · rw [hb]; exact h
      · rw [upd_ne hb] at e; exact e⟩
theorem set {xs ys : List V} (hp : p ∈ c) (h : H p = some (.lst xs)) : Ext c H (upd H p (.lst ys)) := by
  have ne : ∀ {b : Addr} {u : HO}, H b = some u → (∀ xs, u ≠ .lst xs) → b ≠ p := fun {b u} e n z => by rw [z, h] at e; exact n xs (Option.some.inj e).symm
  refine ⟨fun b u e _ hb => ?_, fun b u e => ?_, fun b u o e => ?_, fun P ⟨ps, e, t⟩ => ⟨ps, ?_, t⟩, fun b e => ?_⟩
  · rw [upd_ne (fun z => hb (by rw [z]; exact hp))]; exact e
  · rw [upd_ne (ne e fun _ z => by cases z)]; exact e
  · rw [upd_ne (ne e fun _ z => by cases z)]; exact e
  · rw [upd_ne (ne e fun _ z => by cases z)]; exact e
  · by_cases hb : b = p
    · rw [hb, upd_same] at e; cases e
    · rw [upd_ne hb] at e; exact e
/-- a list that was made since may be written -/
theorem own {xs ys : List V} (x : Ext c H H1) (h0 : H p = none) (h1 : H1 p = some (.lst xs)) : Ext c H (upd H1 p (.lst ys)) := by
  have ne : ∀ {b : Addr} {u : HO}, H b = some u → b ≠ p := fun {b u} e => ne_of_none e h0
  refine ⟨fun b u e n hb => by rw [upd_ne (ne e)]; exact x.keep b u e n hb, fun b u e => by rw [upd_ne (ne e)]; exact x.tup b u e, fun b u o e => by rw [upd_ne (ne e)]; exact x.frz b u o e, fun P h => ?_, fun b e => ?_⟩
  · obtain ⟨ps, e, t⟩ := x.tab P h
    obtain ⟨_, e2, _⟩ := h
    exact ⟨ps, by rw [upd_ne (ne e2)]; exact e, t⟩
  · by_cases hb : b = p
    · rw [hb, upd_same] at e; cases e
    · rw [upd_ne hb] at e; exact x.dom b e
theorem tabbed (h : GxR.TabG H P) (t : GxR.Tabbed P H H1) : Ext c H H1 := by
  obtain ⟨ps, e0, t0⟩ := h
  obtain ⟨⟨ps', e1, t1⟩, k⟩ := t
  have ne : ∀ {b : Addr} {u : HO}, H b = some u → (∀ q, u ≠ .tbl q) → b ≠ P := fun {b u} e n z => by rw [z, e0] at e; exact n ps (Option.some.inj e).symm
  refine ⟨fun b u e n _ => by rw [k b (ne e n)]; exact e, fun b u e => by rw [k b (ne e fun _ z => by cases z)]; exact e, fun b u o e => by rw [k b (ne e fun _ z => by cases z)]; exact e, fun Q h => ?_, fun b e => ?_⟩
  · by_cases hQ : Q = P
    · rw [hQ]; exact ⟨ps', e1, t1⟩
    · obtain ⟨qs, e, t⟩ := h
      exact ⟨qs, by rw [k Q hQ]; exact e, t⟩
  · by_cases hb : b = P
    · rw [hb, e1] at e; cases e
    · rw [k b hb] at e; exact e
theorem sqT (x : Ext c H H1) (h : SqT K H a xs) : SqT K H1 a xs := by
  rcases h with h | h
  · rcases h with h | ⟨u, h⟩
    · exact .inl (.inl (x.tup _ _ h))
    · exact .inl (.inr ⟨u, x.frz _ _ _ h⟩)
  · exact .inr h
theorem sqL (x : Ext c H H1) (h : SqL K H a xs) (ha : a ∉ c) : SqL K H1 a xs := by
  rcases h with h | h
  · rcases h with h | ⟨u, h⟩
    · exact .inl (.inl (x.keep _ _ h (fun _ z => by cases z) ha))
    · exact .inl (.inr ⟨u, x.frz _ _ _ h⟩)
  · exact .inr h
theorem lst (x : Ext c H H1) (h : H a = some (.lst xs)) (ha : a ∉ c) : H1 a = some (.lst xs) := x.keep _ _ h (fun _ z => by cases z) ha
end Ext

/-! ### nets in the heap -/
abbrev Rd3 := Nat × Nat × Int
def RdAt (K : PySem.W.Frag) (H : Hp) (v : V) (r : Rd3) : Prop := ∃ p, v = .ref p ∧ SqT K H p [.int r.1, .int r.2.1, .int r.2.2]
def RdsAt (K : PySem.W.Frag) (H : Hp) (p : Addr) (rs : List Rd3) : Prop := ∃ vs, SqT K H p vs ∧ vs.length = rs.length ∧ ∀ (i : Nat) (r : Rd3), rs[i]? = some r → ∃ v, vs[i]? = some v ∧ RdAt K H v r
def NetAt (K : PySem.W.Frag) (H : Hp) (p : Addr) (ms : List Str) (rs : List Rd3) : Prop := ∃ mp rp, SqT K H p [.str "net", .ref mp, .ref rp] ∧ SqT K H mp (ms.map V.str) ∧ RdsAt K H rp rs
section
variable {K : PySem.W.Frag} {H H1 : Hp} {c : List Addr}
theorem RdAt.ext {v : V} {r : Rd3} (h : RdAt K H v r) (x : Ext c H H1) : RdAt K H1 v r := let ⟨p, e, q⟩ := h; ⟨p, e, x.sqT q⟩
theorem RdsAt.ext {p : Addr} {rs : List Rd3} (h : RdsAt K H p rs) (x : Ext c H H1) : RdsAt K H1 p rs := let ⟨vs, q, l, f⟩ := h; ⟨vs, x.sqT q, l, fun i r e => let ⟨v, e1, e2⟩ := f i r e; ⟨v, e1, e2.ext x⟩⟩
theorem NetAt.ext {p : Addr} {ms : List Str} {rs : List Rd3} (h : NetAt K H p ms rs) (x : Ext c H H1) : NetAt K H1 p ms rs := let ⟨mp, rp, q1, q2, q3⟩ := h; ⟨mp, rp, x.sqT q1, x.sqT q2, q3.ext x⟩
end
/-- the readings go between n marks -/
def Good (n : Nat) (rs : List Rd3) : Prop := ∀ r ∈ rs, r.1 < n ∧ r.2.1 < n ∧ r.1 ≠ r.2.1
def missR (hs : List Int) (r : Rd3) : Int := r.2.2 - hs.getD r.2.1 0 + hs.getD r.1 0
theorem snoc {α β : Type} (f : α → β) (l : List α) {i : Nat} (h : i < l.length) : (l.take i).map f ++ [f l[i]] = (l.take (i + 1)).map f := by
  rw [List.take_add_one, List.getElem?_eq_getElem h, List.map_append]
  rfl
theorem ints_snoc {α : Type} (f : α → Int) (l : List α) {i : Nat} (h : i < l.length) : ((l.take i).map f).map V.int ++ [.int (f l[i])] = ((l.take (i + 1)).map f).map V.int := by
  rw [← snoc f l h, List.map_append]
  rfl
theorem ints_at {hs : List Int} {i : Nat} (h : i < hs.length) : (hs.map V.int)[i]? = some (.int (hs.getD i 0)) := by
  rw [List.getElem?_map, List.getElem?_eq_getElem h, List.getD_eq_getElem?_getD, List.getElem?_eq_getElem h]
  rfl
/-! ### xs[i] for xs[i] op= e -/
def rGetL (K : PySem.W.Frag) : V → V → Hp → VK → Prop := fun x y H Q => ∃ p xs i v, x = .ref p ∧ y = .int (i : Nat) ∧ SqL K H p xs ∧ xs[i]? = some v ∧ Q v H
theorem get_list {X : Cx} : PGet X (rGetL X.K) := by
  intro pins s σ H o i ov iv Q I ro ri h
  obtain ⟨p, xs, j, v, rfl, rfl, hq, hv, q⟩ := h
  cases ro
  obtain ⟨t, rfl⟩ := ri
  obtain ⟨its, r, pl, hz⟩ := I.list hq
  obtain ⟨u, hu, ru⟩ := r.get hv
  have hj : j < xs.length := (List.getElem?_eq_some_iff.mp hv).1
  have hn := line63
  exact wpAny_getItem_list pl.isList (Int.natCast_nonneg _) (by omega) (x := u) (by simpa using hu) ⟨v, H, I, ru, q⟩
theorem ixN_nat {n i : Nat} (h : i < n) : ixN n (i : Int) = some i := by
  unfold ixN
  rw [if_pos (Int.natCast_nonneg _), if_pos (by omega)]
  rfl

/-! ### sums -/
theorem sumV_ints (ns : List Int) : sumV (ns.map V.int) = ns.sum := by
  unfold sumV
  rw [List.map_map]
  congr 1
  exact List.map_id' ns
theorem sum_bound {B : Int} (hB : 0 ≤ B) : ∀ l : List Int, (∀ x ∈ l, -B ≤ x ∧ x ≤ B) → -(l.length * B) ≤ l.sum ∧ l.sum ≤ l.length * B
  | [], _ => by simp
  | x :: r, h => by
    have ih := sum_bound hB r fun y hy => h y (List.mem_cons_of_mem _ hy)
    have hx := h x List.mem_cons_self
    have e : ((x :: r).length : Int) * B = r.length * B + B := by
      rw [List.length_cons]
      push_cast
      rw [Int.add_mul, Int.one_mul]
    rw [List.sum_cons, e]
    omega
/-- small sums of at most 1,000 numbers below 2 ^ 50 -/
theorem sum_long {l : List Int} (hl : l.length ≤ 1000) (h : ∀ x ∈ l, -(2 ^ 50) ≤ x ∧ x ≤ 2 ^ 50) : InLong l.sum := by
  have hb := sum_bound (B := 2 ^ 50) (by decide) l h
  have e : (l.length : Int) * 2 ^ 50 ≤ 1000 * 2 ^ 50 := Int.mul_le_mul_of_nonneg_right (by omega) (by decide)
  have e2 : (1000 : Int) * 2 ^ 50 < 2 ^ 63 := by decide
  exact ⟨by omega, by omega⟩
/-- the sum of the items so far, for sum -/
theorem mid_long {α : Type} (f : α → Int) (l : List α) {i : Nat} (hl : l.length ≤ 1000) (h : ∀ x ∈ l, -(2 ^ 50) ≤ f x ∧ f x ≤ 2 ^ 50) (hi : i < l.length) : InLong (f l[i]) ∧ InLong (sumV (((l.take i).map f).map V.int) + f l[i]) := by
  have hx := h l[i] (List.getElem_mem hi)
  refine ⟨⟨by omega, by omega⟩, ?_⟩
  have e : sumV (((l.take i).map f).map V.int) + f l[i] = ((l.take (i + 1)).map f).sum := by
    rw [sumV_ints, ← snoc f l hi, List.sum_append]
    simp
  rw [e]
  refine sum_long ?_ fun x hx => ?_
  · rw [List.length_map, List.length_take]
    omega
  · obtain ⟨y, hy, rfl⟩ := List.mem_map.mp hx
    exact h y (List.mem_of_mem_take hy)
end Gx

set_option maxRecDepth 100000
set_option maxHeartbeats 4000000
namespace K3
open PySem PySem.Spec PyProof.Rows L2 Gx RZ
def topS (i : Nat) : Stmt := PySem.Challenge.pw_truelevels_k03_flows_are_below.main.body.getD i (.Pass ⟨0, 0, 0, 0⟩)
abbrev sMissOf : Stmt := topS 1
abbrev sMisses : Stmt := topS 2
abbrev sCost : Stmt := topS 3
abbrev sLies : Stmt := topS 4
abbrev sIsEven : Stmt := topS 6
abbrev sWorth : Stmt := topS 7
section
variable {P : Program} {w : World} {K : PySem.W.Frag} {mg : Str → Option Value} {base : Heap}
/-! ### miss_of -/
def spMissOf (K : PySem.W.Frag) : Sp := fun vs H Q _ => ∃ (v : V) (ha : Addr) (r : Rd3) (hs : List Int), vs = [v, .ref ha] ∧ RdAt K H v r ∧ SqT K H ha (hs.map V.int) ∧ r.1 < hs.length ∧ r.2.1 < hs.length ∧ Q (.int (missR hs r)) H
theorem scMissOf : FnScope ["reading", "heights", "start", "end", "value"] ["reading", "heights"] (defScope sMissOf) := ⟨rfl, rfl, rfl, by decide +kernel, rfl, by decide +kernel, by decide +kernel⟩
theorem ok_missOf {f : Addr} {fd : FuncData} {k : Nat} (F : Fun K "miss_of" "miss_of" sMissOf f fd) : FnOk P w K mg base CX0 (k + 1) f fd ["reading", "heights"] (spMissOf K) := by
  refine F.ok scMissOf (fun vs H Q E h => ?_) (fun cdv A outer s H vs Q E hr h => ?_)
  · obtain ⟨_, _, _, _, rfl, _⟩ := h
    rfl
  · obtain ⟨_, ha, r, hs, rfl, ⟨p, rfl, hp⟩, hh, l1, l2, q⟩ := h
    refine ⟨_, pss_cons (ps_asg (pv 0) (pg_tup rfl (pgs_cons (pg_name (i := 2) scMissOf.nd rfl (.inl rfl)) (pgs_cons (pg_name (i := 3) scMissOf.nd rfl (.inl rfl)) (pgs_cons (pg_name (i := 4) scMissOf.nd rfl (.inl rfl)) pgs_nil)))))
      (pss_one (ps_ret (pe_op op_add (pe_op op_sub (pv 4) (pe_ix ix_tup (pv 1) (pv 3) (fun _ _ => rfl))) (pe_ix ix_tup (pv 1) (pv 2) (fun _ _ => rfl))))), ?_⟩
    refine ⟨_, rfl, p, _, rfl, hp, rfl, _, _, rfl, _, _, rfl, _, _, rfl, rfl, ?_⟩
    refine ⟨_, rfl, _, rfl, _, rfl, ha, _, _, _, rfl, rfl, hh, atI_nat (ints_at l2), _, _, rfl, rfl, _, rfl, _, rfl, ha, _, _, _, rfl, rfl, hh, atI_nat (ints_at l1), _, _, rfl, rfl, q⟩
/-! ### misses -/
def spMisses (K : PySem.W.Frag) (T : Addr) : Sp := fun vs H Q _ => ∃ (p ha : Addr) (ms : List Str) (rs : List Rd3) (hs : List Int), vs = [.ref p, .ref ha] ∧ NetAt K H p ms rs ∧ Good hs.length rs ∧ rs.length ≤ 1000 ∧ SqT K H ha (hs.map V.int) ∧ GxR.TabG H T ∧
  ∀ q H', Ext [] H H' → H' q = some (.tup ((rs.map (missR hs)).map V.int)) → Q (.ref q) H'
abbrev nMisses : List Str := ["net", "heights", "_", "readings", "reading"]
theorem scMisses : FnScope nMisses ["net", "heights"] (defScope sMisses) := ⟨rfl, rfl, rfl, by decide +kernel, rfl, by decide +kernel, by decide +kernel⟩
theorem ok_misses {f c T fM : Addr} {fd fdM : FuncData} (F : FunT K "misses" "misses" sMisses f fd c) (TB : GxR.TabB base mg c T) (mt : mg "tuple" = none)
    (FM : Fun K "miss_of" "miss_of" sMissOf fM fdM) (bM : Binds K fdM ["reading", "heights"] []) (gM : mg "miss_of" = some (.ref fM)) : FnOk P w K mg base CX0 7 f fd ["net", "heights"] (spMisses K T) := by
  have GM : FnOk P w K mg base CX0 1 fM fdM ["reading", "heights"] (spMissOf K) := ok_missOf FM
  refine F.ok scMisses (fun vs H Q E h => ?_) (fun A outer s H vs Q E hr h => ?_)
  · obtain ⟨_, _, _, _, _, rfl, _⟩ := h
    rfl
  · obtain ⟨p, ha, ms, rs, hs, rfl, hnet, hgood, hlen, hh, hT, q⟩ := h
    refine ⟨_, pss_cons (ps_asg (pv 0) (pg_tup rfl (pgs_cons (pg_name (i := 2) scMisses.nd rfl (.inl rfl)) (pgs_cons (pg_name (i := 2) scMisses.nd rfl (.inl rfl)) (pgs_cons (pg_name (i := 3) scMisses.nd rfl (.inl rfl)) pgs_nil)))))
      (pss_one (ps_ret (pe_tupG (k := 2) (psrc (k := 1) (own := [("reading", 4)]) (hr.mono (by decide)) rfl scMisses.nd TB rfl (pi_tup (pv 3)) (blkOk_by (N := nMisses) (sc := defScope sMisses) (by decide +kernel)) (by decide +kernel) rfl rfl
        (fun _ _ _ _ _ _ _ _ => pg_name (i := 4) scMisses.nd rfl (.inl rfl)) (fun _ _ _ _ _ _ _ _ _ => pts_nil) (fun _ _ _ _ _ _ _ _ hr' => pe_call GM (hr'.mono (by decide)) (by rfl) gM FM.kp bM .nil pass0 (pa_cons (pv 4) (pa_cons (pv 1) pa_nil)))) hr rfl mt PyProof.Rows.boot_tuple))), ?_⟩
    obtain ⟨mp, rp, n1, n2, vs, n3, n4, n5⟩ := hnet
    refine ⟨_, rfl, p, _, rfl, n1, rfl, _, _, rfl, _, _, rfl, _, _, rfl, rfl, ?_⟩
    refine ⟨_, rfl, rp, rfl, ⟨_, n3⟩, hT, fun H2 tb => ?_⟩
    have x2 : Ext [] H H2 := .tabbed hT tb
    refine by_tup (fun i ys H3 => Ext [] H H3 ∧ ys = ((rs.take i).map (missR hs)).map V.int) ⟨x2, rfl⟩ (fun i ys H3 h3 => h3.1.sqT n3) (fun i v ys H3 hv h3 => ?_) (fun ys H3 h3 => ?_)
    · obtain ⟨x3, rfl⟩ := h3
      have hi : i < rs.length := by
        rw [← n4]
        exact (List.getElem?_eq_some_iff.mp hv).1
      obtain ⟨v', e1, e2⟩ := n5 i rs[i] (List.getElem?_eq_getElem hi)
      obtain rfl : v = v' := Option.some.inj (hv.symm.trans e1)
      obtain ⟨g1, g2, _⟩ := hgood _ (List.getElem_mem hi)
      refine ⟨rfl, ?_⟩
      refine ⟨_, rfl, _, rfl, v, ha, rs[i], hs, rfl, e2.ext x3, x3.sqT hh, g1, g2, ⟨?_, fun _ => ⟨x3, ?_⟩⟩⟩
      · show (((rs.take i).map (missR hs)).map V.int).length < sizeLine
        rw [List.length_map, List.length_map, List.length_take]
        exact small1000 (by omega)
      · exact ints_snoc (missR hs) rs hi
    · obtain ⟨x3, rfl⟩ := h3
      rw [n4, List.take_length]
      refine ⟨?_, fun z hz => q z _ (x3.trans (.new hz)) upd_same⟩
      rw [List.length_map, List.length_map]
      exact Nat.le_of_lt (small1000 hlen)
/-! ### cost -/
def absI (i : Int) : Int := if i < 0 then -i else i
def costR (hs : List Int) (rs : List Rd3) : Int := (rs.map fun r => absI (missR hs r)).sum
/-- misses that a machine's word holds -/
def Small (hs : List Int) (rs : List Rd3) : Prop := ∀ r ∈ rs, -(2 ^ 50) ≤ missR hs r ∧ missR hs r ≤ 2 ^ 50
def spCost (K : PySem.W.Frag) (T T2 : Addr) : Sp := fun vs H Q _ => ∃ (p ha : Addr) (ms : List Str) (rs : List Rd3) (hs : List Int), vs = [.ref p, .ref ha] ∧ NetAt K H p ms rs ∧ Gx.Good hs.length rs ∧ rs.length ≤ 1000 ∧ SqT K H ha (hs.map V.int) ∧ Small hs rs ∧ GxR.TabG H T ∧ GxR.TabG H T2 ∧
  ∀ H', Ext [] H H' → Q (.int (costR hs rs)) H'
abbrev nCost : List Str := ["net", "heights", "miss"]
theorem scCost : FnScope nCost ["net", "heights"] (defScope sCost) := ⟨rfl, rfl, rfl, by decide +kernel, rfl, by decide +kernel, by decide +kernel⟩
theorem item_of {α : Type} {f : α → Int} {l : List α} {i : Nat} {v : V} (h : ((l.map f).map V.int)[i]? = some v) : ∃ hi : i < l.length, v = .int (f l[i]) := by
  have hi : i < l.length := by
    have := (List.getElem?_eq_some_iff.mp h).1
    simpa using this
  refine ⟨hi, ?_⟩
  rw [List.getElem?_map, List.getElem?_map, List.getElem?_eq_getElem hi] at h
  exact (Option.some.inj h).symm
theorem absI_range {B i : Int} (h : -B ≤ i ∧ i ≤ B) : -B ≤ absI i ∧ absI i ≤ B := by
  unfold absI
  split <;> omega
theorem ok_cost {f c T T2 fM : Addr} {fd fdM : FuncData} (F : FunT K "cost" "cost" sCost f fd c) (TB : GxR.TabB base mg c T) (ms : mg "sum" = none) (ma : mg "abs" = none)
    (GM : FnOk P w K mg base CX0 7 fM fdM ["net", "heights"] (spMisses K T2)) (kM : PySem.W.keepIn K (.ref fM) = true) (bM : Binds K fdM ["net", "heights"] []) (gM : mg "misses" = some (.ref fM)) : FnOk P w K mg base CX0 8 f fd ["net", "heights"] (spCost K T T2) := by
  refine F.ok scCost (fun vs H Q E h => ?_) (fun A outer s H vs Q E hr h => ?_)
  · obtain ⟨_, _, _, _, _, rfl, _⟩ := h
    rfl
  · obtain ⟨p, ha, mks, rs, hs, rfl, hnet, hgood, hlen, hh, hsm, hT, hT2, q⟩ := h
    refine ⟨_, pss_one (ps_ret (pe_sum (k := 2) (psrc (k := 1) (own := [("miss", 2)]) (hr.mono (by decide)) rfl scCost.nd TB rfl (pi_tup (pe_call GM hr (by rfl) gM kM bM .nil pass0 (pa_cons (pv 0) (pa_cons (pv 1) pa_nil)))) (blkOk_by (N := nCost) (sc := defScope sCost) (by decide +kernel)) (by decide +kernel) rfl rfl
        (fun _ _ _ _ _ _ _ _ => pg_name (i := 2) scCost.nd rfl (.inl rfl)) (fun _ _ _ _ _ _ _ _ _ => pts_nil) (fun _ _ _ _ _ _ _ _ _ => pe_callB call_abs (by rfl) ma PyProof.Rows.boot_abs (pa_cons (pv 2) pa_nil))) (hr.mono (by decide)) rfl ms)), ?_⟩
    refine ⟨_, rfl, _, rfl, p, ha, mks, rs, hs, rfl, hnet, hgood, hlen, hh, hT2, fun z H1 x1 e1 => ?_⟩
    have hz : SqT K H1 z ((rs.map (missR hs)).map V.int) := .inl (.inl e1)
    refine ⟨z, rfl, ⟨_, hz⟩, x1.tab _ hT, fun H2 tb => ?_⟩
    have x2 : Ext [] H1 H2 := .tabbed (x1.tab _ hT) tb
    refine by_tup (fun i ys H3 => Ext [] H1 H3 ∧ ys = ((rs.take i).map fun r => absI (missR hs r)).map V.int) ⟨x2, rfl⟩ (fun i ys H3 h3 => h3.1.sqT hz) (fun i v ys H3 hv h3 => ?_) (fun ys H3 h3 => ?_)
    · obtain ⟨x3, rfl⟩ := h3
      obtain ⟨hi, rfl⟩ := item_of hv
      obtain ⟨m1, m2⟩ := mid_long (fun r => absI (missR hs r)) rs hlen (fun r hr => absI_range (hsm r hr)) hi
      refine ⟨rfl, _, rfl, _, rfl, ⟨_, rfl, m1, m2⟩, fun _ => ⟨x3, ?_⟩⟩
      exact ints_snoc (fun r => absI (missR hs r)) rs hi
    · obtain ⟨x3, rfl⟩ := h3
      show Q (.int (sumV _)) H3
      rw [List.length_map, List.length_map, List.take_length, sumV_ints]
      exact q H3 (x1.trans x3)
end
end K3

set_option maxRecDepth 100000
set_option maxHeartbeats 4000000
namespace K3
open PySem PySem.Spec PyProof.Rows L2 Gx RZ
section
variable {P : Program} {w : World} {K : PySem.W.Frag} {mg : Str → Option Value} {base : Heap}
/-! ### lies -/
def liesR (hs : List Int) (rs : List Rd3) : List Int := ((List.range rs.length).filter fun i => !decide (missR hs (rs.getD i (0, 0, 0)) = 0)).map fun (i : Nat) => (i : Int)
theorem filter_snoc {p : Nat → Bool} {i : Nat} : (List.range (i + 1)).filter p = (List.range i).filter p ++ (if p i = true then [i] else []) := by
  rw [List.range_succ, List.filter_append]
  congr 1
  cases h : p i <;> simp [h]
def spLies (K : PySem.W.Frag) (T T2 : Addr) : Sp := fun vs H Q _ => ∃ (p ha : Addr) (ms : List Str) (rs : List Rd3) (hs : List Int), vs = [.ref p, .ref ha] ∧ NetAt K H p ms rs ∧ Gx.Good hs.length rs ∧ rs.length ≤ 1000 ∧ SqT K H ha (hs.map V.int) ∧ GxR.TabG H T ∧ GxR.TabG H T2 ∧
  ∀ q H', Ext [] H H' → H' q = some (.tup ((liesR hs rs).map V.int)) → Q (.ref q) H'
abbrev nLies : List Str := ["net", "heights", "index", "miss"]
theorem scLies : FnScope nLies ["net", "heights"] (defScope sLies) := ⟨rfl, rfl, rfl, by decide +kernel, rfl, by decide +kernel, by decide +kernel⟩
theorem ok_lies {f c T T2 fM : Addr} {fd fdM : FuncData} (F : FunT K "lies" "lies" sLies f fd c) (TB : GxR.TabB base mg c T) (mt : mg "tuple" = none) (me : mg "enumerate" = none)
    (GM : FnOk P w K mg base CX0 7 fM fdM ["net", "heights"] (spMisses K T2)) (kM : PySem.W.keepIn K (.ref fM) = true) (bM : Binds K fdM ["net", "heights"] []) (gM : mg "misses" = some (.ref fM)) : FnOk P w K mg base CX0 8 f fd ["net", "heights"] (spLies K T T2) := by
  refine F.ok scLies (fun vs H Q E h => ?_) (fun A outer s H vs Q E hr h => ?_)
  · obtain ⟨_, _, _, _, _, rfl, _⟩ := h
    rfl
  · obtain ⟨p, ha, mks, rs, hs, rfl, hnet, hgood, hlen, hh, hT, hT2, q⟩ := h
    refine ⟨_, pss_one (ps_ret (pe_tupG (k := 2) (psrc (k := 1) (own := [("index", 2), ("miss", 3)]) (g := gTup K 2 (gCons (gName 2) (gCons (gName 3) gNil))) (hr.mono (by decide)) rfl scLies.nd TB rfl (pi_enumT (by rfl) me (pa_cons (pe_call GM hr (by rfl) gM kM bM .nil pass0 (pa_cons (pv 0) (pa_cons (pv 1) pa_nil))) pa_nil)) (blkOk_by (N := nLies) (sc := defScope sLies) (by decide +kernel)) (by decide +kernel) rfl rfl
        (fun _ _ _ _ _ _ _ _ => pg_tup rfl (pgs_cons (pg_name (i := 2) scLies.nd rfl (.inl rfl) (.inr rfl)) (pgs_cons (pg_name (i := 3) scLies.nd rfl (.inl rfl) (.inr rfl)) pgs_nil))) (fun _ _ _ _ _ _ _ _ _ => pts_one (pt_cmpR op_ne (pv 3) pe_int (nomark _))) (fun _ _ _ _ _ _ _ _ _ => pv 2)) (hr.mono (by decide)) rfl mt PyProof.Rows.boot_tuple)), ?_⟩
    refine ⟨_, rfl, _, rfl, p, ha, mks, rs, hs, rfl, hnet, hgood, hlen, hh, hT2, fun z H1 x1 e1 => ?_⟩
    have hz : SqT K H1 z ((rs.map (missR hs)).map V.int) := .inl (.inl e1)
    refine ⟨z, _, rfl, hz, x1.tab _ hT, fun H2 tb => ?_⟩
    have x2 : Ext [] H1 H2 := .tabbed (x1.tab _ hT) tb
    refine by_enumT (fun i ys H3 => Ext [] H1 H3 ∧ ys = (((List.range i).filter fun i => !decide (missR hs (rs.getD i (0, 0, 0)) = 0)).map fun (i : Nat) => (i : Int)).map V.int) ⟨x2, rfl⟩ (fun i ys H3 h3 => h3.1.sqT hz) (fun i v TT ys H3 hv h3 hTT => ?_) (fun ys H3 h3 => ?_)
    · obtain ⟨x3, rfl⟩ := h3
      obtain ⟨hi, rfl⟩ := item_of hv
      have eg : rs.getD i (0, 0, 0) = rs[i] := by rw [List.getD_eq_getElem?_getD, List.getElem?_eq_getElem hi]; rfl
      have x4 : Ext [] H1 (upd H3 TT (.tup [.int (i : Nat), .int (missR hs rs[i])])) := x3.trans (.new hTT)
      refine ⟨TT, _, rfl, .inl (.inl upd_same), rfl, _, _, rfl, _, _, rfl, rfl, rfl, ?_⟩
      refine ⟨_, rfl, rfl, _, rfl, ?_⟩
      have step : ∀ b : Bool, (!decide (V.int (missR hs rs[i]) = V.int 0)) = b → (!decide (missR hs (rs.getD i (0, 0, 0)) = 0)) = b := fun b e => by
        rw [eg, ← e]
        simp
      refine ite2 (fun e => ?_) (fun e => ?_)
      · refine ⟨_, rfl, ?_, fun _ => ⟨x4, ?_⟩⟩
        · show (List.map V.int _).length < sizeLine
          rw [List.length_map, List.length_map]
          have := List.length_filter_le (fun i => !decide (missR hs (rs.getD i (0, 0, 0)) = 0)) (List.range i)
          rw [List.length_range] at this
          exact small1000 (by omega)
        · rw [filter_snoc, if_pos (step true e), List.map_append, List.map_append]
          rfl
      · refine ⟨x4, ?_⟩
        rw [filter_snoc, if_neg (by rw [step false (by simpa using e)]; decide), List.append_nil]
    · obtain ⟨x3, rfl⟩ := h3
      rw [List.length_map, List.length_map]
      refine ⟨?_, fun z hz => q z _ ((x1.trans x3).trans (.new hz)) upd_same⟩
      rw [List.length_map, List.length_map]
      have := List.length_filter_le (fun i => !decide (missR hs (rs.getD i (0, 0, 0)) = 0)) (List.range rs.length)
      rw [List.length_range] at this
      exact Nat.le_of_lt (small1000 (by omega))
/-! ### worth -/
def worthR (rs : List Rd3) (fl : List Int) : Int := ((rs.zip fl).map fun p => p.2 * p.1.2.2).sum
def spWorth (K : PySem.W.Frag) (T : Addr) : Sp := fun vs H Q _ => ∃ (p fa : Addr) (ms : List Str) (rs : List Rd3) (fl : List Int), vs = [.ref p, .ref fa] ∧ NetAt K H p ms rs ∧ rs.length ≤ 1000 ∧ SqT K H fa (fl.map V.int) ∧ fl.length = rs.length ∧
  (∀ x ∈ fl, -(2 ^ 20) ≤ x ∧ x ≤ 2 ^ 20) ∧ (∀ r ∈ rs, -(2 ^ 30) ≤ r.2.2 ∧ r.2.2 ≤ 2 ^ 30) ∧ GxR.TabG H T ∧ ∀ H', Ext [] H H' → Q (.int (worthR rs fl)) H'
abbrev nWorth : List Str := ["net", "flow", "_", "readings", "value", "amount"]
theorem scWorth : FnScope nWorth ["net", "flow"] (defScope sWorth) := ⟨rfl, rfl, rfl, by decide +kernel, rfl, by decide +kernel, by decide +kernel⟩
theorem mul_bound {a b : Int} (ha : -(2 ^ 20) ≤ a ∧ a ≤ 2 ^ 20) (hb : -(2 ^ 30) ≤ b ∧ b ≤ 2 ^ 30) : -(2 ^ 50) ≤ a * b ∧ a * b ≤ 2 ^ 50 := by
  have h : (a * b).natAbs ≤ 2 ^ 20 * 2 ^ 30 := by
    rw [Int.natAbs_mul]
    exact Nat.mul_le_mul (by omega) (by omega)
  have e : (2 : Nat) ^ 20 * 2 ^ 30 = 2 ^ 50 := by decide
  omega
theorem zip_at {α β : Type} {l : List α} {m : List β} {i : Nat} (h1 : i < l.length) (h2 : i < m.length) (h : i < (l.zip m).length) : (l.zip m)[i] = (l[i], m[i]) := by simp
theorem ok_worth {f c T : Addr} {fd : FuncData} (F : FunT K "worth" "worth" sWorth f fd c) (TB : GxR.TabB base mg c T) (msm : mg "sum" = none) (mz : mg "zip" = none) : FnOk P w K mg base CX0 8 f fd ["net", "flow"] (spWorth K T) := by
  refine F.ok scWorth (fun vs H Q E h => ?_) (fun A outer s H vs Q E hr h => ?_)
  · obtain ⟨_, _, _, _, _, rfl, _⟩ := h
    rfl
  · obtain ⟨p, fa, ms, rs, fl, rfl, ⟨mp, rp, n1, n2, vs, n3, n4, n5⟩, hlen, hf, hfl, bf, bv, hT, q⟩ := h
    refine ⟨_, pss_cons (ps_asg (pv 0) (pg_tup rfl (pgs_cons (pg_name (i := 2) scWorth.nd rfl (.inl rfl)) (pgs_cons (pg_name (i := 2) scWorth.nd rfl (.inl rfl)) (pgs_cons (pg_name (i := 3) scWorth.nd rfl (.inl rfl)) pgs_nil)))))
      (pss_one (ps_ret (pe_sum (k := 2) (psrc (k := 1) (own := [("_", 2), ("value", 4), ("amount", 5)]) (g := gTup K 2 (gCons (gTup K 3 (gCons (gName 2) (gCons (gName 2) (gCons (gName 4) gNil)))) (gCons (gName 5) gNil))) (hr.mono (by decide)) rfl scWorth.nd TB rfl (pi_zipA (by rfl) mz (pa_cons (pv 3) (pa_cons (pv 1) pa_nil))) (blkOk_by (N := nWorth) (sc := defScope sWorth) (by decide +kernel)) (by decide +kernel) rfl rfl
        (fun _ _ _ _ _ _ _ _ => pg_tup rfl (pgs_cons (pg_tup rfl (pgs_cons (pg_name (i := 2) scWorth.nd rfl (.inl rfl) (.inr rfl)) (pgs_cons (pg_name (i := 2) scWorth.nd rfl (.inl rfl) (.inr rfl)) (pgs_cons (pg_name (i := 4) scWorth.nd rfl (.inl rfl) (.inr rfl)) pgs_nil)))) (pgs_cons (pg_name (i := 5) scWorth.nd rfl (.inl rfl) (.inr rfl)) pgs_nil)))
        (fun _ _ _ _ _ _ _ _ _ => pts_nil) (fun _ _ _ _ _ _ _ _ _ => pe_op op_mul (pv 5) (pv 4))) (hr.mono (by decide)) rfl msm))), ?_⟩
    refine ⟨_, rfl, p, _, rfl, n1, rfl, _, _, rfl, _, _, rfl, _, _, rfl, rfl, ?_⟩
    refine ⟨_, rfl, _, rfl, rp, fa, vs, fl.map V.int, rfl, .inr ⟨n3, hf, hT, fun H2 tb => ?_⟩⟩
    have x2 : Ext [] H H2 := .tabbed hT tb
    have hzl : (rs.zip fl).length = rs.length := by rw [List.length_zip]; omega
    refine by_zipT (by rw [n4, List.length_map, hfl]) (fun i ys H3 => Ext [] H H3 ∧ ys = (((rs.zip fl).take i).map fun p => p.2 * p.1.2.2).map V.int) ⟨x2, rfl⟩ (fun i ys H3 h3 => ⟨h3.1.sqT n3, h3.1.sqT hf⟩) (fun i v v2 TT ys H3 hv hv2 h3 hTT => ?_) (fun ys H3 h3 => ?_)
    · obtain ⟨x3, rfl⟩ := h3
      have hi : i < rs.length := by
        rw [← n4]
        exact (List.getElem?_eq_some_iff.mp hv).1
      have hi2 : i < fl.length := by omega
      have hiz : i < (rs.zip fl).length := by omega
      obtain ⟨v', e1, rp', rfl, e2⟩ := n5 i rs[i] (List.getElem?_eq_getElem hi)
      obtain rfl := Option.some.inj (hv.symm.trans e1)
      rw [List.getElem?_map, List.getElem?_eq_getElem hi2] at hv2
      obtain rfl := Option.some.inj hv2
      have x4 : Ext [] H (upd H3 TT (.tup [.ref rp', .int fl[i]])) := x3.trans (.new hTT)
      refine ⟨TT, _, rfl, .inl (.inl upd_same), rfl, _, _, rfl, ⟨rp', _, rfl, x4.sqT e2, rfl, _, _, rfl, _, _, rfl, _, _, rfl, rfl, _, _, rfl, rfl, rfl, ?_⟩⟩
      have bx := bf _ (List.getElem_mem hi2)
      have by_ := bv _ (List.getElem_mem hi)
      obtain ⟨m1, m2⟩ := mid_long (fun p : Rd3 × Int => p.2 * p.1.2.2) (rs.zip fl) (by omega) (fun x hx => mul_bound (bf _ (List.of_mem_zip hx).2) (bv _ (List.of_mem_zip hx).1)) hiz
      rw [zip_at hi hi2 hiz] at m1 m2
      refine ⟨_, rfl, _, rfl, _, _, rfl, rfl, .inl ⟨by omega, by omega⟩, ⟨_, rfl, m1, m2⟩, fun _ => ⟨x4, ?_⟩⟩
      have e := ints_snoc (fun p : Rd3 × Int => p.2 * p.1.2.2) (rs.zip fl) hiz
      rw [zip_at hi hi2 hiz] at e
      exact e
    · obtain ⟨x3, rfl⟩ := h3
      show Q (.int (sumV _)) H3
      rw [n4, ← hzl, List.take_length, sumV_ints]
      exact q H3 x3
end
end K3

set_option maxRecDepth 100000
set_option maxHeartbeats 4000000
namespace K3
open PySem PySem.Spec PyProof.Rows L2 Gx RZ
section
variable {P : Program} {w : World} {K : PySem.W.Frag} {mg : Str → Option Value} {base : Heap}
/-! ### is_even -/
def stepE (e : List Int) (q : Rd3 × Int) : List Int := (e.set q.1.2.1 (e.getD q.1.2.1 0 + q.2)).set q.1.1 ((e.set q.1.2.1 (e.getD q.1.2.1 0 + q.2)).getD q.1.1 0 - q.2)
theorem stepE_length (e : List Int) (q : Rd3 × Int) : (stepE e q).length = e.length := by
  unfold stepE
  rw [List.length_set, List.length_set]
theorem foldE_length : ∀ (z : List (Rd3 × Int)) (e : List Int), (z.foldl stepE e).length = e.length
  | [], _ => rfl
  | q :: z, e => by rw [List.foldl_cons, foldE_length z, stepE_length]
def excR (n : Nat) (rs : List Rd3) (fl : List Int) : List Int := (rs.zip fl).foldl stepE (List.replicate n 0)
def evenR (n : Nat) (rs : List Rd3) (fl : List Int) : Bool := (excR n rs fl).all fun x => decide (x = 0)
def spIsEven (K : PySem.W.Frag) (T : Addr) : Sp := fun vs H Q _ => ∃ (p fa : Addr) (ms : List Str) (rs : List Rd3) (fl : List Int), vs = [.ref p, .ref fa] ∧ NetAt K H p ms rs ∧ Gx.Good ms.length rs ∧ rs.length ≤ 1000 ∧ ms.length ≤ 1000 ∧ SqT K H fa (fl.map V.int) ∧ fl.length = rs.length ∧ GxR.TabG H T ∧
  ∀ H', Ext [] H H' → Q (.bl (evenR ms.length rs fl)) H'
abbrev nIsEven : List Str := ["net", "flow", "_", "marks", "readings", "excess", "start", "end", "amount"]
theorem scIsEven : FnScope nIsEven ["net", "flow"] (defScope sIsEven) := ⟨rfl, rfl, rfl, by decide +kernel, rfl, by decide +kernel, by decide +kernel⟩
theorem flat_rep (n : Nat) : (List.replicate n [V.int 0]).flatten = (List.replicate n (0 : Int)).map V.int := by
  induction n with
  | zero => rfl
  | succ n ih =>
    rw [List.replicate_succ, List.flatten_cons, ih, List.replicate_succ, List.map_cons]
    rfl
theorem map_set (e : List Int) (i : Nat) (x : Int) : (e.map V.int).set i (.int x) = (e.set i x).map V.int := by rw [List.map_set]
theorem ok_isEven {f c T : Addr} {fd : FuncData} (F : FunT K "is_even" "is_even" sIsEven f fd c) (TB : GxR.TabB base mg c T) (mal : mg "all" = none) (mz : mg "zip" = none) (ml : mg "len" = none) : FnOk P w K mg base CX0 8 f fd ["net", "flow"] (spIsEven K T) := by
  refine F.ok scIsEven (fun vs H Q E h => ?_) (fun A outer s H vs Q E hr h => ?_)
  · obtain ⟨_, _, _, _, _, rfl, _⟩ := h
    rfl
  · obtain ⟨p, fa, ms, rs, fl, rfl, ⟨mp, rp, n1, n2, vs, n3, n4, n5⟩, hgood, hlen, hml, hf, hfl, hT, q⟩ := h
    refine ⟨_, pss_cons (ps_asg (pv 0) (pg_tup rfl (pgs_cons (pg_name (i := 2) scIsEven.nd rfl (.inl rfl)) (pgs_cons (pg_name (i := 3) scIsEven.nd rfl (.inl rfl)) (pgs_cons (pg_name (i := 4) scIsEven.nd rfl (.inl rfl)) pgs_nil)))))
      (pss_cons (ps_set (i := 5) scIsEven.nd rfl (.inl rfl) (pe_op op_rep (pe_lst (pa_cons pe_int pa_nil)) (pe_callB call_len_seq (by rfl) ml PySem.boot_len (pa_cons (pv 3) pa_nil))))
      (pss_cons (ps_for PassesOwn.never rfl (pi_zipA (by rfl) mz (pa_cons (pv 4) (pa_cons (pv 1) pa_nil)))
          (pg_tup rfl (pgs_cons (pg_tup rfl (pgs_cons (pg_name (i := 6) scIsEven.nd rfl (.inl rfl)) (pgs_cons (pg_name (i := 7) scIsEven.nd rfl (.inl rfl)) (pgs_cons (pg_name (i := 2) scIsEven.nd rfl (.inl rfl)) pgs_nil)))) (pgs_cons (pg_name (i := 8) scIsEven.nd rfl (.inl rfl)) pgs_nil)))
        (pss_cons (ps_augS (pv 5) (pv 7) get_list (pv 8) ip_add set_list) (pss_one (ps_augS (pv 5) (pv 6) get_list (pv 8) ip_sub set_list))))
      (pss_one (ps_ret (pe_all (k := 2) (psrc (k := 1) (own := [("amount", 8)]) (hr.mono (by decide)) rfl scIsEven.nd TB rfl (pi_list (pv 5)) (blkOk_by (N := nIsEven) (sc := defScope sIsEven) (by decide +kernel)) (by decide +kernel) rfl rfl
        (fun _ _ _ _ _ _ _ _ => pg_name (i := 8) scIsEven.nd rfl (.inl rfl)) (fun _ _ _ _ _ _ _ _ _ => pts_nil) (fun _ _ _ _ _ _ _ _ _ => pe_cmpR op_eq (pv 8) pe_int (nomark _))) (hr.mono (by decide)) rfl mal))))), ?_⟩
    -- _, marks, readings = net
    refine ⟨_, rfl, p, _, rfl, n1, rfl, _, _, rfl, _, _, rfl, _, _, rfl, rfl, ?_⟩
    -- excess = [0] * len(marks)
    refine ⟨by decide, fun l1 hl1 => ?_⟩
    have x1 : Ext [] H (upd H l1 (.lst [V.int 0])) := .new hl1
    refine ⟨_, rfl, mp, ms.map V.str, rfl, .inr (x1.sqT n2), l1, _, _, rfl, rfl, upd_same, by omega, by rw [List.length_map]; omega, ?_, fun o ho => ?_⟩
    · rw [List.length_map]
      show 1 * (ms.length : Int).toNat ≤ sizeLine
      rw [Int.toNat_natCast, Nat.one_mul]
      exact Nat.le_of_lt (small1000 hml)
    have x2 := x1.trans (Ext.new (c := []) (o := .lst (List.replicate ((ms.map V.str).length : Int).toNat [V.int 0]).flatten) ho)
    have ho0 : H o = none := x1.dom _ ho
    rw [List.length_map, Int.toNat_natCast, flat_rep] at x2 ⊢
    -- the loop
    have hzl : (rs.zip fl).length = rs.length := by rw [List.length_zip]; omega
    refine ⟨_, rfl, _, rfl, rp, fa, vs, fl.map V.int, rfl, .inr ⟨x2.sqT n3, x2.sqT hf, for_zipT (xs := vs) (ys := fl.map V.int) (by rw [n4, List.length_map, hfl])
      (fun i σ H3 => ∃ y2 y6 y7 y8, σ = [some (.ref p), some (.ref fa), y2, some (.ref mp), some (.ref rp), some (.ref o), y6, y7, y8] ∧ Ext [] H H3 ∧ H3 o = some (.lst ((((rs.zip fl).take i).foldl stepE (List.replicate ms.length 0)).map V.int)))
      ⟨_, _, _, _, rfl, x2, upd_same⟩ (fun i σ H3 h3 => ?_) (fun i v v2 TT σ H3 hv hv2 h3 hTT => ?_) (fun σ H3 h3 => ?_)⟩⟩
    · obtain ⟨_, _, _, _, _, x3, _⟩ := h3
      exact ⟨x3.sqT n3, x3.sqT hf⟩
    · obtain ⟨y2, y6, y7, y8, rfl, x3, eo⟩ := h3
      have hi : i < rs.length := by
        rw [← n4]
        exact (List.getElem?_eq_some_iff.mp hv).1
      have hi2 : i < fl.length := by omega
      have hiz : i < (rs.zip fl).length := by omega
      obtain ⟨v', e1, rp', rfl, e2⟩ := n5 i rs[i] (List.getElem?_eq_getElem hi)
      obtain rfl := Option.some.inj (hv.symm.trans e1)
      rw [List.getElem?_map, List.getElem?_eq_getElem hi2] at hv2
      obtain rfl := Option.some.inj hv2
      obtain ⟨g1, g2, g3⟩ := hgood _ (List.getElem_mem hi)
      have x4 : Ext [] H (upd H3 TT (.tup [.ref rp', .int fl[i]])) := x3.trans (.new hTT)
      have nTo : o ≠ TT := ne_of_none eo hTT
      have eo4 : (upd H3 TT (.tup [.ref rp', .int fl[i]])) o = some (.lst ((((rs.zip fl).take i).foldl stepE (List.replicate ms.length 0)).map V.int)) := by rw [upd_ne nTo]; exact eo
      generalize hE : ((rs.zip fl).take i).foldl stepE (List.replicate ms.length 0) = E0 at eo4
      have lE : E0.length = ms.length := by rw [← hE, foldE_length, List.length_replicate]
      refine ⟨TT, _, rfl, .inl (.inl upd_same), rfl, _, _, rfl, ⟨rp', _, rfl, x4.sqT e2, rfl, _, _, rfl, _, _, rfl, _, _, rfl, rfl, _, _, rfl, rfl, ?_⟩⟩
      -- excess[end] += amount
      refine ⟨_, rfl, _, rfl, o, _, _, _, rfl, rfl, SqL.of eo4, ints_at (by rw [lE]; exact g2), _, rfl, _, _, rfl, rfl, o, _, _, _, rfl, rfl, eo4, ixN_nat (by rw [List.length_map, lE]; exact g2), ?_⟩
      -- excess[start] -= amount
      have x5 := x4.own ho0 eo4 (ys := (E0.map V.int).set rs[i].2.1 (.int (E0.getD rs[i].2.1 0 + fl[i])))
      rw [map_set] at x5 ⊢
      refine ⟨_, rfl, _, rfl, o, _, _, _, rfl, rfl, SqL.of upd_same, ints_at (by rw [List.length_set, lE]; exact g1), _, rfl, _, _, rfl, rfl, o, _, _, _, rfl, rfl, upd_same, ixN_nat (by rw [List.length_map, List.length_set, lE]; exact g1), ?_⟩
      refine ⟨_, _, _, _, rfl, x5.own ho0 upd_same, ?_⟩
      rw [upd_same, map_set, List.take_add_one, List.getElem?_eq_getElem hiz, List.foldl_append, hE, zip_at hi hi2 hiz]
      rfl
    · obtain ⟨y2, y6, y7, y8, rfl, x3, eo⟩ := h3
      rw [n4, ← hzl, List.take_length] at eo
      refine ⟨_, rfl, o, rfl, ⟨_, SqL.of eo⟩, x3.tab _ hT, fun H4 tb => ?_⟩
      have x4 : Ext [] H3 H4 := .tabbed (x3.tab _ hT) tb
      refine by_list (fun i ys H5 => Ext [] H3 H5 ∧ ys = ((excR ms.length rs fl).take i).map fun x => V.bl (decide (x = 0))) ⟨x4, rfl⟩ (fun i ys H5 h5 => SqL.of (h5.1.lst eo (by simp))) (fun i v ys H5 hv h5 => ?_) (fun ys H5 h5 => ?_)
      · obtain ⟨x5, rfl⟩ := h5
        have hi : i < (excR ms.length rs fl).length := by
          have := (List.getElem?_eq_some_iff.mp hv).1
          rw [List.length_map] at this
          exact this
        have ev : v = .int (excR ms.length rs fl)[i] := by
          have hv' : ((excR ms.length rs fl).map V.int)[i]? = some v := hv
          rw [List.getElem?_map, List.getElem?_eq_getElem hi] at hv'
          exact (Option.some.inj hv').symm
        subst ev
        refine ⟨rfl, _, rfl, rfl, ⟨_, rfl, fun hb _ => ?_⟩, fun _ => ⟨x5, ?_⟩⟩
        · have : evenR ms.length rs fl = false := by
            unfold evenR
            rw [List.all_eq_false]
            refine ⟨_, List.getElem_mem hi, ?_⟩
            simpa using hb
          rw [← this]
          exact q _ (x3.trans x5)
        · rw [← snoc (fun x => V.bl (decide (x = 0))) (excR ms.length rs fl) hi]
          simp
      · obtain ⟨x5, rfl⟩ := h5
        intro hall
        have : evenR ms.length rs fl = true := by
          unfold evenR
          rw [List.all_eq_true]
          intro x hx
          have lx : (List.map V.int ((rs.zip fl).foldl stepE (List.replicate ms.length 0))).length = (excR ms.length rs fl).length := List.length_map ..
          rw [lx, List.take_length] at hall
          have := hall _ (List.mem_map.mpr ⟨x, hx, rfl⟩)
          exact V.bl.inj this
        show Q (.bl true) H5
        rw [← this]
        exact q _ (x3.trans x5)
end
end K3

set_option maxRecDepth 100000
set_option maxHeartbeats 4000000
namespace Lw
open PySem PySem.Spec PyProof.Rows L2 Gx RZ
abbrev sCell : Stmt := K3.topS 9
abbrev sDigits : Stmt := K3.topS 10
abbrev sDraw : Stmt := K3.topS 11
abbrev sPick : Stmt := K3.topS 12
abbrev sSame : Stmt := K3.topS 13
abbrev sMarks : Stmt := K3.topS 14
abbrev sReading : Stmt := K3.topS 15
abbrev sNet : Stmt := K3.topS 16
abbrev sMissL : Stmt := K3.topS 17
abbrev sCostL : Stmt := K3.topS 18
abbrev sRing : Stmt := K3.topS 19
abbrev sLaw : Stmt := K3.topS 20
section
variable {P : Program} {w : World} {K : PySem.W.Frag} {mg : Str → Option Value} {base : Heap}
/-! ### _law_cell -/
def spCell (K : PySem.W.Frag) : Sp := fun vs H Q _ => ∃ (a : Addr) (xs : List Int) (k : Nat), vs = [.ref a, .int (k : Nat)] ∧ SqL K H a (xs.map V.int) ∧ ∀ x : Int, Q (.int x) H
theorem scCell : FnScope ["script", "k"] ["script", "k"] (defScope sCell) := ⟨rfl, rfl, rfl, by decide +kernel, rfl, by decide +kernel, by decide +kernel⟩
theorem ok_cell {f : Addr} {fd : FuncData} (ml : mg "len" = none) (F : Fun K "_law_cell" "_law_cell" sCell f fd) : FnOk P w K mg base CX0 1 f fd ["script", "k"] (spCell K) := by
  refine F.ok scCell (fun vs H Q E h => ?_) (fun cdv A outer s H vs Q E hr h => ?_)
  · obtain ⟨_, _, _, rfl, _⟩ := h
    rfl
  · obtain ⟨a, xs, k, rfl, hs, q⟩ := h
    refine ⟨_, pss_cons (ps_if (pt_cmpR op_lt (pv 1) (pe_callB call_len_seq (by rfl) ml PySem.boot_len (pa_cons (pv 0) pa_nil)) (nomark _)) (pss_one (ps_ret (pe_ix ix_list (pv 0) (pv 1) (fun _ _ => rfl)))) pss_nil)
      (pss_one (ps_ret pe_int)), ?_⟩
    refine ⟨_, rfl, _, rfl, a, _, rfl, .inl hs, _, _, rfl, rfl, _, rfl, ite2 (fun e => ?_) (fun e => ?_)⟩
    · have hk : k < xs.length := by
        have := of_decide_eq_true e
        rw [List.length_map] at this
        omega
      exact ⟨_, rfl, _, rfl, a, _, _, _, rfl, rfl, hs, atI_nat (ints_at hk), q _⟩
    · exact q 0
/-! ### _law_digits -/
def spDigits (K : PySem.W.Frag) : Sp := fun vs H Q _ => ∃ (a : Addr) (xs : List Int), vs = [.ref a, .int 0, .int 60] ∧ SqL K H a (xs.map V.int) ∧
  ∀ (d : Addr) (ds : List Int) (H' : Hp), Ext [] H H' → H d = none → H' d = some (.lst (ds.map V.int)) → Q (.ref d) H'
abbrev nDigits : List Str := ["script", "first", "last", "digits", "k", "cell", "turn", "seed"]
theorem scDigits : FnScope nDigits ["script", "first", "last"] (defScope sDigits) := ⟨rfl, rfl, rfl, by decide +kernel, rfl, by decide +kernel, by decide +kernel⟩
/-- the list that is made -/
structure Dig (H : Hp) (n : Nat) (d : Addr) (H' : Hp) : Prop where
  x : Ext [] H H'
  new : H d = none
  lst : ∃ ds : List Int, H' d = some (.lst (ds.map V.int)) ∧ ds.length ≤ n
theorem Dig.push {H H' : Hp} {n : Nat} {d : Addr} {ds : List Int} (h : Dig H n d H') (e : H' d = some (.lst (ds.map V.int))) (hn : ds.length ≤ n) (i : Int) : Dig H (n + 1) d (upd H' d (.lst (ds.map V.int ++ [.int i]))) :=
  ⟨h.x.own h.new e, h.new, ds ++ [i], by rw [upd_same, List.map_append]; rfl, by rw [List.length_append]; simpa using hn⟩
theorem ok_digits {f fC : Addr} {fd fdC : FuncData} (ml : mg "len" = none) (mr : mg "range" = none) (mi : mg "int" = none) (F : Fun K "_law_digits" "_law_digits" sDigits f fd)
    (FC : Fun K "_law_cell" "_law_cell" sCell fC fdC) (bC : Binds K fdC ["script", "k"] []) (gC : mg "_law_cell" = some (.ref fC)) : FnOk P w K mg base CX0 2 f fd ["script", "first", "last"] (spDigits K) := by
  have GC : FnOk P w K mg base CX0 1 fC fdC ["script", "k"] (spCell K) := ok_cell ml FC
  have nd := scDigits.nd
  refine F.ok scDigits (fun vs H Q E h => ?_) (fun cdv A outer s H vs Q E hr h => ?_)
  · obtain ⟨_, _, rfl, _⟩ := h
    rfl
  · obtain ⟨a, xs, rfl, hs, q⟩ := h
    refine ⟨_, pss_cons (ps_set (i := 3) nd rfl (.inl rfl) (pe_lst pa_nil))
      (pss_cons (ps_for PassesOwn.never rfl (pi_range2 (by rfl) mr (pa_cons (pv 1) (pa_cons (pv 2) pa_nil))) (pg_name (i := 4) nd rfl (.inl rfl))
        (pss_cons (ps_set (i := 5) nd rfl (.inl rfl) (pe_call GC hr (by rfl) gC FC.kp bC .nil pass0 (pa_cons (pv 0) (pa_cons (pv 4) pa_nil))))
        (pss_cons (ps_if (pt_cmpR op_lt (pv 5) pe_int (nomark _)) (pss_one (ps_set (i := 5) nd rfl (.inl rfl) (pe_op op_sub pe_int (pe_op op_mul pe_int (pv 5))))) pss_nil)
        (pss_one (ps_if (pt_cmpR op_ge (pv 5) (pe_op op_pow pe_int pe_int) (nomark _))
          (pss_one (ps_for PassesOwn.never rfl (pi_range1 (by rfl) mr (pa_cons pe_int pa_nil)) (pg_name (i := 6) nd rfl (.inl rfl))
            (pss_one (ps_if (pt_cmpR op_gt (pv 5) pe_int (nomark _))
              (pss_cons (ps_expr (pe_bm PySem.F.plainAttrs_list PySem.F.slot_list_append PySem.F.type_list_append mt_append (pv 3) (pa_cons (pe_op op_mod (pe_callTy call_int1 (by rfl) mi PyProof.Rows.boot_int (pa_cons (pv 5) pa_nil)) pe_int) pa_nil)))
              (pss_one (ps_set (i := 5) nd rfl (.inl rfl) (pe_op op_fdiv (pv 5) pe_int)))) pss_nil))))
          (pss_cons (ps_set (i := 7) nd rfl (.inl rfl) (pe_op op_mod (pe_callTy call_int1 (by rfl) mi PyProof.Rows.boot_int (pa_cons (pe_op op_add (pe_op op_add (pe_op op_mul (pv 5) pe_int) (pe_op op_mul (pv 4) pe_int)) pe_int) pa_nil)) pe_int))
          (pss_one (ps_for PassesOwn.never rfl (pi_range1 (by rfl) mr (pa_cons pe_int pa_nil)) (pg_name (i := 6) nd rfl (.inl rfl))
            (pss_cons (ps_set (i := 7) nd rfl (.inl rfl) (pe_op op_mod (pe_callTy call_int1 (by rfl) mi PyProof.Rows.boot_int (pa_cons (pe_op op_add (pe_op op_add (pe_op op_mul (pv 7) pe_int) (pe_op op_mul pe_int (pv 6))) pe_int) pa_nil)) pe_int))
            (pss_one (ps_expr (pe_bm PySem.F.plainAttrs_list PySem.F.slot_list_append PySem.F.type_list_append mt_append (pv 3) (pa_cons (pe_op op_mod (pe_callTy call_int1 (by rfl) mi PyProof.Rows.boot_int (pa_cons (pe_op op_fdiv (pv 7) pe_int) pa_nil)) pe_int) pa_nil)))))))))))))
      (pss_one (ps_ret (pv 3)))), ?_⟩
    refine ⟨by decide, fun d hd => ?_⟩
    refine ⟨_, rfl, _, rfl, 0, 60, rfl, by decide, for_range (n := 60)
      (fun i σ H3 => ∃ y4 y5 y6 y7, σ = [some (.ref a), some (.int 0), some (.int 60), some (.ref d), y4, y5, y6, y7] ∧ Dig H (60 * i) d H3)
      ⟨_, _, _, _, rfl, .new hd, hd, [], upd_same, Nat.le_refl _⟩ (fun i σ H3 hi h3 => ?_) (fun σ H3 h3 => ?_)⟩
    · obtain ⟨y4, y5, y6, y7, rfl, D3⟩ := h3
      have hk : ((0 : Int) + (i : Nat)) = ((i : Nat) : Int) := by omega
      refine ⟨_, rfl, _, rfl, a, xs, i, by rw [hk]; rfl, D3.x.sqL hs (by simp), fun x => ?_⟩
      -- the sign
      refine ⟨_, rfl, _, _, rfl, rfl, _, rfl, ?_⟩
      refine ite2 (fun _ => ?_) (fun _ => ?_)
      refine ⟨_, rfl, _, _, rfl, rfl, .inl (by decide), _, _, rfl, rfl, ?_⟩
      all_goals
        refine ⟨_, rfl, _, _, rfl, rfl, ⟨by decide, by decide, by decide⟩, _, _, rfl, rfl, _, rfl, ?_⟩
        refine ite2 (fun _ => ?_) (fun _ => ?_)
        · refine ⟨_, rfl, by decide, by decide, for_range (n := 60)
            (fun j σ H4 => ∃ y5 y6, σ = [some (.ref a), some (.int 0), some (.int 60), some (.ref d), some (.int (0 + (i : Nat))), some (.int y5), y6, y7] ∧ Dig H (60 * i + j) d H4)
            ⟨_, _, rfl, D3⟩ (fun j σ H4 hj h4 => ?_) (fun σ H4 h4 => ?_)⟩
          · obtain ⟨c, z6, rfl, D4⟩ := h4
            refine ⟨_, rfl, _, _, rfl, rfl, _, rfl, ?_⟩
            refine ite2 (fun _ => ?_) (fun _ => ?_)
            · obtain ⟨ds, e, hn⟩ := D4.lst
              refine ⟨_, rfl, .inl ⟨rfl, _, SqL.of e⟩, _, rfl, .inl ⟨_, rfl, _, _, rfl, rfl, by show (0 : Int) < 1000; decide, ?_⟩⟩
              refine ⟨d, _, _, rfl, rfl, e, by rw [List.length_map]; show _ < 2 ^ 24; omega, ?_⟩
              refine ⟨_, rfl, _, _, rfl, rfl, ⟨by decide, by decide⟩, _, _, rfl, D4.push e hn _⟩
            · exact ⟨_, _, rfl, D4.x, D4.new, let ⟨ds, e, hn⟩ := D4.lst; ⟨ds, e, Nat.le_succ_of_le hn⟩⟩
          · obtain ⟨c, z6, rfl, D4⟩ := h4
            exact ⟨_, _, _, _, rfl, D4.x, D4.new, let ⟨ds, e, hn⟩ := D4.lst; ⟨ds, e, by omega⟩⟩
        · refine ⟨_, rfl, _, _, rfl, rfl, .inr (by decide), _, rfl, _, _, rfl, rfl, .inr (by decide), _, _, rfl, rfl, _, _, rfl, rfl, .inl ⟨_, rfl, _, _, rfl, rfl, by show (0 : Int) < 2147483647; decide, ?_⟩⟩
          refine ⟨_, rfl, by decide, by decide, for_range (n := 12)
            (fun j σ H4 => ∃ y5 y6 y7, σ = [some (.ref a), some (.int 0), some (.int 60), some (.ref d), some (.int (0 + (i : Nat))), y5, y6, some (.int y7)] ∧ Dig H (60 * i + j) d H4)
            ⟨_, _, _, rfl, D3⟩ (fun j σ H4 hj h4 => ?_) (fun σ H4 h4 => ?_)⟩
          · obtain ⟨z5, z6, c, rfl, D4⟩ := h4
            refine ⟨_, rfl, _, _, rfl, rfl, .inr (by decide), _, rfl, _, _, rfl, rfl, .inl (by decide), _, _, rfl, rfl, _, _, rfl, rfl, .inl ⟨_, rfl, _, _, rfl, rfl, by show (0 : Int) < 2147483647; decide, ?_⟩⟩
            obtain ⟨ds, e, hn⟩ := D4.lst
            refine ⟨_, rfl, .inl ⟨rfl, _, SqL.of e⟩, _, rfl, _, _, rfl, rfl, ⟨by decide, by decide⟩, .inl ⟨_, rfl, _, _, rfl, rfl, by show (0 : Int) < 1000; decide, ?_⟩⟩
            refine ⟨d, _, _, rfl, rfl, e, by rw [List.length_map]; show _ < 2 ^ 24; omega, ?_⟩
            exact ⟨_, _, _, rfl, D4.push e hn _⟩
          · obtain ⟨z5, z6, c, rfl, D4⟩ := h4
            exact ⟨_, _, _, _, rfl, D4.x, D4.new, let ⟨ds, e, hn⟩ := D4.lst; ⟨ds, e, by omega⟩⟩
    · obtain ⟨y4, y5, y6, y7, rfl, D3⟩ := h3
      obtain ⟨ds, e, _⟩ := D3.lst
      exact ⟨_, rfl, q d ds H3 D3.x hd e⟩
end
end Lw

set_option maxRecDepth 100000
set_option maxHeartbeats 4000000
namespace Lw
open PySem PySem.Spec PyProof.Rows L2 Gx RZ
/-- the box of digits -/
def Box (H : Hp) (b d : Addr) : Prop := ∃ (ds : List Int) (at_ : Nat), H b = some (.lst [.ref d, .int (at_ : Nat)]) ∧ H d = some (.lst (ds.map V.int))
theorem Box.ne {H : Hp} {a b d : Addr} {xs : List Int} (h : Box H b d) (e : H a = some (.lst (xs.map V.int))) : a ≠ b := by
  obtain ⟨ds, at_, h1, h2⟩ := h
  intro z
  rw [z, h1] at e
  have e2 := HO.lst.inj (Option.some.inj e)
  cases xs with
  | nil => cases e2
  | cons x r =>
    rw [List.map_cons] at e2
    have := (List.cons.inj e2).1
    cases this
theorem Box.ext {H H' : Hp} {b d : Addr} (h : Box H b d) (x : Ext [] H H') : Box H' b d := let ⟨ds, at_, h1, h2⟩ := h; ⟨ds, at_, x.lst h1 (by simp), x.lst h2 (by simp)⟩
theorem Box.upd {H H1 : Hp} {b d p : Addr} {o : HO} (h : Box H b d) (h1 : Box H1 b d) (hp : H p = none) : Box (L2.upd H1 p o) b d := by
  obtain ⟨_, _, e1, e2⟩ := h
  obtain ⟨ds, at_, k1, k2⟩ := h1
  exact ⟨ds, at_, by rw [upd_ne (ne_of_none e1 hp)]; exact k1, by rw [upd_ne (ne_of_none e2 hp)]; exact k2⟩
section
variable {P : Program} {w : World} {K : PySem.W.Frag} {mg : Str → Option Value} {base : Heap}
/-! ### _law_draw -/
def spDraw : Sp := fun vs H Q _ => ∃ (b d : Addr) (many : Int), vs = [.ref b, .int many] ∧ Box H b d ∧ 0 < many ∧ ∀ (r : Int) (H' : Hp), 0 ≤ r → r < many → Ext [b] H H' → Box H' b d → Q (.int r) H'
theorem scDraw : FnScope ["box", "many", "at"] ["box", "many"] (defScope sDraw) := ⟨rfl, rfl, rfl, by decide +kernel, rfl, by decide +kernel, by decide +kernel⟩
theorem ok_draw {f : Addr} {fd : FuncData} (ml : mg "len" = none) (mi : mg "int" = none) (F : Fun K "_law_draw" "_law_draw" sDraw f fd) : FnOk P w K mg base CX0 1 f fd ["box", "many"] spDraw := by
  have nd := scDraw.nd
  refine F.ok scDraw (fun vs H Q E h => ?_) (fun cdv A outer s H vs Q E hr h => ?_)
  · obtain ⟨_, _, _, rfl, _⟩ := h
    rfl
  · obtain ⟨b, d, many, rfl, ⟨ds, k, hb, hd⟩, hm, q⟩ := h
    refine ⟨_, pss_cons (ps_set (i := 2) nd rfl (.inl rfl) (pe_ix ix_list (pv 0) pe_int (fun _ _ => rfl)))
      (pss_cons (ps_asg (pe_op op_add (pv 2) pe_int) (pg_sub (pv 0) pe_int set_list))
      (pss_cons (ps_if (pt_cmpR op_lt (pv 2) (pe_callB call_len_seq (by rfl) ml PySem.boot_len (pa_cons (pe_ix ix_list (pv 0) pe_int (fun _ _ => rfl)) pa_nil)) (nomark _))
        (pss_one (ps_ret (pe_op op_mod (pe_callTy call_int1 (by rfl) mi PyProof.Rows.boot_int (pa_cons (pe_ix ix_list (pe_ix ix_list (pv 0) pe_int (fun _ _ => rfl)) (pv 2) (fun _ _ => rfl)) pa_nil)) (pv 1)))) pss_nil)
      (pss_one (ps_ret pe_int)))), ?_⟩
    have ndb : d ≠ b := by
      have := Box.ne ⟨ds, k, hb, hd⟩ hd
      exact this
    refine ⟨_, rfl, b, _, _, _, rfl, rfl, SqL.of hb, atI_nat (j := 1) rfl, ?_⟩
    refine ⟨_, rfl, _, _, rfl, rfl, _, rfl, b, _, _, 1, rfl, rfl, hb, rfl, ?_⟩
    have x1 : Ext [b] H (upd H b (.lst [.ref d, .int ((k : Int) + 1)])) := .set (List.mem_singleton.mpr rfl) hb
    have hb1 : (upd H b (.lst [.ref d, .int ((k : Int) + 1)])) b = some (.lst [.ref d, .int ((k : Int) + 1)]) := upd_same
    have hd1 : (upd H b (.lst [.ref d, .int ((k : Int) + 1)])) d = some (.lst (ds.map V.int)) := by rw [upd_ne ndb]; exact hd
    have bx : Box (L2.upd H b (.lst [.ref d, .int ((k : Int) + 1)])) b d := ⟨ds, k + 1, by rw [hb1]; rfl, hd1⟩
    refine ⟨_, rfl, _, rfl, b, _, _, _, rfl, rfl, SqL.of hb1, atI_nat (j := 0) rfl, d, _, rfl, .inl (SqL.of hd1), _, _, rfl, rfl, _, rfl, ite2 (fun e => ?_) (fun e => ?_)⟩
    · have hk : k < ds.length := by
        have := of_decide_eq_true e
        rw [List.length_map] at this
        omega
      refine ⟨_, rfl, b, _, _, _, rfl, rfl, SqL.of hb1, atI_nat (j := 0) rfl, _, rfl, d, _, _, _, rfl, rfl, SqL.of hd1, atI_nat (ints_at hk), .inl ⟨_, rfl, _, rfl, _, _, rfl, rfl, hm, ?_⟩⟩
      exact q _ _ (Int.emod_nonneg _ (by omega)) (Int.emod_lt_of_pos _ hm) x1 bx
    · exact q 0 _ (by omega) hm x1 bx
/-! ### _law_pick -/
def spPick (K : PySem.W.Frag) : Sp := fun vs H Q _ => ∃ (b d t : Addr) (xs : List Int), vs = [.ref b, .ref t] ∧ Box H b d ∧ H t = some (.lst (xs.map V.int)) ∧ xs ≠ [] ∧ ∀ x ∈ xs, ∀ H', Ext [b] H H' → Box H' b d → Q (.int x) H'
theorem scPick : FnScope ["box", "things"] ["box", "things"] (defScope sPick) := ⟨rfl, rfl, rfl, by decide +kernel, rfl, by decide +kernel, by decide +kernel⟩
theorem ok_pick {f fD : Addr} {fd fdD : FuncData} (ml : mg "len" = none) (mi : mg "int" = none) (F : Fun K "_law_pick" "_law_pick" sPick f fd)
    (FD : Fun K "_law_draw" "_law_draw" sDraw fD fdD) (bD : Binds K fdD ["box", "many"] []) (gD : mg "_law_draw" = some (.ref fD)) : FnOk P w K mg base CX0 2 f fd ["box", "things"] (spPick K) := by
  have nd := scPick.nd
  have GD : FnOk P w K mg base CX0 1 fD fdD ["box", "many"] spDraw := ok_draw ml mi FD
  refine F.ok scPick (fun vs H Q E h => ?_) (fun cdv A outer s H vs Q E hr h => ?_)
  · obtain ⟨_, _, _, _, rfl, _⟩ := h
    rfl
  · obtain ⟨b, d, t, xs, rfl, hb, ht, hx, q⟩ := h
    refine ⟨_, pss_one (ps_ret (pe_ix ix_list (pv 1) (pe_op op_mod (pe_callTy call_int1 (by rfl) mi PyProof.Rows.boot_int (pa_cons (pe_call GD hr (by rfl) gD FD.kp bD .nil pass0 (pa_cons (pv 0) (pa_cons pe_int pa_nil))) pa_nil)) (pe_callB call_len_seq (by rfl) ml PySem.boot_len (pa_cons (pv 1) pa_nil))) (fun _ _ => rfl))), ?_⟩
    refine ⟨_, rfl, _, rfl, b, d, 900, rfl, hb, by decide, fun r H1 h0 h1 x1 b1 => .inl ⟨_, rfl, ?_⟩⟩
    have ht1 : H1 t = some (.lst (xs.map V.int)) := x1.lst ht (by rw [List.mem_singleton]; exact hb.ne ht)
    have hl : 0 < xs.length := List.length_pos_iff.mpr hx
    have hlI : (0 : Int) < ((xs.map V.int).length : Nat) := by
      rw [List.length_map]
      omega
    refine ⟨_, rfl, t, _, rfl, .inl (SqL.of ht1), _, _, rfl, rfl, hlI, ?_⟩
    have e0 := Int.emod_nonneg r (Int.ne_of_gt hlI)
    have e1 := Int.emod_lt_of_pos r hlI
    obtain ⟨j, hj⟩ : ∃ j : Nat, r % ((xs.map V.int).length : Nat) = (j : Int) := ⟨_, (Int.toNat_of_nonneg e0).symm⟩
    rw [hj] at e1
    have hjl : j < xs.length := by
      rw [List.length_map] at e1
      omega
    refine ⟨t, _, _, _, rfl, by rw [← hj], SqL.of ht1, atI_nat (ints_at hjl), q _ ?_ _ x1 b1⟩
    rw [List.getD_eq_getElem?_getD, List.getElem?_eq_getElem hjl]
    exact List.getElem_mem hjl
/-! ### _law_marks -/
def spMarks : Sp := fun vs H Q _ => ∃ (b d : Addr) (n : Nat), vs = [.ref b, .int (n : Nat)] ∧ Box H b d ∧ n ≤ 7 ∧ ∀ (q : Addr) (ms : List Str) (H' : Hp), ms.length = n → Ext [b] H H' → Box H' b d → H' q = some (.tup (ms.map V.str)) → Q (.ref q) H'
abbrev nMarks : List Str := ["box", "many", "at", "k"]
theorem scMarks : FnScope nMarks ["box", "many"] (defScope sMarks) := ⟨rfl, rfl, rfl, by decide +kernel, rfl, by decide +kernel, by decide +kernel⟩
theorem ok_marks {f fD : Addr} {fd fdD : FuncData} (ml : mg "len" = none) (mi : mg "int" = none) (mr : mg "range" = none) (mt : mg "tuple" = none) (F : Fun K "_law_marks" "_law_marks" sMarks f fd)
    (FD : Fun K "_law_draw" "_law_draw" sDraw fD fdD) (bD : Binds K fdD ["box", "many"] []) (gD : mg "_law_draw" = some (.ref fD)) : FnOk P w K mg base CX0 2 f fd ["box", "many"] spMarks := by
  have nd := scMarks.nd
  have GD : FnOk P w K mg base CX0 1 fD fdD ["box", "many"] spDraw := ok_draw ml mi FD
  refine F.ok scMarks (fun vs H Q E h => ?_) (fun cdv A outer s H vs Q E hr h => ?_)
  · obtain ⟨_, _, _, rfl, _⟩ := h
    rfl
  · obtain ⟨b, d, n, rfl, hb, hn, q⟩ := h
    refine ⟨_, pss_cons (ps_set (i := 2) nd rfl (.inr rfl) (pe_call GD hr (by rfl) gD FD.kp bD .nil pass0 (pa_cons (pv 0) (pa_cons pe_int pa_nil))))
      (pss_one (ps_ret (pe_callTy call_tuple_of (by rfl) mt PyProof.Rows.boot_tuple (pa_cons (pe_lc (own := [("k", 3)]) (g := gName 3) (tt := tYes) rfl nd (pi_range1 (by rfl) mr (pa_cons (pv 1) pa_nil)) (blkOk_by (N := nMarks) (sc := defScope sMarks) (by decide +kernel))
        (fun _ _ _ _ _ => pg_name (i := 3) nd rfl (.inl rfl)) (fun _ _ _ _ _ => pts_nil) (fun _ _ _ _ _ => pe_op op_add_str pe_str (pe_ix ix_str pe_str (pe_op op_add (pv 2) (pv 3)) (fun _ _ => rfl)))) pa_nil)))), ?_⟩
    refine ⟨_, rfl, b, d, 20, rfl, hb, by decide, fun r H1 h0 h1 x1 b1 => ?_⟩
    refine ⟨_, rfl, (n : Int), rfl, by omega, by omega, fun D hD => ?_⟩
    rw [Int.toNat_natCast]
    refine lc_range (fun i H2 => ∃ ms : List Str, ms.length = i ∧ Ext [] H1 H2 ∧ H2 D = some (.lst (ms.map V.str))) ⟨[], rfl, .new hD, upd_same⟩ (fun i H2 hi h2 => ?_) (fun H2 h2 => ?_)
    · obtain ⟨ms, e1, x2, e2⟩ := h2
      obtain ⟨j, hj⟩ : ∃ j : Nat, r + (0 + (i : Nat)) = (j : Int) := ⟨(r + (0 + (i : Nat))).toNat, by omega⟩
      have hjl : j < 26 := by omega
      have hc : ∃ c, ("abcdefghijklmnopqrstuvwxyz" : Str).cps.toList[j]? = some c := ⟨_, List.getElem?_eq_getElem (show j < ("abcdefghijklmnopqrstuvwxyz" : Str).cps.toList.length from hjl)⟩
      obtain ⟨c, hc⟩ := hc
      refine ⟨rfl, _, rfl, _, rfl, _, _, rfl, rfl, _, _, c, rfl, rfl, by decide, by rw [hj]; exact atI_nat hc, _, _, rfl, rfl, by show 1 + 1 ≤ 2 ^ 24; decide, ?_⟩
      refine ⟨_, e2, by rw [List.length_map, e1]; exact small1000 (by omega), ms ++ ["m" ++ (⟨#[c]⟩ : Str)], by rw [List.length_append, e1]; rfl, x2.own hD e2, ?_⟩
      rw [upd_same, List.map_append]
      rfl
    · obtain ⟨ms, e1, x2, e2⟩ := h2
      refine ⟨D, _, rfl, .inl ⟨SqL.of e2, fun l hl => q l ms _ e1 (x1.trans ((x2.trans (.new hl)).mono (by simp))) (b1.ext (x2.trans (.new hl))) upd_same⟩⟩
/-! ### _law_reading -/
def spReading (K : PySem.W.Frag) : Sp := fun vs H Q _ => ∃ (b d h : Addr) (hs : List Int) (one other : Nat), vs = [.ref b, .ref h, .int (one : Nat), .int (other : Nat)] ∧ Box H b d ∧ H h = some (.lst (hs.map V.int)) ∧ one < hs.length ∧ other < hs.length ∧ one ≠ other ∧ (∀ x ∈ hs, -10 ≤ x ∧ x ≤ 10) ∧
  ∀ (q : Addr) (r : Rd3) (H' : Hp), (r.1 < hs.length ∧ r.2.1 < hs.length ∧ r.1 ≠ r.2.1) → (-100 ≤ r.2.2 ∧ r.2.2 ≤ 100) → Ext [b] H H' → Box H' b d → H' q = some (.tup [.int r.1, .int r.2.1, .int r.2.2]) → Q (.ref q) H'
abbrev nReading : List Str := ["box", "heights", "one", "other", "value"]
theorem scReading : FnScope nReading ["box", "heights", "one", "other"] (defScope sReading) := ⟨rfl, rfl, rfl, by decide +kernel, rfl, by decide +kernel, by decide +kernel⟩
theorem getD_mem {hs : List Int} {i : Nat} (h : i < hs.length) : hs.getD i 0 ∈ hs := by
  rw [List.getD_eq_getElem?_getD, List.getElem?_eq_getElem h]
  exact List.getElem_mem h
theorem ok_reading {f fD : Addr} {fd fdD : FuncData} (ml : mg "len" = none) (mi : mg "int" = none) (F : Fun K "_law_reading" "_law_reading" sReading f fd)
    (FD : Fun K "_law_draw" "_law_draw" sDraw fD fdD) (bD : Binds K fdD ["box", "many"] []) (gD : mg "_law_draw" = some (.ref fD)) : FnOk P w K mg base CX0 2 f fd ["box", "heights", "one", "other"] (spReading K) := by
  have nd := scReading.nd
  have GD : FnOk P w K mg base CX0 1 fD fdD ["box", "many"] spDraw := ok_draw ml mi FD
  refine F.ok scReading (fun vs H Q E h => ?_) (fun cdv A outer s H vs Q E hr h => ?_)
  · obtain ⟨_, _, _, _, _, _, rfl, _⟩ := h
    rfl
  · obtain ⟨b, d, h, hs, one, other, rfl, hb, hh, l1, l2, ne, hbd, q⟩ := h
    refine ⟨_, pss_cons (ps_set (i := 4) nd rfl (.inl rfl) (pe_op op_sub (pe_ix ix_list (pv 1) (pv 3) (fun _ _ => rfl)) (pe_ix ix_list (pv 1) (pv 2) (fun _ _ => rfl))))
      (pss_cons (ps_if (pt_cmpR op_eq (pe_call GD hr (by rfl) gD FD.kp bD .nil pass0 (pa_cons (pv 0) (pa_cons pe_int pa_nil))) pe_int (nomark _))
        (pss_one (ps_set (i := 4) nd rfl (.inl rfl) (pe_op op_sub (pe_op op_add (pv 4) (pe_call GD hr (by rfl) gD FD.kp bD .nil pass0 (pa_cons (pv 0) (pa_cons pe_int pa_nil)))) pe_int))) pss_nil)
      (pss_cons (ps_if (pt_cmpR op_eq (pe_call GD hr (by rfl) gD FD.kp bD .nil pass0 (pa_cons (pv 0) (pa_cons pe_int pa_nil))) pe_int (nomark _))
        (pss_one (ps_ret (pe_tup (pa_cons (pv 3) (pa_cons (pv 2) (pa_cons (pe_op op_sub pe_int (pv 4)) pa_nil)))))) pss_nil)
      (pss_one (ps_ret (pe_tup (pa_cons (pv 2) (pa_cons (pv 3) (pa_cons (pv 4) pa_nil)))))))), ?_⟩
    have b1 := hbd _ (getD_mem l1)
    have b2 := hbd _ (getD_mem l2)
    refine ⟨_, rfl, _, rfl, h, _, _, _, rfl, rfl, SqL.of hh, atI_nat (ints_at l2), _, rfl, _, rfl, h, _, _, _, rfl, rfl, SqL.of hh, atI_nat (ints_at l1), _, _, rfl, rfl, ?_⟩
    refine ⟨_, rfl, b, d, 3, rfl, hb, by decide, fun r1 H1 _ _ x1 bx1 => ⟨rfl, _, rfl, ?_⟩⟩
    refine ite2 (fun _ => ?_) (fun _ => ?_)
    · refine ⟨_, rfl, _, rfl, b, d, 15, rfl, bx1, by decide, fun r2 H2 h0 h1 x2 bx2 => ⟨_, _, rfl, rfl, _, _, rfl, rfl, ?_⟩⟩
      refine ⟨_, rfl, b, d, 2, rfl, bx2, by decide, fun r3 H3 _ _ x3 bx3 => ⟨rfl, _, rfl, ite2 (fun _ => ?_) (fun _ => ?_)⟩⟩
      · refine ⟨_, rfl, _, rfl, _, rfl, _, _, rfl, rfl, by show 3 ≤ sizeLine; decide, fun t ht => ?_⟩
        exact q t (other, one, _) _ ⟨l2, l1, ne.symm⟩ (by dsimp only; omega) (((x1.trans x2).trans x3).trans (.new ht)) (bx3.ext (.new ht)) upd_same
      · refine ⟨_, rfl, _, rfl, _, rfl, by show 3 ≤ sizeLine; decide, fun t ht => ?_⟩
        exact q t (one, other, _) _ ⟨l1, l2, ne⟩ (by dsimp only; omega) (((x1.trans x2).trans x3).trans (.new ht)) (bx3.ext (.new ht)) upd_same
    · refine ⟨_, rfl, b, d, 2, rfl, bx1, by decide, fun r3 H3 _ _ x3 bx3 => ⟨rfl, _, rfl, ite2 (fun _ => ?_) (fun _ => ?_)⟩⟩
      · refine ⟨_, rfl, _, rfl, _, rfl, _, _, rfl, rfl, by show 3 ≤ sizeLine; decide, fun t ht => ?_⟩
        exact q t (other, one, _) _ ⟨l2, l1, ne.symm⟩ (by dsimp only; omega) ((x1.trans x3).trans (.new ht)) (bx3.ext (.new ht)) upd_same
      · refine ⟨_, rfl, _, rfl, _, rfl, by show 3 ≤ sizeLine; decide, fun t ht => ?_⟩
        exact q t (one, other, _) _ ⟨l1, l2, ne⟩ (by dsimp only; omega) ((x1.trans x3).trans (.new ht)) (bx3.ext (.new ht)) upd_same
end
end Lw

set_option maxRecDepth 100000
set_option maxHeartbeats 4000000
namespace Lw
open PySem PySem.Spec PyProof.Rows L2 Gx RZ
section
variable {P : Program} {w : World} {K : PySem.W.Frag} {mg : Str → Option Value} {base : Heap}
theorem catA_by {H : Hp} {a b : Addr} {xs ys : List V} {Q : VK} (ha : SqT K H a xs) (hb : SqT K H b ys) (hl : xs.length + ys.length ≤ sizeLine) (q : ∀ p H', Ext [] H H' → SqT K H' p (xs ++ ys) → Q (.ref p) H') : rCatA K (.ref a) (.ref b) H Q := by
  refine ⟨a, b, xs, ys, rfl, rfl, ha, hb, hl, fun e => ?_, fun _ e => ?_, fun _ _ p hp => q p _ (.new hp) (.inl (.inl upd_same))⟩
  · subst e
    exact q b H .refl hb
  · subst e
    exact q a H .refl (by rw [List.append_nil]; exact ha)
theorem slA_by {H : Hp} {a : Addr} {xs : List V} {lo hi : Option Int} {Q : VK} (ha : SqT K H a xs) (q : ∀ p H', Ext [] H H' → SqT K H' p (cutV xs lo hi) → Q (.ref p) H') : rSlA K (.ref a) lo hi H Q := by
  refine ⟨a, xs, rfl, ha, fun e => ?_, fun _ p hp => q p _ (.new hp) (.inl (.inl upd_same))⟩
  refine q a H .refl ?_
  have : cutV xs lo hi = xs := by
    unfold cutV
    rw [e.1, e.2, Nat.sub_zero, List.drop_zero, List.take_length]
  rw [this]
  exact ha
/-- a reading of a net of n marks -/
def RdOk (K : PySem.W.Frag) (H : Hp) (n : Nat) (v : V) : Prop := ∃ r : Rd3, RdAt K H v r ∧ (r.1 < n ∧ r.2.1 < n ∧ r.1 ≠ r.2.1) ∧ (-100 ≤ r.2.2 ∧ r.2.2 ≤ 100)
theorem RdOk.ext {H H' : Hp} {n : Nat} {v : V} {c : List Addr} (h : RdOk K H n v) (x : Ext c H H') : RdOk K H' n v := let ⟨r, h1, h2⟩ := h; ⟨r, h1.ext x, h2⟩
/-- a tuple of them -/
def Rds (K : PySem.W.Frag) (H : Hp) (n : Nat) (p : Addr) (vs : List V) : Prop := SqT K H p vs ∧ ∀ v ∈ vs, RdOk K H n v
theorem Rds.ext {H H' : Hp} {n : Nat} {p : Addr} {vs : List V} {c : List Addr} (h : Rds K H n p vs) (x : Ext c H H') : Rds K H' n p vs := ⟨x.sqT h.1, fun v hv => (h.2 v hv).ext x⟩
theorem rds_all {H : Hp} {n : Nat} : ∀ vs : List V, (∀ v ∈ vs, RdOk K H n v) → ∃ rs : List Rd3, vs.length = rs.length ∧ (∀ (i : Nat) (r : Rd3), rs[i]? = some r → ∃ v, vs[i]? = some v ∧ RdAt K H v r) ∧ Good n rs ∧ ∀ r ∈ rs, -100 ≤ r.2.2 ∧ r.2.2 ≤ 100
  | [], _ => ⟨[], rfl, (fun i r e => by cases e), (fun r hr => by cases hr), fun r hr => by cases hr⟩
  | v :: vs, h => by
    obtain ⟨rs, l, f, g, b⟩ := rds_all vs fun x hx => h x (List.mem_cons_of_mem _ hx)
    obtain ⟨r, h1, h2, h3⟩ := h v List.mem_cons_self
    refine ⟨r :: rs, by rw [List.length_cons, List.length_cons, l], fun i r' e => ?_, fun r' hr => ?_, fun r' hr => ?_⟩
    · cases i with
      | zero => cases e; exact ⟨v, rfl, h1⟩
      | succ i => exact f i r' e
    · rcases List.mem_cons.mp hr with rfl | hr
      · exact h2
      · exact g _ hr
    · rcases List.mem_cons.mp hr with rfl | hr
      · exact h3
      · exact b _ hr
theorem mem_cutV {xs : List V} {lo hi : Option Int} {v : V} (h : v ∈ cutV xs lo hi) : v ∈ xs := List.mem_of_mem_drop (List.mem_of_mem_take h)
theorem cut_two {xs : List V} {j : Nat} : (cutV xs none (some (j : Int))).length + (cutV xs (some (j : Int)) none).length ≤ xs.length := by
  unfold cutV
  rw [HT.sIx_nat, HT.sIx_none, HT.sIx_nat, HT.sIx_none, List.length_take, List.length_drop, List.length_take, List.length_drop]
  omega
/-! ### _law_net -/
def spNet (K : PySem.W.Frag) : Sp := fun vs H Q _ => ∃ (b d : Addr) (most more : Nat), vs = [.ref b, .int (most : Nat), .int (more : Nat)] ∧ Box H b d ∧ 0 < most ∧ most ≤ 7 ∧ more ≤ 100 ∧
  ∀ (p : Addr) (ms : List Str) (rs : List Rd3) (H' : Hp), 1 ≤ ms.length → ms.length ≤ most → rs.length ≤ most + more → Good ms.length rs → (∀ r ∈ rs, -100 ≤ r.2.2 ∧ r.2.2 ≤ 100) → Ext [b] H H' → Box H' b d → NetAt K H' p ms rs → Q (.ref p) H'
abbrev nNet : List Str := ["box", "most", "more", "many", "k", "heights", "readings", "one", "other", "at"]
theorem scNet : FnScope nNet ["box", "most", "more"] (defScope sNet) := ⟨rfl, rfl, rfl, by decide +kernel, rfl, by decide +kernel, by decide +kernel⟩
theorem nat_of {r : Int} (h : 0 ≤ r) : ∃ j : Nat, r = (j : Int) := ⟨r.toNat, (Int.toNat_of_nonneg h).symm⟩
theorem ok_net {f fD fR fM : Addr} {fd fdD fdR fdM : FuncData} (ml : mg "len" = none) (mi : mg "int" = none) (mr : mg "range" = none) (mt : mg "tuple" = none) (F : Fun K "_law_net" "_law_net" sNet f fd)
    (FD : Fun K "_law_draw" "_law_draw" sDraw fD fdD) (bD : Binds K fdD ["box", "many"] []) (gD : mg "_law_draw" = some (.ref fD))
    (FR : Fun K "_law_reading" "_law_reading" sReading fR fdR) (bR : Binds K fdR ["box", "heights", "one", "other"] []) (gR : mg "_law_reading" = some (.ref fR))
    (FM : Fun K "_law_marks" "_law_marks" sMarks fM fdM) (bM : Binds K fdM ["box", "many"] []) (gM : mg "_law_marks" = some (.ref fM)) : FnOk P w K mg base CX0 3 f fd ["box", "most", "more"] (spNet K) := by
  have nd := scNet.nd
  have GD : FnOk P w K mg base CX0 1 fD fdD ["box", "many"] spDraw := ok_draw ml mi FD
  have GR : FnOk P w K mg base CX0 2 fR fdR ["box", "heights", "one", "other"] (spReading K) := ok_reading ml mi FR FD bD gD
  have GM : FnOk P w K mg base CX0 2 fM fdM ["box", "many"] spMarks := ok_marks ml mi mr mt FM FD bD gD
  refine F.ok scNet (fun vs H Q E h => ?_) (fun cdv A outer s H vs Q E hr h => ?_)
  · obtain ⟨_, _, _, _, rfl, _⟩ := h
    rfl
  · obtain ⟨b, d, most, more, rfl, hb, m1, m2, m3, q⟩ := h
    have hr1 : Room 1 (A.deeper (envOfC "_law_net" (defScope sNet) s.heap.objs.size f cdv)) := hr.mono (by decide)
    refine ⟨_, pss_cons (ps_set (i := 3) nd rfl (.inl rfl) (pe_op op_add pe_int (pe_call GD hr1 (by rfl) gD FD.kp bD .nil pass0 (pa_cons (pv 0) (pa_cons (pv 1) pa_nil)))))
      (pss_cons (ps_set (i := 5) nd rfl (.inl rfl) (pe_op op_cat (pe_lst (pa_cons pe_int pa_nil)) (pe_lc (own := [("k", 4)]) (g := gName 4) (tt := tYes) rfl nd (pi_range1 (by rfl) mr (pa_cons (pe_op op_sub (pv 3) pe_int) pa_nil)) (blkOk_by (N := nNet) (sc := defScope sNet) (by decide +kernel))
        (fun _ _ _ _ _ => pg_name (i := 4) nd rfl (.inl rfl)) (fun _ _ _ _ _ => pts_nil) (fun _ _ _ _ _ => pe_op op_sub (pe_call GD hr1 (by rfl) gD FD.kp bD .nil pass0 (pa_cons (pv 0) (pa_cons pe_int pa_nil))) pe_int))))
      (pss_cons (ps_set (i := 6) nd rfl (.inl rfl) (pe_tup pa_nil))
      (pss_cons (ps_for PassesOwn.never rfl (pi_range2 (by rfl) mr (pa_cons pe_int (pa_cons (pv 3) pa_nil))) (pg_name (i := 4) nd rfl (.inl rfl))
        (pss_one (ps_set (i := 6) nd rfl (.inl rfl) (pe_op op_catA (pv 6) (pe_tup (pa_cons (pe_call GR hr (by rfl) gR FR.kp bR .nil pass0 (pa_cons (pv 0) (pa_cons (pv 5) (pa_cons (pe_call GD hr1 (by rfl) gD FD.kp bD .nil pass0 (pa_cons (pv 0) (pa_cons (pv 4) pa_nil))) (pa_cons (pv 4) pa_nil))))) pa_nil))))))
      (pss_cons (ps_for PassesOwn.never rfl (pi_range1 (by rfl) mr (pa_cons (pe_op op_mul (pe_call GD hr1 (by rfl) gD FD.kp bD .nil pass0 (pa_cons (pv 0) (pa_cons (pe_op op_add (pv 2) pe_int) pa_nil))) (pe_callTy call_int1 (by rfl) mi PyProof.Rows.boot_int (pa_cons (pe_cmpR op_gt (pv 3) pe_int (nomark _)) pa_nil))) pa_nil)) (pg_name (i := 4) nd rfl (.inl rfl))
        (pss_cons (ps_set (i := 7) nd rfl (.inl rfl) (pe_call GD hr1 (by rfl) gD FD.kp bD .nil pass0 (pa_cons (pv 0) (pa_cons (pv 3) pa_nil))))
        (pss_cons (ps_set (i := 8) nd rfl (.inl rfl) (pe_op op_mod (pe_callTy call_int1 (by rfl) mi PyProof.Rows.boot_int (pa_cons (pe_op op_add (pe_op op_add (pv 7) pe_int) (pe_call GD hr1 (by rfl) gD FD.kp bD .nil pass0 (pa_cons (pv 0) (pa_cons (pe_op op_sub (pv 3) pe_int) pa_nil)))) pa_nil)) (pv 3)))
        (pss_cons (ps_set (i := 9) nd rfl (.inl rfl) (pe_call GD hr1 (by rfl) gD FD.kp bD .nil pass0 (pa_cons (pv 0) (pa_cons (pe_op op_add (pe_callB call_len_seq (by rfl) ml PySem.boot_len (pa_cons (pv 6) pa_nil)) pe_int) pa_nil))))
        (pss_one (ps_set (i := 6) nd rfl (.inl rfl) (pe_op op_catA (pe_op op_catA (pe_slice sl_tupA (pv 6) po_none (po_some (pv 9))) (pe_tup (pa_cons (pe_call GR hr (by rfl) gR FR.kp bR .nil pass0 (pa_cons (pv 0) (pa_cons (pv 5) (pa_cons (pv 7) (pa_cons (pv 8) pa_nil))))) pa_nil))) (pe_slice sl_tupA (pv 6) (po_some (pv 9)) po_none))))))))
      (pss_one (ps_ret (pe_tup (pa_cons pe_str (pa_cons (pe_call GM hr (by rfl) gM FM.kp bM .nil pass0 (pa_cons (pv 0) (pa_cons (pv 3) pa_nil))) (pa_cons (pv 6) pa_nil)))))))))), ?_⟩
    -- many
    refine ⟨_, rfl, _, rfl, b, d, most, rfl, hb, by omega, fun r H1 h0 h1 x1 b1 => ⟨_, _, rfl, rfl, ?_⟩⟩
    obtain ⟨n, hn⟩ : ∃ n : Nat, (1 : Int) + r = (n : Int) := nat_of (by omega)
    have hn1 : 1 ≤ n := by omega
    have hn7 : n ≤ most := by omega
    -- heights
    refine ⟨by decide, fun l0 hl0 => ?_⟩
    have x2 : Ext [b] H (upd H1 l0 (.lst [V.int 0])) := x1.trans (.new hl0)
    have b2 := b1.ext (Ext.new (c := []) (o := .lst [V.int 0]) hl0)
    refine ⟨_, rfl, _, _, rfl, rfl, _, rfl, by omega, by omega, fun D hD => ?_⟩
    have nDl : l0 ≠ D := ne_of_none upd_same hD
    refine lc_range (fun i H3 => ∃ hs : List Int, hs.length = i ∧ (∀ x ∈ hs, -10 ≤ x ∧ x ≤ 10) ∧ Ext [b] H H3 ∧ Box H3 b d ∧ H3 D = some (.lst (hs.map V.int)) ∧ H3 l0 = some (.lst [V.int 0]))
      ⟨[], rfl, (fun _ h => by cases h), x2.trans (.new hD), b2.ext (.new hD), upd_same, by rw [upd_ne (ne_of_none upd_same hD)]; exact upd_same⟩ (fun i H3 hi h3 => ?_) (fun H3 h3 => ?_)
    · obtain ⟨hs, e1, e2, x3, b3, eD, e0⟩ := h3
      refine ⟨rfl, _, rfl, b, d, 21, rfl, b3, by decide, fun r4 H4 g0 g1 x4 b4 => ⟨_, _, rfl, rfl, ?_⟩⟩
      have eD4 : H4 D = some (.lst (hs.map V.int)) := x4.lst eD (by rw [List.mem_singleton]; exact b3.ne eD)
      have e04 : H4 l0 = some (.lst [V.int 0]) := x4.lst e0 (by rw [List.mem_singleton]; exact b3.ne (xs := [0]) e0)
      refine ⟨_, eD4, by rw [List.length_map, e1]; exact small1000 (by omega), hs ++ [r4 - 10], by rw [List.length_append, e1]; rfl, fun x hx => ?_, ?_, ?_, ?_, ?_⟩
      · rcases List.mem_append.mp hx with hx | hx
        · exact e2 x hx
        · rw [List.mem_singleton.mp hx]
          omega
      · exact (x3.trans x4).own (x2.dom D hD) eD4
      · exact hb.upd b4 (x2.dom D hD)
      · rw [upd_same, List.map_append]
        rfl
      · rw [upd_ne nDl]
        exact e04
    · obtain ⟨hs, e1, e2, x3, b3, eD, e0⟩ := h3
      refine ⟨l0, D, _, _, rfl, rfl, e0, eD, by rw [List.length_map, e1]; show 1 + _ ≤ 2 ^ 24; omega, fun h hh => ?_⟩
      generalize hhs : (0 : Int) :: hs = hs0
      have ehs : [V.int 0] ++ hs.map V.int = hs0.map V.int := by rw [← hhs]; rfl
      have lhs : hs0.length = n := by rw [← hhs, List.length_cons, e1]; omega
      have bhs : ∀ x ∈ hs0, -10 ≤ x ∧ x ≤ 10 := fun x hx => by
        rw [← hhs] at hx
        rcases List.mem_cons.mp hx with rfl | hx
        · decide
        · exact e2 x hx
      rw [ehs]
      have x4 : Ext [b] H (upd H3 h (.lst (hs0.map V.int))) := x3.trans (.new hh)
      have b4 : Box (L2.upd H3 h (.lst (hs0.map V.int))) b d := b3.ext (.new hh)
      have h4 : (upd H3 h (.lst (hs0.map V.int))) h = some (.lst (hs0.map V.int)) := upd_same
      -- readings
      refine ⟨by decide, fun p0 hp0 => ?_⟩
      have x5 := x4.trans (Ext.new (c := [b]) (o := .tup []) hp0)
      have b5 := b4.ext (Ext.new (c := []) (o := .tup []) hp0)
      refine ⟨_, rfl, 1, 1 + r, rfl, ⟨by decide, by decide, by omega, by omega⟩, for_range
        (fun i σ H6 => ∃ y4 y7 y8 y9 p vs, σ = [some (.ref b), some (.int (most : Nat)), some (.int (more : Nat)), some (.int (1 + r)), y4, some (.ref h), some (.ref p), y7, y8, y9] ∧ Ext [b] H H6 ∧ Box H6 b d ∧ H6 h = some (.lst (hs0.map V.int)) ∧ Rds K H6 n p vs ∧ vs.length = i)
        ⟨_, _, _, _, p0, [], rfl, x5, b5, by rw [upd_ne (ne_of_none h4 hp0)]; exact h4, ⟨.inl (.inl upd_same), fun _ h => by cases h⟩, rfl⟩ (fun i σ H6 hi h6 => ?_) (fun σ H6 h6 => ?_)⟩
      · obtain ⟨y4, y7, y8, y9, p, vs, rfl, x6, b6, eh, hR, hl⟩ := h6
        obtain ⟨k, hk⟩ : ∃ k : Nat, (1 : Int) + (i : Nat) = (k : Int) := nat_of (by omega)
        have hkn : k < n := by omega
        refine ⟨_, rfl, _, rfl, _, rfl, _, rfl, _, rfl, b, d, (1 : Int) + (i : Nat), rfl, b6, by omega, fun r7 H7 g0 g1 x7 b7 => ?_⟩
        obtain ⟨j, hj⟩ := nat_of g0
        have eh7 : H7 h = some (.lst (hs0.map V.int)) := x7.lst eh (by rw [List.mem_singleton]; exact b6.ne eh)
        refine ⟨_, rfl, b, d, h, hs0, j, k, by rw [hj, hk]; rfl, b7, eh7, by omega, by omega, by omega, bhs, fun q8 r8 H8 k1 k2 x8 b8 e8 => ?_⟩
        have eh8 : H8 h = some (.lst (hs0.map V.int)) := x8.lst eh7 (by rw [List.mem_singleton]; exact b7.ne eh7)
        refine ⟨by show 1 ≤ sizeLine; decide, fun t ht => ?_⟩
        have x9 : Ext [b] H6 (upd H8 t (.tup [.ref q8])) := (x7.trans x8).trans (.new ht)
        have ok8 : RdOk K (upd H8 t (.tup [.ref q8])) n (.ref q8) := ⟨r8, ⟨q8, rfl, (Ext.new (c := []) ht).sqT (.inl (.inl e8))⟩, by rw [lhs] at k1; exact k1, k2⟩
        refine catA_by (x9.sqT hR.1) (.inl (.inl upd_same)) (by rw [hl]; show _ + 1 ≤ 2 ^ 24; omega) fun p' H9 x10 s10 => ?_
        have b9 : Box (upd H8 t (.tup [.ref q8])) b d := b8.ext (.new ht)
        refine ⟨_, _, _, _, p', vs ++ [V.ref q8], rfl, (x6.trans x9).trans x10.more, b9.ext x10, ?_, ⟨s10, fun v hv => ?_⟩, by rw [List.length_append, hl]; rfl⟩
        · exact x10.lst (by rw [upd_ne (ne_of_none eh8 ht)]; exact eh8) (by simp)
        · rcases List.mem_append.mp hv with hv | hv
          · exact (hR.2 v hv).ext (x9.trans x10.more)
          · rw [List.mem_singleton.mp hv]
            exact ok8.ext x10
      · obtain ⟨y4, y7, y8, y9, p, vs, rfl, x6, b6, eh, hR, hl⟩ := h6
        refine ⟨_, rfl, _, rfl, _, _, rfl, rfl, b, d, _, rfl, b6, by omega, fun r7 H7 g0 g1 x7 b7 => ?_⟩
        have eh7 : H7 h = some (.lst (hs0.map V.int)) := x7.lst eh (by rw [List.mem_singleton]; exact b6.ne eh)
        refine ⟨_, rfl, _, _, rfl, rfl, .inr ⟨_, rfl, _, _, rfl, rfl, .inl ⟨by omega, by omega⟩, ?_⟩⟩
        obtain ⟨cnt, hcnt⟩ : ∃ c : Int, c = r7 * (if decide (1 < 1 + r) = true then 1 else 0) := ⟨_, rfl⟩
        have hc : 0 ≤ cnt ∧ cnt ≤ more ∧ (0 < cnt → 1 < n) := by
          by_cases e : (1 : Int) < 1 + r
          · rw [if_pos (decide_eq_true e), Int.mul_one] at hcnt
            omega
          · rw [if_neg (by simpa using e), Int.mul_zero] at hcnt
            omega
        refine ⟨cnt, by subst hcnt; rfl, by omega, by omega, for_range
          (fun i σ H6 => ∃ y4 y7 y8 y9 p vs, σ = [some (.ref b), some (.int (most : Nat)), some (.int (more : Nat)), some (.int (1 + r)), y4, some (.ref h), some (.ref p), y7, y8, y9] ∧ Ext [b] H H6 ∧ Box H6 b d ∧ H6 h = some (.lst (hs0.map V.int)) ∧ Rds K H6 n p vs ∧ vs.length = (1 + r - 1).toNat + i)
          ⟨_, _, _, _, p, vs, rfl, x6.trans x7, b7, eh7, hR.ext x7, hl⟩ (fun i σ H6 hi h6 => ?_) (fun σ H6 h6 => ?_)⟩
        · obtain ⟨y4, y7, y8, y9, p, vs, rfl, x8, b8, eh8, hR8, hl8⟩ := h6
          have hn2 : 1 < n := hc.2.2 (by omega)
          refine ⟨_, rfl, _, rfl, b, d, _, rfl, b8, by omega, fun r9 H9 g0 g1 x9 b9 => ?_⟩
          obtain ⟨one, h1'⟩ := nat_of g0
          refine ⟨_, rfl, _, _, rfl, rfl, _, rfl, _, rfl, _, _, rfl, rfl, b, d, _, rfl, b9, by omega, fun r10 H10 k0 k1 x10 b10 => ?_⟩
          refine ⟨_, _, rfl, rfl, .inl ⟨_, rfl, _, rfl, _, _, rfl, rfl, by omega, ?_⟩⟩
          obtain ⟨other, h2'⟩ : ∃ j : Nat, (r9 + 1 + r10) % (1 + r) = (j : Int) := nat_of (Int.emod_nonneg _ (by omega))
          have l1 : one < n := by omega
          have l2 : other < n := by
            have := Int.emod_lt_of_pos (r9 + 1 + r10) (show (0 : Int) < 1 + r by omega)
            omega
          have hne : one ≠ other := fun z => by
            by_cases c : r9 + 1 + r10 < 1 + r
            · rw [Int.emod_eq_of_lt (by omega) c] at h2'
              omega
            · have : (r9 + 1 + r10) % (1 + r) = r9 + 1 + r10 - (1 + r) := by
                rw [← Int.emod_eq_of_lt (show 0 ≤ r9 + 1 + r10 - (1 + r) by omega) (show r9 + 1 + r10 - (1 + r) < 1 + r by omega), Int.sub_emod_right]
              rw [this] at h2'
              omega
          have x8b := (x9.trans x10)
          refine ⟨_, rfl, _, rfl, p, _, rfl, .inr ((hR8.ext x8b).1), _, _, rfl, rfl, b, d, _, rfl, b10, by omega, fun r11 H11 j0 j1 x11 b11 => ?_⟩
          obtain ⟨at_, h3'⟩ := nat_of j0
          have x8c := x8b.trans x11
          have eh11 : H11 h = some (.lst (hs0.map V.int)) := x11.lst (x10.lst (x9.lst eh8 (by rw [List.mem_singleton]; exact b8.ne eh8)) (by rw [List.mem_singleton]; exact b8.ne eh8)) (by rw [List.mem_singleton]; exact b8.ne eh8)
          -- readings[:at]
          refine ⟨_, rfl, _, rfl, r11, rfl, slA_by (hR8.ext x8c).1 fun p1 H12 x12 s12 => ?_⟩
          have eh12 : H12 h = some (.lst (hs0.map V.int)) := x12.lst eh11 (by simp)
          -- the new one
          refine ⟨_, rfl, _, rfl, _, rfl, _, rfl, b, d, h, hs0, one, other, by rw [← h1', ← h2']; rfl, b11.ext x12, eh12, by omega, by omega, hne, bhs, fun q8 r8 H13 k1 k2 x13 b13 e8 => ?_⟩
          have eh13 : H13 h = some (.lst (hs0.map V.int)) := x13.lst eh12 (by rw [List.mem_singleton]; exact b8.ne eh8)
          refine ⟨by show 1 ≤ sizeLine; decide, fun t ht => ?_⟩
          have x14 : Ext [b] H12 (L2.upd H13 t (.tup [V.ref q8])) := x13.trans (.new ht)
          have ok8 : RdOk K (L2.upd H13 t (.tup [V.ref q8])) n (.ref q8) := ⟨r8, ⟨q8, rfl, (Ext.new (c := []) ht).sqT (.inl (.inl e8))⟩, by rw [lhs] at k1; exact k1, k2⟩
          have b14 : Box (L2.upd H13 t (.tup [V.ref q8])) b d := b13.ext (.new ht)
          have eh14 : (L2.upd H13 t (.tup [V.ref q8])) h = some (.lst (hs0.map V.int)) := by rw [upd_ne (ne_of_none eh13 ht)]; exact eh13
          have two := cut_two (xs := vs) (j := at_)
          have hvl : vs.length ≤ 1000 := by omega
          refine catA_by (x14.sqT s12) (.inl (.inl upd_same)) ?_ fun p2 H15 x15 s15 => ?_
          · show (cutV vs none (some r11)).length + 1 ≤ 2 ^ 24
            rw [h3']
            omega
          -- readings[at:]
          have x8d : Ext [b] H6 H15 := ((x8c.trans x12.more).trans x14).trans x15.more
          refine ⟨_, rfl, _, rfl, r11, rfl, ?_⟩
          dsimp only [tNoPart]
          refine slA_by (hR8.ext x8d).1 fun p3 H16 x16 s16 => ?_
          refine catA_by (x16.sqT s15) s16 ?_ fun p4 H17 x17 s17 => ?_
          · rw [List.length_append]
            show (cutV vs none (some r11)).length + 1 + (cutV vs (some r11) none).length ≤ 2 ^ 24
            rw [h3']
            omega
          have x8e : Ext [b] H6 H17 := (x8d.trans x16.more).trans x17.more
          have xE : Ext [] H15 H17 := x16.trans x17
          refine ⟨_, _, _, _, p4, cutV vs none (some r11) ++ [V.ref q8] ++ cutV vs (some r11) none, rfl, x8.trans x8e, (b14.ext x15).ext xE, ?_, ⟨s17, fun v hv => ?_⟩, ?_⟩
          · exact xE.lst (x15.lst eh14 (by simp)) (by simp)
          · rcases List.mem_append.mp hv with hv | hv
            · rcases List.mem_append.mp hv with hv | hv
              · exact (hR8.2 v (mem_cutV hv)).ext x8e
              · rw [List.mem_singleton.mp hv]
                exact (ok8.ext x15).ext xE
            · exact (hR8.2 v (mem_cutV hv)).ext x8e
          · rw [List.length_append, List.length_append]
            rw [h3'] at j1 ⊢
            have e1' : (cutV vs none (some (at_ : Int))).length = at_ := by
              unfold cutV
              rw [HT.sIx_nat, HT.sIx_none, List.length_take, List.length_drop]
              omega
            have e2' : (cutV vs (some (at_ : Int)) none).length = vs.length - at_ := by
              unfold cutV
              rw [HT.sIx_nat, HT.sIx_none, List.length_take, List.length_drop]
              omega
            rw [e1', e2', List.length_singleton]
            omega
        · obtain ⟨y4, y7, y8, y9, p, vs, rfl, x8, b8, eh8, hR8, hl8⟩ := h6
          refine ⟨_, rfl, _, rfl, b, d, n, by rw [hn]; rfl, b8, by omega, fun q9 ms H9 hms x9 b9 e9 => ⟨_, rfl, by show 3 ≤ sizeLine; decide, fun t ht => ?_⟩⟩
          have x10 : Ext [b] H9 (upd H9 t (.tup [.str "net", .ref q9, .ref p])) := .new ht
          obtain ⟨rs, f1, f2, f3, f4⟩ := rds_all vs ((hR8.ext x9).ext x10).2
          refine q t ms rs _ (by omega) (by omega) (by omega) (by rw [hms]; exact f3) f4 ((x8.trans x9).trans x10) (b9.ext (.new ht)) ⟨q9, p, .inl (.inl upd_same), x10.sqT (.inl (.inl e9)), vs, ((hR8.ext x9).ext x10).1, f1, f2⟩
end
end Lw

set_option maxRecDepth 100000
set_option maxHeartbeats 4000000
namespace Lw
open PySem PySem.Spec PyProof.Rows L2 Gx RZ
/-! ### len(set(xs)) of ints -/
theorem firstMet_full (ns : List Int) : ∀ i, i ≤ ns.length → (firstMet (fun i => ns.getD i 0) i).length = i → (ns.take i).Nodup
  | 0, _, _ => by simp
  | i + 1, hi, h => by
    have hlt : i < ns.length := hi
    have e1 : ns.getD i 0 = ns[i] := by
      rw [List.getD_eq_getElem?_getD, List.getElem?_eq_getElem hlt] <;> rfl
    rw [firstMet_succ] at h
    unfold step_dedup at h
    by_cases hc : (firstMet (fun i => ns.getD i 0) i).any (· == ns.getD i 0) = true
    · rw [if_pos hc] at h
      have := firstMet_length_le (fun i => ns.getD i 0) i
      omega
    · rw [if_neg hc, List.length_append, List.length_singleton] at h
      have ih := firstMet_full ns i (Nat.le_of_lt hlt) (by omega)
      rw [List.take_add_one, List.getElem?_eq_getElem hlt]
      rw [firstMet_any] at hc
      show (ns.take i ++ [ns[i]]).Nodup
      rw [List.nodup_append]
      refine ⟨ih, by simp, fun a ha b hb => ?_⟩
      rw [List.mem_singleton.mp hb]
      intro z
      apply hc
      rw [List.any_eq_true]
      obtain ⟨j, hj, ej⟩ := List.getElem_of_mem ha
      rw [List.length_take] at hj
      refine ⟨ns.getD i 0, List.mem_map.mpr ⟨j, List.mem_range.mpr (by omega), ?_⟩, by simp⟩
      rw [e1, ← z, ← ej, List.getElem_take, List.getD_eq_getElem?_getD, List.getElem?_eq_getElem (by omega)]
      rfl
def setLen (ns : List Int) : Nat := (firstMet (fun i => ns.getD i 0) ns.length).length
theorem setLen_eq (ns : List Int) : (decide (V.int (ns.length : Nat) = V.int (setLen ns : Nat))) = decide ns.Nodup := by
  by_cases h : ns.Nodup
  · have e : setLen ns = ns.length := by
      unfold setLen
      rw [RZ.firstMet_nodup h ns.length (Nat.le_refl _), List.take_length]
    rw [e, decide_eq_true h]
    exact decide_eq_true rfl
  · rw [decide_eq_false h]
    refine decide_eq_false fun z => h ?_
    have e : setLen ns = ns.length := by
      have := V.int.inj z
      omega
    have := firstMet_full ns ns.length (Nat.le_refl _) e
    rwa [List.take_length] at this
def tLenSet (K : PySem.W.Frag) (ta : TE) : TE := fun σ H Q => ta σ H fun x H1 => ∃ (l : Addr) (ns : List Int), x = .ref l ∧ SqL K H1 l (ns.map V.int) ∧ ns.length ≤ 4000 ∧ Q (.int (setLen ns : Nat)) H1
theorem pe_lenSet {X : Cx} {a : Expr} {ta : TE} {p p2 q pos : Pos} (hg : Gl X "len") (hm : X.mg "len" = none) (hg2 : Gl X "set") (hm2 : X.mg "set" = none) (ha : PE X a ta) (hc : X.calm = true := by rfl)
    (na : starEach [a] X.env = (false, eval a X.env) :: starEach [] X.env := by rfl) : PE X (.Call (.Name "len" p) [.Call (.Name "set" p2) [a] [] q] [] pos) (tLenSet X.K ta) := by
  refine ⟨fun pins s σ H Q I h => ?_⟩
  refine Call_ (ld_blt I hg hm boot_len ?_)
  refine PyProof.Rows.callWith_builtin1 (PyProof.Rows.args_cons ?_ rfl) rfl rfl
  refine Call_ (ld_blt I hg2 hm2 boot_set ?_)
  refine PyProof.Rows.callWith_type1 (PyProof.Rows.args_cons (thn (ha.run pins s σ H _ I h) fun v s1 ⟨x, H1, I1, r1, q1⟩ => PyProof.Rows.args_nil ?_) na) na rfl
  obtain ⟨l, ns, rfl, hq, hl, q1⟩ := q1
  cases r1
  obtain ⟨its, r, pl, hz⟩ := I1.list hq
  have hlen : its.toArray.size = ns.length := by rw [List.size_toArray, ← r.length, List.length_map]
  refine call_set_list (I1.ok.hd hc) pl.isList (by simpa using RZ.intsAre_vals r) (by rw [hlen]; unfold scanBound; omega) fun h' tk hS hk => ?_
  refine PyProof.Rows.args_nil ?_
  rw [hlen] at hS
  obtain ⟨o, es, ep, t, ho, hex, hd, _, _, _, hf, hn⟩ := hS
  have I2 : Inv X pins σ H1 { s1 with heap := h', toks := tk } := I1.kept fun b o e => hk b o (Heap.lt_size e) e
  have hle := firstMet_length_le (fun i => ns.getD i 0) ns.length
  exact call_len_set ho hex hd hf (by rw [hn] <;> omega) ⟨.int (setLen ns : Nat), H1, I2.tok _, ⟨_, by rw [hn]; rfl⟩, q1⟩
/-! ### what repr writes -/
theorem weight_ints : ∀ ns : List Int, (∀ n ∈ ns, n.natAbs < 10 ^ 12) → PyData.weightAll (ns.map .int) ≤ 42 * ns.length
  | [], _ => Nat.le_refl _
  | n :: r, h => by
    have ih := weight_ints r fun m hm => h m (List.mem_cons_of_mem _ hm)
    have h1 : n.natAbs.log2 < 40 := PySem.Flt.log2_lt_of (by decide) (Nat.lt_trans (h n List.mem_cons_self) (by decide))
    rw [List.map_cons, PyData.weightAll, List.length_cons]
    simp only [PyData.weight]
    split <;> omega
theorem leaves_ints : ∀ ns : List Int, (∀ n ∈ ns, n.natAbs < 10 ^ 12) → PyData.leavesShortAll 13 (ns.map .int) = true
  | [], _ => rfl
  | n :: r, h => by
    rw [List.map_cons, PyData.leavesShortAll, Bool.and_eq_true]
    exact ⟨by simp only [PyData.leavesShort, decide_eq_true_eq]; exact PyData.shown_int_le (h n List.mem_cons_self), leaves_ints r fun m hm => h m (List.mem_cons_of_mem _ hm)⟩
theorem showable_ints : ∀ ns : List Int, (∀ n ∈ ns, n.natAbs < 10 ^ 12) → PyData.showableAll (ns.map .int) = true
  | [], _ => rfl
  | n :: r, h => by
    rw [List.map_cons, PyData.showableAll, Bool.and_eq_true]
    refine ⟨?_, showable_ints r fun m hm => h m (List.mem_cons_of_mem _ hm)⟩
    have h1 := h n List.mem_cons_self
    simp only [PyData.showable, decide_eq_true_eq]
    exact Nat.lt_trans (PySem.Flt.log2_lt_of (k := 40) (by decide) (Nat.lt_trans h1 (by decide))) (by decide)
theorem nodict_ints : ∀ ns : List Int, PyData.hasDictAll (ns.map .int) = false
  | [] => rfl
  | n :: r => by rw [List.map_cons, PyData.hasDictAll, nodict_ints r]; rfl
theorem depth_ints : ∀ ns : List Int, PyData.depthAll (ns.map .int) = 0
  | [] => rfl
  | n :: r => by rw [List.map_cons, PyData.depthAll, depth_ints r]; rfl
theorem log_small {n : Int} (h : n.natAbs < 10 ^ 12) : n.natAbs.log2 < 1920 := Nat.lt_trans (PySem.Flt.log2_lt_of (k := 40) (by decide) (Nat.lt_trans h (by decide))) (by decide)
theorem shows_tupI {ns : List Int} (h : ∀ n ∈ ns, n.natAbs < 10 ^ 12) (hl : ns.length ≤ 1000) : Shows (.tuple (ns.map .int)) := by
  refine ⟨by simp only [PyData.showable]; exact showable_ints ns h, by simp only [PyData.hasDict]; exact nodict_ints ns, by simp only [PyData.depth, depth_ints]; decide, ?_, fun i e => (by cases e), fun x e => (by cases e)⟩
  have e := PyData.shown_le 13 (by decide) (.tuple (ns.map .int)) (by simp only [PyData.leavesShort]; exact leaves_ints ns h)
  have e2 := weight_ints ns h
  simp only [PyData.weight] at e
  show _ ≤ 2 ^ 24
  omega
theorem shows_int {n : Int} (h : n.natAbs < 10 ^ 12) : Shows (.int n) :=
  ⟨by simp only [PyData.showable, decide_eq_true_eq]; exact log_small h, rfl, Nat.zero_le _, Nat.le_trans (PyData.shown_int_le h) (by decide), fun i e => by cases e; exact log_small h, fun x e => by cases e⟩
theorem shows_bl (b : Bool) : Shows (.bool b) := ⟨rfl, rfl, Nat.zero_le _, by cases b <;> decide, fun i e => (by cases e), fun x e => (by cases e)⟩
theorem dp_ints {K : PySem.W.Frag} {H : Hp} : ∀ ns : List Int, DpAll K H (ns.map V.int) (ns.map .int)
  | [] => .nil
  | n :: r => .cons (.int n) (dp_ints r)
theorem dp_tupI {K : PySem.W.Frag} {H : Hp} {a : Addr} {ns : List Int} (h : SqT K H a (ns.map V.int)) : Dp K H (.ref a) (.tuple (ns.map .int)) := .tup h (dp_ints ns)
theorem dp_lstI {K : PySem.W.Frag} {H : Hp} {a : Addr} {ns : List Int} (h : SqL K H a (ns.map V.int)) : Dp K H (.ref a) (.list (ns.map .int)) := .lst h (dp_ints ns)
section
variable {P : Program} {w : World} {K : PySem.W.Frag} {mg : Str → Option Value} {base : Heap}
/-! ### _law_same -/
def spSame (K : PySem.W.Frag) : Sp := fun vs H Q _ => ∃ (x y : V) (d : PyData), vs = [x, y] ∧ Dp K H x d ∧ Dp K H y d ∧ Shows d ∧ Q (.bl true) H
theorem scSame : FnScope ["actual", "due"] ["actual", "due"] (defScope sSame) := ⟨rfl, rfl, rfl, by decide +kernel, rfl, by decide +kernel, by decide +kernel⟩
theorem ok_same {f : Addr} {fd : FuncData} (mrp : mg "repr" = none) (F : Fun K "_law_same" "_law_same" sSame f fd) : FnG P w K mg base 1 f fd ["actual", "due"] (spSame K) := by
  refine okG F scSame (fun vs H Q E h => ?_) (fun cdv A outer s H vs Q E hgd hr h => ?_)
  · obtain ⟨_, _, _, rfl, _⟩ := h
    rfl
  · obtain ⟨x, y, d, rfl, dx, dy, S, q⟩ := h
    have hu : (A.deeper (envOfC "_law_same" (defScope sSame) s.heap.objs.size f cdv)).units + 65 < cLine := by
      have := hr.un
      omega
    refine ⟨_, pss_one (ps_ret (pe_cmpR op_eq (pe_callB (call_repr hgd hu) (by rfl) mrp PyProof.Rows.boot_repr (pa_cons (pv 0) pa_nil)) (pe_callB (call_repr hgd hu) (by rfl) mrp PyProof.Rows.boot_repr (pa_cons (pv 1) pa_nil)) (nomark _))), ?_⟩
    refine ⟨_, rfl, x, d, rfl, dx, S, _, rfl, y, d, rfl, dy, S, rfl, ?_⟩
    rw [decide_eq_true rfl]
    exact q
/-! ### _law_miss, _law_cost -/
theorem scMissL : FnScope ["reading", "heights"] ["reading", "heights"] (defScope sMissL) := ⟨rfl, rfl, rfl, by decide +kernel, rfl, by decide +kernel, by decide +kernel⟩
theorem ok_missL {f : Addr} {fd : FuncData} (F : Fun K "_law_miss" "_law_miss" sMissL f fd) : FnOk P w K mg base CX0 1 f fd ["reading", "heights"] (K3.spMissOf K) := by
  refine F.ok scMissL (fun vs H Q E h => ?_) (fun cdv A outer s H vs Q E hr h => ?_)
  · obtain ⟨_, _, _, _, rfl, _⟩ := h
    rfl
  · obtain ⟨_, ha, r, hs, rfl, ⟨p, rfl, hp⟩, hh, l1, l2, q⟩ := h
    refine ⟨_, pss_one (ps_ret (pe_op op_add (pe_op op_sub (pe_ix ix_tup (pv 0) pe_int (fun _ _ => rfl)) (pe_ix ix_tup (pv 1) (pe_ix ix_tup (pv 0) pe_int (fun _ _ => rfl)) (fun _ _ => rfl))) (pe_ix ix_tup (pv 1) (pe_ix ix_tup (pv 0) pe_int (fun _ _ => rfl)) (fun _ _ => rfl)))), ?_⟩
    refine ⟨_, rfl, p, _, _, _, rfl, rfl, hp, atI_nat (j := 2) rfl, _, rfl, _, rfl, p, _, _, _, rfl, rfl, hp, atI_nat (j := 1) rfl, ha, _, _, _, rfl, rfl, hh, atI_nat (ints_at l2), _, _, rfl, rfl, _, rfl, _, rfl, p, _, _, _, rfl, rfl, hp, atI_nat (j := 0) rfl, ha, _, _, _, rfl, rfl, hh, atI_nat (ints_at l1), _, _, rfl, rfl, q⟩
/-! ### sum of a list -/
def spCostL (K : PySem.W.Frag) : Sp := fun vs H Q _ => ∃ (p ha : Addr) (ms : List Str) (rs : List Rd3) (hs : List Int), vs = [.ref p, .ref ha] ∧ NetAt K H p ms rs ∧ Gx.Good hs.length rs ∧ rs.length ≤ 1000 ∧ SqT K H ha (hs.map V.int) ∧
  ∀ H', Ext [] H H' → Q (.int (K3.costR hs rs)) H'
abbrev nCostL : List Str := ["net", "heights", "reading"]
theorem scCostL : FnScope nCostL ["net", "heights"] (defScope sCostL) := ⟨rfl, rfl, rfl, by decide +kernel, rfl, by decide +kernel, by decide +kernel⟩
theorem ok_costL {f fM : Addr} {fd fdM : FuncData} (msm : mg "sum" = none) (ma : mg "abs" = none) (F : Fun K "_law_cost" "_law_cost" sCostL f fd)
    (FM : Fun K "_law_miss" "_law_miss" sMissL fM fdM) (bM : Binds K fdM ["reading", "heights"] []) (gM : mg "_law_miss" = some (.ref fM)) : FnOk P w K mg base CX0 2 f fd ["net", "heights"] (spCostL K) := by
  have nd := scCostL.nd
  have GM : FnOk P w K mg base CX0 1 fM fdM ["reading", "heights"] (K3.spMissOf K) := ok_missL FM
  refine F.ok scCostL (fun vs H Q E h => ?_) (fun cdv A outer s H vs Q E hr h => ?_)
  · obtain ⟨_, _, _, _, _, rfl, _⟩ := h
    rfl
  · obtain ⟨p, ha, ms, rs, hs, rfl, ⟨mp, rp, n1, n2, vs, n3, n4, n5⟩, hgood, hlen, hh, q⟩ := h
    refine ⟨_, pss_one (ps_ret (pe_callB (cr_sum rfl) (by rfl) msm PyProof.Rows.boot_sum (pa_cons (pe_lc (own := [("reading", 2)]) (g := gName 2) (tt := tYes) rfl nd (pi_tup (pe_ix ix_tup (pv 0) pe_int (fun _ _ => rfl))) (blkOk_by (N := nCostL) (sc := defScope sCostL) (by decide +kernel))
        (fun _ _ _ _ _ => pg_name (i := 2) nd rfl (.inl rfl)) (fun _ _ _ _ _ => pts_nil) (fun _ _ _ _ _ => pe_callB call_abs (by rfl) ma PyProof.Rows.boot_abs (pa_cons (pe_call GM hr (by rfl) gM FM.kp bM .nil pass0 (pa_cons (pv 2) (pa_cons (pv 1) pa_nil))) pa_nil))) pa_nil))), ?_⟩
    refine ⟨_, rfl, p, _, _, _, rfl, rfl, n1, atI_nat (j := 2) rfl, rp, rfl, ⟨_, n3⟩, fun D hD => ?_⟩
    refine lc_tup (xs := vs) (fun i H2 => Ext [] H H2 ∧ H2 D = some (.lst (((rs.take i).map fun r => K3.absI (missR hs r)).map V.int))) ⟨.new hD, upd_same⟩ (fun i H2 _ h2 => h2.1.sqT n3) (fun i v H2 hv h2 => ?_) (fun H2 h2 => ?_)
    · obtain ⟨x2, e2⟩ := h2
      have hi : i < rs.length := by
        rw [← n4]
        exact (List.getElem?_eq_some_iff.mp hv).1
      obtain ⟨v', e1, ev⟩ := n5 i rs[i] (List.getElem?_eq_getElem hi)
      obtain rfl : v = v' := Option.some.inj (hv.symm.trans e1)
      obtain ⟨g1, g2, _⟩ := hgood _ (List.getElem_mem hi)
      refine ⟨rfl, _, rfl, _, rfl, v, ha, rs[i], hs, rfl, ev.ext x2, x2.sqT hh, g1, g2, _, rfl, _, e2, ?_, x2.own hD e2, ?_⟩
      · rw [List.length_map, List.length_map, List.length_take]
        exact small1000 (by omega)
      · rw [upd_same]
        exact congrArg (fun l => some (HO.lst l)) (ints_snoc (fun r => K3.absI (missR hs r)) rs hi)
    · obtain ⟨x2, e2⟩ := h2
      rw [n4, List.take_length] at e2
      exact ⟨D, _, rfl, SqL.of e2, q _ x2⟩
end
end Lw

set_option maxRecDepth 100000
set_option maxHeartbeats 4000000
namespace Lw
open PySem PySem.Spec PyProof.Rows L2 Gx RZ
/-! ### flows -/
def potSum (rs : List Rd3) (fl : List Int) (p : Nat → Int) : Int := ((rs.zip fl).map fun q => q.2 * (p q.1.2.1 - p q.1.1)).sum
def EvenP (rs : List Rd3) (fl : List Int) : Prop := ∀ p : Nat → Int, potSum rs fl p = 0
theorem pot_cons (r : Rd3) (rs : List Rd3) (x : Int) (fl : List Int) (p : Nat → Int) : potSum (r :: rs) (x :: fl) p = x * (p r.2.1 - p r.1) + potSum rs fl p := by
  unfold potSum
  rw [List.zip_cons_cons, List.map_cons, List.sum_cons]
theorem pot_set (p : Nat → Int) : ∀ (rs : List Rd3) (fl : List Int) (i : Nat) (r : Rd3) (v : Int), rs[i]? = some r → fl[i]? = some 0 → potSum rs (fl.set i v) p = potSum rs fl p + v * (p r.2.1 - p r.1)
  | [], _, _, _, _, h, _ => by cases h
  | _ :: _, [], _, _, _, _, h => by cases h
  | r0 :: rs, x :: fl, 0, r, v, h1, h2 => by
    cases h1
    cases h2
    rw [List.set_cons_zero, pot_cons, pot_cons]
    omega
  | r0 :: rs, x :: fl, i + 1, r, v, h1, h2 => by
    rw [List.set_cons_succ, pot_cons, pot_cons, pot_set p rs fl i r v h1 h2]
    omega
theorem pot_zero (p : Nat → Int) : ∀ rs : List Rd3, ∀ n, potSum rs (List.replicate n 0) p = 0
  | [], _ => rfl
  | r :: rs, 0 => rfl
  | r :: rs, n + 1 => by rw [List.replicate_succ, pot_cons, pot_zero p rs n]; omega
theorem pot_add (p : Nat → Int) : ∀ (rs : List Rd3) (f g : List Int), f.length = rs.length → g.length = rs.length → potSum rs (List.zipWith (· + ·) f g) p = potSum rs f p + potSum rs g p
  | [], [], [], _, _ => rfl
  | r :: rs, x :: f, y :: g, h1, h2 => by
    rw [List.zipWith_cons_cons, pot_cons, pot_cons, pot_cons, pot_add p rs f g (by simpa using h1) (by simpa using h2), Int.add_mul]
    omega
  | [], _ :: _, _, h, _ => by simp at h
  | [], [], _ :: _, _, h => by simp at h
  | _ :: _, [], _, h, _ => by simp at h
  | _ :: _, _ :: _, [], _, h => by simp at h
/-- numbers of marks as ints -/
def nI (l : List Nat) : List Int := l.map fun (x : Nat) => (x : Int)
theorem nI_length (l : List Nat) : (nI l).length = l.length := List.length_map _
theorem nI_snoc (l : List Nat) (x : Nat) : (nI l).map V.int ++ [.int (x : Nat)] = (nI (l ++ [x])).map V.int := by
  unfold nI
  rw [List.map_append, List.map_append]
  rfl
theorem nI_at {l : List Nat} {i : Nat} (h : i < l.length) : ((nI l).map V.int)[i]? = some (.int (l.getD i 0 : Nat)) := by
  unfold nI
  rw [List.getElem?_map, List.getElem?_map, List.getElem?_eq_getElem h, List.getD_eq_getElem?_getD, List.getElem?_eq_getElem h]
  rfl
theorem flat_ints (ns : List Int) : (ns.map V.int).all flatV = true := by
  rw [List.all_eq_true]
  intro x hx
  obtain ⟨n, _, rfl⟩ := List.mem_map.mp hx
  rfl
theorem inV_ints (x : Int) (ns : List Int) : inV (.int x) (ns.map V.int) = decide (x ∈ ns) := by
  unfold inV
  by_cases h : x ∈ ns
  · rw [decide_eq_true h, List.any_eq_true]
    exact ⟨.int x, List.mem_map.mpr ⟨x, h, rfl⟩, by show (x == x) = true; simp⟩
  · rw [decide_eq_false h, List.any_eq_false]
    intro y hy
    obtain ⟨n, hn, rfl⟩ := List.mem_map.mp hy
    show ¬ (n == x) = true
    rw [beq_iff_eq]
    intro z
    exact h (z ▸ hn)
theorem mem_nI {x : Nat} {l : List Nat} : (x : Int) ∈ nI l ↔ x ∈ l := by
  unfold nI
  constructor
  · intro h
    obtain ⟨y, hy, e⟩ := List.mem_map.mp h
    have : y = x := by omega
    exact this ▸ hy
  · intro h
    exact List.mem_map.mpr ⟨x, h, rfl⟩
/-- a way of readings: gs the readings, ws the marks -/
structure Way (n : Nat) (rs : List Rd3) (ws gs : List Nat) : Prop where
  len : ws.length = gs.length + 1
  inn : ∀ x ∈ ws, x < n
  at_ : ∀ i, i < gs.length → ∃ r, rs[gs.getD i 0]? = some r ∧ ((r.1 = ws.getD i 0 ∧ r.2.1 = ws.getD (i + 1) 0) ∨ (r.2.1 = ws.getD i 0 ∧ r.1 = ws.getD (i + 1) 0))
  nod : gs.Nodup
theorem getD_app_left {l m : List Nat} {i : Nat} (h : i < l.length) : (l ++ m).getD i 0 = l.getD i 0 := by
  rw [List.getD_eq_getElem?_getD, List.getD_eq_getElem?_getD, List.getElem?_append_left h]
theorem getD_app_last {l : List Nat} {x i : Nat} (h : i = l.length) : (l ++ [x]).getD i 0 = x := by
  subst h
  rw [List.getD_eq_getElem?_getD, List.getElem?_append_right (Nat.le_refl _), Nat.sub_self]
  rfl
theorem Way.step {n : Nat} {rs : List Rd3} {ws gs : List Nat} {k m : Nat} {r : Rd3} (W : Way n rs ws gs) (hr : rs[k]? = some r) (hk : k ∉ gs) (hm : m < n) (h : (r.1 = ws.getD gs.length 0 ∧ r.2.1 = m) ∨ (r.2.1 = ws.getD gs.length 0 ∧ r.1 = m)) : Way n rs (ws ++ [m]) (gs ++ [k]) := by
  have hl := W.len
  refine ⟨by rw [List.length_append, List.length_append, hl]; rfl, fun x hx => ?_, fun i hi => ?_, ?_⟩
  · rcases List.mem_append.mp hx with hx | hx
    · exact W.inn x hx
    · rw [List.mem_singleton.mp hx]
      exact hm
  · rw [List.length_append, List.length_singleton] at hi
    by_cases c : i < gs.length
    · obtain ⟨r', e1, e2⟩ := W.at_ i c
      refine ⟨r', by rw [getD_app_left c]; exact e1, ?_⟩
      rw [getD_app_left (by omega), getD_app_left (by omega)]
      exact e2
    · have e : i = gs.length := by omega
      refine ⟨r, by rw [getD_app_last e]; exact hr, ?_⟩
      rw [getD_app_left (by omega), getD_app_last (by omega), e]
      exact h
  · rw [List.nodup_append]
    refine ⟨W.nod, by simp, fun a ha b hb => ?_⟩
    rw [List.mem_singleton.mp hb]
    intro z
    exact hk (z ▸ ha)
theorem least_of (p : Nat → Prop) [DecidablePred p] : ∀ n, p n → ∃ j, j ≤ n ∧ p j ∧ ∀ m, m < j → ¬ p m := by
  intro n
  induction n using Nat.strongRecOn with
  | ind n ih =>
    intro hp
    by_cases h : ∃ m, m < n ∧ p m
    · obtain ⟨m, hm, pm⟩ := h
      obtain ⟨j, h1, h2, h3⟩ := ih m hm pm
      exact ⟨j, by omega, h2, h3⟩
    · exact ⟨n, Nat.le_refl _, hp, fun m hm pm => h ⟨m, hm, pm⟩⟩
/-! ### data -/
theorem canLay_ints : ∀ ns : List Int, PyData.canLayAll0 (ns.map .int) = true
  | [] => rfl
  | n :: r => by rw [List.map_cons, PyData.canLayAll0, canLay_ints r]; rfl
theorem shaped_lstI (ns : List Int) : SeqAt.shaped (.list (ns.map .int)) = true := by
  unfold SeqAt.shaped
  simp only [PyData.canLay0, canLay_ints, PyData.depth, depth_ints]
  rfl
theorem eqv_nil (ns : List Int) : PyData.eqv (.list (ns.map .int)) (.list []) = ns.isEmpty := by
  rw [PyData.eqv]
  cases ns with
  | nil => rfl
  | cons n r => rfl
section
variable {P : Program} {w : World} {K : PySem.W.Frag} {mg : Str → Option Value} {base : Heap}
/-! ### _law_ring -/
def Unit3 (fl : List Int) : Prop := ∀ x ∈ fl, -1 ≤ x ∧ x ≤ 1
def spRing (K : PySem.W.Frag) : Sp := fun vs H Q _ => ∃ (b d p : Addr) (ms : List Str) (rs : List Rd3), vs = [.ref b, .ref p] ∧ Box H b d ∧ NetAt K H p ms rs ∧ Gx.Good ms.length rs ∧ 0 < ms.length ∧ ms.length ≤ 1000 ∧ rs.length ≤ 1000 ∧
  ∀ (q : Addr) (fl : List Int) (H' : Hp), fl.length = rs.length → Unit3 fl → EvenP rs fl → Ext [b] H H' → Box H' b d → H' q = some (.lst (fl.map V.int)) → Q (.ref q) H'
abbrev nRing : List Str := ["box", "net", "flow", "mark", "walk", "gone", "turn", "k", "free", "at"]
theorem scRing : FnScope nRing ["box", "net"] (defScope sRing) := ⟨rfl, rfl, rfl, by decide +kernel, rfl, by decide +kernel, by decide +kernel⟩
theorem ok_ring {f fD fP : Addr} {fd fdD fdP : FuncData} (ml : mg "len" = none) (mi : mg "int" = none) (mr : mg "range" = none) (mst : mg "set" = none) (F : Fun K "_law_ring" "_law_ring" sRing f fd)
    (FD : Fun K "_law_draw" "_law_draw" sDraw fD fdD) (bD : Binds K fdD ["box", "many"] []) (gD : mg "_law_draw" = some (.ref fD))
    (FP : Fun K "_law_pick" "_law_pick" sPick fP fdP) (bP : Binds K fdP ["box", "things"] []) (gP : mg "_law_pick" = some (.ref fP)) : FnOk P w K mg base CX0 3 f fd ["box", "net"] (spRing K) := by
  have nd := scRing.nd
  have GD : FnOk P w K mg base CX0 1 fD fdD ["box", "many"] spDraw := ok_draw ml mi FD
  have GP : FnOk P w K mg base CX0 2 fP fdP ["box", "things"] (spPick K) := ok_pick ml mi FP FD bD gD
  refine F.ok scRing (fun vs H Q E h => ?_) (fun cdv A outer s H vs Q E hr h => ?_)
  · obtain ⟨_, _, _, _, _, rfl, _⟩ := h
    rfl
  · obtain ⟨b, d, p, ms, rs, rfl, hb, ⟨mp, rp, n1, n2, vs, n3, n4, n5⟩, hgood, hm0, hml, hlen, q⟩ := h
    have hr1 : Room 1 (A.deeper (envOfC "_law_ring" (defScope sRing) s.heap.objs.size f cdv)) := hr.mono (by decide)
    have hu : (A.deeper (envOfC "_law_ring" (defScope sRing) s.heap.objs.size f cdv)).units + 64 < cLine := hr.units
    refine ⟨_, pss_cons (ps_set (i := 2) nd rfl (.inl rfl) (pe_op op_rep (pe_lst (pa_cons pe_int pa_nil)) (pe_callB call_len_seq (by rfl) ml PySem.boot_len (pa_cons (pe_ix ix_tup (pv 1) pe_int (fun _ _ => rfl)) pa_nil))))
      (pss_cons (ps_set (i := 3) nd rfl (.inr rfl) (pe_call GD hr1 (by rfl) gD FD.kp bD .nil pass0 (pa_cons (pv 0) (pa_cons (pe_callB call_len_seq (by rfl) ml PySem.boot_len (pa_cons (pe_ix ix_tup (pv 1) pe_int (fun _ _ => rfl)) pa_nil)) pa_nil))))
      (pss_cons (ps_set (i := 4) nd rfl (.inl rfl) (pe_lst (pa_cons (pv 3) pa_nil)))
      (pss_cons (ps_set (i := 5) nd rfl (.inr rfl) (pe_lst pa_nil))
      (pss_cons (ps_for PassesOwn.never rfl (pi_range1 (by rfl) mr (pa_cons pe_int pa_nil)) (pg_name (i := 6) nd rfl (.inl rfl))
        (pss_cons (ps_setLc (i := 8) (own := [("k", 7)]) (g := gName 7) rfl nd rfl rfl (sw_true rfl rfl rfl (by decide +kernel)) (pi_range1 (by rfl) mr (pa_cons (pe_callB call_len_seq (by rfl) ml PySem.boot_len (pa_cons (pe_ix ix_tup (pv 1) pe_int (fun _ _ => rfl)) pa_nil)) pa_nil)) (blkOk_by (N := nRing) (sc := defScope sRing) (by decide +kernel))
          (fun _ _ _ _ _ => pg_name (i := 7) nd rfl (.inl rfl)) (fun _ _ _ _ _ => pts_one (PW.pt (pw_and (pt_cmpR (r := rIn K false) op_in_seq (pv 3) (pe_slice (r := rSlA K) sl_tupA (pe_ix (r := rIxT K) ix_tup (pe_ix (r := rIxT K) ix_tup (pv 1) pe_int (fun _ _ => rfl)) (pv 7) (fun _ _ => rfl)) po_none (po_some pe_int)) (by rfl)) (pw_and1 (pt_cmpR (r := rIn K true) op_notIn_seq (pv 7) (pv 5) (by rfl)))))) (fun _ _ _ _ _ => pv 7))
        (pss_one (ps_if (PW.pt (pw_and (pt_cmpR (op_neD hu) (pv 8) (pe_lst pa_nil) (nomark _)) (pw_and1 (pt_cmpR op_eq (pe_callB call_len_seq (by rfl) ml PySem.boot_len (pa_cons (pv 4) pa_nil)) (pe_lenSet (by rfl) ml (by rfl) mst (pv 4)) (nomark _)))))
          (pss_cons (ps_set (i := 7) nd rfl (.inl rfl) (pe_call GP hr (by rfl) gP FP.kp bP .nil pass0 (pa_cons (pv 0) (pa_cons (pv 8) pa_nil))))
          (pss_cons (ps_expr (pe_bm PySem.F.plainAttrs_list PySem.F.slot_list_append PySem.F.type_list_append mt_append (pv 5) (pa_cons (pv 7) pa_nil)))
          (pss_cons (ps_set (i := 3) nd rfl (.inr rfl) (pe_op op_sub (pe_op op_add (pe_ix ix_tup (pe_ix ix_tup (pe_ix ix_tup (pv 1) pe_int (fun _ _ => rfl)) (pv 7) (fun _ _ => rfl)) pe_int (fun _ _ => rfl)) (pe_ix ix_tup (pe_ix ix_tup (pe_ix ix_tup (pv 1) pe_int (fun _ _ => rfl)) (pv 7) (fun _ _ => rfl)) pe_int (fun _ _ => rfl))) (pv 3)))
          (pss_one (ps_expr (pe_bm PySem.F.plainAttrs_list PySem.F.slot_list_append PySem.F.type_list_append mt_append (pv 4) (pa_cons (pv 3) pa_nil))))))) pss_nil))))
      (pss_cons (ps_if (pt_cmpR op_eq (pe_callB call_len_seq (by rfl) ml PySem.boot_len (pa_cons (pv 4) pa_nil)) (pe_lenSet (by rfl) ml (by rfl) mst (pv 4)) (nomark _)) (pss_one (ps_ret (pv 2))) pss_nil)
      (pss_cons (ps_set (i := 9) nd rfl (.inl rfl) (pe_bm PySem.F.plainAttrs_list PySem.F.slot_list_index PySem.F.type_list_index mt_index (pv 4) (pa_cons (pv 3) pa_nil)))
      (pss_cons (ps_for PassesOwn.never rfl (pi_range2 (by rfl) mr (pa_cons (pv 9) (pa_cons (pe_callB call_len_seq (by rfl) ml PySem.boot_len (pa_cons (pv 5) pa_nil)) pa_nil))) (pg_name (i := 7) nd rfl (.inl rfl))
        (pss_one (ps_asg (pe_op op_sub pe_int (pe_op op_mul pe_int (pe_callTy call_int1 (by rfl) mi PyProof.Rows.boot_int (pa_cons (pe_cmpR op_eq (pe_ix ix_tup (pe_ix ix_tup (pe_ix ix_tup (pv 1) pe_int (fun _ _ => rfl)) (pe_ix ix_list (pv 5) (pv 7) (fun _ _ => rfl)) (fun _ _ => rfl)) pe_int (fun _ _ => rfl)) (pe_ix ix_list (pv 4) (pv 7) (fun _ _ => rfl)) (nomark _)) pa_nil)))) (pg_sub (pv 2) (pe_ix ix_list (pv 5) (pv 7) (fun _ _ => rfl)) set_list))))
      (pss_one (ps_ret (pv 2)))))))))), ?_⟩
    have hNet : NetAt K H p ms rs := ⟨mp, rp, n1, n2, vs, n3, n4, n5⟩
    -- flow
    refine ⟨by show 1 ≤ sizeLine; decide, fun l1 hl1 => ?_⟩
    have x1 : Ext [] H (upd H l1 (.lst [V.int 0])) := .new hl1
    refine ⟨_, rfl, p, _, _, _, rfl, rfl, x1.sqT n1, atI_nat (j := 2) rfl, rp, _, rfl, .inr (x1.sqT n3), l1, _, _, rfl, rfl, upd_same, by omega, by omega, ?_, fun f hf => ?_⟩
    · rw [n4]
      show 1 * (rs.length : Int).toNat ≤ sizeLine
      rw [Int.toNat_natCast, Nat.one_mul]
      exact Nat.le_of_lt (small1000 hlen)
    have x2 := x1.trans (Ext.new (c := []) (o := .lst (List.replicate ((vs.length : Nat) : Int).toNat [V.int 0]).flatten) hf)
    have hf0 : H f = none := x1.dom _ hf
    have ef : (upd (upd H l1 (.lst [V.int 0])) f (.lst (List.replicate ((vs.length : Nat) : Int).toNat [V.int 0]).flatten)) f = some (.lst ((List.replicate rs.length (0 : Int)).map V.int)) := by
      rw [upd_same, Int.toNat_natCast, n4, K3.flat_rep]
    generalize upd (upd H l1 (.lst [V.int 0])) f (.lst (List.replicate ((vs.length : Nat) : Int).toNat [V.int 0]).flatten) = H2 at x2 ef ⊢
    -- mark
    refine ⟨_, rfl, _, rfl, p, _, _, _, rfl, rfl, x2.sqT n1, atI_nat (j := 1) rfl, mp, _, rfl, .inr (x2.sqT n2), b, d, _, rfl, hb.ext x2, by rw [List.length_map]; omega, fun r0 H3 g0 g1 x3 b3 => ?_⟩
    obtain ⟨m0, hm0'⟩ := nat_of g0
    have hm0n : m0 < ms.length := by rw [List.length_map] at g1; omega
    rw [hm0']
    have ef3 : H3 f = some (.lst ((List.replicate rs.length (0 : Int)).map V.int)) := x3.lst ef (by rw [List.mem_singleton]; exact (hb.ext x2).ne ef)
    have xb3 : Ext [b] H H3 := x2.more.trans x3
    -- walk, gone
    refine ⟨_, rfl, by show 1 ≤ sizeLine; decide, fun wk hwk => ⟨by decide, fun gn hgn => ?_⟩⟩
    have hwk0 : H wk = none := xb3.dom _ hwk
    have xb4 := xb3.trans (Ext.new (c := [b]) (o := .lst [V.int (m0 : Nat)]) hwk)
    have hgn0 : H gn = none := xb4.dom _ hgn
    have nfw : f ≠ wk := ne_of_none ef3 hwk
    have nfg : f ≠ gn := ne_of_none (by rw [upd_ne nfw]; exact ef3) hgn
    have nwg : wk ≠ gn := ne_of_none upd_same hgn
    refine ⟨12, rfl, by decide, by decide, for_range (n := 12)
      (fun i σ H6 => ∃ y6 y7 y8 y9 ws gs, σ = [some (.ref b), some (.ref p), some (.ref f), some (.int (ws.getD gs.length 0 : Nat)), some (.ref wk), some (.ref gn), y6, y7, y8, y9] ∧ Ext [b] H H6 ∧ Box H6 b d ∧
        H6 f = some (.lst ((List.replicate rs.length (0 : Int)).map V.int)) ∧ H6 wk = some (.lst ((nI ws).map V.int)) ∧ H6 gn = some (.lst ((nI gs).map V.int)) ∧ Way ms.length rs ws gs ∧ gs.length ≤ i)
      ⟨_, _, _, _, [m0], [], rfl, xb4.trans (.new hgn), (b3.ext (.new hwk)).ext (.new hgn), by rw [upd_ne nfg, upd_ne nfw]; exact ef3, by rw [upd_ne nwg]; exact upd_same, upd_same,
        ⟨rfl, fun x hx => by rw [List.mem_singleton.mp hx]; exact hm0n, fun i hi => (by cases hi), .nil⟩, Nat.le_refl _⟩ (fun i σ H6 hi h6 => ?_) (fun σ H6 h6 => ?_)⟩
    · obtain ⟨y6, y7, y8, y9, ws, gs, rfl, x6, b6, ef6, ew6, eg6, W, hgi⟩ := h6
      have hgl : gs.length < ws.length := by rw [W.len]; omega
      have hw12 : ws.length ≤ 1000 := by rw [W.len]; omega
      generalize hmk : ws.getD gs.length 0 = mk
      have hmkn : mk < ms.length := by
        rw [← hmk, List.getD_eq_getElem?_getD, List.getElem?_eq_getElem hgl]
        exact W.inn _ (List.getElem_mem hgl)
      refine ⟨_, rfl, p, _, _, _, rfl, rfl, x6.sqT n1, atI_nat (j := 2) rfl, rp, _, rfl, .inr (x6.sqT n3), (vs.length : Nat), rfl, by rw [n4]; omega, by rw [n4]; omega, fun D hD => ?_⟩
      rw [Int.toNat_natCast]
      have hD0 : H D = none := x6.dom _ hD
      have nfD : f ≠ D := ne_of_none ef6 hD
      have nwD : wk ≠ D := ne_of_none ew6 hD
      have ngD : gn ≠ D := ne_of_none eg6 hD
      -- free
      refine lc_range (fun j H7 => ∃ fs : List Nat, fs.length ≤ j ∧ (∀ k ∈ fs, ∃ r, rs[k]? = some r ∧ (mk = r.1 ∨ mk = r.2.1) ∧ k ∉ gs) ∧ Ext [] H6 H7 ∧ H7 D = some (.lst ((nI fs).map V.int)))
        ⟨[], Nat.le_refl _, (fun k hk => by cases hk), .new hD, upd_same⟩ (fun j H7 hj h7 => ?_) (fun H7 h7 => ?_)
      · obtain ⟨fs, hfs, hfr, x7, eD⟩ := h7
        have hk0 : ((0 : Int) + (j : Nat)) = ((j : Nat) : Int) := by omega
        have hjr : j < rs.length := by omega
        obtain ⟨v', e1, rp', rfl, e2⟩ := n5 j rs[j] (List.getElem?_eq_getElem hjr)
        have x67 := x6.trans x7.more
        refine ⟨rfl, _, rfl, _, rfl, p, _, _, _, rfl, rfl, x67.sqT n1, atI_nat (j := 2) rfl, _, rfl, rp, _, _, _, rfl, by rw [hk0], x67.sqT n3, atI_nat e1, 2, rfl, ?_⟩
        refine slA_by (lo := none) (hi := some 2) (x67.sqT e2) fun p8 H8 x8 s8 => ?_
        have s8' : SqT K H8 p8 ([(rs[j].1 : Int), (rs[j].2.1 : Int)].map V.int) := s8
        refine ⟨p8, _, rfl, .inr s8', rfl, flat_ints _, _, rfl, ?_⟩
        have eD8 : H8 D = some (.lst ((nI fs).map V.int)) := x8.lst eD (by simp)
        have eg8 : H8 gn = some (.lst ((nI gs).map V.int)) := x8.lst (x7.lst eg6 (by simp)) (by simp)
        refine ite2 (fun c1 => ?_) (fun c1 => iteF ⟨fs, Nat.le_succ_of_le hfs, hfr, x7.trans x8, eD8⟩)
        have hin : mk = rs[j].1 ∨ mk = rs[j].2.1 := by
          have c2 : inV (.int (mk : Nat)) ([(rs[j].1 : Int), (rs[j].2.1 : Int)].map V.int) = true := c1
          rw [inV_ints] at c2
          have := of_decide_eq_true c2
          simp only [List.mem_cons, List.not_mem_nil, or_false] at this
          omega
        refine ⟨_, rfl, _, rfl, gn, _, rfl, .inl (SqL.of eg8), rfl, flat_ints _, _, rfl, ?_⟩
        refine ite2 (fun c3 => ?_) (fun c3 => ⟨fs, Nat.le_succ_of_le hfs, hfr, x7.trans x8, eD8⟩)
        have hng : j ∉ gs := by
          have c4 : (!inV (.int ((0 : Int) + (j : Nat))) ((nI gs).map V.int)) = true := c3
          rw [inV_ints, hk0] at c4
          intro z
          rw [decide_eq_true (mem_nI.mpr z)] at c4
          cases c4
        refine ⟨_, rfl, _, eD8, by rw [List.length_map, nI_length]; exact small1000 (by omega), fs ++ [j], by rw [List.length_append, List.length_singleton]; omega, fun k hk => ?_, ((x7.trans x8).own hD eD8), ?_⟩
        · rcases List.mem_append.mp hk with hk | hk
          · exact hfr k hk
          · rw [List.mem_singleton.mp hk]
            exact ⟨rs[j], List.getElem?_eq_getElem hjr, hin, hng⟩
        · rw [upd_same, ← nI_snoc]
          show some (HO.lst ((nI fs).map V.int ++ [V.int ((0 : Int) + (j : Nat))])) = _
          rw [hk0]
      · obtain ⟨fs, hfs, hfr, x7, eD⟩ := h7
        have x67 := x6.trans x7.more
        have b7 := b6.ext x7
        have ef7 := x7.lst ef6 (by simp)
        have ew7 := x7.lst ew6 (by simp)
        have eg7 := x7.lst eg6 (by simp)
        -- the test
        refine ⟨_, rfl, by decide, fun e0 he0 => ?_⟩
        have x8 : Ext [] H7 (upd H7 e0 (.lst [])) := .new he0
        refine ⟨_, _, dp_lstI (SqL.of (x8.lst eD (by simp))), .lst (SqL.of upd_same) .nil, shaped_lstI _, rfl, _, rfl, ?_⟩
        have b8 := b7.ext x8
        have ef8 := x8.lst ef7 (by simp)
        have ew8 := x8.lst ew7 (by simp)
        have eg8 := x8.lst eg7 (by simp)
        have eD8 := x8.lst eD (by simp)
        have x68 := x67.trans x8.more
        generalize upd H7 e0 (.lst []) = H8 at x8 b8 ef8 ew8 eg8 eD8 x68 ⊢
        refine ite2 (fun c1 => ?_) (fun c1 => iteF ⟨_, _, _, _, ws, gs, by rw [hmk]; rfl, x68, b8, ef8, ew8, eg8, W, Nat.le_succ_of_le hgi⟩)
        have hne : nI fs ≠ [] := fun z => by
          rw [eqv_nil, z] at c1
          cases c1
        refine ⟨_, rfl, wk, _, rfl, .inl (SqL.of ew8), _, rfl, wk, _, rfl, SqL.of ew8, by rw [nI_length]; omega, rfl, _, rfl, ?_⟩
        refine ite2 (fun c2 => ?_) (fun c2 => ⟨_, _, _, _, ws, gs, by rw [hmk]; rfl, x68, b8, ef8, ew8, eg8, W, Nat.le_succ_of_le hgi⟩)
        -- a step
        refine ⟨_, rfl, _, rfl, b, d, D, _, rfl, b8, eD8, hne, fun x hx H9 x9 b9 => ?_⟩
        obtain ⟨k, hk, rfl⟩ := List.mem_map.mp hx
        obtain ⟨r, er, hmr, hng⟩ := hfr k hk
        have hkr : k < rs.length := (List.getElem?_eq_some_iff.mp er).1
        have ef9 := x9.lst ef8 (by rw [List.mem_singleton]; exact b8.ne ef8)
        have ew9 := x9.lst ew8 (by rw [List.mem_singleton]; exact b8.ne ew8)
        have eg9 := x9.lst eg8 (by rw [List.mem_singleton]; exact b8.ne eg8)
        have x69 := x68.trans x9
        refine ⟨_, rfl, .inl ⟨rfl, _, SqL.of eg9⟩, _, rfl, gn, _, _, rfl, rfl, eg9, by rw [List.length_map, nI_length]; exact small1000 (by omega), ?_⟩
        rw [nI_snoc]
        have x70 : Ext [b] H (upd H9 gn (.lst ((nI (gs ++ [k])).map V.int))) := x69.own hgn0 eg9
        have b70 : Box (L2.upd H9 gn (.lst ((nI (gs ++ [k])).map V.int))) b d := hb.upd b9 hgn0
        have ef70 : (L2.upd H9 gn (.lst ((nI (gs ++ [k])).map V.int))) f = some (.lst ((List.replicate rs.length (0 : Int)).map V.int)) := by rw [upd_ne nfg]; exact ef9
        have ew70 : (L2.upd H9 gn (.lst ((nI (gs ++ [k])).map V.int))) wk = some (.lst ((nI ws).map V.int)) := by rw [upd_ne nwg]; exact ew9
        have eg70 : (L2.upd H9 gn (.lst ((nI (gs ++ [k])).map V.int))) gn = some (.lst ((nI (gs ++ [k])).map V.int)) := upd_same
        generalize L2.upd H9 gn (.lst ((nI (gs ++ [k])).map V.int)) = H10 at x70 b70 ef70 ew70 eg70 ⊢
        obtain ⟨v', e1, rp', rfl, e2⟩ := n5 k r er
        refine ⟨_, rfl, p, _, _, _, rfl, rfl, x70.sqT n1, atI_nat (j := 2) rfl, _, rfl, rp, _, _, _, rfl, rfl, x70.sqT n3, atI_nat e1, rp', _, _, _, rfl, rfl, x70.sqT e2, atI_nat (j := 0) rfl, ?_⟩
        refine ⟨_, rfl, p, _, _, _, rfl, rfl, x70.sqT n1, atI_nat (j := 2) rfl, _, rfl, rp, _, _, _, rfl, rfl, x70.sqT n3, atI_nat e1, rp', _, _, _, rfl, rfl, x70.sqT e2, atI_nat (j := 1) rfl, _, _, rfl, rfl, _, rfl, _, _, rfl, rfl, ?_⟩
        obtain ⟨g1, g2, g3⟩ := hgood r (List.mem_of_getElem? er)
        obtain ⟨m', hm', hmn, hst⟩ : ∃ m' : Nat, ((r.1 : Int) + (r.2.1 : Int) - (mk : Int)) = (m' : Int) ∧ m' < ms.length ∧ ((r.1 = mk ∧ r.2.1 = m') ∨ (r.2.1 = mk ∧ r.1 = m')) := by
          rcases hmr with e | e
          · exact ⟨r.2.1, by omega, g2, .inl ⟨e.symm, rfl⟩⟩
          · exact ⟨r.1, by omega, g1, .inr ⟨e.symm, rfl⟩⟩
        refine ⟨_, rfl, .inl ⟨rfl, _, SqL.of ew70⟩, _, rfl, wk, _, _, rfl, rfl, ew70, by rw [List.length_map, nI_length]; exact small1000 (by omega), ?_⟩
        refine ⟨some (.int (0 + (i : Nat))), some (.int (k : Nat)), some (.ref D), y9, ws ++ [m'], gs ++ [k], ?_, x70.own hwk0 ew70, hb.upd b70 hwk0, by rw [upd_ne nfw]; exact ef70, by rw [upd_same, ← nI_snoc, ← hm'], by rw [upd_ne nwg.symm]; exact eg70, W.step er hng hmn (by rw [hmk]; exact hst), by rw [List.length_append, List.length_singleton]; omega⟩
        rw [getD_app_last (by rw [List.length_append, List.length_singleton, W.len]), ← hm']
        rfl
    · obtain ⟨y6, y7, y8, y9, ws, gs, rfl, x6, b6, ef6, ew6, eg6, W, hgi⟩ := h6
      have hgl : gs.length < ws.length := by rw [W.len]; omega
      have hw12 : ws.length ≤ 1000 := by rw [W.len]; omega
      refine ⟨_, rfl, wk, _, rfl, .inl (SqL.of ew6), _, rfl, wk, _, rfl, SqL.of ew6, by rw [nI_length]; omega, rfl, _, rfl, ?_⟩
      refine ite2 (fun c1 => ?_) (fun c1 => ?_)
      · refine ⟨_, rfl, q f (List.replicate rs.length 0) H6 (List.length_replicate ..) (fun x hx => ?_) (fun p => pot_zero p rs _) x6 b6 ef6⟩
        rw [(List.mem_replicate.mp hx).2]
        decide
      -- walk.index(mark)
      obtain ⟨at_, ha1, ha2, ha3⟩ : ∃ j, j < ws.length ∧ ws.getD j 0 = ws.getD gs.length 0 ∧ ∀ m, m < j → ws.getD m 0 ≠ ws.getD gs.length 0 := by
        obtain ⟨j, h1, h2, h3⟩ := least_of (fun j => ws.getD j 0 = ws.getD gs.length 0) gs.length rfl
        exact ⟨j, by omega, h2, h3⟩
      refine ⟨_, rfl, .inl ⟨rfl, _, SqL.of ew6⟩, _, rfl, wk, _, _, at_, _, rfl, rfl, SqL.of ew6, rfl, flat_ints _, nI_at ha1, by rw [ha2]; show (_ == _) = true; simp, fun m z' hm hz => ?_, ?_⟩
      · rw [nI_at (by omega)] at hz
        cases hz
        show (_ == _) = false
        rw [beq_eq_false_iff_ne]
        intro z
        exact ha3 m hm (by omega)
      · have hal : at_ ≤ gs.length := by
          apply Classical.byContradiction
          intro z
          exact ha3 gs.length (by omega) rfl
        refine ⟨_, rfl, _, rfl, gn, _, rfl, .inl (SqL.of eg6), _, _, rfl, ⟨by omega, by omega, by omega, by rw [List.length_map, nI_length]; omega⟩, for_range
          (fun i σ H7 => ∃ y7 fl, σ = [some (.ref b), some (.ref p), some (.ref f), some (.int (ws.getD gs.length 0 : Nat)), some (.ref wk), some (.ref gn), y6, y7, y8, some (.int (at_ : Nat))] ∧ Ext [b] H H7 ∧ Box H7 b d ∧
            H7 f = some (.lst (fl.map V.int)) ∧ H7 wk = some (.lst ((nI ws).map V.int)) ∧ H7 gn = some (.lst ((nI gs).map V.int)) ∧ fl.length = rs.length ∧ Unit3 fl ∧
            (∀ j, at_ + i ≤ j → j < gs.length → fl[gs.getD j 0]? = some 0) ∧ ∀ p, potSum rs fl p = p (ws.getD (at_ + i) 0) - p (ws.getD at_ 0))
          ⟨_, List.replicate rs.length 0, rfl, x6, b6, ef6, ew6, eg6, List.length_replicate .., (fun x hx => by rw [(List.mem_replicate.mp hx).2]; decide), (fun j h1 h2 => ?_), (fun p => by rw [pot_zero]; show (0 : Int) = _; rw [Nat.add_zero]; omega)⟩ (fun i σ H7 hi h7 => ?_) (fun σ H7 h7 => ?_)⟩
        · obtain ⟨r, er, _⟩ := W.at_ j h2
          have := (List.getElem?_eq_some_iff.mp er).1
          rw [List.getElem?_replicate, if_pos this]
        · obtain ⟨y7, fl, rfl, x7, b7, ef7, ew7, eg7, hfl, hu3, hz, hp⟩ := h7
          have hik : at_ + i < gs.length := by
            rw [List.length_map, nI_length] at hi
            omega
          have hk0 : ((at_ : Nat) : Int) + (i : Nat) = ((at_ + i : Nat) : Int) := by omega
          obtain ⟨r, er, hst⟩ := W.at_ (at_ + i) hik
          obtain ⟨v', e1, rp', rfl, e2⟩ := n5 _ r er
          obtain ⟨g1, g2, g3⟩ := hgood r (List.mem_of_getElem? er)
          have hz0 := hz (at_ + i) (Nat.le_refl _) hik
          refine ⟨_, rfl, p, _, _, _, rfl, rfl, x7.sqT n1, atI_nat (j := 2) rfl, _, rfl, _, rfl, gn, _, _, _, rfl, by rw [hk0], SqL.of eg7, atI_nat (nI_at hik), rp, _, _, _, rfl, rfl, x7.sqT n3, atI_nat e1, rp', _, _, _, rfl, rfl, x7.sqT e2, atI_nat (j := 1) rfl, ?_⟩
          refine ⟨_, rfl, _, rfl, wk, _, _, _, rfl, by rw [hk0], SqL.of ew7, atI_nat (nI_at (by rw [W.len]; omega)), rfl, .inr ⟨_, rfl, _, _, rfl, rfl, .inl ⟨by decide, by decide⟩, _, _, rfl, rfl, ?_⟩⟩
          refine ⟨_, rfl, _, rfl, _, rfl, gn, _, _, _, rfl, by rw [hk0], SqL.of eg7, atI_nat (nI_at hik), f, _, _, gs.getD (at_ + i) 0, rfl, rfl, ef7, ixN_nat ?_, ?_⟩
          · rw [List.length_map]
            exact (List.getElem?_eq_some_iff.mp hz0).1
          generalize hv : (1 : Int) - 2 * (if decide (V.int (r.2.1 : Nat) = V.int (ws.getD (at_ + i) 0 : Nat)) = true then 1 else 0) = v
          have hv1 : (-1 ≤ v ∧ v ≤ 1) ∧ ∀ p : Nat → Int, v * (p r.2.1 - p r.1) = p (ws.getD (at_ + i + 1) 0) - p (ws.getD (at_ + i) 0) := by
            rcases hst with ⟨s1, s2⟩ | ⟨s1, s2⟩
            · have hne : decide (V.int (r.2.1 : Nat) = V.int (ws.getD (at_ + i) 0 : Nat)) = false := decide_eq_false fun z => g3 (by have := V.int.inj z; omega)
              rw [hne, if_neg Bool.false_ne_true] at hv
              have : v = 1 := by omega
              subst this
              refine ⟨by decide, fun p => ?_⟩
              rw [Int.one_mul, s1, s2]
            · rw [s1, decide_eq_true rfl, if_pos rfl] at hv
              have : v = -1 := by omega
              subst this
              refine ⟨by decide, fun p => ?_⟩
              rw [s1, s2]
              omega
          refine ⟨_, fl.set (gs.getD (at_ + i) 0) v, rfl, x7.own hf0 ef7, hb.upd b7 hf0, ?_, by rw [upd_ne nfw.symm]; exact ew7, by rw [upd_ne nfg.symm]; exact eg7, by rw [List.length_set]; exact hfl, fun x hx => ?_, fun j h1 h2 => ?_, fun p => ?_⟩
          · rw [upd_same, ← K3.map_set, ← hv]
          · rcases List.mem_or_eq_of_mem_set hx with hx | hx
            · exact hu3 x hx
            · rw [hx]
              exact hv1.1
          · have hne : gs.getD (at_ + i) 0 ≠ gs.getD j 0 := fun z => by
              have e1 : gs.getD (at_ + i) 0 = gs[at_ + i] := by rw [List.getD_eq_getElem?_getD, List.getElem?_eq_getElem hik]; rfl
              have e2 : gs.getD j 0 = gs[j] := by rw [List.getD_eq_getElem?_getD, List.getElem?_eq_getElem h2]; rfl
              rw [e1, e2] at z
              exact List.pairwise_iff_getElem.mp W.nod (at_ + i) j hik h2 (by omega) z
            rw [List.getElem?_set_ne hne]
            exact hz j (by omega) h2
          · rw [pot_set p rs fl _ r v er hz0, hp p, hv1.2 p]
            show _ = p (ws.getD (at_ + i + 1) 0) - _
            omega
        · obtain ⟨y7, fl, rfl, x7, b7, ef7, ew7, eg7, hfl, hu3, hz, hp⟩ := h7
          refine ⟨_, rfl, q f fl H7 hfl hu3 (fun p => ?_) x7 b7 ef7⟩
          rw [hp p]
          have e : at_ + ((((nI gs).map V.int).length : Nat) - (at_ : Nat) : Int).toNat = gs.length := by
            rw [List.length_map, nI_length]
            omega
          rw [e, ha2]
          omega
end
end Lw

set_option maxRecDepth 100000
set_option maxHeartbeats 4000000
namespace Lw
open PySem PySem.Spec PyProof.Rows L2 Gx RZ K3
/-! ### excess and potentials -/
def ind (m x : Nat) : Int := if x = m then 1 else 0
theorem getD_set_self {e : List Int} {i : Nat} {v : Int} (h : i < e.length) : (e.set i v).getD i 0 = v := by
  rw [List.getD_eq_getElem?_getD, List.getElem?_set_self h]
  rfl
theorem getD_set_ne {e : List Int} {i j : Nat} {v : Int} (h : i ≠ j) : (e.set i v).getD j 0 = e.getD j 0 := by
  rw [List.getD_eq_getElem?_getD, List.getElem?_set_ne h, ← List.getD_eq_getElem?_getD]
theorem stepE_at {e : List Int} {q : Rd3 × Int} {m : Nat} (h1 : q.1.1 < e.length) (h2 : q.1.2.1 < e.length) (h3 : q.1.1 ≠ q.1.2.1) :
    (stepE e q).getD m 0 = e.getD m 0 + q.2 * (ind m q.1.2.1 - ind m q.1.1) := by
  unfold stepE ind
  have l : (e.set q.1.2.1 (e.getD q.1.2.1 0 + q.2)).length = e.length := List.length_set ..
  by_cases c1 : q.1.1 = m
  · subst c1
    rw [getD_set_self (by rw [l]; exact h1), getD_set_ne h3.symm, if_neg h3.symm, if_pos rfl]
    omega
  · rw [getD_set_ne c1]
    by_cases c2 : q.1.2.1 = m
    · subst c2
      rw [getD_set_self h2, if_pos rfl, if_neg h3]
      omega
    · rw [getD_set_ne c2, if_neg c1, if_neg c2]
      omega
theorem foldE_at {m n : Nat} : ∀ (z : List (Rd3 × Int)) (e : List Int), e.length = n → (∀ q ∈ z, q.1.1 < n ∧ q.1.2.1 < n ∧ q.1.1 ≠ q.1.2.1) →
    (z.foldl stepE e).getD m 0 = e.getD m 0 + (z.map fun q => q.2 * (ind m q.1.2.1 - ind m q.1.1)).sum
  | [], e, _, _ => by simp
  | q :: z, e, hl, h => by
    obtain ⟨h1, h2, h3⟩ := h q List.mem_cons_self
    rw [List.foldl_cons, foldE_at z (stepE e q) (by rw [stepE_length]; exact hl) (fun x hx => h x (List.mem_cons_of_mem _ hx)), stepE_at (by rw [hl]; exact h1) (by rw [hl]; exact h2) h3, List.map_cons, List.sum_cons]
    omega
theorem even_of {n : Nat} {rs : List Rd3} {fl : List Int} (hg : Good n rs) (h : EvenP rs fl) : evenR n rs fl = true := by
  unfold evenR
  rw [List.all_eq_true]
  intro x hx
  obtain ⟨m, hm, rfl⟩ := List.getElem_of_mem hx
  have e := foldE_at (m := m) (n := n) (rs.zip fl) (List.replicate n 0) (List.length_replicate ..) fun q hq => hg q.1 (List.of_mem_zip hq).1
  have e2 : (List.replicate n (0 : Int)).getD m 0 = 0 := by
    rw [List.getD_eq_getElem?_getD, List.getElem?_replicate]
    split <;> rfl
  have e3 : ((rs.zip fl).map fun q => q.2 * (ind m q.1.2.1 - ind m q.1.1)).sum = 0 := h (ind m)
  rw [e2, e3] at e
  have e4 : (excR n rs fl).getD m 0 = (excR n rs fl)[m] := by rw [List.getD_eq_getElem?_getD, List.getElem?_eq_getElem hm]; rfl
  rw [decide_eq_true_eq, ← e4]
  exact e
/-! ### the law's own balance -/
def stepB (e : List Int) (q : Rd3 × Int) : List Int := (e.set q.1.1 (e.getD q.1.1 0 - q.2)).set q.1.2.1 ((e.set q.1.1 (e.getD q.1.1 0 - q.2)).getD q.1.2.1 0 + q.2)
theorem stepB_eq (e : List Int) (q : Rd3 × Int) (h : q.1.1 ≠ q.1.2.1) : stepB e q = stepE e q := by
  unfold stepB stepE
  rw [getD_set_ne h, getD_set_ne h.symm, List.set_comm _ _ h]
theorem foldB_eq : ∀ (z : List (Rd3 × Int)) (e : List Int), (∀ q ∈ z, q.1.1 ≠ q.1.2.1) → z.foldl stepB e = z.foldl stepE e
  | [], _, _ => rfl
  | q :: z, e, h => by rw [List.foldl_cons, List.foldl_cons, stepB_eq e q (h q List.mem_cons_self), foldB_eq z _ fun x hx => h x (List.mem_cons_of_mem _ hx)]
theorem eqv_zeros : ∀ (E : List Int) (n : Nat), E.length = n → PyData.eqvAll (E.map .int) ((List.replicate n (0 : Int)).map .int) = E.all fun x => decide (x = 0)
  | [], 0, _ => rfl
  | x :: E, n + 1, h => by
    rw [List.replicate_succ, List.map_cons, List.map_cons, PyData.eqvAll, eqv_zeros E n (by simpa using h), List.all_cons]
    congr 1
  | [], _ + 1, h => by simp at h
  | _ :: _, 0, h => by simp at h
/-! ### flows and misses -/
theorem worth_miss (hs : List Int) : ∀ (rs : List Rd3) (fl : List Int), fl.length = rs.length → ((rs.zip fl).map fun q => q.2 * missR hs q.1).sum = worthR rs fl - potSum rs fl (fun i => hs.getD i 0)
  | [], _, _ => rfl
  | r :: rs, [], h => by simp at h
  | r :: rs, x :: fl, h => by
    have ih := worth_miss hs rs fl (by simpa using h)
    unfold worthR potSum at ih ⊢
    rw [List.zip_cons_cons, List.map_cons, List.map_cons, List.map_cons, List.sum_cons, List.sum_cons, List.sum_cons, ih]
    unfold missR
    have e : x * (r.2.2 - hs.getD r.2.1 0 + hs.getD r.1 0) = x * r.2.2 - x * (hs.getD r.2.1 0 - hs.getD r.1 0) := by
      rw [← Int.mul_sub]
      congr 1
      omega
    show x * (r.2.2 - hs.getD r.2.1 0 + hs.getD r.1 0) + _ = x * r.2.2 + _ - (x * (hs.getD r.2.1 0 - hs.getD r.1 0) + _)
    rw [e]
    omega
theorem mul_le_abs {x v : Int} (h : -1 ≤ x ∧ x ≤ 1) : x * v ≤ absI v := by
  unfold absI
  have : x = -1 ∨ x = 0 ∨ x = 1 := by omega
  rcases this with rfl | rfl | rfl <;> split <;> omega
theorem miss_le_cost (hs : List Int) : ∀ (rs : List Rd3) (fl : List Int), Unit3 fl → ((rs.zip fl).map fun q => q.2 * missR hs q.1).sum ≤ costR hs rs
  | [], _, _ => Int.le_refl _
  | r :: rs, [], _ => by
    show (0 : Int) ≤ costR hs (r :: rs)
    unfold costR
    have : ∀ l : List Rd3, 0 ≤ (l.map fun r => absI (missR hs r)).sum := by
      intro l
      induction l with
      | nil => exact Int.le_refl _
      | cons a l ih =>
        rw [List.map_cons, List.sum_cons]
        have : 0 ≤ absI (missR hs a) := by unfold absI; split <;> omega
        omega
    exact this _
  | r :: rs, x :: fl, h => by
    have ih := miss_le_cost hs rs fl fun y hy => h y (List.mem_cons_of_mem _ hy)
    have h1 := mul_le_abs (v := missR hs r) (h x List.mem_cons_self)
    unfold costR at ih ⊢
    rw [List.zip_cons_cons, List.map_cons, List.map_cons, List.sum_cons, List.sum_cons]
    show x * missR hs r + _ ≤ _
    omega
theorem told_miss {hs : List Int} {rs : List Rd3} {fl : List Int} (hl : fl.length = rs.length) (h : EvenP rs fl) : ((rs.zip fl).map fun q => q.2 * missR hs q.1).sum = worthR rs fl := by
  rw [worth_miss hs rs fl hl, h]
  omega
theorem told_le {hs : List Int} {rs : List Rd3} {fl : List Int} (hl : fl.length = rs.length) (h : EvenP rs fl) (hu : Unit3 fl) : worthR rs fl ≤ costR hs rs := by
  rw [← told_miss hl h]
  exact miss_le_cost hs rs fl hu
theorem even_add {rs : List Rd3} {f g : List Int} (hf : f.length = rs.length) (hg : g.length = rs.length) (h1 : EvenP rs f) (h2 : EvenP rs g) : EvenP rs (List.zipWith (· + ·) f g) := fun p => by
  rw [pot_add p rs f g hf hg, h1 p, h2 p]
  rfl
theorem even_zero (rs : List Rd3) (n : Nat) : EvenP rs (List.replicate n 0) := fun p => pot_zero p rs n
end Lw

set_option maxRecDepth 100000
set_option maxHeartbeats 8000000
namespace Lw
open PySem PySem.Spec PyProof.Rows L2 Gx RZ K3
theorem lst_snoc (L : List Int) {i : Nat} (h : i < L.length) : (L.take i).map V.int ++ [.int (L.getD i 0)] = (L.take (i + 1)).map V.int := by
  rw [List.take_add_one, List.getElem?_eq_getElem h, List.map_append, List.getD_eq_getElem?_getD, List.getElem?_eq_getElem h]
  rfl
theorem zw_at {f g : List Int} {i : Nat} (h1 : i < f.length) (h2 : i < g.length) : (List.zipWith (· + ·) f g).getD i 0 = f.getD i 0 + g.getD i 0 := by
  rw [List.getD_eq_getElem?_getD, List.getElem?_zipWith, List.getElem?_eq_getElem h1, List.getElem?_eq_getElem h2, List.getD_eq_getElem?_getD, List.getElem?_eq_getElem h1, List.getD_eq_getElem?_getD, List.getElem?_eq_getElem h2]
  rfl
theorem getD_at {L : List Int} {i : Nat} (h : i < L.length) : L.getD i 0 = L[i] := by
  rw [List.getD_eq_getElem?_getD, List.getElem?_eq_getElem h]
  rfl
theorem worth_bound {rs : List Rd3} {fl : List Int} (h : rs.length ≤ 1000) (hv : ∀ r ∈ rs, -100 ≤ r.2.2 ∧ r.2.2 ≤ 100) (hu : Unit3 fl) : (worthR rs fl).natAbs < 10 ^ 12 := by
  have hb := sum_bound (B := 100) (by decide) ((rs.zip fl).map fun p => p.2 * p.1.2.2) fun x hx => by
    obtain ⟨q, hq, rfl⟩ := List.mem_map.mp hx
    have h1 := hv _ (List.of_mem_zip hq).1
    have h2 := hu _ (List.of_mem_zip hq).2
    have : q.2 = -1 ∨ q.2 = 0 ∨ q.2 = 1 := by omega
    rcases this with e | e | e <;> rw [e] <;> omega
  have hl : ((rs.zip fl).map fun p => p.2 * p.1.2.2).length ≤ 1000 := by
    rw [List.length_map, List.length_zip]
    omega
  have e : worthR rs fl = ((rs.zip fl).map fun p => p.2 * p.1.2.2).sum := rfl
  rw [← e] at hb
  omega
theorem miss_small {hs : List Int} {rs : List Rd3} (hv : ∀ r ∈ rs, -100 ≤ r.2.2 ∧ r.2.2 ≤ 100) (hb : ∀ x ∈ hs, -100 ≤ x ∧ x ≤ 100) (hg : Good hs.length rs) : ∀ r ∈ rs, -300 ≤ missR hs r ∧ missR hs r ≤ 300 := fun r hr => by
  obtain ⟨g1, g2, _⟩ := hg r hr
  have h1 := hv r hr
  have h2 := hb _ (getD_mem g1)
  have h3 := hb _ (getD_mem g2)
  unfold missR
  omega
theorem cost_bound {hs : List Int} {rs : List Rd3} (h : rs.length ≤ 1000) (hm : ∀ r ∈ rs, -300 ≤ missR hs r ∧ missR hs r ≤ 300) : (costR hs rs).natAbs < 10 ^ 12 := by
  have hb := sum_bound (B := 300) (by decide) (rs.map fun r => absI (missR hs r)) fun x hx => by
    obtain ⟨r, hr, rfl⟩ := List.mem_map.mp hx
    exact absI_range (hm r hr)
  have e : costR hs rs = (rs.map fun r => absI (missR hs r)).sum := rfl
  rw [← e, List.length_map] at hb
  omega
theorem lies_small {hs : List Int} {rs : List Rd3} (h : rs.length ≤ 1000) : ∀ n ∈ liesR hs rs, n.natAbs < 10 ^ 12 := fun n hn => by
  unfold liesR at hn
  obtain ⟨i, hi, rfl⟩ := List.mem_map.mp hn
  have := List.mem_range.mp (List.mem_filter.mp hi).1
  omega
theorem lies_len {hs : List Int} {rs : List Rd3} (h : rs.length ≤ 1000) : (liesR hs rs).length ≤ 1000 := by
  unfold liesR
  rw [List.length_map]
  have := List.length_filter_le (fun i => !decide (missR hs (rs.getD i (0, 0, 0)) = 0)) (List.range rs.length)
  rw [List.length_range] at this
  omega
theorem getD_miss {hs : List Int} {rs : List Rd3} {i : Nat} (h : i < rs.length) : (rs.map (missR hs)).getD i 0 = missR hs rs[i] := by
  rw [List.getD_eq_getElem?_getD, List.getElem?_map, List.getElem?_eq_getElem h]
  rfl
abbrev nLaw : List Str := ["script", "box", "net", "many", "flow", "turn", "ring", "k", "both", "told", "other", "balance", "heights", "due", "x", "reading"]
theorem scLaw : FnScope nLaw ["script"] (defScope sLaw) := ⟨rfl, rfl, rfl, by decide +kernel, rfl, by decide +kernel, by decide +kernel⟩
section
variable {P : Program} {w : World} {K : PySem.W.Frag} {mg : Str → Option Value} {base : Heap}
/-- what the module binds, for the law -/
structure Mods (mg : Str → Option Value) : Prop where
  len : mg "len" = none
  int : mg "int" = none
  range : mg "range" = none
  tuple : mg "tuple" = none
  set : mg "set" = none
  sum : mg "sum" = none
  abs : mg "abs" = none
  repr : mg "repr" = none
  zip : mg "zip" = none
  all : mg "all" = none
  enum : mg "enumerate" = none
/-- a def of the law's file: where it stands, and how it is bound -/
structure Dv (K : PySem.W.Frag) (mg : Str → Option Value) (x : Str) (st : Stmt) (ps : List Str) (f : Addr) (fd : FuncData) : Prop where
  fn : Fun K x x st f fd
  bi : Binds K fd ps []
  gl : mg x = some (.ref f)
structure Dt (K : PySem.W.Frag) (mg : Str → Option Value) (x : Str) (st : Stmt) (ps : List Str) (f : Addr) (fd : FuncData) (c : Addr) : Prop where
  fn : FunT K x x st f fd c
  bi : Binds K fd ps []
  gl : mg x = some (.ref f)
def spLaw (K : PySem.W.Frag) (ts : List Addr) : Sp := fun vs H Q _ => ∃ (a : Addr) (xs : List Int), vs = [.ref a] ∧ SqL K H a (xs.map V.int) ∧ (∀ T ∈ ts, GxR.TabG H T) ∧ ∀ H', Q (.bl true) H'
theorem ok_law {fL fDg fC fD fP fS fM fR fN fMi fCo fRi fmo fms fco fli fie fwo cms cco cli cie cwo Tms Tco Tli Tie Two : Addr} {dL dDg dC dD dP dS dM dR dN dMi dCo dRi dmo dms dco dli die dwo : FuncData} (B : Mods mg)
    (F : Fun K "law" "law" sLaw fL dL) (DDg : Dv K mg "_law_digits" sDigits ["script", "first", "last"] fDg dDg) (DC : Dv K mg "_law_cell" sCell ["script", "k"] fC dC) (DD : Dv K mg "_law_draw" sDraw ["box", "many"] fD dD)
    (DP : Dv K mg "_law_pick" sPick ["box", "things"] fP dP) (DS : Dv K mg "_law_same" sSame ["actual", "due"] fS dS) (DM : Dv K mg "_law_marks" sMarks ["box", "many"] fM dM) (DR : Dv K mg "_law_reading" sReading ["box", "heights", "one", "other"] fR dR)
    (DN : Dv K mg "_law_net" sNet ["box", "most", "more"] fN dN) (DMi : Dv K mg "_law_miss" sMissL ["reading", "heights"] fMi dMi) (DCo : Dv K mg "_law_cost" sCostL ["net", "heights"] fCo dCo) (DRi : Dv K mg "_law_ring" sRing ["box", "net"] fRi dRi)
    (Dmo : Dv K mg "miss_of" sMissOf ["reading", "heights"] fmo dmo) (Dms : Dt K mg "misses" sMisses ["net", "heights"] fms dms cms) (Dco : Dt K mg "cost" sCost ["net", "heights"] fco dco cco) (Dli : Dt K mg "lies" sLies ["net", "heights"] fli dli cli)
    (Die : Dt K mg "is_even" sIsEven ["net", "flow"] fie die cie) (Dwo : Dt K mg "worth" sWorth ["net", "flow"] fwo dwo cwo)
    (Bms : GxR.TabB base mg cms Tms) (Bco : GxR.TabB base mg cco Tco) (Bli : GxR.TabB base mg cli Tli) (Bie : GxR.TabB base mg cie Tie) (Bwo : GxR.TabB base mg cwo Two) :
    FnG P w K mg base 10 fL dL ["script"] (spLaw K [Tms, Tco, Tli, Tie, Two]) := by
  have nd := scLaw.nd
  have GDg : FnOk P w K mg base CX0 2 fDg dDg ["script", "first", "last"] (spDigits K) := ok_digits B.len B.range B.int DDg.fn DC.fn DC.bi DC.gl
  have GD : FnOk P w K mg base CX0 1 fD dD ["box", "many"] spDraw := ok_draw B.len B.int DD.fn
  have GN : FnOk P w K mg base CX0 3 fN dN ["box", "most", "more"] (spNet K) := ok_net B.len B.int B.range B.tuple DN.fn DD.fn DD.bi DD.gl DR.fn DR.bi DR.gl DM.fn DM.bi DM.gl
  have GR : FnOk P w K mg base CX0 3 fRi dRi ["box", "net"] (spRing K) := ok_ring B.len B.int B.range B.set DRi.fn DD.fn DD.bi DD.gl DP.fn DP.bi DP.gl
  have GS : FnG P w K mg base 1 fS dS ["actual", "due"] (spSame K) := ok_same B.repr DS.fn
  have GMi : FnOk P w K mg base CX0 1 fMi dMi ["reading", "heights"] (K3.spMissOf K) := ok_missL DMi.fn
  have GCo : FnOk P w K mg base CX0 2 fCo dCo ["net", "heights"] (spCostL K) := ok_costL B.sum B.abs DCo.fn DMi.fn DMi.bi DMi.gl
  have Gmo : FnOk P w K mg base CX0 1 fmo dmo ["reading", "heights"] (K3.spMissOf K) := ok_missOf Dmo.fn
  have Gms : FnOk P w K mg base CX0 7 fms dms ["net", "heights"] (K3.spMisses K Tms) := ok_misses Dms.fn Bms B.tuple Dmo.fn Dmo.bi Dmo.gl
  have Gco : FnOk P w K mg base CX0 8 fco dco ["net", "heights"] (K3.spCost K Tco Tms) := ok_cost Dco.fn Bco B.sum B.abs Gms Dms.fn.kp Dms.bi Dms.gl
  have Gli : FnOk P w K mg base CX0 8 fli dli ["net", "heights"] (K3.spLies K Tli Tms) := ok_lies Dli.fn Bli B.tuple B.enum Gms Dms.fn.kp Dms.bi Dms.gl
  have Gie : FnOk P w K mg base CX0 8 fie die ["net", "flow"] (K3.spIsEven K Tie) := ok_isEven Die.fn Bie B.all B.zip B.len
  have Gwo : FnOk P w K mg base CX0 8 fwo dwo ["net", "flow"] (K3.spWorth K Two) := ok_worth Dwo.fn Bwo B.sum B.zip
  refine okG F scLaw (fun vs H Q E h => ?_) (fun cdv A outer s H vs Q E hgd hr h => ?_)
  · obtain ⟨_, _, rfl, _⟩ := h
    rfl
  · obtain ⟨a, xs, rfl, hs, hT, q⟩ := h
    generalize hA : A.deeper (envOfC "law" (defScope sLaw) s.heap.objs.size fL cdv) = A9 at hr
    have hgd9 : A9.guards = some [] := by rw [← hA]; exact hgd
    subst hA
    have hu := hr.units
    have r1 := hr.mono (show 1 ≤ 9 by decide)
    have r2 := hr.mono (show 2 ≤ 9 by decide)
    have r3 := hr.mono (show 3 ≤ 9 by decide)
    have r7 := hr.mono (show 7 ≤ 9 by decide)
    have r8 := hr.mono (show 8 ≤ 9 by decide)
    apply Exists.intro
    refine And.intro ?hb ?hc
    case hb =>
      -- box, net, many, flow
      apply pss_cons
      · exact (ps_set (i := 1) nd rfl (.inr rfl) (pe_lst (pa_cons (pe_call GDg r2 (by rfl) DDg.gl DDg.fn.kp DDg.bi .nil pass0 (pa_cons (pv 0) (pa_cons pe_int (pa_cons pe_int pa_nil)))) (pa_cons pe_int pa_nil))))
      apply pss_cons
      · exact (ps_set (i := 2) nd rfl (.inr rfl) (pe_call GN r3 (by rfl) DN.gl DN.fn.kp DN.bi .nil pass0 (pa_cons (pv 1) (pa_cons pe_int (pa_cons pe_int pa_nil)))))
      apply pss_cons
      · exact (ps_set (i := 3) nd rfl (.inl rfl) (pe_callB call_len_seq (by rfl) B.len PySem.boot_len (pa_cons (pe_ix ix_tup (pv 2) pe_int (fun _ _ => rfl)) pa_nil)))
      apply pss_cons
      · exact (ps_set (i := 4) nd rfl (.inr rfl) (pe_op op_rep (pe_lst (pa_cons pe_int pa_nil)) (pv 3)))
      -- the flow
      apply pss_cons
      · exact (ps_for PassesOwn.never rfl (pi_range1 (by rfl) B.range (pa_cons pe_int pa_nil)) (pg_name (i := 5) nd rfl (.inl rfl))
        (pss_cons (ps_set (i := 6) nd rfl (.inr rfl) (pe_call GR r3 (by rfl) DRi.gl DRi.fn.kp DRi.bi .nil pass0 (pa_cons (pv 1) (pa_cons (pv 2) pa_nil))))
        (pss_cons (ps_setLc (i := 8) (own := [("k", 7)]) (g := gName 7) rfl nd rfl rfl (sw_true rfl rfl rfl (by decide +kernel)) (pi_range1 (by rfl) B.range (pa_cons (pv 3) pa_nil)) (blkOk_by (N := nLaw) (sc := defScope sLaw) (by decide +kernel))
          (fun _ _ _ _ _ => pg_name (i := 7) nd rfl (.inl rfl)) (fun _ _ _ _ _ => pts_nil) (fun _ _ _ _ _ => pe_op op_add (pe_ix (r := rIxL K) ix_list (pv 4) (pv 7) (fun _ _ => rfl)) (pe_ix (r := rIxL K) ix_list (pv 6) (pv 7) (fun _ _ => rfl))))
        (pss_one (ps_if (pt_cmpR op_eq (pe_callB call_len_seq (by rfl) B.len PySem.boot_len (pa_cons (pe_lc (own := [("x", 14)]) (g := gName 14) rfl nd (pi_list (pv 8)) (blkOk_by (N := nLaw) (sc := defScope sLaw) (by decide +kernel))
            (fun _ _ _ _ _ => pg_name (i := 14) nd rfl (.inl rfl)) (fun _ _ _ _ _ => pts_one (pt_cmpR (r := rIn K true) op_notIn_seq (pv 14) (pe_tup (pa_cons (pe_un un_neg pe_int) (pa_cons pe_int (pa_cons pe_int pa_nil)))) (by rfl))) (fun _ _ _ _ _ => pv 14)) pa_nil)) pe_int (nomark _))
          (pss_one (ps_set (i := 4) nd rfl (.inr rfl) (pv 8))) pss_nil)))))
      -- told
      apply pss_cons
      · exact (ps_set (i := 9) nd rfl (.inl rfl) (pe_callB (cr_sum rfl) (by rfl) B.sum PyProof.Rows.boot_sum (pa_cons (pe_lc (own := [("k", 7)]) (g := gName 7) (tt := tYes) rfl nd (pi_range1 (by rfl) B.range (pa_cons (pv 3) pa_nil)) (blkOk_by (N := nLaw) (sc := defScope sLaw) (by decide +kernel))
          (fun _ _ _ _ _ => pg_name (i := 7) nd rfl (.inl rfl)) (fun _ _ _ _ _ => pts_nil) (fun _ _ _ _ _ => pe_op op_mul (pe_ix (r := rIxL K) ix_list (pv 4) (pv 7) (fun _ _ => rfl)) (pe_ix (r := rIxT K) ix_tup (pe_ix (r := rIxT K) ix_tup (pe_ix (r := rIxT K) ix_tup (pv 2) pe_int (fun _ _ => rfl)) (pv 7) (fun _ _ => rfl)) pe_int (fun _ _ => rfl)))) pa_nil)))
      apply pss_cons
      · exact (ps_if (PW.pt (pw_or (pt_cmpR op_notBl (pe_call Gie r8 (by rfl) Die.gl Die.fn.kp Die.bi .nil pass0 (pa_cons (pv 2) (pa_cons (pe_callTy call_tuple_of (by rfl) B.tuple PyProof.Rows.boot_tuple (pa_cons (pv 4) pa_nil)) pa_nil))) pe_bl (nomark _))
          (pw_or1 (pt_not (pt_val (pe_callG GS hgd9 r1 (by rfl) DS.gl DS.fn.kp DS.bi (pa_cons (pe_call Gwo r8 (by rfl) Dwo.gl Dwo.fn.kp Dwo.bi .nil pass0 (pa_cons (pv 2) (pa_cons (pe_callTy call_tuple_of (by rfl) B.tuple PyProof.Rows.boot_tuple (pa_cons (pv 4) pa_nil)) pa_nil))) (pa_cons (pv 9) pa_nil)))))))) (pss_one (ps_ret pe_bl)) pss_nil)
      -- other, balance
      apply pss_cons
      · exact (ps_set (i := 10) nd rfl (.inl rfl) (pe_callTy call_tuple_of (by rfl) B.tuple PyProof.Rows.boot_tuple (pa_cons (pe_lc (own := [("k", 7)]) (g := gName 7) (tt := tYes) rfl nd (pi_range1 (by rfl) B.range (pa_cons (pv 3) pa_nil)) (blkOk_by (N := nLaw) (sc := defScope sLaw) (by decide +kernel))
          (fun _ _ _ _ _ => pg_name (i := 7) nd rfl (.inl rfl)) (fun _ _ _ _ _ => pts_nil) (fun _ _ _ _ _ => pe_op op_sub (pe_call GD r1 (by rfl) DD.gl DD.fn.kp DD.bi .nil pass0 (pa_cons (pv 1) (pa_cons pe_int pa_nil))) pe_int)) pa_nil)))
      apply pss_cons
      · exact (ps_set (i := 11) nd rfl (.inl rfl) (pe_op op_rep (pe_lst (pa_cons pe_int pa_nil)) (pe_callB call_len_seq (by rfl) B.len PySem.boot_len (pa_cons (pe_ix ix_tup (pv 2) pe_int (fun _ _ => rfl)) pa_nil))))
      apply pss_cons
      · exact (ps_for PassesOwn.never rfl (pi_range1 (by rfl) B.range (pa_cons (pv 3) pa_nil)) (pg_name (i := 7) nd rfl (.inl rfl))
        (pss_cons (ps_asg (pe_op op_sub (pe_ix ix_list (pv 11) (pe_ix ix_tup (pe_ix ix_tup (pe_ix ix_tup (pv 2) pe_int (fun _ _ => rfl)) (pv 7) (fun _ _ => rfl)) pe_int (fun _ _ => rfl)) (fun _ _ => rfl)) (pe_ix ix_tup (pv 10) (pv 7) (fun _ _ => rfl))) (pg_sub (pv 11) (pe_ix ix_tup (pe_ix ix_tup (pe_ix ix_tup (pv 2) pe_int (fun _ _ => rfl)) (pv 7) (fun _ _ => rfl)) pe_int (fun _ _ => rfl)) set_list))
        (pss_one (ps_asg (pe_op op_add (pe_ix ix_list (pv 11) (pe_ix ix_tup (pe_ix ix_tup (pe_ix ix_tup (pv 2) pe_int (fun _ _ => rfl)) (pv 7) (fun _ _ => rfl)) pe_int (fun _ _ => rfl)) (fun _ _ => rfl)) (pe_ix ix_tup (pv 10) (pv 7) (fun _ _ => rfl))) (pg_sub (pv 11) (pe_ix ix_tup (pe_ix ix_tup (pe_ix ix_tup (pv 2) pe_int (fun _ _ => rfl)) (pv 7) (fun _ _ => rfl)) pe_int (fun _ _ => rfl)) set_list)))))
      apply pss_cons
      · exact (ps_if (pt_not (pt_val (pe_callG GS hgd9 r1 (by rfl) DS.gl DS.fn.kp DS.bi (pa_cons (pe_call Gie r8 (by rfl) Die.gl Die.fn.kp Die.bi .nil pass0 (pa_cons (pv 2) (pa_cons (pv 10) pa_nil))) (pa_cons (pe_cmpR (op_eqD hu) (pv 11) (pe_op op_rep (pe_lst (pa_cons pe_int pa_nil)) (pe_callB call_len_seq (by rfl) B.len PySem.boot_len (pa_cons (pe_ix ix_tup (pv 2) pe_int (fun _ _ => rfl)) pa_nil))) (nomark _)) pa_nil))))) (pss_one (ps_ret pe_bl)) pss_nil)
      -- heights
      apply pss_cons
      rotate_left
      · exact pss_one (ps_ret pe_bl)
      rotate_left
      apply ps_for
      · exact PassesOwn.never
      · exact rfl
      · exact pi_range1 (by rfl) B.range (pa_cons pe_int pa_nil)
      · exact pg_name (i := 5) nd rfl (.inl rfl)
      apply pss_cons
      · exact (ps_set (i := 12) nd rfl (.inr rfl) (pe_callTy call_tuple_of (by rfl) B.tuple PyProof.Rows.boot_tuple (pa_cons (pe_op op_cat (pe_lst (pa_cons pe_int pa_nil)) (pe_lc (own := [("k", 7)]) (g := gName 7) (tt := tYes) rfl nd (pi_range1 (by rfl) B.range (pa_cons (pe_op op_sub (pe_callB call_len_seq (by rfl) B.len PySem.boot_len (pa_cons (pe_ix ix_tup (pv 2) pe_int (fun _ _ => rfl)) pa_nil)) pe_int) pa_nil)) (blkOk_by (N := nLaw) (sc := defScope sLaw) (by decide +kernel))
          (fun _ _ _ _ _ => pg_name (i := 7) nd rfl (.inl rfl)) (fun _ _ _ _ _ => pts_nil) (fun _ _ _ _ _ => pe_op op_sub (pe_call GD r1 (by rfl) DD.gl DD.fn.kp DD.bi .nil pass0 (pa_cons (pv 1) (pa_cons pe_int pa_nil))) pe_int))) pa_nil)))
      apply pss_cons
      · exact (ps_set (i := 13) nd rfl (.inr rfl) (pe_callTy call_tuple_of (by rfl) B.tuple PyProof.Rows.boot_tuple (pa_cons (pe_lc (own := [("reading", 15)]) (g := gName 15) (tt := tYes) rfl nd (pi_tup (pe_ix ix_tup (pv 2) pe_int (fun _ _ => rfl))) (blkOk_by (N := nLaw) (sc := defScope sLaw) (by decide +kernel))
          (fun _ _ _ _ _ => pg_name (i := 15) nd rfl (.inl rfl)) (fun _ _ _ _ _ => pts_nil) (fun _ _ _ _ _ => pe_call GMi r1 (by rfl) DMi.gl DMi.fn.kp DMi.bi .nil pass0 (pa_cons (pv 15) (pa_cons (pv 12) pa_nil)))) pa_nil)))
      apply pss_cons
      · exact (ps_if (PW.pt (pw_or (pt_not (pt_val (pe_callG GS hgd9 r1 (by rfl) DS.gl DS.fn.kp DS.bi (pa_cons (pe_call Gms r7 (by rfl) Dms.gl Dms.fn.kp Dms.bi .nil pass0 (pa_cons (pv 2) (pa_cons (pv 12) pa_nil))) (pa_cons (pv 13) pa_nil)))))
          (pw_or1 (pt_not (pt_val (pe_callG GS hgd9 r1 (by rfl) DS.gl DS.fn.kp DS.bi (pa_cons (pe_call Gco r8 (by rfl) Dco.gl Dco.fn.kp Dco.bi .nil pass0 (pa_cons (pv 2) (pa_cons (pv 12) pa_nil))) (pa_cons (pe_call GCo r2 (by rfl) DCo.gl DCo.fn.kp DCo.bi .nil pass0 (pa_cons (pv 2) (pa_cons (pv 12) pa_nil))) pa_nil)))))))) (pss_one (ps_ret pe_bl)) pss_nil)
      apply pss_cons
      · exact (ps_if (pt_not (pt_val (pe_callG GS hgd9 r1 (by rfl) DS.gl DS.fn.kp DS.bi (pa_cons (pe_call Gli r8 (by rfl) Dli.gl Dli.fn.kp Dli.bi .nil pass0 (pa_cons (pv 2) (pa_cons (pv 12) pa_nil))) (pa_cons (pe_callTy call_tuple_of (by rfl) B.tuple PyProof.Rows.boot_tuple (pa_cons (pe_lc (own := [("k", 7)]) (g := gName 7) rfl nd (pi_range1 (by rfl) B.range (pa_cons (pv 3) pa_nil)) (blkOk_by (N := nLaw) (sc := defScope sLaw) (by decide +kernel))
          (fun _ _ _ _ _ => pg_name (i := 7) nd rfl (.inl rfl)) (fun _ _ _ _ _ => pts_one (pt_cmpR op_ne (pe_ix (r := rIxT K) ix_tup (pv 13) (pv 7) (fun _ _ => rfl)) pe_int (nomark _))) (fun _ _ _ _ _ => pv 7)) pa_nil)) pa_nil))))) (pss_one (ps_ret pe_bl)) pss_nil)
      apply pss_cons
      · exact (ps_if (PW.pt (pw_and (pt_cmpR op_gt (pv 3) pe_int (nomark _)) (pw_and1 (pt_not (pt_val (pe_callG GS hgd9 r1 (by rfl) DS.gl DS.fn.kp DS.bi (pa_cons (pe_call Gmo r1 (by rfl) Dmo.gl Dmo.fn.kp Dmo.bi .nil pass0 (pa_cons (pe_ix ix_tup (pe_ix ix_tup (pv 2) pe_int (fun _ _ => rfl)) pe_int (fun _ _ => rfl)) (pa_cons (pv 12) pa_nil))) (pa_cons (pe_ix ix_tup (pv 13) pe_int (fun _ _ => rfl)) pa_nil)))))))) (pss_one (ps_ret pe_bl)) pss_nil)
      exact pss_one (ps_if (PW.pt (pw_or (pt_cmpR op_ne (pv 9) (pe_callB (cr_sum rfl) (by rfl) B.sum PyProof.Rows.boot_sum (pa_cons (pe_lc (own := [("k", 7)]) (g := gName 7) (tt := tYes) rfl nd (pi_range1 (by rfl) B.range (pa_cons (pv 3) pa_nil)) (blkOk_by (N := nLaw) (sc := defScope sLaw) (by decide +kernel))
          (fun _ _ _ _ _ => pg_name (i := 7) nd rfl (.inl rfl)) (fun _ _ _ _ _ => pts_nil) (fun _ _ _ _ _ => pe_op op_mul (pe_ix (r := rIxL K) ix_list (pv 4) (pv 7) (fun _ _ => rfl)) (pe_ix (r := rIxT K) ix_tup (pv 13) (pv 7) (fun _ _ => rfl)))) pa_nil)) (nomark _))
          (pw_or1 (pt_cmpR op_gt (pv 9) (pe_call GCo r2 (by rfl) DCo.gl DCo.fn.kp DCo.bi .nil pass0 (pa_cons (pv 2) (pa_cons (pv 12) pa_nil))) (nomark _))))) (pss_one (ps_ret pe_bl)) pss_nil)
      intro _
      rfl
    case hc =>
      -- box, net
      refine ⟨_, rfl, a, xs, rfl, hs, fun d ds H1 x1 hd0 ed => ⟨by show 2 ≤ sizeLine; decide, fun b hb => ?_⟩⟩
      have x2 : Ext [] H (upd H1 b (.lst [.ref d, .int 0])) := x1.trans (.new hb)
      have bx : Box (upd H1 b (.lst [.ref d, .int 0])) b d := ⟨ds, 0, upd_same, by rw [upd_ne (ne_of_none ed hb)]; exact ed⟩
      refine ⟨_, rfl, b, d, 5, 6, rfl, bx, by decide, by decide, by decide, fun p ms rs Hn hm1 hm5 hrl hgood hval x3 bn hnet => ?_⟩
      have hTn : ∀ T ∈ [Tms, Tco, Tli, Tie, Two], GxR.TabG Hn T := fun T hT' => x3.tab _ (x2.tab _ (hT T hT'))
      clear x1 x2 x3 hb bx ed hd0
      obtain ⟨mp, rp, n1, n2, vs, n3, n4, n5⟩ := id hnet
      -- many, flow
      refine ⟨_, rfl, p, _, _, _, rfl, rfl, n1, atI_nat (j := 2) rfl, rp, vs, rfl, .inr n3, ?_⟩
      rw [n4]
      refine ⟨by show 1 ≤ sizeLine; decide, fun l1 hl1 => ⟨_, rfl, l1, _, _, rfl, rfl, upd_same, by omega, by omega, ?_, fun f0 hf0 => ?_⟩⟩
      · show 1 * (rs.length : Int).toNat ≤ sizeLine
        rw [Int.toNat_natCast, Nat.one_mul]
        exact Nat.le_of_lt (small1000 (by omega))
      have x4 : Ext [] Hn (upd (upd Hn l1 (.lst [V.int 0])) f0 (.lst (List.replicate ((rs.length : Nat) : Int).toNat [V.int 0]).flatten)) := (Ext.new hl1).trans (.new hf0)
      have ef0 : (upd (upd Hn l1 (.lst [V.int 0])) f0 (.lst (List.replicate ((rs.length : Nat) : Int).toNat [V.int 0]).flatten)) f0 = some (.lst ((List.replicate rs.length (0 : Int)).map V.int)) := by
        rw [upd_same, Int.toNat_natCast, K3.flat_rep]
      generalize upd (upd Hn l1 (.lst [V.int 0])) f0 (.lst (List.replicate ((rs.length : Nat) : Int).toNat [V.int 0]).flatten) = H4 at x4 ef0 ⊢
      -- the flow
      refine ⟨3, rfl, by decide, by decide, for_range (n := 3)
        (fun i σ H6 => ∃ f fl y5 y6 y7 y8, σ = [some (.ref a), some (.ref b), some (.ref p), some (.int (rs.length : Nat)), some (.ref f), y5, y6, y7, y8, none, none, none, none, none, none, none] ∧ Ext [b] Hn H6 ∧ Box H6 b d ∧
          H6 f = some (.lst (fl.map V.int)) ∧ fl.length = rs.length ∧ Unit3 fl ∧ EvenP rs fl)
        ⟨f0, _, _, _, _, _, rfl, x4.more, bn.ext x4, ef0, List.length_replicate .., (fun x hx => by rw [(List.mem_replicate.mp hx).2]; decide), even_zero rs _⟩ (fun i σ H6 hi h6 => ?_) (fun σ H6 h6 => ?_)⟩
      · obtain ⟨f, fl, y5, y6, y7, y8, rfl, x6, b6, ef, hfl, hu3, hev⟩ := h6
        refine ⟨_, rfl, _, rfl, b, d, p, ms, rs, rfl, b6, hnet.ext x6, hgood, by omega, by omega, by omega, fun g gl H7 hgl hgu hge x7 b7 eg => ?_⟩
        have x67 := x6.trans x7
        have ef7 := x7.lst ef (by rw [List.mem_singleton]; exact b6.ne ef)
        have hzl : (List.zipWith (· + ·) fl gl).length = rs.length := by rw [List.length_zipWith]; omega
        -- both
        refine ⟨_, rfl, (rs.length : Nat), rfl, by omega, by omega, fun D hD => ?_⟩
        rw [Int.toNat_natCast]
        refine lc_range (fun j H8 => Ext [] H7 H8 ∧ H8 D = some (.lst (((List.zipWith (· + ·) fl gl).take j).map V.int))) ⟨.new hD, upd_same⟩ (fun j H8 hj h8 => ?_) (fun H8 h8 => ?_)
        · obtain ⟨x8, eD⟩ := h8
          have hk0 : ((0 : Int) + (j : Nat)) = ((j : Nat) : Int) := by omega
          refine ⟨rfl, _, rfl, _, rfl, f, _, _, _, rfl, by rw [hk0], SqL.of (x8.lst ef7 (by simp)), atI_nat (ints_at (by omega)), _, rfl, _, rfl, g, _, _, _, rfl, by rw [hk0], SqL.of (x8.lst eg (by simp)), atI_nat (ints_at (by omega)), _, _, rfl, rfl, ?_⟩
          refine ⟨_, eD, by rw [List.length_map, List.length_take]; exact small1000 (by omega), x8.own hD eD, ?_⟩
          rw [upd_same, ← lst_snoc _ (by omega), zw_at (by omega) (by omega)]
        · obtain ⟨x8, eD⟩ := h8
          rw [List.take_of_length_le (by omega)] at eD
          generalize hB : List.zipWith (· + ·) fl gl = bo at eD hzl
          have hbe : EvenP rs bo := by
            rw [← hB]
            exact even_add hfl hgl hev hge
          have b8 := b7.ext x8
          have ef8 := x8.lst ef7 (by simp)
          have x68 := x67.trans x8.more
          -- those beyond
          refine ⟨_, rfl, D, rfl, ⟨_, SqL.of eD⟩, fun D2 hD2 => ?_⟩
          refine lc_list (xs := bo.map V.int) (fun j H9 => ∃ acc, Ext [] H8 H9 ∧ H9 D2 = some (.lst acc) ∧ acc.length ≤ j ∧ (acc = [] → ∀ x ∈ bo.take j, -1 ≤ x ∧ x ≤ 1))
            ⟨[], .new hD2, upd_same, Nat.le_refl _, fun _ x hx => by simp at hx⟩ (fun j H9 _ h9 => ?_) (fun j v H9 hv h9 => ?_) (fun H9 h9 => ?_)
          · obtain ⟨acc, x9, _⟩ := h9
            exact SqL.of (x9.lst eD (by simp))
          · obtain ⟨acc, x9, eA, hal, hall⟩ := h9
            have hj : j < bo.length := by
              have := (List.getElem?_eq_some_iff.mp hv).1
              rwa [List.length_map] at this
            rw [ints_at hj] at hv
            cases hv
            refine ⟨rfl, _, rfl, _, rfl, by show 3 ≤ sizeLine; decide, fun t ht => ?_⟩
            refine ⟨t, _, rfl, .inr (.inl (.inl upd_same)), rfl, rfl, _, rfl, ?_⟩
            have x10 := x9.trans (Ext.new (c := []) (o := .tup [V.int (-1), V.int 0, V.int 1]) ht)
            have eA2 : (upd H9 t (.tup [V.int (-1), V.int 0, V.int 1])) D2 = some (.lst acc) := by rw [upd_ne (ne_of_none eA ht)]; exact eA
            refine ite2 (fun c1 => ?_) (fun c1 => ?_)
            · refine ⟨_, rfl, acc, eA2, small1000 (by omega), _, x10.own hD2 eA2, upd_same, by rw [List.length_append]; exact Nat.succ_le_succ hal, fun z => ?_⟩
              exact absurd z (by simp)
            · refine ⟨acc, x10, eA2, Nat.le_succ_of_le hal, fun z x hx => ?_⟩
              rw [List.take_add_one, List.getElem?_eq_getElem hj] at hx
              rcases List.mem_append.mp hx with hx | hx
              · exact hall z x hx
              · have hx2 : x = bo.getD j 0 := by
                  rw [getD_at hj]
                  simpa using hx
                rw [hx2]
                have c2 : ¬ (!inV (.int (bo.getD j 0)) (([-1, 0, 1] : List Int).map V.int)) = true := c1
                rw [inV_ints] at c2
                simp only [List.mem_cons, List.not_mem_nil, or_false, Bool.not_eq_true', decide_eq_false_iff_not, Classical.not_not] at c2
                omega
          · obtain ⟨acc, x9, eA, hal, hall⟩ := h9
            have xx := x68.trans x9.more
            have eD9 := x9.lst eD (by simp)
            refine ⟨D2, acc, rfl, .inl (SqL.of eA), rfl, _, rfl, ite2 (fun c1 => ?_) (fun c1 => ?_)⟩
            · have hacc : acc = [] := by
                have := V.int.inj (of_decide_eq_true c1)
                exact List.length_eq_zero_iff.mp (by omega)
              have hb3 := hall hacc
              rw [List.length_map, List.take_length] at hb3
              exact ⟨_, rfl, D, bo, _, _, _, _, rfl, xx, b8.ext x9, eD9, hzl, hb3, hbe⟩
            · exact ⟨f, fl, _, _, _, _, rfl, xx, b8.ext x9, x9.lst ef8 (by simp), hfl, hu3, hev⟩
      · obtain ⟨f, fl, y5, y6, y7, y8, rfl, x6, b6, ef, hfl, hu3, hev⟩ := h6
        have hzl : (rs.zip fl).length = rs.length := by rw [List.length_zip]; omega
        have hfb := fun x hx => hu3 x hx
        -- told
        refine ⟨_, rfl, (rs.length : Nat), rfl, by omega, by omega, fun D hD => ?_⟩
        rw [Int.toNat_natCast]
        refine lc_range (fun j H8 => Ext [] H6 H8 ∧ H8 D = some (.lst ((((rs.zip fl).take j).map fun q => q.2 * q.1.2.2).map V.int))) ⟨.new hD, upd_same⟩ (fun j H8 hj h8 => ?_) (fun H8 h8 => ?_)
        · obtain ⟨x8, eD⟩ := h8
          have hk0 : ((0 : Int) + (j : Nat)) = ((j : Nat) : Int) := by omega
          have hj2 : j < fl.length := by omega
          have hjz : j < (rs.zip fl).length := by omega
          obtain ⟨v', e1, rp', rfl, e2⟩ := n5 j rs[j] (List.getElem?_eq_getElem hj)
          have x68 := x6.trans x8.more
          have hb := hu3 _ (getD_mem hj2)
          refine ⟨rfl, _, rfl, _, rfl, f, _, _, _, rfl, by rw [hk0], SqL.of (x8.lst ef (by simp)), atI_nat (ints_at hj2), _, rfl, p, _, _, _, rfl, rfl, x68.sqT n1, atI_nat (j := 2) rfl, _, rfl, rp, _, _, _, rfl, by rw [hk0], x68.sqT n3, atI_nat e1, rp', _, _, _, rfl, rfl, x68.sqT e2, atI_nat (j := 2) rfl, _, _, rfl, rfl, .inl ⟨by omega, by omega⟩, ?_⟩
          refine ⟨_, eD, by rw [List.length_map, List.length_map, List.length_take]; exact small1000 (by omega), x8.own hD eD, ?_⟩
          rw [upd_same, ← ints_snoc (fun q : Rd3 × Int => q.2 * q.1.2.2) (rs.zip fl) hjz, zip_at hj hj2 hjz, getD_at hj2]
        · obtain ⟨x8, eD⟩ := h8
          rw [List.take_of_length_le (by omega)] at eD
          refine ⟨D, _, rfl, SqL.of eD, ?_⟩
          have b8 := b6.ext x8
          have x68 := x6.trans x8.more
          have ef8 := x8.lst ef (by simp)
          clear x6 b6 ef x8 eD hD
          -- is_even, worth
          refine ⟨_, rfl, _, rfl, f, _, rfl, .inl ⟨SqL.of ef8, fun l2 hl2 => ?_⟩⟩
          have x9 : Ext [b] Hn (upd H8 l2 (.tup (fl.map V.int))) := x68.trans (.new hl2)
          have ef9 : (upd H8 l2 (.tup (fl.map V.int))) f = some (.lst (fl.map V.int)) := by rw [upd_ne (ne_of_none ef8 hl2)]; exact ef8
          refine ⟨p, l2, ms, rs, fl, rfl, hnet.ext x9, hgood, by omega, by omega, .inl (.inl upd_same), hfl, x9.tab _ (hTn _ (by simp)), fun H9 x9' => ?_⟩
          rw [even_of hgood hev]
          have x10 := x9.trans x9'.more
          have b10 := (b8.ext (Ext.new (c := []) (o := .tup (fl.map V.int)) hl2)).ext x9'
          have ef10 := x9'.lst ef9 (by simp)
          clear x9 ef9 hl2 x9'
          refine ⟨true, true, rfl, rfl, _, rfl, iteF ?_⟩
          refine ⟨_, rfl, _, rfl, f, _, rfl, .inl ⟨SqL.of ef10, fun l2 hl2 => ?_⟩⟩
          have x11 : Ext [b] Hn (upd H9 l2 (.tup (fl.map V.int))) := x10.trans (.new hl2)
          have ef11 : (upd H9 l2 (.tup (fl.map V.int))) f = some (.lst (fl.map V.int)) := by rw [upd_ne (ne_of_none ef10 hl2)]; exact ef10
          refine ⟨p, l2, ms, rs, fl, rfl, hnet.ext x11, by omega, .inl (.inl upd_same), hfl, fun x hx => by have := hu3 x hx; omega, fun r hr => by have := hval r hr; omega, x11.tab _ (hTn _ (by simp)), fun H11 x11' => ?_⟩
          have x12 := x11.trans x11'.more
          have b12 := (b10.ext (Ext.new (c := []) (o := .tup (fl.map V.int)) hl2)).ext x11'
          have ef12 := x11'.lst ef11 (by simp)
          clear x11 ef11 hl2 x11' x10 b10 ef10 x68 b8 ef8
          refine ⟨_, rfl, _, _, .int (worthR rs fl), rfl, .int _, .int _, shows_int (worth_bound (by omega) hval hu3), _, rfl, iteF ?_⟩
          generalize hB2 : H11 = Hq at x12 b12 ef12
          clear hB2
          -- other
          refine ⟨_, rfl, (rs.length : Nat), rfl, by omega, by omega, fun D hD => ?_⟩
          rw [Int.toNat_natCast]
          have hD0 : Hn D = none := x12.dom _ hD
          have nfD : f ≠ D := ne_of_none ef12 hD
          refine lc_range (fun j H13 => ∃ ol : List Int, ol.length = j ∧ (∀ x ∈ ol, -1 ≤ x ∧ x ≤ 1) ∧ Ext [b] Hn H13 ∧ Box H13 b d ∧ H13 D = some (.lst (ol.map V.int)) ∧ H13 f = some (.lst (fl.map V.int)))
            ⟨[], rfl, (fun x hx => by cases hx), x12.trans (.new hD), b12.ext (.new hD), upd_same, by rw [upd_ne nfD]; exact ef12⟩ (fun j H13 hj h13 => ?_) (fun H13 h13 => ?_)
          · obtain ⟨ol, hol, hob, x13, b13, eD, ef13⟩ := h13
            refine ⟨rfl, _, rfl, b, d, 3, rfl, b13, by decide, fun r H14 g0 g1 x14 b14 => ⟨_, _, rfl, rfl, ?_⟩⟩
            have eD14 := x14.lst eD (by rw [List.mem_singleton]; exact b13.ne eD)
            have ef14 := x14.lst ef13 (by rw [List.mem_singleton]; exact b13.ne ef13)
            refine ⟨_, eD14, by rw [List.length_map, hol]; exact small1000 (by omega), ol ++ [r - 1], by rw [List.length_append, hol]; rfl, fun x hx => ?_, (x13.trans x14).own hD0 eD14, bn.upd b14 hD0, ?_, ?_⟩
            · rcases List.mem_append.mp hx with hx | hx
              · exact hob x hx
              · rw [List.mem_singleton.mp hx]
                omega
            · rw [upd_same, List.map_append]
              rfl
            · rw [upd_ne nfD]
              exact ef14
          · obtain ⟨ol, hol, hob, x13, b13, eD, ef13⟩ := h13
            refine ⟨D, _, rfl, .inl ⟨SqL.of eD, fun ot hot => ?_⟩⟩
            have x14 : Ext [b] Hn (upd H13 ot (.tup (ol.map V.int))) := x13.trans (.new hot)
            have b14 : Box (L2.upd H13 ot (.tup (ol.map V.int))) b d := b13.ext (.new hot)
            have ef14 : (upd H13 ot (.tup (ol.map V.int))) f = some (.lst (fl.map V.int)) := by rw [upd_ne (ne_of_none ef13 hot)]; exact ef13
            have eo14 : (upd H13 ot (.tup (ol.map V.int))) ot = some (.tup (ol.map V.int)) := upd_same
            generalize upd H13 ot (.tup (ol.map V.int)) = H14 at x14 b14 ef14 eo14 ⊢
            clear x13 b13 eD ef13 hot x12 b12 ef12 hD hD0 nfD
            -- balance
            refine ⟨by show 1 ≤ sizeLine; decide, fun l1 hl1 => ?_⟩
            have x15 : Ext [b] Hn (upd H14 l1 (.lst [V.int 0])) := x14.trans (.new hl1)
            refine ⟨_, rfl, p, _, _, _, rfl, rfl, x15.sqT n1, atI_nat (j := 1) rfl, mp, _, rfl, .inr (x15.sqT n2), l1, _, _, rfl, rfl, upd_same, by omega, by rw [List.length_map]; omega, ?_, fun bl hbl => ?_⟩
            · rw [List.length_map]
              show 1 * (ms.length : Int).toNat ≤ sizeLine
              rw [Int.toNat_natCast, Nat.one_mul]
              exact Nat.le_of_lt (small1000 (by omega))
            have xs' : Ext [] H14 (upd (upd H14 l1 (.lst [V.int 0])) bl (.lst (List.replicate (((ms.map V.str).length : Nat) : Int).toNat [V.int 0]).flatten)) := (Ext.new hl1).trans (.new hbl)
            have x16 := x14.trans xs'.more
            have b16 := b14.ext xs'
            have ef16 := xs'.lst ef14 (by simp)
            have eo16 := xs'.tup _ _ eo14
            have ebl : (upd (upd H14 l1 (.lst [V.int 0])) bl (.lst (List.replicate (((ms.map V.str).length : Nat) : Int).toNat [V.int 0]).flatten)) bl = some (.lst ((List.replicate ms.length (0 : Int)).map V.int)) := by
              rw [upd_same, Int.toNat_natCast, List.length_map, K3.flat_rep]
            have hbl0 : Hn bl = none := x15.dom _ hbl
            have nfb : f ≠ bl := ne_of_none (by rw [upd_ne (ne_of_none ef14 hl1)]; exact ef14) hbl
            generalize upd (upd H14 l1 (.lst [V.int 0])) bl (.lst (List.replicate (((ms.map V.str).length : Nat) : Int).toNat [V.int 0]).flatten) = H16 at x16 b16 ef16 eo16 ebl ⊢
            clear xs' x15 hl1 hbl x14 b14 ef14 eo14
            have hzo : (rs.zip ol).length = rs.length := by rw [List.length_zip]; omega
            have hzg : ∀ q ∈ rs.zip ol, q.1.1 < ms.length ∧ q.1.2.1 < ms.length ∧ q.1.1 ≠ q.1.2.1 := fun q hq => hgood _ (List.of_mem_zip hq).1
            refine ⟨_, rfl, (rs.length : Nat), rfl, by omega, by omega, ?_⟩
            rw [Int.toNat_natCast]
            refine for_range (fun i σ H17 => ∃ y7, σ = [some (.ref a), some (.ref b), some (.ref p), some (.int (rs.length : Nat)), some (.ref f), y5, y6, y7, y8, some (.int (worthR rs fl)), some (.ref ot), some (.ref bl), none, none, none, none] ∧ Ext [b] Hn H17 ∧ Box H17 b d ∧
                H17 f = some (.lst (fl.map V.int)) ∧ H17 ot = some (.tup (ol.map V.int)) ∧ H17 bl = some (.lst ((((rs.zip ol).take i).foldl stepB (List.replicate ms.length 0)).map V.int)))
              ⟨_, rfl, x16, b16, ef16, eo16, ebl⟩ (fun i σ H17 hi h17 => ?_) (fun σ H17 h17 => ?_)
            · obtain ⟨y7, rfl, x17, b17, ef17, eo17, eb17⟩ := h17
              have hk0 : ((0 : Int) + (i : Nat)) = ((i : Nat) : Int) := by omega
              have hi2 : i < ol.length := by omega
              have hiz : i < (rs.zip ol).length := by omega
              obtain ⟨v', e1, rp', rfl, e2⟩ := n5 i rs[i] (List.getElem?_eq_getElem hi)
              obtain ⟨g1, g2, g3⟩ := hgood _ (List.getElem_mem hi)
              have lE : (((rs.zip ol).take i).foldl stepB (List.replicate ms.length 0)).length = ms.length := by
                rw [foldB_eq _ _ (fun q hq => (hzg q (List.mem_of_mem_take hq)).2.2), foldE_length, List.length_replicate]
              have eT : ((rs.zip ol).take (i + 1)).foldl stepB (List.replicate ms.length 0) = stepB (((rs.zip ol).take i).foldl stepB (List.replicate ms.length 0)) (rs[i], ol[i]) := by
                rw [List.take_add_one, List.getElem?_eq_getElem hiz, List.foldl_append, zip_at hi hi2 hiz]
                rfl
              rw [eT]
              generalize hE : ((rs.zip ol).take i).foldl stepB (List.replicate ms.length 0) = E0 at lE eb17
              refine ⟨_, rfl, _, rfl, p, _, _, _, rfl, rfl, x17.sqT n1, atI_nat (j := 2) rfl, _, rfl, rp, _, _, _, rfl, by rw [hk0], x17.sqT n3, atI_nat e1, rp', _, _, _, rfl, rfl, x17.sqT e2, atI_nat (j := 0) rfl, bl, _, _, _, rfl, rfl, SqL.of eb17, atI_nat (ints_at (by rw [lE]; exact g1)), ?_⟩
              refine ⟨_, rfl, _, rfl, ot, _, _, _, rfl, by rw [hk0], .inl (.inl eo17), atI_nat (ints_at hi2), _, _, rfl, rfl, ?_⟩
              refine ⟨_, rfl, _, rfl, p, _, _, _, rfl, rfl, x17.sqT n1, atI_nat (j := 2) rfl, _, rfl, rp, _, _, _, rfl, by rw [hk0], x17.sqT n3, atI_nat e1, rp', _, _, _, rfl, rfl, x17.sqT e2, atI_nat (j := 0) rfl, bl, _, _, rs[i].1, rfl, rfl, eb17, ixN_nat (by rw [List.length_map, lE]; exact g1), ?_⟩
              rw [K3.map_set]
              have x18 : Ext [b] Hn (upd H17 bl (.lst ((E0.set rs[i].1 (E0.getD rs[i].1 0 - ol.getD i 0)).map V.int))) := x17.own hbl0 eb17
              have b18 : Box (L2.upd H17 bl (.lst ((E0.set rs[i].1 (E0.getD rs[i].1 0 - ol.getD i 0)).map V.int))) b d := bn.upd b17 hbl0
              have ef18 : (upd H17 bl (.lst ((E0.set rs[i].1 (E0.getD rs[i].1 0 - ol.getD i 0)).map V.int))) f = some (.lst (fl.map V.int)) := by rw [upd_ne nfb]; exact ef17
              have not : ot ≠ bl := fun z => by rw [z, eb17] at eo17; cases eo17
              have eo18 : (upd H17 bl (.lst ((E0.set rs[i].1 (E0.getD rs[i].1 0 - ol.getD i 0)).map V.int))) ot = some (.tup (ol.map V.int)) := by rw [upd_ne not]; exact eo17
              have eb18 : (upd H17 bl (.lst ((E0.set rs[i].1 (E0.getD rs[i].1 0 - ol.getD i 0)).map V.int))) bl = some (.lst ((E0.set rs[i].1 (E0.getD rs[i].1 0 - ol.getD i 0)).map V.int)) := upd_same
              generalize upd H17 bl (.lst ((E0.set rs[i].1 (E0.getD rs[i].1 0 - ol.getD i 0)).map V.int)) = H18 at x18 b18 ef18 eo18 eb18 ⊢
              have lE2 : (E0.set rs[i].1 (E0.getD rs[i].1 0 - ol.getD i 0)).length = ms.length := by rw [List.length_set, lE]
              refine ⟨_, rfl, _, rfl, p, _, _, _, rfl, rfl, x18.sqT n1, atI_nat (j := 2) rfl, _, rfl, rp, _, _, _, rfl, by rw [hk0], x18.sqT n3, atI_nat e1, rp', _, _, _, rfl, rfl, x18.sqT e2, atI_nat (j := 1) rfl, bl, _, _, _, rfl, rfl, SqL.of eb18, atI_nat (ints_at (by rw [lE2]; exact g2)), ?_⟩
              refine ⟨_, rfl, _, rfl, ot, _, _, _, rfl, by rw [hk0], .inl (.inl eo18), atI_nat (ints_at hi2), _, _, rfl, rfl, ?_⟩
              refine ⟨_, rfl, _, rfl, p, _, _, _, rfl, rfl, x18.sqT n1, atI_nat (j := 2) rfl, _, rfl, rp, _, _, _, rfl, by rw [hk0], x18.sqT n3, atI_nat e1, rp', _, _, _, rfl, rfl, x18.sqT e2, atI_nat (j := 1) rfl, bl, _, _, rs[i].2.1, rfl, rfl, eb18, ixN_nat (by rw [List.length_map, lE2]; exact g2), ?_⟩
              refine ⟨_, rfl, x18.own hbl0 eb18, bn.upd b18 hbl0, by rw [upd_ne nfb]; exact ef18, by rw [upd_ne not]; exact eo18, ?_⟩
              rw [upd_same, K3.map_set, getD_at hi2]
              rfl
            · obtain ⟨y7, rfl, x17, b17, ef17, eo17, eb17⟩ := h17
              rw [← hzo, List.take_length] at eb17
              have eEx : (rs.zip ol).foldl stepB (List.replicate ms.length 0) = excR ms.length rs ol := foldB_eq _ _ fun q hq => (hzg q hq).2.2
              rw [eEx] at eb17
              have lEx : (excR ms.length rs ol).length = ms.length := by
                unfold excR
                rw [foldE_length, List.length_replicate]
              -- is_even(net, other)
              refine ⟨_, rfl, _, rfl, p, ot, ms, rs, ol, rfl, hnet.ext x17, hgood, by omega, by omega, .inl (.inl eo17), hol, x17.tab _ (hTn _ (by simp)), fun H18 x18 => ?_⟩
              have x19 := x17.trans x18.more
              have b19 := b17.ext x18
              have ef19 := x18.lst ef17 (by simp)
              have eb19 := x18.lst eb17 (by simp)
              refine ⟨_, rfl, by show 1 ≤ sizeLine; decide, fun l3 hl3 => ?_⟩
              have x20 : Ext [] H18 (upd H18 l3 (.lst [V.int 0])) := .new hl3
              refine ⟨_, rfl, p, _, _, _, rfl, rfl, (x19.trans x20.more).sqT n1, atI_nat (j := 1) rfl, mp, _, rfl, .inr ((x19.trans x20.more).sqT n2), l3, _, _, rfl, rfl, upd_same, by omega, by rw [List.length_map]; omega, ?_, fun z hz => ?_⟩
              · rw [List.length_map]
                show 1 * (ms.length : Int).toNat ≤ sizeLine
                rw [Int.toNat_natCast, Nat.one_mul]
                exact Nat.le_of_lt (small1000 (by omega))
              have x21 : Ext [] H18 (upd (upd H18 l3 (.lst [V.int 0])) z (.lst (List.replicate (((ms.map V.str).length : Nat) : Int).toNat [V.int 0]).flatten)) := x20.trans (.new hz)
              have ez : (upd (upd H18 l3 (.lst [V.int 0])) z (.lst (List.replicate (((ms.map V.str).length : Nat) : Int).toNat [V.int 0]).flatten)) z = some (.lst ((List.replicate ms.length (0 : Int)).map V.int)) := by
                rw [upd_same, Int.toNat_natCast, List.length_map, K3.flat_rep]
              generalize upd (upd H18 l3 (.lst [V.int 0])) z (.lst (List.replicate (((ms.map V.str).length : Nat) : Int).toNat [V.int 0]).flatten) = H20 at x21 ez ⊢
              refine ⟨_, _, dp_lstI (SqL.of (x21.lst eb19 (by simp))), dp_lstI (SqL.of ez), shaped_lstI _, shaped_lstI _, ?_⟩
              have eqE : PyData.eqv (.list ((excR ms.length rs ol).map .int)) (.list ((List.replicate ms.length (0 : Int)).map .int)) = evenR ms.length rs ol := by
                rw [PyData.eqv, eqv_zeros _ _ lEx]
                rfl
              rw [eqE]
              refine ⟨_, _, .bool (evenR ms.length rs ol), rfl, .bl _, .bl _, shows_bl _, _, rfl, iteF ?_⟩
              have x22 := x19.trans x21.more
              have b22 := b19.ext x21
              have ef22 := x21.lst ef19 (by simp)
              clear x17 b17 ef17 eo17 eb17 x18 x19 b19 ef19 eb19 hl3 x20 hz ez x21 eqE lEx eEx hzg hzo nfb hbl0 ebl eo16 ef16 b16 x16
              generalize hB3 : H20 = Hz at x22 b22 ef22
              clear hB3
              refine ⟨4, rfl, by decide, by decide, for_range (n := 4)
                (fun i σ H17 => ∃ y5 y7 y12 y13, σ = [some (.ref a), some (.ref b), some (.ref p), some (.int (rs.length : Nat)), some (.ref f), y5, y6, y7, y8, some (.int (worthR rs fl)), some (.ref ot), some (.ref bl), y12, y13, none, none] ∧ Ext [b] Hn H17 ∧ Box H17 b d ∧
                  H17 f = some (.lst (fl.map V.int)))
                ⟨_, _, _, _, rfl, x22, b22, ef22⟩ (fun i σ H17 hi h17 => ?_) (fun σ H17 h17 => q H17)⟩
              obtain ⟨y5, y7, y12, y13, rfl, x17, b17, ef17⟩ := h17
              -- heights
              refine ⟨by show 1 ≤ sizeLine; decide, fun l0 hl0 => ?_⟩
              have x18 : Ext [b] Hn (upd H17 l0 (.lst [V.int 0])) := x17.trans (.new hl0)
              have b18 : Box (L2.upd H17 l0 (.lst [V.int 0])) b d := b17.ext (.new hl0)
              have ef18 : (upd H17 l0 (.lst [V.int 0])) f = some (.lst (fl.map V.int)) := by rw [upd_ne (ne_of_none ef17 hl0)]; exact ef17
              refine ⟨_, rfl, p, _, _, _, rfl, rfl, x18.sqT n1, atI_nat (j := 1) rfl, mp, _, rfl, .inr (x18.sqT n2), _, _, rfl, rfl, _, rfl, by rw [List.length_map]; omega, by rw [List.length_map]; omega, fun D hD => ?_⟩
              have hD0 : Hn D = none := x18.dom _ hD
              have nfD : f ≠ D := ne_of_none ef18 hD
              have nDl : l0 ≠ D := ne_of_none upd_same hD
              refine lc_range (fun j H19 => ∃ hs1 : List Int, hs1.length = j ∧ (∀ x ∈ hs1, -100 ≤ x ∧ x ≤ 100) ∧ Ext [b] Hn H19 ∧ Box H19 b d ∧ H19 D = some (.lst (hs1.map V.int)) ∧ H19 l0 = some (.lst [V.int 0]) ∧ H19 f = some (.lst (fl.map V.int)))
                ⟨[], rfl, (fun _ h => by cases h), x18.trans (.new hD), b18.ext (.new hD), upd_same, by rw [upd_ne nDl]; exact upd_same, by rw [upd_ne nfD]; exact ef18⟩ (fun j H19 hj h19 => ?_) (fun H19 h19 => ?_)
              · obtain ⟨hs1, e1, e2, x19, b19, eD, e0, ef19⟩ := h19
                refine ⟨rfl, _, rfl, b, d, 41, rfl, b19, by decide, fun r4 H4 g0 g1 x20 b20 => ⟨_, _, rfl, rfl, ?_⟩⟩
                have eD4 : H4 D = some (.lst (hs1.map V.int)) := x20.lst eD (by rw [List.mem_singleton]; exact b19.ne eD)
                have e04 : H4 l0 = some (.lst [V.int 0]) := x20.lst e0 (by rw [List.mem_singleton]; exact b19.ne (xs := [0]) e0)
                have ef4 := x20.lst ef19 (by rw [List.mem_singleton]; exact b19.ne ef19)
                refine ⟨_, eD4, by rw [List.length_map, e1]; rw [List.length_map] at hj; exact small1000 (by omega), hs1 ++ [r4 - 20], by rw [List.length_append, e1]; rfl, fun x hx => ?_, (x19.trans x20).own hD0 eD4, bn.upd b20 hD0, ?_, ?_, ?_⟩
                · rcases List.mem_append.mp hx with hx | hx
                  · exact e2 x hx
                  · rw [List.mem_singleton.mp hx]
                    omega
                · rw [upd_same, List.map_append]
                  rfl
                · rw [upd_ne nDl]
                  exact e04
                · rw [upd_ne nfD]
                  exact ef4
              obtain ⟨hs1, e1, e2, x19, b19, eD, e0, ef19⟩ := h19
              rw [List.length_map] at e1
              refine ⟨l0, D, _, _, rfl, rfl, e0, eD, by rw [List.length_map, e1]; show 1 + _ ≤ 2 ^ 24; omega, fun h hh => ?_⟩
              generalize hhs : (0 : Int) :: hs1 = hs0
              have ehs : [V.int 0] ++ hs1.map V.int = hs0.map V.int := by rw [← hhs]; rfl
              have lhs : hs0.length = ms.length := by rw [← hhs, List.length_cons, e1]; omega
              have bhs : ∀ x ∈ hs0, -100 ≤ x ∧ x ≤ 100 := fun x hx => by
                rw [← hhs] at hx
                rcases List.mem_cons.mp hx with rfl | hx
                · decide
                · exact e2 x hx
              rw [ehs]
              refine ⟨h, _, rfl, .inl ⟨SqL.of upd_same, fun ht hht => ?_⟩⟩
              have x20 : Ext [] H19 (upd (upd H19 h (.lst (hs0.map V.int))) ht (.tup (hs0.map V.int))) := (Ext.new hh).trans (.new hht)
              have x21 := x19.trans x20.more
              have b21 := b19.ext x20
              have ef21 := x20.lst ef19 (by simp)
              have eh21 : (upd (upd H19 h (.lst (hs0.map V.int))) ht (.tup (hs0.map V.int))) ht = some (.tup (hs0.map V.int)) := upd_same
              generalize upd (upd H19 h (.lst (hs0.map V.int))) ht (.tup (hs0.map V.int)) = H21 at x20 x21 b21 ef21 eh21 ⊢
              clear x20 hh hht e0 eD b19 x19 ef19 hD hD0 nfD nDl x18 b18 ef18 hl0 x17 b17 ef17 x22 b22 ef22
              have hg0 : Good hs0.length rs := by rw [lhs]; exact hgood
              have hms := miss_small hval bhs hg0
              -- due
              refine ⟨_, rfl, p, _, _, _, rfl, rfl, x21.sqT n1, atI_nat (j := 2) rfl, rp, rfl, ⟨_, x21.sqT n3⟩, fun D hD => ?_⟩
              refine lc_tup (xs := vs) (fun j H2 => Ext [] H21 H2 ∧ H2 D = some (.lst (((rs.take j).map (missR hs0)).map V.int))) ⟨.new hD, upd_same⟩ (fun j H2 _ h2 => (x21.trans h2.1.more).sqT n3) (fun j v H2 hv h2 => ?_) (fun H2 h2 => ?_)
              · obtain ⟨x2, eD⟩ := h2
                have hj : j < rs.length := by
                  rw [← n4]
                  exact (List.getElem?_eq_some_iff.mp hv).1
                obtain ⟨v', e1, ev⟩ := n5 j rs[j] (List.getElem?_eq_getElem hj)
                obtain rfl : v = v' := Option.some.inj (hv.symm.trans e1)
                obtain ⟨g1, g2, _⟩ := hg0 _ (List.getElem_mem hj)
                refine ⟨rfl, _, rfl, _, rfl, v, ht, rs[j], hs0, rfl, ev.ext (x21.trans x2.more), .inl (.inl (x2.tup _ _ eh21)), g1, g2, _, eD, ?_, x2.own hD eD, ?_⟩
                · rw [List.length_map, List.length_map, List.length_take]
                  exact small1000 (by omega)
                · rw [upd_same]
                  exact congrArg (fun l => some (HO.lst l)) (ints_snoc (missR hs0) rs hj)
              obtain ⟨x2, eD⟩ := h2
              rw [n4, List.take_length] at eD
              refine ⟨D, _, rfl, .inl ⟨SqL.of eD, fun du hdu => ?_⟩⟩
              have x23 : Ext [] H21 (upd H2 du (.tup ((rs.map (missR hs0)).map V.int))) := x2.trans (.new hdu)
              have ed23 : (upd H2 du (.tup ((rs.map (missR hs0)).map V.int))) du = some (.tup ((rs.map (missR hs0)).map V.int)) := upd_same
              have x24 := x21.trans x23.more
              have b24 := b21.ext x23
              have ef24 := x23.lst ef21 (by simp)
              have eh24 := x23.tup _ _ eh21
              generalize upd H2 du (.tup ((rs.map (missR hs0)).map V.int)) = H24 at x23 ed23 x24 b24 ef24 eh24 ⊢
              clear x2 eD hdu hD x23 x21 b21 ef21 eh21
              -- misses
              have hds : ∀ n ∈ rs.map (missR hs0), n.natAbs < 10 ^ 12 := fun n hn => by
                obtain ⟨r, hr, rfl⟩ := List.mem_map.mp hn
                have := hms r hr
                omega
              refine ⟨_, rfl, _, rfl, p, ht, ms, rs, hs0, rfl, hnet.ext x24, hg0, by omega, .inl (.inl eh24), x24.tab _ (hTn _ (by simp)), fun q1 H25 x25 e25 => ?_⟩
              refine ⟨_, rfl, _, _, .tuple ((rs.map (missR hs0)).map .int), rfl, dp_tupI (.inl (.inl e25)), dp_tupI (.inl (.inl (x25.tup _ _ ed23))), shows_tupI hds (by rw [List.length_map]; omega), _, rfl, iteF ?_⟩
              -- cost
              have x26 := x24.trans x25.more
              refine ⟨_, rfl, _, rfl, p, ht, ms, rs, hs0, rfl, hnet.ext x26, hg0, by omega, .inl (.inl (x25.tup _ _ eh24)), (fun r hr => by have := hms r hr; omega), x26.tab _ (hTn _ (by simp)), x26.tab _ (hTn _ (by simp)), fun H27 x27 => ?_⟩
              have x2527 := x25.trans x27
              have x28 := x24.trans x2527.more
              refine ⟨_, rfl, _, rfl, p, ht, ms, rs, hs0, rfl, hnet.ext x28, hg0, by omega, .inl (.inl (x2527.tup _ _ eh24)), fun H29 x29 => ?_⟩
              refine ⟨_, _, .int (costR hs0 rs), rfl, .int _, .int _, shows_int (cost_bound (by omega) hms), _, rfl, iteF ?_⟩
              have xx := x2527.trans x29
              have x30 := x24.trans xx.more
              have b30 := b24.ext xx
              have ef30 := xx.lst ef24 (by simp)
              have eh30 := xx.tup _ _ eh24
              have ed30 := xx.tup _ _ ed23
              clear xx x29 x28 x2527 x27 x26 e25 x25 eh24 ef24 b24 x24 ed23
              -- lies
              refine ⟨_, rfl, _, rfl, p, ht, ms, rs, hs0, rfl, hnet.ext x30, hg0, by omega, .inl (.inl eh30), x30.tab _ (hTn _ (by simp)), x30.tab _ (hTn _ (by simp)), fun q3 H31 x31 e31 => ?_⟩
              refine ⟨_, rfl, (rs.length : Nat), rfl, by omega, by omega, fun D hD => ?_⟩
              rw [Int.toNat_natCast]
              refine lc_range (fun j H32 => Ext [] H31 H32 ∧ H32 D = some (.lst ((((List.range j).filter fun i => !decide (missR hs0 (rs.getD i (0, 0, 0)) = 0)).map fun (i : Nat) => (i : Int)).map V.int))) ⟨.new hD, upd_same⟩ (fun j H32 hj h32 => ?_) (fun H32 h32 => ?_)
              · obtain ⟨x32, eD⟩ := h32
                have hk0 : ((0 : Int) + (j : Nat)) = ((j : Nat) : Int) := by omega
                refine ⟨rfl, _, rfl, _, rfl, du, _, _, _, rfl, by rw [hk0], .inl (.inl (x32.tup _ _ (x31.tup _ _ ed30))), atI_nat (ints_at (by rw [List.length_map]; exact hj)), rfl, _, rfl, ?_⟩
                have eg : rs.getD j (0, 0, 0) = rs[j] := by rw [List.getD_eq_getElem?_getD, List.getElem?_eq_getElem hj]; rfl
                have step : ∀ c : Bool, (!decide (V.int ((rs.map (missR hs0)).getD j 0) = V.int 0)) = c → (!decide (missR hs0 (rs.getD j (0, 0, 0)) = 0)) = c := fun c e => by
                  rw [eg, ← e, getD_miss hj]
                  simp
                refine ite2 (fun e => ?_) (fun e => ?_)
                · refine ⟨_, rfl, _, eD, ?_, x32.own hD eD, ?_⟩
                  · rw [List.length_map, List.length_map]
                    have := List.length_filter_le (fun i => !decide (missR hs0 (rs.getD i (0, 0, 0)) = 0)) (List.range j)
                    rw [List.length_range] at this
                    exact small1000 (by omega)
                  · rw [upd_same, K3.filter_snoc, if_pos (step true e), List.map_append, List.map_append, hk0]
                    rfl
                · refine ⟨x32, ?_⟩
                  rw [K3.filter_snoc, if_neg (by rw [step false (by simpa using e)]; decide), List.append_nil]
                  exact eD
              obtain ⟨x32, eD0⟩ := h32
              have eD : H32 D = some (.lst ((liesR hs0 rs).map V.int)) := eD0
              clear eD0
              refine ⟨D, _, rfl, .inl ⟨SqL.of eD, fun t ht' => ?_⟩⟩
              have x33 : Ext [] H31 (upd H32 t (.tup ((liesR hs0 rs).map V.int))) := x32.trans (.new ht')
              refine ⟨_, _, .tuple ((liesR hs0 rs).map .int), rfl, dp_tupI (.inl (.inl (x33.tup _ _ e31))), dp_tupI (.inl (.inl upd_same)), shows_tupI (lies_small (by omega)) (lies_len (by omega)), _, rfl, iteF ?_⟩
              have xx := x31.trans x33
              have x34 := x30.trans xx.more
              have b34 := b30.ext xx
              have ef34 := xx.lst ef30 (by simp)
              have eh34 := xx.tup _ _ eh30
              have ed34 := xx.tup _ _ ed30
              generalize upd H32 t (.tup ((liesR hs0 rs).map V.int)) = H34 at x33 xx x34 b34 ef34 eh34 ed34 ⊢
              clear xx x33 ht' eD x32 hD e31 x31 ed30 eh30 ef30 b30 x30
              -- miss_of
              refine ⟨_, rfl, _, _, rfl, rfl, _, rfl, ?_⟩
              refine (fun nxt => ite2 (fun c0 => ?_) (fun c0 => iteF nxt)) ?nx
              · have h0 : 0 < rs.length := by
                  have := of_decide_eq_true c0
                  omega
                obtain ⟨v', e1, ev⟩ := n5 0 rs[0] (List.getElem?_eq_getElem h0)
                obtain ⟨g1, g2, _⟩ := hg0 _ (List.getElem_mem h0)
                refine ⟨_, rfl, p, _, _, _, rfl, rfl, x34.sqT n1, atI_nat (j := 2) rfl, rp, _, _, _, rfl, rfl, x34.sqT n3, atI_nat (j := 0) e1, _, rfl, v', ht, rs[0], hs0, rfl, ev.ext x34, .inl (.inl eh34), g1, g2, ?_⟩
                refine ⟨_, rfl, du, _, _, _, rfl, rfl, .inl (.inl ed34), atI_nat (j := 0) (ints_at (by rw [List.length_map]; exact h0)), ?_⟩
                refine ⟨_, _, .int (missR hs0 rs[0]), rfl, .int _, by rw [getD_miss h0]; exact .int _, shows_int (by have := hms _ (List.getElem_mem h0); omega), _, rfl, iteF nxt⟩
              -- by the flow times the misses
              refine ⟨_, rfl, _, rfl, (rs.length : Nat), rfl, by omega, by omega, fun D hD => ?_⟩
              rw [Int.toNat_natCast]
              refine lc_range (fun j H8 => Ext [] H34 H8 ∧ H8 D = some (.lst ((((rs.zip fl).take j).map fun q => q.2 * missR hs0 q.1).map V.int))) ⟨.new hD, upd_same⟩ (fun j H8 hj h8 => ?_) (fun H8 h8 => ?_)
              · obtain ⟨x8, eD⟩ := h8
                have hk0 : ((0 : Int) + (j : Nat)) = ((j : Nat) : Int) := by omega
                have hj2 : j < fl.length := by omega
                have hjz : j < (rs.zip fl).length := by omega
                have hb := hu3 _ (getD_mem hj2)
                refine ⟨rfl, _, rfl, _, rfl, f, _, _, _, rfl, by rw [hk0], SqL.of (x8.lst ef34 (by simp)), atI_nat (ints_at hj2), _, rfl, _, rfl, du, _, _, _, rfl, by rw [hk0], .inl (.inl (x8.tup _ _ ed34)), atI_nat (ints_at (by rw [List.length_map]; exact hj)), _, _, rfl, rfl, .inl ⟨by omega, by omega⟩, ?_⟩
                refine ⟨_, eD, by rw [List.length_map, List.length_map, List.length_take]; exact small1000 (by omega), x8.own hD eD, ?_⟩
                rw [upd_same, ← ints_snoc (fun q : Rd3 × Int => q.2 * missR hs0 q.1) (rs.zip fl) hjz, zip_at hj hj2 hjz, getD_at hj2, getD_miss hj]
              obtain ⟨x8, eD⟩ := h8
              rw [List.take_of_length_le (by omega)] at eD
              refine ⟨D, _, rfl, SqL.of eD, rfl, _, rfl, ?_⟩
              refine iteNS (by rw [told_miss hfl hev]) ?_
              have x9 := x34.trans x8.more
              refine ⟨_, rfl, _, rfl, _, rfl, p, ht, ms, rs, hs0, rfl, hnet.ext x9, hg0, by omega, .inl (.inl (x8.tup _ _ eh34)), fun H9 x10 => ?_⟩
              refine ⟨_, _, rfl, rfl, _, rfl, ite2 (fun c1 => ?_) (fun c1 => ?_)⟩
              · have h1 := of_decide_eq_true c1
                have h2 := told_le (hs := hs0) hfl hev hu3
                omega
              · exact ⟨_, _, _, _, rfl, x9.trans x10.more, (b34.ext x8).ext x10, x10.lst (x8.lst ef34 (by simp)) (by simp)⟩
end
end Lw

set_option maxRecDepth 100000
set_option maxHeartbeats 4000000
namespace Lw
open PySem PySem.Spec PyProof.Rows L2 Gx RZ
theorem tabIn_of {K : PySem.W.Frag} {x qual : Str} {f c P : Addr} {oc : Value} {od an : Option Addr} {osl : Array (Option Value)} {kV doc pm ct : Value} {st : Stmt} {e : Value} {dd : Option Addr} {vs : Array Value} {sl : Array (Option Value)}
    (a : PySem.W.nsIn K mainGlobals x = some (some (.ref f))) (l : K.lookup f = some ⟨oc, od, .func (PySem.W.fnOf x qual (defArgs st) (defBody st) (defScope st) .none kV doc pm an (.ref c) ct), osl⟩) (lc : K.lookup c = some ⟨e, dd, .fields vs, sl⟩) (v : vs[11]? = some (.ref P)) :
    PySem.W.tabIn K x = some (c, P) := by
  unfold PySem.W.tabIn
  rw [a]
  simp only [l, lc, v, PySem.W.fnOf]
theorem lawK {l : PySem.W.OpenLaw} {q : Program} {w : World} {K : PySem.W.Frag} {mg : Str → Option Value} {fa : Addr} {h : Heap} (KX : K.In h) (G : h.Ns mainGlobals mg) (hmg : mg "law" = some (.ref fa))
   (HT : ∀ (d' : DefRec) (y : Str) (c P : Addr), (recsOf q).find? (fun e => e.name == y) = some d' → PySem.W.tabIn K y = some (c, P) → PySem.W.CodeHd h c P ∧ h.get? P = some Gx.tab0)
    {odL anL : Option Addr} {slL : Array (Option Value)} {ocL kVL dcL pmL ctL : Value} {fL : Addr} {cdL : Value}
    (aL : PySem.W.nsIn K mainGlobals "law" = some (some (.ref fL))) (lL : K.lookup fL = some ⟨ocL, odL, .func (PySem.W.fnOf "law" "law" (defArgs sLaw) (defBody sLaw) (defScope sLaw) .none kVL dcL pmL anL cdL ctL), slL⟩) (ccL : PySem.W.codeIn K cdL "law" = true) (kL : PySem.W.keepIn K (.ref fL) = true)
    {odDg anDg : Option Addr} {slDg : Array (Option Value)} {ocDg kVDg dcDg pmDg ctDg : Value} {fDg : Addr} {cdDg : Value}
    (aDg : PySem.W.nsIn K mainGlobals "_law_digits" = some (some (.ref fDg))) (lDg : K.lookup fDg = some ⟨ocDg, odDg, .func (PySem.W.fnOf "_law_digits" "_law_digits" (defArgs sDigits) (defBody sDigits) (defScope sDigits) .none kVDg dcDg pmDg anDg cdDg ctDg), slDg⟩) (ccDg : PySem.W.codeIn K cdDg "_law_digits" = true) (kDg : PySem.W.keepIn K (.ref fDg) = true)
    {odC anC : Option Addr} {slC : Array (Option Value)} {ocC kVC dcC pmC ctC : Value} {fC : Addr} {cdC : Value}
    (aC : PySem.W.nsIn K mainGlobals "_law_cell" = some (some (.ref fC))) (lC : K.lookup fC = some ⟨ocC, odC, .func (PySem.W.fnOf "_law_cell" "_law_cell" (defArgs sCell) (defBody sCell) (defScope sCell) .none kVC dcC pmC anC cdC ctC), slC⟩) (ccC : PySem.W.codeIn K cdC "_law_cell" = true) (kC : PySem.W.keepIn K (.ref fC) = true)
    {odD anD : Option Addr} {slD : Array (Option Value)} {ocD kVD dcD pmD ctD : Value} {fD : Addr} {cdD : Value}
    (aD : PySem.W.nsIn K mainGlobals "_law_draw" = some (some (.ref fD))) (lD : K.lookup fD = some ⟨ocD, odD, .func (PySem.W.fnOf "_law_draw" "_law_draw" (defArgs sDraw) (defBody sDraw) (defScope sDraw) .none kVD dcD pmD anD cdD ctD), slD⟩) (ccD : PySem.W.codeIn K cdD "_law_draw" = true) (kD : PySem.W.keepIn K (.ref fD) = true)
    {odP anP : Option Addr} {slP : Array (Option Value)} {ocP kVP dcP pmP ctP : Value} {fP : Addr} {cdP : Value}
    (aP : PySem.W.nsIn K mainGlobals "_law_pick" = some (some (.ref fP))) (lP : K.lookup fP = some ⟨ocP, odP, .func (PySem.W.fnOf "_law_pick" "_law_pick" (defArgs sPick) (defBody sPick) (defScope sPick) .none kVP dcP pmP anP cdP ctP), slP⟩) (ccP : PySem.W.codeIn K cdP "_law_pick" = true) (kP : PySem.W.keepIn K (.ref fP) = true)
    {odS anS : Option Addr} {slS : Array (Option Value)} {ocS kVS dcS pmS ctS : Value} {fS : Addr} {cdS : Value}
    (aS : PySem.W.nsIn K mainGlobals "_law_same" = some (some (.ref fS))) (lS : K.lookup fS = some ⟨ocS, odS, .func (PySem.W.fnOf "_law_same" "_law_same" (defArgs sSame) (defBody sSame) (defScope sSame) .none kVS dcS pmS anS cdS ctS), slS⟩) (ccS : PySem.W.codeIn K cdS "_law_same" = true) (kS : PySem.W.keepIn K (.ref fS) = true)
    {odM anM : Option Addr} {slM : Array (Option Value)} {ocM kVM dcM pmM ctM : Value} {fM : Addr} {cdM : Value}
    (aM : PySem.W.nsIn K mainGlobals "_law_marks" = some (some (.ref fM))) (lM : K.lookup fM = some ⟨ocM, odM, .func (PySem.W.fnOf "_law_marks" "_law_marks" (defArgs sMarks) (defBody sMarks) (defScope sMarks) .none kVM dcM pmM anM cdM ctM), slM⟩) (ccM : PySem.W.codeIn K cdM "_law_marks" = true) (kM : PySem.W.keepIn K (.ref fM) = true)
    {odR anR : Option Addr} {slR : Array (Option Value)} {ocR kVR dcR pmR ctR : Value} {fR : Addr} {cdR : Value}
    (aR : PySem.W.nsIn K mainGlobals "_law_reading" = some (some (.ref fR))) (lR : K.lookup fR = some ⟨ocR, odR, .func (PySem.W.fnOf "_law_reading" "_law_reading" (defArgs sReading) (defBody sReading) (defScope sReading) .none kVR dcR pmR anR cdR ctR), slR⟩) (ccR : PySem.W.codeIn K cdR "_law_reading" = true) (kR : PySem.W.keepIn K (.ref fR) = true)
    {odN anN : Option Addr} {slN : Array (Option Value)} {ocN kVN dcN pmN ctN : Value} {fN : Addr} {cdN : Value}
    (aN : PySem.W.nsIn K mainGlobals "_law_net" = some (some (.ref fN))) (lN : K.lookup fN = some ⟨ocN, odN, .func (PySem.W.fnOf "_law_net" "_law_net" (defArgs sNet) (defBody sNet) (defScope sNet) .none kVN dcN pmN anN cdN ctN), slN⟩) (ccN : PySem.W.codeIn K cdN "_law_net" = true) (kN : PySem.W.keepIn K (.ref fN) = true)
    {odMi anMi : Option Addr} {slMi : Array (Option Value)} {ocMi kVMi dcMi pmMi ctMi : Value} {fMi : Addr} {cdMi : Value}
    (aMi : PySem.W.nsIn K mainGlobals "_law_miss" = some (some (.ref fMi))) (lMi : K.lookup fMi = some ⟨ocMi, odMi, .func (PySem.W.fnOf "_law_miss" "_law_miss" (defArgs sMissL) (defBody sMissL) (defScope sMissL) .none kVMi dcMi pmMi anMi cdMi ctMi), slMi⟩) (ccMi : PySem.W.codeIn K cdMi "_law_miss" = true) (kMi : PySem.W.keepIn K (.ref fMi) = true)
    {odCo anCo : Option Addr} {slCo : Array (Option Value)} {ocCo kVCo dcCo pmCo ctCo : Value} {fCo : Addr} {cdCo : Value}
    (aCo : PySem.W.nsIn K mainGlobals "_law_cost" = some (some (.ref fCo))) (lCo : K.lookup fCo = some ⟨ocCo, odCo, .func (PySem.W.fnOf "_law_cost" "_law_cost" (defArgs sCostL) (defBody sCostL) (defScope sCostL) .none kVCo dcCo pmCo anCo cdCo ctCo), slCo⟩) (ccCo : PySem.W.codeIn K cdCo "_law_cost" = true) (kCo : PySem.W.keepIn K (.ref fCo) = true)
    {odRi anRi : Option Addr} {slRi : Array (Option Value)} {ocRi kVRi dcRi pmRi ctRi : Value} {fRi : Addr} {cdRi : Value}
    (aRi : PySem.W.nsIn K mainGlobals "_law_ring" = some (some (.ref fRi))) (lRi : K.lookup fRi = some ⟨ocRi, odRi, .func (PySem.W.fnOf "_law_ring" "_law_ring" (defArgs sRing) (defBody sRing) (defScope sRing) .none kVRi dcRi pmRi anRi cdRi ctRi), slRi⟩) (ccRi : PySem.W.codeIn K cdRi "_law_ring" = true) (kRi : PySem.W.keepIn K (.ref fRi) = true)
    {odmo anmo : Option Addr} {slmo : Array (Option Value)} {ocmo kVmo dcmo pmmo ctmo : Value} {fmo : Addr} {cdmo : Value}
    (amo : PySem.W.nsIn K mainGlobals "miss_of" = some (some (.ref fmo))) (lmo : K.lookup fmo = some ⟨ocmo, odmo, .func (PySem.W.fnOf "miss_of" "miss_of" (defArgs K3.sMissOf) (defBody K3.sMissOf) (defScope K3.sMissOf) .none kVmo dcmo pmmo anmo cdmo ctmo), slmo⟩) (ccmo : PySem.W.codeIn K cdmo "miss_of" = true) (kmo : PySem.W.keepIn K (.ref fmo) = true)
    {odms anms : Option Addr} {slms : Array (Option Value)} {ocms kVms dcms pmms ctms : Value} {fms : Addr} {cms Pms : Addr} {dms : DefRec} {ems : Value} {ddms : Option Addr} {vsms : Array Value} {scms : Array (Option Value)}
    (ams : PySem.W.nsIn K mainGlobals "misses" = some (some (.ref fms))) (lms : K.lookup fms = some ⟨ocms, odms, .func (PySem.W.fnOf "misses" "misses" (defArgs K3.sMisses) (defBody K3.sMisses) (defScope K3.sMisses) .none kVms dcms pmms anms (.ref cms) ctms), slms⟩) (chms : PySem.W.codeIn K (.ref cms) "misses" = true) (kms : PySem.W.keepIn K (.ref fms) = true)
    (fms' : (recsOf q).find? (fun e => e.name == ("misses" : Str)) = some dms) (lcms : K.lookup cms = some ⟨ems, ddms, .fields vsms, scms⟩) (vms : vsms[11]? = some (.ref Pms)) (nms : K.lookup Pms = none)
    {odco anco : Option Addr} {slco : Array (Option Value)} {occo kVco dcco pmco ctco : Value} {fco : Addr} {cco Pco : Addr} {dco : DefRec} {eco : Value} {ddco : Option Addr} {vsco : Array Value} {scco : Array (Option Value)}
    (aco : PySem.W.nsIn K mainGlobals "cost" = some (some (.ref fco))) (lco : K.lookup fco = some ⟨occo, odco, .func (PySem.W.fnOf "cost" "cost" (defArgs K3.sCost) (defBody K3.sCost) (defScope K3.sCost) .none kVco dcco pmco anco (.ref cco) ctco), slco⟩) (chco : PySem.W.codeIn K (.ref cco) "cost" = true) (kco : PySem.W.keepIn K (.ref fco) = true)
    (fco' : (recsOf q).find? (fun e => e.name == ("cost" : Str)) = some dco) (lcco : K.lookup cco = some ⟨eco, ddco, .fields vsco, scco⟩) (vco : vsco[11]? = some (.ref Pco)) (nco : K.lookup Pco = none)
    {odli anli : Option Addr} {slli : Array (Option Value)} {ocli kVli dcli pmli ctli : Value} {fli : Addr} {cli Pli : Addr} {dli : DefRec} {eli : Value} {ddli : Option Addr} {vsli : Array Value} {scli : Array (Option Value)}
    (ali : PySem.W.nsIn K mainGlobals "lies" = some (some (.ref fli))) (lli : K.lookup fli = some ⟨ocli, odli, .func (PySem.W.fnOf "lies" "lies" (defArgs K3.sLies) (defBody K3.sLies) (defScope K3.sLies) .none kVli dcli pmli anli (.ref cli) ctli), slli⟩) (chli : PySem.W.codeIn K (.ref cli) "lies" = true) (kli : PySem.W.keepIn K (.ref fli) = true)
    (fli' : (recsOf q).find? (fun e => e.name == ("lies" : Str)) = some dli) (lcli : K.lookup cli = some ⟨eli, ddli, .fields vsli, scli⟩) (vli : vsli[11]? = some (.ref Pli)) (nli : K.lookup Pli = none)
    {odie anie : Option Addr} {slie : Array (Option Value)} {ocie kVie dcie pmie ctie : Value} {fie : Addr} {cie Pie : Addr} {die : DefRec} {eie : Value} {ddie : Option Addr} {vsie : Array Value} {scie : Array (Option Value)}
    (aie : PySem.W.nsIn K mainGlobals "is_even" = some (some (.ref fie))) (lie : K.lookup fie = some ⟨ocie, odie, .func (PySem.W.fnOf "is_even" "is_even" (defArgs K3.sIsEven) (defBody K3.sIsEven) (defScope K3.sIsEven) .none kVie dcie pmie anie (.ref cie) ctie), slie⟩) (chie : PySem.W.codeIn K (.ref cie) "is_even" = true) (kie : PySem.W.keepIn K (.ref fie) = true)
    (fie' : (recsOf q).find? (fun e => e.name == ("is_even" : Str)) = some die) (lcie : K.lookup cie = some ⟨eie, ddie, .fields vsie, scie⟩) (vie : vsie[11]? = some (.ref Pie)) (nie : K.lookup Pie = none)
    {odwo anwo : Option Addr} {slwo : Array (Option Value)} {ocwo kVwo dcwo pmwo ctwo : Value} {fwo : Addr} {cwo Pwo : Addr} {dwo : DefRec} {ewo : Value} {ddwo : Option Addr} {vswo : Array Value} {scwo : Array (Option Value)}
    (awo : PySem.W.nsIn K mainGlobals "worth" = some (some (.ref fwo))) (lwo : K.lookup fwo = some ⟨ocwo, odwo, .func (PySem.W.fnOf "worth" "worth" (defArgs K3.sWorth) (defBody K3.sWorth) (defScope K3.sWorth) .none kVwo dcwo pmwo anwo (.ref cwo) ctwo), slwo⟩) (chwo : PySem.W.codeIn K (.ref cwo) "worth" = true) (kwo : PySem.W.keepIn K (.ref fwo) = true)
    (fwo' : (recsOf q).find? (fun e => e.name == ("worth" : Str)) = some dwo) (lcwo : K.lookup cwo = some ⟨ewo, ddwo, .fields vswo, scwo⟩) (vwo : vswo[11]? = some (.ref Pwo)) (nwo : K.lookup Pwo = none)
    (z_len : PySem.W.nsIn K mainGlobals "len" = some none)
    (z_int : PySem.W.nsIn K mainGlobals "int" = some none)
    (z_range : PySem.W.nsIn K mainGlobals "range" = some none)
    (z_tuple : PySem.W.nsIn K mainGlobals "tuple" = some none)
    (z_set : PySem.W.nsIn K mainGlobals "set" = some none)
    (z_sum : PySem.W.nsIn K mainGlobals "sum" = some none)
    (z_abs : PySem.W.nsIn K mainGlobals "abs" = some none)
    (z_repr : PySem.W.nsIn K mainGlobals "repr" = some none)
    (z_zip : PySem.W.nsIn K mainGlobals "zip" = some none)
    (z_all : PySem.W.nsIn K mainGlobals "all" = some none)
    (z_enumerate : PySem.W.nsIn K mainGlobals "enumerate" = some none)
    : Gx.LawG l w K 10 63 "script" mg fa h := by
  have e := hmg.symm.trans (PySem.W.mg_of KX G aL)
  cases e
  have FL := fun_mk (st := sLaw) lL ccL kL
  have FDg := fun_mk (st := sDigits) lDg ccDg kDg
  have FC := fun_mk (st := sCell) lC ccC kC
  have FD := fun_mk (st := sDraw) lD ccD kD
  have FP := fun_mk (st := sPick) lP ccP kP
  have FS := fun_mk (st := sSame) lS ccS kS
  have FM := fun_mk (st := sMarks) lM ccM kM
  have FR := fun_mk (st := sReading) lR ccR kR
  have FN := fun_mk (st := sNet) lN ccN kN
  have FMi := fun_mk (st := sMissL) lMi ccMi kMi
  have FCo := fun_mk (st := sCostL) lCo ccCo kCo
  have FRi := fun_mk (st := sRing) lRi ccRi kRi
  have Fmo := fun_mk (st := K3.sMissOf) lmo ccmo kmo
  have Fms := funT_mk (st := K3.sMisses) lms chms kms
  have Tms := HT dms "misses" cms Pms fms' (tabIn_of ams lms lcms vms)
  have Fco := funT_mk (st := K3.sCost) lco chco kco
  have Tco := HT dco "cost" cco Pco fco' (tabIn_of aco lco lcco vco)
  have Fli := funT_mk (st := K3.sLies) lli chli kli
  have Tli := HT dli "lies" cli Pli fli' (tabIn_of ali lli lcli vli)
  have Fie := funT_mk (st := K3.sIsEven) lie chie kie
  have Tie := HT die "is_even" cie Pie fie' (tabIn_of aie lie lcie vie)
  have Fwo := funT_mk (st := K3.sWorth) lwo chwo kwo
  have Two := HT dwo "worth" cwo Pwo fwo' (tabIn_of awo lwo lcwo vwo)
  have bDg := FDg.binds (ps := ["script", "first", "last"]) fun _ _ _ _ _ _ us hl => match us, hl with | [_, _, _], _ => rfl
  have bC := FC.binds (ps := ["script", "k"]) fun _ _ _ _ _ _ us hl => match us, hl with | [_, _], _ => rfl
  have bD := FD.binds (ps := ["box", "many"]) fun _ _ _ _ _ _ us hl => match us, hl with | [_, _], _ => rfl
  have bP := FP.binds (ps := ["box", "things"]) fun _ _ _ _ _ _ us hl => match us, hl with | [_, _], _ => rfl
  have bS := FS.binds (ps := ["actual", "due"]) fun _ _ _ _ _ _ us hl => match us, hl with | [_, _], _ => rfl
  have bM := FM.binds (ps := ["box", "many"]) fun _ _ _ _ _ _ us hl => match us, hl with | [_, _], _ => rfl
  have bR := FR.binds (ps := ["box", "heights", "one", "other"]) fun _ _ _ _ _ _ us hl => match us, hl with | [_, _, _, _], _ => rfl
  have bN := FN.binds (ps := ["box", "most", "more"]) fun _ _ _ _ _ _ us hl => match us, hl with | [_, _, _], _ => rfl
  have bMi := FMi.binds (ps := ["reading", "heights"]) fun _ _ _ _ _ _ us hl => match us, hl with | [_, _], _ => rfl
  have bCo := FCo.binds (ps := ["net", "heights"]) fun _ _ _ _ _ _ us hl => match us, hl with | [_, _], _ => rfl
  have bRi := FRi.binds (ps := ["box", "net"]) fun _ _ _ _ _ _ us hl => match us, hl with | [_, _], _ => rfl
  have bmo := Fmo.binds (ps := ["reading", "heights"]) fun _ _ _ _ _ _ us hl => match us, hl with | [_, _], _ => rfl
  have bms := Fms.toFun.binds (ps := ["net", "heights"]) fun _ _ _ _ _ _ us hl => match us, hl with | [_, _], _ => rfl
  have bco := Fco.toFun.binds (ps := ["net", "heights"]) fun _ _ _ _ _ _ us hl => match us, hl with | [_, _], _ => rfl
  have bli := Fli.toFun.binds (ps := ["net", "heights"]) fun _ _ _ _ _ _ us hl => match us, hl with | [_, _], _ => rfl
  have bie := Fie.toFun.binds (ps := ["net", "flow"]) fun _ _ _ _ _ _ us hl => match us, hl with | [_, _], _ => rfl
  have bwo := Fwo.toFun.binds (ps := ["net", "flow"]) fun _ _ _ _ _ _ us hl => match us, hl with | [_, _], _ => rfl
  have B : Mods mg := ⟨PySem.W.mg_none_of KX G z_len, PySem.W.mg_none_of KX G z_int, PySem.W.mg_none_of KX G z_range, PySem.W.mg_none_of KX G z_tuple, PySem.W.mg_none_of KX G z_set, PySem.W.mg_none_of KX G z_sum, PySem.W.mg_none_of KX G z_abs, PySem.W.mg_none_of KX G z_repr, PySem.W.mg_none_of KX G z_zip, PySem.W.mg_none_of KX G z_all, PySem.W.mg_none_of KX G z_enumerate⟩
  refine ⟨PySem.W.fnOf "law" "law" (defArgs sLaw) (defBody sLaw) (defScope sLaw) .none kVL dcL pmL anL cdL ctL, [(cms, Pms), (cco, Pco), (cli, Pli), (cie, Pie), (cwo, Pwo)], spLaw K [Pms, Pco, Pli, Pie, Pwo], fun p hp => ?_, fun s v => .of_eq rfl, fun H a ns _ _ hH hS => ⟨a, ns, rfl, hS, fun T hT => ?_, fun _ => rfl⟩, fun base _ _ hB => ?_⟩
  · simp only [List.mem_cons, List.not_mem_nil, or_false] at hp
    rcases hp with rfl | rfl | rfl | rfl | rfl
    · exact ⟨Tms.2, nms, Tms.1⟩
    · exact ⟨Tco.2, nco, Tco.1⟩
    · exact ⟨Tli.2, nli, Tli.1⟩
    · exact ⟨Tie.2, nie, Tie.1⟩
    · exact ⟨Two.2, nwo, Two.1⟩
  · simp only [List.mem_cons, List.not_mem_nil, or_false] at hT
    rcases hT with eT | eT | eT | eT | eT
    · rw [eT]; exact hH (cms, Pms) (by simp)
    · rw [eT]; exact hH (cco, Pco) (by simp)
    · rw [eT]; exact hH (cli, Pli) (by simp)
    · rw [eT]; exact hH (cie, Pie) (by simp)
    · rw [eT]; exact hH (cwo, Pwo) (by simp)
  · exact ok_law B FL ⟨FDg, bDg, PySem.W.mg_of KX G aDg⟩ ⟨FC, bC, PySem.W.mg_of KX G aC⟩ ⟨FD, bD, PySem.W.mg_of KX G aD⟩ ⟨FP, bP, PySem.W.mg_of KX G aP⟩ ⟨FS, bS, PySem.W.mg_of KX G aS⟩ ⟨FM, bM, PySem.W.mg_of KX G aM⟩ ⟨FR, bR, PySem.W.mg_of KX G aR⟩ ⟨FN, bN, PySem.W.mg_of KX G aN⟩ ⟨FMi, bMi, PySem.W.mg_of KX G aMi⟩ ⟨FCo, bCo, PySem.W.mg_of KX G aCo⟩ ⟨FRi, bRi, PySem.W.mg_of KX G aRi⟩ ⟨Fmo, bmo, PySem.W.mg_of KX G amo⟩ ⟨Fms, bms, PySem.W.mg_of KX G ams⟩ ⟨Fco, bco, PySem.W.mg_of KX G aco⟩ ⟨Fli, bli, PySem.W.mg_of KX G ali⟩ ⟨Fie, bie, PySem.W.mg_of KX G aie⟩ ⟨Fwo, bwo, PySem.W.mg_of KX G awo⟩ (hB (cms, Pms) (by simp)) (hB (cco, Pco) (by simp)) (hB (cli, Pli) (by simp)) (hB (cie, Pie) (by simp)) (hB (cwo, Pwo) (by simp))
end Lw
open PySem PySem.W PyProof.Rows
set_option maxHeartbeats 0 in
theorem PySem.Challenge.cw_truelevels_k03_flows_are_below_holds : PySem.Challenge.rw_truelevels_k03_flows_are_below.Holds := by
  w_on; o_law; k_head; (case hw => w_witness2)
  k_fill
  refine Gx.walkG (l := PySem.Challenge.rw_truelevels_k03_flows_are_below) (n := 63) (k := 10) (x := "script") rfl (by decide) rfl ⟨rfl, by decide, by decide⟩ (fun w h Y => PySem.W.kIn_of Y) ?F
  case F =>
    intro w mg fa h KX G hmg HT
    refine' Lw.lawK KX G hmg HT ?aL ?lL ?ccL ?kL ?aDg ?lDg ?ccDg ?kDg ?aC ?lC ?ccC ?kC ?aD ?lD ?ccD ?kD ?aP ?lP ?ccP ?kP ?aS ?lS ?ccS ?kS ?aM ?lM ?ccM ?kM ?aR ?lR ?ccR ?kR ?aN ?lN ?ccN ?kN ?aMi ?lMi ?ccMi ?kMi ?aCo ?lCo ?ccCo ?kCo ?aRi ?lRi ?ccRi ?kRi ?amo ?lmo ?ccmo ?kmo ?ams ?lms ?chms ?kms ?fms_ ?lcms ?vms ?nms ?aco ?lco ?chco ?kco ?fco_ ?lcco ?vco ?nco ?ali ?lli ?chli ?kli ?fli_ ?lcli ?vli ?nli ?aie ?lie ?chie ?kie ?fie_ ?lcie ?vie ?nie ?awo ?lwo ?chwo ?kwo ?fwo_ ?lcwo ?vwo ?nwo ?z_len ?z_int ?z_range ?z_tuple ?z_set ?z_sum ?z_abs ?z_repr ?z_zip ?z_all ?z_enumerate
    (case aL => k_is)
    (case lL => k_is)
    (case ccL => k_is)
    (case kL => k_is)
    (case aDg => k_is)
    (case lDg => k_is)
    (case ccDg => k_is)
    (case kDg => k_is)
    (case aC => k_is)
    (case lC => k_is)
    (case ccC => k_is)
    (case kC => k_is)
    (case aD => k_is)
    (case lD => k_is)
    (case ccD => k_is)
    (case kD => k_is)
    (case aP => k_is)
    (case lP => k_is)
    (case ccP => k_is)
    (case kP => k_is)
    (case aS => k_is)
    (case lS => k_is)
    (case ccS => k_is)
    (case kS => k_is)
    (case aM => k_is)
    (case lM => k_is)
    (case ccM => k_is)
    (case kM => k_is)
    (case aR => k_is)
    (case lR => k_is)
    (case ccR => k_is)
    (case kR => k_is)
    (case aN => k_is)
    (case lN => k_is)
    (case ccN => k_is)
    (case kN => k_is)
    (case aMi => k_is)
    (case lMi => k_is)
    (case ccMi => k_is)
    (case kMi => k_is)
    (case aCo => k_is)
    (case lCo => k_is)
    (case ccCo => k_is)
    (case kCo => k_is)
    (case aRi => k_is)
    (case lRi => k_is)
    (case ccRi => k_is)
    (case kRi => k_is)
    (case amo => k_is)
    (case lmo => k_is)
    (case ccmo => k_is)
    (case kmo => k_is)
    (case ams => k_is)
    (case lms => k_is)
    (case chms => k_is)
    (case kms => k_is)
    (case fms_ => rfl)
    (case lcms => k_is)
    (case vms => rfl)
    (case nms => rfl)
    (case aco => k_is)
    (case lco => k_is)
    (case chco => k_is)
    (case kco => k_is)
    (case fco_ => rfl)
    (case lcco => k_is)
    (case vco => rfl)
    (case nco => rfl)
    (case ali => k_is)
    (case lli => k_is)
    (case chli => k_is)
    (case kli => k_is)
    (case fli_ => rfl)
    (case lcli => k_is)
    (case vli => rfl)
    (case nli => rfl)
    (case aie => k_is)
    (case lie => k_is)
    (case chie => k_is)
    (case kie => k_is)
    (case fie_ => rfl)
    (case lcie => k_is)
    (case vie => rfl)
    (case nie => rfl)
    (case awo => k_is)
    (case lwo => k_is)
    (case chwo => k_is)
    (case kwo => k_is)
    (case fwo_ => rfl)
    (case lcwo => k_is)
    (case vwo => rfl)
    (case nwo => rfl)
    (case z_len => k_is)
    (case z_int => k_is)
    (case z_range => k_is)
    (case z_tuple => k_is)
    (case z_set => k_is)
    (case z_sum => k_is)
    (case z_abs => k_is)
    (case z_repr => k_is)
    (case z_zip => k_is)
    (case z_all => k_is)
    (case z_enumerate => k_is)

