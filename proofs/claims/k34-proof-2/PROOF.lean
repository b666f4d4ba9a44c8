import PyProof.Rows.All
import Wide.All
import OpenK.AllK
import Wide.FinOn
import HandS.GenList
import HandS.Comp
import HandS.AnyAll
import PyProof.CodeObjX
import PyProof.TupleOfGen
import HandS.ForMost
import HandS.EndBits
import KE.GoesMore
import KE.GoesEnum
import HandS.Zip
import HandS.IsInst
import HandS.SetFor
import HandS.Strs
import HandS.StrMore
import HandS.FStr
import HandS.Star
import HandS.Text
import HandS.TupAny
import HandS.Style
import PySem.Challenge.RW_truelevels_k34_profile_is_drawn
set_option Elab.async false
set_option linter.all false
set_option maxRecDepth 100000
set_option maxHeartbeats 4000000
/-! Generator expressions over the hand layer: the frame's context, its turns, its making. -/
namespace Gx
open PySem PySem.Spec PyProof.Rows L2 GenW

theorem over_gx {A : Around} {elt tg iter : Expr} {ifs : List Expr} {scope : Scope} {pos : Pos} {it acc : Value} {cenv : Env} : A.over (.compLoop (.GeneratorExp elt [⟨tg, iter, ifs, 0⟩] scope pos) 0 it acc cenv) [] = A.deeper cenv := by
  obtain ⟨hd, d, fr, gs, u⟩ := A; simp [Around.over, Around.deeper, marksOver, frameCount, unitsOf, envsOf, guardsOf, pushEnvs, pushGuards, Code.envs, Code.env?, Code.isFrame, Code.guards, Code.isGuard, Code.weight, Code.frames, Code.isCreation, Code.isCaller, Code.cUnits]
theorem over_gxs {A : Around} {elt tg iter : Expr} {ifs : List Expr} {scope : Scope} {pos : Pos} {it acc : Value} {cenv : Env} : A.over (.compStart (.GeneratorExp elt [⟨tg, iter, ifs, 0⟩] scope pos) 0 it acc cenv) [] = A.deeper cenv := by
  obtain ⟨hd, d, fr, gs, u⟩ := A; simp [Around.over, Around.deeper, marksOver, frameCount, unitsOf, envsOf, guardsOf, pushEnvs, pushGuards, Code.envs, Code.env?, Code.isFrame, Code.guards, Code.isGuard, Code.weight, Code.frames, Code.isCreation, Code.isCaller, Code.cUnits]

/-- the context of the frame: s the state ahead of it, fp its iterator's objects, pn the generator's own object -/
abbrev cx (X : Cx) (A : Around) (s : Shared) (H : Hp) (cenv : Env) (fp : List Addr) (pn : List (Addr × Obj)) : Cx :=
  { X with A := A.deeper cenv, s_0 := s, H_0 := H, env := cenv, outer := X.stack, stack := cenv :: X.stack, ex := fp, fn := fun _ => false, pn := pn, xe := fun _ _ => False }

section
variable {X : Cx} {pins : List (Addr × Obj)} {σ : L2.St} {H : Hp} {s : Shared}
theorem gstart {scope : Scope} {own : List (Str × Nat)} {fp : List Addr} {A : Around} {code : Value} {h5 : Heap} {g5 : Array GenState} {d5 : Drawn} {t5 : Nat} {m : Str → Option Value}
    (I : Inv X pins σ H s) (ok : BlkOk X.N X.env.scope scope own) (hN : X.N.Nodup) (hcell : ∀ y ∈ scope.names, y.2 ≠ .cell) (hfp : ∀ b ∈ fp, FpOk X pins H b ∧ b < s.heap.objs.size)
    (hA : A.handled = none) (hfr : A.frames = some X.stack) (hn : h5.Ns s.heap.objs.size m) (hk : ∀ b o, s.heap.get? b = some o → h5.get? b = some o) (hb : AllBare g5) :
    Inv (cx X A s H (genEnv scope (cloFrom X.env.cells scope.names []) s.heap.objs.size code builtinsNs X.env) fp []) [] (wipe σ (own.map (·.2))) H { s with heap := h5, gens := g5, drawn := d5, toks := t5 } := by
  have hfree : ∀ y ∈ scope.names, y.2 = .free → ∃ c, X.env.cells.lookup y.1 = some c := fun y hy e => by
    rcases ok.free y hy e with k | k
    · exact I.ok.has _ (.inl k)
    · exact I.ok.has _ (.inr k)
  have cm : ∀ {y c}, (y, c) ∈ cloFrom X.env.cells scope.names [] → X.env.cells.lookup y = some c ∧ c < s.heap.objs.size := fun {y c} hm => by
    rcases cloFrom_mem hm with hm | ⟨h1, rfl⟩
    · cases hm
    · obtain ⟨c, hc⟩ := hfree _ h1 rfl
      rw [hc]
      obtain ⟨w, z⟩ := I.cell _ _ hc
      exact ⟨rfl, z.lt⟩
  have look : ∀ {y}, scope.names.lookup y = some .free → ∃ c, (cloFrom X.env.cells scope.names []).lookup y = some c ∧ X.env.cells.lookup y = some c := fun {y} hl => by
    have hy : (y, NameKind.free) ∈ scope.names := PySem.mem_of_lookup hl
    obtain ⟨c', e'⟩ := mem_lookup (cloFrom_has (cells := X.env.cells) (acc := []) hy)
    exact ⟨c', e', (cm (PySem.mem_of_lookup e')).1⟩
  generalize hcenv : genEnv scope (cloFrom X.env.cells scope.names []) s.heap.objs.size code builtinsNs X.env = cenv
  have hL : cenv.locals = s.heap.objs.size := by rw [← hcenv]; rfl
  have hcl : cenv.cells = cloFrom X.env.cells scope.names [] := by rw [← hcenv]; rfl
  have hsc : cenv.scope = scope := by rw [← hcenv]; rfl
  have mem : ∀ {y c}, cenv.cells.lookup y = some c → X.env.cells.lookup y = some c ∧ c < s.heap.objs.size := fun {y c} e => by
    rw [hcl] at e
    exact cm (PySem.mem_of_lookup e)
  have nocell : ∀ {y}, scope.names.lookup y ≠ some .cell := fun {y} e => hcell _ (PySem.mem_of_lookup e) rfl
  have okB : (cx X A s H cenv fp []).Ok := by
    refine ⟨I.ok.mod, by show cenv.scope.kind = _; rw [hsc]; exact ok.kind, by show cenv.globals = _; rw [← hcenv]; exact I.ok.glob, by show cenv.builtins = _; rw [← hcenv]; rfl, by show s.heap.objs.size ≤ cenv.locals; rw [hL]; exact Nat.le_refl _,
      fun y z c e1 e2 => I.ok.inj y z c (mem e1).1 (mem e2).1, fun y hy => ?_, fun y c z e => Bool.noConfusion z, fun _ => hA, Around.frames_deeper hfr, .inr ⟨rfl, by show cenv.frame = some cenv.locals; rw [← hcenv]; rfl⟩, fun b hb => ⟨?_, fun y c e z => ?_⟩, I.bs, Nat.le_trans I.ok.bsz I.sz, fun b o e hb => ?_, fun b hb z => ?_, I.stack, I.stkFree⟩
    · show ∃ c, cenv.cells.lookup y = some c
      have hy : cenv.scope.names.lookup y = some .cell ∨ cenv.scope.names.lookup y = some .free := hy
      rw [hsc] at hy
      rcases hy with hy | hy
      · exact absurd hy nocell
      · obtain ⟨c, h1, _⟩ := look hy
        exact ⟨c, by rw [hcl]; exact h1⟩
    · show b ≠ cenv.locals
      rw [hL]; exact Nat.ne_of_lt (hfp b hb).2
    · exact (hfp b hb).1.2.2.2.2.1 y c (mem e).1 z
    · rcases (hfp b hb).1.2.2.2.1 with z | z
      · exact I.ok.noex b o e z
      · exact absurd (Nat.lt_of_lt_of_le (Heap.lt_size e) (Nat.le_trans I.ok.bsz z)) (Nat.lt_irrefl _)
    · rcases List.mem_cons.mp (I.stkSub b z) with z | z
      · exact (hfp b hb).1.2.1 z
      · exact (hfp b hb).1.2.2.1 z
  refine ⟨okB, rfl, hb, Un.kept hk, ⟨m, ?_, fun i y av e1 e2 e3 => ?_⟩, fun y c e => ?_, ?_, fun y c e => ?_, fun p hp => ?_, I.hok.kept hk, by rw [wipe_length]; exact I.len⟩
  · show Heap.Ns _ cenv.locals _
    rw [hL]
    exact hn
  · obtain ⟨e2, hne⟩ := wipe_some e2
    have e3 : Vis cenv.scope y := e3
    rw [hsc] at e3
    have no : ¬ (scope.names.lookup y = some .local ∨ scope.names.lookup y = some .cell) := fun hh => by
      obtain ⟨k, hk', hkk⟩ : ∃ k, (y, k) ∈ scope.names ∧ (k = NameKind.local ∨ k = NameKind.cell) := by
        rcases hh with hh | hh
        · exact ⟨_, PySem.mem_of_lookup hh, .inl rfl⟩
        · exact ⟨_, PySem.mem_of_lookup hh, .inr rfl⟩
      rcases ok.own (y, k) hk' hkk with e' | e'
      · obtain ⟨p, hp, hpy⟩ := List.mem_map.mp e'
        have e3 := ok.ix p hp
        have : p.1 = y := hpy
        rw [this] at e3
        exact hne (List.mem_map.mpr ⟨p, hp, nodup_ix hN e3 e1⟩)
      · exact e' (List.mem_of_getElem? e1)
    have hfr : scope.names.lookup y = some .free := by
      rcases e3 with e3 | e3 | e3
      · exact absurd (.inl e3) no
      · exact absurd (.inr e3) no
      · exact e3
    obtain ⟨m', hn', hl⟩ := I.loc
    have hvis : Vis X.env.scope y := (ok.free _ (PySem.mem_of_lookup hfr) rfl).elim (fun k => .inr (.inl k)) (fun k => .inr (.inr k))
    obtain ⟨w, r, q⟩ := hl i y av e1 e2 hvis
    refine ⟨w, r, .inr ⟨.inr (by show cenv.scope.names.lookup y = _; rw [hsc]; exact hfr), ?_⟩⟩
    obtain ⟨c, h1, h2⟩ := look hfr
    rcases q with ⟨k, _⟩ | ⟨_, c', e', z⟩
    · have k : X.env.scope.names.lookup y = some .local := k
      rcases ok.free _ (PySem.mem_of_lookup hfr) rfl with k' | k' <;> rw [show X.env.scope.names.lookup y = _ from k'] at k <;> cases k
    · rw [h2] at e'; cases e'
      exact ⟨c, by show cenv.cells.lookup y = _; rw [hcl]; exact h1, z.keeps hk⟩
  · have e : cenv.cells.lookup y = some c := e
    obtain ⟨w, z⟩ := I.cell y c (mem e).1
    exact ⟨w, z.keeps hk⟩
  · show H cenv.locals = none
    rw [hL]; exact I.hok.fresh (Nat.le_refl _)
  · have e : cenv.cells.lookup y = some c := e
    exact I.freeC y c (mem e).1
  · exact absurd (show p ∈ ([] : List (Addr × Obj)) ++ [] from hp) (by simp)
end

/-! ### the consumer's memory, the protocol -/
/-- CO: the addresses at which the consumer keeps its own; Rl: what is out, and how it stands there -/
abbrev Rel := List V → Shared → Prop
structure Stable (CO : List Addr) (Rl : Rel) : Prop where
  keep : ∀ ys s s', (∀ b ∈ CO, s'.heap.get? b = s.heap.get? b) → Rl ys s → Rl ys s'
/-- while the generator sleeps -/
structure Slept (CO : List Addr) (Rl : Rel) (ys : List V) (s s' : Shared) : Prop where
  os : s'.os = s.os
  bare : AllBare s'.gens
  keep : ∀ b o, b ∉ CO → s.heap.get? b = some o → s'.heap.get? b = some o
  own : ∀ b ∈ CO, ∃ o, s'.heap.get? b = some o ∧ ∀ v, o.data ≠ .cell v
  rel : Rl ys s'
/-- running -/
def GI (X' : Cx) (CO : List Addr) (σ : L2.St) (H : Hp) (s : Shared) : Prop := ∃ pins, pins.map (·.1) = CO ∧ Inv X' pins σ H s
structure Young (X' : Cx) (CO : List Addr) : Prop where
  sz : ∀ b ∈ CO, X'.s_0.heap.objs.size ≤ b
  loc : ∀ b ∈ CO, b ≠ X'.env.locals
  cell : ∀ b ∈ CO, ∀ x c, X'.env.cells.lookup x = some c → c ≠ b
  pn : ∀ b ∈ CO, ∀ p ∈ X'.pn, p.1 ≠ b
  ex : ∀ b ∈ CO, b ∉ X'.ex
theorem GI.free {X' : Cx} {CO : List Addr} {σ : L2.St} {H : Hp} {s : Shared} (h : GI X' CO σ H s) : ∀ b ∈ CO, H b = none ∧ ∃ o, s.heap.get? b = some o ∧ (∀ v, o.data ≠ .cell v) ∧ b ∉ X'.fs := fun b hb => by
  obtain ⟨pins, e, I⟩ := h
  rw [← e] at hb
  obtain ⟨p, hp, rfl⟩ := List.mem_map.mp hb
  obtain ⟨h1, h2, h3, h4, h5⟩ := I.pin p (List.mem_append_right _ hp)
  exact ⟨h2, p.2, h1, h5, h4⟩
/-- the pins at CO, as they stand -/
theorem pins_at {CO : List Addr} {s : Shared} (h : ∀ b ∈ CO, ∃ o, s.heap.get? b = some o ∧ ∀ v : Option Value, o.data ≠ .cell v) : ∃ pins : List (Addr × Obj), pins.map (·.1) = CO ∧ ∀ p ∈ pins, s.heap.get? p.1 = some p.2 ∧ ∀ v : Option Value, p.2.data ≠ .cell v := by
  induction CO with
  | nil => exact ⟨[], rfl, fun p hp => by cases hp⟩
  | cons b r ih =>
    obtain ⟨pins, e, hp⟩ := ih fun c hc => h c (List.mem_cons_of_mem _ hc)
    obtain ⟨o, h1, h2⟩ := h b List.mem_cons_self
    refine ⟨(b, o) :: pins, by rw [List.map_cons, e], fun p hp' => ?_⟩
    rcases List.mem_cons.mp hp' with rfl | hp'
    · exact ⟨h1, h2⟩
    · exact hp p hp'
theorem GI.make {X' : Cx} {CO : List Addr} {σ : L2.St} {H : Hp} {s : Shared} (I : Inv X' [] σ H s) (y : Young X' CO) (hf : ∀ b ∈ CO, H b = none ∧ b ∉ X'.fs) (h : ∀ b ∈ CO, ∃ o, s.heap.get? b = some o ∧ ∀ v : Option Value, o.data ≠ .cell v) : GI X' CO σ H s := by
  obtain ⟨pins, e, hp⟩ := pins_at h
  refine ⟨pins, e, I.pins_of fun p hp' => ?_⟩
  have hm : p.1 ∈ CO := by rw [← e]; exact List.mem_map.mpr ⟨p, hp', rfl⟩
  exact ⟨(hp p hp').1, (hf _ hm).1, y.loc _ hm, (hf _ hm).2, (hp p hp').2⟩
theorem GI.woken {X' : Cx} {CO : List Addr} {Rl : Rel} {ys : List V} {σ : L2.St} {H : Hp} {s s' : Shared} (y : Young X' CO) (h : GI X' CO σ H s) (z : Slept CO Rl ys s s') : GI X' CO σ H s' := by
  have hf := h.free
  obtain ⟨pins, e, I⟩ := h
  have I0 : Inv X' [] σ H s := I.pins_of fun p hp => by cases hp
  have nt : ∀ b u, H b = some u → b ∉ CO := fun b u q hb => by rw [(hf b hb).1] at q; cases q
  obtain ⟨z1, z2, z3, z4, _⟩ := z
  obtain ⟨hh, g, d, t, o⟩ := s'
  have ho : o = s.os := z1
  subst ho
  have J : Inv X' [] σ H { s with heap := hh, gens := g, drawn := d, toks := t } := by
    refine I0.step (g' := g) (t' := t) (d' := d) (ch := CO) (fun b hb => ⟨.inr (y.sz b hb), y.loc b hb, y.cell b hb, fun p hp => ?_⟩)
      (fun b ob _ _ hc q _ => z3 b ob hc q) (fun b ob _ _ hc q _ => ⟨ob.slots, z3 b ob hc q⟩) (fun _ _ _ _ n => n) (fun b ob hc q => ⟨ob, z3 b ob hc q⟩)
      (fun _ _ q => q) (fun _ _ _ q => q) (fun b ps q => ⟨#[], by rw [q]; simp⟩) (fun m hm => ?_) (fun b u q => ?_) z2
    · rcases List.mem_append.mp hp with hp | hp
      · exact y.pn b hb p hp
      · cases hp
    · obtain ⟨ob, es, ep, ho, r⟩ := hm
      exact ⟨ob, es, ep, z3 _ ob (fun hc => y.loc _ hc rfl) ho, r⟩
    · refine (I0.hok b u q).stay (fun c v hc y' => z3 c v ?_ y') (fun _ y => y) fun _ _ y => y
      rcases hc with y' | y'
      · rw [y']; exact nt b u q
      · exact nt c _ y'
  exact GI.make J y (fun b hb => ⟨(hf b hb).1, let ⟨_, _, _, h⟩ := hf b hb; h.2⟩) z4

/-- the state behind what ran so far, by the caller's data -/
structure Aw (X : Cx) (sc : Shared) (fp : List Addr) (H1 : Hp) (a : Addr) (g : Nat) (CO : List Addr) (H' : Hp) (s : Shared) : Prop where
  os : s.os = sc.os
  bare : AllBare s.gens
  un : Un (frs X.stack) fp H1 H' sc.heap s.heap
  hok : HOk X.prog X.w H' s.heap
  lim : s.heap.NoLimit
  gen : s.heap.IsGen a g
  free : ∀ b ∈ CO, H' b = none
  own : ∀ b ∈ CO, ∃ o, s.heap.get? b = some o ∧ ∀ v, o.data ≠ .cell v
/-- what a consumer asks: of an item that is out, behind which it goes on if go; at the end -/
structure GK where
  mid : List V → V → Hp → Prop
  go : V → Prop
  done : List V → Hp → Prop
def GFin (X : Cx) (sc : Shared) (fp : List Addr) (H1 : Hp) (a : Addr) (g : Nat) (CO : List Addr) (Rl : Rel) (N : Nat) (K : GK) (n : Nat) (s₀ s1 : Shared) : Prop :=
  (∀ b ∈ CO, s1.heap.get? b = s₀.heap.get? b) ∧ ∃ ys H', n + ys.length = N ∧ Aw X sc fp H1 a g CO H' s1 ∧ Rl ys s1 ∧ K.done ys H'
def GEnd (X : Cx) (sc : Shared) (fp : List Addr) (H1 : Hp) (a : Addr) (g : Nat) (CO : List Addr) (Rl : Rel) (N : Nat) (K : GK) : GenEnd := fun n s₀ r s1 =>
  ((r = .ok (.ret .none) ∨ r = .ok .next) ∧ GFin X sc fp H1 a g CO Rl N K n s₀ s1) ∨ ∃ e, r = .error e ∧ False
def GItem (X : Cx) (sc : Shared) (fp : List Addr) (H1 : Hp) (a : Addr) (g : Nat) (CO : List Addr) (Rl : Rel) (N : Nat) (K : GK) : Protocol := fun n s₀ v s1 kap =>
  (∀ b ∈ CO, s1.heap.get? b = s₀.heap.get? b) ∧ ∃ ys x H', n + 1 + ys.length = N ∧ RelV x v ∧ Aw X sc fp H1 a g CO H' s1 ∧ Rl ys s1 ∧ K.mid ys x H' ∧ (K.go x → ∀ s', Slept CO Rl (ys ++ [x]) s1 s' → kap (.send .none) s')
end Gx
set_option Elab.async false
set_option linter.all false
set_option maxRecDepth 100000
set_option maxHeartbeats 4000000
namespace Gx
open PySem PySem.Spec PyProof.Rows L2 GenW

/-- a turn's reading -/
def Turns (J : It) (g : TG) (tt : TT) (te : TE) (vs : List Nat) (σ : L2.St) (K : GK) (W : Nat → Nat → List V → Hp → Prop) : Prop :=
  ∀ i m ys H, W i m ys H → (J.stop i H ∧ K.done ys H) ∨ (J.go i H ∧ 0 < m ∧ ∃ Nx : List V → Hp → Prop, (∀ ys' H', Nx ys' H' → ∃ m', m' < m ∧ W (i + 1) m' ys' H') ∧
    ∀ x H', J.yld i H x H' → g x (wipe σ vs) H' fun σ2 H2 => wipe σ2 vs = wipe σ vs ∧ tt σ2 H2 fun b H3 =>
      if b = true then te σ2 H3 fun y H4 => K.mid ys y H4 ∧ (K.go y → Nx (ys ++ [y]) H4) else Nx ys H3)

section
variable {X' : Cx} {A : Around} {elt tg iter : Expr} {ifs : List Expr} {scope : Scope} {pos : Pos} {it : Addr} {fp : List Addr} {tn : Nat → Heap → Prop} {J : It} {g : TG} {tt : TT} {te : TE} {vs : List Nat} {σ : L2.St} {CO : List Addr} {Rl : Rel} {N : Nat} {K : GK}
  {W : Nat → Nat → List V → Hp → Prop} {R : GenEnd} {Y : Protocol}

theorem loop (hA : X'.A = A.deeper X'.env) (hxe : X'.xe = fun _ _ => False) (hc : X'.calm = true) (hex : X'.ex = fp) (hco : X'.env.scope.isCoroutine = false) (y : Young X' CO) (hpn : ∀ b ∈ fp, ∀ p ∈ X'.pn, p.1 ≠ b)
    (T : Turn X'.prog X'.w X'.K tg J fp it tn) (pg : PG X' tg g) (pt : PTs X' ifs tt) (pe : PE X' elt te) (hst : Stable CO Rl) (turn : Turns J g tt te vs σ K W)
    (hR : ∀ n s₀ s ys H, (∀ b ∈ CO, s.heap.get? b = s₀.heap.get? b) → n + ys.length = N → GI X' CO (wipe σ vs) H s → Rl ys s → K.done ys H → R n s₀ (.ok .next) s)
    (hY : ∀ n s₀ v s kap ys x σ' H, (∀ b ∈ CO, s.heap.get? b = s₀.heap.get? b) → n + 1 + ys.length = N → RelV x v → GI X' CO σ' H s → Rl ys s → K.mid ys x H → (K.go x → ∀ s', Slept CO Rl (ys ++ [x]) s s' → kap (.send .none) s') → Y n s₀ v s kap) :
    ∀ (m n i : Nat) (ys : List V) (s₀ s : Shared) (H : Hp), (∀ b ∈ CO, s.heap.get? b = s₀.heap.get? b) → n + ys.length = N → m ≤ n → GI X' CO (wipe σ vs) H s → Rl ys s → tn i s.heap → (∀ b ∈ fp, H b = none) → W i m ys H →
      Seg (model X'.prog X'.w) A R Y n s₀ (.compLoop (.GeneratorExp elt [⟨tg, iter, ifs, 0⟩] scope pos) 0 (.ref it) .none X'.env) ((model X'.prog X'.w).den (.compLoop (.GeneratorExp elt [⟨tg, iter, ifs, 0⟩] scope pos) 0 (.ref it) .none X'.env)) [] s := by
  have hov : A.over (.compLoop (.GeneratorExp elt [⟨tg, iter, ifs, 0⟩] scope pos) 0 (.ref it) .none X'.env) [] = X'.A := over_gx.trans hA.symm
  have nox : ∀ {e : Value} {s : Shared}, X'.xe e s → False := fun {e s} h => by rw [hxe] at h; exact h
  intro m
  induction m using Nat.strongRecOn with
  | ind m ih =>
    intro n i ys s₀ s H h00 hn hmn hI hRl htn hfp w
    obtain ⟨pins, ep, I⟩ := hI
    have pinCO : ∀ b ∈ CO, ∃ o, (b, o) ∈ pins := fun b hb => by
      rw [← ep] at hb
      obtain ⟨p, hp, rfl⟩ := List.mem_map.mp hb
      exact ⟨p.2, hp⟩
    have fpok : ∀ {σ' : L2.St} {H' : Hp} {s' : Shared}, Inv X' pins σ' H' s' → (∀ b ∈ fp, H' b = none) → ∀ b ∈ fp, FpOk X' pins H' b := fun {σ' H' s'} I' hn b hb => by
      have hb' : b ∈ X'.ex := by rw [hex]; exact hb
      refine ⟨hn b hb, (I'.ok.exf b hb').1, I'.ok.exfs b hb', .inl hb', fun x c e => (I'.ok.exf b hb').2 x c e, fun p hp => ?_⟩
      rcases List.mem_append.mp hp with hp | hp
      · exact hpn b hb p hp
      · have hm : p.1 ∈ CO := by rw [← ep]; exact List.mem_map.mpr ⟨p, hp, rfl⟩
        exact fun z => y.ex _ hm (by rw [hex, z]; exact hb)
    have keepCO : ∀ {σ' : L2.St} {H' : Hp} {s' : Shared} {more : List (Addr × Obj)}, Inv X' (pins ++ more) σ' H' s' → ∀ b ∈ CO, s'.heap.get? b = s.heap.get? b := fun {σ' H' s' more} I' b hb => by
      obtain ⟨o, ho⟩ := pinCO b hb
      exact (I'.pin (b, o) (List.mem_append_right _ (List.mem_append_left _ ho))).1.trans (I.pin (b, o) (List.mem_append_right _ ho)).1.symm
    have back : ∀ {σ' : L2.St} {H' : Hp} {s' : Shared} {more : List (Addr × Obj)}, Inv X' (pins ++ more) σ' H' s' → GI X' CO σ' H' s' := fun {σ' H' s' more} I' => ⟨pins, ep, I'.unpinned⟩
    show Seg _ A _ _ _ s₀ _ ((compTurn (.GeneratorExp elt [⟨tg, iter, ifs, 0⟩] scope pos) 0 (.ref it) .none X'.env).onRaise (leaving X'.env)) [] s
    rw [compTurn_gen, Sem.onRaise_eq_wrap]
    refine seg_bind_wrap (wpAny_standAt ?_)
    rcases turn i m ys H w with ⟨stop, dn⟩ | ⟨go, hm0, Nx, hNx, step⟩
    · refine seg_bind_wrap ?_
      rw [hov]
      refine wpAny_mono (T.done X' rfl rfl rfl hc i pins s _ H _ I (fpok I hfp) htn stop) (fun r s1 ⟨hr, I1⟩ => ?_) fun _ _ h => h
      subst hr
      exact seg_end (.ok .next) (hR n s₀ s1 ys H (fun b hb => (keepCO (more := []) (by rw [List.append_nil]; exact I1) b hb).trans (h00 b hb)) hn ⟨pins, ep, I1⟩ (hst.keep ys s s1 (fun b hb => keepCO (more := []) (by rw [List.append_nil]; exact I1) b hb) hRl) dn)
    · refine seg_bind_wrap ?_
      rw [hov]
      refine wpAny_mono (T.item X' rfl rfl rfl hc i pins s _ H _ I (fpok I hfp) htn go) (fun r s1 ⟨u, hr, h1⟩ => ?_) fun _ _ h => h
      subst hr
      dsimp only
      refine seg_bind_wrap ?_
      rw [hov]
      refine wpAny_mono h1 (fun _ s2 ⟨x, H2, I2, r2, y2, tn2, fp2⟩ => ?_) fun _ _ h => h
      have I2' := I2.pinned (fpok I2 fp2) (T.obj _ _ tn2)
      refine seg_bind_wrap ?_
      rw [hov]
      refine wpAny_mono (pg.run _ s2 _ H2 x u _ I2' r2 (step x H2 y2)) (fun _ s3 ⟨σ3, H3, I3, hw3, q3⟩ => ?_) fun _ _ h => (nox h).elim
      refine seg_bind_wrap ?_
      rw [hov]
      refine wpAny_mono (pt.run _ s3 σ3 H3 _ I3 q3) (fun b s4 ⟨H4, I4, q4⟩ => ?_) fun _ _ h => (nox h).elim
      have hl : (wipe σ vs).length = σ3.length := by rw [← hw3, wipe_length]
      have weak : ∀ {H' : Hp} {s' : Shared}, GI X' CO σ3 H' s' → GI X' CO (wipe σ vs) H' s' := fun {H' s'} hG => by
        obtain ⟨pins', e', I'⟩ := hG
        refine ⟨pins', e', I'.weak hl fun j v e => ?_⟩
        rw [← hw3] at e
        exact (wipe_some e).1
      have pin' : ∀ {H' : Hp} {s' : Shared}, Inv X' (pins ++ pinsAt fp s2.heap) σ3 H' s' → ∀ b ∈ fp, ∀ o, s2.heap.get? b = some o → s'.heap.get? b = some o ∧ H' b = none := fun {H' s'} I' b hb o e =>
        let z := I'.pin (b, o) (List.mem_append_right _ (List.mem_append_right _ (mem_pinsAt hb e)))
        ⟨z.1, z.2.1⟩
      have tnk : ∀ {H' : Hp} {s' : Shared}, Inv X' (pins ++ pinsAt fp s2.heap) σ3 H' s' → tn (i + 1) s'.heap := fun {H' s'} I' => T.keep _ _ _ tn2 fun b hb o e => (pin' I' b hb o e).1
      have fpn : ∀ {H' : Hp} {s' : Shared}, Inv X' (pins ++ pinsAt fp s2.heap) σ3 H' s' → ∀ b ∈ fp, H' b = none := fun {H' s'} I' b hb => by
        obtain ⟨o, e, _⟩ := T.obj _ _ tn2 b hb
        exact (pin' I' b hb o e).2
      cases b with
      | false =>
        simp only [Bool.false_eq_true, if_false] at q4 ⊢
        obtain ⟨m', hm', w'⟩ := hNx ys H4 q4
        exact seg_again rfl (ih m' hm' n (i + 1) ys s₀ s4 H4 (fun b hb => (keepCO I4 b hb).trans (h00 b hb)) hn (by omega) (weak (back I4)) (hst.keep ys s s4 (keepCO I4) hRl) (tnk I4) (fpn I4) w')
      | true =>
        simp only [if_true] at q4 ⊢
        have hyo : ∀ v, yieldOut X'.env v = yieldValue v := fun v => by simp only [yieldOut, hco, Bool.false_eq_true, if_false]
        simp only [hyo]
        rw [Sem.bind_eq_wrap', Sem.bind_eq_wrap', Sem.wrap_wrap, Sem.wrap_wrap]
        refine seg_wrap ?_
        rw [hov]
        refine wpAny_mono (pe.run _ s4 σ3 H4 _ I4 q4) (fun v s5 ⟨yv, H5, I5, r5, md, hgo⟩ => ?_) fun _ _ h => (nox h).elim
        have Rl5 : Rl ys s5 := hst.keep ys s s5 (keepCO I5) hRl
        obtain ⟨n', rfl⟩ : ∃ k, n = k + 1 := ⟨n - 1, by omega⟩
        refine seg_at (seg_yield rfl rfl rfl (hY n' s₀ v s5 _ ys yv σ3 H5 (fun b hb => (keepCO I5 b hb).trans (h00 b hb)) hn r5 (back I5) Rl5 md fun hg s' z => ?_))
        obtain ⟨m', hm', w'⟩ := hNx (ys ++ [yv]) H5 (hgo hg)
        have G' := (back I5).woken y z
        have kb : ∀ b ∈ fp, ∀ o, s5.heap.get? b = some o → s'.heap.get? b = some o := fun b hb o e => z.keep b o (fun hC => y.ex b hC (by rw [hex]; exact hb)) e
        exact seg_again rfl (ih m' hm' n' (i + 1) (ys ++ [yv]) s' s' H5 (fun _ _ => rfl) (by rw [List.length_append, List.length_singleton]; omega) (by omega) (weak G') z.rel (T.keep _ _ _ (tnk I5) kb) (fpn I5) w')
end
end Gx
set_option Elab.async false
set_option linter.all false
set_option maxRecDepth 100000
set_option maxHeartbeats 4000000
namespace Gx
open PySem PySem.Spec PyProof.Rows L2 GenW

/-- what the expression gives: a generator that has not begun -/
def Made (X : Cx) (k : Nat) (H1 : Hp) (sc : Shared) (fp : List Addr) (K : GK) (u : Value) (s' : Shared) : Prop :=
  ∃ (a : Addr) (g : Nat) (c : Code) (N : Nat), u = .ref a ∧ sc.heap.objs.size ≤ a ∧ a < s'.heap.objs.size ∧ s'.heap.IsGen a g ∧ s'.gens[g]? = some (.fresh c) ∧ s'.os = sc.os ∧ AllBare s'.gens ∧ s'.heap.NoLimit ∧ (∀ b o, sc.heap.get? b = some o → s'.heap.get? b = some o) ∧
    ∀ (A : Around) (CO : List Addr) (Rl : Rel) (s2 : Shared), Room k A → A.frames = some X.stack → (∀ b ∈ CO, s'.heap.objs.size ≤ b) → Stable CO Rl → (∀ b o, s'.heap.get? b = some o → s2.heap.get? b = some o) → (∀ b ∈ CO, ∃ o, s2.heap.get? b = some o ∧ ∀ v, o.data ≠ .cell v) →
      s2.os = s'.os → AllBare s2.gens → Rl [] s2 → Seg (model X.prog X.w) A (GEnd X sc fp H1 a g CO Rl N K) (GItem X sc fp H1 a g CO Rl N K) N s2 c ((model X.prog X.w).den c) [] s2

abbrev TGS := L2.St → Hp → GK → Prop
structure PSrc (X : Cx) (k : Nat) (e : Expr) (tg : TGS) : Prop where
  run : ∀ (pins : List (Addr × Obj)) (s : Shared) (σ : L2.St) (H : Hp) (K : GK), Inv X pins σ H s → tg σ H K → wpAny (model X.prog X.w) X.A (eval e X.env)
    (fun u s' => ∃ H1 sc fp, Inv X pins σ H1 sc ∧ ExOk X pins fp ∧ Made X k H1 sc fp K u s') X.xe s

/-- the reading: the walked thing, the table grown, the turns -/
def tGx (P : Addr) (wi : TI) (g : TG) (tt : TT) (te : TE) (vs : List Nat) : TGS := fun σ H K => wi σ H fun J H1 => GxR.TabG H1 P ∧ ∀ H2, GxR.Tabbed P H1 H2 →
  ∃ W : Nat → Nat → List V → Hp → Prop, (∃ m, W 0 m [] H2) ∧ Turns J g tt te vs σ K W

section
variable {X : Cx} {k : Nat} {c P : Addr} {elt tg iter : Expr} {ifs : List Expr} {scope : Scope} {own : List (Str × Nat)} {pos : Pos} {wi : TI} {g : TG} {tt : TT} {te : TE}

theorem start_code {M : Model} {A : Around} {R : GenEnd} {Y : Protocol} {n : Nat} {s₀ s : Shared} {it : Addr} {cenv : Env}
    (hself : wpAny M (A.deeper cenv) (pyIter (.ref it)) (fun it' s' => it' = .ref it ∧ s' = s) (fun _ _ => False) s)
    (hden : M.den (.compStart (.GeneratorExp elt [⟨tg, iter, ifs, 0⟩] scope pos) 0 (.ref it) .none cenv) = (compStart (.GeneratorExp elt [⟨tg, iter, ifs, 0⟩] scope pos) 0 (.ref it) .none cenv).onRaise (leaving cenv))
    (lp : Seg M A R Y n s₀ (.compLoop (.GeneratorExp elt [⟨tg, iter, ifs, 0⟩] scope pos) 0 (.ref it) .none cenv) (M.den (.compLoop (.GeneratorExp elt [⟨tg, iter, ifs, 0⟩] scope pos) 0 (.ref it) .none cenv)) [] s) :
    Seg M A R Y n s₀ (.compStart (.GeneratorExp elt [⟨tg, iter, ifs, 0⟩] scope pos) 0 (.ref it) .none cenv) (M.den (.compStart (.GeneratorExp elt [⟨tg, iter, ifs, 0⟩] scope pos) 0 (.ref it) .none cenv)) [] s := by
  have sf : ∀ (Q : Value → Shared → Prop) (E : Value → Shared → Prop), Q (.ref it) s → wpAny M (A.over (.compStart (.GeneratorExp elt [⟨tg, iter, ifs, 0⟩] scope pos) 0 (.ref it) .none cenv) []) (pyIter (.ref it)) Q E s := fun Q E hQ => by
    rw [over_gxs]
    exact wpAny_mono hself (fun u s' ⟨e1, e2⟩ => by subst e1 e2; exact hQ) fun _ _ h => h.elim
  rw [hden]
  unfold compStart
  rw [Sem.onRaise_eq_wrap]
  show Seg _ A _ _ _ s₀ _ ((ask >>= _).wrap _ _ _ _) [] s
  refine seg_bind_wrap (wpAny_askSetting ?_)
  split
  · exact seg_again rfl lp
  · first
      | exact seg_bind_wrap (wpAny_rule (seg_bind_wrap (wpAny_standAt (seg_bind_wrap (sf _ _ (seg_again rfl lp))))))
      | (refine seg_bind_wrap (wpAny_rule ?_); show Seg _ A _ _ _ s₀ _ ((standAt iter.pos >>= _).wrap _ _ _ _) [] s; exact seg_bind_wrap (wpAny_standAt (seg_bind_wrap (sf _ _ (seg_again rfl lp)))))
end
end Gx
set_option Elab.async false
set_option linter.all false
set_option maxRecDepth 100000
set_option maxHeartbeats 4000000
namespace Gx
open PySem PySem.Spec PyProof.Rows L2 GenW

theorem pinned {X : Cx} {A : Around} {sc s : Shared} {H H' : Hp} {cenv : Env} {fp : List Addr} {pn : List (Addr × Obj)} {σ : L2.St} (I : Inv (cx X A sc H cenv fp []) [] σ H' s)
    (h : ∀ p ∈ pn, s.heap.get? p.1 = some p.2 ∧ H' p.1 = none ∧ p.1 ≠ cenv.locals ∧ p.1 ∉ frs X.stack ∧ ∀ v, p.2.data ≠ .cell v) : Inv (cx X A sc H cenv fp pn) [] σ H' s :=
  ⟨⟨I.ok.mod, I.ok.kind, I.ok.glob, I.ok.blt, I.ok.above, I.ok.inj, I.ok.has, I.ok.cab, I.ok.hd, I.ok.frames, I.ok.stk, I.ok.exf, I.ok.bs, I.ok.bsz, I.ok.noex, I.ok.exfs, I.ok.funs, I.ok.frf⟩, I.os, I.bare, I.base, I.loc, I.cell, I.free, I.freeC,
    fun p hp => h p (by simpa using hp), I.hok, I.len⟩

section
variable {X : Cx} {k : Nat} {c P : Addr} {elt tg iter : Expr} {ifs : List Expr} {scope : Scope} {own : List (Str × Nat)} {pos : Pos} {wi : TI} {g : TG} {tt : TT} {te : TE}

theorem made {pins : List (Addr × Obj)} {σ : L2.St} {H2 : Hp} {sc : Shared} {fp : List Addr} {tn : Nat → Heap → Prop} {J : It} {K : GK} {W : Nat → Nat → List V → Hp → Prop} {it : Addr} {code : Value} {h' : Heap} {m0 : Nat} {mm : Str → Option Value} {tk : Nat} {nm qn : Value}
    (hc : X.calm = true) (hN : X.N.Nodup) (ok : BlkOk X.N X.env.scope scope own) (hcell : ∀ y ∈ scope.names, y.2 ≠ .cell) (hco : scope.isCoroutine = false)
    (hg : ∀ (A : Around) (s : Shared) (H : Hp) (C : Addr) (cl : List (Str × Addr)) (cd : Value) (fp : List Addr) (pn : List (Addr × Obj)), PG (cx X A s H (genEnv scope cl C cd builtinsNs X.env) fp pn) tg g)
    (ht : ∀ (A : Around) (s : Shared) (H : Hp) (C : Addr) (cl : List (Str × Addr)) (cd : Value) (fp : List Addr) (pn : List (Addr × Obj)), Room k (A.deeper (genEnv scope cl C cd builtinsNs X.env)) → PTs (cx X A s H (genEnv scope cl C cd builtinsNs X.env) fp pn) ifs tt)
    (he : ∀ (A : Around) (s : Shared) (H : Hp) (C : Addr) (cl : List (Str × Addr)) (cd : Value) (fp : List Addr) (pn : List (Addr × Obj)), Room k (A.deeper (genEnv scope cl C cd builtinsNs X.env)) → PE (cx X A s H (genEnv scope cl C cd builtinsNs X.env) fp pn) elt te)
    (I : Inv X pins σ H2 sc) (T : Turn X.prog X.w X.K tg J fp it tn) (htn : tn 0 sc.heap) (hfp : ∀ b ∈ fp, FpOk X pins H2 b) (w0 : W 0 m0 [] H2) (turn : Turns J g tt te (own.map (·.2)) σ K W)
    (hn : h'.Ns sc.heap.objs.size mm) (hs : Heap.SameBut sc.heap.objs.size (sc.heap.push { cls := .type "frame", data := .dict #[] }) h') :
    Made X (k + 1) H2 sc fp K (.ref h'.objs.size) { sc with gens := sc.gens.push (.fresh (.compStart (.GeneratorExp elt [⟨tg, iter, ifs, 0⟩] scope pos) 0 (.ref it) .none (genEnv scope (cloFrom X.env.cells scope.names []) sc.heap.objs.size code builtinsNs X.env))), toks := tk, heap := h'.push { cls := .type "generator", data := .fields #[.int sc.gens.size 0, nm, qn] } } := by
  generalize hcl : cloFrom X.env.cells scope.names [] = cl
  have sz' : h'.objs.size = sc.heap.objs.size + 1 := by rw [hs.1, Heap.size_push]
  have keep' : ∀ b o, sc.heap.get? b = some o → h'.get? b = some o := fun b o e => hs.extBut b o (Nat.ne_of_lt (Heap.lt_size e)) (Heap.get?_push_of_some _ e)
  generalize hgo : ({ cls := .type "generator", data := .fields #[.int sc.gens.size 0, nm, qn] } : Obj) = go
  have hpush : (h'.push go).get? h'.objs.size = some go := Heap.get?_push_size _ (by rw [← hgo]; rfl)
  have keep5 : ∀ b o, sc.heap.get? b = some o → (h'.push go).get? b = some o := fun b o e => Heap.get?_push_of_some _ (keep' b o e)
  have hgen : ∀ h : Heap, h.get? h'.objs.size = some go → h.IsGen h'.objs.size sc.gens.size := fun h e => ⟨go, nm, qn, e, by rw [← hgo], by rw [← hgo], by rw [← hgo]⟩
  have sz5 : (h'.push go).objs.size = sc.heap.objs.size + 2 := by rw [Heap.size_push, sz']
  have lim5 : (h'.push go).NoLimit := I.nolimit.keeps keep5
  have hgd : ∀ v, go.data ≠ .cell v := fun v q => by rw [← hgo] at q; cases q
  have fplt : ∀ b ∈ fp, b < sc.heap.objs.size := fun b hb => by
    obtain ⟨o, e, _⟩ := T.obj _ _ htn b hb
    exact Heap.lt_size e
  refine ⟨h'.objs.size, sc.gens.size, _, m0, rfl, by omega, by show _ < (h'.push go).objs.size; omega, hgen _ hpush, Array.getElem?_push_size .., rfl, AllBare.push I.bare rfl, lim5, keep5, ?_⟩
  intro A CO Rl s2 hr hfr hCO hst hk2 hown hos hba hRl
  have hCO : ∀ b ∈ CO, sc.heap.objs.size + 2 ≤ b := fun b hb => by
    have q : (h'.push go).objs.size ≤ b := hCO b hb
    rw [sz5] at q; exact q
  have I1 := gstart (A := A) (code := code) (g5 := sc.gens.push (.fresh (.compStart (.GeneratorExp elt [⟨tg, iter, ifs, 0⟩] scope pos) 0 (.ref it) .none (genEnv scope cl sc.heap.objs.size code builtinsNs X.env)))) (d5 := sc.drawn) (t5 := tk) I ok hN hcell (fun b hb => ⟨hfp b hb, fplt b hb⟩) hr.hd hfr (hn.push go) keep5 (AllBare.push I.bare rfl)
  rw [hcl] at I1
  have I2 : Inv (cx X A sc H2 (genEnv scope cl sc.heap.objs.size code builtinsNs X.env) fp []) [] (wipe σ (own.map (·.2))) H2 s2 :=
    I1.call' (ch := []) hos (Un.kept hk2) (I1.hok.kept hk2) hba fun b z => by cases z
  have young : ∀ b, sc.heap.objs.size + 1 ≤ b → H2 b = none ∧ b ≠ sc.heap.objs.size ∧ b ∉ frs X.stack := fun b hb => by
    refine ⟨I.hok.fresh (Nat.le_of_succ_le hb), Nat.ne_of_gt hb, fun z => ?_⟩
    rcases List.mem_cons.mp (I.stkSub b z) with z | z
    · have := I.lt
      rw [← z] at this
      exact absurd (Nat.lt_of_lt_of_le this (Nat.le_of_succ_le hb)) (Nat.lt_irrefl _)
    · exact I.nofs (Nat.le_of_succ_le hb) z
  have I3 : Inv (cx X A sc H2 (genEnv scope cl sc.heap.objs.size code builtinsNs X.env) fp [(h'.objs.size, go)]) [] (wipe σ (own.map (·.2))) H2 s2 := by
    refine pinned I2 fun p hp => ?_
    rw [List.mem_singleton.mp hp]
    obtain ⟨y1, y2, y3⟩ := young h'.objs.size (by omega)
    exact ⟨hk2 _ _ hpush, y1, y2, y3, hgd⟩
  have yg : Young (cx X A sc H2 (genEnv scope cl sc.heap.objs.size code builtinsNs X.env) fp [(h'.objs.size, go)]) CO := by
    refine ⟨fun b hb => ?_, fun b hb => ?_, fun b hb x cc e z => ?_, fun b hb p hp z => ?_, fun b hb z => ?_⟩
    · have := hCO b hb; show sc.heap.objs.size ≤ b; omega
    · have := hCO b hb; exact Nat.ne_of_gt (show sc.heap.objs.size < b by omega)
    · obtain ⟨v, q⟩ := I1.cell x cc e
      have e2 : cl.lookup x = some cc := e
      rw [← hcl] at e2
      have q2 : cc < sc.heap.objs.size := by
        rcases cloFrom_mem (PySem.mem_of_lookup e2) with hm | ⟨h1, h2⟩
        · cases hm
        · have hfree : ∃ c, X.env.cells.lookup x = some c := by
            rcases ok.free _ h1 rfl with k | k
            · exact I.ok.has _ (.inl k)
            · exact I.ok.has _ (.inr k)
          obtain ⟨c2, hc2⟩ := hfree
          rw [hc2] at h2
          obtain ⟨w2, z2⟩ := I.cell _ _ hc2
          have := z2.lt
          rw [h2]; exact this
      have h9 := hCO b hb
      rw [z] at q2
      exact absurd (Nat.lt_of_lt_of_le q2 (Nat.le_trans (Nat.le_add_right _ 2) h9)) (Nat.lt_irrefl _)
    · rw [List.mem_singleton.mp hp] at z
      have := hCO b hb
      have z : (h'.objs.size : Nat) = b := z
      omega
    · exact absurd (Nat.lt_of_lt_of_le (fplt b z) (Nat.le_trans (Nat.le_add_right _ 2) (hCO b hb))) (Nat.lt_irrefl _)
  have G0 := GI.make I3 yg (fun b hb => let y := young b (by have := hCO b hb; omega); ⟨y.1, y.2.2⟩) hown
  have hdp : Room k (A.deeper (genEnv scope cl sc.heap.objs.size code builtinsNs X.env)) := hr.deeper _
  have aw : ∀ {σ' : L2.St} {H : Hp} {s : Shared}, GI (cx X A sc H2 (genEnv scope cl sc.heap.objs.size code builtinsNs X.env) fp [(h'.objs.size, go)]) CO σ' H s → Aw X sc fp H2 h'.objs.size sc.gens.size CO H s := fun {σ' H s} G => by
    have hf := G.free
    obtain ⟨pp, _, J⟩ := G
    exact ⟨J.os, J.bare, J.base, J.hok, J.nolimit, hgen _ (J.pin (h'.objs.size, go) (List.mem_append_left _ (List.mem_singleton.mpr rfl))).1, fun b hb => (hf b hb).1, fun b hb => let ⟨_, o, q1, q2, _⟩ := hf b hb; ⟨o, q1, q2⟩⟩
  have tn2 : tn 0 s2.heap := T.keep _ _ _ htn fun b _ o e => hk2 _ _ (keep5 b o e)
  refine start_code ?_ rfl ?_
  · exact T.self _ 0 s2 _ _ tn2 ⟨rfl, rfl⟩
  · refine loop (X' := cx X A sc H2 (genEnv scope cl sc.heap.objs.size code builtinsNs X.env) fp [(h'.objs.size, go)]) (fp := fp) (CO := CO) (Rl := Rl) (N := m0) (K := K) (σ := σ) (vs := own.map (·.2)) rfl rfl hc rfl hco yg (fun b hb p hp z => ?_) T (hg ..) (ht _ _ _ _ _ _ _ _ hdp) (he _ _ _ _ _ _ _ _ hdp) hst turn
      (fun n s₀ s ys H h00 hn hG hRl' dn => .inl ⟨.inr rfl, h00, ys, H, hn, aw hG, hRl', dn⟩) (fun n s₀ v s kap ys x σ' H h00 hn hv hG hRl' md hgo => ⟨h00, ys, x, H, hn, hv, aw hG, hRl', md, hgo⟩)
      m0 m0 0 [] s2 s2 H2 (fun _ _ => rfl) (Nat.add_zero _) (Nat.le_refl _) G0 hRl tn2 (fun b hb => (hfp b hb).1) w0
    rw [List.mem_singleton.mp hp] at z
    have h9 := fplt b hb
    have z : h'.objs.size = b := z
    rw [← z, sz'] at h9
    exact absurd h9 (Nat.not_lt_of_le (Nat.le_add_right _ 1))
end
end Gx
set_option Elab.async false
set_option linter.all false
set_option maxRecDepth 100000
set_option maxHeartbeats 4000000
namespace Gx
open PySem PySem.Spec PyProof.Rows L2 GenW
section
variable {X : Cx} {k : Nat} {c P : Addr} {elt tg iter : Expr} {ifs : List Expr} {scope : Scope} {own : List (Str × Nat)} {pos : Pos} {wi : TI} {g : TG} {tt : TT} {te : TE}
/-- THE RULE: a generator expression, by its parts -/
theorem psrc (hr : Room (k + 1) X.A) (hc : X.calm = true) (hN : X.N.Nodup) (TB : GxR.TabB X.base X.mg c P) (hcode : X.env.code = .ref c) (hi : PI X tg iter wi) (ok : BlkOk X.N X.env.scope scope own) (hcell : ∀ y ∈ scope.names, y.2 ≠ .cell) (h0 : scope.names.lookup (".0" : Str) = some NameKind.local) (hco : scope.isCoroutine = false)
    (hg : ∀ (A : Around) (s : Shared) (H : Hp) (C : Addr) (cl : List (Str × Addr)) (cd : Value) (fp : List Addr) (pn : List (Addr × Obj)), PG (cx X A s H (genEnv scope cl C cd builtinsNs X.env) fp pn) tg g)
    (ht : ∀ (A : Around) (s : Shared) (H : Hp) (C : Addr) (cl : List (Str × Addr)) (cd : Value) (fp : List Addr) (pn : List (Addr × Obj)), Room k (A.deeper (genEnv scope cl C cd builtinsNs X.env)) → PTs (cx X A s H (genEnv scope cl C cd builtinsNs X.env) fp pn) ifs tt)
    (he : ∀ (A : Around) (s : Shared) (H : Hp) (C : Addr) (cl : List (Str × Addr)) (cd : Value) (fp : List Addr) (pn : List (Addr × Obj)), Room k (A.deeper (genEnv scope cl C cd builtinsNs X.env)) → PE (cx X A s H (genEnv scope cl C cd builtinsNs X.env) fp pn) elt te)
    (hs : ∀ v, genFold iter X.env v = pure v := by intro _; rfl) : PSrc X (k + 1) (.GeneratorExp elt [⟨tg, iter, ifs, 0⟩] scope pos) (tGx P wi g tt te (own.map (·.2))) := by
  refine ⟨fun pins s σ H K I h => ?_⟩
  have hfree : ∀ y ∈ scope.names, y.2 = .free → ∃ c, X.env.cells.lookup y.1 = some c := fun y hy e => by
    rcases ok.free y hy e with k | k
    · exact I.ok.has _ (.inl k)
    · exact I.ok.has _ (.inr k)
  refine wpAny_GeneratorExp_make hco (closure_ok hfree) hcell h0 ok.kind (by have := hr.dp; omega) ?_ hs
  refine thn (hi.run pins s σ H _ I h) fun xv s1 hx => thn hx fun itv s2 h2 => ?_
  obtain ⟨it, fp, tn, J, H1, rfl, I2, T, st2, f2, ⟨ps, hP, htr⟩, q⟩ := h2
  refine ⟨I2.nolimit, ?_⟩
  have hPs : s2.heap.get? P = some { cls := .none, data := .fields ps } := I2.hok P _ hP
  have cd : PySem.W.CodeHd s2.heap c P := TB.code.keeps fun b u e => I2.bk b u e
  have fpP : ∀ b ∈ fp, b ≠ P := fun b hb z => by
    have := (f2 b hb).1
    rw [z, hP] at this; cases this
  have cont : ∀ (code : Value) (h3 : Heap) (tk : Nat) (ps' : Array Value), Heap.ExtBut P s2.heap h3 → h3.get? P = some { cls := .none, data := .fields ps' } → (∃ more, ps' = ps ++ more) → TriplesOk ps'.toList →
      wpAny (model X.prog X.w) X.A (builtinsFor X.env.globals X.env.builtins) (fun bi s₄ => ∀ h', h'.Ns s₄.heap.objs.size (fun y => if y = ".0" then some (.ref it) else none) → Heap.SameBut s₄.heap.objs.size (s₄.heap.push { cls := .type "frame", data := .dict #[] }) h' →
          ∃ H1 sc fp, Inv X pins σ H1 sc ∧ ExOk X pins fp ∧ Made X (k + 1) H1 sc fp K (.ref h'.objs.size) { s₄ with
            gens := s₄.gens.push (.fresh (.compStart (.GeneratorExp elt [⟨tg, iter, ifs, 0⟩] scope pos) 0 (.ref it) .none (genEnv scope (cloFrom X.env.cells scope.names []) s₄.heap.objs.size code bi X.env))),
            toks := s₄.toks + 1 + 1 + 1,
            heap := h'.push { cls := .type "generator", data := .fields #[.int s₄.gens.size 0, .str "<genexpr>" (s₄.toks + 1), .str (X.env.qual ++ "<genexpr>") (s₄.toks + 1 + 1)] } }) X.xe { s2 with heap := h3, toks := tk } := by
    intro code h3 tk ps' hx hP3 hmore ht3
    obtain ⟨more, em⟩ := hmore
    obtain ⟨bm, ob, e1, e2, e3, e4, e5, e6, e7, e8⟩ := TB.bm
    have keep3 : ∀ b u, b ≠ P → s2.heap.get? b = some u → h3.get? b = some u := fun b u hb e => hx b u hb e
    refine wpAny_builtinsFor (m := X.mg) (by rw [I2.ok.glob]; exact (I2.mod.glob.keeps I2.bk).extBut hx TB.gP) e1 e2 (keep3 _ _ e4 (I2.bk _ _ e5)) e6 e7 e8 ?_
    intro h' hn' hs'
    have I3 : Inv X pins σ (upd H1 P (.tbl ps')) { s2 with heap := h3, toks := tk } := by
      have J := GxR.inv_tab (more := more) (h' := h3) (g' := s2.gens) (d' := s2.drawn) (t' := tk) I2 hP keep3 (by rw [← em]; exact hP3) I2.bare
      rw [← em] at J
      exact J
    have T2 : GxR.Tabbed P H1 (upd H1 P (.tbl ps')) := ⟨⟨ps', upd_same, ht3⟩, fun b hb => upd_ne hb⟩
    obtain ⟨W, ⟨m0, w0⟩, turn⟩ := q _ T2
    have f3 : ∀ b ∈ fp, FpOk X pins (upd H1 P (.tbl ps')) b := fun b hb => ⟨by rw [upd_ne (fpP b hb)]; exact (f2 b hb).1, (f2 b hb).2⟩
    have tn3 : tn 0 h3 := T.keep _ _ _ st2 fun b hb o e => keep3 b o (fpP b hb) e
    refine ⟨upd H1 P (.tbl ps'), { s2 with heap := h3, toks := tk }, fp, I3, fun b hb => ⟨(f3 b hb).2.2.2.1, (f3 b hb).2.1, (f3 b hb).2.2.2.2.1, (f3 b hb).2.2.2.2.2⟩, ?_⟩
    exact made hc hN ok hcell hco hg ht he I3 T tn3 f3 w0 turn hn' hs'
  cases hf : codeAmong pos ps.toList with
  | none =>
    refine wpAny_genexprCodeX hcode (cd.code hPs htr) (cd.tab hPs) hf fun c' h' tk hx hge hlt hco' _ htab' _ => ?_
    obtain ⟨o1, vs, f1, tf, fl, tg, inF, tx, tt, op, _, _, _, _, _, _, _, _, _, htr', _⟩ := hco'
    exact cont _ h' tk _ hx htab'.2 ⟨_, rfl⟩ htr'
  | some cv =>
    refine wpAny_genexprCode_hit hcode (cd.code hPs htr) hf ?_
    exact cont cv s2.heap s2.toks ps (Heap.ExtBut.refl _ _) hPs ⟨#[], by simp⟩ htr
end

/-! ### the consumer -/
section
variable {X : Cx} {sc : Shared} {fp : List Addr} {H1 : Hp} {a : Addr} {g : Nat} {CO : List Addr} {Rl : Rel} {N : Nat} {K : GK}
/-- the generator sleeps; n items more at most -/
structure Live (X : Cx) (sc : Shared) (fp : List Addr) (H1 : Hp) (a : Addr) (g : Nat) (CO : List Addr) (Rl : Rel) (N : Nat) (K : GK) (B : Around) (n : Nat) (s : Shared) : Prop where
  gen : s.heap.IsGen a g
  lim : s.heap.NoLimit
  goes : ∃ gs, s.gens[g]? = some gs ∧ gs.Goes (model X.prog X.w) B (GEnd X sc fp H1 a g CO Rl N K) (GItem X sc fp H1 a g CO Rl N K) n (.send .none) (s.setGen g .running)
/-- an item is out: the consumer may go on from any state that kept all but its own -/
theorem next {A : Around} {n : Nat} {s : Shared} {Q : Option Value → Shared → Prop} {E : Value → Shared → Prop} (hh : A.handled = none) (hd : A.depth < recursionLimit) (hst : Stable CO Rl) (haC : a ∉ CO) (hcC : cStatics ∉ CO) (L : Live X sc fp H1 a g CO Rl N K A.in1 n s)
    (hY : ∀ ys x v H' s1, (∀ b ∈ CO, s1.heap.get? b = s.heap.get? b) → n - 1 + 1 + ys.length = N → RelV x v → Aw X sc fp H1 a g CO H' s1 → Rl ys s1 → K.mid ys x H' →
      (K.go x → ∀ s', s'.os = s1.os → s'.gens = s1.gens → (∀ b o, b ∉ CO → s1.heap.get? b = some o → s'.heap.get? b = some o) → (∀ b ∈ CO, ∃ o, s'.heap.get? b = some o ∧ ∀ v, o.data ≠ .cell v) → Rl (ys ++ [x]) s' → 0 < n ∧ Live X sc fp H1 a g CO Rl N K A.in1 (n - 1) s') → Q (some v) s1)
    (hP : ∀ ys H' s1, (∀ b ∈ CO, s1.heap.get? b = s.heap.get? b) → n + ys.length = N → Aw X sc fp H1 a g CO H' s1 → Rl ys s1 → K.done ys H' → Q none s1) :
    wpAny (model X.prog X.w) A (pyNext (.ref a)) Q E s := by
  obtain ⟨hg, hl, gs, hgs, hgo⟩ := L
  have hgl : g < s.gens.size := (Array.getElem?_eq_some_iff.mp hgs).1
  refine wpAny_gsz (n := g + 1) hgl (next_genG (A := A) (Er := fun _ _ => False) (F := GFin X sc fp H1 a g CO Rl N K) (Y := GItem X sc fp H1 a g CO Rl N K) hh hl hd hg hgs hgo (fun v s₁ gs' hbare hv => ?_) (fun s₁ hp h' hk => ?_) fun e s₁ he => he.elim)
  · intro hsz
    have hsz1 : g < s₁.gens.size := by
      have q : (s₁.setGen g gs').gens.size = s₁.gens.size := setGen_size _ _ _
      have hsz' : g + 1 ≤ (s₁.setGen g gs').gens.size := hsz
      omega
    obtain ⟨h00, ys, x, H', h1, h2, h3, h4, h5, h7⟩ := hv
    have hb : AllBare (s₁.setGen g gs').gens := allBare_setGen h3.bare hbare
    refine hY ys x v H' _ h00 h1 h2 ⟨h3.os, hb, h3.un, h3.hok, h3.lim, h3.gen, h3.free, h3.own⟩ (hst.keep ys s₁ _ (fun _ _ => rfl) h4) h5 fun hgo' s' e1 e2 e3 e4 e5 => ?_
    have z : Slept CO Rl (ys ++ [x]) s₁ (s'.setGen g .running) :=
      ⟨e1, allBare_setGen (by rw [e2]; exact hb) rfl, e3, e4, hst.keep _ s' _ (fun _ _ => rfl) e5⟩
    cases n with
    | zero => exact (h7 hgo' _ z).elim
    | succ m =>
      refine ⟨Nat.succ_pos _, ?_, ?_, gs', by rw [e2]; exact setGen_at hsz1, h7 hgo' _ z⟩
      · obtain ⟨o, nm, qn, ho, r⟩ := h3.gen
        exact ⟨o, nm, qn, e3 a o haC ho, r⟩
      · obtain ⟨mc, hns, hnn⟩ := h3.lim
        exact ⟨mc, hns.at' fun o e => e3 _ o hcC e, hnn⟩
  · intro hsz
    obtain ⟨h00, ys, H', h1, h2, h3, h4⟩ := hp
    have hsame : ∀ b ∈ CO, h'.get? b = s₁.heap.get? b := fun b hb => by
      obtain ⟨o, q1, _⟩ := h2.own b hb
      rw [q1, hk _ _ q1]
    refine hP ys H' _ (fun b hb => (hsame b hb).trans (h00 b hb)) h1 ⟨h2.os, allBare_setGen h2.bare rfl, h2.un.trans (Un.kept hk), h2.hok.kept hk, h2.lim.keeps hk, h2.gen.keeps hk, h2.free, fun b hb => let ⟨o, q1, q2⟩ := h2.own b hb; ⟨o, hk _ _ q1, q2⟩⟩ ?_ h4
    exact hst.keep ys s₁ _ hsame h3
/-- to begin with -/
theorem Made.live {k : Nat} {u : Value} {s' s2 : Shared} {A : Around} (M : Made X k H1 sc fp K u s') (hr : Room k A.in1) (hfr : A.frames = some X.stack) :
    ∃ a g N, u = .ref a ∧ sc.heap.objs.size ≤ a ∧ a < s'.heap.objs.size ∧ s'.heap.IsGen a g ∧ s'.heap.NoLimit ∧ s'.os = sc.os ∧ AllBare s'.gens ∧ (∀ b o, sc.heap.get? b = some o → s'.heap.get? b = some o) ∧
      ∀ (CO : List Addr) (Rl : Rel), (∀ b ∈ CO, s'.heap.objs.size ≤ b) → Stable CO Rl → (∀ b o, s'.heap.get? b = some o → s2.heap.get? b = some o) → (∀ b ∈ CO, ∃ o, s2.heap.get? b = some o ∧ ∀ v, o.data ≠ .cell v) → s2.os = s'.os → s2.gens = s'.gens → Rl [] s2 → Live X sc fp H1 a g CO Rl N K A.in1 N s2 := by
  obtain ⟨a, g, c, N, e, h1, h2, h3, h4, h5, h6, h7, h8, h9⟩ := M
  refine ⟨a, g, N, e, h1, h2, h3, h7, h5, h6, h8, fun CO Rl q1 q2 q3 q4 q5 q6 q7 => ⟨h3.keeps q3, h7.keeps q3, .fresh c, by rw [q6]; exact h4, ?_⟩⟩
  exact ⟨rfl, h9 A.in1 CO Rl _ hr hfr q1 q2 q3 q4 q5 (allBare_setGen (by rw [q6]; exact h6) rfl) (q2.keep _ s2 _ (fun _ _ => rfl) q7)⟩
end
end Gx
set_option Elab.async false
set_option linter.all false
set_option maxRecDepth 100000
set_option maxHeartbeats 4000000
namespace Gx
open PySem PySem.Spec PyProof.Rows L2 GenW

section
variable {X : Cx} {sc : Shared} {fp : List Addr} {H1 : Hp} {a : Addr} {g : Nat} {N : Nat} {k : Nat}

/-! ### all, any -/
def bRel (t : Bool) : Rel := fun ys _ => ∀ y ∈ ys, y = V.bl t
theorem bStable {t : Bool} {CO : List Addr} : Stable CO (bRel t) := ⟨fun _ _ _ _ h => h⟩
/-- all: an item is a bool; at the first False it ends -/
def kAll (Q : VK) : GK := ⟨fun ys y H => ∃ b, y = .bl b ∧ (b = false → (∀ z ∈ ys, z = V.bl true) → Q (.bl false) H), fun y => y = .bl true, fun ys H => (∀ z ∈ ys, z = V.bl true) → Q (.bl true) H⟩
theorem all_loop {A : Around} {R : Result → Shared → Prop} {Q : VK} (hh : A.handled = none) (hd : A.depth < recursionLimit)
    (hR : ∀ b H' s', Aw X sc fp H1 a g [] H' s' → Q (.bl b) H' → R (.ok (.ret (.bool b))) s') :
    ∀ (n : Nat) (s : Shared), Live X sc fp H1 a g [] (bRel true) N (kAll Q) A.in1.in1 n s → codeAny (model X.prog X.w) A (.builtin "all.loop" ⟨[.ref a], []⟩) R s := by
  intro n
  induction n with
  | zero =>
    intro s L
    refine codeAny_builtin F.entry_all_loop ?_
    rw [Around.under_plainId F.plain_all_loop _]
    show wpAny _ A.in1 (pyNext (.ref a) >>= _) _ _ s
    refine wpAny_bind (next (A := A.in1) hh hd bStable (by simp) (by simp) L (fun ys x v H' s1 _ hn rv aw hrl md hgo => ?_) fun ys H' s1 _ hn aw hrl dn => ?_)
    · obtain ⟨b, rfl, hf⟩ := md
      have rv : v = Value.bool b := rv
      subst rv
      cases b with
      | true =>
        have := (hgo rfl s1 rfl rfl (fun _ _ _ e => e) (fun _ hb => by cases hb) (fun y hy => by rcases List.mem_append.mp hy with hy | hy; exact hrl y hy; exact List.mem_singleton.mp hy)).1
        omega
      | false =>
        refine wpAny_bind (wpAny_holding (wpAny_truthy_bool ?_))
        refine wpAny_bind (wpAny_letGo ?_)
        simp only [Bool.false_eq_true, if_false]
        exact wpAny_bind (wpAny_rule (wpAny_pure (hR false H' _ aw (hf rfl hrl))))
    · exact wpAny_bind (wpAny_rule (wpAny_pure (hR true H' _ aw (dn hrl))))
  | succ n ih =>
    intro s L
    refine codeAny_builtin F.entry_all_loop ?_
    rw [Around.under_plainId F.plain_all_loop _]
    show wpAny _ A.in1 (pyNext (.ref a) >>= _) _ _ s
    refine wpAny_bind (next (A := A.in1) hh hd bStable (by simp) (by simp) L (fun ys x v H' s1 _ hn rv aw hrl md hgo => ?_) fun ys H' s1 _ hn aw hrl dn => ?_)
    · obtain ⟨b, rfl, hf⟩ := md
      have rv : v = Value.bool b := rv
      subst rv
      refine wpAny_bind (wpAny_holding (wpAny_truthy_bool ?_))
      refine wpAny_bind (wpAny_letGo ?_)
      cases b with
      | true =>
        simp only [if_true]
        exact wpAny_pure ⟨plainId_quiet F.plain_all_loop _, ih _ (hgo rfl s1 rfl rfl (fun _ _ _ e => e) (fun _ hb => by cases hb) (fun y hy => by rcases List.mem_append.mp hy with hy | hy; exact hrl y hy; exact List.mem_singleton.mp hy)).2⟩
      | false =>
        simp only [Bool.false_eq_true, if_false]
        exact wpAny_bind (wpAny_rule (wpAny_pure (hR false H' _ aw (hf rfl hrl))))
    · exact wpAny_bind (wpAny_rule (wpAny_pure (hR true H' _ aw (dn hrl))))
/-- any: an item is a bool; at the first True it ends -/
def kAny (Q : VK) : GK := ⟨fun ys y H => ∃ b, y = .bl b ∧ (b = true → (∀ z ∈ ys, z = V.bl false) → Q (.bl true) H), fun y => y = .bl false, fun ys H => (∀ z ∈ ys, z = V.bl false) → Q (.bl false) H⟩
theorem any_loop {A : Around} {R : Result → Shared → Prop} {Q : VK} (hh : A.handled = none) (hd : A.depth < recursionLimit)
    (hR : ∀ b H' s', Aw X sc fp H1 a g [] H' s' → Q (.bl b) H' → R (.ok (.ret (.bool b))) s') :
    ∀ (n : Nat) (s : Shared), Live X sc fp H1 a g [] (bRel false) N (kAny Q) A.in1.in1 n s → codeAny (model X.prog X.w) A (.builtin "any.loop" ⟨[.ref a], []⟩) R s := by
  intro n
  induction n with
  | zero =>
    intro s L
    refine codeAny_builtin F.entry_any_loop ?_
    rw [Around.under_plainId F.plain_any_loop _]
    show wpAny _ A.in1 (pyNext (.ref a) >>= _) _ _ s
    refine wpAny_bind (next (A := A.in1) hh hd bStable (by simp) (by simp) L (fun ys x v H' s1 _ hn rv aw hrl md hgo => ?_) fun ys H' s1 _ hn aw hrl dn => ?_)
    · obtain ⟨b, rfl, hf⟩ := md
      have rv : v = Value.bool b := rv
      subst rv
      cases b with
      | false =>
        have := (hgo rfl s1 rfl rfl (fun _ _ _ e => e) (fun _ hb => by cases hb) (fun y hy => by rcases List.mem_append.mp hy with hy | hy; exact hrl y hy; exact List.mem_singleton.mp hy)).1
        omega
      | true =>
        refine wpAny_bind (wpAny_holding (wpAny_truthy_bool ?_))
        refine wpAny_bind (wpAny_letGo ?_)
        simp only [if_true]
        exact wpAny_bind (wpAny_rule (wpAny_pure (hR true H' _ aw (hf rfl hrl))))
    · exact wpAny_bind (wpAny_rule (wpAny_pure (hR false H' _ aw (dn hrl))))
  | succ n ih =>
    intro s L
    refine codeAny_builtin F.entry_any_loop ?_
    rw [Around.under_plainId F.plain_any_loop _]
    show wpAny _ A.in1 (pyNext (.ref a) >>= _) _ _ s
    refine wpAny_bind (next (A := A.in1) hh hd bStable (by simp) (by simp) L (fun ys x v H' s1 _ hn rv aw hrl md hgo => ?_) fun ys H' s1 _ hn aw hrl dn => ?_)
    · obtain ⟨b, rfl, hf⟩ := md
      have rv : v = Value.bool b := rv
      subst rv
      refine wpAny_bind (wpAny_holding (wpAny_truthy_bool ?_))
      refine wpAny_bind (wpAny_letGo ?_)
      cases b with
      | false =>
        simp only [Bool.false_eq_true, if_false]
        exact wpAny_pure ⟨plainId_quiet F.plain_any_loop _, ih _ (hgo rfl s1 rfl rfl (fun _ _ _ e => e) (fun _ hb => by cases hb) (fun y hy => by rcases List.mem_append.mp hy with hy | hy; exact hrl y hy; exact List.mem_singleton.mp hy)).2⟩
      | true =>
        simp only [if_true]
        exact wpAny_bind (wpAny_rule (wpAny_pure (hR true H' _ aw (hf rfl hrl))))
    · exact wpAny_bind (wpAny_rule (wpAny_pure (hR false H' _ aw (dn hrl))))

/-- the consumer's end, back in the caller's context -/
theorem back {pins : List (Addr × Obj)} {σ : L2.St} {H' : Hp} {s' : Shared} {CO : List Addr} (I : Inv X pins σ H1 sc) (hex : ExOk X pins fp) (aw : Aw X sc fp H1 a g CO H' s') : Inv X pins σ H' s' :=
  I.call' (ch := fp) aw.os aw.un aw.hok aw.bare hex

def tAll (tg : TGS) : TE := fun σ H Q => tg σ H (kAll Q)
def tAny (tg : TGS) : TE := fun σ H Q => tg σ H (kAny Q)
variable {e : Expr} {tg : TGS} {p pos : Pos}
theorem pe_all (h : PSrc X k e tg) (hr : Room (k + 2) X.A) (hg : Gl X "all") (hm : X.mg "all" = none) (he : starEach [e] X.env = (false, eval e X.env) :: starEach [] X.env := by rfl) :
    PE X (.Call (.Name "all" p) [e] [] pos) (tAll tg) := by
  refine ⟨fun pins s σ H Q I hq => ?_⟩
  refine wpAny_Call_Name_kw (ld_blt I hg hm boot_all ?_)
  refine PyProof.Rows.callWith_builtin1 ?_ he (by rfl)
  rw [he]
  show wpAny _ _ (spliced ((false, eval e X.env) :: backTo pos (starEach [] X.env))) _ _ s
  refine Calls.spliced_cons (thn (h.run pins s σ H _ I hq) fun u s1 ⟨H1, sc, fp, I1, hex, M⟩ => ?_)
  refine Calls.spliced_nil ?_
  obtain ⟨a, g, N, rfl, h1, h2, h3, h4, h5, h6, h7, h8⟩ := M.live (A := X.A.in1) (s2 := s1) hr.in1.in1 I1.ok.frames
  refine call_function_tree F.kind_all F.plain_all F.entry_all (F.args_all1 _) ?_
  unfold Builtin.«all»
  refine wpAny_bind (m := oneArg "all" _) (wpAny_pure ?_)
  refine wpAny_bind (wpAny_pyIter_gen h3 ?_)
  refine wpAny_pure ⟨plainId_quiet F.plain_all_loop _, all_loop (A := X.A) hr.hd (by have := hr.dp; show X.A.depth < _; omega) (fun b H' s' aw hq => ?_) N s1 (h8 [] (bRel true) (fun b hb => by cases hb) bStable (fun _ _ e => e) (fun b hb => by cases hb) rfl rfl (fun y hy => by cases hy))⟩
  exact ⟨.bl b, H', back I1 hex aw, rfl, hq⟩
theorem pe_any (h : PSrc X k e tg) (hr : Room (k + 2) X.A) (hg : Gl X "any") (hm : X.mg "any" = none) (he : starEach [e] X.env = (false, eval e X.env) :: starEach [] X.env := by rfl) :
    PE X (.Call (.Name "any" p) [e] [] pos) (tAny tg) := by
  refine ⟨fun pins s σ H Q I hq => ?_⟩
  refine wpAny_Call_Name_kw (ld_blt I hg hm boot_any ?_)
  refine PyProof.Rows.callWith_builtin1 ?_ he (by rfl)
  rw [he]
  show wpAny _ _ (spliced ((false, eval e X.env) :: backTo pos (starEach [] X.env))) _ _ s
  refine Calls.spliced_cons (thn (h.run pins s σ H _ I hq) fun u s1 ⟨H1, sc, fp, I1, hex, M⟩ => ?_)
  refine Calls.spliced_nil ?_
  obtain ⟨a, g, N, rfl, h1, h2, h3, h4, h5, h6, h7, h8⟩ := M.live (A := X.A.in1) (s2 := s1) hr.in1.in1 I1.ok.frames
  refine call_function_tree F.kind_any F.plain_any F.entry_any (F.args_any1 _) ?_
  unfold Builtin.«any»
  refine wpAny_bind (m := oneArg "any" _) (wpAny_pure ?_)
  refine wpAny_bind (wpAny_pyIter_gen h3 ?_)
  refine wpAny_pure ⟨plainId_quiet F.plain_any_loop _, any_loop (A := X.A) hr.hd (by have := hr.dp; show X.A.depth < _; omega) (fun b H' s' aw hq => ?_) N s1 (h8 [] (bRel false) (fun b hb => by cases hb) bStable (fun _ _ e => e) (fun b hb => by cases hb) rfl rfl (fun y hy => by cases hy))⟩
  exact ⟨.bl b, H', back I1 hex aw, rfl, hq⟩

/-! ### sum -/
def intOf : V → Int
  | .int i => i
  | _ => 0
def sumV (ys : List V) : Int := (ys.map intOf).sum
def sRel (S : Addr) : Rel := fun ys s => ∃ c t, s.heap.get? S = some (lstObj #[.int (sumV ys) t] c)
theorem sStable {S : Addr} : Stable [S] (sRel S) := ⟨fun ys s s' h ⟨c, t, e⟩ => ⟨c, t, by rw [h S (List.mem_singleton.mpr rfl)]; exact e⟩⟩
def kSum (Q : VK) : GK := ⟨fun ys y _ => ∃ i, y = .int i ∧ InLong i ∧ InLong (sumV ys + i), fun _ => True, fun ys H => Q (.int (sumV ys)) H⟩
theorem sumV_snoc (ys : List V) (i : Int) : sumV (ys ++ [.int i]) = sumV ys + i := by
  unfold sumV
  rw [List.map_append, List.sum_append]
  show _ + (i + 0) = _
  rw [Int.add_zero]
theorem sum_loop {A : Around} {R : Result → Shared → Prop} {Q : VK} {S : Addr} (hh : A.handled = none) (hd : A.depth < recursionLimit) (hSa : a ≠ S) (hSc : cStatics ≠ S)
    (hR : ∀ i t H' s', Aw X sc fp H1 a g [S] H' s' → Q (.int i) H' → R (.ok (.ret (.int i t))) s') :
    ∀ (n : Nat) (s : Shared) (ys0 : List V), sRel S ys0 s → Live X sc fp H1 a g [S] (sRel S) N (kSum Q) A.in1.in1 n s → codeAny (model X.prog X.w) A (.builtin "sum.loop" ⟨[.ref a, .ref S, rawInt 0, rawInt 0], []⟩) R s := by
  intro n
  induction n with
  | zero =>
    intro s ys0 ⟨c, t, hS⟩ L
    refine codeAny_builtin F.entry_sum_loop ?_
    rw [Around.under_plainId F.plain_sum_loop _]
    show wpAny _ A.in1 (seqItems? (.ref S) >>= _) _ _ s
    refine wpAny_bind (wpAny_seqItems hS rfl ?_)
    show wpAny _ A.in1 (tryCatch (pyNext (.ref a)) _ >>= _) _ _ s
    refine wpAny_bind (wpAny_tryCatch (next (A := A.in1) hh hd sStable (by simpa using hSa) (by simpa using hSc) L (fun ys x v H' s1 h00 hn rv aw hrl md hgo => ?_) fun ys H' s1 h00 hn aw hrl dn => ?_))
    · obtain ⟨i, rfl, f1, f2⟩ := md
      obtain ⟨c1, t1, e1⟩ := hrl
      have := (hgo trivial { s1 with heap := s1.heap.update S (fun o => { o with data := .seq #[.int (sumV (ys ++ [.int i])) t1] c1 }) } rfl rfl (fun b o hb e => (Heap.get?_update_other _ _ (fun h : S = b => hb (by rw [h]; exact List.mem_singleton.mpr rfl))).trans e) (fun b hb => ?_) ?_).1
      · omega
      · rw [List.mem_singleton.mp hb]
        exact ⟨_, Heap.get?_update_self _ e1 rfl, fun v q => by cases q⟩
      · exact ⟨c1, t1, Heap.get?_update_self _ e1 rfl⟩
    · obtain ⟨c1, t1, e1⟩ := hrl
      have e2 := (h00 S (List.mem_singleton.mpr rfl)).symm.trans e1
      rw [hS] at e2
      have e3 : sumV ys0 = sumV ys := by
        have q := Option.some.inj e2
        simp only [lstObj, Obj.mk.injEq, Data.seq.injEq, Array.mk.injEq, List.cons.injEq, Value.int.injEq] at q
        exact q.2.2.1.1.1.1
      have dn : Q (.int (sumV ys)) H' := dn
      rw [← e3] at dn
      exact wpAny_pure (hR _ t H' s1 aw dn)
  | succ n ih => 
    intro s ys0 ⟨c, t, hS⟩ L
    refine codeAny_builtin F.entry_sum_loop ?_
    rw [Around.under_plainId F.plain_sum_loop _]
    show wpAny _ A.in1 (seqItems? (.ref S) >>= _) _ _ s
    refine wpAny_bind (wpAny_seqItems hS rfl ?_)
    show wpAny _ A.in1 (tryCatch (pyNext (.ref a)) _ >>= _) _ _ s
    refine wpAny_bind (wpAny_tryCatch (next (A := A.in1) hh hd sStable (by simpa using hSa) (by simpa using hSc) L (fun ys x v H' s1 h00 hn rv aw hrl md hgo => ?_) fun ys H' s1 h00 hn aw hrl dn => ?_))
    · obtain ⟨i, rfl, f1, f2⟩ := md
      obtain ⟨tv, rfl⟩ : ∃ u, v = Value.int i u := rv
      obtain ⟨c1, t1, e1⟩ := id hrl
      have e2 := (h00 S (List.mem_singleton.mpr rfl)).symm.trans e1
      rw [hS] at e2
      have e3 : sumV ys0 = sumV ys := by
        have q := Option.some.inj e2
        simp only [lstObj, Obj.mk.injEq, Data.seq.injEq, Array.mk.injEq, List.cons.injEq, Value.int.injEq] at q
        exact q.2.2.1.1.1.1
      have hc : ((decide (-(2 ^ 63) ≤ i) && decide (i < 2 ^ 63)) && (decide (-(2 ^ 63) ≤ sumV ys0 + i) && decide (sumV ys0 + i < 2 ^ 63))) = true := by
        rw [e3]
        simp only [Bool.and_eq_true, decide_eq_true_eq]
        exact ⟨⟨f1.1, f1.2⟩, f2.1, f2.2⟩
      show wpAny _ A.in1 (if (_ : Bool) = true then (mkInt (sumV ys0 + i) >>= _) else _) _ _ _
      split
      · refine wpAny_bind (wpAny_mkInt ?_)
        show wpAny _ A.in1 (updateSeq S (fun _ => #[.int (sumV ys0 + i) s1.toks]) >>= _) _ _ _
        refine wpAny_bind ?_
        have hnew : sRel S (ys ++ [.int i]) { s1 with toks := s1.toks + 1, heap := s1.heap.update S (Obj.mapSeq (fun _ => #[.int (sumV ys0 + i) s1.toks])) } := by
          rw [e3]
          obtain ⟨c9, h9⟩ : ∃ c9, Obj.mapSeq (fun _ => #[Value.int (sumV ys + i) s1.toks]) (lstObj #[.int (sumV ys) t1] c1) = lstObj #[Value.int (sumV ys + i) s1.toks] c9 := ⟨_, rfl⟩
          refine ⟨c9, s1.toks, ?_⟩
          rw [sumV_snoc, ← h9]
          exact Heap.get?_update_self _ e1 rfl
        refine wpAny_updateSeq e1 rfl (wpAny_pure ⟨plainId_quiet F.plain_sum_loop _, ih _ (ys ++ [.int i]) hnew (hgo trivial { s1 with toks := s1.toks + 1, heap := s1.heap.update S (Obj.mapSeq (fun _ => #[.int (sumV ys0 + i) s1.toks])) } rfl rfl (fun b o hb e => ?_) (fun b hb => ?_) hnew).2⟩)
        · exact (Heap.get?_update_other _ _ (fun h : S = b => hb (by rw [h]; exact List.mem_singleton.mpr rfl))).trans e
        · rw [List.mem_singleton.mp hb]
          exact ⟨_, Heap.get?_update_self _ e1 rfl, fun v q => by cases q⟩
      · rename_i hneg
        exact absurd hc hneg
    · obtain ⟨c1, t1, e1⟩ := hrl
      have e2 := (h00 S (List.mem_singleton.mpr rfl)).symm.trans e1
      rw [hS] at e2
      have e3 : sumV ys0 = sumV ys := by
        have q := Option.some.inj e2
        simp only [lstObj, Obj.mk.injEq, Data.seq.injEq, Array.mk.injEq, List.cons.injEq, Value.int.injEq] at q
        exact q.2.2.1.1.1.1
      have dn : Q (.int (sumV ys)) H' := dn
      rw [← e3] at dn
      exact wpAny_pure (hR _ t H' s1 aw dn)
def tSum (tg : TGS) : TE := fun σ H Q => tg σ H (kSum Q)
variable {e : Expr} {tg : TGS} {p pos : Pos}
theorem pe_sum (h : PSrc X k e tg) (hr : Room (k + 2) X.A) (hg : Gl X "sum") (hm : X.mg "sum" = none) (he : starEach [e] X.env = (false, eval e X.env) :: starEach [] X.env := by rfl) :
    PE X (.Call (.Name "sum" p) [e] [] pos) (tSum tg) := by
  refine ⟨fun pins s σ H Q I hq => ?_⟩
  refine wpAny_Call_Name_kw (ld_blt I hg hm boot_sum ?_)
  refine PyProof.Rows.callWith_builtin1 ?_ he (by rfl)
  rw [he]
  show wpAny _ _ (spliced ((false, eval e X.env) :: backTo pos (starEach [] X.env))) _ _ s
  refine Calls.spliced_cons (thn (h.run pins s σ H _ I hq) fun u s1 ⟨H1, sc, fp, I1, hex, M⟩ => ?_)
  refine Calls.spliced_nil ?_
  refine call_function_tree F.kind_sum F.plain_sum F.entry_sum (F.args_sum1 _) ?_
  have hM := fun s2 => M.live (A := X.A.in1) (s2 := s2) hr.in1.in1 I1.ok.frames
  obtain ⟨a, g, c, N0, rfl, q1, q2, q3, _⟩ := id M
  unfold Builtin.«sum»
  simp only [List.length_cons, List.length_nil]
  rw [if_neg (by decide)]
  refine wpAny_bind (wpAny_of_eq (show Builtin.Builtins.bindParams "sum" ["start"] 0 { } = pure [none] from rfl) ?_)
  refine wpAny_bind (wpAny_pyIter_gen q3 ?_)
  refine wpAny_bind (wpAny_mkInt ?_)
  refine wpAny_bind (wpAny_pure ?_)
  simp only [List.forIn_cons, List.forIn_nil]
  refine wpAny_bind (wpAny_bind (wpAny_bind (wpAny_isInstance (T := "int") (b := false) (typeIs_int _ _ _) PySem.sub_int_str ?_)))
  simp only [Bool.false_eq_true, if_false]
  refine wpAny_pure (wpAny_bind (wpAny_bind (wpAny_isInstance (T := "int") (b := false) (typeIs_int _ _ _) PySem.sub_int_bytes ?_)))
  simp only [Bool.false_eq_true, if_false]
  refine wpAny_pure (wpAny_bind (wpAny_bind (wpAny_isInstance (T := "int") (b := false) (typeIs_int _ _ _) PySem.sub_int_bytearray ?_)))
  simp only [Bool.false_eq_true, if_false]
  refine wpAny_pure (wpAny_pure ?_)
  refine wpAny_bind (wpAny_newObj_type ?_)
  obtain ⟨a', g', N, e', h1, h2, h3, h4, h5, h6, h7, h8⟩ := hM { s1 with heap := s1.heap.push { cls := .type "list", data := .seq ([Value.int 0 s1.toks] : List Value).toArray }, toks := s1.toks + 1 }
  cases e'
  have kp : ∀ b o, s1.heap.get? b = some o → (s1.heap.push { cls := .type "list", data := .seq ([Value.int 0 s1.toks] : List Value).toArray }).get? b = some o := fun b o e => Heap.get?_push_of_some _ e
  have hS : (s1.heap.push { cls := .type "list", data := .seq ([Value.int 0 s1.toks] : List Value).toArray }).get? s1.heap.objs.size = some (lstObj #[.int 0 s1.toks] 0) := Heap.get?_push_size _ rfl
  have hcl : cStatics < s1.heap.objs.size := let ⟨_, hn, _⟩ := h4; hn.lt
  have hr0 : sRel s1.heap.objs.size [] { s1 with heap := s1.heap.push { cls := .type "list", data := .seq ([Value.int 0 s1.toks] : List Value).toArray }, toks := s1.toks + 1 } := ⟨0, s1.toks, hS⟩
  refine wpAny_pure ⟨plainId_quiet F.plain_sum_loop _, sum_loop (A := X.A) (S := s1.heap.objs.size) (N := N) (g := g') hr.hd (by have := hr.dp; show X.A.depth < _; omega) (Nat.ne_of_lt h2) (Nat.ne_of_lt hcl) (fun i t H' s' aw hq => ?_) N _ [] hr0
    (h8 [s1.heap.objs.size] (sRel s1.heap.objs.size) (fun b hb => by rw [List.mem_singleton.mp hb]; exact Nat.le_refl _) sStable kp (fun b hb => by rw [List.mem_singleton.mp hb]; exact ⟨_, hS, fun v q => by cases q⟩) rfl rfl hr0)⟩
  exact ⟨.int i, H', back I1 hex aw, ⟨t, rfl⟩, hq⟩
end
end Gx
set_option Elab.async false
set_option linter.all false
set_option maxRecDepth 100000
set_option maxHeartbeats 4000000
namespace Gx
open PySem PySem.Spec PyProof.Rows L2 GenW

section
variable {X : Cx} {sc : Shared} {fp : List Addr} {H1 : Hp} {a : Addr} {g : Nat} {N : Nat} {k : Nat}
/-! ### a list that the consumer fills -/
def lRel (S : Addr) : Rel := fun ys s => ∃ acc c, s.heap.get? S = some (lstObj acc c) ∧ Vals ys acc.toList
theorem lStable {S : Addr} : Stable [S] (lRel S) := ⟨fun ys s s' h ⟨acc, c, e, r⟩ => ⟨acc, c, by rw [h S (List.mem_singleton.mpr rfl)]; exact e, r⟩⟩
def kLst (D : List V → Hp → Prop) : GK := ⟨fun ys _ _ => ys.length < sizeLine, fun _ => True, D⟩
theorem lRel_push {S : Addr} {ys : List V} {x : V} {v : Value} {s : Shared} {acc : Array Value} {c : Nat} (e : s.heap.get? S = some (lstObj acc c)) (r : Vals ys acc.toList) (rv : RelV x v) : lRel S (ys ++ [x]) { s with heap := s.heap.update S (Obj.mapSeq (·.push v)) } := by
  obtain ⟨c9, h9⟩ : ∃ c9, Obj.mapSeq (·.push v) (lstObj acc c) = lstObj (acc.push v) c9 := ⟨_, rfl⟩
  refine ⟨acc.push v, c9, ?_, ?_⟩
  · rw [← h9]
    exact Heap.get?_update_self _ e rfl
  · rw [Array.toList_push]
    exact r.append (.cons rv .nil)
theorem ext_loop {A : Around} {R : Result → Shared → Prop} {D : List V → Hp → Prop} {S : Addr} {res : Value} (hh : A.handled = none) (hd : A.depth < recursionLimit) (hSa : a ≠ S) (hSc : cStatics ≠ S)
    (hR : ∀ ys H' s', Aw X sc fp H1 a g [S] H' s' → lRel S ys s' → D ys H' → R (.ok (.ret res)) s') :
    ∀ (n : Nat) (s : Shared), Live X sc fp H1 a g [S] (lRel S) N (kLst D) A.in1.in1 n s → codeAny (model X.prog X.w) A (.builtin "list.extend.loop" ⟨[.ref S, .ref a, res], []⟩) R s := by
  intro n
  have sl : ∀ {ys : List V} {acc : Array Value}, Vals ys acc.toList → acc.size = ys.length := fun {ys acc} r => by
    have e1 := r.length
    have e2 : acc.toList.length = acc.size := by simp
    omega
  induction n with
  | zero =>
    intro s L
    refine codeAny_builtin F.entry_extend_loop ?_
    rw [Around.under_plainId F.plain_extend_loop _]
    show wpAny _ A.in1 (pyNext (.ref a) >>= _) _ _ s
    refine wpAny_bind (next (A := A.in1) hh hd lStable (by simpa using hSa) (by simpa using hSc) L (fun ys x v H' s1 h00 hn rv aw hrl md hgo => ?_) fun ys H' s1 h00 hn aw hrl dn => ?_)
    · obtain ⟨acc, c1, e1, r1⟩ := hrl
      have := (hgo trivial { s1 with heap := s1.heap.update S (Obj.mapSeq (·.push v)) } rfl rfl (fun b o hb e => (Heap.get?_update_other _ _ (fun h : S = b => hb (by rw [h]; exact List.mem_singleton.mpr rfl))).trans e) (fun b hb => ?_) (lRel_push e1 r1 rv)).1
      · omega
      · rw [List.mem_singleton.mp hb]
        exact ⟨_, Heap.get?_update_self _ e1 rfl, fun v q => by cases q⟩
    · exact wpAny_pure (hR ys H' s1 aw hrl dn)
  | succ n ih =>
    intro s L
    refine codeAny_builtin F.entry_extend_loop ?_
    rw [Around.under_plainId F.plain_extend_loop _]
    show wpAny _ A.in1 (pyNext (.ref a) >>= _) _ _ s
    refine wpAny_bind (next (A := A.in1) hh hd lStable (by simpa using hSa) (by simpa using hSc) L (fun ys x v H' s1 h00 hn rv aw hrl md hgo => ?_) fun ys H' s1 h00 hn aw hrl dn => ?_)
    · obtain ⟨acc, c1, e1, r1⟩ := hrl
      have hz : ys.length < sizeLine := md
      have hz1 := sl r1
      show wpAny _ A.in1 (updateSeq S (·.push v) >>= _) _ _ _
      refine wpAny_bind ?_
      refine wpAny_updateSeq e1 rfl (wpAny_pure ⟨plainId_quiet F.plain_extend_loop _, ih _ (hgo trivial { s1 with heap := s1.heap.update S (Obj.mapSeq (·.push v)) } rfl rfl (fun b o hb e => ?_) (fun b hb => ?_) (lRel_push e1 r1 rv)).2⟩) (by omega) (by show (acc.push v).size ≤ sizeLine + 1; rw [Array.size_push]; omega)
      · exact (Heap.get?_update_other _ _ (fun h : S = b => hb (by rw [h]; exact List.mem_singleton.mpr rfl))).trans e
      · rw [List.mem_singleton.mp hb]
        exact ⟨_, Heap.get?_update_self _ e1 rfl, fun v q => by cases q⟩
    · exact wpAny_pure (hR ys H' s1 aw hrl dn)

theorem collect_gx {A : Around} {D : List V → Hp → Prop} {s : Shared} {u : Value} {Q : List Value → Shared → Prop} {E : Value → Shared → Prop} (M : Made X k H1 sc fp (kLst D) u s) (hr : Room k A.in1.in1) (hfr : A.frames = some X.stack)
    (hQ : ∀ ys acc S a g H' s', Aw X sc fp H1 a g [S] H' s' → Vals ys acc → D ys H' → Q acc s') : wpAny (model X.prog X.w) A (collect u) Q E s := by
  have hM := fun s2 => M.live (A := A.in1) (s2 := s2) hr hfr
  obtain ⟨a, g, c, N0, rfl, q1, q2, q3, q4, q5, q6, q7, _⟩ := id M
  have hcl : cStatics < s.heap.objs.size := let ⟨_, hn, _⟩ := q7; hn.lt
  have hSI : s.heap.objs.size ≠ a := Nat.ne_of_gt q2
  unfold collect
  refine wpAny_bind (wpAny_runValue (codeAny_builtin F.entry_proto_collect ?_))
  rw [Around.under_plainId F.plain_proto_collect _]
  show wpAny _ A.in1 (newList [] >>= fun l => again (.builtin "list.__iadd__" ⟨[l, .ref a], []⟩)) _ _ s
  refine wpAny_bind (wpAny_newObj_type ?_)
  refine wpAny_pure ⟨plainId_quiet F.plain_list_iadd _, codeAny_builtin F.entry_list_iadd ?_⟩
  rw [Around.under_plainId F.plain_list_iadd _]
  have kp : ∀ b o, s.heap.get? b = some o → (s.heap.push { cls := .type "list", data := .seq ([] : List Value).toArray }).get? b = some o := fun b o e => Heap.get?_push_of_some _ e
  show wpAny _ A.in1 (Builtin.List.listExtendWith (.ref s.heap.objs.size) (.ref a) (.ref s.heap.objs.size)) _ _ _
  unfold Builtin.List.listExtendWith
  refine wpAny_bind (wpAny_typeOf (Heap.IsGen.typeIs (s := { s with heap := _ }) (q3.keeps kp)) ?_)
  have h1 : Builtin.List.listSameRef (.ref s.heap.objs.size) (.ref a) = false := by simp [Builtin.List.listSameRef, hSI]
  have h2 : (Value.type "generator" == Value.type "list") = false := by decide
  have h3 : (Value.type "generator" == Value.type "tuple") = false := by decide
  simp only [h1, h2, h3, Bool.or_false, Bool.false_eq_true, if_false]
  refine wpAny_bind (wpAny_pyIter_gen (s := { s with heap := _ }) (q3.keeps kp) ?_)
  refine wpAny_bind (wpAny_holding ?_)
  unfold Builtin.List.listLengthHint
  refine wpAny_bind (wpAny_specialOf (Heap.IsGen.typeIs (s := { s with heap := _ }) (q3.keeps kp)) F.gen_no_len ?_)
  show wpAny _ A.in1 (specialOf (Value.ref a) (Str.ofString "__length_hint__") >>= _) _ _ _
  refine wpAny_bind (wpAny_specialOf (Heap.IsGen.typeIs (s := { s with heap := _ }) (q3.keeps kp)) F.gen_no_hint ?_)
  refine wpAny_pure ?_
  show wpAny _ A.in1 (rule "list.extend.makes-room" >>= fun _ => Builtin.List.listTouch (.ref s.heap.objs.size) >>= fun _ =>
    again (.builtin "list.extend.loop" ⟨[.ref s.heap.objs.size, .ref a, .ref s.heap.objs.size], []⟩)) _ _ _
  refine wpAny_bind (wpAny_rule ?_)
  have hS₁ : (s.heap.push { cls := .type "list", data := .seq ([] : List Value).toArray }).get? s.heap.objs.size = some { cls := .type "list", data := .seq ([] : List Value).toArray } := Heap.get?_push_size _ rfl
  refine wpAny_bind ?_
  show wpAny _ A.in1 (updateSeq s.heap.objs.size (·.push .none) >>= fun _ => updateSeq s.heap.objs.size (·.pop)) _ _ _
  refine wpAny_bind (wpAny_updateSeq hS₁ rfl ?_)
  have hS₂ := Heap.get?_update_self (Obj.mapSeq (·.push Value.none)) hS₁ rfl
  refine wpAny_updateSeq hS₂ rfl ?_
  have hS₃ := Heap.get?_update_self (Obj.mapSeq (·.pop)) hS₂ rfl
  have oth : ∀ b o, b ≠ s.heap.objs.size → (s.heap.push { cls := .type "list", data := .seq ([] : List Value).toArray }).get? b = some o →
      (((s.heap.push { cls := .type "list", data := .seq ([] : List Value).toArray }).update s.heap.objs.size (Obj.mapSeq (·.push Value.none))).update s.heap.objs.size (Obj.mapSeq (·.pop))).get? b = some o :=
    fun b o hb e => (Heap.get?_update_other _ _ (Ne.symm hb)).trans ((Heap.get?_update_other _ _ (Ne.symm hb)).trans e)
  obtain ⟨a', g', N, e', h1, h2, h3, h4, h5, h6, h7, h8⟩ := hM { s with heap := ((s.heap.push { cls := .type "list", data := .seq ([] : List Value).toArray }).update s.heap.objs.size (Obj.mapSeq (·.push Value.none))).update s.heap.objs.size (Obj.mapSeq (·.pop)) }
  cases e'
  refine wpAny_pure ⟨plainId_quiet F.plain_extend_loop _, ext_loop (A := A) (S := s.heap.objs.size) (N := N) (g := g') (D := D) hr.hd (by have := hr.dp; show A.depth < _; have e9 : A.in1.in1.depth = A.depth := rfl; omega) (Ne.symm hSI) (Nat.ne_of_lt hcl) (fun ys H' s' aw hrl dn => ?_) N _
    (h8 [s.heap.objs.size] (lRel s.heap.objs.size) (fun b hb => by rw [List.mem_singleton.mp hb]; exact Nat.le_refl _) lStable (fun b o e => oth b o (Nat.ne_of_lt (Heap.lt_size e)) (kp b o e)) (fun b hb => by rw [List.mem_singleton.mp hb]; exact ⟨_, hS₃, fun v q => by cases q⟩) rfl rfl ⟨_, _, hS₃, .nil⟩)⟩
  obtain ⟨acc, c1, e1, r1⟩ := hrl
  show wpAny _ A (load s.heap.objs.size >>= _) _ _ s'
  refine wpAny_bind (wpAny_load e1 ?_)
  exact wpAny_pure (hQ ys acc.toList s.heap.objs.size a g' H' s' aw r1 dn)

/-! ### tuple(g) -/
def kTup (Q : VK) : GK := kLst fun ys H => ys.length ≤ sizeLine ∧ ∀ p, H p = none → Q (.ref p) (upd H p (.tup ys))
def tTupG (tg : TGS) : TE := fun σ H Q => tg σ H (kTup Q)
variable {e : Expr} {tg : TGS} {p pos : Pos}
theorem pe_tupG (h : PSrc X k e tg) (hr : Room (k + 4) X.A) (hg : Gl X "tuple") (hm : X.mg "tuple" = none) (hv : bootBuiltins "tuple" = some (.type "tuple")) (he : starEach [e] X.env = (false, eval e X.env) :: starEach [] X.env := by rfl) :
    PE X (.Call (.Name "tuple" p) [e] [] pos) (tTupG tg) := by
  refine ⟨fun pins s σ H Q I hq => ?_⟩
  refine wpAny_Call_Name_kw (ld_blt I hg hm hv ?_)
  refine PyProof.Rows.callWith_type1 ?_ he rfl
  rw [he]
  show wpAny _ _ (spliced ((false, eval e X.env) :: backTo pos (starEach [] X.env))) _ _ s
  refine Calls.spliced_cons (thn (h.run pins s σ H _ I hq) fun u s1 ⟨H1, sc, fp, I1, hex, M⟩ => ?_)
  refine Calls.spliced_nil ?_
  have hT : s1.TypeIs u "generator" := by
    obtain ⟨a, g, c, N, rfl, _, _, h3, _⟩ := id M
    exact h3.typeIs
  have main : codeAny (model X.prog X.w) X.A.in1 (.call (.builtin "tuple.__new__") ⟨[.type "tuple", u], []⟩) (wants (fun obj s2 => s2.TypeIs obj "tuple" ∧ EP X pins σ Q obj s2) X.xe) s1 := by
    refine codeAny_of_tree ?_
    show wpAny _ X.A.in1.in1 (do checkBuiltinCall "tuple.__new__" ⟨[.type "tuple", u], []⟩; again (.builtin "tuple.__new__" ⟨[.type "tuple", u], []⟩)) _ _ s1
    refine wpAny_bind (wpAny_of_eq (F.newCall_tuple_1 _) (wpAny_pure ⟨plainId_quiet F.plain_tuple_new _, codeAny_builtin F.entry_tuple_new ?_⟩))
    rw [Around.under_plainId F.plain_tuple_new _]
    have hsub := sub_tuple_self
    have hinit := init_tuple_lookup
    have hmh := madeHere_tuple
    have cg := fun (Q : List Value → Shared → Prop) (E : Value → Shared → Prop) hQ => collect_gx (A := X.A.in1.in1) (Q := Q) (E := E) M hr.in1.in1.in1.in1 I1.ok.frames hQ
    obtain ⟨a, g, c, N, rfl, _⟩ := id M
    wp_walk using wpAny_typeOf hT, cg
    intro ys acc S a' g' H' s' aw r dn
    obtain ⟨hz, dn⟩ := dn
    show wpAny _ _ (Builtin.Tuple.tupleExact acc.toArray >>= fun v => ret v) _ _ _
    unfold Builtin.Tuple.tupleExact
    refine wpAny_bind (wpAny_newObj_type ?_ (by show acc.toArray.size ≤ sizeLine; rw [List.size_toArray, ← r.length]; exact hz))
    refine wpAny_pure ⟨⟨_, Heap.get?_push_size _ rfl, rfl⟩, ?_⟩
    have I2 := back I1 hex aw
    have hf : H' s'.heap.objs.size = none := I2.hok.fresh (Nat.le_refl _)
    refine ⟨.ref s'.heap.objs.size, upd H' s'.heap.objs.size (.tup ys), I2.laid (t' := s'.toks) (fun b u e => Heap.get?_push_of_some _ e) (Nat.le_refl _) ?_, rfl, dn _ hf⟩
    exact ⟨hz, acc, r, ⟨_, Heap.get?_push_size _ rfl, rfl, _, rfl⟩⟩
  refine callType_codes (Q₁ := fun obj s₁ => s₁.TypeIs obj "tuple" ∧ EP X pins σ Q obj s₁) F.called_tuple (F.typeCall_tuple_1 _) F.entry_object_init main fun obj s₁ h₁ => ?_
  exact ⟨h₁.1, F.args_object_init_2 obj _, object_init_meets F.called_tuple.init.lookup F.called_tuple.made (by decide) X.prog X.w X.A.in1 _ s₁ ⟨h₁.1, rfl, h₁.2⟩⟩
end
end Gx
set_option Elab.async false
set_option linter.all false
set_option maxRecDepth 100000
set_option maxHeartbeats 4000000
namespace Gx
open PySem PySem.Spec PyProof.Rows L2 GenW

/-! ### defs whose code object is known by its address (for their generator expressions) -/
structure FunT (K : PySem.W.Frag) (x qual : Str) (st : Stmt) (f : Addr) (fd : FuncData) (c : Addr) : Prop where
  ex : ∃ (oc : Value) (od : Option Addr) (kV doc pm : Value) (an : Option Addr) (ct : Value) (osl : Array (Option Value)),
    fd = PySem.W.fnOf x qual (defArgs st) (defBody st) (defScope st) .none kV doc pm an (.ref c) ct ∧ K.lookup f = some ⟨oc, od, .func fd, osl⟩ ∧ PySem.W.codeIn K (.ref c) qual = true
  kp : PySem.W.keepIn K (.ref f) = true
section
variable {P : Program} {w : World} {K : PySem.W.Frag} {mg : Str → Option Value} {base : Heap}
theorem FunT.toFun {x qual : Str} {st : Stmt} {f c : Addr} {fd : FuncData} (F : FunT K x qual st f fd c) : Fun K x qual st f fd := by
  obtain ⟨oc, od, kV, doc, pm, an, ct, osl, e, l, h⟩ := F.ex
  exact ⟨⟨oc, od, kV, doc, pm, an, .ref c, ct, osl, e, l, h⟩, F.kp⟩
theorem funT_mk {x qual : Str} {st : Stmt} {f c : Addr} {oc : Value} {od an : Option Addr} {osl : Array (Option Value)} {kV doc pm ct : Value} (l : K.lookup f = some ⟨oc, od, .func (PySem.W.fnOf x qual (defArgs st) (defBody st) (defScope st) .none kV doc pm an (.ref c) ct), osl⟩)
    (h : PySem.W.codeIn K (.ref c) qual = true) (k : PySem.W.keepIn K (.ref f) = true) : FunT K x qual st f (PySem.W.fnOf x qual (defArgs st) (defBody st) (defScope st) .none kV doc pm an (.ref c) ct) c := ⟨⟨oc, od, kV, doc, pm, an, ct, osl, rfl, l, h⟩, k⟩
theorem FunT.ok {x qual : Str} {st : Stmt} {f c : Addr} {fd : FuncData} {N ps : List Str} {k : Nat} {sp : Sp} (F : FunT K x qual st f fd c) (S : FnScope N ps (defScope st)) (len : ∀ vs H Q E, sp vs H Q E → vs.length = ps.length)
    (hbody : ∀ (A : Around) (outer : List Env) (s : Shared) (H : Hp) (vs : List V) (Q : VK) (E : XK), Room k (A.deeper (envOfC qual (defScope st) s.heap.objs.size f (.ref c))) → sp vs H Q E →
      ∃ t, PSs (cxOf CX0 P w K mg base N qual (defScope st) f (.ref c) A outer s H E).nox (defBody st) t ∧ t { nx := fun _ H' => Q .non H', rt := Q } (start N vs) H) : FnOk P w K mg base CX0 (k + 1) f fd ps sp := by
  obtain ⟨oc, od, kV, doc, pm, an, ct, osl, rfl, lk, hcd⟩ := F.ex
  refine fn_of lk hcd S len fun A outer s H vs Q E hr hsp => ?_
  obtain ⟨t, h, q⟩ := hbody A outer s H vs Q E hr hsp
  exact ⟨t, h.nox, q⟩

/-! ### defs that are called where no repr runs -/
structure FnG (P : Program) (w : World) (K : PySem.W.Frag) (mg : Str → Option Value) (base : Heap) (k : Nat) (f : Addr) (fd : FuncData) (ps : List Str) (sp : Sp) : Prop where
  len : ∀ vs H Q E, sp vs H Q E → vs.length = ps.length
  run : ∀ (A : Around) (outer : List Env) (s : Shared) (H : Hp) (args : Args) (us : List Value) (vs : List V) (Q : VK) (E : XK), A.guards = some [] → Room k A → Env0 P w K mg base A outer s H → BindsTo s fd args (ps.zip us) → Vals vs us → sp vs H Q E →
    codeAny (model P w) A (.call (.ref f) args) (CR CX0 outer P w H s Q E) s
theorem okG {x qual : Str} {st : Stmt} {f : Addr} {fd : FuncData} {N ps : List Str} {k : Nat} {sp : Sp} (F : Fun K x qual st f fd) (S : FnScope N ps (defScope st)) (len : ∀ vs H Q E, sp vs H Q E → vs.length = ps.length)
    (hbody : ∀ (cdv : Value) (A : Around) (outer : List Env) (s : Shared) (H : Hp) (vs : List V) (Q : VK) (E : XK), A.guards = some [] → Room k (A.deeper (envOfC qual (defScope st) s.heap.objs.size f cdv)) → sp vs H Q E →
      ∃ t, PSs (cxOf CX0 P w K mg base N qual (defScope st) f cdv A outer s H E).nox (defBody st) t ∧ t { nx := fun _ H' => Q .non H', rt := Q } (start N vs) H) : FnG P w K mg base (k + 1) f fd ps sp := by
  obtain ⟨oc, od, kV, doc, pm, an, cdv, ct, osl, rfl, lk, hcd⟩ := F.ex
  refine ⟨len, fun A outer s H args us vs Q E hgd hr e0 hb r hsp => ?_⟩
  have hl := len _ _ _ _ hsp
  have old : ∀ b o, base.get? b = some o → s.heap.get? b = some o := fun b o e => (e0.bs b o e).1
  have KX : K.In s.heap := e0.mod.kin.keeps old
  have own : ∀ y ∈ ps.zip us, (defScope st).names.lookup y.1 = some .local ∨ ((defScope st).names.lookup y.1 = some .cell ∧ ((cellsFrom (s.heap.objs.size + 1) (defScope st).names []).lookup y.1).isSome = true) := by
    rintro ⟨n, v⟩ hy
    rcases S.par n (List.of_mem_zip hy).1 with q | q
    · exact .inl q
    · exact .inr ⟨q, PySem.W.cellsFrom_some _ _ _ (.inl q)⟩
  refine codeAny_call_function hr.depth (KX _ _ lk) rfl S.co S.gen rfl (PySem.W.codeRec_of KX hcd) (hb _ _ _ _ ?_)
  refine wpAny_newFunctionEnv_cells S.kind own ?_
  rintro env rfl s1 x
  refine ⟨(e0.mod.nolimit.keeps old).keeps x.toInCall.keep, codeAny_func ?_⟩
  obtain ⟨t, ht, hq⟩ := hbody cdv A outer s H vs Q E hgd (hr.deeper _) hsp
  have I := inv_start (CX := CX0) (E := E) S hr.hd e0 hl r x
  refine wpAny_mono (ht.nox.run [] s1 (start N vs) H _ I hq) (fun fl s' hs => ?_) fun e s' hs => hs
  cases fl with
  | ret u =>
    obtain ⟨v, σ', H', J, rv, q⟩ := hs
    exact ⟨v, H', J.os, J.bare, J.base, J.hok, rv, q⟩
  | next =>
    obtain ⟨σ', H', J, q⟩ := hs
    exact ⟨.non, H', J.os, J.bare, J.base, J.hok, rfl, q⟩
  | brk => exact let ⟨_, _, _, q⟩ := hs; q.elim
  | cont => exact let ⟨_, _, _, q⟩ := hs; q.elim

section
variable {X : Cx} {k : Nat} {f : Addr} {fd : FuncData} {ps : List Str} {sp : Sp} {x : Str} {p pos : Pos} {e : Expr} {es : List Expr} {t : TA}
theorem pe_callG (F : FnG X.prog X.w X.K X.mg X.base k f fd ps sp) (hgd : X.A.guards = some []) (hr : Room k X.A) (hg : Gl X x) (hm : X.mg x = some (.ref f)) (hk : PySem.W.keepIn X.K (.ref f) = true) (hb : Binds X.K fd ps [])
    (ha : PA X (e :: es) t) (hdb : (x == ("__debug__" : Str)) = false := by decide) (he : starEach (e :: es) X.env = (false, eval e X.env) :: starEach es X.env := by rfl) (hpl : (backTo pos (starEach es X.env)).any (·.1) = false := by rfl) :
    PE X (.Call (.Name x p) (e :: es) [] pos) (fun σ H Q => t σ H fun vs H1 => sp vs H1 Q E0) := by
  refine ⟨fun pins s σ H Q I h => ?_⟩
  refine wpAny_Call_Name_kw (ld_glob I hg hm ?_ hdb)
  refine PySem.W.callWith_K (h₀ := X.base) I.ok.mod.kin hk (thn (ha.run pos pins s σ H _ I h) fun us s1 ⟨vs, H1, I1, r, q⟩ => ⟨I1.kIn, ?_⟩) he hpl
  have hl : (us ++ []).length = ps.length := by
    rw [List.append_nil, ← r.length]
    exact F.len _ _ _ _ q
  have hb1 := hb s1 us I1.kIn hl
  rw [List.append_nil] at hb1
  refine wpAny_call (codeAny_mono (F.run X.A X.stack s1 H1 ⟨us, []⟩ us vs Q E0 hgd hr I1.env0 hb1 r q) fun r s' hq => ?_)
  cases r with
  | error e => exact False.elim hq
  | ok fl =>
    cases fl with
    | ret u => exact I1.after hq
    | next => exact False.elim hq
    | brk => exact False.elim hq
    | cont => exact False.elim hq

/-! ### repr of data -/
/-- data that repr writes -/
structure Shows (d : PyData) : Prop where
  show_ : d.showable = true
  nod : d.hasDict = false
  dep : d.depth ≤ 60
  size : d.shown.length ≤ sizeLine
  int : ∀ i, d = .int i → i.natAbs.log2 < 1920
  str : ∀ x, d ≠ .str x
def rRepr (K : PySem.W.Frag) : List V → Hp → VK → Prop := fun xs H Q => ∃ x d, xs = [x] ∧ Dp K H x d ∧ Shows d ∧ Q (.str d.shown) H
theorem call_repr (hgd : X.A.guards = some []) (hu : X.A.units + 65 < cLine) : CallR X (.builtin "repr") (rRepr X.K) := by
  intro pins s σ H xs us Q I r h
  obtain ⟨x, d, rfl, hd, S, q⟩ := h
  cases r with
  | cons r1 r2 =>
    rename_i u ut
    cases r2
    obtain ⟨as, rd⟩ := Dp.reads I d x u hd r1
    have ref : ∀ a, u = .ref a → wpAny (model X.prog X.w) X.A (call (.builtin "repr") [u]) (EP X pins σ Q) X.xe s := by
      rintro a rfl
      have := S.dep
      exact repr_of_reads' rd S.show_ (PyData.noDict_hsm S.nod) hgd (by omega) (fun _ _ e => e) (fun h' u tk hk => ⟨.str d.shown, H, I.kept (t' := tk) hk, ⟨u, rfl⟩, q⟩) S.size
    cases rd with
    | none => exact PySem.P.repr_of_none ⟨.str _, H, I.tok _, ⟨_, rfl⟩, q⟩
    | bool b => exact PySem.P.repr_of_bool ⟨.str _, H, I.tok _, ⟨_, rfl⟩, q⟩
    | int i t => exact PySem.P.repr_of_int (S.int i rfl) ⟨.str _, H, I.tok _, ⟨_, rfl⟩, q⟩
    | str z t => exact absurd rfl (S.str z)
    | list _ _ _ _ => exact ref _ rfl
    | tuple _ _ _ _ => exact ref _ rfl
    | dict _ _ _ _ _ => exact ref _ rfl
end
end
end Gx
set_option Elab.async false
set_option linter.all false
set_option maxRecDepth 100000
set_option maxHeartbeats 4000000
namespace Gx
open PySem PySem.Spec PyProof.Rows L2 GenW

/-- the abstract heap at the law's entry: the tables ts, and the script where it is none of the module's own objects -/
def entryH (K : PySem.W.Frag) (a : Addr) (o : Obj) (ns : List Int) (ts : List Addr) : Hp := fun b =>
  if b ∈ ts then some (.tbl #[]) else if b = a ∧ (K.lookup a).isNone = true then some (.frz o (.lst (ns.map V.int))) else none
section
variable {K : PySem.W.Frag} {a : Addr} {o : Obj} {ns : List Int} {ts : List Addr}
theorem entryH_tab {b : Addr} (h : b ∈ ts) : entryH K a o ns ts b = some (.tbl #[]) := if_pos h
theorem entryH_cases (b : Addr) : entryH K a o ns ts b = none ∨ (b ∈ ts ∧ entryH K a o ns ts b = some (.tbl #[])) ∨ (b ∉ ts ∧ b = a ∧ K.lookup a = none ∧ entryH K a o ns ts b = some (.frz o (.lst (ns.map V.int)))) := by
  by_cases h1 : b ∈ ts
  · exact .inr (.inl ⟨h1, entryH_tab h1⟩)
  · by_cases h2 : b = a ∧ (K.lookup a).isNone = true
    · exact .inr (.inr ⟨h1, h2.1, Option.isNone_iff_eq_none.mp h2.2, (if_neg h1).trans (if_pos h2)⟩)
    · exact .inl ((if_neg h1).trans (if_neg h2))
end
abbrev tab0 : Obj := { cls := .none, data := .fields #[] }
abbrev scrObj (vs : List Value) : Obj := { cls := .type "list", data := .seq vs.toArray }

/-- the law's call, where its promise holds with no repr around -/
theorem enterG {P : Program} {w : World} {K : PySem.W.Frag} {mg mb : Str → Option Value} {k : Nat} {fa a : Addr} {cs : List (Addr × Addr)} {fd : FuncData} {x : Str} {sp : Sp} {s : Shared} {vs : List Value} {ns : List Int}
    (KX : K.In s.heap) (gl : s.heap.Ns mainGlobals mg) (bl : s.heap.Ns builtinsNs mb) (bb : ∀ x : Str, x ≠ "__name__" → mb x = bootBuiltins x) (lim : s.heap.NoLimit) (g0 : s.gens = #[])
    (hT : ∀ p ∈ cs, s.heap.get? p.2 = some tab0 ∧ K.lookup p.2 = none ∧ PySem.W.CodeHd s.heap p.1 p.2)
    (bm : ∃ (bm : Addr) (ob : Obj), mg "__builtins__" = some (.ref bm) ∧ bm ≠ builtinsNs ∧ s.heap.get? bm = some ob ∧ ob.cls = .type "module" ∧ ob.dict = some builtinsNs ∧ ob.data = .plain)
    (ha : s.heap.get? a = some (scrObj vs)) (hi : IntsAre vs ns) (hl : ns.length ≤ sizeLine) (hr : Room k callerA) (hbind : ∀ (s : Shared) (u : Value), BindsTo s fd ⟨[u], []⟩ [(x, u)])
    (F : ∀ base : Heap, K.In base → base.Ns mainGlobals mg → (∀ p ∈ cs, GxR.TabB base mg p.1 p.2) → FnG P w K mg base k fa fd [x] sp)
    (hsp : ∀ H : Hp, (∀ p ∈ cs, GxR.TabG H p.2) → SqL K H a (ns.map V.int) → sp [.ref a] H (fun v _ => v = .bl true) E0) :
    codeAny (model P w) callerA (.call (.ref fa) ⟨[.ref a], []⟩) (fun r s' => r = .ok (.ret (.bool true)) ∧ OldK s.heap s'.heap ∧ s'.os = s.os ∧ AllBare s'.gens) s := by
  have rv := vals_ints hi
  have lenV := hi.length
  generalize hts : cs.map (·.2) = ts
  have tsT : ∀ b ∈ ts, s.heap.get? b = some tab0 ∧ K.lookup b = none := fun b hb => by
    rw [← hts] at hb
    obtain ⟨p, hp, rfl⟩ := List.mem_map.mp hb
    exact ⟨(hT p hp).1, (hT p hp).2.1⟩
  have inT : ∀ p ∈ cs, p.2 ∈ ts := fun p hp => by rw [← hts]; exact List.mem_map.mpr ⟨p, hp, rfl⟩
  have aT : a ∉ ts := fun hb => by
    have q := (tsT a hb).1
    rw [ha] at q
    exact absurd (congrArg Obj.data (Option.some.inj q)) (by intro z; cases z)
  generalize hH : entryH K a (scrObj vs) ns ts = H
  have cases_ : ∀ b, H b = none ∨ (b ∈ ts ∧ H b = some (.tbl #[])) ∨ (b ∉ ts ∧ b = a ∧ K.lookup a = none ∧ H b = some (.frz (scrObj vs) (.lst (ns.map V.int)))) := fun b => by rw [← hH]; exact entryH_cases b
  have tabs : ∀ p ∈ cs, H p.2 = some (.tbl #[]) := fun p hp => by rw [← hH]; exact entryH_tab (inT p hp)
  have hS : SqL K H a (ns.map V.int) := by
    cases hk : K.lookup a with
    | none => exact .inl (.inr ⟨scrObj vs, by rw [← hH]; exact (if_neg aT).trans (if_pos ⟨rfl, by rw [hk]; rfl⟩)⟩)
    | some u =>
      have e := KX a u hk
      rw [ha] at e
      cases e
      exact .inr ⟨_, vs.toArray, _, hk, rfl, rfl, rfl, by rw [List.size_toArray, lenV]; exact hl, by simpa using rv⟩
  have hok : HOk P w H s.heap := fun b u e => by
    rcases cases_ b with z | ⟨hb, z⟩ | ⟨_, rfl, _, z⟩
    · rw [z] at e; cases e
    · rw [z] at e; cases e
      exact (tsT b hb).1
    · rw [z] at e; cases e
      exact ⟨ha, by rw [List.length_map]; exact hl, vs, _, rv, ha⟩
  -- what is no list and no empty table is not tracked
  have clear : ∀ {b : Addr} {o : Obj}, s.heap.get? b = some o → (∀ ys n, o.data ≠ .seq ys n) → o.data ≠ .fields #[] → H b = none := fun {b o} e h1 h2 => by
    rcases cases_ b with z | ⟨hb, _⟩ | ⟨_, rfl, _, _⟩
    · exact z
    · rw [(tsT b hb).1] at e; cases e
      exact absurd rfl h2
    · rw [ha] at e; cases e
      exact absurd rfl (h1 _ _)
  have nsB : ∀ {b : Addr} {m : Str → Option Value}, s.heap.Ns b m → (hidT s.heap H).Ns b m := fun {b m} ⟨o, es, ep, e, d, r⟩ =>
    ⟨o, es, ep, hidT_get e (clear e (fun ys n z => by rw [d] at z; cases z) fun z => by rw [d] at z; cases z), d, r⟩
  have kB : K.In (hidT s.heap H) := fun b o e => hidT_get (KX b o e) (by
    rcases cases_ b with z | ⟨hb, _⟩ | ⟨_, rfl, hk, _⟩
    · exact z
    · rw [(tsT b hb).2] at e; cases e
    · rw [hk] at e; cases e)
  have modB : L2.Mod K mg (hidT s.heap H) := ⟨kB, nsB gl, ⟨mb, nsB bl, bb⟩, let ⟨mc, h1, h2⟩ := lim; ⟨mc, nsB h1, h2⟩⟩
  have noGl : ∀ {b : Addr} {o : Obj}, s.heap.get? b = some o → (∀ es ep, o.data ≠ .dict es ep) → b ≠ mainGlobals := fun {b o} e h z => by
    obtain ⟨o', es, ep, e', hd, _⟩ := gl
    rw [← z, e] at e'
    cases e'
    exact h _ _ hd
  have tb : ∀ p ∈ cs, GxR.TabB (hidT s.heap H) mg p.1 p.2 := fun p hp => by
    obtain ⟨t1, _, o, us, file, tf, flags, tg, inF, text, tt, e1, r1, r2, r3, r⟩ := hT p hp
    obtain ⟨b, ob, b1, b2, b3, b4, b5, b6⟩ := bm
    refine ⟨⟨o, us, file, tf, flags, tg, inF, text, tt, hidT_get e1 (clear e1 (fun ys n z => by rw [r2] at z; cases z) fun z => ?_), r1, r2, r3, r⟩,
      ⟨b, ob, b1, b2, noGl b3 (fun es ep z => by rw [b6] at z; cases z), fun q => ?_, hidT_get b3 (clear b3 (fun ys n z => by rw [b6] at z; cases z) fun z => by rw [b6] at z; cases z), b4, b5, b6⟩, (noGl t1 (fun es ep z => by cases z)).symm⟩
    · rw [r2] at z
      cases z
      simp at r3
    · rw [q, t1] at b3
      cases b3
      cases b6
  have e0 : Env0 P w K mg (hidT s.heap H) callerA [] s H :=
    ⟨rfl, modB, fun b o e => of_hidT e, Nat.le_of_eq (hidT_size _ _), trivial, (fun b hb => absurd (show b ∈ ([] : List Addr) from hb) (by simp)), hok, .of_eq g0⟩
  refine codeAny_mono ((F _ kB (nsB gl) tb).run callerA [] s H ⟨[.ref a], []⟩ [.ref a] [.ref a] _ E0 rfl hr e0 (hbind s (.ref a)) (.cons rfl .nil) (hsp H (fun p hp => ⟨#[], tabs p hp, by
    unfold TriplesOk
    trivial⟩) hS)) fun r s' h => ?_
  cases r with
  | error e => exact False.elim h
  | ok fl =>
    cases fl with
    | next => exact False.elim h
    | brk => exact False.elim h
    | cont => exact False.elim h
    | ret u =>
      obtain ⟨v, H', os, bare, un, hok', r', rfl⟩ := h
      obtain rfl : u = Value.bool true := r'
      have same : ∀ b o, b ∉ ts → s.heap.get? b = some o → s'.heap.get? b = some o := fun b o hb e => by
        rcases cases_ b with z | ⟨h1, _⟩ | ⟨_, rfl, _, z⟩
        · exact un.keep b o e z (by intro y; cases y) (by intro y; cases y)
        · exact absurd h1 hb
        · have z1 := (hok b _ z).1
          have z2 := (hok' b _ (un.frzs b _ _ z)).1
          rw [e] at z1
          cases z1
          exact z2
      have tabG : ∀ b ∈ ts, ∃ more : Array Value, s'.heap.get? b = some { cls := .none, data := .fields more } := fun b hb => by
        obtain ⟨more, z⟩ := un.tbls b #[] (by rw [← hH]; exact entryH_tab hb)
        exact ⟨_, hok' b _ z⟩
      refine ⟨rfl, ⟨fun b o e => ?_, fun b o e => ?_⟩, os, bare⟩
      · by_cases hb : b ∈ ts
        · obtain ⟨more, hm⟩ := tabG b hb
          have hb2 := hb
          rw [← hts] at hb2
          obtain ⟨p, hp, rfl⟩ := List.mem_map.mp hb2
          obtain ⟨t1, _, C⟩ := hT p hp
          rw [t1] at e
          cases e
          exact .inr (.inl ⟨(C.tab t1).isCodeTable, rfl, #[], more, rfl, by rw [Array.empty_append]; exact hm⟩)
        · exact .inl (same b o hb e)
      · by_cases hb : b ∈ ts
        · obtain ⟨more, hm⟩ := tabG b hb
          exact ⟨_, hm⟩
        · exact ⟨o, same b o hb e⟩

/-- what is to be shown of the law's promise at the head's heap -/
def LawG (l : PySem.W.OpenLaw) (w : World) (K : PySem.W.Frag) (k n : Nat) (x : Str) (mg : Str → Option Value) (fa : Addr) (h : Heap) : Prop :=
  ∃ (fd : FuncData) (cs : List (Addr × Addr)) (sp : Sp), (∀ p ∈ cs, h.get? p.2 = some tab0 ∧ K.lookup p.2 = none ∧ PySem.W.CodeHd h p.1 p.2) ∧ (∀ (s : Shared) (u : Value), BindsTo s fd ⟨[u], []⟩ [(x, u)]) ∧
    (∀ (H : Hp) (a : Addr) (ns : List Int), ns.length ≤ n → (∀ z ∈ ns, Builtin.Int.intBits z ≤ 1048576) → (∀ p ∈ cs, GxR.TabG H p.2) → SqL K H a (ns.map V.int) → sp [.ref a] H (fun v _ => v = .bl true) E0) ∧
    ∀ base : Heap, K.In base → base.Ns mainGlobals mg → (∀ p ∈ cs, GxR.TabB base mg p.1 p.2) → FnG l.prog w K mg base k fa fd [x] sp
theorem walkG {l : PySem.W.OpenLaw} {n k : Nat} {q : Program} {loose : List Str} {XP : (Str → Option Value) → Heap → Prop} {YP : World → Heap → Prop} {d : DefRec} {K : Params → PySem.W.Frag} {x : Str}
    (hn : l.most = some n) (hn2 : n ≤ sizeLine) (hdf : d.params.defaults = []) (hr : Room k callerA) (hY : ∀ (w : World) (h : Heap), YP w h → (K w.params).In h)
    (F : ∀ (w : World) (mg : Str → Option Value) (fa : Addr) (h : Heap), (K w.params).In h → h.Ns mainGlobals mg → mg d.name = some (.ref fa) →
      (∀ (d' : DefRec) (y : Str) (c P : Addr), (recsOf q).find? (fun e => e.name == y) = some d' → PySem.W.tabIn (K w.params) y = some (c, P) → PySem.W.CodeHd h c P ∧ h.get? P = some tab0) → LawG l w (K w.params) k n x mg fa h) :
    PySem.W.WalkO q loose XP YP l.row.toRowW d [] (fun f vs => PySem.call f vs) := by
  refine Att.attach_callB hn hdf fun w s₀ s₁ mg mb fa o pm cd doc a vs ns G Y ho hd hcd hmg hobj hints hlen hbits hg => ?_
  have KX := hY w _ Y
  obtain ⟨fd, cs, sp, hT, hb, hsp, hF⟩ := F w mg fa _ KX G.T.g hmg fun d' y c P h1 h2 => PySem.W.tab_of G.T KX h1 h2
  exact enterG KX G.T.g G.T.b G.T.builtins G.T.nolimit hg hT G.T.bmain hobj hints (Nat.le_trans hlen hn2) hr hb hF fun H h1 h2 => hsp H a ns hlen hbits h1 h2
end Gx
set_option Elab.async false
set_option linter.all false
set_option maxRecDepth 100000
set_option maxHeartbeats 4000000
namespace Gx
open PySem PySem.Spec PyProof.Rows L2 GenW
open Sem (wp)
open AutoSeq1 (wpAny_loadPart')

/-! ### enumerate over a tuple -/
theorem meets_enumT (a : Addr) (items : Array Value) :
    Meets (Builtin.«enumerate.__new__» ⟨[.type "enumerate", .ref a], []⟩) (fun _ R s => s.heap.IsTuple a items ∧
      R (.ok (.ret (.ref (s.heap.push { cls := .type "tuple_iterator", data := .fields #[.ref a, .int 0 0] }).objs.size)))
        { s with heap := (s.heap.push { cls := .type "tuple_iterator", data := .fields #[.ref a, .int 0 0] }).push { cls := .type "enumerate", data := .fields #[.none, .bool false, .ref s.heap.objs.size, rawInt 0, .none, .none] } }) :=
  .of_wp fun prog w A R s h => by
    obtain ⟨hp, g, d, tk, os⟩ := s
    obtain ⟨hT, h⟩ := h
    have hsub := sub_enumerate
    have q1 : ∀ {A' : Around} {E : Value → Shared → Prop} {Q : Value → Shared → Prop}, Q (.ref hp.objs.size) ⟨hp.push { cls := .type "tuple_iterator", data := .fields #[.ref a, .int 0 0] }, g, d, tk, os⟩ → wpAny (model prog w) A' (pyIter (.ref a)) Q E ⟨hp, g, d, tk, os⟩ :=
      fun q => (begins_tuple a items).iter prog w _ _ ⟨hp, g, d, tk, os⟩ _ hT q
    wp_walk using q1
    refine wpAny_stack_any fun st => wpAny_pure ?_
    split
    · rename_i c _ _ _ _ _
      cases (c == Value.type "enumerate")
      · wp_walk using q1
        exact ⟨_, rfl, h⟩
      · wp_walk using q1
        exact ⟨_, rfl, h⟩
    · wp_walk using q1
      exact ⟨_, rfl, h⟩
theorem call_enumT {prog : Program} {w : World} {A : Around} {E : Value → Shared → Prop} {s : Shared} {a : Addr} {items : Array Value} {Q : Value → Shared → Prop} (hT : s.heap.IsTuple a items)
    (h : ∀ h', IsEnum h' (s.heap.objs.size + 1) s.heap.objs.size 0 .none → h'.IsTupleIter s.heap.objs.size a 0 → h'.objs.size = s.heap.objs.size + 2 →
      (∀ b o, s.heap.get? b = some o → h'.get? b = some o) → Q (.ref (s.heap.objs.size + 1)) { s with heap := h' }) :
    wpAny (model prog w) A (call (.type "enumerate") [.ref a]) Q E s := by
  refine callType_new F.called_enumerate (by decide) (F.typeCall_enumerate_1 _) (F.newCall_enumerate_1 _) (fun obj => F.args_object_init_2 obj _) F.entry_enumerate_new (meets_enumT a items) ⟨hT, ?_⟩
  generalize ho : ({ cls := .type "tuple_iterator", data := .fields #[.ref a, .int 0 0] } : Obj) = o1
  have hz : (s.heap.push o1).objs.size = s.heap.objs.size + 1 := Heap.size_push ..
  show _ ∧ _
  rw [hz]
  have he : IsEnum ((s.heap.push o1).push { cls := .type "enumerate", data := .fields #[.none, .bool false, .ref s.heap.objs.size, rawInt 0, .none, .none] }) (s.heap.objs.size + 1) s.heap.objs.size 0 .none := by
    have q := Heap.get?_push_size (s.heap.push o1) (o := { cls := .type "enumerate", data := .fields #[.none, .bool false, .ref s.heap.objs.size, rawInt 0, .none, .none] }) rfl
    rw [hz] at q
    exact q
  refine ⟨⟨_, he, rfl⟩, h _ he ⟨o1, Heap.get?_push_of_some _ (Heap.get?_push_size _ (by rw [← ho]; rfl)), (by subst ho; rfl), (by subst ho; rfl)⟩ (by rw [Heap.size_push, hz]) fun b o x => Heap.get?_push_of_some _ (Heap.get?_push_of_some _ x)⟩

def IteT (K : PySem.W.Frag) (a : Addr) : It :=
  ⟨fun i H => ∃ xs x, SqT K H a xs ∧ xs[i]? = some x, fun i H v H' => ∃ T x, v = .ref T ∧ H T = none ∧ H' = upd H T (.tup [.int (i : Nat), x]) ∧ ∀ xs, SqT K H a xs → xs[i]? = some x, fun i H => ∃ xs, SqT K H a xs ∧ xs.length ≤ i⟩
theorem turn_enumT {P : Program} {w : World} {K : PySem.W.Frag} {elts : List Expr} {kk : Nat} {tpos : Pos} (a e it : Addr) :
    Turn P w K (.Tuple elts kk tpos) (IteT K a) [e, it] e (fun i h => (∃ old, IsEnum h e it ((i : Nat) : Int) old) ∧ h.IsTupleIter it a i ∧ e ≠ it ∧ a ≠ it ∧ a ≠ e) where
  mem := List.mem_cons_self
  obj := fun i h st b hb => by
    obtain ⟨⟨old, he⟩, ⟨o, ho, _, hd⟩, _⟩ := st
    rcases List.mem_cons.mp hb with z | z
    · exact ⟨_, (by rw [z]; exact he), fun v q => by cases q⟩
    · rw [List.mem_singleton.mp z]
      exact ⟨o, ho, fun v q => by rw [hd] at q; cases q⟩
  keep := fun i h h' st k => let ⟨⟨old, he⟩, hi, r⟩ := st; ⟨⟨old, k e List.mem_cons_self _ he⟩, hi.at fun o q => k it (List.mem_cons_of_mem _ List.mem_cons_self) o q, r⟩
  item := by
    intro X hP hw hK hc i pins s σ H E I hf st hg
    subst hP hw hK
    obtain ⟨⟨old, he⟩, hit, hne, hai, hae⟩ := st
    obtain ⟨xs, x, hq, hx⟩ := hg
    obtain ⟨its, rv, p, hz⟩ := I.tuple hq
    obtain ⟨u, hu, ru⟩ := rv.get hx
    have hel : e < s.heap.objs.size := Heap.lt_size he
    have hil : it < s.heap.objs.size := by obtain ⟨_, q, _⟩ := hit; exact Heap.lt_size q
    have hlt : i < its.toArray.size := by
      rw [List.size_toArray]
      exact (List.getElem?_eq_some_iff.mp hu).1
    refine wpAny_pyNext_enum_itemD (Draws.tuple (A := X.A.in1) (I.ok.hd hc) it a hai its.toArray) he ⟨hit, p⟩ hlt hne (fun z => ?_) fun y h' tk hy ho hst' hT hsz hk => ?_
    · rcases List.mem_cons.mp z with z | z
      · exact hne z
      · exact hae (List.mem_singleton.mp z).symm
    obtain rfl : u = y := by
      have q : its[i]? = some y := by simpa using hy
      rw [hu] at q
      exact Option.some.inj q
    obtain ⟨hit', _⟩ := hst'
    refine ⟨_, rfl, wpAny_letOwnedTupleGo_enum (s := { s with heap := h', toks := tk + 1 }) ho fun h'' he' sb => ?_⟩
    have hT2 : h''.get? s.heap.objs.size = some { cls := .type "tuple", data := .seq #[.int i tk, u] } := (sb.2 _ (Nat.ne_of_gt hel)).trans hT
    have new : ObjOk X.prog X.w (upd H s.heap.objs.size (.tup [.int (i : Nat), x])) h'' s.heap.objs.size (.tup [.int (i : Nat), x]) :=
      ⟨by show 2 ≤ sizeLine; decide, [.int i tk, u], .cons ⟨_, rfl⟩ (.cons ru .nil), ⟨_, hT2, rfl, _, rfl⟩⟩
    have I1 : Inv X pins σ (upd H s.heap.objs.size (.tup [.int (i : Nat), x])) { s with heap := h'', toks := tk + 1 } :=
      I.turnedNew (ch := [e, it]) (fun b ob hb q => (sb.2 b (fun z => hb (by rw [z]; exact List.mem_cons_self))).trans (hk b ob (fun z => hb (by rw [z]; exact List.mem_cons_self)) (fun z => hb (by rw [z]; exact List.mem_cons_of_mem _ List.mem_cons_self)) q)) hf (Nat.le_refl _) new
    refine ⟨.ref s.heap.objs.size, _, I1, rfl, ⟨_, x, rfl, I.hok.fresh (Nat.le_refl _), rfl, fun ys hy => by rw [I.tuple_inj hy hq]; exact hx⟩, ⟨⟨u, ?_⟩, hit'.at fun o q => (sb.2 it (Ne.symm hne)).trans q, hne, hai, hae⟩, fun b hb => ?_⟩
    · have e1 : ((i + 1 : Nat) : Int) = (i : Int) + 1 := by omega
      rw [e1]; exact he'
    · have hb' : b < s.heap.objs.size := by
        rcases List.mem_cons.mp hb with z | z
        · rw [z]; exact hel
        · rw [List.mem_singleton.mp z]; exact hil
      rw [upd_ne (Nat.ne_of_lt hb')]
      exact (hf b hb).1
  done := by
    intro X hP hw hK hc i pins s σ H E I hf st hg
    subst hP hw hK
    obtain ⟨⟨old, he⟩, hit, hne, hai, hae⟩ := st
    obtain ⟨xs, hq, hx⟩ := hg
    obtain ⟨its, rv, p, hz⟩ := I.tuple hq
    obtain ⟨f0, f1, f2, f3, f4, f5⟩ := hf it (List.mem_cons_of_mem _ List.mem_cons_self)
    have hT : s.TypeIs (.ref e) "enumerate" := ⟨_, he, rfl⟩
    have hl := rv.length
    unfold pyNext
    refine wpAny_bind (wpAny_attempt (wpAny_callSpecial?_slot (name := Str.ofString "__next__") hT F.slot_enumerate_next
      (wpAny_call_entry F.slot_enumerate_next hT F.entry_enumerate_next ?_ (F.args_enumerate_next_1 _))))
    show wpAny _ _ (field (.ref e) 2 >>= _) _ _ _
    refine wpAny_bind (wpAny_field he rfl (x := .ref it) rfl ?_)
    refine wpAny_bind (wpAny_nextOf_tuple_end (A := X.A.in1) (I.ok.hd hc) hit p (by simp; omega) fun h' x he' hx' => ?_)
    obtain ⟨o, ho, hc⟩ := hx'
    refine wpAny_bind (wpAny_isInstance (T := "StopIteration") (b := true) ⟨o, ho, hc⟩ isSubtype_stop ?_)
    exact wpAny_pure ⟨rfl, I.turned (t' := s.toks) (fun b o hb q => he' b o hb q) f0 f1 f3 f4 f5⟩
  self := fun A i s Q E st h => let ⟨⟨_, he⟩, _⟩ := st; wpAny_pyIter_enum he h
def iEnumT (K : PySem.W.Frag) (ta : TA) : TI := fun σ H R => ta σ H fun vs H1 => ∃ a xs, vs = [.ref a] ∧ SqT K H1 a xs ∧ R (IteT K a) H1
theorem pi_enumT {X : Cx} {e : Expr} {ta : TA} {p pos tpos : Pos} {elts : List Expr} {kk : Nat} (hg : Gl X "enumerate") (hm : X.mg "enumerate" = none) (ha : PA X [e] ta) (hs : starEach [e] X.env = [(false, eval e X.env)] := by rfl) :
    PI X (.Tuple elts kk tpos) (.Call (.Name "enumerate" p) [e] [] pos) (iEnumT X.K ta) := by
  refine ⟨fun pins s σ H R I h => ?_⟩
  refine Call_ (ld_blt I hg hm boot_enumerate (PyProof.Rows.callWith_type1 (thn (ha.run pos pins s σ H _ I h) fun us s1 ⟨vs, H1, I1, r1, q1⟩ => ?_) hs rfl))
  obtain ⟨a, xs, rfl, hq, q⟩ := q1
  cases r1 with
  | cons r rr =>
    cases rr
    cases r
    obtain ⟨its, rv, p', hz⟩ := I1.tuple hq
    have hal : a < s1.heap.objs.size := by obtain ⟨o, ho, _⟩ := id p'; exact Heap.lt_size ho
    refine call_enumT (show s1.heap.IsTuple a its.toArray from p') fun h' he hit hsz hk => wpAny_pyIter_enum he ?_
    have I2 : Inv X pins σ H1 { s1 with heap := h' } := I1.kept (t' := s1.toks) hk
    refine ⟨s1.heap.objs.size + 1, [s1.heap.objs.size + 1, s1.heap.objs.size], _, _, H1, rfl, I2, turn_enumT a (s1.heap.objs.size + 1) s1.heap.objs.size, ⟨⟨.none, he⟩, hit, Nat.succ_ne_self _, Nat.ne_of_lt hal, Nat.ne_of_lt (Nat.lt_succ_of_lt hal)⟩, fun b hb => ?_, q⟩
    have hle : s1.heap.objs.size ≤ b := by
      rcases List.mem_cons.mp hb with z | z
      · rw [z]; exact Nat.le_add_right _ _
      · rw [List.mem_singleton.mp z]; exact Nat.le_refl _
    exact I1.fpOk hle (I1.hok.fresh hle)
end Gx
set_option Elab.async false
set_option linter.all false
set_option maxRecDepth 100000
set_option maxHeartbeats 4000000
namespace Gx
open PySem PySem.Spec PyProof.Rows L2 GenW RZ

/-! ### turns by a bound -/
theorem by_n {J : It} {g : TG} {tt : TT} {te : TE} {vs : List Nat} {σ : L2.St} {K : GK} {H2 : Hp} (n : Nat) (Pv : Nat → List V → Hp → Prop) (h0 : Pv 0 [] H2) (hgo : ∀ i ys H, i < n → Pv i ys H → J.go i H) (hstop : ∀ ys H, Pv n ys H → J.stop n H)
    (hs : ∀ i ys H x H', i < n → Pv i ys H → J.yld i H x H' → g x (wipe σ vs) H' fun σ2 H2 => wipe σ2 vs = wipe σ vs ∧ tt σ2 H2 fun b H3 =>
      if b = true then te σ2 H3 fun y H4 => K.mid ys y H4 ∧ (K.go y → Pv (i + 1) (ys ++ [y]) H4) else Pv (i + 1) ys H3) (hd : ∀ ys H, Pv n ys H → K.done ys H) :
    ∃ W : Nat → Nat → List V → Hp → Prop, (∃ m, W 0 m [] H2) ∧ Turns J g tt te vs σ K W := by
  refine ⟨fun i m ys H => m = n - i ∧ i ≤ n ∧ Pv i ys H, ⟨n, rfl, Nat.zero_le _, h0⟩, ?_⟩
  rintro i m ys H ⟨rfl, hi, p⟩
  by_cases hlt : i < n
  · exact .inr ⟨hgo i ys H hlt p, by omega, Pv (i + 1), fun ys' H' p' => ⟨n - (i + 1), by omega, rfl, hlt, p'⟩, fun x H' y => hs i ys H x H' hlt p y⟩
  · have e : i = n := by omega
    subst e
    exact .inl ⟨hstop ys H p, hd ys H p⟩
theorem by_tup {Kf : PySem.W.Frag} {a : Addr} {xs : List V} {g : TG} {tt : TT} {te : TE} {vs : List Nat} {σ : L2.St} {K : GK} {H2 : Hp} (Pv : Nat → List V → Hp → Prop) (h0 : Pv 0 [] H2) (hl : ∀ i ys H, Pv i ys H → SqT Kf H a xs)
    (hs : ∀ i x ys H, xs[i]? = some x → Pv i ys H → g x (wipe σ vs) H fun σ2 H2 => wipe σ2 vs = wipe σ vs ∧ tt σ2 H2 fun b H3 =>
      if b = true then te σ2 H3 fun y H4 => K.mid ys y H4 ∧ (K.go y → Pv (i + 1) (ys ++ [y]) H4) else Pv (i + 1) ys H3) (hd : ∀ ys H, Pv xs.length ys H → K.done ys H) :
    ∃ W : Nat → Nat → List V → Hp → Prop, (∃ m, W 0 m [] H2) ∧ Turns (Itt Kf a) g tt te vs σ K W :=
  by_n xs.length Pv h0 (fun i ys H hi p => ⟨xs, xs[i], hl i ys H p, List.getElem?_eq_getElem hi⟩) (fun ys H p => ⟨xs, hl _ ys H p, Nat.le_refl _⟩)
    (fun i ys H x H' hi p y => by obtain ⟨rfl, f⟩ := y; exact hs i x ys _ (f xs (hl i ys _ p)) p) hd
theorem by_list {Kf : PySem.W.Frag} {a : Addr} {xs : List V} {g : TG} {tt : TT} {te : TE} {vs : List Nat} {σ : L2.St} {K : GK} {H2 : Hp} (Pv : Nat → List V → Hp → Prop) (h0 : Pv 0 [] H2) (hl : ∀ i ys H, Pv i ys H → SqL Kf H a xs)
    (hs : ∀ i x ys H, xs[i]? = some x → Pv i ys H → g x (wipe σ vs) H fun σ2 H2 => wipe σ2 vs = wipe σ vs ∧ tt σ2 H2 fun b H3 =>
      if b = true then te σ2 H3 fun y H4 => K.mid ys y H4 ∧ (K.go y → Pv (i + 1) (ys ++ [y]) H4) else Pv (i + 1) ys H3) (hd : ∀ ys H, Pv xs.length ys H → K.done ys H) :
    ∃ W : Nat → Nat → List V → Hp → Prop, (∃ m, W 0 m [] H2) ∧ Turns (Itl Kf a) g tt te vs σ K W :=
  by_n xs.length Pv h0 (fun i ys H hi p => ⟨xs, xs[i], hl i ys H p, List.getElem?_eq_getElem hi⟩) (fun ys H p => ⟨xs, hl _ ys H p, Nat.le_refl _⟩)
    (fun i ys H x H' hi p y => by obtain ⟨rfl, f⟩ := y; exact hs i x ys _ (f xs (hl i ys _ p)) p) hd
theorem by_enumT {Kf : PySem.W.Frag} {a : Addr} {xs : List V} {g : TG} {tt : TT} {te : TE} {vs : List Nat} {σ : L2.St} {K : GK} {H2 : Hp} (Pv : Nat → List V → Hp → Prop) (h0 : Pv 0 [] H2) (hl : ∀ i ys H, Pv i ys H → SqT Kf H a xs)
    (hs : ∀ i x T ys H, xs[i]? = some x → Pv i ys H → H T = none → g (.ref T) (wipe σ vs) (upd H T (.tup [.int (i : Nat), x])) fun σ2 H2 => wipe σ2 vs = wipe σ vs ∧ tt σ2 H2 fun b H3 =>
      if b = true then te σ2 H3 fun y H4 => K.mid ys y H4 ∧ (K.go y → Pv (i + 1) (ys ++ [y]) H4) else Pv (i + 1) ys H3) (hd : ∀ ys H, Pv xs.length ys H → K.done ys H) :
    ∃ W : Nat → Nat → List V → Hp → Prop, (∃ m, W 0 m [] H2) ∧ Turns (IteT Kf a) g tt te vs σ K W :=
  by_n xs.length Pv h0 (fun i ys H hi p => ⟨xs, xs[i], hl i ys H p, List.getElem?_eq_getElem hi⟩) (fun ys H p => ⟨xs, hl _ ys H p, Nat.le_refl _⟩)
    (fun i ys H v H' hi p y => by obtain ⟨T, x, rfl, hT, rfl, f⟩ := y; exact hs i x T ys _ (f xs (hl i ys _ p)) p hT) hd
theorem by_zipT {Kf : PySem.W.Frag} {a b : Addr} {xs zs : List V} {g : TG} {tt : TT} {te : TE} {vs : List Nat} {σ : L2.St} {K : GK} {H2 : Hp} (he : xs.length = zs.length) (Pv : Nat → List V → Hp → Prop) (h0 : Pv 0 [] H2) (hl : ∀ i ys H, Pv i ys H → SqT Kf H a xs ∧ SqT Kf H b zs)
    (hs : ∀ i x z T ys H, xs[i]? = some x → zs[i]? = some z → Pv i ys H → H T = none → g (.ref T) (wipe σ vs) (upd H T (.tup [x, z])) fun σ2 H2 => wipe σ2 vs = wipe σ vs ∧ tt σ2 H2 fun b H3 =>
      if b = true then te σ2 H3 fun y H4 => K.mid ys y H4 ∧ (K.go y → Pv (i + 1) (ys ++ [y]) H4) else Pv (i + 1) ys H3) (hd : ∀ ys H, Pv xs.length ys H → K.done ys H) :
    ∃ W : Nat → Nat → List V → Hp → Prop, (∃ m, W 0 m [] H2) ∧ Turns (ItzT Kf a b) g tt te vs σ K W :=
  by_n xs.length Pv h0 (fun i ys H hi p => ⟨xs, zs, xs[i], zs[i]'(by omega), (hl i ys H p).1, (hl i ys H p).2, List.getElem?_eq_getElem hi, List.getElem?_eq_getElem (by omega)⟩) (fun ys H p => ⟨xs, zs, (hl _ ys H p).1, (hl _ ys H p).2, .inl (Nat.le_refl _)⟩)
    (fun i ys H v H' hi p y => by obtain ⟨T, x, z, rfl, hT, rfl, f1, f2⟩ := y; exact hs i x z T ys _ (f1 xs (hl i ys _ p).1) (f2 zs (hl i ys _ p).2) p hT) hd

/-! ### heaps that went on: c the lists that may have changed -/
structure Ext (c : List Addr) (H H' : Hp) : Prop where
  keep : ∀ b o, H b = some o → (∀ ps, o ≠ .tbl ps) → b ∉ c → H' b = some o
  tup : ∀ b xs, H b = some (.tup xs) → H' b = some (.tup xs)
  frz : ∀ b u o, H b = some (.frz u o) → H' b = some (.frz u o)
  tab : ∀ P, GxR.TabG H P → GxR.TabG H' P
  dom : ∀ b, H' b = none → H b = none
namespace Ext
variable {c c' : List Addr} {H H1 H2 : Hp} {a p P : Addr} {K : PySem.W.Frag} {xs : List V}
theorem refl : Ext c H H := ⟨fun _ _ h _ _ => h, fun _ _ h => h, fun _ _ _ h => h, fun _ h => h, fun _ h => h⟩
theorem trans (x : Ext c H H1) (y : Ext c H1 H2) : Ext c H H2 :=
  ⟨fun b o h n hb => y.keep b o (x.keep b o h n hb) n hb, fun b xs h => y.tup b xs (x.tup b xs h), fun b u o h => y.frz b u o (x.frz b u o h), fun P h => y.tab P (x.tab P h), fun b h => x.dom b (y.dom b h)⟩
theorem mono (x : Ext c H H1) (h : ∀ b ∈ c, b ∈ c') : Ext c' H H1 := ⟨fun b o e n hb => x.keep b o e n fun z => hb (h b z), x.tup, x.frz, x.tab, x.dom⟩
theorem more (x : Ext [] H H1) : Ext c H H1 := x.mono fun _ h => by cases h
theorem new {o : HO} (h : H p = none) : Ext c H (upd H p o) :=
  ⟨fun b u e _ _ => by rw [upd_ne (ne_of_none e h)]; exact e, fun b u e => by rw [upd_ne (ne_of_none e h)]; exact e, fun b u o e => by rw [upd_ne (ne_of_none e h)]; exact e,
    fun P ⟨ps, e, t⟩ => ⟨ps, by rw [upd_ne (ne_of_none e h)]; exact e, t⟩, fun b e => by
      by_cases hb : b = p
      · rw [hb]; exact h
      · rw [upd_ne hb] at e; exact e⟩
theorem set {xs ys : List V} (hp : p ∈ c) (h : H p = some (.lst xs)) : Ext c H (upd H p (.lst ys)) := by
  have ne : ∀ {b : Addr} {u : HO}, H b = some u → (∀ xs, u ≠ .lst xs) → b ≠ p := fun {b u} e n z => by rw [z, h] at e; exact n xs (Option.some.inj e).symm
  refine ⟨fun b u e _ hb => ?_, fun b u e => ?_, fun b u o e => ?_, fun P ⟨ps, e, t⟩ => ⟨ps, ?_, t⟩, fun b e => ?_⟩
  · rw [upd_ne (fun z => hb (by rw [z]; exact hp))]; exact e
  · rw [upd_ne (ne e fun _ z => by cases z)]; exact e
  · rw [upd_ne (ne e fun _ z => by cases z)]; exact e
  · rw [upd_ne (ne e fun _ z => by cases z)]; exact e
  · by_cases hb : b = p
    · rw [hb, upd_same] at e; cases e
    · rw [upd_ne hb] at e; exact e
/-- a list that was made since may be written -/
theorem own {xs ys : List V} (x : Ext c H H1) (h0 : H p = none) (h1 : H1 p = some (.lst xs)) : Ext c H (upd H1 p (.lst ys)) := by
  have ne : ∀ {b : Addr} {u : HO}, H b = some u → b ≠ p := fun {b u} e => ne_of_none e h0
  refine ⟨fun b u e n hb => by rw [upd_ne (ne e)]; exact x.keep b u e n hb, fun b u e => by rw [upd_ne (ne e)]; exact x.tup b u e, fun b u o e => by rw [upd_ne (ne e)]; exact x.frz b u o e, fun P h => ?_, fun b e => ?_⟩
  · obtain ⟨ps, e, t⟩ := x.tab P h
    obtain ⟨_, e2, _⟩ := h
    exact ⟨ps, by rw [upd_ne (ne e2)]; exact e, t⟩
  · by_cases hb : b = p
    · rw [hb, upd_same] at e; cases e
    · rw [upd_ne hb] at e; exact x.dom b e
theorem tabbed (h : GxR.TabG H P) (t : GxR.Tabbed P H H1) : Ext c H H1 := by
  obtain ⟨ps, e0, t0⟩ := h
  obtain ⟨⟨ps', e1, t1⟩, k⟩ := t
  have ne : ∀ {b : Addr} {u : HO}, H b = some u → (∀ q, u ≠ .tbl q) → b ≠ P := fun {b u} e n z => by rw [z, e0] at e; exact n ps (Option.some.inj e).symm
  refine ⟨fun b u e n _ => by rw [k b (ne e n)]; exact e, fun b u e => by rw [k b (ne e fun _ z => by cases z)]; exact e, fun b u o e => by rw [k b (ne e fun _ z => by cases z)]; exact e, fun Q h => ?_, fun b e => ?_⟩
  · by_cases hQ : Q = P
    · rw [hQ]; exact ⟨ps', e1, t1⟩
    · obtain ⟨qs, e, t⟩ := h
      exact ⟨qs, by rw [k Q hQ]; exact e, t⟩
  · by_cases hb : b = P
    · rw [hb, e1] at e; cases e
    · rw [k b hb] at e; exact e
theorem sqT (x : Ext c H H1) (h : SqT K H a xs) : SqT K H1 a xs := by
  rcases h with h | h
  · rcases h with h | ⟨u, h⟩
    · exact .inl (.inl (x.tup _ _ h))
    · exact .inl (.inr ⟨u, x.frz _ _ _ h⟩)
  · exact .inr h
theorem sqL (x : Ext c H H1) (h : SqL K H a xs) (ha : a ∉ c) : SqL K H1 a xs := by
  rcases h with h | h
  · rcases h with h | ⟨u, h⟩
    · exact .inl (.inl (x.keep _ _ h (fun _ z => by cases z) ha))
    · exact .inl (.inr ⟨u, x.frz _ _ _ h⟩)
  · exact .inr h
theorem lst (x : Ext c H H1) (h : H a = some (.lst xs)) (ha : a ∉ c) : H1 a = some (.lst xs) := x.keep _ _ h (fun _ z => by cases z) ha
end Ext

/-! ### nets in the heap -/
abbrev Rd3 := Nat × Nat × Int
def RdAt (K : PySem.W.Frag) (H : Hp) (v : V) (r : Rd3) : Prop := ∃ p, v = .ref p ∧ SqT K H p [.int r.1, .int r.2.1, .int r.2.2]
def RdsAt (K : PySem.W.Frag) (H : Hp) (p : Addr) (rs : List Rd3) : Prop := ∃ vs, SqT K H p vs ∧ vs.length = rs.length ∧ ∀ (i : Nat) (r : Rd3), rs[i]? = some r → ∃ v, vs[i]? = some v ∧ RdAt K H v r
def NetAt (K : PySem.W.Frag) (H : Hp) (p : Addr) (ms : List Str) (rs : List Rd3) : Prop := ∃ mp rp, SqT K H p [.str "net", .ref mp, .ref rp] ∧ SqT K H mp (ms.map V.str) ∧ RdsAt K H rp rs
section
variable {K : PySem.W.Frag} {H H1 : Hp} {c : List Addr}
theorem RdAt.ext {v : V} {r : Rd3} (h : RdAt K H v r) (x : Ext c H H1) : RdAt K H1 v r := let ⟨p, e, q⟩ := h; ⟨p, e, x.sqT q⟩
theorem RdsAt.ext {p : Addr} {rs : List Rd3} (h : RdsAt K H p rs) (x : Ext c H H1) : RdsAt K H1 p rs := let ⟨vs, q, l, f⟩ := h; ⟨vs, x.sqT q, l, fun i r e => let ⟨v, e1, e2⟩ := f i r e; ⟨v, e1, e2.ext x⟩⟩
theorem NetAt.ext {p : Addr} {ms : List Str} {rs : List Rd3} (h : NetAt K H p ms rs) (x : Ext c H H1) : NetAt K H1 p ms rs := let ⟨mp, rp, q1, q2, q3⟩ := h; ⟨mp, rp, x.sqT q1, x.sqT q2, q3.ext x⟩
end
/-- the readings go between n marks -/
def Good (n : Nat) (rs : List Rd3) : Prop := ∀ r ∈ rs, r.1 < n ∧ r.2.1 < n ∧ r.1 ≠ r.2.1
def missR (hs : List Int) (r : Rd3) : Int := r.2.2 - hs.getD r.2.1 0 + hs.getD r.1 0
theorem snoc {α β : Type} (f : α → β) (l : List α) {i : Nat} (h : i < l.length) : (l.take i).map f ++ [f l[i]] = (l.take (i + 1)).map f := by
  rw [List.take_add_one, List.getElem?_eq_getElem h, List.map_append]
  rfl
theorem ints_snoc {α : Type} (f : α → Int) (l : List α) {i : Nat} (h : i < l.length) : ((l.take i).map f).map V.int ++ [.int (f l[i])] = ((l.take (i + 1)).map f).map V.int := by
  rw [← snoc f l h, List.map_append]
  rfl
theorem ints_at {hs : List Int} {i : Nat} (h : i < hs.length) : (hs.map V.int)[i]? = some (.int (hs.getD i 0)) := by
  rw [List.getElem?_map, List.getElem?_eq_getElem h, List.getD_eq_getElem?_getD, List.getElem?_eq_getElem h]
  rfl
/-! ### xs[i] for xs[i] op= e -/
def rGetL (K : PySem.W.Frag) : V → V → Hp → VK → Prop := fun x y H Q => ∃ p xs i v, x = .ref p ∧ y = .int (i : Nat) ∧ SqL K H p xs ∧ xs[i]? = some v ∧ Q v H
theorem get_list {X : Cx} : PGet X (rGetL X.K) := by
  intro pins s σ H o i ov iv Q I ro ri h
  obtain ⟨p, xs, j, v, rfl, rfl, hq, hv, q⟩ := h
  cases ro
  obtain ⟨t, rfl⟩ := ri
  obtain ⟨its, r, pl, hz⟩ := I.list hq
  obtain ⟨u, hu, ru⟩ := r.get hv
  have hj : j < xs.length := (List.getElem?_eq_some_iff.mp hv).1
  have hn := line63
  exact wpAny_getItem_list pl.isList (Int.natCast_nonneg _) (by omega) (x := u) (by simpa using hu) ⟨v, H, I, ru, q⟩
theorem ixN_nat {n i : Nat} (h : i < n) : ixN n (i : Int) = some i := by
  unfold ixN
  rw [if_pos (Int.natCast_nonneg _), if_pos (by omega)]
  rfl

/-! ### sums -/
theorem sumV_ints (ns : List Int) : sumV (ns.map V.int) = ns.sum := by
  unfold sumV
  rw [List.map_map]
  congr 1
  exact List.map_id' ns
theorem sum_bound {B : Int} (hB : 0 ≤ B) : ∀ l : List Int, (∀ x ∈ l, -B ≤ x ∧ x ≤ B) → -(l.length * B) ≤ l.sum ∧ l.sum ≤ l.length * B
  | [], _ => by simp
  | x :: r, h => by
    have ih := sum_bound hB r fun y hy => h y (List.mem_cons_of_mem _ hy)
    have hx := h x List.mem_cons_self
    have e : ((x :: r).length : Int) * B = r.length * B + B := by
      rw [List.length_cons]
      push_cast
      rw [Int.add_mul, Int.one_mul]
    rw [List.sum_cons, e]
    omega
/-- small sums of at most 1,000 numbers below 2 ^ 50 -/
theorem sum_long {l : List Int} (hl : l.length ≤ 1000) (h : ∀ x ∈ l, -(2 ^ 50) ≤ x ∧ x ≤ 2 ^ 50) : InLong l.sum := by
  have hb := sum_bound (B := 2 ^ 50) (by decide) l h
  have e : (l.length : Int) * 2 ^ 50 ≤ 1000 * 2 ^ 50 := Int.mul_le_mul_of_nonneg_right (by omega) (by decide)
  have e2 : (1000 : Int) * 2 ^ 50 < 2 ^ 63 := by decide
  exact ⟨by omega, by omega⟩
/-- the sum of the items so far, for sum -/
theorem mid_long {α : Type} (f : α → Int) (l : List α) {i : Nat} (hl : l.length ≤ 1000) (h : ∀ x ∈ l, -(2 ^ 50) ≤ f x ∧ f x ≤ 2 ^ 50) (hi : i < l.length) : InLong (f l[i]) ∧ InLong (sumV (((l.take i).map f).map V.int) + f l[i]) := by
  have hx := h l[i] (List.getElem_mem hi)
  refine ⟨⟨by omega, by omega⟩, ?_⟩
  have e : sumV (((l.take i).map f).map V.int) + f l[i] = ((l.take (i + 1)).map f).sum := by
    rw [sumV_ints, ← snoc f l hi, List.sum_append]
    simp
  rw [e]
  refine sum_long ?_ fun x hx => ?_
  · rw [List.length_map, List.length_take]
    omega
  · obtain ⟨y, hy, rfl⟩ := List.mem_map.mp hx
    exact h y (List.mem_of_mem_take hy)
end Gx
set_option Elab.async false
set_option linter.all false
set_option maxRecDepth 100000
set_option maxHeartbeats 4000000
namespace Gx
open PySem PySem.Spec PyProof.Rows L2 RZ
/-! ### data in the heap whose lists are none of c -/
mutual
def DQ (c : List Addr) (K : PySem.W.Frag) (H : Hp) : PyData → V → Prop
  | .none, v => v = .non
  | .bool b, v => v = .bl b
  | .int i, v => v = .int i
  | .str x, v => v = .str x
  | .list ds, v => ∃ a xs, v = .ref a ∧ a ∉ c ∧ SqL K H a xs ∧ DQs c K H ds xs
  | .tuple ds, v => ∃ a xs, v = .ref a ∧ SqT K H a xs ∧ DQs c K H ds xs
  | .dict _, _ => False
def DQs (c : List Addr) (K : PySem.W.Frag) (H : Hp) : List PyData → List V → Prop
  | [], xs => xs = []
  | d :: ds, xs => ∃ v vs, xs = v :: vs ∧ DQ c K H d v ∧ DQs c K H ds vs
end
section
variable {c : List Addr} {K : PySem.W.Frag} {H H' : Hp}
mutual
theorem DQ.ext (x : Ext c H H') : ∀ (d : PyData) (v : V), DQ c K H d v → DQ c K H' d v
  | .none, _, h => h
  | .bool _, _, h => h
  | .int _, _, h => h
  | .str _, _, h => h
  | .list ds, v, h => by
    rw [DQ] at h ⊢
    obtain ⟨a, xs, e, hc, hs, hq⟩ := h
    exact ⟨a, xs, e, hc, x.sqL hs hc, DQs.ext x ds xs hq⟩
  | .tuple ds, v, h => by
    rw [DQ] at h ⊢
    obtain ⟨a, xs, e, hs, hq⟩ := h
    exact ⟨a, xs, e, x.sqT hs, DQs.ext x ds xs hq⟩
  | .dict _, _, h => by rw [DQ] at h; exact h.elim
theorem DQs.ext (x : Ext c H H') : ∀ (ds : List PyData) (xs : List V), DQs c K H ds xs → DQs c K H' ds xs
  | [], _, h => by
    rw [DQs] at h ⊢
    exact h
  | d :: ds, xs, h => by
    rw [DQs] at h ⊢
    obtain ⟨v, vs, e, h1, h2⟩ := h
    exact ⟨v, vs, e, DQ.ext x d v h1, DQs.ext x ds vs h2⟩
end
mutual
theorem DQ.sub {c' : List Addr} (hs : ∀ a ∈ c', a ∈ c) : ∀ (d : PyData) (v : V), DQ c K H d v → DQ c' K H d v
  | .none, _, h => h
  | .bool _, _, h => h
  | .int _, _, h => h
  | .str _, _, h => h
  | .list ds, v, h => by
    rw [DQ] at h ⊢
    obtain ⟨a, xs, e, hc, hl, hq⟩ := h
    exact ⟨a, xs, e, fun z => hc (hs _ z), hl, DQs.sub hs ds xs hq⟩
  | .tuple ds, v, h => by
    rw [DQ] at h ⊢
    obtain ⟨a, xs, e, hl, hq⟩ := h
    exact ⟨a, xs, e, hl, DQs.sub hs ds xs hq⟩
  | .dict _, _, h => by rw [DQ] at h; exact h.elim
theorem DQs.sub {c' : List Addr} (hs : ∀ a ∈ c', a ∈ c) : ∀ (ds : List PyData) (xs : List V), DQs c K H ds xs → DQs c' K H ds xs
  | [], _, h => by
    rw [DQs] at h ⊢
    exact h
  | d :: ds, xs, h => by
    rw [DQs] at h ⊢
    obtain ⟨v, vs, e, h1, h2⟩ := h
    exact ⟨v, vs, e, DQ.sub hs d v h1, DQs.sub hs ds vs h2⟩
end
mutual
theorem DQ.dp : ∀ (d : PyData) (v : V), DQ c K H d v → Dp K H v d
  | .none, _, h => by rw [DQ] at h; subst h; exact .non
  | .bool _, _, h => by rw [DQ] at h; subst h; exact .bl _
  | .int _, _, h => by rw [DQ] at h; subst h; exact .int _
  | .str _, _, h => by rw [DQ] at h; subst h; exact .str _
  | .list ds, v, h => by
    rw [DQ] at h
    obtain ⟨a, xs, rfl, _, hl, hq⟩ := h
    exact .lst hl (DQs.dp ds xs hq)
  | .tuple ds, v, h => by
    rw [DQ] at h
    obtain ⟨a, xs, rfl, hl, hq⟩ := h
    exact .tup hl (DQs.dp ds xs hq)
  | .dict _, _, h => by rw [DQ] at h; exact h.elim
theorem DQs.dp : ∀ (ds : List PyData) (xs : List V), DQs c K H ds xs → DpAll K H xs ds
  | [], _, h => by rw [DQs] at h; subst h; exact .nil
  | d :: ds, xs, h => by
    rw [DQs] at h
    obtain ⟨v, vs, rfl, h1, h2⟩ := h
    exact .cons (DQ.dp d v h1) (DQs.dp ds vs h2)
end
theorem DQs.length : ∀ {ds : List PyData} {xs : List V}, DQs c K H ds xs → xs.length = ds.length
  | [], _, h => by rw [DQs] at h; subst h; rfl
  | d :: ds, xs, h => by
    rw [DQs] at h
    obtain ⟨v, vs, rfl, _, h2⟩ := h
    rw [List.length_cons, List.length_cons, DQs.length h2]
theorem DQs.at_ : ∀ {ds : List PyData} {xs : List V} {i : Nat} {v : V}, DQs c K H ds xs → xs[i]? = some v → ∃ d, ds[i]? = some d ∧ DQ c K H d v
  | [], _, i, v, h, e => by rw [DQs] at h; subst h; simp at e
  | d :: ds, xs, i, v, h, e => by
    rw [DQs] at h
    obtain ⟨v0, vs, rfl, h1, h2⟩ := h
    cases i with
    | zero => cases e; exact ⟨d, rfl, h1⟩
    | succ i => exact DQs.at_ (ds := ds) h2 e
theorem DQs.cons {d : PyData} {ds : List PyData} {v : V} {vs : List V} (h1 : DQ c K H d v) (h2 : DQs c K H ds vs) : DQs c K H (d :: ds) (v :: vs) := by
  rw [DQs]
  exact ⟨v, vs, rfl, h1, h2⟩
theorem DQs.nil : DQs c K H [] [] := by rw [DQs]
theorem DQs.app : ∀ {ds es : List PyData} {xs ys : List V}, DQs c K H ds xs → DQs c K H es ys → DQs c K H (ds ++ es) (xs ++ ys)
  | [], _, _, _, h, k => by rw [DQs] at h; subst h; exact k
  | d :: ds, es, xs, ys, h, k => by
    rw [DQs] at h
    obtain ⟨v, vs, rfl, h1, h2⟩ := h
    exact DQs.cons h1 (DQs.app h2 k)
theorem DQ.tup {a : Addr} {xs : List V} {ds : List PyData} (h : SqT K H a xs) (k : DQs c K H ds xs) : DQ c K H (.tuple ds) (.ref a) := by
  rw [DQ]
  exact ⟨a, xs, rfl, h, k⟩
theorem DQ.lst {a : Addr} {xs : List V} {ds : List PyData} (hc : a ∉ c) (h : SqL K H a xs) (k : DQs c K H ds xs) : DQ c K H (.list ds) (.ref a) := by
  rw [DQ]
  exact ⟨a, xs, rfl, hc, h, k⟩
theorem DQ.int (i : Int) : DQ c K H (.int i) (.int i) := by rw [DQ]
theorem DQ.bl (b : Bool) : DQ c K H (.bool b) (.bl b) := by rw [DQ]
theorem DQ.str (x : Str) : DQ c K H (.str x) (.str x) := by rw [DQ]
theorem DQ.non : DQ c K H .none .non := by rw [DQ]
theorem DQs.ints : ∀ ns : List Int, DQs c K H (ns.map .int) (ns.map V.int)
  | [] => DQs.nil
  | n :: r => DQs.cons (DQ.int n) (DQs.ints r)
theorem DQs.strs : ∀ ns : List Str, DQs c K H (ns.map .str) (ns.map V.str)
  | [] => DQs.nil
  | n :: r => DQs.cons (DQ.str n) (DQs.strs r)
/-! ### kinds -/
def tyD : PyData → String
  | .none => "NoneType"
  | .bool _ => "bool"
  | .int _ => "int"
  | .str _ => "str"
  | .list _ => "list"
  | .tuple _ => "tuple"
  | .dict _ => "dict"
theorem DQ.ty : ∀ (d : PyData) (v : V), DQ c K H d v → TyX K H v (.type (tyD d))
  | .none, _, h => by rw [DQ] at h; subst h; exact .base .non
  | .bool _, _, h => by rw [DQ] at h; subst h; exact .base (.bl _)
  | .int _, _, h => by rw [DQ] at h; subst h; exact .base (.int _)
  | .str _, _, h => by rw [DQ] at h; subst h; exact .base (.str _)
  | .list ds, v, h => by
    rw [DQ] at h
    obtain ⟨a, xs, rfl, _, hl, hq⟩ := h
    rcases hl with (h | ⟨o, h⟩) | ⟨o, its, n, h, hc, _⟩
    · exact .base (.lst h)
    · exact .base (.frz h)
    · exact .kList h hc
  | .tuple ds, v, h => by
    rw [DQ] at h
    obtain ⟨a, xs, rfl, hl, hq⟩ := h
    rcases hl with (h | ⟨o, h⟩) | ⟨o, its, n, h, hc, _⟩
    · exact .base (.tup h)
    · exact .fTuple h
    · exact .kTuple h hc
  | .dict _, _, h => by rw [DQ] at h; exact h.elim
def isInt : PyData → Bool
  | .int _ => true
  | _ => false
def isBool : PyData → Bool
  | .bool _ => true
  | _ => false
def isStr : PyData → Bool
  | .str _ => true
  | _ => false
def isTup : PyData → Bool
  | .tuple _ => true
  | _ => false
def isDict : PyData → Bool
  | .dict _ => true
  | _ => false
theorem kit_int : ∀ d : PyData, isDict d = false → PySem.W.kitOne K (.type (tyD d)) (.type "int") = some (isInt d || isBool d)
  | .none, _ => kit_ty (a := "NoneType") (b := "int") (r := false) (by decide +kernel)
  | .bool _, _ => kit_ty (a := "bool") (b := "int") (r := true) (by decide +kernel)
  | .int _, _ => kit_ty (a := "int") (b := "int") (r := true) (by decide +kernel)
  | .str _, _ => kit_ty (a := "str") (b := "int") (r := false) (by decide +kernel)
  | .list _, _ => kit_ty (a := "list") (b := "int") (r := false) (by decide +kernel)
  | .tuple _, _ => kit_ty (a := "tuple") (b := "int") (r := false) (by decide +kernel)
  | .dict _, h => by cases h
theorem kit_bool : ∀ d : PyData, isDict d = false → PySem.W.kitOne K (.type (tyD d)) (.type "bool") = some (isBool d)
  | .none, _ => kit_ty (a := "NoneType") (b := "bool") (r := false) (by decide +kernel)
  | .bool _, _ => kit_ty (a := "bool") (b := "bool") (r := true) (by decide +kernel)
  | .int _, _ => kit_ty (a := "int") (b := "bool") (r := false) (by decide +kernel)
  | .str _, _ => kit_ty (a := "str") (b := "bool") (r := false) (by decide +kernel)
  | .list _, _ => kit_ty (a := "list") (b := "bool") (r := false) (by decide +kernel)
  | .tuple _, _ => kit_ty (a := "tuple") (b := "bool") (r := false) (by decide +kernel)
  | .dict _, h => by cases h
theorem kit_str : ∀ d : PyData, isDict d = false → PySem.W.kitOne K (.type (tyD d)) (.type "str") = some (isStr d)
  | .none, _ => kit_ty (a := "NoneType") (b := "str") (r := false) (by decide +kernel)
  | .bool _, _ => kit_ty (a := "bool") (b := "str") (r := false) (by decide +kernel)
  | .int _, _ => kit_ty (a := "int") (b := "str") (r := false) (by decide +kernel)
  | .str _, _ => kit_ty (a := "str") (b := "str") (r := true) (by decide +kernel)
  | .list _, _ => kit_ty (a := "list") (b := "str") (r := false) (by decide +kernel)
  | .tuple _, _ => kit_ty (a := "tuple") (b := "str") (r := false) (by decide +kernel)
  | .dict _, h => by cases h
theorem kit_tup : ∀ d : PyData, isDict d = false → PySem.W.kitOne K (.type (tyD d)) (.type "tuple") = some (isTup d)
  | .none, _ => kit_ty (a := "NoneType") (b := "tuple") (r := false) (by decide +kernel)
  | .bool _, _ => kit_ty (a := "bool") (b := "tuple") (r := false) (by decide +kernel)
  | .int _, _ => kit_ty (a := "int") (b := "tuple") (r := false) (by decide +kernel)
  | .str _, _ => kit_ty (a := "str") (b := "tuple") (r := false) (by decide +kernel)
  | .list _, _ => kit_ty (a := "list") (b := "tuple") (r := false) (by decide +kernel)
  | .tuple _, _ => kit_ty (a := "tuple") (b := "tuple") (r := true) (by decide +kernel)
  | .dict _, h => by cases h
theorem DQ.nodict : ∀ {d : PyData} {v : V}, DQ c K H d v → isDict d = false
  | .dict _, _, h => by rw [DQ] at h; exact h.elim
  | .none, _, _ => rfl
  | .bool _, _, _ => rfl
  | .int _, _, _ => rfl
  | .str _, _, _ => rfl
  | .list _, _, _ => rfl
  | .tuple _, _, _ => rfl
end
end Gx
set_option Elab.async false
set_option linter.all false
set_option maxRecDepth 100000
set_option maxHeartbeats 4000000
namespace Gx
open PySem PySem.Spec PyProof.Rows L2 RZ
/-! ### for loops by a bound, over anything -/
theorem for_n {J : It} {g : TG} {tb : TS} {D : Ends} {σ : L2.St} {H : Hp} (n : Nat) (Pv : Nat → L2.St → Hp → Prop) (h0 : Pv 0 σ H) (hgo : ∀ i σ H, i < n → Pv i σ H → J.go i H) (hstop : ∀ σ H, Pv n σ H → J.stop n H)
    (hs : ∀ i σ H x H', i < n → Pv i σ H → J.yld i H x H' → g x σ H' fun σ2 H2 => tb { D with nx := Pv (i + 1), ct := Pv (i + 1), bk := D.nx } σ2 H2) (hd : ∀ σ H, Pv n σ H → D.nx σ H) :
    ∃ W : Nat → Nat → L2.St → Hp → Prop, (∃ m, W 0 m σ H) ∧ ∀ i m σ H, W i m σ H →
      (J.stop i H ∧ D.nx σ H) ∨ (J.go i H ∧ ∃ N : L2.St → Hp → Prop, (∀ σ' H', N σ' H' → ∃ m', m' < m ∧ W (i + 1) m' σ' H') ∧ ∀ x H', J.yld i H x H' → g x σ H' fun σ2 H2 => tb { D with nx := N, ct := N, bk := D.nx } σ2 H2) := by
  refine ⟨fun i m σ H => m = n - i ∧ i ≤ n ∧ Pv i σ H, ⟨n, rfl, Nat.zero_le _, h0⟩, ?_⟩
  rintro i m σ H ⟨rfl, hi, p⟩
  by_cases hlt : i < n
  · exact .inr ⟨hgo i σ H hlt p, Pv (i + 1), fun σ' H' p' => ⟨n - (i + 1), by omega, rfl, hlt, p'⟩, fun x H' y => hs i σ H x H' hlt p y⟩
  · have e : i = n := by omega
    subst e
    exact .inl ⟨hstop σ H p, hd σ H p⟩
theorem for_enumT {Kf : PySem.W.Frag} {a : Addr} {xs : List V} {g : TG} {tb : TS} {D : Ends} {σ : L2.St} {H : Hp} (Pv : Nat → L2.St → Hp → Prop) (h0 : Pv 0 σ H) (hl : ∀ i σ H, Pv i σ H → SqT Kf H a xs)
    (hs : ∀ i x T σ H, xs[i]? = some x → Pv i σ H → H T = none → g (.ref T) σ (upd H T (.tup [.int (i : Nat), x])) fun σ2 H2 => tb { D with nx := Pv (i + 1), ct := Pv (i + 1), bk := D.nx } σ2 H2) (hd : ∀ σ H, Pv xs.length σ H → D.nx σ H) :
    ∃ W : Nat → Nat → L2.St → Hp → Prop, (∃ m, W 0 m σ H) ∧ ∀ i m σ H, W i m σ H →
      ((IteT Kf a).stop i H ∧ D.nx σ H) ∨ ((IteT Kf a).go i H ∧ ∃ N : L2.St → Hp → Prop, (∀ σ' H', N σ' H' → ∃ m', m' < m ∧ W (i + 1) m' σ' H') ∧ ∀ x H', (IteT Kf a).yld i H x H' → g x σ H' fun σ2 H2 => tb { D with nx := N, ct := N, bk := D.nx } σ2 H2) :=
  for_n xs.length Pv h0 (fun i σ H hi p => ⟨xs, xs[i], hl i σ H p, List.getElem?_eq_getElem hi⟩) (fun σ H p => ⟨xs, hl _ σ H p, Nat.le_refl _⟩)
    (fun i σ H v H' hi p y => by obtain ⟨T, x, rfl, hT, rfl, f⟩ := y; exact hs i x T σ _ (f xs (hl i σ _ p)) p hT) hd
/-! ### steps from the marks -/
abbrev StepM := Nat × Int × Nat
def stepAt (i : Nat) (r : Rd3) (m : Nat) : List StepM := if r.1 = m then [(i, 1, r.2.1)] else if r.2.1 = m then [(i, -1, r.1)] else []
def adjT (rs : List Rd3) : Nat → Nat → List StepM
  | 0, _ => []
  | k + 1, m => adjT rs k m ++ stepAt k (rs.getD k (0, 0, 0)) m
theorem adjT_length (rs : List Rd3) (m : Nat) : ∀ k, (adjT rs k m).length ≤ k
  | 0 => Nat.le_refl _
  | k + 1 => by
    have ih := adjT_length rs m k
    unfold adjT
    rw [List.length_append]
    have : (stepAt k (rs.getD k (0, 0, 0)) m).length ≤ 1 := by
      unfold stepAt
      split
      · exact Nat.le_refl _
      · split
        · exact Nat.le_refl _
        · exact Nat.zero_le _
    omega
def StepsAt (K : PySem.W.Frag) (H : Hp) (a : Addr) (l : List StepM) : Prop := ∃ vs, H a = some (.lst vs) ∧ vs.length = l.length ∧ ∀ (j : Nat) (st : StepM), l[j]? = some st → ∃ t, vs[j]? = some (.ref t) ∧ SqT K H t [.int st.1, .int st.2.1, .int st.2.2]
def NearAt (K : PySem.W.Frag) (H : Hp) (np : Addr) (n : Nat) (adj : Nat → List StepM) : Prop := ∃ ads : List Addr, H np = some (.lst (ads.map V.ref)) ∧ ads.length = n ∧ ∀ m a, ads[m]? = some a → StepsAt K H a (adj m)
section
variable {K : PySem.W.Frag} {H H1 : Hp} {c : List Addr}
theorem StepsAt.ext {a : Addr} {l : List StepM} (h : StepsAt K H a l) (x : Ext c H H1) (ha : a ∉ c) : StepsAt K H1 a l := by
  obtain ⟨vs, h1, h2, h3⟩ := h
  exact ⟨vs, x.lst h1 ha, h2, fun j st e => let ⟨t, e1, e2⟩ := h3 j st e; ⟨t, e1, x.sqT e2⟩⟩
theorem NearAt.ext {np : Addr} {n : Nat} {adj : Nat → List StepM} (h : NearAt K H np n adj) (x : Ext [] H H1) : NearAt K H1 np n adj := by
  obtain ⟨ads, h1, h2, h3⟩ := h
  exact ⟨ads, x.lst h1 (by simp), h2, fun m a e => (h3 m a e).ext x (by simp)⟩
/-- a step more at a -/
theorem StepsAt.push {H0 : Hp} {a t : Addr} {l : List StepM} {vs : List V} {st : StepM} (x : Ext [] H0 H) (h0 : H0 a = none) (h1 : H a = some (.lst vs)) (h2 : vs.length = l.length) (h3 : ∀ (j : Nat) (st : StepM), l[j]? = some st → ∃ t, vs[j]? = some (.ref t) ∧ SqT K H t [.int st.1, .int st.2.1, .int st.2.2])
    (ht : SqT K H t [.int st.1, .int st.2.1, .int st.2.2]) : StepsAt K (upd H a (.lst (vs ++ [.ref t]))) a (l ++ [st]) := by
  have xo : Ext [a] H (upd H a (.lst (vs ++ [.ref t]))) := .set (List.mem_singleton.mpr rfl) h1
  refine ⟨_, upd_same, by rw [List.length_append, List.length_append, h2]; rfl, fun j s e => ?_⟩
  by_cases hj : j < l.length
  · rw [List.getElem?_append_left hj] at e
    obtain ⟨t', e1, e2⟩ := h3 j s e
    exact ⟨t', by rw [List.getElem?_append_left (by omega)]; exact e1, xo.sqT e2⟩
  · rw [List.getElem?_append_right (by omega)] at e
    have hj0 : j - l.length = 0 := by
      cases h : j - l.length with
      | zero => rfl
      | succ k => rw [h] at e; cases e
    rw [hj0] at e
    cases e
    refine ⟨t, ?_, xo.sqT ht⟩
    rw [List.getElem?_append_right (by omega), h2, hj0]
    rfl
end
end Gx
set_option Elab.async false
set_option linter.all false
set_option maxRecDepth 100000
set_option maxHeartbeats 4000000
namespace Gx
open PySem PySem.Spec PyProof.Rows L2 RZ TL
/-! ### set(t) of a tuple of ints -/
def rSetI (K : PySem.W.Frag) (w : World) : List V → Hp → VK → Prop := fun xs H Q => ∃ (a : Addr) (ns : List Int), xs = [.ref a] ∧ SqT K H a (ns.map V.int) ∧ ns.length ≤ 1000 ∧
  ∀ p c, c ≤ ns.length → H p = none → Q (.ref p) (upd H p (SetO w p (fun j => decide (j ∈ ns)) c))
theorem call_setI {X : Cx} (hc : X.calm = true) : CallR X (.type "set") (rSetI X.K X.w) := by
  intro pins s σ H vs us Q I r h
  obtain ⟨a, ns, rfl, hq, hl, q⟩ := h
  obtain ⟨its, rv, pt, hz⟩ := I.tuple hq
  have hi : IntsAre its.toArray.toList ns := ints_of_vals rv
  rw [Vals.ref1 r]
  refine call_set_tupI ns (I.ok.hd hc) (show s.heap.IsTuple a its.toArray from pt) hi (by unfold scanBound; omega) fun h' tk c R1 hcn k => ?_
  have hs : s.heap.objs.size ≤ s.heap.objs.size := Nat.le_refl _
  exact ⟨.ref _, upd H s.heap.objs.size (SetO X.w s.heap.objs.size (fun j => decide (j ∈ ns)) c), I.laid (t' := tk) (fun b u e => k b u e) hs (setO_new R1), rfl, q _ c hcn (I.hok.fresh hs)⟩
/-! ### text * int -/
theorem op_mul_str {X : Cx} : OpR X (binaryOp .Mult) (fun x y H Q => ∃ (z : Str) (k : Int), x = .str z ∧ y = .int k ∧ 0 ≤ k ∧ k ≤ 4000 ∧ z.length ≤ 4000 ∧ Q (.str (Txt.mul z k)) H) := by
  intro pins s σ H x y v u Q I rx ry h
  obtain ⟨z, k, rfl, rfl, h0, h1, h2, q⟩ := h
  obtain ⟨t, rfl⟩ := rx
  obtain ⟨t', rfl⟩ := ry
  exact SB.mul (mulOk_of 4095 4095 (by omega) (by omega) (by omega) (by decide) (by decide)) fun t' k' => ⟨.str (Txt.mul z k), H, I.tok _, ⟨_, rfl⟩, q⟩
theorem foldl_app : ∀ (n : Nat) (acc x : Array Nat), ((List.replicate n x).foldl (· ++ ·) acc).toList = acc.toList ++ (List.replicate n x.toList).flatten
  | 0, acc, x => by simp
  | n + 1, acc, x => by
    rw [List.replicate_succ, List.foldl_cons, foldl_app n (acc ++ x) x, List.replicate_succ, List.flatten_cons, Array.toList_append, List.append_assoc]
theorem flat_one (n c : Nat) : (List.replicate n [c]).flatten = List.replicate n c := by
  induction n with
  | zero => rfl
  | succ n ih => rw [List.replicate_succ, List.flatten_cons, ih, List.replicate_succ]; rfl
/-- so many spaces -/
theorem tl_mul_space (n : Nat) : tl (Txt.mul " " (n : Int)) = List.replicate n 32 := by
  unfold Txt.mul
  split
  · have : n = 0 := by omega
    subst this
    rfl
  · split
    · rename_i h
      have h2 : n = 1 := by
        rcases Bool.or_eq_true _ _ |>.mp h with e | e
        · have := eq_of_beq e; omega
        · exact absurd e (by decide)
      subst h2
      rfl
    · show ((List.replicate (n : Int).toNat (" " : Str).cps).foldl (· ++ ·) #[]).toList = _
      rw [foldl_app, Int.toNat_natCast]
      show [] ++ (List.replicate n [32]).flatten = _
      rw [List.nil_append, flat_one]
theorem tl_len (x : Str) : (tl x).length = x.length := by
  show x.cps.toList.length = x.cps.size
  simp
/-! ### x.rjust(n) -/
theorem tl_rjust (x : Str) (n : Nat) : tl (Txt.rjust x (n : Int)) = List.replicate (n - x.length) 32 ++ tl x := by
  unfold Txt.rjust
  split
  · rename_i h
    have e : n - x.length = 0 := by omega
    rw [e]
    rfl
  · show (Array.replicate ((n : Int).toNat - x.length) 32 ++ x.cps ++ Array.replicate 0 32).toList = _
    rw [Int.toNat_natCast]
    simp
theorem joinL_flat (S : List Nat) : ∀ (p : List Nat) (ps : List (List Nat)), joinL S (p :: ps) = p ++ (ps.map (S ++ ·)).flatten
  | p, [] => by simp [joinL]
  | p, q :: r => by
    show p ++ (S ++ joinL S (q :: r)) = _
    rw [joinL_flat S q r, List.map_cons, List.flatten_cons, List.append_assoc]
theorem joinL_nil : ∀ (ps : List (List Nat)), joinL [] ps = ps.flatten
  | [] => rfl
  | p :: ps => by
    rw [joinL_flat]
    simp
theorem tl_inj {x y : Str} (h : tl x = tl y) : x = y := ext_tl h
/-! ### zip of lists of unlike lengths -/
theorem for_zipN {K : PySem.W.Frag} {a b : Addr} {xs ys : List V} {g : TG} {tb : TS} {D : Ends} {σ : L2.St} {H : Hp} (n : Nat) (hn : n ≤ xs.length) (hn2 : n ≤ ys.length) (he : xs.length ≤ n ∨ ys.length ≤ n) (Pv : Nat → L2.St → Hp → Prop) (h0 : Pv 0 σ H) (hq : ∀ i σ H, Pv i σ H → SqL K H a xs ∧ SqL K H b ys)
    (hs : ∀ (i : Nat) (x y : V) (T : Addr) (σ : L2.St) (H : Hp), xs[i]? = some x → ys[i]? = some y → Pv i σ H → H T = none → g (.ref T) σ (upd H T (.tup [x, y])) fun σ2 H2 => tb { D with nx := Pv (i + 1), ct := Pv (i + 1), bk := D.nx } σ2 H2) (hd : ∀ σ H, Pv n σ H → D.nx σ H) :
    ∃ W : Nat → Nat → L2.St → Hp → Prop, (∃ m, W 0 m σ H) ∧ ∀ i m σ H, W i m σ H →
      ((Itz K a b).stop i H ∧ D.nx σ H) ∨ ((Itz K a b).go i H ∧ ∃ N : L2.St → Hp → Prop, (∀ σ' H', N σ' H' → ∃ m', m' < m ∧ W (i + 1) m' σ' H') ∧ ∀ v H', (Itz K a b).yld i H v H' → g v σ H' fun σ2 H2 => tb { D with nx := N, ct := N, bk := D.nx } σ2 H2) := by
  refine ⟨fun i m σ H => m = n - i ∧ i ≤ n ∧ Pv i σ H, ⟨n, rfl, Nat.zero_le _, h0⟩, ?_⟩
  rintro i m σ H ⟨rfl, hi, p⟩
  obtain ⟨qx, qy⟩ := hq i σ H p
  by_cases hlt : i < n
  · have l1 : i < xs.length := by omega
    have l2 : i < ys.length := by omega
    have hx : xs[i]? = some xs[i] := List.getElem?_eq_getElem l1
    have hy : ys[i]? = some ys[i] := List.getElem?_eq_getElem l2
    refine .inr ⟨⟨xs, ys, _, _, qx, qy, hx, hy⟩, Pv (i + 1), fun σ' H' p' => ⟨n - (i + 1), by omega, rfl, hlt, p'⟩, fun v H' y => ?_⟩
    obtain ⟨T, x', y', rfl, hT, rfl, f1, f2⟩ := y
    exact hs i x' y' T σ H (f1 xs qx) (f2 ys qy) p hT
  · have e : i = n := by omega
    subst e
    exact .inl ⟨⟨xs, ys, qx, qy, he⟩, hd σ H p⟩
/-! ### a comprehension over zip of two tuples -/
theorem lc_zipT {K : PySem.W.Frag} {a b : Addr} {xs zs : List V} {g : TG} {tt : TT} {te : TE} {vs : List Nat} {σ : L2.St} {H1 : Hp} {D : Addr} {Qd : Hp → Prop} (he : xs.length = zs.length) (Pv : Nat → Hp → Prop) (h0 : Pv 0 (upd H1 D (.lst []))) (hl : ∀ i H, Pv i H → SqT K H a xs ∧ SqT K H b zs)
    (hs : ∀ i x z T H, xs[i]? = some x → zs[i]? = some z → Pv i H → H T = none → g (.ref T) (wipe σ vs) (upd H T (.tup [x, z])) fun σ2 H2 => wipe σ2 vs = wipe σ vs ∧ tt σ2 H2 fun b H3 =>
      if b = true then te σ2 H3 fun y H4 => ∃ acc, H4 D = some (.lst acc) ∧ acc.length < sizeLine ∧ Pv (i + 1) (upd H4 D (.lst (acc ++ [y]))) else Pv (i + 1) H3) (hd : ∀ H, Pv xs.length H → Qd H) :
    ∃ W : Nat → Nat → Hp → Prop, (∃ m, W 0 m (upd H1 D (.lst []))) ∧ ∀ i m H, W i m H →
      ((ItzT K a b).stop i H ∧ Qd H) ∨ ((ItzT K a b).go i H ∧ ∃ Nx : Hp → Prop, (∀ H', Nx H' → ∃ m', m' < m ∧ W (i + 1) m' H') ∧ ∀ x H', (ItzT K a b).yld i H x H' → g x (wipe σ vs) H' fun σ2 H2 => wipe σ2 vs = wipe σ vs ∧ tt σ2 H2 fun b H3 =>
        if b = true then te σ2 H3 fun y H4 => ∃ acc, H4 D = some (.lst acc) ∧ acc.length < sizeLine ∧ Nx (upd H4 D (.lst (acc ++ [y]))) else Nx H3) := by
  refine ⟨fun i m H => m = xs.length - i ∧ i ≤ xs.length ∧ Pv i H, ⟨xs.length, by simp, Nat.zero_le _, h0⟩, ?_⟩
  rintro i m H ⟨rfl, hi, p⟩
  obtain ⟨qx, qz⟩ := hl i H p
  by_cases hlt : i < xs.length
  · have hz2 : i < zs.length := by omega
    refine .inr ⟨⟨xs, zs, xs[i], zs[i], qx, qz, List.getElem?_eq_getElem hlt, List.getElem?_eq_getElem hz2⟩, Pv (i + 1), fun H' p' => ⟨xs.length - (i + 1), by omega, rfl, hlt, p'⟩, fun x H' y => ?_⟩
    obtain ⟨T, x', y', rfl, hT, rfl, f1, f2⟩ := y
    exact hs i x' y' T H (f1 xs qx) (f2 zs qz) p hT
  · have e : i = xs.length := by omega
    subst e
    exact .inl ⟨⟨xs, zs, qx, qz, .inl (Nat.le_refl _)⟩, hd H p⟩
end Gx
set_option Elab.async false
set_option linter.all false
set_option maxRecDepth 100000
set_option maxHeartbeats 4000000
namespace K34
open PySem PySem.Spec PyProof.Rows L2 Gx RZ TL
def num (i : Int) : Str := Str.ofString (toString i)
/-- the first i marks' names of those at height h -/
def selN (ms : List Str) (hs : List Int) (h : Int) (i : Nat) : List Str := ((ms.zip hs).take i).filterMap fun q => if q.2 = h then some q.1 else none
def tailL (ns : List Str) : List Nat := (ns.map fun q => 32 :: tl q).flatten
def rowL (w : Nat) (h : Int) (ns : List Str) : List Nat := List.replicate (w - (num h).length) 32 ++ tl (num h) ++ tailL ns
def rowS (w : Nat) (h : Int) (ns : List Str) : Str := ⟨(rowL w h ns).toArray⟩
def gapL (w : Nat) (d : Int) : List Nat := List.replicate w 32 ++ ([32, 124, 32] ++ tl (num d))
def gapS (w : Nat) (d : Int) : Str := ⟨(gapL w d).toArray⟩
section
variable (w : Nat) (ms : List Str) (hs : List Int)
def row (l : Int) : Str := rowS w l (selN ms hs l hs.length)
def restL : Int → List Int → List Str
  | _, [] => []
  | p, l :: r => gapS w (p - l) :: row w ms hs l :: restL l r
def lines : List Int → List Str
  | [] => []
  | l :: r => row w ms hs l :: restL w ms hs l r
end
def profS (w : Nat) (ms : List Str) (hs lv : List Int) : Str := Txt.join Str.empty ((lines w ms hs lv).map (· ++ "\n"))
structure Desc (hs lv : List Int) : Prop where
  pw : lv.Pairwise (· > ·)
  mem : ∀ x, x ∈ lv ↔ x ∈ hs
  len : lv.length ≤ hs.length
structure Wid (hs : List Int) (w : Nat) : Prop where
  le : ∀ h ∈ hs, (num h).length ≤ w
  at_ : ∃ h ∈ hs, (num h).length = w
structure Fits (ms : List Str) (hs : List Int) : Prop where
  len : ms.length = hs.length
  ne : hs ≠ []
  few : hs.length ≤ 60
  name : ∀ m ∈ ms, m.length ≤ 100
  low : ∀ h ∈ hs, h.natAbs < 2 ^ 30
theorem small_log {i : Int} (h : i.natAbs < 2 ^ 40) : i.natAbs.log2 < 1920 := by
  by_cases z : i.natAbs = 0
  · rw [z]; decide
  · have := (Nat.log2_lt z).mpr h
    omega
theorem num_len {i : Int} (h : i.natAbs < 2 ^ 40) : (num i).length ≤ 1921 := int_text_len_1921 (small_log h)
theorem tl_row (w : Nat) (h : Int) (ns : List Str) : tl (rowS w h ns) = rowL w h ns := rfl
theorem tl_gap (w : Nat) (d : Int) : tl (gapS w d) = gapL w d := rfl
theorem restL_snoc (w : Nat) (ms : List Str) (hs : List Int) (q : Int) : ∀ (xs : List Int) (p : Int), restL w ms hs p (xs ++ [q]) = restL w ms hs p xs ++ [gapS w (xs.getLastD p - q), row w ms hs q]
  | [], p => rfl
  | x :: xs, p => by
    show gapS w (p - x) :: row w ms hs x :: restL w ms hs x (xs ++ [q]) = gapS w (p - x) :: row w ms hs x :: (restL w ms hs x xs ++ _)
    rw [restL_snoc w ms hs q xs x, List.getLastD_cons]
theorem lines_succ (w : Nat) (ms : List Str) (hs lv : List Int) {j : Nat} (h0 : 0 < j) (hj : j < lv.length) : lines w ms hs (lv.take (j + 1)) = lines w ms hs (lv.take j) ++ [gapS w (lv.getD (j - 1) 0 - lv.getD j 0), row w ms hs (lv.getD j 0)] := by
  cases lv with
  | nil => cases hj
  | cons l r =>
    cases j with
    | zero => cases h0
    | succ j =>
      have hr : j < r.length := by simpa using hj
      have e1 : (l :: r).getD (j + 1) 0 = r[j] := by rw [List.getD_eq_getElem?_getD, List.getElem?_cons_succ, List.getElem?_eq_getElem hr]; rfl
      have e2 : (r.take j).getLastD l = (l :: r).getD (j + 1 - 1) 0 := by
        cases j with
        | zero => rfl
        | succ j =>
          have hj2 : j < r.length := by omega
          rw [List.take_add_one, List.getElem?_eq_getElem hj2]
          show (r.take j ++ [r[j]]).getLastD l = _
          rw [List.getLastD_concat, List.getD_eq_getElem?_getD]
          show r[j] = ((l :: r)[j + 1]?).getD 0
          rw [List.getElem?_cons_succ, List.getElem?_eq_getElem hj2]
          rfl
      rw [e1, ← e2]
      show lines w ms hs (l :: r.take (j + 1)) = lines w ms hs (l :: r.take j) ++ _
      rw [List.take_add_one, List.getElem?_eq_getElem hr]
      show row w ms hs l :: restL w ms hs l (r.take j ++ [r[j]]) = row w ms hs l :: restL w ms hs l (r.take j) ++ _
      rw [restL_snoc]
      rfl
theorem lines_one (w : Nat) (ms : List Str) (hs lv : List Int) (h : 0 < lv.length) : lines w ms hs (lv.take 1) = [row w ms hs (lv.getD 0 0)] := by
  cases lv with
  | nil => cases h
  | cons l r => rfl
theorem selN_zero (ms : List Str) (hs : List Int) (h : Int) : selN ms hs h 0 = [] := rfl
theorem selN_succ {ms : List Str} {hs : List Int} (h : Int) {i : Nat} (h1 : i < ms.length) (h2 : i < hs.length) : selN ms hs h (i + 1) = selN ms hs h i ++ (if hs[i] = h then [ms[i]] else []) := by
  have hz : i < (ms.zip hs).length := by rw [List.length_zip]; omega
  have e : (ms.zip hs)[i] = (ms[i], hs[i]) := List.getElem_zip
  unfold selN
  rw [List.take_add_one, List.getElem?_eq_getElem hz, List.filterMap_append, e]
  congr 1
  by_cases c : hs[i] = h
  · rw [if_pos c]
    show List.filterMap _ [(ms[i], hs[i])] = _
    simp [c]
  · rw [if_neg c]
    show List.filterMap _ [(ms[i], hs[i])] = _
    simp [c]
theorem selN_len (ms : List Str) (hs : List Int) (h : Int) (i : Nat) : (selN ms hs h i).length ≤ i := by
  unfold selN
  refine Nat.le_trans (List.length_filterMap_le ..) ?_
  rw [List.length_take]
  omega
theorem selN_mem {ms : List Str} {hs : List Int} {h : Int} {i : Nat} {m : Str} (hm : m ∈ selN ms hs h i) : m ∈ ms := by
  unfold selN at hm
  obtain ⟨q, hq, e⟩ := List.mem_filterMap.mp hm
  have := List.mem_of_mem_take hq
  split at e
  · cases e
    exact (List.of_mem_zip this).1
  · cases e
theorem tailL_app (a b : List Str) : tailL (a ++ b) = tailL a ++ tailL b := by
  unfold tailL
  rw [List.map_append, List.flatten_append]
theorem tailL_len {B : Nat} : ∀ (ns : List Str), (∀ m ∈ ns, m.length ≤ B) → (tailL ns).length ≤ ns.length * (B + 1)
  | [], _ => Nat.zero_le _
  | n :: ns, h => by
    have ih := tailL_len ns fun m hm => h m (List.mem_cons_of_mem _ hm)
    have h1 := h n List.mem_cons_self
    have e : tailL (n :: ns) = 32 :: tl n ++ tailL ns := by
      unfold tailL
      rw [List.map_cons, List.flatten_cons]
    rw [e, List.length_append, List.length_cons, tl_len, List.length_cons, Nat.succ_mul]
    omega
theorem tail_le {ms : List Str} {hs : List Int} (F : Fits ms hs) (h : Int) {i : Nat} (hi : i ≤ hs.length) : (tailL (selN ms hs h i)).length ≤ 6060 := by
  have h1 := tailL_len (B := 100) (selN ms hs h i) fun m hm => F.name m (selN_mem hm)
  have h2 := selN_len ms hs h i
  have h3 := F.few
  have h4 : (selN ms hs h i).length * (100 + 1) ≤ 60 * 101 := Nat.mul_le_mul (by omega) (Nat.le_refl _)
  omega
theorem Wid.small {ms : List Str} {hs : List Int} {w : Nat} (W : Wid hs w) (F : Fits ms hs) : w ≤ 1921 := by
  obtain ⟨h, hh, e⟩ := W.at_
  have := num_len (i := h) (by have := F.low h hh; omega)
  omega
theorem row_len {ms : List Str} {hs : List Int} {w : Nat} {l : Int} (F : Fits ms hs) (hw : w ≤ 1921) (hl : l.natAbs < 2 ^ 40) : (row w ms hs l).length ≤ 10000 := by
  have h1 := tail_le F l (Nat.le_refl hs.length)
  have h2 := num_len hl
  have e : (row w ms hs l).length = (rowL w l (selN ms hs l hs.length)).length := (tl_len _).symm
  rw [e]
  unfold rowL
  rw [List.length_append, List.length_append, List.length_replicate, tl_len]
  omega
theorem gap_len {w : Nat} {d : Int} (hw : w ≤ 1921) (hl : d.natAbs < 2 ^ 40) : (gapS w d).length ≤ 10000 := by
  have h2 := num_len hl
  have e : (gapS w d).length = (gapL w d).length := (tl_len _).symm
  rw [e]
  unfold gapL
  rw [List.length_append, List.length_append, List.length_replicate, tl_len]
  simp
  omega
theorem restL_ok {ms : List Str} {hs : List Int} {w : Nat} (F : Fits ms hs) (hw : w ≤ 1921) : ∀ (r : List Int) (p : Int), p.natAbs < 2 ^ 30 → (∀ x ∈ r, x.natAbs < 2 ^ 30) → (restL w ms hs p r).length = 2 * r.length ∧ ∀ y ∈ restL w ms hs p r, y.length ≤ 10000
  | [], _, _, _ => ⟨rfl, fun y hy => by cases hy⟩
  | l :: r, p, hp, h => by
    have hl := h l List.mem_cons_self
    obtain ⟨e1, e2⟩ := restL_ok F hw r l hl fun x hx => h x (List.mem_cons_of_mem _ hx)
    have g1 := gap_len (w := w) (d := p - l) hw (by omega)
    have g2 := row_len (l := l) F hw (by omega)
    refine ⟨?_, fun y hy => ?_⟩
    · show (gapS w (p - l) :: row w ms hs l :: restL w ms hs l r).length = _
      rw [List.length_cons, List.length_cons, e1, List.length_cons]
      omega
    · rcases List.mem_cons.mp hy with rfl | hy
      · exact g1
      · rcases List.mem_cons.mp hy with rfl | hy
        · exact g2
        · exact e2 y hy
theorem lines_ok {ms : List Str} {hs lv : List Int} {w : Nat} (F : Fits ms hs) (hw : w ≤ 1921) (h : ∀ x ∈ lv, x.natAbs < 2 ^ 30) : (lines w ms hs lv).length ≤ 2 * lv.length ∧ ∀ y ∈ lines w ms hs lv, y.length ≤ 10000 := by
  cases lv with
  | nil => exact ⟨Nat.le_refl _, fun y hy => by cases hy⟩
  | cons l r =>
    have hl := h l List.mem_cons_self
    obtain ⟨e1, e2⟩ := restL_ok (w := w) F hw r l hl fun x hx => h x (List.mem_cons_of_mem _ hx)
    have g2 := row_len (w := w) (l := l) F hw (by omega)
    refine ⟨?_, fun y hy => ?_⟩
    · show (row w ms hs l :: restL w ms hs l r).length ≤ _
      rw [List.length_cons, e1, List.length_cons]
      omega
    · rcases List.mem_cons.mp hy with rfl | hy
      · exact g2
      · exact e2 y hy
theorem sum_le {B : Nat} : ∀ (l : List Str), (∀ y ∈ l, y.length ≤ B) → (l.map (·.length)).sum ≤ l.length * B
  | [], _ => Nat.zero_le _
  | y :: l, h => by
    have ih := sum_le l fun z hz => h z (List.mem_cons_of_mem _ hz)
    have h1 := h y List.mem_cons_self
    rw [List.map_cons, List.sum_cons, List.length_cons, Nat.succ_mul]
    omega
theorem withNl_ok {ms : List Str} {hs lv : List Int} {w : Nat} (F : Fits ms hs) (W : Wid hs w) (D : Desc hs lv) : (((lines w ms hs lv).map (· ++ ("\n" : Str))).map (·.length)).sum + ((lines w ms hs lv).map (· ++ ("\n" : Str))).length * Str.empty.length ≤ 16777216 := by
  obtain ⟨h1, h2⟩ := lines_ok (lv := lv) F (W.small F) fun x hx => F.low x ((D.mem x).mp hx)
  have h3 := sum_le (B := 10001) ((lines w ms hs lv).map (· ++ ("\n" : Str))) fun y hy => by
    obtain ⟨z, hz, rfl⟩ := List.mem_map.mp hy
    have := h2 z hz
    have e : (z ++ ("\n" : Str)).length = z.length + 1 := by rw [← tl_len, tl_append, List.length_append, tl_len]; rfl
    omega
  have h4 : Str.empty.length = 0 := rfl
  rw [List.length_map] at h3 ⊢
  have h5 := D.len
  have h6 := F.few
  have h7 : (lines w ms hs lv).length * 10001 ≤ 120 * 10001 := Nat.mul_le_mul (by omega) (Nat.le_refl _)
  rw [h4]
  omega
theorem drop_cons {lv : List Int} {j : Nat} (hj : j < lv.length) : lv.drop j = lv.getD j 0 :: lv.drop (j + 1) := by
  rw [List.drop_eq_getElem_cons hj, List.getD_eq_getElem?_getD, List.getElem?_eq_getElem hj]
  rfl
/-- what is left after the first j levels -/
def leftN (hs lv : List Int) (j : Nat) : List Int := hs.filter fun x => decide (x ∈ lv.drop j)
theorem leftN_zero {hs lv : List Int} (D : Desc hs lv) : leftN hs lv 0 = hs := by
  unfold leftN
  rw [List.filter_eq_self]
  intro x hx
  rw [List.drop_zero]
  exact decide_eq_true ((D.mem x).mpr hx)
theorem leftN_end {hs lv : List Int} : leftN hs lv lv.length = [] := by
  unfold leftN
  rw [List.drop_length]
  simp
theorem leftN_max {hs lv : List Int} (D : Desc hs lv) {j : Nat} (hj : j < lv.length) {m : Int} (h1 : m ∈ leftN hs lv j) (h2 : ∀ y ∈ leftN hs lv j, y ≤ m) : m = lv.getD j 0 := by
  have pw := D.pw.drop (i := j)
  rw [drop_cons hj] at pw
  obtain ⟨p1, _⟩ := List.pairwise_cons.mp pw
  have mm : m ∈ lv.drop j := by
    have := (List.mem_filter.mp h1).2
    exact of_decide_eq_true this
  rw [drop_cons hj] at mm
  have h0 : lv.getD j 0 ∈ leftN hs lv j := by
    refine List.mem_filter.mpr ⟨(D.mem _).mp ?_, decide_eq_true (by rw [drop_cons hj]; exact List.mem_cons_self)⟩
    rw [List.getD_eq_getElem?_getD, List.getElem?_eq_getElem hj]
    exact List.getElem_mem hj
  have h3 := h2 _ h0
  rcases List.mem_cons.mp mm with e | e
  · exact e
  · have := p1 m e
    omega
theorem leftN_ne {hs lv : List Int} (D : Desc hs lv) {j : Nat} (hj : j < lv.length) : leftN hs lv j ≠ [] := by
  have h0 : lv.getD j 0 ∈ leftN hs lv j := by
    refine List.mem_filter.mpr ⟨(D.mem _).mp ?_, decide_eq_true (by rw [drop_cons hj]; exact List.mem_cons_self)⟩
    rw [List.getD_eq_getElem?_getD, List.getElem?_eq_getElem hj]
    exact List.getElem_mem hj
  intro z
  rw [z] at h0
  cases h0
theorem leftN_succ {hs lv : List Int} (D : Desc hs lv) {j : Nat} (hj : j < lv.length) : (leftN hs lv j).filter (fun x => !decide (x = lv.getD j 0)) = leftN hs lv (j + 1) := by
  unfold leftN
  rw [List.filter_filter]
  congr 1
  funext x
  have pw := D.pw.drop (i := j)
  rw [drop_cons hj] at pw
  obtain ⟨p1, _⟩ := List.pairwise_cons.mp pw
  rw [drop_cons hj]
  generalize lv.getD j 0 = m at p1 ⊢
  by_cases c : x = m
  · have h : x ∉ lv.drop (j + 1) := fun z => by have := p1 x z; omega
    rw [decide_eq_true c, decide_eq_false h]
    rfl
  · rw [decide_eq_false c]
    simp [c]
end K34
set_option Elab.async false
set_option linter.all false
set_option maxRecDepth 100000
set_option maxHeartbeats 4000000
namespace K34
open PySem PySem.Spec PyProof.Rows L2 Gx RZ TL StX
def topS (i : Nat) : Stmt := PySem.Challenge.pw_truelevels_k34_profile_is_drawn.main.body.getD i (.Pass ⟨0, 0, 0, 0⟩)
abbrev sProfile : Stmt := topS 1
abbrev sLevel : Stmt := topS 2
abbrev sCell : Stmt := topS 4
abbrev sDigits : Stmt := topS 5
abbrev sDraw : Stmt := topS 6
abbrev sPick : Stmt := topS 7
abbrev sLines : Stmt := topS 8
abbrev sLaw : Stmt := topS 9
theorem map_item {α : Type} {f : α → V} {xs : List α} {i : Nat} {x : V} (h : (xs.map f)[i]? = some x) : ∃ hi : i < xs.length, x = f xs[i] := by
  rw [List.getElem?_map] at h
  cases e : xs[i]? with
  | none => rw [e] at h; cases h
  | some y =>
    rw [e] at h
    obtain ⟨h1, h2⟩ := List.getElem?_eq_some_iff.mp e
    exact ⟨h1, by rw [h2]; exact (Option.some.inj h).symm⟩
theorem padOk {n : Nat} (h : n ≤ 4000) : PadOk (n : Int) = true := by
  unfold PadOk fitsSsize Builtin.Str.tooLong sizeLine
  have h1 : ¬ ((n : Int) < -(2 ^ 63 : Int)) := by omega
  have h2 : ¬ ((n : Int) ≥ (2 ^ 63 : Int)) := by omega
  rw [decide_eq_false h1, decide_eq_false h2, Int.toNat_natCast]
  have h3 : ¬ n > 2 ^ 24 := by omega
  simp
  omega
section
variable {P : Program} {w : World} {K : PySem.W.Frag} {mg : Str → Option Value} {base : Heap}
/-! ### level_line -/
abbrev nLevel : List Str := ["marks", "heights", "level", "width", "names", "name", "height"]
theorem scLevel : FnScope nLevel ["marks", "heights", "level", "width"] (defScope sLevel) := ⟨rfl, rfl, rfl, by decide +kernel, rfl, by decide +kernel, by decide +kernel⟩
def spLevel (K : PySem.W.Frag) : Sp := fun vs H Q _ => ∃ (mp hp : Addr) (ms : List Str) (hs : List Int) (l : Int) (n : Nat), vs = [.ref mp, .ref hp, .int l, .int (n : Nat)] ∧ SqT K H mp (ms.map V.str) ∧ SqT K H hp (hs.map V.int) ∧ Fits ms hs ∧ n ≤ 1921 ∧ l.natAbs < 2 ^ 40 ∧
  ∀ H', Ext [] H H' → Q (.str (row n ms hs l)) H'
theorem ok_level {f : Addr} {fd : FuncData} (mz : mg "zip" = none) (mst : mg "str" = none) (F : Fun K "level_line" "level_line" sLevel f fd) : FnOk P w K mg base CX0 1 f fd ["marks", "heights", "level", "width"] (spLevel K) := by
  have nd := scLevel.nd
  refine F.ok scLevel (fun vs H Q E h => ?_) (fun cdv A outer s H vs Q E hr h => ?_)
  · obtain ⟨_, _, _, _, _, _, rfl, _⟩ := h
    rfl
  · obtain ⟨mp, hp, ms, hs, l, n, rfl, hm, hh, FT, hn, hl, q⟩ := h
    refine ⟨_, pss_cons (ps_setLc (i := 4) (own := [("name", 5), ("height", 6)]) (g := gTup K 2 (gCons (gName 5) (gCons (gName 6) gNil))) rfl nd rfl rfl (sw_true rfl rfl rfl (by decide +kernel)) (pi_zipA (by rfl) mz (pa_cons (pv 0) (pa_cons (pv 1) pa_nil))) (blkOk_by (N := nLevel) (sc := defScope sLevel) (by decide +kernel))
        (fun _ _ _ _ _ => pg_tup rfl (pgs_cons (pg_name (i := 5) nd rfl (.inl rfl) (.inr rfl)) (pgs_cons (pg_name (i := 6) nd rfl (.inl rfl) (.inr rfl)) pgs_nil))) (fun _ _ _ _ _ => pts_one (pt_cmpR op_eq (pv 6) (pv 2) (nomark _))) (fun _ _ _ _ _ => pv 5))
      (pss_one (ps_ret (pe_join pe_str (pe_lst (pa_cons (pe_m1 PySem.F.slot_str_rjust PySem.F.type_str_rjust mt_rjust (pe_callTy call_str_int (by rfl) mst PyProof.Rows.boot_str (pa_cons (pv 2) pa_nil)) (pv 3)) (pa_star (pv 4) pa_nil)))))), ?_⟩
    refine ⟨_, rfl, _, rfl, mp, hp, _, _, rfl, .inr ⟨hm, hh, fun D hD => ?_⟩⟩
    have ll : (ms.map V.str).length = (hs.map V.int).length := by rw [List.length_map, List.length_map]; exact FT.len
    refine lc_zipT ll (fun i H2 => Ext [] H H2 ∧ H2 D = some (.lst ((selN ms hs l i).map V.str))) ⟨.new hD, upd_same⟩ (fun i H2 h2 => ⟨h2.1.sqT hm, h2.1.sqT hh⟩) (fun i x z T H2 hx hz h2 hT => ?_) (fun H2 h2 => ?_)
    · obtain ⟨x2, e2⟩ := h2
      obtain ⟨hi, rfl⟩ := map_item hx
      obtain ⟨hi2, rfl⟩ := map_item hz
      refine ⟨T, _, rfl, .inl (.inl upd_same), rfl, _, _, rfl, _, _, rfl, rfl, rfl, ?_⟩
      refine ⟨_, rfl, _, rfl, rfl, _, rfl, ?_⟩
      have hDT : D ≠ T := ne_of_none e2 hT
      have e3 : (upd H2 T (.tup [.str ms[i], .int hs[i]])) D = some (.lst ((selN ms hs l i).map V.str)) := by rw [upd_ne hDT]; exact e2
      have x3 : Ext [] H (upd H2 T (.tup [.str ms[i], .int hs[i]])) := x2.trans (.new hT)
      have sz : ((selN ms hs l i).map V.str).length < sizeLine := by
        rw [List.length_map]
        have := selN_len ms hs l i
        have := FT.few
        exact small1000 (by omega)
      refine ite2 (fun e => ?_) (fun e => ?_)
      · have e4 : hs[i] = l := V.int.inj (of_decide_eq_true e)
        refine ⟨_, rfl, _, e3, sz, x3.own hD e3, ?_⟩
        rw [upd_same, selN_succ l hi hi2, if_pos e4, List.map_append]
        rfl
      · have e4 : ¬ hs[i] = l := fun z => by rw [z] at e; exact e (decide_eq_true rfl)
        refine ⟨x3, ?_⟩
        rw [selN_succ l hi hi2, if_neg e4, List.append_nil]
        exact e3
    · obtain ⟨x2, e2⟩ := h2
      rw [List.length_map, FT.len] at e2
      refine ⟨⟨_, rfl⟩, _, rfl, l, rfl, small_log hl, ⟨_, rfl⟩, _, rfl, _, _, rfl, rfl, padOk (by omega), ?_⟩
      refine ⟨_, rfl, D, _, rfl, .inr (SqL.of e2), ?_⟩
      have el : (V.str (Txt.rjust (num l) (n : Int)) :: (List.map V.str (selN ms hs l hs.length) ++ [])) = (Txt.rjust (num l) (n : Int) :: selN ms hs l hs.length).map V.str := by
        rw [List.append_nil]
        rfl
      have sl := selN_len ms hs l hs.length
      have fw := FT.few
      refine ⟨?_, fun p hp2 => ?_⟩
      · show (V.str (Txt.rjust (num l) (n : Int)) :: (List.map V.str (selN ms hs l hs.length) ++ [])).length ≤ sizeLine
        rw [el, List.length_map, List.length_cons]
        exact Nat.le_of_lt (small1000 (by omega))
      · refine ⟨_, p, Txt.rjust (num l) (n : Int) :: selN ms hs l hs.length, rfl, rfl, .inl (SqL.of (by rw [upd_same, ← el]; rfl)), ?_, ?_⟩
        · have h1 := sum_le (B := 2000) (Txt.rjust (num l) (n : Int) :: selN ms hs l hs.length) fun y hy => by
            rcases List.mem_cons.mp hy with rfl | hy
            · have := num_len hl
              rw [← tl_len, tl_rjust, List.length_append, List.length_replicate, tl_len]
              omega
            · have := FT.name y (selN_mem hy)
              omega
          rw [List.length_cons] at h1 ⊢
          have h2 : (" " : Str).length = 1 := rfl
          rw [h2]
          have h3 : ((selN ms hs l hs.length).length + 1) * 2000 ≤ 61 * 2000 := Nat.mul_le_mul (by omega) (Nat.le_refl _)
          omega
        · have er : Txt.join " " (Txt.rjust (num l) (n : Int) :: selN ms hs l hs.length) = row n ms hs l := by
            refine tl_inj ?_
            rw [join_eq, tl_join, List.map_cons, joinL_flat, tl_rjust]
            show _ = rowL n l (selN ms hs l hs.length)
            unfold rowL tailL
            rw [List.map_map]
            rfl
          show Q (.str (Txt.join " " (Txt.rjust (num l) (n : Int) :: selN ms hs l hs.length))) _
          rw [er]
          exact q _ (x2.trans (.new hp2))
end
end K34
set_option Elab.async false
set_option linter.all false
set_option maxRecDepth 100000
set_option maxHeartbeats 4000000
namespace Gx
open PySem PySem.Spec PyProof.Rows L2 RZ
section
variable {P : Program} {w : World} {K : PySem.W.Frag} {mg : Str → Option Value} {base : Heap}
theorem catA_by {H : Hp} {a b : Addr} {xs ys : List V} {Q : VK} (ha : SqT K H a xs) (hb : SqT K H b ys) (hl : xs.length + ys.length ≤ sizeLine) (q : ∀ p H', Ext [] H H' → SqT K H' p (xs ++ ys) → Q (.ref p) H') : rCatA K (.ref a) (.ref b) H Q := by
  refine ⟨a, b, xs, ys, rfl, rfl, ha, hb, hl, fun e => ?_, fun _ e => ?_, fun _ _ p hp => q p _ (.new hp) (.inl (.inl upd_same))⟩
  · subst e
    exact q b H .refl hb
  · subst e
    exact q a H .refl (by rw [List.append_nil]; exact ha)
theorem slA_by {H : Hp} {a : Addr} {xs : List V} {lo hi : Option Int} {Q : VK} (ha : SqT K H a xs) (q : ∀ p H', Ext [] H H' → SqT K H' p (cutV xs lo hi) → Q (.ref p) H') : rSlA K (.ref a) lo hi H Q := by
  refine ⟨a, xs, rfl, ha, fun e => ?_, fun _ p hp => q p _ (.new hp) (.inl (.inl upd_same))⟩
  refine q a H .refl ?_
  have : cutV xs lo hi = xs := by
    unfold cutV
    rw [e.1, e.2, Nat.sub_zero, List.drop_zero, List.take_length]
  rw [this]
  exact ha
theorem pr_app {α β : Type} {F : α → β → Prop} : ∀ {a : List α} {b : List β} {c : List α} {d : List β}, Paired F a b → Paired F c d → Paired F (a ++ c) (b ++ d)
  | _, _, _, _, .nil, h => h
  | _, _, _, _, .cons x t, h => .cons x (pr_app t h)
theorem pr_take {α β : Type} {F : α → β → Prop} : ∀ {a : List α} {b : List β} (n : Nat), Paired F a b → Paired F (a.take n) (b.take n)
  | _, _, 0, _ => by simpa using Paired.nil
  | _, _, n + 1, .nil => .nil
  | _, _, n + 1, .cons x t => .cons x (pr_take n t)
theorem pr_drop {α β : Type} {F : α → β → Prop} : ∀ {a : List α} {b : List β} (n : Nat), Paired F a b → Paired F (a.drop n) (b.drop n)
  | _, _, 0, h => by simpa using h
  | _, _, n + 1, .nil => .nil
  | _, _, n + 1, .cons _ t => pr_drop n t
theorem pr_at {α β : Type} {F : α → β → Prop} : ∀ {a : List α} {b : List β}, Paired F a b → ∀ (i : Nat) (y : β), b[i]? = some y → ∃ x, a[i]? = some x ∧ F x y
  | _, _, .nil, i, y, e => by cases e
  | _, _, .cons x t, 0, y, e => by cases e; exact ⟨_, rfl, x⟩
  | _, _, .cons _ t, i + 1, y, e => pr_at t i y e
theorem cut_lo {xs : List V} {j : Nat} (h : j ≤ xs.length) : cutV xs none (some (j : Int)) = xs.take j := by
  unfold cutV
  rw [HT.sIx_nat, HT.sIx_none, List.drop_zero, Nat.sub_zero, Nat.min_eq_left h]
theorem cut_hi {xs : List V} {j : Nat} (h : j ≤ xs.length) : cutV xs (some (j : Int)) none = xs.drop j := by
  unfold cutV
  rw [HT.sIx_nat, HT.sIx_none, Nat.min_eq_left h, List.take_of_length_le (by rw [List.length_drop]; omega)]
end
theorem next_eq (D : Ends) (σ : L2.St) (H : Hp) : tNext D σ H = D.nx σ H := rfl
theorem seq_eq (t u : TS) (D : Ends) (σ : L2.St) (H : Hp) : tSeq t u D σ H = t { D with nx := u D } σ H := rfl
theorem asg_eq (te : TE) (g : TG) (D : Ends) (σ : L2.St) (H : Hp) : tAsg te g D σ H = te σ H fun x H1 => g x σ H1 D.nx := rfl
theorem for_eq (wi : TI) (g : TG) (tb : TS) (D : Ends) (σ : L2.St) (H : Hp) : tFor wi g tb D σ H = wi σ H fun J H1 => ∃ W : Nat → Nat → L2.St → Hp → Prop, (∃ m, W 0 m σ H1) ∧ ∀ i m σ H, W i m σ H →
    (J.stop i H ∧ D.nx σ H) ∨ (J.go i H ∧ ∃ N : L2.St → Hp → Prop, (∀ σ' H', N σ' H' → ∃ m', m' < m ∧ W (i + 1) m' σ' H') ∧ ∀ x H', J.yld i H x H' → g x σ H' fun σ2 H2 => tb { D with nx := N, ct := N, bk := D.nx } σ2 H2) := rfl
end Gx
set_option Elab.async false
set_option linter.all false
set_option maxRecDepth 100000
set_option maxHeartbeats 4000000
namespace K34
open PySem PySem.Spec PyProof.Rows L2 Gx RZ TL StX
section
variable {P : Program} {w : World} {K : PySem.W.Frag} {mg : Str → Option Value} {base : Heap}
/-! ### profile -/
abbrev nProfile : List Str := ["net", "heights", "_", "marks", "levels", "level", "width", "lines", "above", "line"]
theorem scProfile : FnScope nProfile ["net", "heights"] (defScope sProfile) := ⟨rfl, rfl, rfl, by decide +kernel, rfl, by decide +kernel, by decide +kernel⟩
def spProfile (K : PySem.W.Frag) : Sp := fun vs H Q _ => ∃ (np mp hp : Addr) (v0 v2 : V) (ms : List Str) (hs : List Int), vs = [.ref np, .ref hp] ∧ SqT K H np [v0, .ref mp, v2] ∧ SqT K H mp (ms.map V.str) ∧ SqT K H hp (hs.map V.int) ∧ Fits ms hs ∧
  ∀ (lv : List Int) (n : Nat) H', Desc hs lv → Wid hs n → Ext [] H H' → Q (.str (profS n ms hs lv)) H'
theorem desc_of {hs ns : List Int} {c : Nat} (h1 : ns.Pairwise (· < ·)) (h2 : ∀ k : Int, k ∈ ns ↔ decide (k ∈ hs) = true) (h3 : ns.length ≤ hs.length) : Desc hs ns.reverse :=
  ⟨List.pairwise_reverse.mpr h1, fun x => by rw [List.mem_reverse, h2, decide_eq_true_eq], by rw [List.length_reverse]; exact h3⟩
def lens (lv : List Int) : List Int := lv.map fun x => ((num x).length : Int)
theorem wid_of {hs lv : List Int} {m : Int} (D : Desc hs lv) (h1 : m ∈ lens lv) (h2 : ∀ y ∈ lens lv, y ≤ m) : ∃ n : Nat, m = (n : Int) ∧ Wid hs n := by
  obtain ⟨x, hx, rfl⟩ := List.mem_map.mp h1
  refine ⟨_, rfl, fun h hh => ?_, x, (D.mem x).mp hx, rfl⟩
  have := h2 _ (List.mem_map.mpr ⟨h, (D.mem h).mpr hh, rfl⟩)
  omega
theorem levels_by {σ : L2.St} {H : Hp} {hp : Addr} {hs : List Int} {Q : VK} (hv : σ[1]? = some (some (.ref hp))) (hh : SqT K H hp (hs.map V.int)) (few : hs.length ≤ 60)
    (q : ∀ H2 p2 lv, Desc hs lv → Ext [] H H2 → H2 p2 = some (.lst (lv.map V.int)) → Q (.ref p2) H2) : tRevL K (tCB (rSortedSet w) (tCons (tCB (rSetI K w) (tCons (tVar 1) tNil)) tNil)) σ H Q := by
  refine ⟨_, hv, hp, hs, rfl, hh, by omega, fun S c hc hS => ?_⟩
  refine ⟨S, _, c, rfl, upd_same, by omega, fun ns p1 pw mem len hp1 => ?_⟩
  have x1 : Ext [] H (upd (upd H S (SetO w S (fun j => decide (j ∈ hs)) c)) p1 (.lst (ns.map V.int))) := Ext.trans (.new hS) (.new hp1)
  refine ⟨p1, _, rfl, SqL.of upd_same, fun p2 hp2 => ?_⟩
  have x2 := x1.trans (Ext.new (c := []) (o := .lst (ns.map V.int).reverse) hp2)
  exact q _ p2 ns.reverse (desc_of (c := c) pw mem (by omega)) x2 (by rw [upd_same, List.map_reverse])
theorem ok_profile {f fL : Addr} {fd fdL : FuncData} (mz : mg "zip" = none) (mst : mg "str" = none) (ml : mg "len" = none) (mso : mg "sorted" = none) (mse : mg "set" = none) (mma : mg "max" = none) (F : Fun K "profile" "profile" sProfile f fd)
    (FL : Fun K "level_line" "level_line" sLevel fL fdL) (bL : Binds K fdL ["marks", "heights", "level", "width"] []) (gL : mg "level_line" = some (.ref fL)) : FnOk P w K mg base CX0 2 f fd ["net", "heights"] (spProfile K) := by
  have nd := scProfile.nd
  have GL : FnOk P w K mg base CX0 1 fL fdL ["marks", "heights", "level", "width"] (spLevel K) := ok_level mz mst FL
  refine F.ok scProfile (fun vs H Q E h => ?_) (fun cdv A outer s H vs Q E hr h => ?_)
  · obtain ⟨_, _, _, _, _, _, _, rfl, _⟩ := h
    rfl
  · obtain ⟨np, mp, hp, v0, v2, ms, hs, rfl, hn, hm, hh, FT, q⟩ := h
    refine ⟨_, pss_cons (ps_asg (pv 0) (pg_tup rfl (pgs_cons (pg_name (i := 2) nd rfl (.inl rfl)) (pgs_cons (pg_name (i := 3) nd rfl (.inl rfl)) (pgs_cons (pg_name (i := 2) nd rfl (.inl rfl)) pgs_nil)))))
      (pss_cons (ps_set (i := 4) nd rfl (.inl rfl) (pe_revL (pe_callB (cr_sortedSet rfl) (by rfl) mso PyProof.Rows.boot_sorted (pa_cons (pe_callTy (call_setI rfl) (by rfl) mse PyProof.Rows.boot_set (pa_cons (pv 1) pa_nil)) pa_nil))))
      (pss_cons (ps_set (i := 6) nd rfl (.inl rfl) (pe_callB (cr_max rfl) (by rfl) mma PyProof.Rows.boot_max (pa_cons (pe_lc (own := [("level", 5)]) (g := gName 5) (tt := tYes) rfl nd (pi_list (pv 4)) (blkOk_by (N := nProfile) (sc := defScope sProfile) (by decide +kernel))
        (fun _ _ _ _ _ => pg_name (i := 5) nd rfl (.inl rfl)) (fun _ _ _ _ _ => pts_nil) (fun _ _ _ _ _ => pe_callB call_len_str (by rfl) ml PySem.boot_len (pa_cons (pe_callTy call_str_int (by rfl) mst PyProof.Rows.boot_str (pa_cons (pv 5) pa_nil)) pa_nil))) pa_nil)))
      (pss_cons (ps_set (i := 7) nd rfl (.inl rfl) (pe_lst (pa_cons (pe_call GL hr (by rfl) gL FL.kp bL .nil pass0 (pa_cons (pv 3) (pa_cons (pv 1) (pa_cons (pe_ix ix_list (pv 4) pe_int (fun _ _ => rfl)) (pa_cons (pv 6) pa_nil))))) pa_nil)))
      (pss_cons (ps_for PassesOwn.never rfl (pi_zipA (by rfl) mz (pa_cons (pv 4) (pa_cons (pe_slice sl_list (pv 4) (po_some pe_int) po_none) pa_nil))) (pg_tup rfl (pgs_cons (pg_name (i := 8) nd rfl (.inl rfl)) (pgs_cons (pg_name (i := 5) nd rfl (.inl rfl)) pgs_nil)))
        (pss_cons (ps_expr (pe_bm PySem.F.plainAttrs_list PySem.F.slot_list_append PySem.F.type_list_append mt_append (pv 7) (pa_cons (pe_op op_add_str (pe_op op_mul_str pe_str (pv 6)) (pe_joined (PJ.cons pe_str (PJ.cons (pe_fmt (pe_op op_sub (pv 8) (pv 5))) PJ.nil)))) pa_nil)))
        (pss_one (ps_expr (pe_bm PySem.F.plainAttrs_list PySem.F.slot_list_append PySem.F.type_list_append mt_append (pv 7) (pa_cons (pe_call GL hr (by rfl) gL FL.kp bL .nil pass0 (pa_cons (pv 3) (pa_cons (pv 1) (pa_cons (pv 5) (pa_cons (pv 6) pa_nil))))) pa_nil))))))
      (pss_one (ps_ret (pe_join pe_str (pe_lc (own := [("line", 9)]) (g := gName 9) (tt := tYes) rfl nd (pi_list (pv 7)) (blkOk_by (N := nProfile) (sc := defScope sProfile) (by decide +kernel))
        (fun _ _ _ _ _ => pg_name (i := 9) nd rfl (.inl rfl)) (fun _ _ _ _ _ => pts_nil) (fun _ _ _ _ _ => pe_op op_add_str (pv 9) pe_str)))))))))
      , ?_⟩
    refine ⟨_, rfl, np, _, rfl, hn, rfl, _, _, rfl, _, _, rfl, _, _, rfl, rfl, ?_⟩
    dsimp only
    rw [seq_eq, asg_eq]
    refine levels_by (hp := hp) (hs := hs) ?hv hh FT.few fun H2 p2 lv D x2 e2 => ?_
    case hv => rfl
    have low : ∀ x ∈ lv, x.natAbs < 2 ^ 30 := fun x hx => FT.low x ((D.mem x).mp hx)
    have lvpos : 0 < lv.length := by
      cases e : hs with
      | nil => exact absurd e FT.ne
      | cons h r => exact List.length_pos_of_mem ((D.mem h).mpr (by rw [e]; exact List.mem_cons_self))
    have lvl : lv.length ≤ 60 := Nat.le_trans D.len FT.few
    refine ⟨_, rfl, p2, rfl, ⟨_, SqL.of e2⟩, fun L1 hL1 => ?_⟩
    refine lc_list (K := K) (a := p2) (xs := lv.map V.int) (fun i H3 => Ext [] H2 H3 ∧ H3 L1 = some (.lst ((lens (lv.take i)).map V.int))) ⟨.new hL1, upd_same⟩ (fun i H3 _ h3 => h3.1.sqL (SqL.of e2) (by simp)) (fun i x H3 hx h3 => ?_) (fun H3 h3 => ?_)
    · obtain ⟨x3, e3⟩ := h3
      obtain ⟨hi, rfl⟩ := map_item hx
      have lo := low lv[i] (List.getElem_mem hi)
      have nl := num_len (i := lv[i]) (by omega)
      refine ⟨rfl, _, rfl, _, rfl, small_log (by omega), _, rfl, Nat.le_trans nl (by decide), _, e3, ?_, x3.own hL1 e3, ?_⟩
      · rw [List.length_map]
        unfold lens
        rw [List.length_map, List.length_take]
        exact small1000 (by omega)
      · rw [upd_same, List.take_add_one, List.getElem?_eq_getElem hi]
        unfold lens
        rw [List.map_append, List.map_append]
        rfl
    · obtain ⟨x3, e3⟩ := h3
      rw [List.length_map, List.take_length] at e3
      refine ⟨L1, _, rfl, SqL.of e3, by unfold lens; rw [List.length_map]; exact lvpos, fun m h1 h2 => ?_⟩
      obtain ⟨n, rfl, W⟩ := wid_of D h1 h2
      have hw := W.small FT
      have x4 := x2.trans x3
      have lv0 : (lv.map V.int)[0]? = some (.int (lv.getD 0 0)) := by
        rw [List.getElem?_map, List.getD_eq_getElem?_getD, List.getElem?_eq_getElem lvpos]
        rfl
      have g0 : lv.getD 0 0 ∈ lv := by
        rw [List.getD_eq_getElem?_getD, List.getElem?_eq_getElem lvpos]
        exact List.getElem_mem lvpos
      refine ⟨_, rfl, _, rfl, _, rfl, p2, _, _, _, rfl, rfl, x3.sqL (SqL.of e2) (by simp), atI_nat (j := 0) lv0, _, rfl, ?_⟩
      refine ⟨mp, hp, ms, hs, lv.getD 0 0, n, rfl, x4.sqT hm, x4.sqT hh, FT, hw, by have := low _ g0; omega, fun H4 x5 => ?_⟩
      refine ⟨by show 1 ≤ sizeLine; decide, fun L2 hL2 => ?_⟩
      have x6 : Ext [] H2 (upd H4 L2 (.lst [.str (row n ms hs (lv.getD 0 0))])) := (x3.trans x5).trans (.new hL2)
      have nL2 : H2 L2 = none := x3.dom _ (x5.dom _ hL2)
      have e6 : (upd H4 L2 (.lst [.str (row n ms hs (lv.getD 0 0))])) L2 = some (.lst ((lines n ms hs (lv.take 1)).map V.str)) := by
        rw [upd_same, lines_one n ms hs lv lvpos]
        rfl
      generalize (upd H4 L2 (.lst [.str (row n ms hs (lv.getD 0 0))])) = H5 at x6 e6 ⊢
      have c1 : cutV (lv.map V.int) (some 1) none = (lv.drop 1).map V.int := by
        have := cut_hi (xs := lv.map V.int) (j := 1) (by rw [List.length_map]; omega)
        rw [← List.map_drop] at this
        exact this
      refine ⟨_, rfl, _, rfl, _, rfl, p2, _, rfl, x6.sqL (SqL.of e2) (by simp), fun p3 hp3 => ?_⟩
      have hne : p3 ≠ L2 := fun z => by rw [z] at hp3; rw [hp3] at e6; cases e6
      have x7 : Ext [] H2 (upd H5 p3 (.lst (cutV (lv.map V.int) (some 1) none))) := x6.trans (.new hp3)
      have e7 : (upd H5 p3 (.lst (cutV (lv.map V.int) (some 1) none))) L2 = some (.lst ((lines n ms hs (lv.take 1)).map V.str)) := by rw [upd_ne hne.symm]; exact e6
      have t7 : (upd H5 p3 (.lst (cutV (lv.map V.int) (some 1) none))) p3 = some (.lst ((lv.drop 1).map V.int)) := by rw [upd_same, c1]
      have n7 : H2 p3 = none := x6.dom _ hp3
      generalize (upd H5 p3 (.lst (cutV (lv.map V.int) (some 1) none))) = H6 at x7 e7 t7 ⊢
      refine ⟨p2, p3, lv.map V.int, (lv.drop 1).map V.int, rfl, .inl ⟨x7.sqL (SqL.of e2) (by simp), SqL.of t7, ?_⟩⟩
      refine for_zipN (xs := lv.map V.int) (ys := (lv.drop 1).map V.int) (lv.length - 1) (by rw [List.length_map]; omega) (by rw [List.length_map, List.length_drop]; omega) (.inr (by rw [List.length_map, List.length_drop]; omega))
        (fun i σ H7 => ∃ y5 y8, σ = [some (.ref np), some (.ref hp), some v2, some (.ref mp), some (.ref p2), y5, some (.int (n : Nat)), some (.ref L2), y8, none] ∧ Ext [] H2 H7 ∧ H7 L2 = some (.lst ((lines n ms hs (lv.take (i + 1))).map V.str)) ∧ H7 p3 = some (.lst ((lv.drop 1).map V.int)))
        ⟨_, _, rfl, x7, e7, t7⟩ (fun i σ H7 h7 => ?_) (fun i x y T σ H7 hx hy h7 hT => ?_) (fun σ H7 h7 => ?_)
      · obtain ⟨_, _, _, x8, _, t8⟩ := h7
        exact ⟨x8.sqL (SqL.of e2) (by simp), SqL.of t8⟩
      · obtain ⟨y5, y8, rfl, x8, e8, t8⟩ := h7
        obtain ⟨hi, rfl⟩ := map_item hx
        obtain ⟨hi2, rfl⟩ := map_item hy
        rw [List.length_drop] at hi2
        have hi3 : i + 1 < lv.length := by omega
        have eb : (lv.drop 1)[i]'(by rw [List.length_drop]; omega) = lv.getD (i + 1) 0 := by
          rw [List.getElem_drop, List.getD_eq_getElem?_getD, List.getElem?_eq_getElem hi3]
          simp [Nat.add_comm]
        have ea : lv[i] = lv.getD i 0 := by rw [List.getD_eq_getElem?_getD, List.getElem?_eq_getElem hi]; rfl
        rw [ea, eb]
        have la : (lv.getD i 0).natAbs < 2 ^ 30 := by rw [← ea]; exact low _ (List.getElem_mem hi)
        have lb : (lv.getD (i + 1) 0).natAbs < 2 ^ 30 := by
          rw [List.getD_eq_getElem?_getD, List.getElem?_eq_getElem hi3]
          exact low _ (List.getElem_mem hi3)
        have hs1 := lines_succ n ms hs lv (j := i + 1) (by omega) hi3
        rw [show i + 1 - 1 = i from rfl] at hs1
        generalize lv.getD i 0 = a at la hs1 ⊢
        generalize lv.getD (i + 1) 0 = b at lb hs1 ⊢
        have hT2 : L2 ≠ T := ne_of_none e8 hT
        have hT3 : p3 ≠ T := ne_of_none t8 hT
        have x9 : Ext [] H2 (upd H7 T (.tup [.int a, .int b])) := x8.trans (.new hT)
        have e9 : (upd H7 T (.tup [.int a, .int b])) L2 = some (.lst ((lines n ms hs (lv.take (i + 1))).map V.str)) := by rw [upd_ne hT2]; exact e8
        have t9 : (upd H7 T (.tup [.int a, .int b])) p3 = some (.lst ((lv.drop 1).map V.int)) := by rw [upd_ne hT3]; exact t8
        have d9 : (upd H7 T (.tup [.int a, .int b])) T = some (.tup [.int a, .int b]) := upd_same
        generalize (upd H7 T (.tup [.int a, .int b])) = H8 at x9 e9 t9 d9 ⊢
        have hd40 : (a - b).natAbs < 2 ^ 40 := by omega
        have dl := num_len hd40
        have ll := (lines_ok (lv := lv.take (i + 1)) FT hw fun x hx => low x (List.mem_of_mem_take hx)).1
        rw [List.length_take] at ll
        refine ⟨T, _, rfl, .inl (.inl d9), rfl, _, _, rfl, _, _, rfl, rfl, ?_⟩
        refine ⟨_, rfl, .inl ⟨rfl, _, SqL.of e9⟩, _, rfl, _, _, rfl, rfl, by omega, by omega, by decide, ?_⟩
        have l3 : (Str.empty ++ (" | " : Str)).length = 3 := by decide
        have l4 : (Str.empty ++ (" | " : Str) ++ num (a - b)).length ≤ 1924 := by
          rw [← tl_len, tl_append, List.length_append, tl_len, tl_len, l3]
          omega
        have lm : (Txt.mul " " (n : Int)).length = n := by rw [← tl_len, tl_mul_space, List.length_replicate]
        refine ⟨_, rfl, by rw [l3]; decide, _, rfl, _, rfl, _, _, rfl, rfl, .inr ⟨_, rfl, small_log hd40, _, rfl, Nat.le_trans l4 (by decide), ?_⟩⟩
        have eg : Txt.mul " " (n : Int) ++ (Str.empty ++ (" | " : Str) ++ num (a - b)) = gapS n (a - b) := by
          refine tl_inj ?_
          rw [tl_append, tl_append, tl_append, tl_mul_space]
          rfl
        refine ⟨_, _, rfl, rfl, by rw [lm]; exact Nat.le_trans (Nat.add_le_add hw l4) (by decide), ?_⟩
        refine ⟨L2, _, _, rfl, rfl, e9, by rw [List.length_map]; exact small1000 (by omega), ?_⟩
        rw [show (Txt.mul (Str.ofString " ") (n : Int) ++ (Str.empty ++ Str.ofString " | " ++ Str.ofString (toString (a - b)))) = gapS n (a - b) from eg]
        have xA := x9.own (ys := (lines n ms hs (lv.take (i + 1))).map V.str ++ [.str (gapS n (a - b))]) nL2 e9
        have eA : (upd H8 L2 (.lst ((lines n ms hs (lv.take (i + 1))).map V.str ++ [.str (gapS n (a - b))]))) L2 = some (.lst ((lines n ms hs (lv.take (i + 1))).map V.str ++ [.str (gapS n (a - b))])) := upd_same
        have hp23 : p3 ≠ L2 := hne
        have tA : (upd H8 L2 (.lst ((lines n ms hs (lv.take (i + 1))).map V.str ++ [.str (gapS n (a - b))]))) p3 = some (.lst ((lv.drop 1).map V.int)) := by rw [upd_ne hp23]; exact t9
        generalize (upd H8 L2 (.lst ((lines n ms hs (lv.take (i + 1))).map V.str ++ [.str (gapS n (a - b))]))) = H9 at xA eA tA ⊢
        refine ⟨_, rfl, .inl ⟨rfl, _, SqL.of eA⟩, _, rfl, _, rfl, _, rfl, _, rfl, ?_⟩
        have xB := x2.trans xA
        refine ⟨mp, hp, ms, hs, b, n, rfl, xB.sqT hm, xB.sqT hh, FT, hw, by omega, fun HA x10 => ?_⟩
        have eB := x10.lst eA (by simp)
        have tB := x10.lst tA (by simp)
        refine ⟨L2, _, _, rfl, rfl, eB, by rw [List.length_append, List.length_map]; exact small1000 (by simp; omega), ?_⟩
        refine ⟨_, _, rfl, (xA.trans x10).own nL2 eB, ?_, by rw [upd_ne hp23]; exact tB⟩
        rw [upd_same, hs1, List.map_append, List.append_assoc]
        rfl
      · obtain ⟨y5, y8, rfl, x8, e8, t8⟩ := h7
        rw [show lv.length - 1 + 1 = lv.length by omega, List.take_length] at e8
        have LK := lines_ok (w := n) (lv := lv) FT hw low
        refine ⟨⟨_, rfl⟩, _, rfl, L2, rfl, ⟨_, SqL.of e8⟩, fun D2 hD2 => ?_⟩
        refine lc_list (K := K) (a := L2) (xs := (lines n ms hs lv).map V.str) (fun i HC => Ext [] H2 HC ∧ HC L2 = some (.lst ((lines n ms hs lv).map V.str)) ∧ HC D2 = some (.lst ((((lines n ms hs lv).take i).map (· ++ ("\n" : Str))).map V.str)) ∧ H2 D2 = none ∧ D2 ≠ L2)
          ⟨x8.trans (.new hD2), by rw [upd_ne (ne_of_none e8 hD2)]; exact e8, upd_same, x8.dom _ hD2, (ne_of_none e8 hD2).symm⟩ (fun i HC _ hC => SqL.of hC.2.1) (fun i x HC hx hC => ?_) (fun HC hC => ?_)
        · obtain ⟨xC, eC, dC, nC, neC⟩ := hC
          obtain ⟨hi, rfl⟩ := map_item hx
          have h1 := LK.2 _ (List.getElem_mem hi)
          refine ⟨rfl, _, rfl, _, _, rfl, rfl, ?_, _, dC, ?_, xC.own nC dC, by rw [upd_ne neC.symm]; exact eC, ?_, nC, neC⟩
          · show (lines n ms hs lv)[i].length + 1 ≤ 2 ^ 24
            omega
          · rw [List.length_map, List.length_map, List.length_take]
            exact small1000 (by omega)
          · rw [upd_same, List.take_add_one, List.getElem?_eq_getElem hi, List.map_append, List.map_append]
            rfl
        · obtain ⟨xC, eC, dC, nC, neC⟩ := hC
          rw [List.length_map, List.take_length] at dC
          refine ⟨_, D2, (lines n ms hs lv).map (· ++ ("\n" : Str)), rfl, rfl, .inl (SqL.of dC), withNl_ok FT W D, ?_⟩
          exact q lv n HC D W (x2.trans xC)
end
end K34
set_option Elab.async false
set_option linter.all false
set_option maxRecDepth 100000
set_option maxHeartbeats 4000000
namespace K34
open PySem PySem.Spec PyProof.Rows L2 Gx RZ
/-- the box of digits -/
def Box (H : Hp) (b d : Addr) : Prop := ∃ (ds : List Int) (at_ : Nat), H b = some (.lst [.ref d, .int (at_ : Nat)]) ∧ H d = some (.lst (ds.map V.int))
theorem Box.ne {H : Hp} {a b d : Addr} {xs : List Int} (h : Box H b d) (e : H a = some (.lst (xs.map V.int))) : a ≠ b := by
  obtain ⟨ds, at_, h1, h2⟩ := h
  intro z
  rw [z, h1] at e
  have e2 := HO.lst.inj (Option.some.inj e)
  cases xs with
  | nil => cases e2
  | cons x r =>
    rw [List.map_cons] at e2
    have := (List.cons.inj e2).1
    cases this
theorem Box.ext {H H' : Hp} {b d : Addr} (h : Box H b d) (x : Ext [] H H') : Box H' b d := let ⟨ds, at_, h1, h2⟩ := h; ⟨ds, at_, x.lst h1 (by simp), x.lst h2 (by simp)⟩
theorem Box.upd {H H1 : Hp} {b d p : Addr} {o : HO} (h : Box H b d) (h1 : Box H1 b d) (hp : H p = none) : Box (L2.upd H1 p o) b d := by
  obtain ⟨_, _, e1, e2⟩ := h
  obtain ⟨ds, at_, k1, k2⟩ := h1
  exact ⟨ds, at_, by rw [upd_ne (ne_of_none e1 hp)]; exact k1, by rw [upd_ne (ne_of_none e2 hp)]; exact k2⟩
section
variable {P : Program} {w : World} {K : PySem.W.Frag} {mg : Str → Option Value} {base : Heap}
/-! ### _law_cell -/
def spCell (K : PySem.W.Frag) : Sp := fun vs H Q _ => ∃ (a : Addr) (xs : List Int) (k : Nat), vs = [.ref a, .int (k : Nat)] ∧ SqL K H a (xs.map V.int) ∧ ∀ x : Int, Q (.int x) H
theorem scCell : FnScope ["script", "k"] ["script", "k"] (defScope sCell) := ⟨rfl, rfl, rfl, by decide +kernel, rfl, by decide +kernel, by decide +kernel⟩
theorem ok_cell {f : Addr} {fd : FuncData} (ml : mg "len" = none) (F : Fun K "_law_cell" "_law_cell" sCell f fd) : FnOk P w K mg base CX0 1 f fd ["script", "k"] (spCell K) := by
  refine F.ok scCell (fun vs H Q E h => ?_) (fun cdv A outer s H vs Q E hr h => ?_)
  · obtain ⟨_, _, _, rfl, _⟩ := h
    rfl
  · obtain ⟨a, xs, k, rfl, hs, q⟩ := h
    refine ⟨_, pss_cons (ps_if (pt_cmpR op_lt (pv 1) (pe_callB call_len_seq (by rfl) ml PySem.boot_len (pa_cons (pv 0) pa_nil)) (nomark _)) (pss_one (ps_ret (pe_ix ix_list (pv 0) (pv 1) (fun _ _ => rfl)))) pss_nil)
      (pss_one (ps_ret pe_int)), ?_⟩
    refine ⟨_, rfl, _, rfl, a, _, rfl, .inl hs, _, _, rfl, rfl, _, rfl, ite2 (fun e => ?_) (fun e => ?_)⟩
    · have hk : k < xs.length := by
        have := of_decide_eq_true e
        rw [List.length_map] at this
        omega
      exact ⟨_, rfl, _, rfl, a, _, _, _, rfl, rfl, hs, atI_nat (ints_at hk), q _⟩
    · exact q 0
/-! ### _law_digits -/
def spDigits (K : PySem.W.Frag) : Sp := fun vs H Q _ => ∃ (a : Addr) (xs : List Int), vs = [.ref a, .int 0, .int 63] ∧ SqL K H a (xs.map V.int) ∧
  ∀ (d : Addr) (ds : List Int) (H' : Hp), Ext [] H H' → H d = none → H' d = some (.lst (ds.map V.int)) → Q (.ref d) H'
abbrev nDigits : List Str := ["script", "first", "last", "digits", "k", "cell", "turn", "seed"]
theorem scDigits : FnScope nDigits ["script", "first", "last"] (defScope sDigits) := ⟨rfl, rfl, rfl, by decide +kernel, rfl, by decide +kernel, by decide +kernel⟩
/-- the list that is made -/
structure Dig (H : Hp) (n : Nat) (d : Addr) (H' : Hp) : Prop where
  x : Ext [] H H'
  new : H d = none
  lst : ∃ ds : List Int, H' d = some (.lst (ds.map V.int)) ∧ ds.length ≤ n
theorem Dig.push {H H' : Hp} {n : Nat} {d : Addr} {ds : List Int} (h : Dig H n d H') (e : H' d = some (.lst (ds.map V.int))) (hn : ds.length ≤ n) (i : Int) : Dig H (n + 1) d (upd H' d (.lst (ds.map V.int ++ [.int i]))) :=
  ⟨h.x.own h.new e, h.new, ds ++ [i], by rw [upd_same, List.map_append]; rfl, by rw [List.length_append]; simpa using hn⟩
theorem ok_digits {f fC : Addr} {fd fdC : FuncData} (ml : mg "len" = none) (mr : mg "range" = none) (mi : mg "int" = none) (F : Fun K "_law_digits" "_law_digits" sDigits f fd)
    (FC : Fun K "_law_cell" "_law_cell" sCell fC fdC) (bC : Binds K fdC ["script", "k"] []) (gC : mg "_law_cell" = some (.ref fC)) : FnOk P w K mg base CX0 2 f fd ["script", "first", "last"] (spDigits K) := by
  have GC : FnOk P w K mg base CX0 1 fC fdC ["script", "k"] (spCell K) := ok_cell ml FC
  have nd := scDigits.nd
  refine F.ok scDigits (fun vs H Q E h => ?_) (fun cdv A outer s H vs Q E hr h => ?_)
  · obtain ⟨_, _, rfl, _⟩ := h
    rfl
  · obtain ⟨a, xs, rfl, hs, q⟩ := h
    refine ⟨_, pss_cons (ps_set (i := 3) nd rfl (.inl rfl) (pe_lst pa_nil))
      (pss_cons (ps_for PassesOwn.never rfl (pi_range2 (by rfl) mr (pa_cons (pv 1) (pa_cons (pv 2) pa_nil))) (pg_name (i := 4) nd rfl (.inl rfl))
        (pss_cons (ps_set (i := 5) nd rfl (.inl rfl) (pe_call GC hr (by rfl) gC FC.kp bC .nil pass0 (pa_cons (pv 0) (pa_cons (pv 4) pa_nil))))
        (pss_cons (ps_if (pt_cmpR op_lt (pv 5) pe_int (nomark _)) (pss_one (ps_set (i := 5) nd rfl (.inl rfl) (pe_op op_sub pe_int (pe_op op_mul pe_int (pv 5))))) pss_nil)
        (pss_one (ps_if (pt_cmpR op_ge (pv 5) (pe_op op_pow pe_int pe_int) (nomark _))
          (pss_one (ps_for PassesOwn.never rfl (pi_range1 (by rfl) mr (pa_cons pe_int pa_nil)) (pg_name (i := 6) nd rfl (.inl rfl))
            (pss_one (ps_if (pt_cmpR op_gt (pv 5) pe_int (nomark _))
              (pss_cons (ps_expr (pe_bm PySem.F.plainAttrs_list PySem.F.slot_list_append PySem.F.type_list_append mt_append (pv 3) (pa_cons (pe_op op_mod (pe_callTy call_int1 (by rfl) mi PyProof.Rows.boot_int (pa_cons (pv 5) pa_nil)) pe_int) pa_nil)))
              (pss_one (ps_set (i := 5) nd rfl (.inl rfl) (pe_op op_fdiv (pv 5) pe_int)))) pss_nil))))
          (pss_cons (ps_set (i := 7) nd rfl (.inl rfl) (pe_op op_mod (pe_callTy call_int1 (by rfl) mi PyProof.Rows.boot_int (pa_cons (pe_op op_add (pe_op op_add (pe_op op_mul (pv 5) pe_int) (pe_op op_mul (pv 4) pe_int)) pe_int) pa_nil)) pe_int))
          (pss_one (ps_for PassesOwn.never rfl (pi_range1 (by rfl) mr (pa_cons pe_int pa_nil)) (pg_name (i := 6) nd rfl (.inl rfl))
            (pss_cons (ps_set (i := 7) nd rfl (.inl rfl) (pe_op op_mod (pe_callTy call_int1 (by rfl) mi PyProof.Rows.boot_int (pa_cons (pe_op op_add (pe_op op_add (pe_op op_mul (pv 7) pe_int) (pe_op op_mul pe_int (pv 6))) pe_int) pa_nil)) pe_int))
            (pss_one (ps_expr (pe_bm PySem.F.plainAttrs_list PySem.F.slot_list_append PySem.F.type_list_append mt_append (pv 3) (pa_cons (pe_op op_mod (pe_callTy call_int1 (by rfl) mi PyProof.Rows.boot_int (pa_cons (pe_op op_fdiv (pv 7) pe_int) pa_nil)) pe_int) pa_nil)))))))))))))
      (pss_one (ps_ret (pv 3)))), ?_⟩
    refine ⟨by decide, fun d hd => ?_⟩
    refine ⟨_, rfl, _, rfl, 0, 63, rfl, by decide, for_range (n := 63)
      (fun i σ H3 => ∃ y4 y5 y6 y7, σ = [some (.ref a), some (.int 0), some (.int 63), some (.ref d), y4, y5, y6, y7] ∧ Dig H (60 * i) d H3)
      ⟨_, _, _, _, rfl, .new hd, hd, [], upd_same, Nat.le_refl _⟩ (fun i σ H3 hi h3 => ?_) (fun σ H3 h3 => ?_)⟩
    · obtain ⟨y4, y5, y6, y7, rfl, D3⟩ := h3
      have hk : ((0 : Int) + (i : Nat)) = ((i : Nat) : Int) := by omega
      refine ⟨_, rfl, _, rfl, a, xs, i, by rw [hk]; rfl, D3.x.sqL hs (by simp), fun x => ?_⟩
      -- the sign
      refine ⟨_, rfl, _, _, rfl, rfl, _, rfl, ?_⟩
      refine ite2 (fun _ => ?_) (fun _ => ?_)
      refine ⟨_, rfl, _, _, rfl, rfl, .inl (by decide), _, _, rfl, rfl, ?_⟩
      all_goals
        refine ⟨_, rfl, _, _, rfl, rfl, ⟨by decide, by decide, by decide⟩, _, _, rfl, rfl, _, rfl, ?_⟩
        refine ite2 (fun _ => ?_) (fun _ => ?_)
        · refine ⟨_, rfl, by decide, by decide, for_range (n := 60)
            (fun j σ H4 => ∃ y5 y6, σ = [some (.ref a), some (.int 0), some (.int 63), some (.ref d), some (.int (0 + (i : Nat))), some (.int y5), y6, y7] ∧ Dig H (60 * i + j) d H4)
            ⟨_, _, rfl, D3⟩ (fun j σ H4 hj h4 => ?_) (fun σ H4 h4 => ?_)⟩
          · obtain ⟨c, z6, rfl, D4⟩ := h4
            refine ⟨_, rfl, _, _, rfl, rfl, _, rfl, ?_⟩
            refine ite2 (fun _ => ?_) (fun _ => ?_)
            · obtain ⟨ds, e, hn⟩ := D4.lst
              refine ⟨_, rfl, .inl ⟨rfl, _, SqL.of e⟩, _, rfl, .inl ⟨_, rfl, _, _, rfl, rfl, by show (0 : Int) < 1000; decide, ?_⟩⟩
              refine ⟨d, _, _, rfl, rfl, e, by rw [List.length_map]; show _ < 2 ^ 24; omega, ?_⟩
              refine ⟨_, rfl, _, _, rfl, rfl, ⟨by decide, by decide⟩, _, _, rfl, D4.push e hn _⟩
            · exact ⟨_, _, rfl, D4.x, D4.new, let ⟨ds, e, hn⟩ := D4.lst; ⟨ds, e, Nat.le_succ_of_le hn⟩⟩
          · obtain ⟨c, z6, rfl, D4⟩ := h4
            exact ⟨_, _, _, _, rfl, D4.x, D4.new, let ⟨ds, e, hn⟩ := D4.lst; ⟨ds, e, by omega⟩⟩
        · refine ⟨_, rfl, _, _, rfl, rfl, .inr (by decide), _, rfl, _, _, rfl, rfl, .inr (by decide), _, _, rfl, rfl, _, _, rfl, rfl, .inl ⟨_, rfl, _, _, rfl, rfl, by show (0 : Int) < 2147483647; decide, ?_⟩⟩
          refine ⟨_, rfl, by decide, by decide, for_range (n := 12)
            (fun j σ H4 => ∃ y5 y6 y7, σ = [some (.ref a), some (.int 0), some (.int 63), some (.ref d), some (.int (0 + (i : Nat))), y5, y6, some (.int y7)] ∧ Dig H (60 * i + j) d H4)
            ⟨_, _, _, rfl, D3⟩ (fun j σ H4 hj h4 => ?_) (fun σ H4 h4 => ?_)⟩
          · obtain ⟨z5, z6, c, rfl, D4⟩ := h4
            refine ⟨_, rfl, _, _, rfl, rfl, .inr (by decide), _, rfl, _, _, rfl, rfl, .inl (by decide), _, _, rfl, rfl, _, _, rfl, rfl, .inl ⟨_, rfl, _, _, rfl, rfl, by show (0 : Int) < 2147483647; decide, ?_⟩⟩
            obtain ⟨ds, e, hn⟩ := D4.lst
            refine ⟨_, rfl, .inl ⟨rfl, _, SqL.of e⟩, _, rfl, _, _, rfl, rfl, ⟨by decide, by decide⟩, .inl ⟨_, rfl, _, _, rfl, rfl, by show (0 : Int) < 1000; decide, ?_⟩⟩
            refine ⟨d, _, _, rfl, rfl, e, by rw [List.length_map]; show _ < 2 ^ 24; omega, ?_⟩
            exact ⟨_, _, _, rfl, D4.push e hn _⟩
          · obtain ⟨z5, z6, c, rfl, D4⟩ := h4
            exact ⟨_, _, _, _, rfl, D4.x, D4.new, let ⟨ds, e, hn⟩ := D4.lst; ⟨ds, e, by omega⟩⟩
    · obtain ⟨y4, y5, y6, y7, rfl, D3⟩ := h3
      obtain ⟨ds, e, _⟩ := D3.lst
      exact ⟨_, rfl, q d ds H3 D3.x hd e⟩
/-! ### _law_draw -/
def spDraw : Sp := fun vs H Q _ => ∃ (b d : Addr) (many : Int), vs = [.ref b, .int many] ∧ Box H b d ∧ 0 < many ∧ ∀ (r : Int) (H' : Hp), 0 ≤ r → r < many → Ext [b] H H' → Box H' b d → Q (.int r) H'
theorem scDraw : FnScope ["box", "many", "at"] ["box", "many"] (defScope sDraw) := ⟨rfl, rfl, rfl, by decide +kernel, rfl, by decide +kernel, by decide +kernel⟩
theorem ok_draw {f : Addr} {fd : FuncData} (ml : mg "len" = none) (mi : mg "int" = none) (F : Fun K "_law_draw" "_law_draw" sDraw f fd) : FnOk P w K mg base CX0 1 f fd ["box", "many"] spDraw := by
  have nd := scDraw.nd
  refine F.ok scDraw (fun vs H Q E h => ?_) (fun cdv A outer s H vs Q E hr h => ?_)
  · obtain ⟨_, _, _, rfl, _⟩ := h
    rfl
  · obtain ⟨b, d, many, rfl, ⟨ds, k, hb, hd⟩, hm, q⟩ := h
    refine ⟨_, pss_cons (ps_set (i := 2) nd rfl (.inl rfl) (pe_ix ix_list (pv 0) pe_int (fun _ _ => rfl)))
      (pss_cons (ps_asg (pe_op op_add (pv 2) pe_int) (pg_sub (pv 0) pe_int set_list))
      (pss_cons (ps_if (pt_cmpR op_lt (pv 2) (pe_callB call_len_seq (by rfl) ml PySem.boot_len (pa_cons (pe_ix ix_list (pv 0) pe_int (fun _ _ => rfl)) pa_nil)) (nomark _))
        (pss_one (ps_ret (pe_op op_mod (pe_callTy call_int1 (by rfl) mi PyProof.Rows.boot_int (pa_cons (pe_ix ix_list (pe_ix ix_list (pv 0) pe_int (fun _ _ => rfl)) (pv 2) (fun _ _ => rfl)) pa_nil)) (pv 1)))) pss_nil)
      (pss_one (ps_ret (pe_op op_mod (pe_callTy call_int1 (by rfl) mi PyProof.Rows.boot_int (pa_cons (pe_op op_add (pe_op op_mul (pv 2) pe_int) pe_int) pa_nil)) (pv 1)))))), ?_⟩
    have ndb : d ≠ b := by
      have := Box.ne ⟨ds, k, hb, hd⟩ hd
      exact this
    refine ⟨_, rfl, b, _, _, _, rfl, rfl, SqL.of hb, atI_nat (j := 1) rfl, ?_⟩
    refine ⟨_, rfl, _, _, rfl, rfl, _, rfl, b, _, _, 1, rfl, rfl, hb, rfl, ?_⟩
    have x1 : Ext [b] H (upd H b (.lst [.ref d, .int ((k : Int) + 1)])) := .set (List.mem_singleton.mpr rfl) hb
    have hb1 : (upd H b (.lst [.ref d, .int ((k : Int) + 1)])) b = some (.lst [.ref d, .int ((k : Int) + 1)]) := upd_same
    have hd1 : (upd H b (.lst [.ref d, .int ((k : Int) + 1)])) d = some (.lst (ds.map V.int)) := by rw [upd_ne ndb]; exact hd
    have bx : Box (L2.upd H b (.lst [.ref d, .int ((k : Int) + 1)])) b d := ⟨ds, k + 1, by rw [hb1]; rfl, hd1⟩
    refine ⟨_, rfl, _, rfl, b, _, _, _, rfl, rfl, SqL.of hb1, atI_nat (j := 0) rfl, d, _, rfl, .inl (SqL.of hd1), _, _, rfl, rfl, _, rfl, ite2 (fun e => ?_) (fun e => ?_)⟩
    · have hk : k < ds.length := by
        have := of_decide_eq_true e
        rw [List.length_map] at this
        omega
      refine ⟨_, rfl, b, _, _, _, rfl, rfl, SqL.of hb1, atI_nat (j := 0) rfl, _, rfl, d, _, _, _, rfl, rfl, SqL.of hd1, atI_nat (ints_at hk), .inl ⟨_, rfl, _, rfl, _, _, rfl, rfl, hm, ?_⟩⟩
      exact q _ _ (Int.emod_nonneg _ (by omega)) (Int.emod_lt_of_pos _ hm) x1 bx
    · refine ⟨_, rfl, _, _, rfl, rfl, .inr (by decide), _, _, rfl, rfl, .inl ⟨_, rfl, _, rfl, _, _, rfl, rfl, hm, ?_⟩⟩
      exact q _ _ (Int.emod_nonneg _ (by omega)) (Int.emod_lt_of_pos _ hm) x1 bx
/-! ### _law_pick -/
def spPick (K : PySem.W.Frag) : Sp := fun vs H Q _ => ∃ (b d t : Addr) (xs : List V), vs = [.ref b, .ref t] ∧ Box H b d ∧ H t = some (.lst xs) ∧ t ≠ b ∧ 0 < xs.length ∧ ∀ (j : Nat) (v : V), xs[j]? = some v → ∀ H', Ext [b] H H' → Box H' b d → Q v H'
theorem scPick : FnScope ["box", "things"] ["box", "things"] (defScope sPick) := ⟨rfl, rfl, rfl, by decide +kernel, rfl, by decide +kernel, by decide +kernel⟩
theorem ok_pick {f fD : Addr} {fd fdD : FuncData} (ml : mg "len" = none) (mi : mg "int" = none) (F : Fun K "_law_pick" "_law_pick" sPick f fd)
    (FD : Fun K "_law_draw" "_law_draw" sDraw fD fdD) (bD : Binds K fdD ["box", "many"] []) (gD : mg "_law_draw" = some (.ref fD)) : FnOk P w K mg base CX0 2 f fd ["box", "things"] (spPick K) := by
  have nd := scPick.nd
  have GD : FnOk P w K mg base CX0 1 fD fdD ["box", "many"] spDraw := ok_draw ml mi FD
  refine F.ok scPick (fun vs H Q E h => ?_) (fun cdv A outer s H vs Q E hr h => ?_)
  · obtain ⟨_, _, _, _, rfl, _⟩ := h
    rfl
  · obtain ⟨b, d, t, xs, rfl, hb, ht, htb, hx, q⟩ := h
    refine ⟨_, pss_one (ps_ret (pe_ix ix_list (pv 1) (pe_op op_mod (pe_callTy call_int1 (by rfl) mi PyProof.Rows.boot_int (pa_cons (pe_call GD hr (by rfl) gD FD.kp bD .nil pass0 (pa_cons (pv 0) (pa_cons pe_int pa_nil))) pa_nil)) (pe_callB call_len_seq (by rfl) ml PySem.boot_len (pa_cons (pv 1) pa_nil))) (fun _ _ => rfl))), ?_⟩
    refine ⟨_, rfl, _, rfl, b, d, 900, rfl, hb, by decide, fun r H1 h0 h1 x1 b1 => .inl ⟨_, rfl, ?_⟩⟩
    have ht1 : H1 t = some (.lst xs) := x1.lst ht (by rw [List.mem_singleton]; exact htb)
    have hlI : (0 : Int) < (xs.length : Nat) := by omega
    refine ⟨_, rfl, t, _, rfl, .inl (SqL.of ht1), _, _, rfl, rfl, hlI, ?_⟩
    have e0 := Int.emod_nonneg r (Int.ne_of_gt hlI)
    have e1 := Int.emod_lt_of_pos r hlI
    obtain ⟨j, hj⟩ : ∃ j : Nat, r % (xs.length : Nat) = (j : Int) := ⟨_, (Int.toNat_of_nonneg e0).symm⟩
    rw [hj] at e1
    have hjl : j < xs.length := by omega
    have hv := List.getElem?_eq_getElem hjl
    exact ⟨t, _, _, _, rfl, by rw [← hj], SqL.of ht1, atI_nat hv, q j _ hv _ x1 b1⟩
end
end K34
set_option Elab.async false
set_option linter.all false
set_option maxRecDepth 100000
set_option maxHeartbeats 4000000
namespace Gx
open PySem PySem.Spec PyProof.Rows L2 RZ
/-! ### a while loop by its turns -/
theorem while_n {c : TT} {tb : TS} {D : Ends} {σ : L2.St} {H : Hp} (n : Nat) (Pv : Nat → L2.St → Hp → Prop) (h0 : Pv 0 σ H)
    (hs : ∀ j σ H, j ≤ n → Pv j σ H → c σ H fun b H1 => if b = true then j < n ∧ tb { D with nx := Pv (j + 1), ct := Pv (j + 1), bk := D.nx } σ H1 else D.nx σ H1)
    (mono : ∀ σ H Q Q', (∀ b H1, Q b H1 → Q' b H1) → c σ H Q → c σ H Q') : tWhile c tb D σ H := by
  refine ⟨fun m σ H => ∃ j, m = n - j ∧ j ≤ n ∧ Pv j σ H, ⟨n, 0, rfl, Nat.zero_le _, h0⟩, ?_⟩
  rintro m σ H ⟨j, rfl, hj, p⟩
  refine mono σ H _ _ (fun b H1 q => ?_) (hs j σ H hj p)
  cases b with
  | true =>
    obtain ⟨hl, q⟩ := q
    exact ⟨_, fun σ' H' p' => ⟨n - (j + 1), by omega, j + 1, rfl, hl, p'⟩, q⟩
  | false => exact q
theorem name_eq (i : Nat) (v : V) (σ : L2.St) (H : Hp) (D : L2.St → Hp → Prop) : gName i v σ H D = D (σ.set i (some v)) H := rfl
theorem con_eq (v : V) (σ : L2.St) (H : Hp) (Q : VK) : tC v σ H Q = Q v H := rfl
end Gx
set_option Elab.async false
set_option linter.all false
set_option maxRecDepth 100000
set_option maxHeartbeats 4000000
namespace K34
open PySem PySem.Spec PyProof.Rows L2 Gx RZ TL StX
section
variable {P : Program} {w : World} {K : PySem.W.Frag} {mg : Str → Option Value} {base : Heap}
/-! ### _law_lines -/
abbrev nLines : List Str := ["net", "heights", "left", "wide", "height", "lines", "before", "k", "line", "other"]
theorem scLines : FnScope nLines ["net", "heights"] (defScope sLines) := ⟨rfl, rfl, rfl, by decide +kernel, rfl, by decide +kernel, by decide +kernel⟩
def spLines (K : PySem.W.Frag) : Sp := fun vs H Q _ => ∃ (np mp hp : Addr) (v0 v2 : V) (ms : List Str) (hs lv : List Int) (n : Nat), vs = [.ref np, .ref hp] ∧ SqT K H np [v0, .ref mp, v2] ∧ SqT K H mp (ms.map V.str) ∧ SqT K H hp (hs.map V.int) ∧ Fits ms hs ∧ Desc hs lv ∧ Wid hs n ∧
  ∀ p H', Ext [] H H' → H p = none → H' p = some (.lst ((lines n ms hs lv).map V.str)) → Q (.ref p) H'
structure WI (hs : List Int) (i k : Nat) : Prop where
  le : ∀ h ∈ hs.take i, (num h).length ≤ k
  at_ : k = 0 ∨ ∃ h ∈ hs, (num h).length = k
theorem WI.zero (hs : List Int) : WI hs 0 0 := ⟨fun h hh => by simp at hh, .inl rfl⟩
theorem WI.step {hs : List Int} {i k : Nat} (h : WI hs i k) (hi : i < hs.length) : ∃ k' : Nat, WI hs (i + 1) k' ∧ (if ((num hs[i]).length : Int) > (k : Int) then ((num hs[i]).length : Int) else (k : Int)) = (k' : Int) := by
  have tk : ∀ x ∈ hs.take (i + 1), x ∈ hs.take i ∨ x = hs[i] := fun x hx => by
    rw [List.take_add_one, List.getElem?_eq_getElem hi] at hx
    rcases List.mem_append.mp hx with hx | hx
    · exact .inl hx
    · exact .inr (by simpa using hx)
  by_cases c : ((num hs[i]).length : Int) > (k : Int)
  · refine ⟨(num hs[i]).length, ⟨fun x hx => ?_, .inr ⟨_, List.getElem_mem hi, rfl⟩⟩, if_pos c⟩
    rcases tk x hx with hx | rfl
    · have := h.le x hx
      omega
    · exact Nat.le_refl _
  · refine ⟨k, ⟨fun x hx => ?_, h.at_⟩, if_neg c⟩
    rcases tk x hx with hx | rfl
    · exact h.le x hx
    · omega
theorem WI.eq {hs : List Int} {n k : Nat} (h : WI hs hs.length k) (W : Wid hs n) : k = n := by
  have hl := h.le
  rw [List.take_length] at hl
  obtain ⟨x, hx, e⟩ := W.at_
  have h1 := hl x hx
  rcases h.at_ with h0 | ⟨y, hy, e2⟩
  · omega
  · have := W.le y hy
    omega
def bef (lv : List Int) (j : Nat) : V := if j = 0 then .non else .int (lv.getD (j - 1) 0)
def accN (n : Nat) (ms : List Str) (hs lv : List Int) (j : Nat) : List Str := if j = 0 then [] else lines n ms hs (lv.take j) ++ [gapS n (lv.getD (j - 1) 0 - lv.getD j 0)]
theorem acc_row {n : Nat} {ms : List Str} {hs lv : List Int} {j : Nat} (hj : j < lv.length) : accN n ms hs lv j ++ [row n ms hs (lv.getD j 0)] = lines n ms hs (lv.take (j + 1)) := by
  unfold accN
  by_cases h0 : j = 0
  · subst h0
    rw [if_pos rfl, lines_one n ms hs lv hj]
    rfl
  · rw [if_neg h0, lines_succ n ms hs lv (by omega) hj, List.append_assoc]
    rfl
theorem join_spaces (k : Nat) : Txt.join Str.empty (List.replicate k " ") = Txt.mul " " (k : Int) := by
  refine tl_inj ?_
  rw [join_eq, tl_join, tl_mul_space]
  show joinL [] _ = _
  rw [joinL_nil, List.map_replicate]
  show (List.replicate k [32]).flatten = _
  rw [flat_one]
def padS (t : Nat) (l : Int) : Str := ⟨(List.replicate t 32 ++ tl (num l)).toArray⟩
theorem padS_len (t : Nat) (l : Int) : (padS t l).length = t + (num l).length := by
  have e : (padS t l).length = (List.replicate t 32 ++ tl (num l)).length := (tl_len _).symm
  rw [e, List.length_append, List.length_replicate, tl_len]
theorem padS_zero (l : Int) : num l = padS 0 l := tl_inj (by show tl (num l) = List.replicate 0 32 ++ tl (num l); simp)
theorem padS_succ (t : Nat) (l : Int) : (" " : Str) ++ padS t l = padS (t + 1) l := by
  refine tl_inj ?_
  rw [tl_append]
  show [32] ++ (List.replicate t 32 ++ tl (num l)) = List.replicate (t + 1) 32 ++ tl (num l)
  rw [List.replicate_succ]
  rfl
theorem padS_row (n : Nat) (ms : List Str) (hs : List Int) (l : Int) : padS (n - (num l).length) l = rowS n l (selN ms hs l 0) := by
  refine tl_inj ?_
  show List.replicate (n - (num l).length) 32 ++ tl (num l) = rowL n l []
  unfold rowL tailL
  simp
theorem rowS_snoc (n : Nat) (l : Int) (ns : List Str) (m : Str) : rowS n l ns ++ (" " : Str) ++ m = rowS n l (ns ++ [m]) := by
  refine tl_inj ?_
  rw [tl_append, tl_append, tl_row, tl_row]
  unfold rowL
  rw [tailL_app]
  simp only [List.append_assoc]
  have : tailL [m] = tl (Str.ofString " ") ++ tl m := by
    unfold tailL
    simp
    rfl
  rw [this]
theorem rowS_len {n : Nat} {ms : List Str} {hs : List Int} {l : Int} {i : Nat} (F : Fits ms hs) (hw : n ≤ 1921) (hl : l.natAbs < 2 ^ 40) (hi : i ≤ hs.length) : (rowS n l (selN ms hs l i)).length ≤ 10000 := by
  have h1 := tail_le F l hi
  have h2 := num_len hl
  have e : (rowS n l (selN ms hs l i)).length = (rowL n l (selN ms hs l i)).length := (tl_len _).symm
  rw [e]
  unfold rowL
  rw [List.length_append, List.length_append, List.length_replicate, tl_len]
  omega
theorem filter_take_succ {xs : List Int} {l : Int} {i : Nat} (hi : i < xs.length) : (xs.take (i + 1)).filter (fun x => !decide (x = l)) = (xs.take i).filter (fun x => !decide (x = l)) ++ (if xs[i] = l then [] else [xs[i]]) := by
  rw [List.take_add_one, List.getElem?_eq_getElem hi, List.filter_append]
  congr 1
  by_cases c : xs[i] = l
  · rw [if_pos c]
    simp [c]
  · rw [if_neg c]
    simp [c]
theorem ok_lines {f : Addr} {fd : FuncData} (mst : mg "str" = none) (ml : mg "len" = none) (mli : mg "list" = none) (mma : mg "max" = none) (mr : mg "range" = none) (F : Fun K "_law_lines" "_law_lines" sLines f fd) :
    FnOk P w K mg base CX0 1 f fd ["net", "heights"] (spLines K) := by
  have nd := scLines.nd
  refine F.ok scLines (fun vs H Q E h => ?_) (fun cdv A outer s H vs Q E hr h => ?_)
  · obtain ⟨_, _, _, _, _, _, _, _, _, rfl, _⟩ := h
    rfl
  · obtain ⟨np, mp, hp, v0, v2, ms, hs, lv, n, rfl, hn, hm, hh, FT, D, W, q⟩ := h
    refine ⟨_, pss_cons (ps_set (i := 2) nd rfl (.inl rfl) (pe_callTy call_list_of (by rfl) mli PyProof.Rows.boot_list (pa_cons (pv 1) pa_nil)))
     (pss_cons (ps_set (i := 3) nd rfl (.inl rfl) pe_int)
     (pss_cons (ps_for PassesOwn.never rfl (pi_tup (pv 1)) (pg_name (i := 4) nd rfl (.inr rfl))
        (pss_one (ps_set (i := 3) nd rfl (.inl rfl) (pe_callB (call_max2 rfl) (by rfl) mma PyProof.Rows.boot_max (pa_cons (pv 3) (pa_cons (pe_callB call_len_str (by rfl) ml PySem.boot_len (pa_cons (pe_callTy call_str_int (by rfl) mst PyProof.Rows.boot_str (pa_cons (pv 4) pa_nil)) pa_nil)) pa_nil))))))
     (pss_cons (ps_set (i := 5) nd rfl (.inl rfl) (pe_lst pa_nil))
     (pss_cons (ps_set (i := 6) nd rfl (.inl rfl) pe_non)
     (pss_cons (ps_while PassesOwn.never (pt_truth (pv 2) (by intro _; rfl))
       (pss_cons (ps_set (i := 4) nd rfl (.inr rfl) (pe_callB (cr_max rfl) (by rfl) mma PyProof.Rows.boot_max (pa_cons (pv 2) pa_nil)))
       (pss_cons (ps_setLc (i := 2) (own := [("other", 9)]) (g := gName 9) rfl nd rfl rfl (sw_true rfl rfl rfl (by decide +kernel)) (pi_list (pv 2)) (blkOk_by (N := nLines) (sc := defScope sLines) (by decide +kernel))
          (fun _ _ _ _ _ => pg_name (i := 9) nd rfl (.inl rfl)) (fun _ _ _ _ _ => pts_one (pt_cmpR op_ne (pv 9) (pv 4) (nomark _))) (fun _ _ _ _ _ => pv 9))
       (pss_cons (ps_if (pt_cmpR op_notN (pv 6) pe_non (nomark _))
          (pss_one (ps_expr (pe_bm PySem.F.plainAttrs_list PySem.F.slot_list_append PySem.F.type_list_append mt_append (pv 5) (pa_cons (pe_op op_add_str (pe_op op_add_str (pe_join pe_str (pe_lc (own := [("k", 7)]) (g := gName 7) (tt := tYes) rfl nd (pi_range1 (by rfl) mr (pa_cons (pv 3) pa_nil)) (blkOk_by (N := nLines) (sc := defScope sLines) (by decide +kernel))
             (fun _ _ _ _ _ => pg_name (i := 7) nd rfl (.inl rfl)) (fun _ _ _ _ _ => pts_nil) (fun _ _ _ _ _ => pe_str))) pe_str) (pe_callTy call_str_int (by rfl) mst PyProof.Rows.boot_str (pa_cons (pe_op op_sub (pv 6) (pv 4)) pa_nil))) pa_nil)))) pss_nil)
       (pss_cons (ps_set (i := 8) nd rfl (.inl rfl) (pe_callTy call_str_int (by rfl) mst PyProof.Rows.boot_str (pa_cons (pv 4) pa_nil)))
       (pss_cons (ps_while PassesOwn.never (pt_cmpR op_lt (pe_callB call_len_str (by rfl) ml PySem.boot_len (pa_cons (pv 8) pa_nil)) (pv 3) (nomark _)) (pss_one (ps_set (i := 8) nd rfl (.inl rfl) (pe_op op_add_str pe_str (pv 8)))))
       (pss_cons (ps_for PassesOwn.never rfl (pi_range1 (by rfl) mr (pa_cons (pe_callB call_len_seq (by rfl) ml PySem.boot_len (pa_cons (pv 1) pa_nil)) pa_nil)) (pg_name (i := 7) nd rfl (.inl rfl))
           (pss_one (ps_if (pt_cmpR op_eq (pe_ix ix_tup (pv 1) (pv 7) (fun _ _ => rfl)) (pv 4) (nomark _)) (pss_one (ps_set (i := 8) nd rfl (.inl rfl) (pe_op op_add_str (pe_op op_add_str (pv 8) pe_str) (pe_ix ix_tup (pe_ix ix_tup (pv 0) pe_int (fun _ _ => rfl)) (pv 7) (fun _ _ => rfl))))) pss_nil)))
       (pss_cons (ps_expr (pe_bm PySem.F.plainAttrs_list PySem.F.slot_list_append PySem.F.type_list_append mt_append (pv 5) (pa_cons (pv 8) pa_nil)))
       (pss_one (ps_set (i := 6) nd rfl (.inl rfl) (pv 4)))))))))))
     (pss_one (ps_ret (pv 5)))))))), ?_⟩
    have hw := W.small FT
    have lvl : lv.length ≤ 60 := Nat.le_trans D.len FT.few
    have low : ∀ x ∈ lv, x.natAbs < 2 ^ 30 := fun x hx => FT.low x ((D.mem x).mp hx)
    refine ⟨_, rfl, hp, _, rfl, .inr (hh), fun L0 hL0 => ?_⟩
    have x1 : Ext [] H (upd H L0 (.lst (hs.map V.int))) := .new hL0
    have e1 : (upd H L0 (.lst (hs.map V.int))) L0 = some (.lst ((leftN hs lv 0).map V.int)) := by rw [upd_same, leftN_zero D]
    generalize (upd H L0 (.lst (hs.map V.int))) = H1 at x1 e1 ⊢
    refine ⟨_, rfl, hp, rfl, ⟨_, x1.sqT hh⟩, ?_⟩
    refine for_tup (K := K) (a := hp) (xs := hs.map V.int) (fun i σ H2 => H2 = H1 ∧ ∃ y4 k, σ = [some (.ref np), some (.ref hp), some (.ref L0), some (.int (k : Nat)), y4, none, none, none, none, none] ∧ WI hs i k) ⟨rfl, _, 0, rfl, .zero hs⟩ (fun i σ H2 _ h2 => by rw [h2.1]; exact x1.sqT hh) (fun i x σ H2 hx h2 => ?_) (fun σ H2 h2 => ?_)
    · obtain ⟨rfl, y4, k, rfl, wi⟩ := h2
      obtain ⟨hi, rfl⟩ := map_item hx
      have lo := FT.low hs[i] (List.getElem_mem hi)
      have nl := num_len (i := hs[i]) (by omega)
      obtain ⟨k', wi', ek⟩ := wi.step hi
      refine ⟨_, rfl, _, rfl, _, rfl, small_log (by omega), _, rfl, Nat.le_trans nl (by decide), _, _, rfl, ?_⟩
      rw [show (if ((Str.ofString (toString hs[i])).length : Int) > (k : Int) then ((Str.ofString (toString hs[i])).length : Int) else (k : Int)) = (k' : Int) from ek]
      exact ⟨rfl, _, k', rfl, wi'⟩
    · obtain ⟨rfl, y4, k, rfl, wi⟩ := h2
      rw [List.length_map] at wi
      obtain rfl := wi.eq W
      refine ⟨by decide, fun LL hLL => ?_⟩
      have hne0 : L0 ≠ LL := ne_of_none e1 hLL
      have x2 : Ext [] H2 (upd H2 LL (.lst [])) := .new hLL
      have e2 : (upd H2 LL (.lst [])) L0 = some (.lst ((leftN hs lv 0).map V.int)) := by rw [upd_ne hne0]; exact e1
      have l2 : (upd H2 LL (.lst [])) LL = some (.lst ((lines k ms hs (lv.take 0)).map V.str)) := upd_same
      generalize (upd H2 LL (.lst [])) = H3 at x2 e2 l2 ⊢
      simp only [name_eq, seq_eq, asg_eq, con_eq]
      refine while_n lv.length (fun j σ H4 => ∃ La y4 y7 y8, σ = [some (.ref np), some (.ref hp), some (.ref La), some (.int (k : Nat)), y4, some (.ref LL), some (bef lv j), y7, y8, none] ∧ Ext [] H2 H4 ∧ H4 La = some (.lst ((leftN hs lv j).map V.int)) ∧ H4 LL = some (.lst ((lines k ms hs (lv.take j)).map V.str)) ∧ La ≠ LL)
        ⟨L0, _, _, _, rfl, x2, e2, l2, hne0⟩ (fun j σ H4 hj h4 => ?_) (fun σ H Q Q' hQ h => ?_)
      · obtain ⟨La, y4, y7, y8, rfl, x4, e4, l4, ne4⟩ := h4
        by_cases hlt : j < lv.length
        · have hpos : 0 < (leftN hs lv j).length := List.length_pos_iff.mpr (leftN_ne D hlt)
          refine ⟨_, rfl, true, .inl ⟨_, SqL.of e4, ?_⟩, ?_⟩
          · cases e : leftN hs lv j with
            | nil => rw [e] at hpos; cases hpos
            | cons a r => rfl
          refine iteT ⟨hlt, ?_⟩
          refine ⟨_, rfl, La, _, rfl, SqL.of e4, hpos, fun m h1 h2 => ?_⟩
          obtain rfl := leftN_max D hlt h1 h2
          have hl := low (lv.getD j 0) (by rw [List.getD_eq_getElem?_getD, List.getElem?_eq_getElem hlt]; exact List.getElem_mem hlt)
          refine ⟨_, rfl, La, rfl, ⟨_, SqL.of e4⟩, fun Lb hLb => ?_⟩
          have lfew : (leftN hs lv j).length ≤ 60 := Nat.le_trans (List.length_filter_le ..) FT.few
          refine lc_list (K := K) (a := La) (xs := (leftN hs lv j).map V.int) (fun i H5 => Ext [] H2 H5 ∧ H5 La = some (.lst ((leftN hs lv j).map V.int)) ∧ H5 LL = some (.lst ((lines k ms hs (lv.take j)).map V.str)) ∧
              H5 Lb = some (.lst ((((leftN hs lv j).take i).filter fun x => !decide (x = lv.getD j 0)).map V.int)) ∧ H2 Lb = none ∧ Lb ≠ La ∧ Lb ≠ LL)
            ⟨x4.trans (.new hLb), by rw [upd_ne (ne_of_none e4 hLb)]; exact e4, by rw [upd_ne (ne_of_none l4 hLb)]; exact l4, upd_same, x4.dom _ hLb, (ne_of_none e4 hLb).symm, (ne_of_none l4 hLb).symm⟩
            (fun i H5 _ h5 => SqL.of h5.2.1) (fun i x H5 hx h5 => ?_) (fun H5 h5 => ?_)
          · obtain ⟨x5, e5, l5, b5, n5, ne5, ne6⟩ := h5
            obtain ⟨hi, rfl⟩ := map_item hx
            refine ⟨rfl, _, rfl, _, rfl, rfl, _, rfl, ite2 (fun c => ?_) (fun c => ?_)⟩
            · have c' : ¬ (leftN hs lv j)[i] = lv.getD j 0 := fun z => by rw [z] at c; simp at c
              refine ⟨_, rfl, _, b5, ?_, x5.own n5 b5, by rw [upd_ne ne5.symm]; exact e5, by rw [upd_ne ne6.symm]; exact l5, ?_, n5, ne5, ne6⟩
              · rw [List.length_map]
                have := List.length_filter_le (fun x => !decide (x = lv.getD j 0)) ((leftN hs lv j).take i)
                rw [List.length_take] at this
                exact small1000 (by omega)
              · rw [upd_same, filter_take_succ hi, if_neg c', List.map_append]
                rfl
            · have c' : (leftN hs lv j)[i] = lv.getD j 0 := by
                have := of_decide_eq_true (by simpa using c : decide (V.int (leftN hs lv j)[i] = V.int (lv.getD j 0)) = true)
                exact V.int.inj this
              refine ⟨x5, e5, l5, ?_, n5, ne5, ne6⟩
              rw [filter_take_succ hi, if_pos c', List.append_nil]
              exact b5
          · obtain ⟨x5, e5, l5, b5, n5, ne5, ne6⟩ := h5
            rw [List.length_map, List.take_length, leftN_succ D hlt] at b5
            have xfew : (lines k ms hs (lv.take j)).length ≤ 120 := by
              have := (lines_ok (w := k) (lv := lv.take j) FT hw fun x hx => low x (List.mem_of_mem_take hx)).1
              rw [List.length_take] at this
              omega
            have nLL : H2 LL = none := hLL
            rcases Nat.eq_zero_or_pos j with j0 | j0
            rotate_left
            · have ebf : bef lv j = .int (lv.getD (j - 1) 0) := by unfold bef; rw [if_neg (by omega)]
              have hj1 : j - 1 < lv.length := by omega
              have la : (lv.getD (j - 1) 0).natAbs < 2 ^ 30 := low _ (by rw [List.getD_eq_getElem?_getD, List.getElem?_eq_getElem hj1]; exact List.getElem_mem hj1)
              refine ⟨_, rfl, rfl, _, rfl, ?_⟩
              rw [show (!decide (bef lv j = .non)) = true by rw [ebf]; rfl]
              refine iteT ?_
              refine ⟨_, rfl, .inl ⟨rfl, _, SqL.of l5⟩, ⟨_, rfl⟩, _, rfl, (k : Int), rfl, by omega, by omega, fun D3 hD3 => ?_⟩
              rw [Int.toNat_natCast]
              refine lc_range (fun i H6 => Ext [] H2 H6 ∧ H6 LL = some (.lst ((lines k ms hs (lv.take j)).map V.str)) ∧ H6 Lb = some (.lst ((leftN hs lv (j + 1)).map V.int)) ∧ H6 D3 = some (.lst ((List.replicate i (" " : Str)).map V.str)) ∧ H2 D3 = none ∧ D3 ≠ LL ∧ D3 ≠ Lb)
                ⟨x5.trans (.new hD3), by rw [upd_ne (ne_of_none l5 hD3)]; exact l5, by rw [upd_ne (ne_of_none b5 hD3)]; exact b5, upd_same, x5.dom _ hD3, (ne_of_none l5 hD3).symm, (ne_of_none b5 hD3).symm⟩ (fun i H6 hi h6 => ?_) (fun H6 h6 => ?_)
              · obtain ⟨x6, l6, b6, d6, n6, na, nb⟩ := h6
                refine ⟨rfl, _, d6, by rw [List.length_map, List.length_replicate]; exact Nat.lt_of_lt_of_le (Nat.lt_of_lt_of_le hi hw) (by decide), x6.own n6 d6, by rw [upd_ne na.symm]; exact l6, by rw [upd_ne nb.symm]; exact b6, ?_, n6, na, nb⟩
                rw [upd_same, List.replicate_succ', List.map_append]
                rfl
              · obtain ⟨x6, l6, b6, d6, n6, na, nb⟩ := h6
                have lm : (Txt.mul " " (k : Int)).length = k := by rw [← tl_len, tl_mul_space, List.length_replicate]
                have l3 : (" | " : Str).length = 3 := by decide
                have hd40 : (lv.getD (j - 1) 0 - lv.getD j 0).natAbs < 2 ^ 40 := by omega
                have dl := num_len hd40
                have lj : (Txt.join Str.empty (List.replicate k " ")).length = k := by rw [join_spaces, lm]
                have lq : (Txt.join Str.empty (List.replicate k " ") ++ (" | " : Str)).length = k + 3 := by
                  rw [← tl_len, tl_append, List.length_append, tl_len, tl_len, lj, l3]
                refine ⟨_, D3, List.replicate k " ", rfl, rfl, .inl (SqL.of d6), ?_, ?_⟩
                · have := sum_le (B := 1) (List.replicate k (" " : Str)) fun y hy => by rw [(List.mem_replicate.mp hy).2]; decide
                  rw [List.length_replicate] at this ⊢
                  have z : (Str.ofString "").length = 0 := rfl
                  rw [z]
                  omega
                have eg : Txt.join Str.empty (List.replicate k " ") ++ (" | " : Str) ++ num (lv.getD (j - 1) 0 - lv.getD j 0) = gapS k (lv.getD (j - 1) 0 - lv.getD j 0) := by
                  refine tl_inj ?_
                  rw [join_spaces, tl_append, tl_append, tl_mul_space, List.append_assoc]
                  rfl
                refine ⟨_, _, rfl, rfl, ?_, _, rfl, _, rfl, _, _, ebf, rfl, _, rfl, small_log hd40, _, _, rfl, rfl, ?_, ?_⟩
                · show (Txt.join Str.empty (List.replicate k " ")).length + (" | " : Str).length ≤ 2 ^ 24
                  rw [lj, l3]
                  omega
                · show (Txt.join Str.empty (List.replicate k " ") ++ (" | " : Str)).length + (num (lv.getD (j - 1) 0 - lv.getD j 0)).length ≤ 2 ^ 24
                  rw [lq]
                  omega
                refine ⟨LL, _, _, rfl, rfl, l6, by rw [List.length_map]; exact small1000 (by omega), ?_⟩
                have nbl : Lb ≠ LL := ne6
                have x7 := x6.own (ys := (lines k ms hs (lv.take j)).map V.str ++ [.str (gapS k (lv.getD (j - 1) 0 - lv.getD j 0))]) nLL l6
                have l7 : (upd H6 LL (.lst ((lines k ms hs (lv.take j)).map V.str ++ [.str (gapS k (lv.getD (j - 1) 0 - lv.getD j 0))]))) LL = some (.lst ((accN k ms hs lv j).map V.str)) := by
                  rw [upd_same]
                  unfold accN
                  rw [if_neg (by omega), List.map_append]
                  rfl
                have b7 : (upd H6 LL (.lst ((lines k ms hs (lv.take j)).map V.str ++ [.str (gapS k (lv.getD (j - 1) 0 - lv.getD j 0))]))) Lb = some (.lst ((leftN hs lv (j + 1)).map V.int)) := by rw [upd_ne nbl]; exact b6
                have afew : (accN k ms hs lv j).length ≤ 121 := by unfold accN; rw [if_neg (by omega), List.length_append]; simp; omega
                rw [show Txt.join (Str.ofString "") (List.replicate k (Str.ofString " ")) ++ Str.ofString " | " ++ Str.ofString (toString (lv.getD (j - 1) 0 - lv.getD j 0)) = gapS k (lv.getD (j - 1) 0 - lv.getD j 0) from eg]
                generalize (upd H6 LL (.lst ((lines k ms hs (lv.take j)).map V.str ++ [.str (gapS k (lv.getD (j - 1) 0 - lv.getD j 0))]))) = H7 at x7 l7 b7 ⊢
                have hrow := acc_row (n := k) (ms := ms) (hs := hs) hlt
                have hbef : bef lv (j + 1) = .int (lv.getD j 0) := rfl
                generalize lv.getD j 0 = l at hl hrow hbef ⊢
                have nl := num_len (i := l) (by omega)
                simp only [name_eq, seq_eq, asg_eq]
                refine ⟨_, rfl, _, rfl, small_log (by omega), ?_⟩
                simp only [name_eq, seq_eq, asg_eq]
                refine while_n (k - (num l).length) (fun t σ H8 => H8 = H7 ∧ σ = [some (.ref np), some (.ref hp), some (.ref Lb), some (.int (k : Nat)), some (.int l), some (.ref LL), some (bef lv j), y7, some (.str (padS t l)), none]) ⟨rfl, by rw [← padS_zero]; rfl⟩ (fun t σ H8 ht h8 => ?_) (fun σ H Q Q' hQ h => ?_)
                rotate_left
                · obtain ⟨v, hv, z, hz, hzl, b, hb, i1, i2, c1, c2, k2, hk2, h⟩ := h
                  exact ⟨v, hv, z, hz, hzl, b, hb, i1, i2, c1, c2, k2, hk2, hQ _ _ h⟩
                obtain ⟨rfl, rfl⟩ := h8
                refine ⟨_, rfl, _, rfl, by rw [padS_len]; show t + (num l).length ≤ 2 ^ 24; omega, _, rfl, _, _, rfl, rfl, _, rfl, ite2 (fun c => ?_) (fun c => ?_)⟩
                · have c1 := of_decide_eq_true c
                  rw [padS_len] at c1
                  refine ⟨by omega, _, rfl, _, _, rfl, rfl, ?_, rfl, ?_⟩
                  · rw [padS_len]
                    show 1 + (t + (num l).length) ≤ 2 ^ 24
                    omega
                  · rw [show Str.ofString " " ++ padS t l = padS (t + 1) l from padS_succ t l]
                    rfl
                have c1 : ¬ (((padS t l).length : Int) < (k : Int)) := fun z => c (decide_eq_true z)
                rw [padS_len] at c1
                have et : t = k - (num l).length := by omega
                subst et
                rw [padS_row k ms hs l]
                simp only [name_eq, seq_eq, asg_eq]
                refine ⟨_, rfl, hp, _, rfl, .inr ((x1.trans x7).sqT hh), ?_⟩
                rw [List.length_map]
                have fw := FT.few
                refine ⟨_, rfl, by omega, by omega, ?_⟩
                rw [Int.toNat_natCast]
                have xT := x1.trans x7
                refine for_range (n := hs.length) (fun i σ H9 => H9 = H8 ∧ ∃ y, σ = [some (.ref np), some (.ref hp), some (.ref Lb), some (.int (k : Nat)), some (.int l), some (.ref LL), some (bef lv j), y, some (.str (rowS k l (selN ms hs l i))), none]) ⟨rfl, _, rfl⟩ (fun i σ H9 hi h8 => ?_) (fun σ H9 h8 => ?_)
                · obtain ⟨rfl, y, rfl⟩ := h8
                  have hi2 : i < ms.length := by rw [FT.len]; exact hi
                  have ek : ((0 : Int) + (i : Nat)) = ((i : Nat) : Int) := by omega
                  rw [ek]
                  have sz := rowS_len (n := k) (l := l) FT hw (by omega) (Nat.le_of_lt hi)
                  have mi := FT.name _ (List.getElem_mem hi2)
                  have s1 : (rowS k l (selN ms hs l i) ++ (" " : Str)).length ≤ 10001 := by
                    rw [← tl_len, tl_append, List.length_append, tl_len]
                    have : (tl (" " : Str)).length = 1 := rfl
                    omega
                  refine ⟨_, rfl, _, rfl, hp, _, _, _, rfl, rfl, xT.sqT hh, atI_nat (j := i) (by rw [List.getElem?_map, List.getElem?_eq_getElem hi]; rfl), _, rfl, rfl, _, rfl, ite2 (fun c => ?_) (fun c => ?_)⟩
                  · have c1 : hs[i] = l := V.int.inj (of_decide_eq_true c)
                    refine ⟨_, rfl, _, _, rfl, rfl, ?_, _, rfl, np, _, _, _, rfl, rfl, xT.sqT hn, atI_nat (j := 1) rfl, _, rfl, mp, _, _, _, rfl, rfl, xT.sqT hm, atI_nat (j := i) (by rw [List.getElem?_map, List.getElem?_eq_getElem hi2]; rfl), _, _, rfl, rfl, ?_, rfl, some (.int (i : Nat)), ?_⟩
                    · show (rowS k l (selN ms hs l i)).length + 1 ≤ 2 ^ 24
                      omega
                    · show (rowS k l (selN ms hs l i) ++ (" " : Str)).length + (ms[i]).length ≤ 2 ^ 24
                      omega
                    · rw [selN_succ l hi2 hi, if_pos c1, ← rowS_snoc]
                      rfl
                  · have c1 : ¬ hs[i] = l := fun z => by rw [z] at c; exact c (decide_eq_true rfl)
                    refine ⟨rfl, some (.int (i : Nat)), ?_⟩
                    rw [selN_succ l hi2 hi, if_neg c1, List.append_nil]
                    rfl
                obtain ⟨rfl, y, rfl⟩ := h8
                simp only [name_eq, seq_eq, asg_eq]
                refine ⟨_, rfl, .inl ⟨rfl, _, SqL.of l7⟩, _, rfl, LL, _, _, rfl, rfl, l7, by rw [List.length_map]; exact small1000 (by omega), ?_⟩
                refine ⟨_, rfl, Lb, some (.int l), y, some (.str (rowS k l (selN ms hs l hs.length))), by rw [hbef]; rfl, x7.own nLL l7, by rw [upd_ne ne6]; exact b7, ?_, ne6⟩
                rw [upd_same, ← hrow, List.map_append]
                rfl
            · have ebf : bef lv j = .non := by unfold bef; rw [if_pos j0]
              refine ⟨_, rfl, rfl, _, rfl, ?_⟩
              rw [show (!decide (bef lv j = .non)) = false by rw [ebf]; rfl]
              refine iteF ?_
              have l7 : H5 LL = some (.lst ((accN k ms hs lv j).map V.str)) := by
                have : accN k ms hs lv j = lines k ms hs (lv.take j) := by
                  unfold accN
                  rw [if_pos j0, j0]
                  rfl
                rw [this]
                exact l5
              have afew : (accN k ms hs lv j).length ≤ 121 := by unfold accN; rw [if_pos j0]; simp
              have x7 := x5
              have b7 := b5
              clear l5 x5 b5
              generalize H5 = H7 at x7 l7 b7 ⊢
              have hrow := acc_row (n := k) (ms := ms) (hs := hs) hlt
              have hbef : bef lv (j + 1) = .int (lv.getD j 0) := rfl
              generalize lv.getD j 0 = l at hl hrow hbef ⊢
              have nl := num_len (i := l) (by omega)
              simp only [name_eq, seq_eq, asg_eq]
              refine ⟨_, rfl, _, rfl, small_log (by omega), ?_⟩
              simp only [name_eq, seq_eq, asg_eq]
              refine while_n (k - (num l).length) (fun t σ H8 => H8 = H7 ∧ σ = [some (.ref np), some (.ref hp), some (.ref Lb), some (.int (k : Nat)), some (.int l), some (.ref LL), some (bef lv j), y7, some (.str (padS t l)), none]) ⟨rfl, by rw [← padS_zero]; rfl⟩ (fun t σ H8 ht h8 => ?_) (fun σ H Q Q' hQ h => ?_)
              rotate_left
              · obtain ⟨v, hv, z, hz, hzl, b, hb, i1, i2, c1, c2, k2, hk2, h⟩ := h
                exact ⟨v, hv, z, hz, hzl, b, hb, i1, i2, c1, c2, k2, hk2, hQ _ _ h⟩
              obtain ⟨rfl, rfl⟩ := h8
              refine ⟨_, rfl, _, rfl, by rw [padS_len]; show t + (num l).length ≤ 2 ^ 24; omega, _, rfl, _, _, rfl, rfl, _, rfl, ite2 (fun c => ?_) (fun c => ?_)⟩
              · have c1 := of_decide_eq_true c
                rw [padS_len] at c1
                refine ⟨by omega, _, rfl, _, _, rfl, rfl, ?_, rfl, ?_⟩
                · rw [padS_len]
                  show 1 + (t + (num l).length) ≤ 2 ^ 24
                  omega
                · rw [show Str.ofString " " ++ padS t l = padS (t + 1) l from padS_succ t l]
                  rfl
              have c1 : ¬ (((padS t l).length : Int) < (k : Int)) := fun z => c (decide_eq_true z)
              rw [padS_len] at c1
              have et : t = k - (num l).length := by omega
              subst et
              rw [padS_row k ms hs l]
              simp only [name_eq, seq_eq, asg_eq]
              refine ⟨_, rfl, hp, _, rfl, .inr ((x1.trans x7).sqT hh), ?_⟩
              rw [List.length_map]
              have fw := FT.few
              refine ⟨_, rfl, by omega, by omega, ?_⟩
              rw [Int.toNat_natCast]
              have xT := x1.trans x7
              refine for_range (n := hs.length) (fun i σ H9 => H9 = H8 ∧ ∃ y, σ = [some (.ref np), some (.ref hp), some (.ref Lb), some (.int (k : Nat)), some (.int l), some (.ref LL), some (bef lv j), y, some (.str (rowS k l (selN ms hs l i))), none]) ⟨rfl, _, rfl⟩ (fun i σ H9 hi h8 => ?_) (fun σ H9 h8 => ?_)
              · obtain ⟨rfl, y, rfl⟩ := h8
                have hi2 : i < ms.length := by rw [FT.len]; exact hi
                have ek : ((0 : Int) + (i : Nat)) = ((i : Nat) : Int) := by omega
                rw [ek]
                have sz := rowS_len (n := k) (l := l) FT hw (by omega) (Nat.le_of_lt hi)
                have mi := FT.name _ (List.getElem_mem hi2)
                have s1 : (rowS k l (selN ms hs l i) ++ (" " : Str)).length ≤ 10001 := by
                  rw [← tl_len, tl_append, List.length_append, tl_len]
                  have : (tl (" " : Str)).length = 1 := rfl
                  omega
                refine ⟨_, rfl, _, rfl, hp, _, _, _, rfl, rfl, xT.sqT hh, atI_nat (j := i) (by rw [List.getElem?_map, List.getElem?_eq_getElem hi]; rfl), _, rfl, rfl, _, rfl, ite2 (fun c => ?_) (fun c => ?_)⟩
                · have c1 : hs[i] = l := V.int.inj (of_decide_eq_true c)
                  refine ⟨_, rfl, _, _, rfl, rfl, ?_, _, rfl, np, _, _, _, rfl, rfl, xT.sqT hn, atI_nat (j := 1) rfl, _, rfl, mp, _, _, _, rfl, rfl, xT.sqT hm, atI_nat (j := i) (by rw [List.getElem?_map, List.getElem?_eq_getElem hi2]; rfl), _, _, rfl, rfl, ?_, rfl, some (.int (i : Nat)), ?_⟩
                  · show (rowS k l (selN ms hs l i)).length + 1 ≤ 2 ^ 24
                    omega
                  · show (rowS k l (selN ms hs l i) ++ (" " : Str)).length + (ms[i]).length ≤ 2 ^ 24
                    omega
                  · rw [selN_succ l hi2 hi, if_pos c1, ← rowS_snoc]
                    rfl
                · have c1 : ¬ hs[i] = l := fun z => by rw [z] at c; exact c (decide_eq_true rfl)
                  refine ⟨rfl, some (.int (i : Nat)), ?_⟩
                  rw [selN_succ l hi2 hi, if_neg c1, List.append_nil]
                  rfl
              obtain ⟨rfl, y, rfl⟩ := h8
              simp only [name_eq, seq_eq, asg_eq]
              refine ⟨_, rfl, .inl ⟨rfl, _, SqL.of l7⟩, _, rfl, LL, _, _, rfl, rfl, l7, by rw [List.length_map]; exact small1000 (by omega), ?_⟩
              refine ⟨_, rfl, Lb, some (.int l), y, some (.str (rowS k l (selN ms hs l hs.length))), by rw [hbef]; rfl, x7.own nLL l7, by rw [upd_ne ne6]; exact b7, ?_, ne6⟩
              rw [upd_same, ← hrow, List.map_append]
              rfl
        · have ej : j = lv.length := by omega
          subst ej
          refine ⟨_, rfl, false, .inl ⟨_, SqL.of e4, by rw [leftN_end]; rfl⟩, iteF ?_⟩
          rw [List.take_length] at l4
          exact ⟨_, rfl, q LL H4 (x1.trans x4) (x1.dom _ hLL) l4⟩
      · obtain ⟨v, hv, b, hb, h⟩ := h
        exact ⟨v, hv, b, hb, hQ _ _ h⟩
end
end K34
set_option Elab.async false
set_option linter.all false
set_option maxRecDepth 100000
set_option maxHeartbeats 4000000
namespace K34
open PySem PySem.Spec PyProof.Rows L2 Gx RZ TL StX
abbrev nLaw : List Str := ["script", "box", "turn", "many", "unit", "heights", "names", "net", "k", "line"]
theorem scLaw : FnScope nLaw ["script"] (defScope sLaw) := ⟨rfl, rfl, rfl, by decide +kernel, rfl, by decide +kernel, by decide +kernel⟩
/-- a def that the law calls: its promise at its level, how it is bound -/
structure Cd (P : Program) (w : World) (K : PySem.W.Frag) (mg : Str → Option Value) (base : Heap) (k : Nat) (x : Str) (ps : List Str) (sp : Sp) (f : Addr) (fd : FuncData) : Prop where
  ok : FnOk P w K mg base CX0 k f fd ps sp
  kp : PySem.W.keepIn K (.ref f) = true
  bi : Binds K fd ps []
  gl : mg x = some (.ref f)
structure Mods (mg : Str → Option Value) : Prop where
  range : mg "range" = none
  tuple : mg "tuple" = none
theorem alph8 {j : Nat} (h : j < 8) : ("abcdefgh" : Str).cps.toList[j]? = some (97 + j) := by
  have a : ∀ i : Fin 8, ("abcdefgh" : Str).cps.toList[i.val]? = some (97 + i.val) := by decide +kernel
  exact a ⟨j, h⟩
theorem nat_of {r : Int} (h : 0 ≤ r) : ∃ j : Nat, r = (j : Int) := ⟨r.toNat, (Int.toNat_of_nonneg h).symm⟩
theorem unit_of {j : Nat} {v : V} (h : [V.int 1, V.int 1, V.int 5, V.int 1000, V.int 99991][j]? = some v) : ∃ u : Int, v = .int u ∧ 0 ≤ u ∧ u ≤ 99991 := by
  have := List.mem_of_getElem? h
  simp at this
  rcases this with rfl | rfl | rfl | rfl
  · exact ⟨_, rfl, by decide, by decide⟩
  · exact ⟨_, rfl, by decide, by decide⟩
  · exact ⟨_, rfl, by decide, by decide⟩
  · exact ⟨_, rfl, by decide, by decide⟩
theorem name_of {j : Nat} {v : V} (h : [V.str "b", V.str "at", V.str "hill", V.str "lake", V.str "z"][j]? = some v) : ∃ z : Str, v = .str z ∧ z.length ≤ 4 := by
  have := List.mem_of_getElem? h
  simp at this
  rcases this with rfl | rfl | rfl | rfl | rfl
  · exact ⟨_, rfl, by decide⟩
  · exact ⟨_, rfl, by decide⟩
  · exact ⟨_, rfl, by decide⟩
  · exact ⟨_, rfl, by decide⟩
  · exact ⟨_, rfl, by decide⟩
section
variable {P : Program} {w : World} {K : PySem.W.Frag} {mg : Str → Option Value} {base : Heap}
def spLaw (K : PySem.W.Frag) : Sp := fun vs H Q _ => ∃ (a : Addr) (xs : List Int), vs = [.ref a] ∧ SqL K H a (xs.map V.int) ∧ ∀ H', Q (.bl true) H'
theorem ok_law {fL fDg fD fP fPr fLn : Addr} {dL dDg dD dP dPr dLn : FuncData} (B : Mods mg) (F : Fun K "law" "law" sLaw fL dL)
    (DDg : Cd P w K mg base 2 "_law_digits" ["script", "first", "last"] (spDigits K) fDg dDg) (DD : Cd P w K mg base 1 "_law_draw" ["box", "many"] spDraw fD dD) (DP : Cd P w K mg base 2 "_law_pick" ["box", "things"] (spPick K) fP dP)
    (DR : Cd P w K mg base 2 "profile" ["net", "heights"] (spProfile K) fPr dPr) (DN : Cd P w K mg base 1 "_law_lines" ["net", "heights"] (spLines K) fLn dLn) : FnG P w K mg base 3 fL dL ["script"] (spLaw K) := by
  have nd := scLaw.nd
  refine okG F scLaw (fun vs H Q E h => ?_) (fun cdv A outer s H vs Q E hgd hr h => ?_)
  · obtain ⟨_, _, rfl, _⟩ := h
    rfl
  · obtain ⟨a, xs, rfl, hs, q⟩ := h
    have r1 := hr.mono (show 1 ≤ 2 by decide)
    apply Exists.intro
    refine And.intro ?hb ?hc
    case hb =>
      apply pss_cons
      · exact ps_set (i := 1) nd rfl (.inr rfl) (pe_lst (pa_cons (pe_call DDg.ok hr (by rfl) DDg.gl DDg.kp DDg.bi .nil pass0 (pa_cons (pv 0) (pa_cons pe_int (pa_cons pe_int pa_nil)))) (pa_cons pe_int pa_nil)))
      apply pss_cons
      · apply ps_for PassesOwn.never rfl (pi_range1 (by rfl) B.range (pa_cons pe_int pa_nil)) (pg_name (i := 2) nd rfl (.inl rfl))
        apply pss_cons
        · exact ps_set (i := 3) nd rfl (.inl rfl) (pe_op op_add pe_int (pe_call DD.ok r1 (by rfl) DD.gl DD.kp DD.bi .nil pass0 (pa_cons (pv 1) (pa_cons pe_int pa_nil))))
        apply pss_cons
        · exact ps_set (i := 4) nd rfl (.inr rfl) (pe_call DP.ok hr (by rfl) DP.gl DP.kp DP.bi .nil pass0 (pa_cons (pv 1) (pa_cons (pe_lst (pa_cons pe_int (pa_cons pe_int (pa_cons pe_int (pa_cons pe_int (pa_cons pe_int pa_nil)))))) pa_nil)))
        apply pss_cons
        · exact ps_set (i := 5) nd rfl (.inl rfl) (pe_op op_catA (pe_tup (pa_cons pe_int pa_nil)) (pe_callTy call_tuple_of (by rfl) B.tuple PyProof.Rows.boot_tuple (pa_cons (pe_lc (own := [("k", 8)]) (g := gName 8) (tt := tYes) rfl nd (pi_range1 (by rfl) B.range (pa_cons (pe_op op_sub (pv 3) pe_int) pa_nil)) (blkOk_by (N := nLaw) (sc := defScope sLaw) (by decide +kernel))
            (fun _ _ _ _ _ => pg_name (i := 8) nd rfl (.inl rfl)) (fun _ _ _ _ _ => pts_nil) (fun _ _ _ _ _ => pe_op op_mul (pe_op op_sub (pe_call DD.ok r1 (by rfl) DD.gl DD.kp DD.bi .nil pass0 (pa_cons (pv 1) (pa_cons pe_int pa_nil))) pe_int) (pv 4))) pa_nil)))
        apply pss_cons
        · exact ps_setLc (i := 6) (own := [("k", 8)]) (g := gName 8) (tt := tYes) rfl nd rfl rfl (sw_true rfl rfl rfl (by decide +kernel)) (pi_range1 (by rfl) B.range (pa_cons (pv 3) pa_nil)) (blkOk_by (N := nLaw) (sc := defScope sLaw) (by decide +kernel))
            (fun _ _ _ _ _ => pg_name (i := 8) nd rfl (.inl rfl)) (fun _ _ _ _ _ => pts_nil) (fun _ _ _ _ _ => pe_op op_add_str (pe_call DP.ok hr (by rfl) DP.gl DP.kp DP.bi .nil pass0 (pa_cons (pv 1) (pa_cons (pe_lst (pa_cons pe_str (pa_cons pe_str (pa_cons pe_str (pa_cons pe_str (pa_cons pe_str pa_nil)))))) pa_nil))) (pe_ix ix_str pe_str (pv 8) (fun _ _ => rfl)))
        apply pss_cons
        · exact ps_set (i := 7) nd rfl (.inl rfl) (pe_tup (pa_cons pe_str (pa_cons (pe_callTy call_tuple_of (by rfl) B.tuple PyProof.Rows.boot_tuple (pa_cons (pv 6) pa_nil)) (pa_cons (pe_callTy call_tuple_of (by rfl) B.tuple PyProof.Rows.boot_tuple (pa_cons (pe_lc (own := [("k", 8)]) (g := gName 8) (tt := tYes) rfl nd (pi_range1 (by rfl) B.range (pa_cons (pe_op op_sub (pv 3) pe_int) pa_nil)) (blkOk_by (N := nLaw) (sc := defScope sLaw) (by decide +kernel))
            (fun _ _ _ _ _ => pg_name (i := 8) nd rfl (.inl rfl)) (fun _ _ _ _ _ => pts_nil) (fun _ _ _ _ _ => pe_tup (pa_cons (pv 8) (pa_cons (pe_op op_add (pv 8) pe_int) (pa_cons (pe_call DD.ok r1 (by rfl) DD.gl DD.kp DD.bi .nil pass0 (pa_cons (pv 1) (pa_cons pe_int pa_nil))) pa_nil))))) pa_nil)) pa_nil))))
        exact pss_one (ps_if (pt_cmpR op_ne (pe_call DR.ok hr (by rfl) DR.gl DR.kp DR.bi .nil pass0 (pa_cons (pv 7) (pa_cons (pv 5) pa_nil))) (pe_join pe_str (pe_lc (own := [("line", 9)]) (g := gName 9) (tt := tYes) rfl nd (pi_list (pe_call DN.ok r1 (by rfl) DN.gl DN.kp DN.bi .nil pass0 (pa_cons (pv 7) (pa_cons (pv 5) pa_nil)))) (blkOk_by (N := nLaw) (sc := defScope sLaw) (by decide +kernel))
            (fun _ _ _ _ _ => pg_name (i := 9) nd rfl (.inl rfl)) (fun _ _ _ _ _ => pts_nil) (fun _ _ _ _ _ => pe_op op_add_str (pv 9) pe_str))) (nomark _)) (pss_one (ps_ret pe_bl)) pss_nil)
      exact pss_one (ps_ret pe_bl)
    case hc =>
      refine ⟨_, rfl, a, xs, rfl, hs, fun d ds H1 x1 hd0 ed => ⟨by show 2 ≤ sizeLine; decide, fun b hb => ?_⟩⟩
      have bx : Box (upd H1 b (.lst [.ref d, .int 0])) b d := ⟨ds, 0, upd_same, by rw [upd_ne (ne_of_none ed hb)]; exact ed⟩
      generalize (upd H1 b (.lst [.ref d, .int 0])) = H2 at bx ⊢
      refine ⟨_, rfl, by decide, by decide, for_range (n := 6)
        (fun i σ H3 => ∃ y2 y3 y4 y5 y6 y7, σ = [some (.ref a), some (.ref b), y2, y3, y4, y5, y6, y7, none, none] ∧ Box H3 b d) ⟨_, _, _, _, _, _, rfl, bx⟩ (fun i σ H3 hi h3 => ?_) (fun σ H3 h3 => ?_)⟩
      · obtain ⟨y2, y3, y4, y5, y6, y7, rfl, bx3⟩ := h3
        -- many
        refine ⟨_, rfl, b, d, 7, rfl, bx3, by decide, fun r1 H4 g0 g1 x4 b4 => ⟨_, _, rfl, rfl, ?_⟩⟩
        obtain ⟨n, hn⟩ : ∃ n : Nat, (1 : Int) + r1 = (n : Int) := nat_of (by omega)
        have hn1 : 1 ≤ n := by omega
        have hn7 : n ≤ 7 := by omega
        -- unit
        refine ⟨_, rfl, by show 5 ≤ sizeLine; decide, fun t ht => ?_⟩
        have bq := b4
        obtain ⟨_, _, eb4, ed4⟩ := bq
        refine ⟨b, d, t, _, rfl, b4.ext (.new ht), upd_same, (ne_of_none eb4 ht).symm, by decide, fun j v hv H5 x5 b5 => ?_⟩
        obtain ⟨u, rfl, u0, u1⟩ := unit_of hv
        -- heights
        refine ⟨by show 1 ≤ sizeLine; decide, fun t0 ht0 => ?_⟩
        have bt0 : Box (upd H5 t0 (.tup [V.int 0])) b d := b5.ext (.new ht0)
        have et0 : SqT K (upd H5 t0 (.tup [V.int 0])) t0 [V.int 0] := .inl (.inl upd_same)
        generalize (upd H5 t0 (.tup [V.int 0])) = H6 at bt0 et0 ⊢
        refine ⟨_, rfl, _, _, rfl, rfl, _, rfl, by omega, by omega, fun D hD => ?_⟩
        refine lc_range (fun i H7 => ∃ hs : List Int, hs.length = i ∧ (∀ x ∈ hs, x.natAbs < 2 ^ 30) ∧ Ext [b] H6 H7 ∧ Box H7 b d ∧ H7 D = some (.lst (hs.map V.int)))
          ⟨[], rfl, (fun _ h => by cases h), .new hD, bt0.ext (.new hD), upd_same⟩ (fun i H7 hi h7 => ?_) (fun H7 h7 => ?_)
        · obtain ⟨hs, e1, e2, x7, b7, eD⟩ := h7
          refine ⟨rfl, _, rfl, b, d, 9, rfl, b7, by decide, fun r4 H8 g4 g5 x8 b8 => ⟨_, _, rfl, rfl, _, rfl, _, _, rfl, rfl, .inl ⟨by omega, by omega⟩, ?_⟩⟩
          have eD8 : H8 D = some (.lst (hs.map V.int)) := x8.lst eD (by rw [List.mem_singleton]; exact b7.ne eD)
          refine ⟨_, eD8, by rw [List.length_map, e1]; exact small1000 (by omega), hs ++ [(r4 - 4) * u], by rw [List.length_append, e1]; rfl, fun x hx => ?_, (x7.trans x8).own hD eD8, bt0.upd b8 hD, by rw [upd_same, List.map_append]; rfl⟩
          rcases List.mem_append.mp hx with hx | hx
          · exact e2 x hx
          · rw [List.mem_singleton.mp hx]
            have m1 : (r4 - 4).natAbs ≤ 4 := by omega
            have m2 : u.natAbs ≤ 99991 := by omega
            rw [Int.natAbs_mul]
            have := Nat.mul_le_mul m1 m2
            omega
        · obtain ⟨hs0, e1, e2, x7, b7, eD⟩ := h7
          refine ⟨D, _, rfl, .inl ⟨SqL.of eD, fun l hl => ?_⟩⟩
          have x8 : Ext [b] H6 (upd H7 l (.tup (hs0.map V.int))) := x7.trans (.new hl)
          have b8 : Box (L2.upd H7 l (.tup (hs0.map V.int))) b d := b7.ext (.new hl)
          have e8 : SqT K (upd H7 l (.tup (hs0.map V.int))) l (hs0.map V.int) := .inl (.inl upd_same)
          generalize (upd H7 l (.tup (hs0.map V.int))) = H8 at x8 b8 e8 ⊢
          refine catA_by (x8.sqT et0) e8 (by rw [List.length_map, e1]; show 1 + _ ≤ 2 ^ 24; omega) fun hp H9 x9 eh => ?_
          generalize hhs : (0 : Int) :: hs0 = hs at *
          have ehs : [V.int 0] ++ hs0.map V.int = hs.map V.int := by rw [← hhs]; rfl
          have lhs : hs.length = n := by rw [← hhs, List.length_cons, e1]; omega
          have bhs : ∀ x ∈ hs, x.natAbs < 2 ^ 30 := fun x hx => by
            rw [← hhs] at hx
            rcases List.mem_cons.mp hx with rfl | hx
            · decide
            · exact e2 x hx
          rw [ehs] at eh
          have b9 := b8.ext x9
          -- names
          refine ⟨_, rfl, _, rfl, by omega, by omega, fun D2 hD2 => ?_⟩
          refine lc_range (fun i HA => ∃ ms : List Str, ms.length = i ∧ (∀ m ∈ ms, m.length ≤ 100) ∧ Ext [b] H9 HA ∧ Box HA b d ∧ HA D2 = some (.lst (ms.map V.str)))
            ⟨[], rfl, (fun _ h => by cases h), .new hD2, b9.ext (.new hD2), upd_same⟩ (fun i HA hi hA => ?_) (fun HA hA => ?_)
          · obtain ⟨ms, e1', e2', xA, bA, eD2⟩ := hA
            refine ⟨rfl, _, rfl, by show 5 ≤ sizeLine; decide, fun t2 ht2 => ?_⟩
            obtain ⟨_, _, ebA, edA⟩ := id bA
            refine ⟨b, d, t2, _, rfl, bA.ext (.new ht2), upd_same, (ne_of_none ebA ht2).symm, by decide, fun j2 v2 hv2 HB xB bB => ?_⟩
            obtain ⟨z, rfl, hz⟩ := name_of hv2
            have ej : ((0 : Int) + (i : Nat)) = ((i : Nat) : Int) := by omega
            have hi8 : i < 8 := by omega
            have eD2B : HB D2 = some (.lst (ms.map V.str)) := xB.lst (by rw [upd_ne (ne_of_none eD2 ht2)]; exact eD2) (by rw [List.mem_singleton]; intro z; rw [z, ebA] at eD2; cases ms with | nil => cases eD2 | cons m r => cases eD2)
            refine ⟨_, rfl, _, _, _, rfl, rfl, by decide, by rw [ej]; exact atI_nat (alph8 hi8), _, _, rfl, rfl, ?_, ?_⟩
            · show z.length + 1 ≤ 2 ^ 24
              omega
            · refine ⟨_, eD2B, by rw [List.length_map, e1']; exact small1000 (by omega), ms ++ [_], by rw [List.length_append, e1']; rfl, fun m hm => ?_, (xA.trans ((Ext.new ht2).trans xB)).own hD2 eD2B, b9.upd bB hD2, by rw [upd_same, List.map_append]; rfl⟩
              rcases List.mem_append.mp hm with hm | hm
              · exact e2' m hm
              · rw [List.mem_singleton.mp hm, ← tl_len, tl_append, List.length_append, tl_len, tl_len]
                show z.length + 1 ≤ 100
                omega
          · obtain ⟨ms, e1', e2', xA, bA, eD2⟩ := hA
            have lms : ms.length = n := by omega
            have ehA := xA.sqT eh
            -- net
            refine ⟨_, rfl, D2, _, rfl, .inl ⟨SqL.of eD2, fun tm htm => ?_⟩⟩
            have bC : Box (upd HA tm (.tup (ms.map V.str))) b d := bA.ext (.new htm)
            have ehC := (Ext.new (c := []) (o := .tup (ms.map V.str)) htm).sqT ehA
            have emC : SqT K (upd HA tm (.tup (ms.map V.str))) tm (ms.map V.str) := .inl (.inl upd_same)
            generalize (upd HA tm (.tup (ms.map V.str))) = HC at bC ehC emC ⊢
            refine ⟨_, rfl, _, _, rfl, rfl, _, rfl, by omega, by omega, fun D3 hD3 => ?_⟩
            refine lc_range (fun i HD => ∃ vs : List V, vs.length = i ∧ Ext [b] HC HD ∧ Box HD b d ∧ HD D3 = some (.lst vs) ∧ D3 ≠ b)
              ⟨[], rfl, .new hD3, bC.ext (.new hD3), upd_same, by obtain ⟨_, _, eb, _⟩ := bC; exact (ne_of_none eb hD3).symm⟩ (fun i HD hi hD => ?_) (fun HD hD => ?_)
            · obtain ⟨vs, e1'', xD, bD, eD3, nb⟩ := hD
              refine ⟨rfl, _, rfl, _, rfl, _, _, rfl, rfl, _, rfl, b, d, 9, rfl, bD, by decide, fun r5 HE g5 g6 xE bE => ?_⟩
              refine ⟨by show 3 ≤ sizeLine; decide, fun t5 ht5 => ?_⟩
              have eD3E := xE.lst eD3 (by rw [List.mem_singleton]; exact nb)
              have nt5 : D3 ≠ t5 := ne_of_none eD3E ht5
              have eF : (upd HE t5 (.tup [V.int (0 + (i : Nat)), V.int (0 + (i : Nat) + 1), V.int r5])) D3 = some (.lst vs) := by rw [upd_ne nt5]; exact eD3E
              have xF : Ext [b] HC (upd HE t5 (.tup [V.int (0 + (i : Nat)), V.int (0 + (i : Nat) + 1), V.int r5])) := (xD.trans xE).trans (.new ht5)
              have bF : Box (upd HE t5 (.tup [V.int (0 + (i : Nat)), V.int (0 + (i : Nat) + 1), V.int r5])) b d := bE.ext (.new ht5)
              refine ⟨vs, eF, by rw [e1'']; exact small1000 (by omega), vs ++ [.ref t5], by rw [List.length_append, e1'']; rfl, xF.own hD3 eF, bC.upd bF hD3, upd_same, nb⟩
            · obtain ⟨vs, e1'', xD, bD, eD3, nb⟩ := hD
              refine ⟨D3, _, rfl, .inl ⟨SqL.of eD3, fun tr htr => ?_⟩⟩
              have xG : Ext [b] HC (upd HD tr (.tup vs)) := xD.trans (.new htr)
              have bG : Box (L2.upd HD tr (.tup vs)) b d := bD.ext (.new htr)
              generalize (upd HD tr (.tup vs)) = HG at xG bG ⊢
              refine ⟨by show 3 ≤ sizeLine; decide, fun np hnp => ?_⟩
              have xI : Ext [b] HC (upd HG np (.tup [V.str "net", V.ref tm, V.ref tr])) := xG.trans (.new hnp)
              have bI : Box (L2.upd HG np (.tup [V.str "net", V.ref tm, V.ref tr])) b d := bG.ext (.new hnp)
              have eI : SqT K (L2.upd HG np (.tup [V.str "net", V.ref tm, V.ref tr])) np [V.str "net", V.ref tm, V.ref tr] := .inl (.inl upd_same)
              generalize (upd HG np (.tup [V.str "net", V.ref tm, V.ref tr])) = HI at xI bI eI ⊢
              have emI := xI.sqT emC
              have ehI := xI.sqT ehC
              have FT : Fits ms hs := ⟨by omega, (by intro z; rw [z] at lhs; simp at lhs; omega), by omega, e2', bhs⟩
              -- profile
              refine ⟨_, rfl, _, rfl, np, tm, hp, _, _, ms, hs, rfl, eI, emI, ehI, FT, fun lv k HJ DS W xJ => ?_⟩
              refine ⟨⟨_, rfl⟩, _, rfl, _, rfl, np, tm, hp, _, _, ms, hs, lv, k, rfl, xJ.sqT eI, xJ.sqT emI, xJ.sqT ehI, FT, DS, W, fun p HK xK hpn eK => ?_⟩
              have low : ∀ x ∈ lv, x.natAbs < 2 ^ 30 := fun x hx => FT.low x ((DS.mem x).mp hx)
              have LK := lines_ok (w := k) (lv := lv) FT (W.small FT) low
              have lvl : lv.length ≤ 7 := by have := DS.len; omega
              refine ⟨p, rfl, ⟨_, SqL.of eK⟩, fun D4 hD4 => ?_⟩
              refine lc_list (K := K) (a := p) (xs := (lines k ms hs lv).map V.str) (fun i HL => HL p = some (.lst ((lines k ms hs lv).map V.str)) ∧ HL D4 = some (.lst ((((lines k ms hs lv).take i).map (· ++ ("\n" : Str))).map V.str)) ∧ D4 ≠ p ∧ Box HL b d ∧ HK D4 = none)
                ⟨by rw [upd_ne (ne_of_none eK hD4)]; exact eK, upd_same, (ne_of_none eK hD4).symm, ((bI.ext xJ).ext xK).ext (.new hD4), hD4⟩ (fun i HL _ hL => SqL.of hL.1) (fun i x HL hx hL => ?_) (fun HL hL => ?_)
              · obtain ⟨eL, dL, nL, bL, nK⟩ := hL
                obtain ⟨hi, rfl⟩ := map_item hx
                have h1 := LK.2 _ (List.getElem_mem hi)
                refine ⟨rfl, _, rfl, _, _, rfl, rfl, ?_, _, dL, ?_, by rw [upd_ne nL.symm]; exact eL, ?_, nL, ((bI.ext xJ).ext xK).upd bL nK, nK⟩
                · show (lines k ms hs lv)[i].length + 1 ≤ 2 ^ 24
                  omega
                · rw [List.length_map, List.length_map, List.length_take]
                  exact small1000 (by omega)
                · rw [upd_same, List.take_add_one, List.getElem?_eq_getElem hi, List.map_append, List.map_append]
                  rfl
              · obtain ⟨eL, dL, nL, bL, nK⟩ := hL
                rw [List.length_map, List.take_length] at dL
                refine ⟨_, D4, (lines k ms hs lv).map (· ++ ("\n" : Str)), rfl, rfl, .inl (SqL.of dL), withNl_ok FT W DS, ?_⟩
                refine ⟨rfl, _, rfl, ?_⟩
                refine iteNS rfl ?_
                exact ⟨_, _, _, _, _, _, rfl, bL⟩
      · obtain ⟨y2, y3, y4, y5, y6, y7, rfl, bx3⟩ := h3
        exact q H3
end
end K34
set_option Elab.async false
set_option linter.all false
set_option maxRecDepth 100000
set_option maxHeartbeats 4000000
namespace K34
open PySem PySem.Spec PyProof.Rows L2 Gx RZ
theorem tabIn_of {K : PySem.W.Frag} {x qual : Str} {f c P : Addr} {oc : Value} {od an : Option Addr} {osl : Array (Option Value)} {kV doc pm ct : Value} {st : Stmt} {e : Value} {dd : Option Addr} {vs : Array Value} {sl : Array (Option Value)}
    (a : PySem.W.nsIn K mainGlobals x = some (some (.ref f))) (l : K.lookup f = some ⟨oc, od, .func (PySem.W.fnOf x qual (defArgs st) (defBody st) (defScope st) .none kV doc pm an (.ref c) ct), osl⟩) (lc : K.lookup c = some ⟨e, dd, .fields vs, sl⟩) (v : vs[11]? = some (.ref P)) :
    PySem.W.tabIn K x = some (c, P) := by
  unfold PySem.W.tabIn
  rw [a]
  simp only [l, lc, v, PySem.W.fnOf]
theorem lawK {l : PySem.W.OpenLaw} {q : Program} {w : World} {K : PySem.W.Frag} {mg : Str → Option Value} {fa : Addr} {h : Heap} (KX : K.In h) (G : h.Ns mainGlobals mg) (hmg : mg "law" = some (.ref fa))
   (HT : ∀ (d' : DefRec) (y : Str) (c P : Addr), (recsOf q).find? (fun e => e.name == y) = some d' → PySem.W.tabIn K y = some (c, P) → PySem.W.CodeHd h c P ∧ h.get? P = some Gx.tab0)
    {odL anL : Option Addr} {slL : Array (Option Value)} {ocL kVL dcL pmL ctL : Value} {fL : Addr} {cdL : Value}
    (aL : PySem.W.nsIn K mainGlobals "law" = some (some (.ref fL))) (lL : K.lookup fL = some ⟨ocL, odL, .func (PySem.W.fnOf "law" "law" (defArgs sLaw) (defBody sLaw) (defScope sLaw) .none kVL dcL pmL anL cdL ctL), slL⟩) (hL : PySem.W.codeIn K cdL "law" = true) (kL : PySem.W.keepIn K (.ref fL) = true)
    {odDg anDg : Option Addr} {slDg : Array (Option Value)} {ocDg kVDg dcDg pmDg ctDg : Value} {fDg : Addr} {cdDg : Value}
    (aDg : PySem.W.nsIn K mainGlobals "_law_digits" = some (some (.ref fDg))) (lDg : K.lookup fDg = some ⟨ocDg, odDg, .func (PySem.W.fnOf "_law_digits" "_law_digits" (defArgs sDigits) (defBody sDigits) (defScope sDigits) .none kVDg dcDg pmDg anDg cdDg ctDg), slDg⟩) (hDg : PySem.W.codeIn K cdDg "_law_digits" = true) (kDg : PySem.W.keepIn K (.ref fDg) = true)
    {odC anC : Option Addr} {slC : Array (Option Value)} {ocC kVC dcC pmC ctC : Value} {fC : Addr} {cdC : Value}
    (aC : PySem.W.nsIn K mainGlobals "_law_cell" = some (some (.ref fC))) (lC : K.lookup fC = some ⟨ocC, odC, .func (PySem.W.fnOf "_law_cell" "_law_cell" (defArgs sCell) (defBody sCell) (defScope sCell) .none kVC dcC pmC anC cdC ctC), slC⟩) (hC : PySem.W.codeIn K cdC "_law_cell" = true) (kC : PySem.W.keepIn K (.ref fC) = true)
    {odD anD : Option Addr} {slD : Array (Option Value)} {ocD kVD dcD pmD ctD : Value} {fD : Addr} {cdD : Value}
    (aD : PySem.W.nsIn K mainGlobals "_law_draw" = some (some (.ref fD))) (lD : K.lookup fD = some ⟨ocD, odD, .func (PySem.W.fnOf "_law_draw" "_law_draw" (defArgs sDraw) (defBody sDraw) (defScope sDraw) .none kVD dcD pmD anD cdD ctD), slD⟩) (hD : PySem.W.codeIn K cdD "_law_draw" = true) (kD : PySem.W.keepIn K (.ref fD) = true)
    {odP anP : Option Addr} {slP : Array (Option Value)} {ocP kVP dcP pmP ctP : Value} {fP : Addr} {cdP : Value}
    (aP : PySem.W.nsIn K mainGlobals "_law_pick" = some (some (.ref fP))) (lP : K.lookup fP = some ⟨ocP, odP, .func (PySem.W.fnOf "_law_pick" "_law_pick" (defArgs sPick) (defBody sPick) (defScope sPick) .none kVP dcP pmP anP cdP ctP), slP⟩) (hP : PySem.W.codeIn K cdP "_law_pick" = true) (kP : PySem.W.keepIn K (.ref fP) = true)
    {odLn anLn : Option Addr} {slLn : Array (Option Value)} {ocLn kVLn dcLn pmLn ctLn : Value} {fLn : Addr} {cdLn : Value}
    (aLn : PySem.W.nsIn K mainGlobals "_law_lines" = some (some (.ref fLn))) (lLn : K.lookup fLn = some ⟨ocLn, odLn, .func (PySem.W.fnOf "_law_lines" "_law_lines" (defArgs sLines) (defBody sLines) (defScope sLines) .none kVLn dcLn pmLn anLn cdLn ctLn), slLn⟩) (hLn : PySem.W.codeIn K cdLn "_law_lines" = true) (kLn : PySem.W.keepIn K (.ref fLn) = true)
    {odPr anPr : Option Addr} {slPr : Array (Option Value)} {ocPr kVPr dcPr pmPr ctPr : Value} {fPr : Addr} {cdPr : Value}
    (aPr : PySem.W.nsIn K mainGlobals "profile" = some (some (.ref fPr))) (lPr : K.lookup fPr = some ⟨ocPr, odPr, .func (PySem.W.fnOf "profile" "profile" (defArgs sProfile) (defBody sProfile) (defScope sProfile) .none kVPr dcPr pmPr anPr cdPr ctPr), slPr⟩) (hPr : PySem.W.codeIn K cdPr "profile" = true) (kPr : PySem.W.keepIn K (.ref fPr) = true)
    {odLv anLv : Option Addr} {slLv : Array (Option Value)} {ocLv kVLv dcLv pmLv ctLv : Value} {fLv : Addr} {cdLv : Value}
    (aLv : PySem.W.nsIn K mainGlobals "level_line" = some (some (.ref fLv))) (lLv : K.lookup fLv = some ⟨ocLv, odLv, .func (PySem.W.fnOf "level_line" "level_line" (defArgs sLevel) (defBody sLevel) (defScope sLevel) .none kVLv dcLv pmLv anLv cdLv ctLv), slLv⟩) (hLv : PySem.W.codeIn K cdLv "level_line" = true) (kLv : PySem.W.keepIn K (.ref fLv) = true)
    (z_len : PySem.W.nsIn K mainGlobals "len" = some none)
    (z_int : PySem.W.nsIn K mainGlobals "int" = some none)
    (z_range : PySem.W.nsIn K mainGlobals "range" = some none)
    (z_tuple : PySem.W.nsIn K mainGlobals "tuple" = some none)
    (z_list : PySem.W.nsIn K mainGlobals "list" = some none)
    (z_max : PySem.W.nsIn K mainGlobals "max" = some none)
    (z_str : PySem.W.nsIn K mainGlobals "str" = some none)
    (z_zip : PySem.W.nsIn K mainGlobals "zip" = some none)
    (z_sorted : PySem.W.nsIn K mainGlobals "sorted" = some none)
    (z_set : PySem.W.nsIn K mainGlobals "set" = some none)
    : Gx.LawG l w K 3 63 "script" mg fa h := by
  have e := hmg.symm.trans (PySem.W.mg_of KX G aL)
  cases e
  have FL := fun_mk (st := sLaw) lL hL kL
  have FDg := fun_mk (st := sDigits) lDg hDg kDg
  have FC := fun_mk (st := sCell) lC hC kC
  have FD := fun_mk (st := sDraw) lD hD kD
  have FP := fun_mk (st := sPick) lP hP kP
  have FLn := fun_mk (st := sLines) lLn hLn kLn
  have FPr := fun_mk (st := sProfile) lPr hPr kPr
  have FLv := fun_mk (st := sLevel) lLv hLv kLv
  have bDg := FDg.binds (ps := ["script", "first", "last"]) fun _ _ _ _ _ _ us hl => match us, hl with | [_, _, _], _ => rfl
  have gDg := PySem.W.mg_of KX G aDg
  have bC := FC.binds (ps := ["script", "k"]) fun _ _ _ _ _ _ us hl => match us, hl with | [_, _], _ => rfl
  have gC := PySem.W.mg_of KX G aC
  have bD := FD.binds (ps := ["box", "many"]) fun _ _ _ _ _ _ us hl => match us, hl with | [_, _], _ => rfl
  have gD := PySem.W.mg_of KX G aD
  have bP := FP.binds (ps := ["box", "things"]) fun _ _ _ _ _ _ us hl => match us, hl with | [_, _], _ => rfl
  have gP := PySem.W.mg_of KX G aP
  have bLn := FLn.binds (ps := ["net", "heights"]) fun _ _ _ _ _ _ us hl => match us, hl with | [_, _], _ => rfl
  have gLn := PySem.W.mg_of KX G aLn
  have bPr := FPr.binds (ps := ["net", "heights"]) fun _ _ _ _ _ _ us hl => match us, hl with | [_, _], _ => rfl
  have gPr := PySem.W.mg_of KX G aPr
  have bLv := FLv.binds (ps := ["marks", "heights", "level", "width"]) fun _ _ _ _ _ _ us hl => match us, hl with | [_, _, _, _], _ => rfl
  have gLv := PySem.W.mg_of KX G aLv
  have m_len := PySem.W.mg_none_of KX G z_len
  have m_int := PySem.W.mg_none_of KX G z_int
  have m_range := PySem.W.mg_none_of KX G z_range
  have m_tuple := PySem.W.mg_none_of KX G z_tuple
  have m_list := PySem.W.mg_none_of KX G z_list
  have m_max := PySem.W.mg_none_of KX G z_max
  have m_str := PySem.W.mg_none_of KX G z_str
  have m_zip := PySem.W.mg_none_of KX G z_zip
  have m_sorted := PySem.W.mg_none_of KX G z_sorted
  have m_set := PySem.W.mg_none_of KX G z_set
  refine ⟨PySem.W.fnOf "law" "law" (defArgs sLaw) (defBody sLaw) (defScope sLaw) .none kVL dcL pmL anL cdL ctL, [], spLaw K, fun p hp => ?_, fun s v => .of_eq rfl, fun H a ns _ _ hH hS => ⟨a, ns, rfl, hS, fun _ => rfl⟩, fun base _ _ hB => ?_⟩
  · simp only [List.mem_cons, List.not_mem_nil, or_false] at hp
  · skip
    exact ok_law ⟨m_range, m_tuple⟩ FL ⟨ok_digits m_len m_range m_int FDg FC bC gC, kDg, bDg, gDg⟩ ⟨ok_draw m_len m_int FD, kD, bD, gD⟩ ⟨ok_pick m_len m_int FP FD bD gD, kP, bP, gP⟩ ⟨ok_profile m_zip m_str m_len m_sorted m_set m_max FPr FLv bLv gLv, kPr, bPr, gPr⟩ ⟨ok_lines m_str m_len m_list m_max m_range FLn, kLn, bLn, gLn⟩
end K34
open PySem PySem.W PyProof.Rows
set_option maxHeartbeats 0 in
theorem PySem.Challenge.cw_truelevels_k34_profile_is_drawn_holds : PySem.Challenge.rw_truelevels_k34_profile_is_drawn.Holds := by
  w_on; o_law; k_head; (case hw => w_witness2)
  k_fill
  refine Gx.walkG (l := PySem.Challenge.rw_truelevels_k34_profile_is_drawn) (n := 63) (k := 3) (x := "script") rfl (by decide) rfl ⟨rfl, by decide, by decide⟩ (fun w h Y => PySem.W.kIn_of Y) ?F
  case F =>
    intro w mg fa h KX G hmg HT
    refine' K34.lawK KX G hmg HT ?aL ?lL ?hL ?kL ?aDg ?lDg ?hDg ?kDg ?aC ?lC ?hC ?kC ?aD ?lD ?hD ?kD ?aP ?lP ?hP ?kP ?aLn ?lLn ?hLn ?kLn ?aPr ?lPr ?hPr ?kPr ?aLv ?lLv ?hLv ?kLv ?z_len ?z_int ?z_range ?z_tuple ?z_list ?z_max ?z_str ?z_zip ?z_sorted ?z_set
    (case aL => k_is)
    (case lL => k_is)
    (case hL => k_is)
    (case kL => k_is)
    (case aDg => k_is)
    (case lDg => k_is)
    (case hDg => k_is)
    (case kDg => k_is)
    (case aC => k_is)
    (case lC => k_is)
    (case hC => k_is)
    (case kC => k_is)
    (case aD => k_is)
    (case lD => k_is)
    (case hD => k_is)
    (case kD => k_is)
    (case aP => k_is)
    (case lP => k_is)
    (case hP => k_is)
    (case kP => k_is)
    (case aLn => k_is)
    (case lLn => k_is)
    (case hLn => k_is)
    (case kLn => k_is)
    (case aPr => k_is)
    (case lPr => k_is)
    (case hPr => k_is)
    (case kPr => k_is)
    (case aLv => k_is)
    (case lLv => k_is)
    (case hLv => k_is)
    (case kLv => k_is)
    (case z_len => k_is)
    (case z_int => k_is)
    (case z_range => k_is)
    (case z_tuple => k_is)
    (case z_list => k_is)
    (case z_max => k_is)
    (case z_str => k_is)
    (case z_zip => k_is)
    (case z_sorted => k_is)
    (case z_set => k_is)
