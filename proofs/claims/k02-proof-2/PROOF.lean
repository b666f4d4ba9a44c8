import PyProof.Rows.All
import Wide.All
import OpenK.AllK
import Wide.FinOn
import HandS.GenList
import HandS.Comp
import HandS.AnyAll
import PyProof.CodeObjX
import PyProof.TupleOfGen
import HandS.ForMost
import HandS.EndBits
import KE.GoesMore
import KE.GoesEnum
import HandS.Zip
import KE.GoesEnumKw
import HandS.SortKw
import HandS.IsInst
import HandS.SetFor
import HandS.Strs
import HandS.StrMore
import HandS.FStr
import HandS.Star
import HandS.Text
import HandS.TupAny
import HandS.Exc
import HandS.ExcInit
import HandS.ExcField
import HandS.ExcIs
import HandS.WordsExc
import KE.KExcIs
import KE.IntTextLaws
import HandS.Conv
import HandS.TryOnly
import HandS.More
import PySem.Challenge.RW_truelevels_k02_wrong_texts
set_option Elab.async false
set_option linter.all false
set_option maxRecDepth 100000
set_option maxHeartbeats 4000000
/-! Generator expressions over the hand layer: the frame's context, its turns, its making. -/
namespace Gx
open PySem PySem.Spec PyProof.Rows L2 GenW

theorem over_gx {A : Around} {elt tg iter : Expr} {ifs : List Expr} {scope : Scope} {pos : Pos} {it acc : Value} {cenv : Env} : A.over (.compLoop (.GeneratorExp elt [⟨tg, iter, ifs, 0⟩] scope pos) 0 it acc cenv) [] = A.deeper cenv := by
  obtain ⟨hd, d, fr, gs, u⟩ := A; simp [Around.over, Around.deeper, marksOver, frameCount, unitsOf, envsOf, guardsOf, pushEnvs, pushGuards, Code.envs, Code.env?, Code.isFrame, Code.guards, Code.isGuard, Code.weight, Code.frames, Code.isCreation, Code.isCaller, Code.cUnits]
theorem over_gxs {A : Around} {elt tg iter : Expr} {ifs : List Expr} {scope : Scope} {pos : Pos} {it acc : Value} {cenv : Env} : A.over (.compStart (.GeneratorExp elt [⟨tg, iter, ifs, 0⟩] scope pos) 0 it acc cenv) [] = A.deeper cenv := by
  obtain ⟨hd, d, fr, gs, u⟩ := A; simp [Around.over, Around.deeper, marksOver, frameCount, unitsOf, envsOf, guardsOf, pushEnvs, pushGuards, Code.envs, Code.env?, Code.isFrame, Code.guards, Code.isGuard, Code.weight, Code.frames, Code.isCreation, Code.isCaller, Code.cUnits]

/-- the context of the frame: s the state ahead of it, fp its iterator's objects, pn the generator's own object -/
abbrev cx (X : Cx) (A : Around) (s : Shared) (H : Hp) (cenv : Env) (fp : List Addr) (pn : List (Addr × Obj)) : Cx :=
  { X with A := A.deeper cenv, s_0 := s, H_0 := H, env := cenv, outer := X.stack, stack := cenv :: X.stack, ex := fp, fn := fun _ => false, pn := pn, xe := fun _ _ => False }

section
variable {X : Cx} {pins : List (Addr × Obj)} {σ : L2.St} {H : Hp} {s : Shared}
theorem gstart {scope : Scope} {own : List (Str × Nat)} {fp : List Addr} {A : Around} {code : Value} {h5 : Heap} {g5 : Array GenState} {d5 : Drawn} {t5 : Nat} {m : Str → Option Value}
    (I : Inv X pins σ H s) (ok : BlkOk X.N X.env.scope scope own) (hN : X.N.Nodup) (hcell : ∀ y ∈ scope.names, y.2 ≠ .cell) (hfp : ∀ b ∈ fp, FpOk X pins H b ∧ b < s.heap.objs.size)
    (hA : A.handled = none) (hfr : A.frames = some X.stack) (hn : h5.Ns s.heap.objs.size m) (hk : ∀ b o, s.heap.get? b = some o → h5.get? b = some o) (hb : AllBare g5) :
    Inv (cx X A s H (genEnv scope (cloFrom X.env.cells scope.names []) s.heap.objs.size code builtinsNs X.env) fp []) [] (wipe σ (own.map (·.2))) H { s with heap := h5, gens := g5, drawn := d5, toks := t5 } := by
  have hfree : ∀ y ∈ scope.names, y.2 = .free → ∃ c, X.env.cells.lookup y.1 = some c := fun y hy e => by
    rcases ok.free y hy e with k | k
    · exact I.ok.has _ (.inl k)
    · exact I.ok.has _ (.inr k)
  have cm : ∀ {y c}, (y, c) ∈ cloFrom X.env.cells scope.names [] → X.env.cells.lookup y = some c ∧ c < s.heap.objs.size := fun {y c} hm => by
    rcases cloFrom_mem hm with hm | ⟨h1, rfl⟩
    · cases hm
    · obtain ⟨c, hc⟩ := hfree _ h1 rfl
      rw [hc]
      obtain ⟨w, z⟩ := I.cell _ _ hc
      exact ⟨rfl, z.lt⟩
  have look : ∀ {y}, scope.names.lookup y = some .free → ∃ c, (cloFrom X.env.cells scope.names []).lookup y = some c ∧ X.env.cells.lookup y = some c := fun {y} hl => by
    have hy : (y, NameKind.free) ∈ scope.names := PySem.mem_of_lookup hl
    obtain ⟨c', e'⟩ := mem_lookup (cloFrom_has (cells := X.env.cells) (acc := []) hy)
    exact ⟨c', e', (cm (PySem.mem_of_lookup e')).1⟩
  generalize hcenv : genEnv scope (cloFrom X.env.cells scope.names []) s.heap.objs.size code builtinsNs X.env = cenv
  have hL : cenv.locals = s.heap.objs.size := by rw [← hcenv]; rfl
  have hcl : cenv.cells = cloFrom X.env.cells scope.names [] := by rw [← hcenv]; rfl
  have hsc : cenv.scope = scope := by rw [← hcenv]; rfl
  have mem : ∀ {y c}, cenv.cells.lookup y = some c → X.env.cells.lookup y = some c ∧ c < s.heap.objs.size := fun {y c} e => by
    rw [hcl] at e
    exact cm (PySem.mem_of_lookup e)
  have nocell : ∀ {y}, scope.names.lookup y ≠ some .cell := fun {y} e => hcell _ (PySem.mem_of_lookup e) rfl
  have okB : (cx X A s H cenv fp []).Ok := by
    refine ⟨I.ok.mod, by show cenv.scope.kind = _; rw [hsc]; exact ok.kind, by show cenv.globals = _; rw [← hcenv]; exact I.ok.glob, by show cenv.builtins = _; rw [← hcenv]; rfl, by show s.heap.objs.size ≤ cenv.locals; rw [hL]; exact Nat.le_refl _,
      fun y z c e1 e2 => I.ok.inj y z c (mem e1).1 (mem e2).1, fun y hy => ?_, fun y c z e => Bool.noConfusion z, fun _ => hA, Around.frames_deeper hfr, .inr ⟨rfl, by show cenv.frame = some cenv.locals; rw [← hcenv]; rfl⟩, fun b hb => ⟨?_, fun y c e z => ?_⟩, I.bs, Nat.le_trans I.ok.bsz I.sz, fun b o e hb => ?_, fun b hb z => ?_, I.stack, I.stkFree⟩
    · show ∃ c, cenv.cells.lookup y = some c
      have hy : cenv.scope.names.lookup y = some .cell ∨ cenv.scope.names.lookup y = some .free := hy
      rw [hsc] at hy
      rcases hy with hy | hy
      · exact absurd hy nocell
      · obtain ⟨c, h1, _⟩ := look hy
        exact ⟨c, by rw [hcl]; exact h1⟩
    · show b ≠ cenv.locals
      rw [hL]; exact Nat.ne_of_lt (hfp b hb).2
    · exact (hfp b hb).1.2.2.2.2.1 y c (mem e).1 z
    · rcases (hfp b hb).1.2.2.2.1 with z | z
      · exact I.ok.noex b o e z
      · exact absurd (Nat.lt_of_lt_of_le (Heap.lt_size e) (Nat.le_trans I.ok.bsz z)) (Nat.lt_irrefl _)
    · rcases List.mem_cons.mp (I.stkSub b z) with z | z
      · exact (hfp b hb).1.2.1 z
      · exact (hfp b hb).1.2.2.1 z
  refine ⟨okB, rfl, hb, Un.kept hk, ⟨m, ?_, fun i y av e1 e2 e3 => ?_⟩, fun y c e => ?_, ?_, fun y c e => ?_, fun p hp => ?_, I.hok.kept hk, by rw [wipe_length]; exact I.len⟩
  · show Heap.Ns _ cenv.locals _
    rw [hL]
    exact hn
  · obtain ⟨e2, hne⟩ := wipe_some e2
    have e3 : Vis cenv.scope y := e3
    rw [hsc] at e3
    have no : ¬ (scope.names.lookup y = some .local ∨ scope.names.lookup y = some .cell) := fun hh => by
      obtain ⟨k, hk', hkk⟩ : ∃ k, (y, k) ∈ scope.names ∧ (k = NameKind.local ∨ k = NameKind.cell) := by
        rcases hh with hh | hh
        · exact ⟨_, PySem.mem_of_lookup hh, .inl rfl⟩
        · exact ⟨_, PySem.mem_of_lookup hh, .inr rfl⟩
      rcases ok.own (y, k) hk' hkk with e' | e'
      · obtain ⟨p, hp, hpy⟩ := List.mem_map.mp e'
        have e3 := ok.ix p hp
        have : p.1 = y := hpy
        rw [this] at e3
        exact hne (List.mem_map.mpr ⟨p, hp, nodup_ix hN e3 e1⟩)
      · exact e' (List.mem_of_getElem? e1)
    have hfr : scope.names.lookup y = some .free := by
      rcases e3 with e3 | e3 | e3
      · exact absurd (.inl e3) no
      · exact absurd (.inr e3) no
      · exact e3
    obtain ⟨m', hn', hl⟩ := I.loc
    have hvis : Vis X.env.scope y := (ok.free _ (PySem.mem_of_lookup hfr) rfl).elim (fun k => .inr (.inl k)) (fun k => .inr (.inr k))
    obtain ⟨w, r, q⟩ := hl i y av e1 e2 hvis
    refine ⟨w, r, .inr ⟨.inr (by show cenv.scope.names.lookup y = _; rw [hsc]; exact hfr), ?_⟩⟩
    obtain ⟨c, h1, h2⟩ := look hfr
    rcases q with ⟨k, _⟩ | ⟨_, c', e', z⟩
    · have k : X.env.scope.names.lookup y = some .local := k
      rcases ok.free _ (PySem.mem_of_lookup hfr) rfl with k' | k' <;> rw [show X.env.scope.names.lookup y = _ from k'] at k <;> cases k
    · rw [h2] at e'; cases e'
      exact ⟨c, by show cenv.cells.lookup y = _; rw [hcl]; exact h1, z.keeps hk⟩
  · have e : cenv.cells.lookup y = some c := e
    obtain ⟨w, z⟩ := I.cell y c (mem e).1
    exact ⟨w, z.keeps hk⟩
  · show H cenv.locals = none
    rw [hL]; exact I.hok.fresh (Nat.le_refl _)
  · have e : cenv.cells.lookup y = some c := e
    exact I.freeC y c (mem e).1
  · exact absurd (show p ∈ ([] : List (Addr × Obj)) ++ [] from hp) (by simp)
end

/-! ### the consumer's memory, the protocol -/
/-- CO: the addresses at which the consumer keeps its own; Rl: what is out, and how it stands there -/
abbrev Rel := List V → Shared → Prop
structure Stable (CO : List Addr) (Rl : Rel) : Prop where
  keep : ∀ ys s s', (∀ b ∈ CO, s'.heap.get? b = s.heap.get? b) → Rl ys s → Rl ys s'
/-- while the generator sleeps -/
structure Slept (CO : List Addr) (Rl : Rel) (ys : List V) (s s' : Shared) : Prop where
  os : s'.os = s.os
  bare : AllBare s'.gens
  keep : ∀ b o, b ∉ CO → s.heap.get? b = some o → s'.heap.get? b = some o
  own : ∀ b ∈ CO, ∃ o, s'.heap.get? b = some o ∧ ∀ v, o.data ≠ .cell v
  rel : Rl ys s'
/-- running -/
def GI (X' : Cx) (CO : List Addr) (σ : L2.St) (H : Hp) (s : Shared) : Prop := ∃ pins, pins.map (·.1) = CO ∧ Inv X' pins σ H s
structure Young (X' : Cx) (CO : List Addr) : Prop where
  sz : ∀ b ∈ CO, X'.s_0.heap.objs.size ≤ b
  loc : ∀ b ∈ CO, b ≠ X'.env.locals
  cell : ∀ b ∈ CO, ∀ x c, X'.env.cells.lookup x = some c → c ≠ b
  pn : ∀ b ∈ CO, ∀ p ∈ X'.pn, p.1 ≠ b
  ex : ∀ b ∈ CO, b ∉ X'.ex
theorem GI.free {X' : Cx} {CO : List Addr} {σ : L2.St} {H : Hp} {s : Shared} (h : GI X' CO σ H s) : ∀ b ∈ CO, H b = none ∧ ∃ o, s.heap.get? b = some o ∧ (∀ v, o.data ≠ .cell v) ∧ b ∉ X'.fs := fun b hb => by
  obtain ⟨pins, e, I⟩ := h
  rw [← e] at hb
  obtain ⟨p, hp, rfl⟩ := List.mem_map.mp hb
  obtain ⟨h1, h2, h3, h4, h5⟩ := I.pin p (List.mem_append_right _ hp)
  exact ⟨h2, p.2, h1, h5, h4⟩
/-- the pins at CO, as they stand -/
theorem pins_at {CO : List Addr} {s : Shared} (h : ∀ b ∈ CO, ∃ o, s.heap.get? b = some o ∧ ∀ v : Option Value, o.data ≠ .cell v) : ∃ pins : List (Addr × Obj), pins.map (·.1) = CO ∧ ∀ p ∈ pins, s.heap.get? p.1 = some p.2 ∧ ∀ v : Option Value, p.2.data ≠ .cell v := by
  induction CO with
  | nil => exact ⟨[], rfl, fun p hp => by cases hp⟩
  | cons b r ih =>
    obtain ⟨pins, e, hp⟩ := ih fun c hc => h c (List.mem_cons_of_mem _ hc)
    obtain ⟨o, h1, h2⟩ := h b List.mem_cons_self
    refine ⟨(b, o) :: pins, by rw [List.map_cons, e], fun p hp' => ?_⟩
    rcases List.mem_cons.mp hp' with rfl | hp'
    · exact ⟨h1, h2⟩
    · exact hp p hp'
theorem GI.make {X' : Cx} {CO : List Addr} {σ : L2.St} {H : Hp} {s : Shared} (I : Inv X' [] σ H s) (y : Young X' CO) (hf : ∀ b ∈ CO, H b = none ∧ b ∉ X'.fs) (h : ∀ b ∈ CO, ∃ o, s.heap.get? b = some o ∧ ∀ v : Option Value, o.data ≠ .cell v) : GI X' CO σ H s := by
  obtain ⟨pins, e, hp⟩ := pins_at h
  refine ⟨pins, e, I.pins_of fun p hp' => ?_⟩
  have hm : p.1 ∈ CO := by rw [← e]; exact List.mem_map.mpr ⟨p, hp', rfl⟩
  exact ⟨(hp p hp').1, (hf _ hm).1, y.loc _ hm, (hf _ hm).2, (hp p hp').2⟩
theorem GI.woken {X' : Cx} {CO : List Addr} {Rl : Rel} {ys : List V} {σ : L2.St} {H : Hp} {s s' : Shared} (y : Young X' CO) (h : GI X' CO σ H s) (z : Slept CO Rl ys s s') : GI X' CO σ H s' := by
  have hf := h.free
  obtain ⟨pins, e, I⟩ := h
  have I0 : Inv X' [] σ H s := I.pins_of fun p hp => by cases hp
  have nt : ∀ b u, H b = some u → b ∉ CO := fun b u q hb => by rw [(hf b hb).1] at q; cases q
  obtain ⟨z1, z2, z3, z4, _⟩ := z
  obtain ⟨hh, g, d, t, o⟩ := s'
  have ho : o = s.os := z1
  subst ho
  have J : Inv X' [] σ H { s with heap := hh, gens := g, drawn := d, toks := t } := by
    refine I0.step (g' := g) (t' := t) (d' := d) (ch := CO) (fun b hb => ⟨.inr (y.sz b hb), y.loc b hb, y.cell b hb, fun p hp => ?_⟩)
      (fun b ob _ _ hc q _ => z3 b ob hc q) (fun b ob _ _ hc q _ => ⟨ob.slots, z3 b ob hc q⟩) (fun _ _ _ _ n => n) (fun b ob hc q => ⟨ob, z3 b ob hc q⟩)
      (fun _ _ q => q) (fun _ _ _ q => q) (fun b ps q => ⟨#[], by rw [q]; simp⟩) (fun m hm => ?_) (fun b u q => ?_) z2
    · rcases List.mem_append.mp hp with hp | hp
      · exact y.pn b hb p hp
      · cases hp
    · obtain ⟨ob, es, ep, ho, r⟩ := hm
      exact ⟨ob, es, ep, z3 _ ob (fun hc => y.loc _ hc rfl) ho, r⟩
    · refine (I0.hok b u q).stay (fun c v hc y' => z3 c v ?_ y') (fun _ y => y) fun _ _ y => y
      rcases hc with y' | y'
      · rw [y']; exact nt b u q
      · exact nt c _ y'
  exact GI.make J y (fun b hb => ⟨(hf b hb).1, let ⟨_, _, _, h⟩ := hf b hb; h.2⟩) z4

/-- the state behind what ran so far, by the caller's data -/
structure Aw (X : Cx) (sc : Shared) (fp : List Addr) (H1 : Hp) (a : Addr) (g : Nat) (CO : List Addr) (H' : Hp) (s : Shared) : Prop where
  os : s.os = sc.os
  bare : AllBare s.gens
  un : Un (frs X.stack) fp H1 H' sc.heap s.heap
  hok : HOk X.prog X.w H' s.heap
  lim : s.heap.NoLimit
  gen : s.heap.IsGen a g
  free : ∀ b ∈ CO, H' b = none
  own : ∀ b ∈ CO, ∃ o, s.heap.get? b = some o ∧ ∀ v, o.data ≠ .cell v
/-- what a consumer asks: of an item that is out, behind which it goes on if go; at the end -/
structure GK where
  mid : List V → V → Hp → Prop
  go : V → Prop
  done : List V → Hp → Prop
def GFin (X : Cx) (sc : Shared) (fp : List Addr) (H1 : Hp) (a : Addr) (g : Nat) (CO : List Addr) (Rl : Rel) (N : Nat) (K : GK) (n : Nat) (s₀ s1 : Shared) : Prop :=
  (∀ b ∈ CO, s1.heap.get? b = s₀.heap.get? b) ∧ ∃ ys H', n + ys.length = N ∧ Aw X sc fp H1 a g CO H' s1 ∧ Rl ys s1 ∧ K.done ys H'
def GEnd (X : Cx) (sc : Shared) (fp : List Addr) (H1 : Hp) (a : Addr) (g : Nat) (CO : List Addr) (Rl : Rel) (N : Nat) (K : GK) : GenEnd := fun n s₀ r s1 =>
  ((r = .ok (.ret .none) ∨ r = .ok .next) ∧ GFin X sc fp H1 a g CO Rl N K n s₀ s1) ∨ ∃ e, r = .error e ∧ False
def GItem (X : Cx) (sc : Shared) (fp : List Addr) (H1 : Hp) (a : Addr) (g : Nat) (CO : List Addr) (Rl : Rel) (N : Nat) (K : GK) : Protocol := fun n s₀ v s1 kap =>
  (∀ b ∈ CO, s1.heap.get? b = s₀.heap.get? b) ∧ ∃ ys x H', n + 1 + ys.length = N ∧ RelV x v ∧ Aw X sc fp H1 a g CO H' s1 ∧ Rl ys s1 ∧ K.mid ys x H' ∧ (K.go x → ∀ s', Slept CO Rl (ys ++ [x]) s1 s' → kap (.send .none) s')
end Gx
set_option Elab.async false
set_option linter.all false
set_option maxRecDepth 100000
set_option maxHeartbeats 4000000
namespace Gx
open PySem PySem.Spec PyProof.Rows L2 GenW

/-- a turn's reading -/
def Turns (J : It) (g : TG) (tt : TT) (te : TE) (vs : List Nat) (σ : L2.St) (K : GK) (W : Nat → Nat → List V → Hp → Prop) : Prop :=
  ∀ i m ys H, W i m ys H → (J.stop i H ∧ K.done ys H) ∨ (J.go i H ∧ 0 < m ∧ ∃ Nx : List V → Hp → Prop, (∀ ys' H', Nx ys' H' → ∃ m', m' < m ∧ W (i + 1) m' ys' H') ∧
    ∀ x H', J.yld i H x H' → g x (wipe σ vs) H' fun σ2 H2 => wipe σ2 vs = wipe σ vs ∧ tt σ2 H2 fun b H3 =>
      if b = true then te σ2 H3 fun y H4 => K.mid ys y H4 ∧ (K.go y → Nx (ys ++ [y]) H4) else Nx ys H3)

section
variable {X' : Cx} {A : Around} {elt tg iter : Expr} {ifs : List Expr} {scope : Scope} {pos : Pos} {it : Addr} {fp : List Addr} {tn : Nat → Heap → Prop} {J : It} {g : TG} {tt : TT} {te : TE} {vs : List Nat} {σ : L2.St} {CO : List Addr} {Rl : Rel} {N : Nat} {K : GK}
  {W : Nat → Nat → List V → Hp → Prop} {R : GenEnd} {Y : Protocol}

theorem loop (hA : X'.A = A.deeper X'.env) (hxe : X'.xe = fun _ _ => False) (hc : X'.calm = true) (hex : X'.ex = fp) (hco : X'.env.scope.isCoroutine = false) (y : Young X' CO) (hpn : ∀ b ∈ fp, ∀ p ∈ X'.pn, p.1 ≠ b)
    (T : Turn X'.prog X'.w X'.K tg J fp it tn) (pg : PG X' tg g) (pt : PTs X' ifs tt) (pe : PE X' elt te) (hst : Stable CO Rl) (turn : Turns J g tt te vs σ K W)
    (hR : ∀ n s₀ s ys H, (∀ b ∈ CO, s.heap.get? b = s₀.heap.get? b) → n + ys.length = N → GI X' CO (wipe σ vs) H s → Rl ys s → K.done ys H → R n s₀ (.ok .next) s)
    (hY : ∀ n s₀ v s kap ys x σ' H, (∀ b ∈ CO, s.heap.get? b = s₀.heap.get? b) → n + 1 + ys.length = N → RelV x v → GI X' CO σ' H s → Rl ys s → K.mid ys x H → (K.go x → ∀ s', Slept CO Rl (ys ++ [x]) s s' → kap (.send .none) s') → Y n s₀ v s kap) :
    ∀ (m n i : Nat) (ys : List V) (s₀ s : Shared) (H : Hp), (∀ b ∈ CO, s.heap.get? b = s₀.heap.get? b) → n + ys.length = N → m ≤ n → GI X' CO (wipe σ vs) H s → Rl ys s → tn i s.heap → (∀ b ∈ fp, H b = none) → W i m ys H →
      Seg (model X'.prog X'.w) A R Y n s₀ (.compLoop (.GeneratorExp elt [⟨tg, iter, ifs, 0⟩] scope pos) 0 (.ref it) .none X'.env) ((model X'.prog X'.w).den (.compLoop (.GeneratorExp elt [⟨tg, iter, ifs, 0⟩] scope pos) 0 (.ref it) .none X'.env)) [] s := by
  have hov : A.over (.compLoop (.GeneratorExp elt [⟨tg, iter, ifs, 0⟩] scope pos) 0 (.ref it) .none X'.env) [] = X'.A := over_gx.trans hA.symm
  have nox : ∀ {e : Value} {s : Shared}, X'.xe e s → False := fun {e s} h => by rw [hxe] at h; exact h
  intro m
  induction m using Nat.strongRecOn with
  | ind m ih =>
    intro n i ys s₀ s H h00 hn hmn hI hRl htn hfp w
    obtain ⟨pins, ep, I⟩ := hI
    have pinCO : ∀ b ∈ CO, ∃ o, (b, o) ∈ pins := fun b hb => by
      rw [← ep] at hb
      obtain ⟨p, hp, rfl⟩ := List.mem_map.mp hb
      exact ⟨p.2, hp⟩
    have fpok : ∀ {σ' : L2.St} {H' : Hp} {s' : Shared}, Inv X' pins σ' H' s' → (∀ b ∈ fp, H' b = none) → ∀ b ∈ fp, FpOk X' pins H' b := fun {σ' H' s'} I' hn b hb => by
      have hb' : b ∈ X'.ex := by rw [hex]; exact hb
      refine ⟨hn b hb, (I'.ok.exf b hb').1, I'.ok.exfs b hb', .inl hb', fun x c e => (I'.ok.exf b hb').2 x c e, fun p hp => ?_⟩
      rcases List.mem_append.mp hp with hp | hp
      · exact hpn b hb p hp
      · have hm : p.1 ∈ CO := by rw [← ep]; exact List.mem_map.mpr ⟨p, hp, rfl⟩
        exact fun z => y.ex _ hm (by rw [hex, z]; exact hb)
    have keepCO : ∀ {σ' : L2.St} {H' : Hp} {s' : Shared} {more : List (Addr × Obj)}, Inv X' (pins ++ more) σ' H' s' → ∀ b ∈ CO, s'.heap.get? b = s.heap.get? b := fun {σ' H' s' more} I' b hb => by
      obtain ⟨o, ho⟩ := pinCO b hb
      exact (I'.pin (b, o) (List.mem_append_right _ (List.mem_append_left _ ho))).1.trans (I.pin (b, o) (List.mem_append_right _ ho)).1.symm
    have back : ∀ {σ' : L2.St} {H' : Hp} {s' : Shared} {more : List (Addr × Obj)}, Inv X' (pins ++ more) σ' H' s' → GI X' CO σ' H' s' := fun {σ' H' s' more} I' => ⟨pins, ep, I'.unpinned⟩
    show Seg _ A _ _ _ s₀ _ ((compTurn (.GeneratorExp elt [⟨tg, iter, ifs, 0⟩] scope pos) 0 (.ref it) .none X'.env).onRaise (leaving X'.env)) [] s
    rw [compTurn_gen, Sem.onRaise_eq_wrap]
    refine seg_bind_wrap (wpAny_standAt ?_)
    rcases turn i m ys H w with ⟨stop, dn⟩ | ⟨go, hm0, Nx, hNx, step⟩
    · refine seg_bind_wrap ?_
      rw [hov]
      refine wpAny_mono (T.done X' rfl rfl rfl hc i pins s _ H _ I (fpok I hfp) htn stop) (fun r s1 ⟨hr, I1⟩ => ?_) fun _ _ h => h
      subst hr
      exact seg_end (.ok .next) (hR n s₀ s1 ys H (fun b hb => (keepCO (more := []) (by rw [List.append_nil]; exact I1) b hb).trans (h00 b hb)) hn ⟨pins, ep, I1⟩ (hst.keep ys s s1 (fun b hb => keepCO (more := []) (by rw [List.append_nil]; exact I1) b hb) hRl) dn)
    · refine seg_bind_wrap ?_
      rw [hov]
      refine wpAny_mono (T.item X' rfl rfl rfl hc i pins s _ H _ I (fpok I hfp) htn go) (fun r s1 ⟨u, hr, h1⟩ => ?_) fun _ _ h => h
      subst hr
      dsimp only
      refine seg_bind_wrap ?_
      rw [hov]
      refine wpAny_mono h1 (fun _ s2 ⟨x, H2, I2, r2, y2, tn2, fp2⟩ => ?_) fun _ _ h => h
      have I2' := I2.pinned (fpok I2 fp2) (T.obj _ _ tn2)
      refine seg_bind_wrap ?_
      rw [hov]
      refine wpAny_mono (pg.run _ s2 _ H2 x u _ I2' r2 (step x H2 y2)) (fun _ s3 ⟨σ3, H3, I3, hw3, q3⟩ => ?_) fun _ _ h => (nox h).elim
      refine seg_bind_wrap ?_
      rw [hov]
      refine wpAny_mono (pt.run _ s3 σ3 H3 _ I3 q3) (fun b s4 ⟨H4, I4, q4⟩ => ?_) fun _ _ h => (nox h).elim
      have hl : (wipe σ vs).length = σ3.length := by rw [← hw3, wipe_length]
      have weak : ∀ {H' : Hp} {s' : Shared}, GI X' CO σ3 H' s' → GI X' CO (wipe σ vs) H' s' := fun {H' s'} hG => by
        obtain ⟨pins', e', I'⟩ := hG
        refine ⟨pins', e', I'.weak hl fun j v e => ?_⟩
        rw [← hw3] at e
        exact (wipe_some e).1
      have pin' : ∀ {H' : Hp} {s' : Shared}, Inv X' (pins ++ pinsAt fp s2.heap) σ3 H' s' → ∀ b ∈ fp, ∀ o, s2.heap.get? b = some o → s'.heap.get? b = some o ∧ H' b = none := fun {H' s'} I' b hb o e =>
        let z := I'.pin (b, o) (List.mem_append_right _ (List.mem_append_right _ (mem_pinsAt hb e)))
        ⟨z.1, z.2.1⟩
      have tnk : ∀ {H' : Hp} {s' : Shared}, Inv X' (pins ++ pinsAt fp s2.heap) σ3 H' s' → tn (i + 1) s'.heap := fun {H' s'} I' => T.keep _ _ _ tn2 fun b hb o e => (pin' I' b hb o e).1
      have fpn : ∀ {H' : Hp} {s' : Shared}, Inv X' (pins ++ pinsAt fp s2.heap) σ3 H' s' → ∀ b ∈ fp, H' b = none := fun {H' s'} I' b hb => by
        obtain ⟨o, e, _⟩ := T.obj _ _ tn2 b hb
        exact (pin' I' b hb o e).2
      cases b with
      | false =>
        simp only [Bool.false_eq_true, if_false] at q4 ⊢
        obtain ⟨m', hm', w'⟩ := hNx ys H4 q4
        exact seg_again rfl (ih m' hm' n (i + 1) ys s₀ s4 H4 (fun b hb => (keepCO I4 b hb).trans (h00 b hb)) hn (by omega) (weak (back I4)) (hst.keep ys s s4 (keepCO I4) hRl) (tnk I4) (fpn I4) w')
      | true =>
        simp only [if_true] at q4 ⊢
        have hyo : ∀ v, yieldOut X'.env v = yieldValue v := fun v => by simp only [yieldOut, hco, Bool.false_eq_true, if_false]
        simp only [hyo]
        rw [Sem.bind_eq_wrap', Sem.bind_eq_wrap', Sem.wrap_wrap, Sem.wrap_wrap]
        refine seg_wrap ?_
        rw [hov]
        refine wpAny_mono (pe.run _ s4 σ3 H4 _ I4 q4) (fun v s5 ⟨yv, H5, I5, r5, md, hgo⟩ => ?_) fun _ _ h => (nox h).elim
        have Rl5 : Rl ys s5 := hst.keep ys s s5 (keepCO I5) hRl
        obtain ⟨n', rfl⟩ : ∃ k, n = k + 1 := ⟨n - 1, by omega⟩
        refine seg_at (seg_yield rfl rfl rfl (hY n' s₀ v s5 _ ys yv σ3 H5 (fun b hb => (keepCO I5 b hb).trans (h00 b hb)) hn r5 (back I5) Rl5 md fun hg s' z => ?_))
        obtain ⟨m', hm', w'⟩ := hNx (ys ++ [yv]) H5 (hgo hg)
        have G' := (back I5).woken y z
        have kb : ∀ b ∈ fp, ∀ o, s5.heap.get? b = some o → s'.heap.get? b = some o := fun b hb o e => z.keep b o (fun hC => y.ex b hC (by rw [hex]; exact hb)) e
        exact seg_again rfl (ih m' hm' n' (i + 1) (ys ++ [yv]) s' s' H5 (fun _ _ => rfl) (by rw [List.length_append, List.length_singleton]; omega) (by omega) (weak G') z.rel (T.keep _ _ _ (tnk I5) kb) (fpn I5) w')
end
end Gx
set_option Elab.async false
set_option linter.all false
set_option maxRecDepth 100000
set_option maxHeartbeats 4000000
namespace Gx
open PySem PySem.Spec PyProof.Rows L2 GenW

/-- what the expression gives: a generator that has not begun -/
def Made (X : Cx) (k : Nat) (H1 : Hp) (sc : Shared) (fp : List Addr) (K : GK) (u : Value) (s' : Shared) : Prop :=
  ∃ (a : Addr) (g : Nat) (c : Code) (N : Nat), u = .ref a ∧ sc.heap.objs.size ≤ a ∧ a < s'.heap.objs.size ∧ s'.heap.IsGen a g ∧ s'.gens[g]? = some (.fresh c) ∧ s'.os = sc.os ∧ AllBare s'.gens ∧ s'.heap.NoLimit ∧ (∀ b o, sc.heap.get? b = some o → s'.heap.get? b = some o) ∧
    ∀ (A : Around) (CO : List Addr) (Rl : Rel) (s2 : Shared), Room k A → A.frames = some X.stack → (∀ b ∈ CO, s'.heap.objs.size ≤ b) → Stable CO Rl → (∀ b o, s'.heap.get? b = some o → s2.heap.get? b = some o) → (∀ b ∈ CO, ∃ o, s2.heap.get? b = some o ∧ ∀ v, o.data ≠ .cell v) →
      s2.os = s'.os → AllBare s2.gens → Rl [] s2 → Seg (model X.prog X.w) A (GEnd X sc fp H1 a g CO Rl N K) (GItem X sc fp H1 a g CO Rl N K) N s2 c ((model X.prog X.w).den c) [] s2

abbrev TGS := L2.St → Hp → GK → Prop
structure PSrc (X : Cx) (k : Nat) (e : Expr) (tg : TGS) : Prop where
  run : ∀ (pins : List (Addr × Obj)) (s : Shared) (σ : L2.St) (H : Hp) (K : GK), Inv X pins σ H s → tg σ H K → wpAny (model X.prog X.w) X.A (eval e X.env)
    (fun u s' => ∃ H1 sc fp, Inv X pins σ H1 sc ∧ ExOk X pins fp ∧ Made X k H1 sc fp K u s') X.xe s

/-- the reading: the walked thing, the table grown, the turns -/
def tGx (P : Addr) (wi : TI) (g : TG) (tt : TT) (te : TE) (vs : List Nat) : TGS := fun σ H K => wi σ H fun J H1 => GxR.TabG H1 P ∧ ∀ H2, GxR.Tabbed P H1 H2 →
  ∃ W : Nat → Nat → List V → Hp → Prop, (∃ m, W 0 m [] H2) ∧ Turns J g tt te vs σ K W

section
variable {X : Cx} {k : Nat} {c P : Addr} {elt tg iter : Expr} {ifs : List Expr} {scope : Scope} {own : List (Str × Nat)} {pos : Pos} {wi : TI} {g : TG} {tt : TT} {te : TE}

theorem start_code {M : Model} {A : Around} {R : GenEnd} {Y : Protocol} {n : Nat} {s₀ s : Shared} {it : Addr} {cenv : Env}
    (hself : wpAny M (A.deeper cenv) (pyIter (.ref it)) (fun it' s' => it' = .ref it ∧ s' = s) (fun _ _ => False) s)
    (hden : M.den (.compStart (.GeneratorExp elt [⟨tg, iter, ifs, 0⟩] scope pos) 0 (.ref it) .none cenv) = (compStart (.GeneratorExp elt [⟨tg, iter, ifs, 0⟩] scope pos) 0 (.ref it) .none cenv).onRaise (leaving cenv))
    (lp : Seg M A R Y n s₀ (.compLoop (.GeneratorExp elt [⟨tg, iter, ifs, 0⟩] scope pos) 0 (.ref it) .none cenv) (M.den (.compLoop (.GeneratorExp elt [⟨tg, iter, ifs, 0⟩] scope pos) 0 (.ref it) .none cenv)) [] s) :
    Seg M A R Y n s₀ (.compStart (.GeneratorExp elt [⟨tg, iter, ifs, 0⟩] scope pos) 0 (.ref it) .none cenv) (M.den (.compStart (.GeneratorExp elt [⟨tg, iter, ifs, 0⟩] scope pos) 0 (.ref it) .none cenv)) [] s := by
  have sf : ∀ (Q : Value → Shared → Prop) (E : Value → Shared → Prop), Q (.ref it) s → wpAny M (A.over (.compStart (.GeneratorExp elt [⟨tg, iter, ifs, 0⟩] scope pos) 0 (.ref it) .none cenv) []) (pyIter (.ref it)) Q E s := fun Q E hQ => by
    rw [over_gxs]
    exact wpAny_mono hself (fun u s' ⟨e1, e2⟩ => by subst e1 e2; exact hQ) fun _ _ h => h.elim
  rw [hden]
  unfold compStart
  rw [Sem.onRaise_eq_wrap]
  show Seg _ A _ _ _ s₀ _ ((ask >>= _).wrap _ _ _ _) [] s
  refine seg_bind_wrap (wpAny_askSetting ?_)
  split
  · exact seg_again rfl lp
  · first
      | exact seg_bind_wrap (wpAny_rule (seg_bind_wrap (wpAny_standAt (seg_bind_wrap (sf _ _ (seg_again rfl lp))))))
      | (refine seg_bind_wrap (wpAny_rule ?_); show Seg _ A _ _ _ s₀ _ ((standAt iter.pos >>= _).wrap _ _ _ _) [] s; exact seg_bind_wrap (wpAny_standAt (seg_bind_wrap (sf _ _ (seg_again rfl lp)))))
end
end Gx
set_option Elab.async false
set_option linter.all false
set_option maxRecDepth 100000
set_option maxHeartbeats 4000000
namespace Gx
open PySem PySem.Spec PyProof.Rows L2 GenW

theorem pinned {X : Cx} {A : Around} {sc s : Shared} {H H' : Hp} {cenv : Env} {fp : List Addr} {pn : List (Addr × Obj)} {σ : L2.St} (I : Inv (cx X A sc H cenv fp []) [] σ H' s)
    (h : ∀ p ∈ pn, s.heap.get? p.1 = some p.2 ∧ H' p.1 = none ∧ p.1 ≠ cenv.locals ∧ p.1 ∉ frs X.stack ∧ ∀ v, p.2.data ≠ .cell v) : Inv (cx X A sc H cenv fp pn) [] σ H' s :=
  ⟨⟨I.ok.mod, I.ok.kind, I.ok.glob, I.ok.blt, I.ok.above, I.ok.inj, I.ok.has, I.ok.cab, I.ok.hd, I.ok.frames, I.ok.stk, I.ok.exf, I.ok.bs, I.ok.bsz, I.ok.noex, I.ok.exfs, I.ok.funs, I.ok.frf⟩, I.os, I.bare, I.base, I.loc, I.cell, I.free, I.freeC,
    fun p hp => h p (by simpa using hp), I.hok, I.len⟩

section
variable {X : Cx} {k : Nat} {c P : Addr} {elt tg iter : Expr} {ifs : List Expr} {scope : Scope} {own : List (Str × Nat)} {pos : Pos} {wi : TI} {g : TG} {tt : TT} {te : TE}

theorem made {pins : List (Addr × Obj)} {σ : L2.St} {H2 : Hp} {sc : Shared} {fp : List Addr} {tn : Nat → Heap → Prop} {J : It} {K : GK} {W : Nat → Nat → List V → Hp → Prop} {it : Addr} {code : Value} {h' : Heap} {m0 : Nat} {mm : Str → Option Value} {tk : Nat} {nm qn : Value}
    (hc : X.calm = true) (hN : X.N.Nodup) (ok : BlkOk X.N X.env.scope scope own) (hcell : ∀ y ∈ scope.names, y.2 ≠ .cell) (hco : scope.isCoroutine = false)
    (hg : ∀ (A : Around) (s : Shared) (H : Hp) (C : Addr) (cl : List (Str × Addr)) (cd : Value) (fp : List Addr) (pn : List (Addr × Obj)), PG (cx X A s H (genEnv scope cl C cd builtinsNs X.env) fp pn) tg g)
    (ht : ∀ (A : Around) (s : Shared) (H : Hp) (C : Addr) (cl : List (Str × Addr)) (cd : Value) (fp : List Addr) (pn : List (Addr × Obj)), Room k (A.deeper (genEnv scope cl C cd builtinsNs X.env)) → PTs (cx X A s H (genEnv scope cl C cd builtinsNs X.env) fp pn) ifs tt)
    (he : ∀ (A : Around) (s : Shared) (H : Hp) (C : Addr) (cl : List (Str × Addr)) (cd : Value) (fp : List Addr) (pn : List (Addr × Obj)), Room k (A.deeper (genEnv scope cl C cd builtinsNs X.env)) → PE (cx X A s H (genEnv scope cl C cd builtinsNs X.env) fp pn) elt te)
    (I : Inv X pins σ H2 sc) (T : Turn X.prog X.w X.K tg J fp it tn) (htn : tn 0 sc.heap) (hfp : ∀ b ∈ fp, FpOk X pins H2 b) (w0 : W 0 m0 [] H2) (turn : Turns J g tt te (own.map (·.2)) σ K W)
    (hn : h'.Ns sc.heap.objs.size mm) (hs : Heap.SameBut sc.heap.objs.size (sc.heap.push { cls := .type "frame", data := .dict #[] }) h') :
    Made X (k + 1) H2 sc fp K (.ref h'.objs.size) { sc with gens := sc.gens.push (.fresh (.compStart (.GeneratorExp elt [⟨tg, iter, ifs, 0⟩] scope pos) 0 (.ref it) .none (genEnv scope (cloFrom X.env.cells scope.names []) sc.heap.objs.size code builtinsNs X.env))), toks := tk, heap := h'.push { cls := .type "generator", data := .fields #[.int sc.gens.size 0, nm, qn] } } := by
  generalize hcl : cloFrom X.env.cells scope.names [] = cl
  have sz' : h'.objs.size = sc.heap.objs.size + 1 := by rw [hs.1, Heap.size_push]
  have keep' : ∀ b o, sc.heap.get? b = some o → h'.get? b = some o := fun b o e => hs.extBut b o (Nat.ne_of_lt (Heap.lt_size e)) (Heap.get?_push_of_some _ e)
  generalize hgo : ({ cls := .type "generator", data := .fields #[.int sc.gens.size 0, nm, qn] } : Obj) = go
  have hpush : (h'.push go).get? h'.objs.size = some go := Heap.get?_push_size _ (by rw [← hgo]; rfl)
  have keep5 : ∀ b o, sc.heap.get? b = some o → (h'.push go).get? b = some o := fun b o e => Heap.get?_push_of_some _ (keep' b o e)
  have hgen : ∀ h : Heap, h.get? h'.objs.size = some go → h.IsGen h'.objs.size sc.gens.size := fun h e => ⟨go, nm, qn, e, by rw [← hgo], by rw [← hgo], by rw [← hgo]⟩
  have sz5 : (h'.push go).objs.size = sc.heap.objs.size + 2 := by rw [Heap.size_push, sz']
  have lim5 : (h'.push go).NoLimit := I.nolimit.keeps keep5
  have hgd : ∀ v, go.data ≠ .cell v := fun v q => by rw [← hgo] at q; cases q
  have fplt : ∀ b ∈ fp, b < sc.heap.objs.size := fun b hb => by
    obtain ⟨o, e, _⟩ := T.obj _ _ htn b hb
    exact Heap.lt_size e
  refine ⟨h'.objs.size, sc.gens.size, _, m0, rfl, by omega, by show _ < (h'.push go).objs.size; omega, hgen _ hpush, Array.getElem?_push_size .., rfl, AllBare.push I.bare rfl, lim5, keep5, ?_⟩
  intro A CO Rl s2 hr hfr hCO hst hk2 hown hos hba hRl
  have hCO : ∀ b ∈ CO, sc.heap.objs.size + 2 ≤ b := fun b hb => by
    have q : (h'.push go).objs.size ≤ b := hCO b hb
    rw [sz5] at q; exact q
  have I1 := gstart (A := A) (code := code) (g5 := sc.gens.push (.fresh (.compStart (.GeneratorExp elt [⟨tg, iter, ifs, 0⟩] scope pos) 0 (.ref it) .none (genEnv scope cl sc.heap.objs.size code builtinsNs X.env)))) (d5 := sc.drawn) (t5 := tk) I ok hN hcell (fun b hb => ⟨hfp b hb, fplt b hb⟩) hr.hd hfr (hn.push go) keep5 (AllBare.push I.bare rfl)
  rw [hcl] at I1
  have I2 : Inv (cx X A sc H2 (genEnv scope cl sc.heap.objs.size code builtinsNs X.env) fp []) [] (wipe σ (own.map (·.2))) H2 s2 :=
    I1.call' (ch := []) hos (Un.kept hk2) (I1.hok.kept hk2) hba fun b z => by cases z
  have young : ∀ b, sc.heap.objs.size + 1 ≤ b → H2 b = none ∧ b ≠ sc.heap.objs.size ∧ b ∉ frs X.stack := fun b hb => by
    refine ⟨I.hok.fresh (Nat.le_of_succ_le hb), Nat.ne_of_gt hb, fun z => ?_⟩
    rcases List.mem_cons.mp (I.stkSub b z) with z | z
    · have := I.lt
      rw [← z] at this
      exact absurd (Nat.lt_of_lt_of_le this (Nat.le_of_succ_le hb)) (Nat.lt_irrefl _)
    · exact I.nofs (Nat.le_of_succ_le hb) z
  have I3 : Inv (cx X A sc H2 (genEnv scope cl sc.heap.objs.size code builtinsNs X.env) fp [(h'.objs.size, go)]) [] (wipe σ (own.map (·.2))) H2 s2 := by
    refine pinned I2 fun p hp => ?_
    rw [List.mem_singleton.mp hp]
    obtain ⟨y1, y2, y3⟩ := young h'.objs.size (by omega)
    exact ⟨hk2 _ _ hpush, y1, y2, y3, hgd⟩
  have yg : Young (cx X A sc H2 (genEnv scope cl sc.heap.objs.size code builtinsNs X.env) fp [(h'.objs.size, go)]) CO := by
    refine ⟨fun b hb => ?_, fun b hb => ?_, fun b hb x cc e z => ?_, fun b hb p hp z => ?_, fun b hb z => ?_⟩
    · have := hCO b hb; show sc.heap.objs.size ≤ b; omega
    · have := hCO b hb; exact Nat.ne_of_gt (show sc.heap.objs.size < b by omega)
    · obtain ⟨v, q⟩ := I1.cell x cc e
      have e2 : cl.lookup x = some cc := e
      rw [← hcl] at e2
      have q2 : cc < sc.heap.objs.size := by
        rcases cloFrom_mem (PySem.mem_of_lookup e2) with hm | ⟨h1, h2⟩
        · cases hm
        · have hfree : ∃ c, X.env.cells.lookup x = some c := by
            rcases ok.free _ h1 rfl with k | k
            · exact I.ok.has _ (.inl k)
            · exact I.ok.has _ (.inr k)
          obtain ⟨c2, hc2⟩ := hfree
          rw [hc2] at h2
          obtain ⟨w2, z2⟩ := I.cell _ _ hc2
          have := z2.lt
          rw [h2]; exact this
      have h9 := hCO b hb
      rw [z] at q2
      exact absurd (Nat.lt_of_lt_of_le q2 (Nat.le_trans (Nat.le_add_right _ 2) h9)) (Nat.lt_irrefl _)
    · rw [List.mem_singleton.mp hp] at z
      have := hCO b hb
      have z : (h'.objs.size : Nat) = b := z
      omega
    · exact absurd (Nat.lt_of_lt_of_le (fplt b z) (Nat.le_trans (Nat.le_add_right _ 2) (hCO b hb))) (Nat.lt_irrefl _)
  have G0 := GI.make I3 yg (fun b hb => let y := young b (by have := hCO b hb; omega); ⟨y.1, y.2.2⟩) hown
  have hdp : Room k (A.deeper (genEnv scope cl sc.heap.objs.size code builtinsNs X.env)) := hr.deeper _
  have aw : ∀ {σ' : L2.St} {H : Hp} {s : Shared}, GI (cx X A sc H2 (genEnv scope cl sc.heap.objs.size code builtinsNs X.env) fp [(h'.objs.size, go)]) CO σ' H s → Aw X sc fp H2 h'.objs.size sc.gens.size CO H s := fun {σ' H s} G => by
    have hf := G.free
    obtain ⟨pp, _, J⟩ := G
    exact ⟨J.os, J.bare, J.base, J.hok, J.nolimit, hgen _ (J.pin (h'.objs.size, go) (List.mem_append_left _ (List.mem_singleton.mpr rfl))).1, fun b hb => (hf b hb).1, fun b hb => let ⟨_, o, q1, q2, _⟩ := hf b hb; ⟨o, q1, q2⟩⟩
  have tn2 : tn 0 s2.heap := T.keep _ _ _ htn fun b _ o e => hk2 _ _ (keep5 b o e)
  refine start_code ?_ rfl ?_
  · exact T.self _ 0 s2 _ _ tn2 ⟨rfl, rfl⟩
  · refine loop (X' := cx X A sc H2 (genEnv scope cl sc.heap.objs.size code builtinsNs X.env) fp [(h'.objs.size, go)]) (fp := fp) (CO := CO) (Rl := Rl) (N := m0) (K := K) (σ := σ) (vs := own.map (·.2)) rfl rfl hc rfl hco yg (fun b hb p hp z => ?_) T (hg ..) (ht _ _ _ _ _ _ _ _ hdp) (he _ _ _ _ _ _ _ _ hdp) hst turn
      (fun n s₀ s ys H h00 hn hG hRl' dn => .inl ⟨.inr rfl, h00, ys, H, hn, aw hG, hRl', dn⟩) (fun n s₀ v s kap ys x σ' H h00 hn hv hG hRl' md hgo => ⟨h00, ys, x, H, hn, hv, aw hG, hRl', md, hgo⟩)
      m0 m0 0 [] s2 s2 H2 (fun _ _ => rfl) (Nat.add_zero _) (Nat.le_refl _) G0 hRl tn2 (fun b hb => (hfp b hb).1) w0
    rw [List.mem_singleton.mp hp] at z
    have h9 := fplt b hb
    have z : h'.objs.size = b := z
    rw [← z, sz'] at h9
    exact absurd h9 (Nat.not_lt_of_le (Nat.le_add_right _ 1))
end
end Gx
set_option Elab.async false
set_option linter.all false
set_option maxRecDepth 100000
set_option maxHeartbeats 4000000
namespace Gx
open PySem PySem.Spec PyProof.Rows L2 GenW
section
variable {X : Cx} {k : Nat} {c P : Addr} {elt tg iter : Expr} {ifs : List Expr} {scope : Scope} {own : List (Str × Nat)} {pos : Pos} {wi : TI} {g : TG} {tt : TT} {te : TE}
/-- THE RULE: a generator expression, by its parts -/
theorem psrc (hr : Room (k + 1) X.A) (hc : X.calm = true) (hN : X.N.Nodup) (TB : GxR.TabB X.base X.mg c P) (hcode : X.env.code = .ref c) (hi : PI X tg iter wi) (ok : BlkOk X.N X.env.scope scope own) (hcell : ∀ y ∈ scope.names, y.2 ≠ .cell) (h0 : scope.names.lookup (".0" : Str) = some NameKind.local) (hco : scope.isCoroutine = false)
    (hg : ∀ (A : Around) (s : Shared) (H : Hp) (C : Addr) (cl : List (Str × Addr)) (cd : Value) (fp : List Addr) (pn : List (Addr × Obj)), PG (cx X A s H (genEnv scope cl C cd builtinsNs X.env) fp pn) tg g)
    (ht : ∀ (A : Around) (s : Shared) (H : Hp) (C : Addr) (cl : List (Str × Addr)) (cd : Value) (fp : List Addr) (pn : List (Addr × Obj)), Room k (A.deeper (genEnv scope cl C cd builtinsNs X.env)) → PTs (cx X A s H (genEnv scope cl C cd builtinsNs X.env) fp pn) ifs tt)
    (he : ∀ (A : Around) (s : Shared) (H : Hp) (C : Addr) (cl : List (Str × Addr)) (cd : Value) (fp : List Addr) (pn : List (Addr × Obj)), Room k (A.deeper (genEnv scope cl C cd builtinsNs X.env)) → PE (cx X A s H (genEnv scope cl C cd builtinsNs X.env) fp pn) elt te)
    (hs : ∀ v, genFold iter X.env v = pure v := by intro _; rfl) : PSrc X (k + 1) (.GeneratorExp elt [⟨tg, iter, ifs, 0⟩] scope pos) (tGx P wi g tt te (own.map (·.2))) := by
  refine ⟨fun pins s σ H K I h => ?_⟩
  have hfree : ∀ y ∈ scope.names, y.2 = .free → ∃ c, X.env.cells.lookup y.1 = some c := fun y hy e => by
    rcases ok.free y hy e with k | k
    · exact I.ok.has _ (.inl k)
    · exact I.ok.has _ (.inr k)
  refine wpAny_GeneratorExp_make hco (closure_ok hfree) hcell h0 ok.kind (by have := hr.dp; omega) ?_ hs
  refine thn (hi.run pins s σ H _ I h) fun xv s1 hx => thn hx fun itv s2 h2 => ?_
  obtain ⟨it, fp, tn, J, H1, rfl, I2, T, st2, f2, ⟨ps, hP, htr⟩, q⟩ := h2
  refine ⟨I2.nolimit, ?_⟩
  have hPs : s2.heap.get? P = some { cls := .none, data := .fields ps } := I2.hok P _ hP
  have cd : PySem.W.CodeHd s2.heap c P := TB.code.keeps fun b u e => I2.bk b u e
  have fpP : ∀ b ∈ fp, b ≠ P := fun b hb z => by
    have := (f2 b hb).1
    rw [z, hP] at this; cases this
  have cont : ∀ (code : Value) (h3 : Heap) (tk : Nat) (ps' : Array Value), Heap.ExtBut P s2.heap h3 → h3.get? P = some { cls := .none, data := .fields ps' } → (∃ more, ps' = ps ++ more) → TriplesOk ps'.toList →
      wpAny (model X.prog X.w) X.A (builtinsFor X.env.globals X.env.builtins) (fun bi s₄ => ∀ h', h'.Ns s₄.heap.objs.size (fun y => if y = ".0" then some (.ref it) else none) → Heap.SameBut s₄.heap.objs.size (s₄.heap.push { cls := .type "frame", data := .dict #[] }) h' →
          ∃ H1 sc fp, Inv X pins σ H1 sc ∧ ExOk X pins fp ∧ Made X (k + 1) H1 sc fp K (.ref h'.objs.size) { s₄ with
            gens := s₄.gens.push (.fresh (.compStart (.GeneratorExp elt [⟨tg, iter, ifs, 0⟩] scope pos) 0 (.ref it) .none (genEnv scope (cloFrom X.env.cells scope.names []) s₄.heap.objs.size code bi X.env))),
            toks := s₄.toks + 1 + 1 + 1,
            heap := h'.push { cls := .type "generator", data := .fields #[.int s₄.gens.size 0, .str "<genexpr>" (s₄.toks + 1), .str (X.env.qual ++ "<genexpr>") (s₄.toks + 1 + 1)] } }) X.xe { s2 with heap := h3, toks := tk } := by
    intro code h3 tk ps' hx hP3 hmore ht3
    obtain ⟨more, em⟩ := hmore
    obtain ⟨bm, ob, e1, e2, e3, e4, e5, e6, e7, e8⟩ := TB.bm
    have keep3 : ∀ b u, b ≠ P → s2.heap.get? b = some u → h3.get? b = some u := fun b u hb e => hx b u hb e
    refine wpAny_builtinsFor (m := X.mg) (by rw [I2.ok.glob]; exact (I2.mod.glob.keeps I2.bk).extBut hx TB.gP) e1 e2 (keep3 _ _ e4 (I2.bk _ _ e5)) e6 e7 e8 ?_
    intro h' hn' hs'
    have I3 : Inv X pins σ (upd H1 P (.tbl ps')) { s2 with heap := h3, toks := tk } := by
      have J := GxR.inv_tab (more := more) (h' := h3) (g' := s2.gens) (d' := s2.drawn) (t' := tk) I2 hP keep3 (by rw [← em]; exact hP3) I2.bare
      rw [← em] at J
      exact J
    have T2 : GxR.Tabbed P H1 (upd H1 P (.tbl ps')) := ⟨⟨ps', upd_same, ht3⟩, fun b hb => upd_ne hb⟩
    obtain ⟨W, ⟨m0, w0⟩, turn⟩ := q _ T2
    have f3 : ∀ b ∈ fp, FpOk X pins (upd H1 P (.tbl ps')) b := fun b hb => ⟨by rw [upd_ne (fpP b hb)]; exact (f2 b hb).1, (f2 b hb).2⟩
    have tn3 : tn 0 h3 := T.keep _ _ _ st2 fun b hb o e => keep3 b o (fpP b hb) e
    refine ⟨upd H1 P (.tbl ps'), { s2 with heap := h3, toks := tk }, fp, I3, fun b hb => ⟨(f3 b hb).2.2.2.1, (f3 b hb).2.1, (f3 b hb).2.2.2.2.1, (f3 b hb).2.2.2.2.2⟩, ?_⟩
    exact made hc hN ok hcell hco hg ht he I3 T tn3 f3 w0 turn hn' hs'
  cases hf : codeAmong pos ps.toList with
  | none =>
    refine wpAny_genexprCodeX hcode (cd.code hPs htr) (cd.tab hPs) hf fun c' h' tk hx hge hlt hco' _ htab' _ => ?_
    obtain ⟨o1, vs, f1, tf, fl, tg, inF, tx, tt, op, _, _, _, _, _, _, _, _, _, htr', _⟩ := hco'
    exact cont _ h' tk _ hx htab'.2 ⟨_, rfl⟩ htr'
  | some cv =>
    refine wpAny_genexprCode_hit hcode (cd.code hPs htr) hf ?_
    exact cont cv s2.heap s2.toks ps (Heap.ExtBut.refl _ _) hPs ⟨#[], by simp⟩ htr
end

/-! ### the consumer -/
section
variable {X : Cx} {sc : Shared} {fp : List Addr} {H1 : Hp} {a : Addr} {g : Nat} {CO : List Addr} {Rl : Rel} {N : Nat} {K : GK}
/-- the generator sleeps; n items more at most -/
structure Live (X : Cx) (sc : Shared) (fp : List Addr) (H1 : Hp) (a : Addr) (g : Nat) (CO : List Addr) (Rl : Rel) (N : Nat) (K : GK) (B : Around) (n : Nat) (s : Shared) : Prop where
  gen : s.heap.IsGen a g
  lim : s.heap.NoLimit
  goes : ∃ gs, s.gens[g]? = some gs ∧ gs.Goes (model X.prog X.w) B (GEnd X sc fp H1 a g CO Rl N K) (GItem X sc fp H1 a g CO Rl N K) n (.send .none) (s.setGen g .running)
/-- an item is out: the consumer may go on from any state that kept all but its own -/
theorem next {A : Around} {n : Nat} {s : Shared} {Q : Option Value → Shared → Prop} {E : Value → Shared → Prop} (hh : A.handled = none) (hd : A.depth < recursionLimit) (hst : Stable CO Rl) (haC : a ∉ CO) (hcC : cStatics ∉ CO) (L : Live X sc fp H1 a g CO Rl N K A.in1 n s)
    (hY : ∀ ys x v H' s1, (∀ b ∈ CO, s1.heap.get? b = s.heap.get? b) → n - 1 + 1 + ys.length = N → RelV x v → Aw X sc fp H1 a g CO H' s1 → Rl ys s1 → K.mid ys x H' →
      (K.go x → ∀ s', s'.os = s1.os → s'.gens = s1.gens → (∀ b o, b ∉ CO → s1.heap.get? b = some o → s'.heap.get? b = some o) → (∀ b ∈ CO, ∃ o, s'.heap.get? b = some o ∧ ∀ v, o.data ≠ .cell v) → Rl (ys ++ [x]) s' → 0 < n ∧ Live X sc fp H1 a g CO Rl N K A.in1 (n - 1) s') → Q (some v) s1)
    (hP : ∀ ys H' s1, (∀ b ∈ CO, s1.heap.get? b = s.heap.get? b) → n + ys.length = N → Aw X sc fp H1 a g CO H' s1 → Rl ys s1 → K.done ys H' → Q none s1) :
    wpAny (model X.prog X.w) A (pyNext (.ref a)) Q E s := by
  obtain ⟨hg, hl, gs, hgs, hgo⟩ := L
  have hgl : g < s.gens.size := (Array.getElem?_eq_some_iff.mp hgs).1
  refine wpAny_gsz (n := g + 1) hgl (next_genG (A := A) (Er := fun _ _ => False) (F := GFin X sc fp H1 a g CO Rl N K) (Y := GItem X sc fp H1 a g CO Rl N K) hh hl hd hg hgs hgo (fun v s₁ gs' hbare hv => ?_) (fun s₁ hp h' hk => ?_) fun e s₁ he => he.elim)
  · intro hsz
    have hsz1 : g < s₁.gens.size := by
      have q : (s₁.setGen g gs').gens.size = s₁.gens.size := setGen_size _ _ _
      have hsz' : g + 1 ≤ (s₁.setGen g gs').gens.size := hsz
      omega
    obtain ⟨h00, ys, x, H', h1, h2, h3, h4, h5, h7⟩ := hv
    have hb : AllBare (s₁.setGen g gs').gens := allBare_setGen h3.bare hbare
    refine hY ys x v H' _ h00 h1 h2 ⟨h3.os, hb, h3.un, h3.hok, h3.lim, h3.gen, h3.free, h3.own⟩ (hst.keep ys s₁ _ (fun _ _ => rfl) h4) h5 fun hgo' s' e1 e2 e3 e4 e5 => ?_
    have z : Slept CO Rl (ys ++ [x]) s₁ (s'.setGen g .running) :=
      ⟨e1, allBare_setGen (by rw [e2]; exact hb) rfl, e3, e4, hst.keep _ s' _ (fun _ _ => rfl) e5⟩
    cases n with
    | zero => exact (h7 hgo' _ z).elim
    | succ m =>
      refine ⟨Nat.succ_pos _, ?_, ?_, gs', by rw [e2]; exact setGen_at hsz1, h7 hgo' _ z⟩
      · obtain ⟨o, nm, qn, ho, r⟩ := h3.gen
        exact ⟨o, nm, qn, e3 a o haC ho, r⟩
      · obtain ⟨mc, hns, hnn⟩ := h3.lim
        exact ⟨mc, hns.at' fun o e => e3 _ o hcC e, hnn⟩
  · intro hsz
    obtain ⟨h00, ys, H', h1, h2, h3, h4⟩ := hp
    have hsame : ∀ b ∈ CO, h'.get? b = s₁.heap.get? b := fun b hb => by
      obtain ⟨o, q1, _⟩ := h2.own b hb
      rw [q1, hk _ _ q1]
    refine hP ys H' _ (fun b hb => (hsame b hb).trans (h00 b hb)) h1 ⟨h2.os, allBare_setGen h2.bare rfl, h2.un.trans (Un.kept hk), h2.hok.kept hk, h2.lim.keeps hk, h2.gen.keeps hk, h2.free, fun b hb => let ⟨o, q1, q2⟩ := h2.own b hb; ⟨o, hk _ _ q1, q2⟩⟩ ?_ h4
    exact hst.keep ys s₁ _ hsame h3
/-- to begin with -/
theorem Made.live {k : Nat} {u : Value} {s' s2 : Shared} {A : Around} (M : Made X k H1 sc fp K u s') (hr : Room k A.in1) (hfr : A.frames = some X.stack) :
    ∃ a g N, u = .ref a ∧ sc.heap.objs.size ≤ a ∧ a < s'.heap.objs.size ∧ s'.heap.IsGen a g ∧ s'.heap.NoLimit ∧ s'.os = sc.os ∧ AllBare s'.gens ∧ (∀ b o, sc.heap.get? b = some o → s'.heap.get? b = some o) ∧
      ∀ (CO : List Addr) (Rl : Rel), (∀ b ∈ CO, s'.heap.objs.size ≤ b) → Stable CO Rl → (∀ b o, s'.heap.get? b = some o → s2.heap.get? b = some o) → (∀ b ∈ CO, ∃ o, s2.heap.get? b = some o ∧ ∀ v, o.data ≠ .cell v) → s2.os = s'.os → s2.gens = s'.gens → Rl [] s2 → Live X sc fp H1 a g CO Rl N K A.in1 N s2 := by
  obtain ⟨a, g, c, N, e, h1, h2, h3, h4, h5, h6, h7, h8, h9⟩ := M
  refine ⟨a, g, N, e, h1, h2, h3, h7, h5, h6, h8, fun CO Rl q1 q2 q3 q4 q5 q6 q7 => ⟨h3.keeps q3, h7.keeps q3, .fresh c, by rw [q6]; exact h4, ?_⟩⟩
  exact ⟨rfl, h9 A.in1 CO Rl _ hr hfr q1 q2 q3 q4 q5 (allBare_setGen (by rw [q6]; exact h6) rfl) (q2.keep _ s2 _ (fun _ _ => rfl) q7)⟩
end
end Gx
set_option Elab.async false
set_option linter.all false
set_option maxRecDepth 100000
set_option maxHeartbeats 4000000
namespace Gx
open PySem PySem.Spec PyProof.Rows L2 GenW

section
variable {X : Cx} {sc : Shared} {fp : List Addr} {H1 : Hp} {a : Addr} {g : Nat} {N : Nat} {k : Nat}

/-! ### all, any -/
def bRel (t : Bool) : Rel := fun ys _ => ∀ y ∈ ys, y = V.bl t
theorem bStable {t : Bool} {CO : List Addr} : Stable CO (bRel t) := ⟨fun _ _ _ _ h => h⟩
/-- all: an item is a bool; at the first False it ends -/
def kAll (Q : VK) : GK := ⟨fun ys y H => ∃ b, y = .bl b ∧ (b = false → (∀ z ∈ ys, z = V.bl true) → Q (.bl false) H), fun y => y = .bl true, fun ys H => (∀ z ∈ ys, z = V.bl true) → Q (.bl true) H⟩
theorem all_loop {A : Around} {R : Result → Shared → Prop} {Q : VK} (hh : A.handled = none) (hd : A.depth < recursionLimit)
    (hR : ∀ b H' s', Aw X sc fp H1 a g [] H' s' → Q (.bl b) H' → R (.ok (.ret (.bool b))) s') :
    ∀ (n : Nat) (s : Shared), Live X sc fp H1 a g [] (bRel true) N (kAll Q) A.in1.in1 n s → codeAny (model X.prog X.w) A (.builtin "all.loop" ⟨[.ref a], []⟩) R s := by
  intro n
  induction n with
  | zero =>
    intro s L
    refine codeAny_builtin F.entry_all_loop ?_
    rw [Around.under_plainId F.plain_all_loop _]
    show wpAny _ A.in1 (pyNext (.ref a) >>= _) _ _ s
    refine wpAny_bind (next (A := A.in1) hh hd bStable (by simp) (by simp) L (fun ys x v H' s1 _ hn rv aw hrl md hgo => ?_) fun ys H' s1 _ hn aw hrl dn => ?_)
    · obtain ⟨b, rfl, hf⟩ := md
      have rv : v = Value.bool b := rv
      subst rv
      cases b with
      | true =>
        have := (hgo rfl s1 rfl rfl (fun _ _ _ e => e) (fun _ hb => by cases hb) (fun y hy => by rcases List.mem_append.mp hy with hy | hy; exact hrl y hy; exact List.mem_singleton.mp hy)).1
        omega
      | false =>
        refine wpAny_bind (wpAny_holding (wpAny_truthy_bool ?_))
        refine wpAny_bind (wpAny_letGo ?_)
        simp only [Bool.false_eq_true, if_false]
        exact wpAny_bind (wpAny_rule (wpAny_pure (hR false H' _ aw (hf rfl hrl))))
    · exact wpAny_bind (wpAny_rule (wpAny_pure (hR true H' _ aw (dn hrl))))
  | succ n ih =>
    intro s L
    refine codeAny_builtin F.entry_all_loop ?_
    rw [Around.under_plainId F.plain_all_loop _]
    show wpAny _ A.in1 (pyNext (.ref a) >>= _) _ _ s
    refine wpAny_bind (next (A := A.in1) hh hd bStable (by simp) (by simp) L (fun ys x v H' s1 _ hn rv aw hrl md hgo => ?_) fun ys H' s1 _ hn aw hrl dn => ?_)
    · obtain ⟨b, rfl, hf⟩ := md
      have rv : v = Value.bool b := rv
      subst rv
      refine wpAny_bind (wpAny_holding (wpAny_truthy_bool ?_))
      refine wpAny_bind (wpAny_letGo ?_)
      cases b with
      | true =>
        simp only [if_true]
        exact wpAny_pure ⟨plainId_quiet F.plain_all_loop _, ih _ (hgo rfl s1 rfl rfl (fun _ _ _ e => e) (fun _ hb => by cases hb) (fun y hy => by rcases List.mem_append.mp hy with hy | hy; exact hrl y hy; exact List.mem_singleton.mp hy)).2⟩
      | false =>
        simp only [Bool.false_eq_true, if_false]
        exact wpAny_bind (wpAny_rule (wpAny_pure (hR false H' _ aw (hf rfl hrl))))
    · exact wpAny_bind (wpAny_rule (wpAny_pure (hR true H' _ aw (dn hrl))))
/-- any: an item is a bool; at the first True it ends -/
def kAny (Q : VK) : GK := ⟨fun ys y H => ∃ b, y = .bl b ∧ (b = true → (∀ z ∈ ys, z = V.bl false) → Q (.bl true) H), fun y => y = .bl false, fun ys H => (∀ z ∈ ys, z = V.bl false) → Q (.bl false) H⟩
theorem any_loop {A : Around} {R : Result → Shared → Prop} {Q : VK} (hh : A.handled = none) (hd : A.depth < recursionLimit)
    (hR : ∀ b H' s', Aw X sc fp H1 a g [] H' s' → Q (.bl b) H' → R (.ok (.ret (.bool b))) s') :
    ∀ (n : Nat) (s : Shared), Live X sc fp H1 a g [] (bRel false) N (kAny Q) A.in1.in1 n s → codeAny (model X.prog X.w) A (.builtin "any.loop" ⟨[.ref a], []⟩) R s := by
  intro n
  induction n with
  | zero =>
    intro s L
    refine codeAny_builtin F.entry_any_loop ?_
    rw [Around.under_plainId F.plain_any_loop _]
    show wpAny _ A.in1 (pyNext (.ref a) >>= _) _ _ s
    refine wpAny_bind (next (A := A.in1) hh hd bStable (by simp) (by simp) L (fun ys x v H' s1 _ hn rv aw hrl md hgo => ?_) fun ys H' s1 _ hn aw hrl dn => ?_)
    · obtain ⟨b, rfl, hf⟩ := md
      have rv : v = Value.bool b := rv
      subst rv
      cases b with
      | false =>
        have := (hgo rfl s1 rfl rfl (fun _ _ _ e => e) (fun _ hb => by cases hb) (fun y hy => by rcases List.mem_append.mp hy with hy | hy; exact hrl y hy; exact List.mem_singleton.mp hy)).1
        omega
      | true =>
        refine wpAny_bind (wpAny_holding (wpAny_truthy_bool ?_))
        refine wpAny_bind (wpAny_letGo ?_)
        simp only [if_true]
        exact wpAny_bind (wpAny_rule (wpAny_pure (hR true H' _ aw (hf rfl hrl))))
    · exact wpAny_bind (wpAny_rule (wpAny_pure (hR false H' _ aw (dn hrl))))
  | succ n ih =>
    intro s L
    refine codeAny_builtin F.entry_any_loop ?_
    rw [Around.under_plainId F.plain_any_loop _]
    show wpAny _ A.in1 (pyNext (.ref a) >>= _) _ _ s
    refine wpAny_bind (next (A := A.in1) hh hd bStable (by simp) (by simp) L (fun ys x v H' s1 _ hn rv aw hrl md hgo => ?_) fun ys H' s1 _ hn aw hrl dn => ?_)
    · obtain ⟨b, rfl, hf⟩ := md
      have rv : v = Value.bool b := rv
      subst rv
      refine wpAny_bind (wpAny_holding (wpAny_truthy_bool ?_))
      refine wpAny_bind (wpAny_letGo ?_)
      cases b with
      | false =>
        simp only [Bool.false_eq_true, if_false]
        exact wpAny_pure ⟨plainId_quiet F.plain_any_loop _, ih _ (hgo rfl s1 rfl rfl (fun _ _ _ e => e) (fun _ hb => by cases hb) (fun y hy => by rcases List.mem_append.mp hy with hy | hy; exact hrl y hy; exact List.mem_singleton.mp hy)).2⟩
      | true =>
        simp only [if_true]
        exact wpAny_bind (wpAny_rule (wpAny_pure (hR true H' _ aw (hf rfl hrl))))
    · exact wpAny_bind (wpAny_rule (wpAny_pure (hR false H' _ aw (dn hrl))))

/-- the consumer's end, back in the caller's context -/
theorem back {pins : List (Addr × Obj)} {σ : L2.St} {H' : Hp} {s' : Shared} {CO : List Addr} (I : Inv X pins σ H1 sc) (hex : ExOk X pins fp) (aw : Aw X sc fp H1 a g CO H' s') : Inv X pins σ H' s' :=
  I.call' (ch := fp) aw.os aw.un aw.hok aw.bare hex

def tAll (tg : TGS) : TE := fun σ H Q => tg σ H (kAll Q)
def tAny (tg : TGS) : TE := fun σ H Q => tg σ H (kAny Q)
variable {e : Expr} {tg : TGS} {p pos : Pos}
theorem pe_all (h : PSrc X k e tg) (hr : Room (k + 2) X.A) (hg : Gl X "all") (hm : X.mg "all" = none) (he : starEach [e] X.env = (false, eval e X.env) :: starEach [] X.env := by rfl) :
    PE X (.Call (.Name "all" p) [e] [] pos) (tAll tg) := by
  refine ⟨fun pins s σ H Q I hq => ?_⟩
  refine wpAny_Call_Name_kw (ld_blt I hg hm boot_all ?_)
  refine PyProof.Rows.callWith_builtin1 ?_ he (by rfl)
  rw [he]
  show wpAny _ _ (spliced ((false, eval e X.env) :: backTo pos (starEach [] X.env))) _ _ s
  refine Calls.spliced_cons (thn (h.run pins s σ H _ I hq) fun u s1 ⟨H1, sc, fp, I1, hex, M⟩ => ?_)
  refine Calls.spliced_nil ?_
  obtain ⟨a, g, N, rfl, h1, h2, h3, h4, h5, h6, h7, h8⟩ := M.live (A := X.A.in1) (s2 := s1) hr.in1.in1 I1.ok.frames
  refine call_function_tree F.kind_all F.plain_all F.entry_all (F.args_all1 _) ?_
  unfold Builtin.«all»
  refine wpAny_bind (m := oneArg "all" _) (wpAny_pure ?_)
  refine wpAny_bind (wpAny_pyIter_gen h3 ?_)
  refine wpAny_pure ⟨plainId_quiet F.plain_all_loop _, all_loop (A := X.A) hr.hd (by have := hr.dp; show X.A.depth < _; omega) (fun b H' s' aw hq => ?_) N s1 (h8 [] (bRel true) (fun b hb => by cases hb) bStable (fun _ _ e => e) (fun b hb => by cases hb) rfl rfl (fun y hy => by cases hy))⟩
  exact ⟨.bl b, H', back I1 hex aw, rfl, hq⟩
theorem pe_any (h : PSrc X k e tg) (hr : Room (k + 2) X.A) (hg : Gl X "any") (hm : X.mg "any" = none) (he : starEach [e] X.env = (false, eval e X.env) :: starEach [] X.env := by rfl) :
    PE X (.Call (.Name "any" p) [e] [] pos) (tAny tg) := by
  refine ⟨fun pins s σ H Q I hq => ?_⟩
  refine wpAny_Call_Name_kw (ld_blt I hg hm boot_any ?_)
  refine PyProof.Rows.callWith_builtin1 ?_ he (by rfl)
  rw [he]
  show wpAny _ _ (spliced ((false, eval e X.env) :: backTo pos (starEach [] X.env))) _ _ s
  refine Calls.spliced_cons (thn (h.run pins s σ H _ I hq) fun u s1 ⟨H1, sc, fp, I1, hex, M⟩ => ?_)
  refine Calls.spliced_nil ?_
  obtain ⟨a, g, N, rfl, h1, h2, h3, h4, h5, h6, h7, h8⟩ := M.live (A := X.A.in1) (s2 := s1) hr.in1.in1 I1.ok.frames
  refine call_function_tree F.kind_any F.plain_any F.entry_any (F.args_any1 _) ?_
  unfold Builtin.«any»
  refine wpAny_bind (m := oneArg "any" _) (wpAny_pure ?_)
  refine wpAny_bind (wpAny_pyIter_gen h3 ?_)
  refine wpAny_pure ⟨plainId_quiet F.plain_any_loop _, any_loop (A := X.A) hr.hd (by have := hr.dp; show X.A.depth < _; omega) (fun b H' s' aw hq => ?_) N s1 (h8 [] (bRel false) (fun b hb => by cases hb) bStable (fun _ _ e => e) (fun b hb => by cases hb) rfl rfl (fun y hy => by cases hy))⟩
  exact ⟨.bl b, H', back I1 hex aw, rfl, hq⟩

/-! ### sum -/
def intOf : V → Int
  | .int i => i
  | _ => 0
def sumV (ys : List V) : Int := (ys.map intOf).sum
def sRel (S : Addr) : Rel := fun ys s => ∃ c t, s.heap.get? S = some (lstObj #[.int (sumV ys) t] c)
theorem sStable {S : Addr} : Stable [S] (sRel S) := ⟨fun ys s s' h ⟨c, t, e⟩ => ⟨c, t, by rw [h S (List.mem_singleton.mpr rfl)]; exact e⟩⟩
def kSum (Q : VK) : GK := ⟨fun ys y _ => ∃ i, y = .int i ∧ InLong i ∧ InLong (sumV ys + i), fun _ => True, fun ys H => Q (.int (sumV ys)) H⟩
theorem sumV_snoc (ys : List V) (i : Int) : sumV (ys ++ [.int i]) = sumV ys + i := by
  unfold sumV
  rw [List.map_append, List.sum_append]
  show _ + (i + 0) = _
  rw [Int.add_zero]
theorem sum_loop {A : Around} {R : Result → Shared → Prop} {Q : VK} {S : Addr} (hh : A.handled = none) (hd : A.depth < recursionLimit) (hSa : a ≠ S) (hSc : cStatics ≠ S)
    (hR : ∀ i t H' s', Aw X sc fp H1 a g [S] H' s' → Q (.int i) H' → R (.ok (.ret (.int i t))) s') :
    ∀ (n : Nat) (s : Shared) (ys0 : List V), sRel S ys0 s → Live X sc fp H1 a g [S] (sRel S) N (kSum Q) A.in1.in1 n s → codeAny (model X.prog X.w) A (.builtin "sum.loop" ⟨[.ref a, .ref S, rawInt 0, rawInt 0], []⟩) R s := by
  intro n
  induction n with
  | zero =>
    intro s ys0 ⟨c, t, hS⟩ L
    refine codeAny_builtin F.entry_sum_loop ?_
    rw [Around.under_plainId F.plain_sum_loop _]
    show wpAny _ A.in1 (seqItems? (.ref S) >>= _) _ _ s
    refine wpAny_bind (wpAny_seqItems hS rfl ?_)
    show wpAny _ A.in1 (tryCatch (pyNext (.ref a)) _ >>= _) _ _ s
    refine wpAny_bind (wpAny_tryCatch (next (A := A.in1) hh hd sStable (by simpa using hSa) (by simpa using hSc) L (fun ys x v H' s1 h00 hn rv aw hrl md hgo => ?_) fun ys H' s1 h00 hn aw hrl dn => ?_))
    · obtain ⟨i, rfl, f1, f2⟩ := md
      obtain ⟨c1, t1, e1⟩ := hrl
      have := (hgo trivial { s1 with heap := s1.heap.update S (fun o => { o with data := .seq #[.int (sumV (ys ++ [.int i])) t1] c1 }) } rfl rfl (fun b o hb e => (Heap.get?_update_other _ _ (fun h : S = b => hb (by rw [h]; exact List.mem_singleton.mpr rfl))).trans e) (fun b hb => ?_) ?_).1
      · omega
      · rw [List.mem_singleton.mp hb]
        exact ⟨_, Heap.get?_update_self _ e1 rfl, fun v q => by cases q⟩
      · exact ⟨c1, t1, Heap.get?_update_self _ e1 rfl⟩
    · obtain ⟨c1, t1, e1⟩ := hrl
      have e2 := (h00 S (List.mem_singleton.mpr rfl)).symm.trans e1
      rw [hS] at e2
      have e3 : sumV ys0 = sumV ys := by
        have q := Option.some.inj e2
        simp only [lstObj, Obj.mk.injEq, Data.seq.injEq, Array.mk.injEq, List.cons.injEq, Value.int.injEq] at q
        exact q.2.2.1.1.1.1
      have dn : Q (.int (sumV ys)) H' := dn
      rw [← e3] at dn
      exact wpAny_pure (hR _ t H' s1 aw dn)
  | succ n ih => 
    intro s ys0 ⟨c, t, hS⟩ L
    refine codeAny_builtin F.entry_sum_loop ?_
    rw [Around.under_plainId F.plain_sum_loop _]
    show wpAny _ A.in1 (seqItems? (.ref S) >>= _) _ _ s
    refine wpAny_bind (wpAny_seqItems hS rfl ?_)
    show wpAny _ A.in1 (tryCatch (pyNext (.ref a)) _ >>= _) _ _ s
    refine wpAny_bind (wpAny_tryCatch (next (A := A.in1) hh hd sStable (by simpa using hSa) (by simpa using hSc) L (fun ys x v H' s1 h00 hn rv aw hrl md hgo => ?_) fun ys H' s1 h00 hn aw hrl dn => ?_))
    · obtain ⟨i, rfl, f1, f2⟩ := md
      obtain ⟨tv, rfl⟩ : ∃ u, v = Value.int i u := rv
      obtain ⟨c1, t1, e1⟩ := id hrl
      have e2 := (h00 S (List.mem_singleton.mpr rfl)).symm.trans e1
      rw [hS] at e2
      have e3 : sumV ys0 = sumV ys := by
        have q := Option.some.inj e2
        simp only [lstObj, Obj.mk.injEq, Data.seq.injEq, Array.mk.injEq, List.cons.injEq, Value.int.injEq] at q
        exact q.2.2.1.1.1.1
      have hc : ((decide (-(2 ^ 63) ≤ i) && decide (i < 2 ^ 63)) && (decide (-(2 ^ 63) ≤ sumV ys0 + i) && decide (sumV ys0 + i < 2 ^ 63))) = true := by
        rw [e3]
        simp only [Bool.and_eq_true, decide_eq_true_eq]
        exact ⟨⟨f1.1, f1.2⟩, f2.1, f2.2⟩
      show wpAny _ A.in1 (if (_ : Bool) = true then (mkInt (sumV ys0 + i) >>= _) else _) _ _ _
      split
      · refine wpAny_bind (wpAny_mkInt ?_)
        show wpAny _ A.in1 (updateSeq S (fun _ => #[.int (sumV ys0 + i) s1.toks]) >>= _) _ _ _
        refine wpAny_bind ?_
        have hnew : sRel S (ys ++ [.int i]) { s1 with toks := s1.toks + 1, heap := s1.heap.update S (Obj.mapSeq (fun _ => #[.int (sumV ys0 + i) s1.toks])) } := by
          rw [e3]
          obtain ⟨c9, h9⟩ : ∃ c9, Obj.mapSeq (fun _ => #[Value.int (sumV ys + i) s1.toks]) (lstObj #[.int (sumV ys) t1] c1) = lstObj #[Value.int (sumV ys + i) s1.toks] c9 := ⟨_, rfl⟩
          refine ⟨c9, s1.toks, ?_⟩
          rw [sumV_snoc, ← h9]
          exact Heap.get?_update_self _ e1 rfl
        refine wpAny_updateSeq e1 rfl (wpAny_pure ⟨plainId_quiet F.plain_sum_loop _, ih _ (ys ++ [.int i]) hnew (hgo trivial { s1 with toks := s1.toks + 1, heap := s1.heap.update S (Obj.mapSeq (fun _ => #[.int (sumV ys0 + i) s1.toks])) } rfl rfl (fun b o hb e => ?_) (fun b hb => ?_) hnew).2⟩)
        · exact (Heap.get?_update_other _ _ (fun h : S = b => hb (by rw [h]; exact List.mem_singleton.mpr rfl))).trans e
        · rw [List.mem_singleton.mp hb]
          exact ⟨_, Heap.get?_update_self _ e1 rfl, fun v q => by cases q⟩
      · rename_i hneg
        exact absurd hc hneg
    · obtain ⟨c1, t1, e1⟩ := hrl
      have e2 := (h00 S (List.mem_singleton.mpr rfl)).symm.trans e1
      rw [hS] at e2
      have e3 : sumV ys0 = sumV ys := by
        have q := Option.some.inj e2
        simp only [lstObj, Obj.mk.injEq, Data.seq.injEq, Array.mk.injEq, List.cons.injEq, Value.int.injEq] at q
        exact q.2.2.1.1.1.1
      have dn : Q (.int (sumV ys)) H' := dn
      rw [← e3] at dn
      exact wpAny_pure (hR _ t H' s1 aw dn)
def tSum (tg : TGS) : TE := fun σ H Q => tg σ H (kSum Q)
variable {e : Expr} {tg : TGS} {p pos : Pos}
theorem pe_sum (h : PSrc X k e tg) (hr : Room (k + 2) X.A) (hg : Gl X "sum") (hm : X.mg "sum" = none) (he : starEach [e] X.env = (false, eval e X.env) :: starEach [] X.env := by rfl) :
    PE X (.Call (.Name "sum" p) [e] [] pos) (tSum tg) := by
  refine ⟨fun pins s σ H Q I hq => ?_⟩
  refine wpAny_Call_Name_kw (ld_blt I hg hm boot_sum ?_)
  refine PyProof.Rows.callWith_builtin1 ?_ he (by rfl)
  rw [he]
  show wpAny _ _ (spliced ((false, eval e X.env) :: backTo pos (starEach [] X.env))) _ _ s
  refine Calls.spliced_cons (thn (h.run pins s σ H _ I hq) fun u s1 ⟨H1, sc, fp, I1, hex, M⟩ => ?_)
  refine Calls.spliced_nil ?_
  refine call_function_tree F.kind_sum F.plain_sum F.entry_sum (F.args_sum1 _) ?_
  have hM := fun s2 => M.live (A := X.A.in1) (s2 := s2) hr.in1.in1 I1.ok.frames
  obtain ⟨a, g, c, N0, rfl, q1, q2, q3, _⟩ := id M
  unfold Builtin.«sum»
  simp only [List.length_cons, List.length_nil]
  rw [if_neg (by decide)]
  refine wpAny_bind (wpAny_of_eq (show Builtin.Builtins.bindParams "sum" ["start"] 0 { } = pure [none] from rfl) ?_)
  refine wpAny_bind (wpAny_pyIter_gen q3 ?_)
  refine wpAny_bind (wpAny_mkInt ?_)
  refine wpAny_bind (wpAny_pure ?_)
  simp only [List.forIn_cons, List.forIn_nil]
  refine wpAny_bind (wpAny_bind (wpAny_bind (wpAny_isInstance (T := "int") (b := false) (typeIs_int _ _ _) PySem.sub_int_str ?_)))
  simp only [Bool.false_eq_true, if_false]
  refine wpAny_pure (wpAny_bind (wpAny_bind (wpAny_isInstance (T := "int") (b := false) (typeIs_int _ _ _) PySem.sub_int_bytes ?_)))
  simp only [Bool.false_eq_true, if_false]
  refine wpAny_pure (wpAny_bind (wpAny_bind (wpAny_isInstance (T := "int") (b := false) (typeIs_int _ _ _) PySem.sub_int_bytearray ?_)))
  simp only [Bool.false_eq_true, if_false]
  refine wpAny_pure (wpAny_pure ?_)
  refine wpAny_bind (wpAny_newObj_type ?_)
  obtain ⟨a', g', N, e', h1, h2, h3, h4, h5, h6, h7, h8⟩ := hM { s1 with heap := s1.heap.push { cls := .type "list", data := .seq ([Value.int 0 s1.toks] : List Value).toArray }, toks := s1.toks + 1 }
  cases e'
  have kp : ∀ b o, s1.heap.get? b = some o → (s1.heap.push { cls := .type "list", data := .seq ([Value.int 0 s1.toks] : List Value).toArray }).get? b = some o := fun b o e => Heap.get?_push_of_some _ e
  have hS : (s1.heap.push { cls := .type "list", data := .seq ([Value.int 0 s1.toks] : List Value).toArray }).get? s1.heap.objs.size = some (lstObj #[.int 0 s1.toks] 0) := Heap.get?_push_size _ rfl
  have hcl : cStatics < s1.heap.objs.size := let ⟨_, hn, _⟩ := h4; hn.lt
  have hr0 : sRel s1.heap.objs.size [] { s1 with heap := s1.heap.push { cls := .type "list", data := .seq ([Value.int 0 s1.toks] : List Value).toArray }, toks := s1.toks + 1 } := ⟨0, s1.toks, hS⟩
  refine wpAny_pure ⟨plainId_quiet F.plain_sum_loop _, sum_loop (A := X.A) (S := s1.heap.objs.size) (N := N) (g := g') hr.hd (by have := hr.dp; show X.A.depth < _; omega) (Nat.ne_of_lt h2) (Nat.ne_of_lt hcl) (fun i t H' s' aw hq => ?_) N _ [] hr0
    (h8 [s1.heap.objs.size] (sRel s1.heap.objs.size) (fun b hb => by rw [List.mem_singleton.mp hb]; exact Nat.le_refl _) sStable kp (fun b hb => by rw [List.mem_singleton.mp hb]; exact ⟨_, hS, fun v q => by cases q⟩) rfl rfl hr0)⟩
  exact ⟨.int i, H', back I1 hex aw, ⟨t, rfl⟩, hq⟩
end
end Gx
set_option Elab.async false
set_option linter.all false
set_option maxRecDepth 100000
set_option maxHeartbeats 4000000
namespace Gx
open PySem PySem.Spec PyProof.Rows L2 GenW

section
variable {X : Cx} {sc : Shared} {fp : List Addr} {H1 : Hp} {a : Addr} {g : Nat} {N : Nat} {k : Nat}
/-! ### a list that the consumer fills -/
def lRel (S : Addr) : Rel := fun ys s => ∃ acc c, s.heap.get? S = some (lstObj acc c) ∧ Vals ys acc.toList
theorem lStable {S : Addr} : Stable [S] (lRel S) := ⟨fun ys s s' h ⟨acc, c, e, r⟩ => ⟨acc, c, by rw [h S (List.mem_singleton.mpr rfl)]; exact e, r⟩⟩
def kLst (D : List V → Hp → Prop) : GK := ⟨fun ys _ _ => ys.length < sizeLine, fun _ => True, D⟩
theorem lRel_push {S : Addr} {ys : List V} {x : V} {v : Value} {s : Shared} {acc : Array Value} {c : Nat} (e : s.heap.get? S = some (lstObj acc c)) (r : Vals ys acc.toList) (rv : RelV x v) : lRel S (ys ++ [x]) { s with heap := s.heap.update S (Obj.mapSeq (·.push v)) } := by
  obtain ⟨c9, h9⟩ : ∃ c9, Obj.mapSeq (·.push v) (lstObj acc c) = lstObj (acc.push v) c9 := ⟨_, rfl⟩
  refine ⟨acc.push v, c9, ?_, ?_⟩
  · rw [← h9]
    exact Heap.get?_update_self _ e rfl
  · rw [Array.toList_push]
    exact r.append (.cons rv .nil)
theorem ext_loop {A : Around} {R : Result → Shared → Prop} {D : List V → Hp → Prop} {S : Addr} {res : Value} (hh : A.handled = none) (hd : A.depth < recursionLimit) (hSa : a ≠ S) (hSc : cStatics ≠ S)
    (hR : ∀ ys H' s', Aw X sc fp H1 a g [S] H' s' → lRel S ys s' → D ys H' → R (.ok (.ret res)) s') :
    ∀ (n : Nat) (s : Shared), Live X sc fp H1 a g [S] (lRel S) N (kLst D) A.in1.in1 n s → codeAny (model X.prog X.w) A (.builtin "list.extend.loop" ⟨[.ref S, .ref a, res], []⟩) R s := by
  intro n
  have sl : ∀ {ys : List V} {acc : Array Value}, Vals ys acc.toList → acc.size = ys.length := fun {ys acc} r => by
    have e1 := r.length
    have e2 : acc.toList.length = acc.size := by simp
    omega
  induction n with
  | zero =>
    intro s L
    refine codeAny_builtin F.entry_extend_loop ?_
    rw [Around.under_plainId F.plain_extend_loop _]
    show wpAny _ A.in1 (pyNext (.ref a) >>= _) _ _ s
    refine wpAny_bind (next (A := A.in1) hh hd lStable (by simpa using hSa) (by simpa using hSc) L (fun ys x v H' s1 h00 hn rv aw hrl md hgo => ?_) fun ys H' s1 h00 hn aw hrl dn => ?_)
    · obtain ⟨acc, c1, e1, r1⟩ := hrl
      have := (hgo trivial { s1 with heap := s1.heap.update S (Obj.mapSeq (·.push v)) } rfl rfl (fun b o hb e => (Heap.get?_update_other _ _ (fun h : S = b => hb (by rw [h]; exact List.mem_singleton.mpr rfl))).trans e) (fun b hb => ?_) (lRel_push e1 r1 rv)).1
      · omega
      · rw [List.mem_singleton.mp hb]
        exact ⟨_, Heap.get?_update_self _ e1 rfl, fun v q => by cases q⟩
    · exact wpAny_pure (hR ys H' s1 aw hrl dn)
  | succ n ih =>
    intro s L
    refine codeAny_builtin F.entry_extend_loop ?_
    rw [Around.under_plainId F.plain_extend_loop _]
    show wpAny _ A.in1 (pyNext (.ref a) >>= _) _ _ s
    refine wpAny_bind (next (A := A.in1) hh hd lStable (by simpa using hSa) (by simpa using hSc) L (fun ys x v H' s1 h00 hn rv aw hrl md hgo => ?_) fun ys H' s1 h00 hn aw hrl dn => ?_)
    · obtain ⟨acc, c1, e1, r1⟩ := hrl
      have hz : ys.length < sizeLine := md
      have hz1 := sl r1
      show wpAny _ A.in1 (updateSeq S (·.push v) >>= _) _ _ _
      refine wpAny_bind ?_
      refine wpAny_updateSeq e1 rfl (wpAny_pure ⟨plainId_quiet F.plain_extend_loop _, ih _ (hgo trivial { s1 with heap := s1.heap.update S (Obj.mapSeq (·.push v)) } rfl rfl (fun b o hb e => ?_) (fun b hb => ?_) (lRel_push e1 r1 rv)).2⟩) (by omega) (by show (acc.push v).size ≤ sizeLine + 1; rw [Array.size_push]; omega)
      · exact (Heap.get?_update_other _ _ (fun h : S = b => hb (by rw [h]; exact List.mem_singleton.mpr rfl))).trans e
      · rw [List.mem_singleton.mp hb]
        exact ⟨_, Heap.get?_update_self _ e1 rfl, fun v q => by cases q⟩
    · exact wpAny_pure (hR ys H' s1 aw hrl dn)

theorem collect_gx {A : Around} {D : List V → Hp → Prop} {s : Shared} {u : Value} {Q : List Value → Shared → Prop} {E : Value → Shared → Prop} (M : Made X k H1 sc fp (kLst D) u s) (hr : Room k A.in1.in1) (hfr : A.frames = some X.stack)
    (hQ : ∀ ys acc S a g H' s', Aw X sc fp H1 a g [S] H' s' → Vals ys acc → D ys H' → Q acc s') : wpAny (model X.prog X.w) A (collect u) Q E s := by
  have hM := fun s2 => M.live (A := A.in1) (s2 := s2) hr hfr
  obtain ⟨a, g, c, N0, rfl, q1, q2, q3, q4, q5, q6, q7, _⟩ := id M
  have hcl : cStatics < s.heap.objs.size := let ⟨_, hn, _⟩ := q7; hn.lt
  have hSI : s.heap.objs.size ≠ a := Nat.ne_of_gt q2
  unfold collect
  refine wpAny_bind (wpAny_runValue (codeAny_builtin F.entry_proto_collect ?_))
  rw [Around.under_plainId F.plain_proto_collect _]
  show wpAny _ A.in1 (newList [] >>= fun l => again (.builtin "list.__iadd__" ⟨[l, .ref a], []⟩)) _ _ s
  refine wpAny_bind (wpAny_newObj_type ?_)
  refine wpAny_pure ⟨plainId_quiet F.plain_list_iadd _, codeAny_builtin F.entry_list_iadd ?_⟩
  rw [Around.under_plainId F.plain_list_iadd _]
  have kp : ∀ b o, s.heap.get? b = some o → (s.heap.push { cls := .type "list", data := .seq ([] : List Value).toArray }).get? b = some o := fun b o e => Heap.get?_push_of_some _ e
  show wpAny _ A.in1 (Builtin.List.listExtendWith (.ref s.heap.objs.size) (.ref a) (.ref s.heap.objs.size)) _ _ _
  unfold Builtin.List.listExtendWith
  refine wpAny_bind (wpAny_typeOf (Heap.IsGen.typeIs (s := { s with heap := _ }) (q3.keeps kp)) ?_)
  have h1 : Builtin.List.listSameRef (.ref s.heap.objs.size) (.ref a) = false := by simp [Builtin.List.listSameRef, hSI]
  have h2 : (Value.type "generator" == Value.type "list") = false := by decide
  have h3 : (Value.type "generator" == Value.type "tuple") = false := by decide
  simp only [h1, h2, h3, Bool.or_false, Bool.false_eq_true, if_false]
  refine wpAny_bind (wpAny_pyIter_gen (s := { s with heap := _ }) (q3.keeps kp) ?_)
  refine wpAny_bind (wpAny_holding ?_)
  unfold Builtin.List.listLengthHint
  refine wpAny_bind (wpAny_specialOf (Heap.IsGen.typeIs (s := { s with heap := _ }) (q3.keeps kp)) F.gen_no_len ?_)
  show wpAny _ A.in1 (specialOf (Value.ref a) (Str.ofString "__length_hint__") >>= _) _ _ _
  refine wpAny_bind (wpAny_specialOf (Heap.IsGen.typeIs (s := { s with heap := _ }) (q3.keeps kp)) F.gen_no_hint ?_)
  refine wpAny_pure ?_
  show wpAny _ A.in1 (rule "list.extend.makes-room" >>= fun _ => Builtin.List.listTouch (.ref s.heap.objs.size) >>= fun _ =>
    again (.builtin "list.extend.loop" ⟨[.ref s.heap.objs.size, .ref a, .ref s.heap.objs.size], []⟩)) _ _ _
  refine wpAny_bind (wpAny_rule ?_)
  have hS₁ : (s.heap.push { cls := .type "list", data := .seq ([] : List Value).toArray }).get? s.heap.objs.size = some { cls := .type "list", data := .seq ([] : List Value).toArray } := Heap.get?_push_size _ rfl
  refine wpAny_bind ?_
  show wpAny _ A.in1 (updateSeq s.heap.objs.size (·.push .none) >>= fun _ => updateSeq s.heap.objs.size (·.pop)) _ _ _
  refine wpAny_bind (wpAny_updateSeq hS₁ rfl ?_)
  have hS₂ := Heap.get?_update_self (Obj.mapSeq (·.push Value.none)) hS₁ rfl
  refine wpAny_updateSeq hS₂ rfl ?_
  have hS₃ := Heap.get?_update_self (Obj.mapSeq (·.pop)) hS₂ rfl
  have oth : ∀ b o, b ≠ s.heap.objs.size → (s.heap.push { cls := .type "list", data := .seq ([] : List Value).toArray }).get? b = some o →
      (((s.heap.push { cls := .type "list", data := .seq ([] : List Value).toArray }).update s.heap.objs.size (Obj.mapSeq (·.push Value.none))).update s.heap.objs.size (Obj.mapSeq (·.pop))).get? b = some o :=
    fun b o hb e => (Heap.get?_update_other _ _ (Ne.symm hb)).trans ((Heap.get?_update_other _ _ (Ne.symm hb)).trans e)
  obtain ⟨a', g', N, e', h1, h2, h3, h4, h5, h6, h7, h8⟩ := hM { s with heap := ((s.heap.push { cls := .type "list", data := .seq ([] : List Value).toArray }).update s.heap.objs.size (Obj.mapSeq (·.push Value.none))).update s.heap.objs.size (Obj.mapSeq (·.pop)) }
  cases e'
  refine wpAny_pure ⟨plainId_quiet F.plain_extend_loop _, ext_loop (A := A) (S := s.heap.objs.size) (N := N) (g := g') (D := D) hr.hd (by have := hr.dp; show A.depth < _; have e9 : A.in1.in1.depth = A.depth := rfl; omega) (Ne.symm hSI) (Nat.ne_of_lt hcl) (fun ys H' s' aw hrl dn => ?_) N _
    (h8 [s.heap.objs.size] (lRel s.heap.objs.size) (fun b hb => by rw [List.mem_singleton.mp hb]; exact Nat.le_refl _) lStable (fun b o e => oth b o (Nat.ne_of_lt (Heap.lt_size e)) (kp b o e)) (fun b hb => by rw [List.mem_singleton.mp hb]; exact ⟨_, hS₃, fun v q => by cases q⟩) rfl rfl ⟨_, _, hS₃, .nil⟩)⟩
  obtain ⟨acc, c1, e1, r1⟩ := hrl
  show wpAny _ A (load s.heap.objs.size >>= _) _ _ s'
  refine wpAny_bind (wpAny_load e1 ?_)
  exact wpAny_pure (hQ ys acc.toList s.heap.objs.size a g' H' s' aw r1 dn)

/-! ### tuple(g) -/
def kTup (Q : VK) : GK := kLst fun ys H => ys.length ≤ sizeLine ∧ ∀ p, H p = none → Q (.ref p) (upd H p (.tup ys))
def tTupG (tg : TGS) : TE := fun σ H Q => tg σ H (kTup Q)
variable {e : Expr} {tg : TGS} {p pos : Pos}
theorem pe_tupG (h : PSrc X k e tg) (hr : Room (k + 4) X.A) (hg : Gl X "tuple") (hm : X.mg "tuple" = none) (hv : bootBuiltins "tuple" = some (.type "tuple")) (he : starEach [e] X.env = (false, eval e X.env) :: starEach [] X.env := by rfl) :
    PE X (.Call (.Name "tuple" p) [e] [] pos) (tTupG tg) := by
  refine ⟨fun pins s σ H Q I hq => ?_⟩
  refine wpAny_Call_Name_kw (ld_blt I hg hm hv ?_)
  refine PyProof.Rows.callWith_type1 ?_ he rfl
  rw [he]
  show wpAny _ _ (spliced ((false, eval e X.env) :: backTo pos (starEach [] X.env))) _ _ s
  refine Calls.spliced_cons (thn (h.run pins s σ H _ I hq) fun u s1 ⟨H1, sc, fp, I1, hex, M⟩ => ?_)
  refine Calls.spliced_nil ?_
  have hT : s1.TypeIs u "generator" := by
    obtain ⟨a, g, c, N, rfl, _, _, h3, _⟩ := id M
    exact h3.typeIs
  have main : codeAny (model X.prog X.w) X.A.in1 (.call (.builtin "tuple.__new__") ⟨[.type "tuple", u], []⟩) (wants (fun obj s2 => s2.TypeIs obj "tuple" ∧ EP X pins σ Q obj s2) X.xe) s1 := by
    refine codeAny_of_tree ?_
    show wpAny _ X.A.in1.in1 (do checkBuiltinCall "tuple.__new__" ⟨[.type "tuple", u], []⟩; again (.builtin "tuple.__new__" ⟨[.type "tuple", u], []⟩)) _ _ s1
    refine wpAny_bind (wpAny_of_eq (F.newCall_tuple_1 _) (wpAny_pure ⟨plainId_quiet F.plain_tuple_new _, codeAny_builtin F.entry_tuple_new ?_⟩))
    rw [Around.under_plainId F.plain_tuple_new _]
    have hsub := sub_tuple_self
    have hinit := init_tuple_lookup
    have hmh := madeHere_tuple
    have cg := fun (Q : List Value → Shared → Prop) (E : Value → Shared → Prop) hQ => collect_gx (A := X.A.in1.in1) (Q := Q) (E := E) M hr.in1.in1.in1.in1 I1.ok.frames hQ
    obtain ⟨a, g, c, N, rfl, _⟩ := id M
    wp_walk using wpAny_typeOf hT, cg
    intro ys acc S a' g' H' s' aw r dn
    obtain ⟨hz, dn⟩ := dn
    show wpAny _ _ (Builtin.Tuple.tupleExact acc.toArray >>= fun v => ret v) _ _ _
    unfold Builtin.Tuple.tupleExact
    refine wpAny_bind (wpAny_newObj_type ?_ (by show acc.toArray.size ≤ sizeLine; rw [List.size_toArray, ← r.length]; exact hz))
    refine wpAny_pure ⟨⟨_, Heap.get?_push_size _ rfl, rfl⟩, ?_⟩
    have I2 := back I1 hex aw
    have hf : H' s'.heap.objs.size = none := I2.hok.fresh (Nat.le_refl _)
    refine ⟨.ref s'.heap.objs.size, upd H' s'.heap.objs.size (.tup ys), I2.laid (t' := s'.toks) (fun b u e => Heap.get?_push_of_some _ e) (Nat.le_refl _) ?_, rfl, dn _ hf⟩
    exact ⟨hz, acc, r, ⟨_, Heap.get?_push_size _ rfl, rfl, _, rfl⟩⟩
  refine callType_codes (Q₁ := fun obj s₁ => s₁.TypeIs obj "tuple" ∧ EP X pins σ Q obj s₁) F.called_tuple (F.typeCall_tuple_1 _) F.entry_object_init main fun obj s₁ h₁ => ?_
  exact ⟨h₁.1, F.args_object_init_2 obj _, object_init_meets F.called_tuple.init.lookup F.called_tuple.made (by decide) X.prog X.w X.A.in1 _ s₁ ⟨h₁.1, rfl, h₁.2⟩⟩
end
end Gx
set_option Elab.async false
set_option linter.all false
set_option maxRecDepth 100000
set_option maxHeartbeats 4000000
namespace Gx
open PySem PySem.Spec PyProof.Rows L2 GenW

/-! ### defs whose code object is known by its address (for their generator expressions) -/
structure FunT (K : PySem.W.Frag) (x qual : Str) (st : Stmt) (f : Addr) (fd : FuncData) (c : Addr) : Prop where
  ex : ∃ (oc : Value) (od : Option Addr) (kV doc pm : Value) (an : Option Addr) (ct : Value) (osl : Array (Option Value)),
    fd = PySem.W.fnOf x qual (defArgs st) (defBody st) (defScope st) .none kV doc pm an (.ref c) ct ∧ K.lookup f = some ⟨oc, od, .func fd, osl⟩ ∧ PySem.W.codeIn K (.ref c) qual = true
  kp : PySem.W.keepIn K (.ref f) = true
section
variable {P : Program} {w : World} {K : PySem.W.Frag} {mg : Str → Option Value} {base : Heap}
theorem FunT.toFun {x qual : Str} {st : Stmt} {f c : Addr} {fd : FuncData} (F : FunT K x qual st f fd c) : Fun K x qual st f fd := by
  obtain ⟨oc, od, kV, doc, pm, an, ct, osl, e, l, h⟩ := F.ex
  exact ⟨⟨oc, od, kV, doc, pm, an, .ref c, ct, osl, e, l, h⟩, F.kp⟩
theorem funT_mk {x qual : Str} {st : Stmt} {f c : Addr} {oc : Value} {od an : Option Addr} {osl : Array (Option Value)} {kV doc pm ct : Value} (l : K.lookup f = some ⟨oc, od, .func (PySem.W.fnOf x qual (defArgs st) (defBody st) (defScope st) .none kV doc pm an (.ref c) ct), osl⟩)
    (h : PySem.W.codeIn K (.ref c) qual = true) (k : PySem.W.keepIn K (.ref f) = true) : FunT K x qual st f (PySem.W.fnOf x qual (defArgs st) (defBody st) (defScope st) .none kV doc pm an (.ref c) ct) c := ⟨⟨oc, od, kV, doc, pm, an, ct, osl, rfl, l, h⟩, k⟩
theorem FunT.ok {x qual : Str} {st : Stmt} {f c : Addr} {fd : FuncData} {N ps : List Str} {k : Nat} {sp : Sp} (F : FunT K x qual st f fd c) (S : FnScope N ps (defScope st)) (len : ∀ vs H Q E, sp vs H Q E → vs.length = ps.length)
    (hbody : ∀ (A : Around) (outer : List Env) (s : Shared) (H : Hp) (vs : List V) (Q : VK) (E : XK), Room k (A.deeper (envOfC qual (defScope st) s.heap.objs.size f (.ref c))) → sp vs H Q E →
      ∃ t, PSs (cxOf CX0 P w K mg base N qual (defScope st) f (.ref c) A outer s H E).nox (defBody st) t ∧ t { nx := fun _ H' => Q .non H', rt := Q } (start N vs) H) : FnOk P w K mg base CX0 (k + 1) f fd ps sp := by
  obtain ⟨oc, od, kV, doc, pm, an, ct, osl, rfl, lk, hcd⟩ := F.ex
  refine fn_of lk hcd S len fun A outer s H vs Q E hr hsp => ?_
  obtain ⟨t, h, q⟩ := hbody A outer s H vs Q E hr hsp
  exact ⟨t, h.nox, q⟩

/-! ### defs that are called where no repr runs -/
structure FnG (P : Program) (w : World) (K : PySem.W.Frag) (mg : Str → Option Value) (base : Heap) (k : Nat) (f : Addr) (fd : FuncData) (ps : List Str) (sp : Sp) : Prop where
  len : ∀ vs H Q E, sp vs H Q E → vs.length = ps.length
  run : ∀ (A : Around) (outer : List Env) (s : Shared) (H : Hp) (args : Args) (us : List Value) (vs : List V) (Q : VK) (E : XK), A.guards = some [] → Room k A → Env0 P w K mg base A outer s H → BindsTo s fd args (ps.zip us) → Vals vs us → sp vs H Q E →
    codeAny (model P w) A (.call (.ref f) args) (CR CX0 outer P w H s Q E) s
theorem okG {x qual : Str} {st : Stmt} {f : Addr} {fd : FuncData} {N ps : List Str} {k : Nat} {sp : Sp} (F : Fun K x qual st f fd) (S : FnScope N ps (defScope st)) (len : ∀ vs H Q E, sp vs H Q E → vs.length = ps.length)
    (hbody : ∀ (cdv : Value) (A : Around) (outer : List Env) (s : Shared) (H : Hp) (vs : List V) (Q : VK) (E : XK), A.guards = some [] → Room k (A.deeper (envOfC qual (defScope st) s.heap.objs.size f cdv)) → sp vs H Q E →
      ∃ t, PSs (cxOf CX0 P w K mg base N qual (defScope st) f cdv A outer s H E).nox (defBody st) t ∧ t { nx := fun _ H' => Q .non H', rt := Q } (start N vs) H) : FnG P w K mg base (k + 1) f fd ps sp := by
  obtain ⟨oc, od, kV, doc, pm, an, cdv, ct, osl, rfl, lk, hcd⟩ := F.ex
  refine ⟨len, fun A outer s H args us vs Q E hgd hr e0 hb r hsp => ?_⟩
  have hl := len _ _ _ _ hsp
  have old : ∀ b o, base.get? b = some o → s.heap.get? b = some o := fun b o e => (e0.bs b o e).1
  have KX : K.In s.heap := e0.mod.kin.keeps old
  have own : ∀ y ∈ ps.zip us, (defScope st).names.lookup y.1 = some .local ∨ ((defScope st).names.lookup y.1 = some .cell ∧ ((cellsFrom (s.heap.objs.size + 1) (defScope st).names []).lookup y.1).isSome = true) := by
    rintro ⟨n, v⟩ hy
    rcases S.par n (List.of_mem_zip hy).1 with q | q
    · exact .inl q
    · exact .inr ⟨q, PySem.W.cellsFrom_some _ _ _ (.inl q)⟩
  refine codeAny_call_function hr.depth (KX _ _ lk) rfl S.co S.gen rfl (PySem.W.codeRec_of KX hcd) (hb _ _ _ _ ?_)
  refine wpAny_newFunctionEnv_cells S.kind own ?_
  rintro env rfl s1 x
  refine ⟨(e0.mod.nolimit.keeps old).keeps x.toInCall.keep, codeAny_func ?_⟩
  obtain ⟨t, ht, hq⟩ := hbody cdv A outer s H vs Q E hgd (hr.deeper _) hsp
  have I := inv_start (CX := CX0) (E := E) S hr.hd e0 hl r x
  refine wpAny_mono (ht.nox.run [] s1 (start N vs) H _ I hq) (fun fl s' hs => ?_) fun e s' hs => hs
  cases fl with
  | ret u =>
    obtain ⟨v, σ', H', J, rv, q⟩ := hs
    exact ⟨v, H', J.os, J.bare, J.base, J.hok, rv, q⟩
  | next =>
    obtain ⟨σ', H', J, q⟩ := hs
    exact ⟨.non, H', J.os, J.bare, J.base, J.hok, rfl, q⟩
  | brk => exact let ⟨_, _, _, q⟩ := hs; q.elim
  | cont => exact let ⟨_, _, _, q⟩ := hs; q.elim

section
variable {X : Cx} {k : Nat} {f : Addr} {fd : FuncData} {ps : List Str} {sp : Sp} {x : Str} {p pos : Pos} {e : Expr} {es : List Expr} {t : TA}
theorem pe_callG (F : FnG X.prog X.w X.K X.mg X.base k f fd ps sp) (hgd : X.A.guards = some []) (hr : Room k X.A) (hg : Gl X x) (hm : X.mg x = some (.ref f)) (hk : PySem.W.keepIn X.K (.ref f) = true) (hb : Binds X.K fd ps [])
    (ha : PA X (e :: es) t) (hdb : (x == ("__debug__" : Str)) = false := by decide) (he : starEach (e :: es) X.env = (false, eval e X.env) :: starEach es X.env := by rfl) (hpl : (backTo pos (starEach es X.env)).any (·.1) = false := by rfl) :
    PE X (.Call (.Name x p) (e :: es) [] pos) (fun σ H Q => t σ H fun vs H1 => sp vs H1 Q E0) := by
  refine ⟨fun pins s σ H Q I h => ?_⟩
  refine wpAny_Call_Name_kw (ld_glob I hg hm ?_ hdb)
  refine PySem.W.callWith_K (h₀ := X.base) I.ok.mod.kin hk (thn (ha.run pos pins s σ H _ I h) fun us s1 ⟨vs, H1, I1, r, q⟩ => ⟨I1.kIn, ?_⟩) he hpl
  have hl : (us ++ []).length = ps.length := by
    rw [List.append_nil, ← r.length]
    exact F.len _ _ _ _ q
  have hb1 := hb s1 us I1.kIn hl
  rw [List.append_nil] at hb1
  refine wpAny_call (codeAny_mono (F.run X.A X.stack s1 H1 ⟨us, []⟩ us vs Q E0 hgd hr I1.env0 hb1 r q) fun r s' hq => ?_)
  cases r with
  | error e => exact False.elim hq
  | ok fl =>
    cases fl with
    | ret u => exact I1.after hq
    | next => exact False.elim hq
    | brk => exact False.elim hq
    | cont => exact False.elim hq

/-! ### repr of data -/
/-- data that repr writes -/
structure Shows (d : PyData) : Prop where
  show_ : d.showable = true
  nod : d.hasDict = false
  dep : d.depth ≤ 60
  size : d.shown.length ≤ sizeLine
  int : ∀ i, d = .int i → i.natAbs.log2 < 1920
  str : ∀ x, d ≠ .str x
def rRepr (K : PySem.W.Frag) : List V → Hp → VK → Prop := fun xs H Q => ∃ x d, xs = [x] ∧ Dp K H x d ∧ Shows d ∧ Q (.str d.shown) H
theorem call_repr (hgd : X.A.guards = some []) (hu : X.A.units + 65 < cLine) : CallR X (.builtin "repr") (rRepr X.K) := by
  intro pins s σ H xs us Q I r h
  obtain ⟨x, d, rfl, hd, S, q⟩ := h
  cases r with
  | cons r1 r2 =>
    rename_i u ut
    cases r2
    obtain ⟨as, rd⟩ := Dp.reads I d x u hd r1
    have ref : ∀ a, u = .ref a → wpAny (model X.prog X.w) X.A (call (.builtin "repr") [u]) (EP X pins σ Q) X.xe s := by
      rintro a rfl
      have := S.dep
      exact repr_of_reads' rd S.show_ (PyData.noDict_hsm S.nod) hgd (by omega) (fun _ _ e => e) (fun h' u tk hk => ⟨.str d.shown, H, I.kept (t' := tk) hk, ⟨u, rfl⟩, q⟩) S.size
    cases rd with
    | none => exact PySem.P.repr_of_none ⟨.str _, H, I.tok _, ⟨_, rfl⟩, q⟩
    | bool b => exact PySem.P.repr_of_bool ⟨.str _, H, I.tok _, ⟨_, rfl⟩, q⟩
    | int i t => exact PySem.P.repr_of_int (S.int i rfl) ⟨.str _, H, I.tok _, ⟨_, rfl⟩, q⟩
    | str z t => exact absurd rfl (S.str z)
    | list _ _ _ _ => exact ref _ rfl
    | tuple _ _ _ _ => exact ref _ rfl
    | dict _ _ _ _ _ => exact ref _ rfl
end
end
end Gx
set_option Elab.async false
set_option linter.all false
set_option maxRecDepth 100000
set_option maxHeartbeats 4000000
namespace Gx
open PySem PySem.Spec PyProof.Rows L2 GenW

/-- the abstract heap at the law's entry: the tables ts, and the script where it is none of the module's own objects -/
def entryH (K : PySem.W.Frag) (a : Addr) (o : Obj) (ns : List Int) (ts : List Addr) : Hp := fun b =>
  if b ∈ ts then some (.tbl #[]) else if b = a ∧ (K.lookup a).isNone = true then some (.frz o (.lst (ns.map V.int))) else none
section
variable {K : PySem.W.Frag} {a : Addr} {o : Obj} {ns : List Int} {ts : List Addr}
theorem entryH_tab {b : Addr} (h : b ∈ ts) : entryH K a o ns ts b = some (.tbl #[]) := if_pos h
theorem entryH_cases (b : Addr) : entryH K a o ns ts b = none ∨ (b ∈ ts ∧ entryH K a o ns ts b = some (.tbl #[])) ∨ (b ∉ ts ∧ b = a ∧ K.lookup a = none ∧ entryH K a o ns ts b = some (.frz o (.lst (ns.map V.int)))) := by
  by_cases h1 : b ∈ ts
  · exact .inr (.inl ⟨h1, entryH_tab h1⟩)
  · by_cases h2 : b = a ∧ (K.lookup a).isNone = true
    · exact .inr (.inr ⟨h1, h2.1, Option.isNone_iff_eq_none.mp h2.2, (if_neg h1).trans (if_pos h2)⟩)
    · exact .inl ((if_neg h1).trans (if_neg h2))
end
abbrev tab0 : Obj := { cls := .none, data := .fields #[] }
abbrev scrObj (vs : List Value) : Obj := { cls := .type "list", data := .seq vs.toArray }

/-- the law's call, where its promise holds with no repr around -/
theorem enterG {P : Program} {w : World} {K : PySem.W.Frag} {mg mb : Str → Option Value} {k : Nat} {fa a : Addr} {cs : List (Addr × Addr)} {fd : FuncData} {x : Str} {sp : Sp} {s : Shared} {vs : List Value} {ns : List Int}
    (KX : K.In s.heap) (gl : s.heap.Ns mainGlobals mg) (bl : s.heap.Ns builtinsNs mb) (bb : ∀ x : Str, x ≠ "__name__" → mb x = bootBuiltins x) (lim : s.heap.NoLimit) (g0 : s.gens = #[])
    (hT : ∀ p ∈ cs, s.heap.get? p.2 = some tab0 ∧ K.lookup p.2 = none ∧ PySem.W.CodeHd s.heap p.1 p.2)
    (bm : ∃ (bm : Addr) (ob : Obj), mg "__builtins__" = some (.ref bm) ∧ bm ≠ builtinsNs ∧ s.heap.get? bm = some ob ∧ ob.cls = .type "module" ∧ ob.dict = some builtinsNs ∧ ob.data = .plain)
    (ha : s.heap.get? a = some (scrObj vs)) (hi : IntsAre vs ns) (hl : ns.length ≤ sizeLine) (hr : Room k callerA) (hbind : ∀ (s : Shared) (u : Value), BindsTo s fd ⟨[u], []⟩ [(x, u)])
    (F : ∀ base : Heap, K.In base → base.Ns mainGlobals mg → (∀ p ∈ cs, GxR.TabB base mg p.1 p.2) → FnG P w K mg base k fa fd [x] sp)
    (hsp : ∀ H : Hp, (∀ p ∈ cs, GxR.TabG H p.2) → SqL K H a (ns.map V.int) → sp [.ref a] H (fun v _ => v = .bl true) E0) :
    codeAny (model P w) callerA (.call (.ref fa) ⟨[.ref a], []⟩) (fun r s' => r = .ok (.ret (.bool true)) ∧ OldK s.heap s'.heap ∧ s'.os = s.os ∧ AllBare s'.gens) s := by
  have rv := vals_ints hi
  have lenV := hi.length
  generalize hts : cs.map (·.2) = ts
  have tsT : ∀ b ∈ ts, s.heap.get? b = some tab0 ∧ K.lookup b = none := fun b hb => by
    rw [← hts] at hb
    obtain ⟨p, hp, rfl⟩ := List.mem_map.mp hb
    exact ⟨(hT p hp).1, (hT p hp).2.1⟩
  have inT : ∀ p ∈ cs, p.2 ∈ ts := fun p hp => by rw [← hts]; exact List.mem_map.mpr ⟨p, hp, rfl⟩
  have aT : a ∉ ts := fun hb => by
    have q := (tsT a hb).1
    rw [ha] at q
    exact absurd (congrArg Obj.data (Option.some.inj q)) (by intro z; cases z)
  generalize hH : entryH K a (scrObj vs) ns ts = H
  have cases_ : ∀ b, H b = none ∨ (b ∈ ts ∧ H b = some (.tbl #[])) ∨ (b ∉ ts ∧ b = a ∧ K.lookup a = none ∧ H b = some (.frz (scrObj vs) (.lst (ns.map V.int)))) := fun b => by rw [← hH]; exact entryH_cases b
  have tabs : ∀ p ∈ cs, H p.2 = some (.tbl #[]) := fun p hp => by rw [← hH]; exact entryH_tab (inT p hp)
  have hS : SqL K H a (ns.map V.int) := by
    cases hk : K.lookup a with
    | none => exact .inl (.inr ⟨scrObj vs, by rw [← hH]; exact (if_neg aT).trans (if_pos ⟨rfl, by rw [hk]; rfl⟩)⟩)
    | some u =>
      have e := KX a u hk
      rw [ha] at e
      cases e
      exact .inr ⟨_, vs.toArray, _, hk, rfl, rfl, rfl, by rw [List.size_toArray, lenV]; exact hl, by simpa using rv⟩
  have hok : HOk P w H s.heap := fun b u e => by
    rcases cases_ b with z | ⟨hb, z⟩ | ⟨_, rfl, _, z⟩
    · rw [z] at e; cases e
    · rw [z] at e; cases e
      exact (tsT b hb).1
    · rw [z] at e; cases e
      exact ⟨ha, by rw [List.length_map]; exact hl, vs, _, rv, ha⟩
  -- what is no list and no empty table is not tracked
  have clear : ∀ {b : Addr} {o : Obj}, s.heap.get? b = some o → (∀ ys n, o.data ≠ .seq ys n) → o.data ≠ .fields #[] → H b = none := fun {b o} e h1 h2 => by
    rcases cases_ b with z | ⟨hb, _⟩ | ⟨_, rfl, _, _⟩
    · exact z
    · rw [(tsT b hb).1] at e; cases e
      exact absurd rfl h2
    · rw [ha] at e; cases e
      exact absurd rfl (h1 _ _)
  have nsB : ∀ {b : Addr} {m : Str → Option Value}, s.heap.Ns b m → (hidT s.heap H).Ns b m := fun {b m} ⟨o, es, ep, e, d, r⟩ =>
    ⟨o, es, ep, hidT_get e (clear e (fun ys n z => by rw [d] at z; cases z) fun z => by rw [d] at z; cases z), d, r⟩
  have kB : K.In (hidT s.heap H) := fun b o e => hidT_get (KX b o e) (by
    rcases cases_ b with z | ⟨hb, _⟩ | ⟨_, rfl, hk, _⟩
    · exact z
    · rw [(tsT b hb).2] at e; cases e
    · rw [hk] at e; cases e)
  have modB : L2.Mod K mg (hidT s.heap H) := ⟨kB, nsB gl, ⟨mb, nsB bl, bb⟩, let ⟨mc, h1, h2⟩ := lim; ⟨mc, nsB h1, h2⟩⟩
  have noGl : ∀ {b : Addr} {o : Obj}, s.heap.get? b = some o → (∀ es ep, o.data ≠ .dict es ep) → b ≠ mainGlobals := fun {b o} e h z => by
    obtain ⟨o', es, ep, e', hd, _⟩ := gl
    rw [← z, e] at e'
    cases e'
    exact h _ _ hd
  have tb : ∀ p ∈ cs, GxR.TabB (hidT s.heap H) mg p.1 p.2 := fun p hp => by
    obtain ⟨t1, _, o, us, file, tf, flags, tg, inF, text, tt, e1, r1, r2, r3, r⟩ := hT p hp
    obtain ⟨b, ob, b1, b2, b3, b4, b5, b6⟩ := bm
    refine ⟨⟨o, us, file, tf, flags, tg, inF, text, tt, hidT_get e1 (clear e1 (fun ys n z => by rw [r2] at z; cases z) fun z => ?_), r1, r2, r3, r⟩,
      ⟨b, ob, b1, b2, noGl b3 (fun es ep z => by rw [b6] at z; cases z), fun q => ?_, hidT_get b3 (clear b3 (fun ys n z => by rw [b6] at z; cases z) fun z => by rw [b6] at z; cases z), b4, b5, b6⟩, (noGl t1 (fun es ep z => by cases z)).symm⟩
    · rw [r2] at z
      cases z
      simp at r3
    · rw [q, t1] at b3
      cases b3
      cases b6
  have e0 : Env0 P w K mg (hidT s.heap H) callerA [] s H :=
    ⟨rfl, modB, fun b o e => of_hidT e, Nat.le_of_eq (hidT_size _ _), trivial, (fun b hb => absurd (show b ∈ ([] : List Addr) from hb) (by simp)), hok, .of_eq g0⟩
  refine codeAny_mono ((F _ kB (nsB gl) tb).run callerA [] s H ⟨[.ref a], []⟩ [.ref a] [.ref a] _ E0 rfl hr e0 (hbind s (.ref a)) (.cons rfl .nil) (hsp H (fun p hp => ⟨#[], tabs p hp, by
    unfold TriplesOk
    trivial⟩) hS)) fun r s' h => ?_
  cases r with
  | error e => exact False.elim h
  | ok fl =>
    cases fl with
    | next => exact False.elim h
    | brk => exact False.elim h
    | cont => exact False.elim h
    | ret u =>
      obtain ⟨v, H', os, bare, un, hok', r', rfl⟩ := h
      obtain rfl : u = Value.bool true := r'
      have same : ∀ b o, b ∉ ts → s.heap.get? b = some o → s'.heap.get? b = some o := fun b o hb e => by
        rcases cases_ b with z | ⟨h1, _⟩ | ⟨_, rfl, _, z⟩
        · exact un.keep b o e z (by intro y; cases y) (by intro y; cases y)
        · exact absurd h1 hb
        · have z1 := (hok b _ z).1
          have z2 := (hok' b _ (un.frzs b _ _ z)).1
          rw [e] at z1
          cases z1
          exact z2
      have tabG : ∀ b ∈ ts, ∃ more : Array Value, s'.heap.get? b = some { cls := .none, data := .fields more } := fun b hb => by
        obtain ⟨more, z⟩ := un.tbls b #[] (by rw [← hH]; exact entryH_tab hb)
        exact ⟨_, hok' b _ z⟩
      refine ⟨rfl, ⟨fun b o e => ?_, fun b o e => ?_⟩, os, bare⟩
      · by_cases hb : b ∈ ts
        · obtain ⟨more, hm⟩ := tabG b hb
          have hb2 := hb
          rw [← hts] at hb2
          obtain ⟨p, hp, rfl⟩ := List.mem_map.mp hb2
          obtain ⟨t1, _, C⟩ := hT p hp
          rw [t1] at e
          cases e
          exact .inr (.inl ⟨(C.tab t1).isCodeTable, rfl, #[], more, rfl, by rw [Array.empty_append]; exact hm⟩)
        · exact .inl (same b o hb e)
      · by_cases hb : b ∈ ts
        · obtain ⟨more, hm⟩ := tabG b hb
          exact ⟨_, hm⟩
        · exact ⟨o, same b o hb e⟩

/-- what is to be shown of the law's promise at the head's heap -/
def LawG (l : PySem.W.OpenLaw) (w : World) (K : PySem.W.Frag) (k n : Nat) (x : Str) (mg : Str → Option Value) (fa : Addr) (h : Heap) : Prop :=
  ∃ (fd : FuncData) (cs : List (Addr × Addr)) (sp : Sp), (∀ p ∈ cs, h.get? p.2 = some tab0 ∧ K.lookup p.2 = none ∧ PySem.W.CodeHd h p.1 p.2) ∧ (∀ (s : Shared) (u : Value), BindsTo s fd ⟨[u], []⟩ [(x, u)]) ∧
    (∀ (H : Hp) (a : Addr) (ns : List Int), ns.length ≤ n → (∀ z ∈ ns, Builtin.Int.intBits z ≤ 1048576) → (∀ p ∈ cs, GxR.TabG H p.2) → SqL K H a (ns.map V.int) → sp [.ref a] H (fun v _ => v = .bl true) E0) ∧
    ∀ base : Heap, K.In base → base.Ns mainGlobals mg → (∀ p ∈ cs, GxR.TabB base mg p.1 p.2) → FnG l.prog w K mg base k fa fd [x] sp
theorem walkG {l : PySem.W.OpenLaw} {n k : Nat} {q : Program} {loose : List Str} {XP : (Str → Option Value) → Heap → Prop} {YP : World → Heap → Prop} {d : DefRec} {K : Params → PySem.W.Frag} {x : Str}
    (hn : l.most = some n) (hn2 : n ≤ sizeLine) (hdf : d.params.defaults = []) (hr : Room k callerA) (hY : ∀ (w : World) (h : Heap), YP w h → (K w.params).In h)
    (F : ∀ (w : World) (mg : Str → Option Value) (fa : Addr) (h : Heap), (K w.params).In h → h.Ns mainGlobals mg → mg d.name = some (.ref fa) →
      (∀ (d' : DefRec) (y : Str) (c P : Addr), (recsOf q).find? (fun e => e.name == y) = some d' → PySem.W.tabIn (K w.params) y = some (c, P) → PySem.W.CodeHd h c P ∧ h.get? P = some tab0) → LawG l w (K w.params) k n x mg fa h) :
    PySem.W.WalkO q loose XP YP l.row.toRowW d [] (fun f vs => PySem.call f vs) := by
  refine Att.attach_callB hn hdf fun w s₀ s₁ mg mb fa o pm cd doc a vs ns G Y ho hd hcd hmg hobj hints hlen hbits hg => ?_
  have KX := hY w _ Y
  obtain ⟨fd, cs, sp, hT, hb, hsp, hF⟩ := F w mg fa _ KX G.T.g hmg fun d' y c P h1 h2 => PySem.W.tab_of G.T KX h1 h2
  exact enterG KX G.T.g G.T.b G.T.builtins G.T.nolimit hg hT G.T.bmain hobj hints (Nat.le_trans hlen hn2) hr hb hF fun H h1 h2 => hsp H a ns hlen hbits h1 h2
end Gx
set_option Elab.async false
set_option linter.all false
set_option maxRecDepth 100000
set_option maxHeartbeats 4000000
namespace Gx
open PySem PySem.Spec PyProof.Rows L2 GenW
open Sem (wp)
open AutoSeq1 (wpAny_loadPart')

/-! ### enumerate over a tuple -/
theorem meets_enumT (a : Addr) (items : Array Value) :
    Meets (Builtin.«enumerate.__new__» ⟨[.type "enumerate", .ref a], []⟩) (fun _ R s => s.heap.IsTuple a items ∧
      R (.ok (.ret (.ref (s.heap.push { cls := .type "tuple_iterator", data := .fields #[.ref a, .int 0 0] }).objs.size)))
        { s with heap := (s.heap.push { cls := .type "tuple_iterator", data := .fields #[.ref a, .int 0 0] }).push { cls := .type "enumerate", data := .fields #[.none, .bool false, .ref s.heap.objs.size, rawInt 0, .none, .none] } }) :=
  .of_wp fun prog w A R s h => by
    obtain ⟨hp, g, d, tk, os⟩ := s
    obtain ⟨hT, h⟩ := h
    have hsub := sub_enumerate
    have q1 : ∀ {A' : Around} {E : Value → Shared → Prop} {Q : Value → Shared → Prop}, Q (.ref hp.objs.size) ⟨hp.push { cls := .type "tuple_iterator", data := .fields #[.ref a, .int 0 0] }, g, d, tk, os⟩ → wpAny (model prog w) A' (pyIter (.ref a)) Q E ⟨hp, g, d, tk, os⟩ :=
      fun q => (begins_tuple a items).iter prog w _ _ ⟨hp, g, d, tk, os⟩ _ hT q
    wp_walk using q1
    refine wpAny_stack_any fun st => wpAny_pure ?_
    split
    · rename_i c _ _ _ _ _
      cases (c == Value.type "enumerate")
      · wp_walk using q1
        exact ⟨_, rfl, h⟩
      · wp_walk using q1
        exact ⟨_, rfl, h⟩
    · wp_walk using q1
      exact ⟨_, rfl, h⟩
theorem call_enumT {prog : Program} {w : World} {A : Around} {E : Value → Shared → Prop} {s : Shared} {a : Addr} {items : Array Value} {Q : Value → Shared → Prop} (hT : s.heap.IsTuple a items)
    (h : ∀ h', IsEnum h' (s.heap.objs.size + 1) s.heap.objs.size 0 .none → h'.IsTupleIter s.heap.objs.size a 0 → h'.objs.size = s.heap.objs.size + 2 →
      (∀ b o, s.heap.get? b = some o → h'.get? b = some o) → Q (.ref (s.heap.objs.size + 1)) { s with heap := h' }) :
    wpAny (model prog w) A (call (.type "enumerate") [.ref a]) Q E s := by
  refine callType_new F.called_enumerate (by decide) (F.typeCall_enumerate_1 _) (F.newCall_enumerate_1 _) (fun obj => F.args_object_init_2 obj _) F.entry_enumerate_new (meets_enumT a items) ⟨hT, ?_⟩
  generalize ho : ({ cls := .type "tuple_iterator", data := .fields #[.ref a, .int 0 0] } : Obj) = o1
  have hz : (s.heap.push o1).objs.size = s.heap.objs.size + 1 := Heap.size_push ..
  show _ ∧ _
  rw [hz]
  have he : IsEnum ((s.heap.push o1).push { cls := .type "enumerate", data := .fields #[.none, .bool false, .ref s.heap.objs.size, rawInt 0, .none, .none] }) (s.heap.objs.size + 1) s.heap.objs.size 0 .none := by
    have q := Heap.get?_push_size (s.heap.push o1) (o := { cls := .type "enumerate", data := .fields #[.none, .bool false, .ref s.heap.objs.size, rawInt 0, .none, .none] }) rfl
    rw [hz] at q
    exact q
  refine ⟨⟨_, he, rfl⟩, h _ he ⟨o1, Heap.get?_push_of_some _ (Heap.get?_push_size _ (by rw [← ho]; rfl)), (by subst ho; rfl), (by subst ho; rfl)⟩ (by rw [Heap.size_push, hz]) fun b o x => Heap.get?_push_of_some _ (Heap.get?_push_of_some _ x)⟩

def IteT (K : PySem.W.Frag) (a : Addr) : It :=
  ⟨fun i H => ∃ xs x, SqT K H a xs ∧ xs[i]? = some x, fun i H v H' => ∃ T x, v = .ref T ∧ H T = none ∧ H' = upd H T (.tup [.int (i : Nat), x]) ∧ ∀ xs, SqT K H a xs → xs[i]? = some x, fun i H => ∃ xs, SqT K H a xs ∧ xs.length ≤ i⟩
theorem turn_enumT {P : Program} {w : World} {K : PySem.W.Frag} {elts : List Expr} {kk : Nat} {tpos : Pos} (a e it : Addr) :
    Turn P w K (.Tuple elts kk tpos) (IteT K a) [e, it] e (fun i h => (∃ old, IsEnum h e it ((i : Nat) : Int) old) ∧ h.IsTupleIter it a i ∧ e ≠ it ∧ a ≠ it ∧ a ≠ e) where
  mem := List.mem_cons_self
  obj := fun i h st b hb => by
    obtain ⟨⟨old, he⟩, ⟨o, ho, _, hd⟩, _⟩ := st
    rcases List.mem_cons.mp hb with z | z
    · exact ⟨_, (by rw [z]; exact he), fun v q => by cases q⟩
    · rw [List.mem_singleton.mp z]
      exact ⟨o, ho, fun v q => by rw [hd] at q; cases q⟩
  keep := fun i h h' st k => let ⟨⟨old, he⟩, hi, r⟩ := st; ⟨⟨old, k e List.mem_cons_self _ he⟩, hi.at fun o q => k it (List.mem_cons_of_mem _ List.mem_cons_self) o q, r⟩
  item := by
    intro X hP hw hK hc i pins s σ H E I hf st hg
    subst hP hw hK
    obtain ⟨⟨old, he⟩, hit, hne, hai, hae⟩ := st
    obtain ⟨xs, x, hq, hx⟩ := hg
    obtain ⟨its, rv, p, hz⟩ := I.tuple hq
    obtain ⟨u, hu, ru⟩ := rv.get hx
    have hel : e < s.heap.objs.size := Heap.lt_size he
    have hil : it < s.heap.objs.size := by obtain ⟨_, q, _⟩ := hit; exact Heap.lt_size q
    have hlt : i < its.toArray.size := by
      rw [List.size_toArray]
      exact (List.getElem?_eq_some_iff.mp hu).1
    refine wpAny_pyNext_enum_itemD (Draws.tuple (A := X.A.in1) (I.ok.hd hc) it a hai its.toArray) he ⟨hit, p⟩ hlt hne (fun z => ?_) fun y h' tk hy ho hst' hT hsz hk => ?_
    · rcases List.mem_cons.mp z with z | z
      · exact hne z
      · exact hae (List.mem_singleton.mp z).symm
    obtain rfl : u = y := by
      have q : its[i]? = some y := by simpa using hy
      rw [hu] at q
      exact Option.some.inj q
    obtain ⟨hit', _⟩ := hst'
    refine ⟨_, rfl, wpAny_letOwnedTupleGo_enum (s := { s with heap := h', toks := tk + 1 }) ho fun h'' he' sb => ?_⟩
    have hT2 : h''.get? s.heap.objs.size = some { cls := .type "tuple", data := .seq #[.int i tk, u] } := (sb.2 _ (Nat.ne_of_gt hel)).trans hT
    have new : ObjOk X.prog X.w (upd H s.heap.objs.size (.tup [.int (i : Nat), x])) h'' s.heap.objs.size (.tup [.int (i : Nat), x]) :=
      ⟨by show 2 ≤ sizeLine; decide, [.int i tk, u], .cons ⟨_, rfl⟩ (.cons ru .nil), ⟨_, hT2, rfl, _, rfl⟩⟩
    have I1 : Inv X pins σ (upd H s.heap.objs.size (.tup [.int (i : Nat), x])) { s with heap := h'', toks := tk + 1 } :=
      I.turnedNew (ch := [e, it]) (fun b ob hb q => (sb.2 b (fun z => hb (by rw [z]; exact List.mem_cons_self))).trans (hk b ob (fun z => hb (by rw [z]; exact List.mem_cons_self)) (fun z => hb (by rw [z]; exact List.mem_cons_of_mem _ List.mem_cons_self)) q)) hf (Nat.le_refl _) new
    refine ⟨.ref s.heap.objs.size, _, I1, rfl, ⟨_, x, rfl, I.hok.fresh (Nat.le_refl _), rfl, fun ys hy => by rw [I.tuple_inj hy hq]; exact hx⟩, ⟨⟨u, ?_⟩, hit'.at fun o q => (sb.2 it (Ne.symm hne)).trans q, hne, hai, hae⟩, fun b hb => ?_⟩
    · have e1 : ((i + 1 : Nat) : Int) = (i : Int) + 1 := by omega
      rw [e1]; exact he'
    · have hb' : b < s.heap.objs.size := by
        rcases List.mem_cons.mp hb with z | z
        · rw [z]; exact hel
        · rw [List.mem_singleton.mp z]; exact hil
      rw [upd_ne (Nat.ne_of_lt hb')]
      exact (hf b hb).1
  done := by
    intro X hP hw hK hc i pins s σ H E I hf st hg
    subst hP hw hK
    obtain ⟨⟨old, he⟩, hit, hne, hai, hae⟩ := st
    obtain ⟨xs, hq, hx⟩ := hg
    obtain ⟨its, rv, p, hz⟩ := I.tuple hq
    obtain ⟨f0, f1, f2, f3, f4, f5⟩ := hf it (List.mem_cons_of_mem _ List.mem_cons_self)
    have hT : s.TypeIs (.ref e) "enumerate" := ⟨_, he, rfl⟩
    have hl := rv.length
    unfold pyNext
    refine wpAny_bind (wpAny_attempt (wpAny_callSpecial?_slot (name := Str.ofString "__next__") hT F.slot_enumerate_next
      (wpAny_call_entry F.slot_enumerate_next hT F.entry_enumerate_next ?_ (F.args_enumerate_next_1 _))))
    show wpAny _ _ (field (.ref e) 2 >>= _) _ _ _
    refine wpAny_bind (wpAny_field he rfl (x := .ref it) rfl ?_)
    refine wpAny_bind (wpAny_nextOf_tuple_end (A := X.A.in1) (I.ok.hd hc) hit p (by simp; omega) fun h' x he' hx' => ?_)
    obtain ⟨o, ho, hc⟩ := hx'
    refine wpAny_bind (wpAny_isInstance (T := "StopIteration") (b := true) ⟨o, ho, hc⟩ isSubtype_stop ?_)
    exact wpAny_pure ⟨rfl, I.turned (t' := s.toks) (fun b o hb q => he' b o hb q) f0 f1 f3 f4 f5⟩
  self := fun A i s Q E st h => let ⟨⟨_, he⟩, _⟩ := st; wpAny_pyIter_enum he h
def iEnumT (K : PySem.W.Frag) (ta : TA) : TI := fun σ H R => ta σ H fun vs H1 => ∃ a xs, vs = [.ref a] ∧ SqT K H1 a xs ∧ R (IteT K a) H1
theorem pi_enumT {X : Cx} {e : Expr} {ta : TA} {p pos tpos : Pos} {elts : List Expr} {kk : Nat} (hg : Gl X "enumerate") (hm : X.mg "enumerate" = none) (ha : PA X [e] ta) (hs : starEach [e] X.env = [(false, eval e X.env)] := by rfl) :
    PI X (.Tuple elts kk tpos) (.Call (.Name "enumerate" p) [e] [] pos) (iEnumT X.K ta) := by
  refine ⟨fun pins s σ H R I h => ?_⟩
  refine Call_ (ld_blt I hg hm boot_enumerate (PyProof.Rows.callWith_type1 (thn (ha.run pos pins s σ H _ I h) fun us s1 ⟨vs, H1, I1, r1, q1⟩ => ?_) hs rfl))
  obtain ⟨a, xs, rfl, hq, q⟩ := q1
  cases r1 with
  | cons r rr =>
    cases rr
    cases r
    obtain ⟨its, rv, p', hz⟩ := I1.tuple hq
    have hal : a < s1.heap.objs.size := by obtain ⟨o, ho, _⟩ := id p'; exact Heap.lt_size ho
    refine call_enumT (show s1.heap.IsTuple a its.toArray from p') fun h' he hit hsz hk => wpAny_pyIter_enum he ?_
    have I2 : Inv X pins σ H1 { s1 with heap := h' } := I1.kept (t' := s1.toks) hk
    refine ⟨s1.heap.objs.size + 1, [s1.heap.objs.size + 1, s1.heap.objs.size], _, _, H1, rfl, I2, turn_enumT a (s1.heap.objs.size + 1) s1.heap.objs.size, ⟨⟨.none, he⟩, hit, Nat.succ_ne_self _, Nat.ne_of_lt hal, Nat.ne_of_lt (Nat.lt_succ_of_lt hal)⟩, fun b hb => ?_, q⟩
    have hle : s1.heap.objs.size ≤ b := by
      rcases List.mem_cons.mp hb with z | z
      · rw [z]; exact Nat.le_add_right _ _
      · rw [List.mem_singleton.mp z]; exact Nat.le_refl _
    exact I1.fpOk hle (I1.hok.fresh hle)
end Gx
set_option Elab.async false
set_option linter.all false
set_option maxRecDepth 100000
set_option maxHeartbeats 4000000
namespace Gx
open PySem PySem.Spec PyProof.Rows L2 GenW
open Sem (wp)
/-! ### enumerate(list, start=1) -/
section
variable {M : Model} {A : Around} {E : Value → Shared → Prop} {s : Shared} {env : Env}
theorem callWith_typeKw {pos : Pos} {T : String} {e : Expr} {rest : List Expr} {kws : List Keyword} {Q : Value → Shared → Prop}
    (h : wpAny M A (spliced (backTo pos (starEach (e :: rest) env))) (fun vs s₁ => wpAny M A (evalAll ((backToKw pos (keywordEach kws env)).map (·.2)))
      (fun kvs s₂ => wpAny M A (call (.type T) vs (((backToKw pos (keywordEach kws env)).filterMap (·.1)).zip kvs)) Q E s₂) E s₁) E s)
    (he : backTo pos (starEach (e :: rest) env) = (false, eval e env) :: backTo pos (starEach rest env) := by rfl)
    (hplain : (backTo pos (starEach (e :: rest) env)).any (·.1) = false := by rfl)
    (hall : (backToKw pos (keywordEach kws env)).all (·.1.isSome) = true := by rfl)
    (hkw : (backToKw pos (keywordEach kws env)).any (·.1.isNone) = false := by rfl) :
    wpAny M A (callWith pos (.type T) [] (backTo pos (starEach (e :: rest) env)) (backToKw pos (keywordEach kws env))) Q E s := by
  rw [he] at h hplain ⊢
  have h2 := evalArgs_kwB (f := .type T) (Q := fun a s₁ => wpAny M A (call (.type T) ([] ++ a.pos) a.kw) Q E s₁) hall h
  unfold callWith
  refine wpAny_bind (wpAny_holding (wpAny_mono h2 (fun a s₁ h₁ => wpAny_bind (wpAny_standAt ?_)) fun _ _ x => x))
  simp only [hplain, hkw, Bool.or_false]
  refine wpAny_bind (wpAny_pure ?_)
  exact wpAny_bind (wpAny_mono h₁ (fun r s₂ hr => wpAny_bind (wpAny_holding (wpAny_point (wpAny_pure hr)))) fun _ _ x => x)
end
/-- the list at a as it stands at each turn, each item in a new pair, counted from k0 -/
def IteS (K : PySem.W.Frag) (a : Addr) (k0 : Int) : It :=
  ⟨fun i H => ∃ (xs : List V) (x : V), SqL K H a xs ∧ xs[i]? = some x, fun i H v H' => ∃ T x, v = .ref T ∧ H T = none ∧ H' = upd H T (.tup [.int ((i : Nat) + k0), x]) ∧ ∀ xs, SqL K H a xs → xs[i]? = some x, fun i H => ∃ xs : List V, SqL K H a xs ∧ xs.length ≤ i⟩
theorem turn_enumS {P : Program} {w : World} {K : PySem.W.Frag} {elts : List Expr} {kk : Nat} {tpos : Pos} (a e it : Addr) (k0 : Int) :
    Turn P w K (.Tuple elts kk tpos) (IteS K a k0) [e, it] e (fun i h => (∃ old, IsEnum h e it (((i : Nat) : Int) + k0) old) ∧ h.IsListIter it a i ∧ e ≠ it ∧ a ≠ it ∧ a ≠ e) where
  mem := List.mem_cons_self
  obj := fun i h st b hb => by
    obtain ⟨⟨old, he⟩, ⟨o, ho, _, hd⟩, _⟩ := st
    rcases List.mem_cons.mp hb with z | z
    · exact ⟨_, (by rw [z]; exact he), fun v q => by cases q⟩
    · rw [List.mem_singleton.mp z]
      exact ⟨o, ho, fun v q => by rw [hd] at q; cases q⟩
  keep := fun i h h' st k => let ⟨⟨old, he⟩, hi, r⟩ := st; ⟨⟨old, k e List.mem_cons_self _ he⟩, hi.at fun o q => k it (List.mem_cons_of_mem _ List.mem_cons_self) o q, r⟩
  item := by
    intro X hP hw hK hc i pins s σ H E I hf st hg
    subst hP hw hK
    obtain ⟨⟨old, he⟩, hit, hne, hai, hae⟩ := st
    obtain ⟨xs, x, hq, hx⟩ := hg
    obtain ⟨its, rv, p, hz⟩ := I.list hq
    obtain ⟨u, hu, ru⟩ := rv.get hx
    have hel : e < s.heap.objs.size := Heap.lt_size he
    have hil : it < s.heap.objs.size := by obtain ⟨_, q, _⟩ := hit; exact Heap.lt_size q
    have hlt : i < its.toArray.size := by
      rw [List.size_toArray]
      exact (List.getElem?_eq_some_iff.mp hu).1
    refine wpAny_pyNext_enum_itemC (Draws.list (A := X.A.in1) (I.ok.hd hc) it a hai its.toArray) he ⟨hit, p.isList⟩ hlt hne (fun z => ?_) fun y h' tk hy ho hst' hT hsz hk => ?_
    · rcases List.mem_cons.mp z with z | z
      · exact hne z
      · exact hae (List.mem_singleton.mp z).symm
    obtain rfl : u = y := by
      have q : its[i]? = some y := by simpa using hy
      rw [hu] at q
      exact Option.some.inj q
    obtain ⟨hit', _⟩ := hst'
    refine ⟨_, rfl, wpAny_letOwnedTupleGo_enum (s := { s with heap := h', toks := tk + 1 }) ho fun h'' he' sb => ?_⟩
    have hT2 : h''.get? s.heap.objs.size = some { cls := .type "tuple", data := .seq #[.int ((i : Int) + k0) tk, u] } := (sb.2 _ (Nat.ne_of_gt hel)).trans hT
    have new : ObjOk X.prog X.w (upd H s.heap.objs.size (.tup [.int ((i : Nat) + k0), x])) h'' s.heap.objs.size (.tup [.int ((i : Nat) + k0), x]) :=
      ⟨by show 2 ≤ sizeLine; decide, [.int ((i : Int) + k0) tk, u], .cons ⟨_, rfl⟩ (.cons ru .nil), ⟨_, hT2, rfl, _, rfl⟩⟩
    have I1 : Inv X pins σ (upd H s.heap.objs.size (.tup [.int ((i : Nat) + k0), x])) { s with heap := h'', toks := tk + 1 } :=
      I.turnedNew (ch := [e, it]) (fun b ob hb q => (sb.2 b (fun z => hb (by rw [z]; exact List.mem_cons_self))).trans (hk b ob (fun z => hb (by rw [z]; exact List.mem_cons_self)) (fun z => hb (by rw [z]; exact List.mem_cons_of_mem _ List.mem_cons_self)) q)) hf (Nat.le_refl _) new
    refine ⟨.ref s.heap.objs.size, _, I1, rfl, ⟨_, x, rfl, I.hok.fresh (Nat.le_refl _), rfl, fun ys hy => by rw [I.list_inj hy hq]; exact hx⟩, ⟨⟨u, ?_⟩, hit'.at fun o q => (sb.2 it (Ne.symm hne)).trans q, hne, hai, hae⟩, fun b hb => ?_⟩
    · have e1 : ((i + 1 : Nat) : Int) + k0 = (i : Int) + k0 + 1 := by omega
      rw [e1]; exact he'
    · have hb' : b < s.heap.objs.size := by
        rcases List.mem_cons.mp hb with z | z
        · rw [z]; exact hel
        · rw [List.mem_singleton.mp z]; exact hil
      rw [upd_ne (Nat.ne_of_lt hb')]
      exact (hf b hb).1
  done := by
    intro X hP hw hK hc i pins s σ H E I hf st hg
    subst hP hw hK
    obtain ⟨⟨old, he⟩, hit, hne, hai, hae⟩ := st
    obtain ⟨xs, hq, hx⟩ := hg
    obtain ⟨its, rv, p, hz⟩ := I.list hq
    obtain ⟨f0, f1, f2, f3, f4, f5⟩ := hf it (List.mem_cons_of_mem _ List.mem_cons_self)
    have hT : s.TypeIs (.ref e) "enumerate" := ⟨_, he, rfl⟩
    have hl := rv.length
    unfold pyNext
    refine wpAny_bind (wpAny_attempt (wpAny_callSpecial?_slot (name := Str.ofString "__next__") hT F.slot_enumerate_next
      (wpAny_call_entry F.slot_enumerate_next hT F.entry_enumerate_next ?_ (F.args_enumerate_next_1 _))))
    show wpAny _ _ (field (.ref e) 2 >>= _) _ _ _
    refine wpAny_bind (wpAny_field he rfl (x := .ref it) rfl ?_)
    refine wpAny_bind (wpAny_nextOf_list_end (A := X.A.in1) (I.ok.hd hc) hit p.isList (by simp; omega) fun h' x he' hx' => ?_)
    obtain ⟨o, ho, hc⟩ := hx'
    refine wpAny_bind (wpAny_isInstance (T := "StopIteration") (b := true) ⟨o, ho, hc⟩ isSubtype_stop ?_)
    exact wpAny_pure ⟨rfl, I.turned (t' := s.toks) (fun b o hb q => he' b o hb q) f0 f1 f3 f4 f5⟩
  self := fun A i s Q E st h => let ⟨⟨_, he⟩, _⟩ := st; wpAny_pyIter_enum he h
def iEnumS (K : PySem.W.Frag) (ta tk : TA) : TI := fun σ H R => ta σ H fun vs H1 => tk σ H1 fun zs H2 => ∃ a xs k0, vs = [.ref a] ∧ zs = [.int k0] ∧ SqL K H2 a xs ∧ -1000 ≤ k0 ∧ k0 ≤ 1000 ∧ R (IteS K a k0) H2
theorem pi_enumS {X : Cx} {e : Expr} {ta tk : TA} {kws : List Keyword} {p pos tpos : Pos} {elts : List Expr} {kk : Nat} (hg : Gl X "enumerate") (hm : X.mg "enumerate" = none) (ha : PA X [e] ta) (hk : PK X kws tk)
    (he : backTo pos (starEach [e] X.env) = (false, eval e X.env) :: backTo pos (starEach [] X.env) := by rfl) (hpl : (backTo pos (starEach [e] X.env)).any (·.1) = false := by rfl)
    (hall : (backToKw pos (keywordEach kws X.env)).all (·.1.isSome) = true := by rfl) (hnone : (backToKw pos (keywordEach kws X.env)).any (·.1.isNone) = false := by rfl) (hks : (backToKw pos (keywordEach kws X.env)).filterMap (·.1) = ([("start" : Str)]) := by rfl) :
    PI X (.Tuple elts kk tpos) (.Call (.Name "enumerate" p) [e] kws pos) (iEnumS X.K ta tk) := by
  refine ⟨fun pins s σ H R I h => ?_⟩
  refine wpAny_Call_Name_kw (ld_blt I hg hm boot_enumerate ?_)
  refine callWith_typeKw (thn (ha.run pos pins s σ H _ I h) fun us s1 ⟨vs, H1, I1, r1, q1⟩ => thn (hk.run pos pins s1 σ H1 _ I1 q1) fun ws s2 ⟨zs, H2, I2, r2, q2⟩ => ?_) he hpl hall hnone
  rw [hks]
  obtain ⟨a, xs, k0, rfl, rfl, hq, hk0, hk1, q⟩ := q2
  cases r1 with
  | cons r rr =>
    cases rr
    cases r
    cases r2 with
    | cons r2 rr2 =>
      cases rr2
      obtain ⟨tk2, rfl⟩ := r2
      obtain ⟨its, rv, p', hz⟩ := I2.list hq
      have hal : a < s2.heap.objs.size := by obtain ⟨o, ho, _⟩ := p'.isList; exact Heap.lt_size ho
      refine enum_begins_start (begins_list a its.toArray) p'.isList (by omega) (by omega) fun h' he hit hsz hk => wpAny_pyIter_enum he ?_
      have I3 : Inv X pins σ H2 { s2 with heap := h' } := I2.kept (t' := s2.toks) hk
      refine ⟨s2.heap.objs.size + 1, [s2.heap.objs.size + 1, s2.heap.objs.size], _, _, H2, rfl, I3, turn_enumS a (s2.heap.objs.size + 1) s2.heap.objs.size k0, ⟨⟨.none, by rw [show (((0 : Nat) : Int) + k0) = k0 by omega]; exact he⟩, ⟨_, hit, rfl, rfl⟩, Nat.succ_ne_self _, Nat.ne_of_lt hal, Nat.ne_of_lt (Nat.lt_succ_of_lt hal)⟩, fun b hb => ?_, q⟩
      have hle : s2.heap.objs.size ≤ b := by
        rcases List.mem_cons.mp hb with z | z
        · rw [z]; exact Nat.le_add_right _ _
        · rw [List.mem_singleton.mp z]; exact Nat.le_refl _
      exact I2.fpOk hle (I2.hok.fresh hle)
end Gx
set_option Elab.async false
set_option linter.all false
set_option maxRecDepth 100000
set_option maxHeartbeats 4000000
namespace Gx
open PySem PySem.Spec PyProof.Rows L2 GenW RZ

/-! ### turns by a bound -/
theorem by_n {J : It} {g : TG} {tt : TT} {te : TE} {vs : List Nat} {σ : L2.St} {K : GK} {H2 : Hp} (n : Nat) (Pv : Nat → List V → Hp → Prop) (h0 : Pv 0 [] H2) (hgo : ∀ i ys H, i < n → Pv i ys H → J.go i H) (hstop : ∀ ys H, Pv n ys H → J.stop n H)
    (hs : ∀ i ys H x H', i < n → Pv i ys H → J.yld i H x H' → g x (wipe σ vs) H' fun σ2 H2 => wipe σ2 vs = wipe σ vs ∧ tt σ2 H2 fun b H3 =>
      if b = true then te σ2 H3 fun y H4 => K.mid ys y H4 ∧ (K.go y → Pv (i + 1) (ys ++ [y]) H4) else Pv (i + 1) ys H3) (hd : ∀ ys H, Pv n ys H → K.done ys H) :
    ∃ W : Nat → Nat → List V → Hp → Prop, (∃ m, W 0 m [] H2) ∧ Turns J g tt te vs σ K W := by
  refine ⟨fun i m ys H => m = n - i ∧ i ≤ n ∧ Pv i ys H, ⟨n, rfl, Nat.zero_le _, h0⟩, ?_⟩
  rintro i m ys H ⟨rfl, hi, p⟩
  by_cases hlt : i < n
  · exact .inr ⟨hgo i ys H hlt p, by omega, Pv (i + 1), fun ys' H' p' => ⟨n - (i + 1), by omega, rfl, hlt, p'⟩, fun x H' y => hs i ys H x H' hlt p y⟩
  · have e : i = n := by omega
    subst e
    exact .inl ⟨hstop ys H p, hd ys H p⟩
theorem by_tup {Kf : PySem.W.Frag} {a : Addr} {xs : List V} {g : TG} {tt : TT} {te : TE} {vs : List Nat} {σ : L2.St} {K : GK} {H2 : Hp} (Pv : Nat → List V → Hp → Prop) (h0 : Pv 0 [] H2) (hl : ∀ i ys H, Pv i ys H → SqT Kf H a xs)
    (hs : ∀ i x ys H, xs[i]? = some x → Pv i ys H → g x (wipe σ vs) H fun σ2 H2 => wipe σ2 vs = wipe σ vs ∧ tt σ2 H2 fun b H3 =>
      if b = true then te σ2 H3 fun y H4 => K.mid ys y H4 ∧ (K.go y → Pv (i + 1) (ys ++ [y]) H4) else Pv (i + 1) ys H3) (hd : ∀ ys H, Pv xs.length ys H → K.done ys H) :
    ∃ W : Nat → Nat → List V → Hp → Prop, (∃ m, W 0 m [] H2) ∧ Turns (Itt Kf a) g tt te vs σ K W :=
  by_n xs.length Pv h0 (fun i ys H hi p => ⟨xs, xs[i], hl i ys H p, List.getElem?_eq_getElem hi⟩) (fun ys H p => ⟨xs, hl _ ys H p, Nat.le_refl _⟩)
    (fun i ys H x H' hi p y => by obtain ⟨rfl, f⟩ := y; exact hs i x ys _ (f xs (hl i ys _ p)) p) hd
theorem by_list {Kf : PySem.W.Frag} {a : Addr} {xs : List V} {g : TG} {tt : TT} {te : TE} {vs : List Nat} {σ : L2.St} {K : GK} {H2 : Hp} (Pv : Nat → List V → Hp → Prop) (h0 : Pv 0 [] H2) (hl : ∀ i ys H, Pv i ys H → SqL Kf H a xs)
    (hs : ∀ i x ys H, xs[i]? = some x → Pv i ys H → g x (wipe σ vs) H fun σ2 H2 => wipe σ2 vs = wipe σ vs ∧ tt σ2 H2 fun b H3 =>
      if b = true then te σ2 H3 fun y H4 => K.mid ys y H4 ∧ (K.go y → Pv (i + 1) (ys ++ [y]) H4) else Pv (i + 1) ys H3) (hd : ∀ ys H, Pv xs.length ys H → K.done ys H) :
    ∃ W : Nat → Nat → List V → Hp → Prop, (∃ m, W 0 m [] H2) ∧ Turns (Itl Kf a) g tt te vs σ K W :=
  by_n xs.length Pv h0 (fun i ys H hi p => ⟨xs, xs[i], hl i ys H p, List.getElem?_eq_getElem hi⟩) (fun ys H p => ⟨xs, hl _ ys H p, Nat.le_refl _⟩)
    (fun i ys H x H' hi p y => by obtain ⟨rfl, f⟩ := y; exact hs i x ys _ (f xs (hl i ys _ p)) p) hd
theorem by_enumT {Kf : PySem.W.Frag} {a : Addr} {xs : List V} {g : TG} {tt : TT} {te : TE} {vs : List Nat} {σ : L2.St} {K : GK} {H2 : Hp} (Pv : Nat → List V → Hp → Prop) (h0 : Pv 0 [] H2) (hl : ∀ i ys H, Pv i ys H → SqT Kf H a xs)
    (hs : ∀ i x T ys H, xs[i]? = some x → Pv i ys H → H T = none → g (.ref T) (wipe σ vs) (upd H T (.tup [.int (i : Nat), x])) fun σ2 H2 => wipe σ2 vs = wipe σ vs ∧ tt σ2 H2 fun b H3 =>
      if b = true then te σ2 H3 fun y H4 => K.mid ys y H4 ∧ (K.go y → Pv (i + 1) (ys ++ [y]) H4) else Pv (i + 1) ys H3) (hd : ∀ ys H, Pv xs.length ys H → K.done ys H) :
    ∃ W : Nat → Nat → List V → Hp → Prop, (∃ m, W 0 m [] H2) ∧ Turns (IteT Kf a) g tt te vs σ K W :=
  by_n xs.length Pv h0 (fun i ys H hi p => ⟨xs, xs[i], hl i ys H p, List.getElem?_eq_getElem hi⟩) (fun ys H p => ⟨xs, hl _ ys H p, Nat.le_refl _⟩)
    (fun i ys H v H' hi p y => by obtain ⟨T, x, rfl, hT, rfl, f⟩ := y; exact hs i x T ys _ (f xs (hl i ys _ p)) p hT) hd
theorem by_zipT {Kf : PySem.W.Frag} {a b : Addr} {xs zs : List V} {g : TG} {tt : TT} {te : TE} {vs : List Nat} {σ : L2.St} {K : GK} {H2 : Hp} (he : xs.length = zs.length) (Pv : Nat → List V → Hp → Prop) (h0 : Pv 0 [] H2) (hl : ∀ i ys H, Pv i ys H → SqT Kf H a xs ∧ SqT Kf H b zs)
    (hs : ∀ i x z T ys H, xs[i]? = some x → zs[i]? = some z → Pv i ys H → H T = none → g (.ref T) (wipe σ vs) (upd H T (.tup [x, z])) fun σ2 H2 => wipe σ2 vs = wipe σ vs ∧ tt σ2 H2 fun b H3 =>
      if b = true then te σ2 H3 fun y H4 => K.mid ys y H4 ∧ (K.go y → Pv (i + 1) (ys ++ [y]) H4) else Pv (i + 1) ys H3) (hd : ∀ ys H, Pv xs.length ys H → K.done ys H) :
    ∃ W : Nat → Nat → List V → Hp → Prop, (∃ m, W 0 m [] H2) ∧ Turns (ItzT Kf a b) g tt te vs σ K W :=
  by_n xs.length Pv h0 (fun i ys H hi p => ⟨xs, zs, xs[i], zs[i]'(by omega), (hl i ys H p).1, (hl i ys H p).2, List.getElem?_eq_getElem hi, List.getElem?_eq_getElem (by omega)⟩) (fun ys H p => ⟨xs, zs, (hl _ ys H p).1, (hl _ ys H p).2, .inl (Nat.le_refl _)⟩)
    (fun i ys H v H' hi p y => by obtain ⟨T, x, z, rfl, hT, rfl, f1, f2⟩ := y; exact hs i x z T ys _ (f1 xs (hl i ys _ p).1) (f2 zs (hl i ys _ p).2) p hT) hd

/-! ### heaps that went on: c the lists that may have changed -/
structure Ext (c : List Addr) (H H' : Hp) : Prop where
  keep : ∀ b o, H b = some o → (∀ ps, o ≠ .tbl ps) → b ∉ c → H' b = some o
  tup : ∀ b xs, H b = some (.tup xs) → H' b = some (.tup xs)
  frz : ∀ b u o, H b = some (.frz u o) → H' b = some (.frz u o)
  tab : ∀ P, GxR.TabG H P → GxR.TabG H' P
  dom : ∀ b, H' b = none → H b = none
namespace Ext
variable {c c' : List Addr} {H H1 H2 : Hp} {a p P : Addr} {K : PySem.W.Frag} {xs : List V}
theorem refl : Ext c H H := ⟨fun _ _ h _ _ => h, fun _ _ h => h, fun _ _ _ h => h, fun _ h => h, fun _ h => h⟩
theorem trans (x : Ext c H H1) (y : Ext c H1 H2) : Ext c H H2 :=
  ⟨fun b o h n hb => y.keep b o (x.keep b o h n hb) n hb, fun b xs h => y.tup b xs (x.tup b xs h), fun b u o h => y.frz b u o (x.frz b u o h), fun P h => y.tab P (x.tab P h), fun b h => x.dom b (y.dom b h)⟩
theorem mono (x : Ext c H H1) (h : ∀ b ∈ c, b ∈ c') : Ext c' H H1 := ⟨fun b o e n hb => x.keep b o e n fun z => hb (h b z), x.tup, x.frz, x.tab, x.dom⟩
theorem more (x : Ext [] H H1) : Ext c H H1 := x.mono fun _ h => by cases h
theorem new {o : HO} (h : H p = none) : Ext c H (upd H p o) :=
  ⟨fun b u e _ _ => by rw [upd_ne (ne_of_none e h)]; exact e, fun b u e => by rw [upd_ne (ne_of_none e h)]; exact e, fun b u o e => by rw [upd_ne (ne_of_none e h)]; exact e,
    fun P ⟨ps, e, t⟩ => ⟨ps, by rw [upd_ne (ne_of_none e h)]; exact e, t⟩, fun b e => by
      by_cases hb : b = p
      · rw [hb]; exact h
      · rw [upd_ne hb] at e; exact e⟩
theorem set {xs ys : List V} (hp : p ∈ c) (h : H p = some (.lst xs)) : Ext c H (upd H p (.lst ys)) := by
  have ne : ∀ {b : Addr} {u : HO}, H b = some u → (∀ xs, u ≠ .lst xs) → b ≠ p := fun {b u} e n z => by rw [z, h] at e; exact n xs (Option.some.inj e).symm
  refine ⟨fun b u e _ hb => ?_, fun b u e => ?_, fun b u o e => ?_, fun P ⟨ps, e, t⟩ => ⟨ps, ?_, t⟩, fun b e => ?_⟩
  · rw [upd_ne (fun z => hb (by rw [z]; exact hp))]; exact e
  · rw [upd_ne (ne e fun _ z => by cases z)]; exact e
  · rw [upd_ne (ne e fun _ z => by cases z)]; exact e
  · rw [upd_ne (ne e fun _ z => by cases z)]; exact e
  · by_cases hb : b = p
    · rw [hb, upd_same] at e; cases e
    · rw [upd_ne hb] at e; exact e
/-- a list that was made since may be written -/
theorem own {xs ys : List V} (x : Ext c H H1) (h0 : H p = none) (h1 : H1 p = some (.lst xs)) : Ext c H (upd H1 p (.lst ys)) := by
  have ne : ∀ {b : Addr} {u : HO}, H b = some u → b ≠ p := fun {b u} e => ne_of_none e h0
  refine ⟨fun b u e n hb => by rw [upd_ne (ne e)]; exact x.keep b u e n hb, fun b u e => by rw [upd_ne (ne e)]; exact x.tup b u e, fun b u o e => by rw [upd_ne (ne e)]; exact x.frz b u o e, fun P h => ?_, fun b e => ?_⟩
  · obtain ⟨ps, e, t⟩ := x.tab P h
    obtain ⟨_, e2, _⟩ := h
    exact ⟨ps, by rw [upd_ne (ne e2)]; exact e, t⟩
  · by_cases hb : b = p
    · rw [hb, upd_same] at e; cases e
    · rw [upd_ne hb] at e; exact x.dom b e
theorem tabbed (h : GxR.TabG H P) (t : GxR.Tabbed P H H1) : Ext c H H1 := by
  obtain ⟨ps, e0, t0⟩ := h
  obtain ⟨⟨ps', e1, t1⟩, k⟩ := t
  have ne : ∀ {b : Addr} {u : HO}, H b = some u → (∀ q, u ≠ .tbl q) → b ≠ P := fun {b u} e n z => by rw [z, e0] at e; exact n ps (Option.some.inj e).symm
  refine ⟨fun b u e n _ => by rw [k b (ne e n)]; exact e, fun b u e => by rw [k b (ne e fun _ z => by cases z)]; exact e, fun b u o e => by rw [k b (ne e fun _ z => by cases z)]; exact e, fun Q h => ?_, fun b e => ?_⟩
  · by_cases hQ : Q = P
    · rw [hQ]; exact ⟨ps', e1, t1⟩
    · obtain ⟨qs, e, t⟩ := h
      exact ⟨qs, by rw [k Q hQ]; exact e, t⟩
  · by_cases hb : b = P
    · rw [hb, e1] at e; cases e
    · rw [k b hb] at e; exact e
theorem sqT (x : Ext c H H1) (h : SqT K H a xs) : SqT K H1 a xs := by
  rcases h with h | h
  · rcases h with h | ⟨u, h⟩
    · exact .inl (.inl (x.tup _ _ h))
    · exact .inl (.inr ⟨u, x.frz _ _ _ h⟩)
  · exact .inr h
theorem sqL (x : Ext c H H1) (h : SqL K H a xs) (ha : a ∉ c) : SqL K H1 a xs := by
  rcases h with h | h
  · rcases h with h | ⟨u, h⟩
    · exact .inl (.inl (x.keep _ _ h (fun _ z => by cases z) ha))
    · exact .inl (.inr ⟨u, x.frz _ _ _ h⟩)
  · exact .inr h
theorem lst (x : Ext c H H1) (h : H a = some (.lst xs)) (ha : a ∉ c) : H1 a = some (.lst xs) := x.keep _ _ h (fun _ z => by cases z) ha
end Ext

/-! ### nets in the heap -/
abbrev Rd3 := Nat × Nat × Int
def RdAt (K : PySem.W.Frag) (H : Hp) (v : V) (r : Rd3) : Prop := ∃ p, v = .ref p ∧ SqT K H p [.int r.1, .int r.2.1, .int r.2.2]
def RdsAt (K : PySem.W.Frag) (H : Hp) (p : Addr) (rs : List Rd3) : Prop := ∃ vs, SqT K H p vs ∧ vs.length = rs.length ∧ ∀ (i : Nat) (r : Rd3), rs[i]? = some r → ∃ v, vs[i]? = some v ∧ RdAt K H v r
def NetAt (K : PySem.W.Frag) (H : Hp) (p : Addr) (ms : List Str) (rs : List Rd3) : Prop := ∃ mp rp, SqT K H p [.str "net", .ref mp, .ref rp] ∧ SqT K H mp (ms.map V.str) ∧ RdsAt K H rp rs
section
variable {K : PySem.W.Frag} {H H1 : Hp} {c : List Addr}
theorem RdAt.ext {v : V} {r : Rd3} (h : RdAt K H v r) (x : Ext c H H1) : RdAt K H1 v r := let ⟨p, e, q⟩ := h; ⟨p, e, x.sqT q⟩
theorem RdsAt.ext {p : Addr} {rs : List Rd3} (h : RdsAt K H p rs) (x : Ext c H H1) : RdsAt K H1 p rs := let ⟨vs, q, l, f⟩ := h; ⟨vs, x.sqT q, l, fun i r e => let ⟨v, e1, e2⟩ := f i r e; ⟨v, e1, e2.ext x⟩⟩
theorem NetAt.ext {p : Addr} {ms : List Str} {rs : List Rd3} (h : NetAt K H p ms rs) (x : Ext c H H1) : NetAt K H1 p ms rs := let ⟨mp, rp, q1, q2, q3⟩ := h; ⟨mp, rp, x.sqT q1, x.sqT q2, q3.ext x⟩
end
/-- the readings go between n marks -/
def Good (n : Nat) (rs : List Rd3) : Prop := ∀ r ∈ rs, r.1 < n ∧ r.2.1 < n ∧ r.1 ≠ r.2.1
def missR (hs : List Int) (r : Rd3) : Int := r.2.2 - hs.getD r.2.1 0 + hs.getD r.1 0
theorem snoc {α β : Type} (f : α → β) (l : List α) {i : Nat} (h : i < l.length) : (l.take i).map f ++ [f l[i]] = (l.take (i + 1)).map f := by
  rw [List.take_add_one, List.getElem?_eq_getElem h, List.map_append]
  rfl
theorem ints_snoc {α : Type} (f : α → Int) (l : List α) {i : Nat} (h : i < l.length) : ((l.take i).map f).map V.int ++ [.int (f l[i])] = ((l.take (i + 1)).map f).map V.int := by
  rw [← snoc f l h, List.map_append]
  rfl
theorem ints_at {hs : List Int} {i : Nat} (h : i < hs.length) : (hs.map V.int)[i]? = some (.int (hs.getD i 0)) := by
  rw [List.getElem?_map, List.getElem?_eq_getElem h, List.getD_eq_getElem?_getD, List.getElem?_eq_getElem h]
  rfl
/-! ### xs[i] for xs[i] op= e -/
def rGetL (K : PySem.W.Frag) : V → V → Hp → VK → Prop := fun x y H Q => ∃ p xs i v, x = .ref p ∧ y = .int (i : Nat) ∧ SqL K H p xs ∧ xs[i]? = some v ∧ Q v H
theorem get_list {X : Cx} : PGet X (rGetL X.K) := by
  intro pins s σ H o i ov iv Q I ro ri h
  obtain ⟨p, xs, j, v, rfl, rfl, hq, hv, q⟩ := h
  cases ro
  obtain ⟨t, rfl⟩ := ri
  obtain ⟨its, r, pl, hz⟩ := I.list hq
  obtain ⟨u, hu, ru⟩ := r.get hv
  have hj : j < xs.length := (List.getElem?_eq_some_iff.mp hv).1
  have hn := line63
  exact wpAny_getItem_list pl.isList (Int.natCast_nonneg _) (by omega) (x := u) (by simpa using hu) ⟨v, H, I, ru, q⟩
theorem ixN_nat {n i : Nat} (h : i < n) : ixN n (i : Int) = some i := by
  unfold ixN
  rw [if_pos (Int.natCast_nonneg _), if_pos (by omega)]
  rfl

/-! ### sums -/
theorem sumV_ints (ns : List Int) : sumV (ns.map V.int) = ns.sum := by
  unfold sumV
  rw [List.map_map]
  congr 1
  exact List.map_id' ns
theorem sum_bound {B : Int} (hB : 0 ≤ B) : ∀ l : List Int, (∀ x ∈ l, -B ≤ x ∧ x ≤ B) → -(l.length * B) ≤ l.sum ∧ l.sum ≤ l.length * B
  | [], _ => by simp
  | x :: r, h => by
    have ih := sum_bound hB r fun y hy => h y (List.mem_cons_of_mem _ hy)
    have hx := h x List.mem_cons_self
    have e : ((x :: r).length : Int) * B = r.length * B + B := by
      rw [List.length_cons]
      push_cast
      rw [Int.add_mul, Int.one_mul]
    rw [List.sum_cons, e]
    omega
/-- small sums of at most 1,000 numbers below 2 ^ 50 -/
theorem sum_long {l : List Int} (hl : l.length ≤ 1000) (h : ∀ x ∈ l, -(2 ^ 50) ≤ x ∧ x ≤ 2 ^ 50) : InLong l.sum := by
  have hb := sum_bound (B := 2 ^ 50) (by decide) l h
  have e : (l.length : Int) * 2 ^ 50 ≤ 1000 * 2 ^ 50 := Int.mul_le_mul_of_nonneg_right (by omega) (by decide)
  have e2 : (1000 : Int) * 2 ^ 50 < 2 ^ 63 := by decide
  exact ⟨by omega, by omega⟩
/-- the sum of the items so far, for sum -/
theorem mid_long {α : Type} (f : α → Int) (l : List α) {i : Nat} (hl : l.length ≤ 1000) (h : ∀ x ∈ l, -(2 ^ 50) ≤ f x ∧ f x ≤ 2 ^ 50) (hi : i < l.length) : InLong (f l[i]) ∧ InLong (sumV (((l.take i).map f).map V.int) + f l[i]) := by
  have hx := h l[i] (List.getElem_mem hi)
  refine ⟨⟨by omega, by omega⟩, ?_⟩
  have e : sumV (((l.take i).map f).map V.int) + f l[i] = ((l.take (i + 1)).map f).sum := by
    rw [sumV_ints, ← snoc f l hi, List.sum_append]
    simp
  rw [e]
  refine sum_long ?_ fun x hx => ?_
  · rw [List.length_map, List.length_take]
    omega
  · obtain ⟨y, hy, rfl⟩ := List.mem_map.mp hx
    exact h y (List.mem_of_mem_take hy)
end Gx
set_option Elab.async false
set_option linter.all false
set_option maxRecDepth 100000
set_option maxHeartbeats 4000000
namespace Gx
open PySem PySem.Spec PyProof.Rows L2 RZ
/-! ### data in the heap whose lists are none of c -/
mutual
def DQ (c : List Addr) (K : PySem.W.Frag) (H : Hp) : PyData → V → Prop
  | .none, v => v = .non
  | .bool b, v => v = .bl b
  | .int i, v => v = .int i
  | .str x, v => v = .str x
  | .list ds, v => ∃ a xs, v = .ref a ∧ a ∉ c ∧ SqL K H a xs ∧ DQs c K H ds xs
  | .tuple ds, v => ∃ a xs, v = .ref a ∧ SqT K H a xs ∧ DQs c K H ds xs
  | .dict _, _ => False
def DQs (c : List Addr) (K : PySem.W.Frag) (H : Hp) : List PyData → List V → Prop
  | [], xs => xs = []
  | d :: ds, xs => ∃ v vs, xs = v :: vs ∧ DQ c K H d v ∧ DQs c K H ds vs
end
section
variable {c : List Addr} {K : PySem.W.Frag} {H H' : Hp}
mutual
theorem DQ.ext (x : Ext c H H') : ∀ (d : PyData) (v : V), DQ c K H d v → DQ c K H' d v
  | .none, _, h => h
  | .bool _, _, h => h
  | .int _, _, h => h
  | .str _, _, h => h
  | .list ds, v, h => by
    rw [DQ] at h ⊢
    obtain ⟨a, xs, e, hc, hs, hq⟩ := h
    exact ⟨a, xs, e, hc, x.sqL hs hc, DQs.ext x ds xs hq⟩
  | .tuple ds, v, h => by
    rw [DQ] at h ⊢
    obtain ⟨a, xs, e, hs, hq⟩ := h
    exact ⟨a, xs, e, x.sqT hs, DQs.ext x ds xs hq⟩
  | .dict _, _, h => by rw [DQ] at h; exact h.elim
theorem DQs.ext (x : Ext c H H') : ∀ (ds : List PyData) (xs : List V), DQs c K H ds xs → DQs c K H' ds xs
  | [], _, h => by
    rw [DQs] at h ⊢
    exact h
  | d :: ds, xs, h => by
    rw [DQs] at h ⊢
    obtain ⟨v, vs, e, h1, h2⟩ := h
    exact ⟨v, vs, e, DQ.ext x d v h1, DQs.ext x ds vs h2⟩
end
mutual
theorem DQ.sub {c' : List Addr} (hs : ∀ a ∈ c', a ∈ c) : ∀ (d : PyData) (v : V), DQ c K H d v → DQ c' K H d v
  | .none, _, h => h
  | .bool _, _, h => h
  | .int _, _, h => h
  | .str _, _, h => h
  | .list ds, v, h => by
    rw [DQ] at h ⊢
    obtain ⟨a, xs, e, hc, hl, hq⟩ := h
    exact ⟨a, xs, e, fun z => hc (hs _ z), hl, DQs.sub hs ds xs hq⟩
  | .tuple ds, v, h => by
    rw [DQ] at h ⊢
    obtain ⟨a, xs, e, hl, hq⟩ := h
    exact ⟨a, xs, e, hl, DQs.sub hs ds xs hq⟩
  | .dict _, _, h => by rw [DQ] at h; exact h.elim
theorem DQs.sub {c' : List Addr} (hs : ∀ a ∈ c', a ∈ c) : ∀ (ds : List PyData) (xs : List V), DQs c K H ds xs → DQs c' K H ds xs
  | [], _, h => by
    rw [DQs] at h ⊢
    exact h
  | d :: ds, xs, h => by
    rw [DQs] at h ⊢
    obtain ⟨v, vs, e, h1, h2⟩ := h
    exact ⟨v, vs, e, DQ.sub hs d v h1, DQs.sub hs ds vs h2⟩
end
mutual
theorem DQ.dp : ∀ (d : PyData) (v : V), DQ c K H d v → Dp K H v d
  | .none, _, h => by rw [DQ] at h; subst h; exact .non
  | .bool _, _, h => by rw [DQ] at h; subst h; exact .bl _
  | .int _, _, h => by rw [DQ] at h; subst h; exact .int _
  | .str _, _, h => by rw [DQ] at h; subst h; exact .str _
  | .list ds, v, h => by
    rw [DQ] at h
    obtain ⟨a, xs, rfl, _, hl, hq⟩ := h
    exact .lst hl (DQs.dp ds xs hq)
  | .tuple ds, v, h => by
    rw [DQ] at h
    obtain ⟨a, xs, rfl, hl, hq⟩ := h
    exact .tup hl (DQs.dp ds xs hq)
  | .dict _, _, h => by rw [DQ] at h; exact h.elim
theorem DQs.dp : ∀ (ds : List PyData) (xs : List V), DQs c K H ds xs → DpAll K H xs ds
  | [], _, h => by rw [DQs] at h; subst h; exact .nil
  | d :: ds, xs, h => by
    rw [DQs] at h
    obtain ⟨v, vs, rfl, h1, h2⟩ := h
    exact .cons (DQ.dp d v h1) (DQs.dp ds vs h2)
end
theorem DQs.length : ∀ {ds : List PyData} {xs : List V}, DQs c K H ds xs → xs.length = ds.length
  | [], _, h => by rw [DQs] at h; subst h; rfl
  | d :: ds, xs, h => by
    rw [DQs] at h
    obtain ⟨v, vs, rfl, _, h2⟩ := h
    rw [List.length_cons, List.length_cons, DQs.length h2]
theorem DQs.at_ : ∀ {ds : List PyData} {xs : List V} {i : Nat} {v : V}, DQs c K H ds xs → xs[i]? = some v → ∃ d, ds[i]? = some d ∧ DQ c K H d v
  | [], _, i, v, h, e => by rw [DQs] at h; subst h; simp at e
  | d :: ds, xs, i, v, h, e => by
    rw [DQs] at h
    obtain ⟨v0, vs, rfl, h1, h2⟩ := h
    cases i with
    | zero => cases e; exact ⟨d, rfl, h1⟩
    | succ i => exact DQs.at_ (ds := ds) h2 e
theorem DQs.cons {d : PyData} {ds : List PyData} {v : V} {vs : List V} (h1 : DQ c K H d v) (h2 : DQs c K H ds vs) : DQs c K H (d :: ds) (v :: vs) := by
  rw [DQs]
  exact ⟨v, vs, rfl, h1, h2⟩
theorem DQs.nil : DQs c K H [] [] := by rw [DQs]
theorem DQs.app : ∀ {ds es : List PyData} {xs ys : List V}, DQs c K H ds xs → DQs c K H es ys → DQs c K H (ds ++ es) (xs ++ ys)
  | [], _, _, _, h, k => by rw [DQs] at h; subst h; exact k
  | d :: ds, es, xs, ys, h, k => by
    rw [DQs] at h
    obtain ⟨v, vs, rfl, h1, h2⟩ := h
    exact DQs.cons h1 (DQs.app h2 k)
theorem DQ.tup {a : Addr} {xs : List V} {ds : List PyData} (h : SqT K H a xs) (k : DQs c K H ds xs) : DQ c K H (.tuple ds) (.ref a) := by
  rw [DQ]
  exact ⟨a, xs, rfl, h, k⟩
theorem DQ.lst {a : Addr} {xs : List V} {ds : List PyData} (hc : a ∉ c) (h : SqL K H a xs) (k : DQs c K H ds xs) : DQ c K H (.list ds) (.ref a) := by
  rw [DQ]
  exact ⟨a, xs, rfl, hc, h, k⟩
theorem DQ.int (i : Int) : DQ c K H (.int i) (.int i) := by rw [DQ]
theorem DQ.bl (b : Bool) : DQ c K H (.bool b) (.bl b) := by rw [DQ]
theorem DQ.str (x : Str) : DQ c K H (.str x) (.str x) := by rw [DQ]
theorem DQ.non : DQ c K H .none .non := by rw [DQ]
theorem DQs.ints : ∀ ns : List Int, DQs c K H (ns.map .int) (ns.map V.int)
  | [] => DQs.nil
  | n :: r => DQs.cons (DQ.int n) (DQs.ints r)
theorem DQs.strs : ∀ ns : List Str, DQs c K H (ns.map .str) (ns.map V.str)
  | [] => DQs.nil
  | n :: r => DQs.cons (DQ.str n) (DQs.strs r)
/-! ### kinds -/
def tyD : PyData → String
  | .none => "NoneType"
  | .bool _ => "bool"
  | .int _ => "int"
  | .str _ => "str"
  | .list _ => "list"
  | .tuple _ => "tuple"
  | .dict _ => "dict"
theorem DQ.ty : ∀ (d : PyData) (v : V), DQ c K H d v → TyX K H v (.type (tyD d))
  | .none, _, h => by rw [DQ] at h; subst h; exact .base .non
  | .bool _, _, h => by rw [DQ] at h; subst h; exact .base (.bl _)
  | .int _, _, h => by rw [DQ] at h; subst h; exact .base (.int _)
  | .str _, _, h => by rw [DQ] at h; subst h; exact .base (.str _)
  | .list ds, v, h => by
    rw [DQ] at h
    obtain ⟨a, xs, rfl, _, hl, hq⟩ := h
    rcases hl with (h | ⟨o, h⟩) | ⟨o, its, n, h, hc, _⟩
    · exact .base (.lst h)
    · exact .base (.frz h)
    · exact .kList h hc
  | .tuple ds, v, h => by
    rw [DQ] at h
    obtain ⟨a, xs, rfl, hl, hq⟩ := h
    rcases hl with (h | ⟨o, h⟩) | ⟨o, its, n, h, hc, _⟩
    · exact .base (.tup h)
    · exact .fTuple h
    · exact .kTuple h hc
  | .dict _, _, h => by rw [DQ] at h; exact h.elim
def isInt : PyData → Bool
  | .int _ => true
  | _ => false
def isBool : PyData → Bool
  | .bool _ => true
  | _ => false
def isStr : PyData → Bool
  | .str _ => true
  | _ => false
def isTup : PyData → Bool
  | .tuple _ => true
  | _ => false
def isDict : PyData → Bool
  | .dict _ => true
  | _ => false
theorem kit_int : ∀ d : PyData, isDict d = false → PySem.W.kitOne K (.type (tyD d)) (.type "int") = some (isInt d || isBool d)
  | .none, _ => kit_ty (a := "NoneType") (b := "int") (r := false) (by decide +kernel)
  | .bool _, _ => kit_ty (a := "bool") (b := "int") (r := true) (by decide +kernel)
  | .int _, _ => kit_ty (a := "int") (b := "int") (r := true) (by decide +kernel)
  | .str _, _ => kit_ty (a := "str") (b := "int") (r := false) (by decide +kernel)
  | .list _, _ => kit_ty (a := "list") (b := "int") (r := false) (by decide +kernel)
  | .tuple _, _ => kit_ty (a := "tuple") (b := "int") (r := false) (by decide +kernel)
  | .dict _, h => by cases h
theorem kit_bool : ∀ d : PyData, isDict d = false → PySem.W.kitOne K (.type (tyD d)) (.type "bool") = some (isBool d)
  | .none, _ => kit_ty (a := "NoneType") (b := "bool") (r := false) (by decide +kernel)
  | .bool _, _ => kit_ty (a := "bool") (b := "bool") (r := true) (by decide +kernel)
  | .int _, _ => kit_ty (a := "int") (b := "bool") (r := false) (by decide +kernel)
  | .str _, _ => kit_ty (a := "str") (b := "bool") (r := false) (by decide +kernel)
  | .list _, _ => kit_ty (a := "list") (b := "bool") (r := false) (by decide +kernel)
  | .tuple _, _ => kit_ty (a := "tuple") (b := "bool") (r := false) (by decide +kernel)
  | .dict _, h => by cases h
theorem kit_str : ∀ d : PyData, isDict d = false → PySem.W.kitOne K (.type (tyD d)) (.type "str") = some (isStr d)
  | .none, _ => kit_ty (a := "NoneType") (b := "str") (r := false) (by decide +kernel)
  | .bool _, _ => kit_ty (a := "bool") (b := "str") (r := false) (by decide +kernel)
  | .int _, _ => kit_ty (a := "int") (b := "str") (r := false) (by decide +kernel)
  | .str _, _ => kit_ty (a := "str") (b := "str") (r := true) (by decide +kernel)
  | .list _, _ => kit_ty (a := "list") (b := "str") (r := false) (by decide +kernel)
  | .tuple _, _ => kit_ty (a := "tuple") (b := "str") (r := false) (by decide +kernel)
  | .dict _, h => by cases h
theorem kit_tup : ∀ d : PyData, isDict d = false → PySem.W.kitOne K (.type (tyD d)) (.type "tuple") = some (isTup d)
  | .none, _ => kit_ty (a := "NoneType") (b := "tuple") (r := false) (by decide +kernel)
  | .bool _, _ => kit_ty (a := "bool") (b := "tuple") (r := false) (by decide +kernel)
  | .int _, _ => kit_ty (a := "int") (b := "tuple") (r := false) (by decide +kernel)
  | .str _, _ => kit_ty (a := "str") (b := "tuple") (r := false) (by decide +kernel)
  | .list _, _ => kit_ty (a := "list") (b := "tuple") (r := false) (by decide +kernel)
  | .tuple _, _ => kit_ty (a := "tuple") (b := "tuple") (r := true) (by decide +kernel)
  | .dict _, h => by cases h
theorem DQ.nodict : ∀ {d : PyData} {v : V}, DQ c K H d v → isDict d = false
  | .dict _, _, h => by rw [DQ] at h; exact h.elim
  | .none, _, _ => rfl
  | .bool _, _, _ => rfl
  | .int _, _, _ => rfl
  | .str _, _, _ => rfl
  | .list _, _, _ => rfl
  | .tuple _, _, _ => rfl
end
end Gx
set_option Elab.async false
set_option linter.all false
set_option maxRecDepth 100000
set_option maxHeartbeats 4000000
namespace Gx
open PySem PySem.Spec PyProof.Rows L2 RZ
/-! ### for loops by a bound, over anything -/
theorem for_n {J : It} {g : TG} {tb : TS} {D : Ends} {σ : L2.St} {H : Hp} (n : Nat) (Pv : Nat → L2.St → Hp → Prop) (h0 : Pv 0 σ H) (hgo : ∀ i σ H, i < n → Pv i σ H → J.go i H) (hstop : ∀ σ H, Pv n σ H → J.stop n H)
    (hs : ∀ i σ H x H', i < n → Pv i σ H → J.yld i H x H' → g x σ H' fun σ2 H2 => tb { D with nx := Pv (i + 1), ct := Pv (i + 1), bk := D.nx } σ2 H2) (hd : ∀ σ H, Pv n σ H → D.nx σ H) :
    ∃ W : Nat → Nat → L2.St → Hp → Prop, (∃ m, W 0 m σ H) ∧ ∀ i m σ H, W i m σ H →
      (J.stop i H ∧ D.nx σ H) ∨ (J.go i H ∧ ∃ N : L2.St → Hp → Prop, (∀ σ' H', N σ' H' → ∃ m', m' < m ∧ W (i + 1) m' σ' H') ∧ ∀ x H', J.yld i H x H' → g x σ H' fun σ2 H2 => tb { D with nx := N, ct := N, bk := D.nx } σ2 H2) := by
  refine ⟨fun i m σ H => m = n - i ∧ i ≤ n ∧ Pv i σ H, ⟨n, rfl, Nat.zero_le _, h0⟩, ?_⟩
  rintro i m σ H ⟨rfl, hi, p⟩
  by_cases hlt : i < n
  · exact .inr ⟨hgo i σ H hlt p, Pv (i + 1), fun σ' H' p' => ⟨n - (i + 1), by omega, rfl, hlt, p'⟩, fun x H' y => hs i σ H x H' hlt p y⟩
  · have e : i = n := by omega
    subst e
    exact .inl ⟨hstop σ H p, hd σ H p⟩
theorem for_enumT {Kf : PySem.W.Frag} {a : Addr} {xs : List V} {g : TG} {tb : TS} {D : Ends} {σ : L2.St} {H : Hp} (Pv : Nat → L2.St → Hp → Prop) (h0 : Pv 0 σ H) (hl : ∀ i σ H, Pv i σ H → SqT Kf H a xs)
    (hs : ∀ i x T σ H, xs[i]? = some x → Pv i σ H → H T = none → g (.ref T) σ (upd H T (.tup [.int (i : Nat), x])) fun σ2 H2 => tb { D with nx := Pv (i + 1), ct := Pv (i + 1), bk := D.nx } σ2 H2) (hd : ∀ σ H, Pv xs.length σ H → D.nx σ H) :
    ∃ W : Nat → Nat → L2.St → Hp → Prop, (∃ m, W 0 m σ H) ∧ ∀ i m σ H, W i m σ H →
      ((IteT Kf a).stop i H ∧ D.nx σ H) ∨ ((IteT Kf a).go i H ∧ ∃ N : L2.St → Hp → Prop, (∀ σ' H', N σ' H' → ∃ m', m' < m ∧ W (i + 1) m' σ' H') ∧ ∀ x H', (IteT Kf a).yld i H x H' → g x σ H' fun σ2 H2 => tb { D with nx := N, ct := N, bk := D.nx } σ2 H2) :=
  for_n xs.length Pv h0 (fun i σ H hi p => ⟨xs, xs[i], hl i σ H p, List.getElem?_eq_getElem hi⟩) (fun σ H p => ⟨xs, hl _ σ H p, Nat.le_refl _⟩)
    (fun i σ H v H' hi p y => by obtain ⟨T, x, rfl, hT, rfl, f⟩ := y; exact hs i x T σ _ (f xs (hl i σ _ p)) p hT) hd
/-! ### steps from the marks -/
abbrev StepM := Nat × Int × Nat
def stepAt (i : Nat) (r : Rd3) (m : Nat) : List StepM := if r.1 = m then [(i, 1, r.2.1)] else if r.2.1 = m then [(i, -1, r.1)] else []
def adjT (rs : List Rd3) : Nat → Nat → List StepM
  | 0, _ => []
  | k + 1, m => adjT rs k m ++ stepAt k (rs.getD k (0, 0, 0)) m
theorem adjT_length (rs : List Rd3) (m : Nat) : ∀ k, (adjT rs k m).length ≤ k
  | 0 => Nat.le_refl _
  | k + 1 => by
    have ih := adjT_length rs m k
    unfold adjT
    rw [List.length_append]
    have : (stepAt k (rs.getD k (0, 0, 0)) m).length ≤ 1 := by
      unfold stepAt
      split
      · exact Nat.le_refl _
      · split
        · exact Nat.le_refl _
        · exact Nat.zero_le _
    omega
def StepsAt (K : PySem.W.Frag) (H : Hp) (a : Addr) (l : List StepM) : Prop := ∃ vs, H a = some (.lst vs) ∧ vs.length = l.length ∧ ∀ (j : Nat) (st : StepM), l[j]? = some st → ∃ t, vs[j]? = some (.ref t) ∧ SqT K H t [.int st.1, .int st.2.1, .int st.2.2]
def NearAt (K : PySem.W.Frag) (H : Hp) (np : Addr) (n : Nat) (adj : Nat → List StepM) : Prop := ∃ ads : List Addr, H np = some (.lst (ads.map V.ref)) ∧ ads.length = n ∧ ∀ m a, ads[m]? = some a → StepsAt K H a (adj m)
section
variable {K : PySem.W.Frag} {H H1 : Hp} {c : List Addr}
theorem StepsAt.ext {a : Addr} {l : List StepM} (h : StepsAt K H a l) (x : Ext c H H1) (ha : a ∉ c) : StepsAt K H1 a l := by
  obtain ⟨vs, h1, h2, h3⟩ := h
  exact ⟨vs, x.lst h1 ha, h2, fun j st e => let ⟨t, e1, e2⟩ := h3 j st e; ⟨t, e1, x.sqT e2⟩⟩
theorem NearAt.ext {np : Addr} {n : Nat} {adj : Nat → List StepM} (h : NearAt K H np n adj) (x : Ext [] H H1) : NearAt K H1 np n adj := by
  obtain ⟨ads, h1, h2, h3⟩ := h
  exact ⟨ads, x.lst h1 (by simp), h2, fun m a e => (h3 m a e).ext x (by simp)⟩
/-- a step more at a -/
theorem StepsAt.push {H0 : Hp} {a t : Addr} {l : List StepM} {vs : List V} {st : StepM} (x : Ext [] H0 H) (h0 : H0 a = none) (h1 : H a = some (.lst vs)) (h2 : vs.length = l.length) (h3 : ∀ (j : Nat) (st : StepM), l[j]? = some st → ∃ t, vs[j]? = some (.ref t) ∧ SqT K H t [.int st.1, .int st.2.1, .int st.2.2])
    (ht : SqT K H t [.int st.1, .int st.2.1, .int st.2.2]) : StepsAt K (upd H a (.lst (vs ++ [.ref t]))) a (l ++ [st]) := by
  have xo : Ext [a] H (upd H a (.lst (vs ++ [.ref t]))) := .set (List.mem_singleton.mpr rfl) h1
  refine ⟨_, upd_same, by rw [List.length_append, List.length_append, h2]; rfl, fun j s e => ?_⟩
  by_cases hj : j < l.length
  · rw [List.getElem?_append_left hj] at e
    obtain ⟨t', e1, e2⟩ := h3 j s e
    exact ⟨t', by rw [List.getElem?_append_left (by omega)]; exact e1, xo.sqT e2⟩
  · rw [List.getElem?_append_right (by omega)] at e
    have hj0 : j - l.length = 0 := by
      cases h : j - l.length with
      | zero => rfl
      | succ k => rw [h] at e; cases e
    rw [hj0] at e
    cases e
    refine ⟨t, ?_, xo.sqT ht⟩
    rw [List.getElem?_append_right (by omega), h2, hj0]
    rfl
end
end Gx
set_option Elab.async false
set_option linter.all false
set_option maxRecDepth 100000
set_option maxHeartbeats 4000000
namespace Gx
open PySem PySem.Spec PyProof.Rows L2
theorem for_enumL {Kf : PySem.W.Frag} {a : Addr} {xs : List V} {g : TG} {tb : TS} {D : Ends} {σ : L2.St} {H : Hp} (Pv : Nat → L2.St → Hp → Prop) (h0 : Pv 0 σ H) (hl : ∀ i σ H, Pv i σ H → SqL Kf H a xs)
    (hs : ∀ i x T σ H, xs[i]? = some x → Pv i σ H → H T = none → g (.ref T) σ (upd H T (.tup [.int (i : Nat), x])) fun σ2 H2 => tb { D with nx := Pv (i + 1), ct := Pv (i + 1), bk := D.nx } σ2 H2) (hd : ∀ σ H, Pv xs.length σ H → D.nx σ H) :
    ∃ W : Nat → Nat → L2.St → Hp → Prop, (∃ m, W 0 m σ H) ∧ ∀ i m σ H, W i m σ H →
      ((Ite Kf a).stop i H ∧ D.nx σ H) ∨ ((Ite Kf a).go i H ∧ ∃ N : L2.St → Hp → Prop, (∀ σ' H', N σ' H' → ∃ m', m' < m ∧ W (i + 1) m' σ' H') ∧ ∀ x H', (Ite Kf a).yld i H x H' → g x σ H' fun σ2 H2 => tb { D with nx := N, ct := N, bk := D.nx } σ2 H2) :=
  for_n xs.length Pv h0 (fun i σ H hi p => ⟨xs, xs[i], hl i σ H p, List.getElem?_eq_getElem hi⟩) (fun σ H p => ⟨xs, hl _ σ H p, Nat.le_refl _⟩)
    (fun i σ H v H' hi p y => by obtain ⟨T, x, rfl, hT, rfl, f⟩ := y; exact hs i x T σ _ (f xs (hl i σ _ p)) p hT) hd
theorem for_enumS {Kf : PySem.W.Frag} {a : Addr} {k0 : Int} {xs : List V} {g : TG} {tb : TS} {D : Ends} {σ : L2.St} {H : Hp} (Pv : Nat → L2.St → Hp → Prop) (h0 : Pv 0 σ H) (hl : ∀ i σ H, Pv i σ H → SqL Kf H a xs)
    (hs : ∀ i x T σ H, xs[i]? = some x → Pv i σ H → H T = none → g (.ref T) σ (upd H T (.tup [.int ((i : Nat) + k0), x])) fun σ2 H2 => tb { D with nx := Pv (i + 1), ct := Pv (i + 1), bk := D.nx } σ2 H2) (hd : ∀ σ H, Pv xs.length σ H → D.nx σ H) :
    ∃ W : Nat → Nat → L2.St → Hp → Prop, (∃ m, W 0 m σ H) ∧ ∀ i m σ H, W i m σ H →
      ((IteS Kf a k0).stop i H ∧ D.nx σ H) ∨ ((IteS Kf a k0).go i H ∧ ∃ N : L2.St → Hp → Prop, (∀ σ' H', N σ' H' → ∃ m', m' < m ∧ W (i + 1) m' σ' H') ∧ ∀ x H', (IteS Kf a k0).yld i H x H' → g x σ H' fun σ2 H2 => tb { D with nx := N, ct := N, bk := D.nx } σ2 H2) :=
  for_n xs.length Pv h0 (fun i σ H hi p => ⟨xs, xs[i], hl i σ H p, List.getElem?_eq_getElem hi⟩) (fun σ H p => ⟨xs, hl _ σ H p, Nat.le_refl _⟩)
    (fun i σ H v H' hi p y => by obtain ⟨T, x, rfl, hT, rfl, f⟩ := y; exact hs i x T σ _ (f xs (hl i σ _ p)) p hT) hd
/-- a list of readings -/
def RdsL (K : PySem.W.Frag) (H : Hp) (p : Addr) (rs : List Rd3) : Prop := ∃ vs, SqL K H p vs ∧ vs.length = rs.length ∧ ∀ (i : Nat) (r : Rd3), rs[i]? = some r → ∃ v, vs[i]? = some v ∧ RdAt K H v r
theorem RdsL.ext {K : PySem.W.Frag} {H H1 : Hp} {p : Addr} {rs : List Rd3} (h : RdsL K H p rs) (x : Ext [] H H1) : RdsL K H1 p rs :=
  let ⟨vs, q, l, f⟩ := h; ⟨vs, x.sqL q (by simp), l, fun i r e => let ⟨v, e1, e2⟩ := f i r e; ⟨v, e1, e2.ext x⟩⟩
end Gx
set_option Elab.async false
set_option linter.all false
set_option maxRecDepth 100000
set_option maxHeartbeats 4000000
namespace Gx
open PySem PySem.Spec PyProof.Rows L2 RZ TL
/-! ### set(t) of a tuple of ints -/
def rSetI (K : PySem.W.Frag) (w : World) : List V → Hp → VK → Prop := fun xs H Q => ∃ (a : Addr) (ns : List Int), xs = [.ref a] ∧ SqT K H a (ns.map V.int) ∧ ns.length ≤ 1000 ∧
  ∀ p c, c ≤ ns.length → H p = none → Q (.ref p) (upd H p (SetO w p (fun j => decide (j ∈ ns)) c))
theorem call_setI {X : Cx} (hc : X.calm = true) : CallR X (.type "set") (rSetI X.K X.w) := by
  intro pins s σ H vs us Q I r h
  obtain ⟨a, ns, rfl, hq, hl, q⟩ := h
  obtain ⟨its, rv, pt, hz⟩ := I.tuple hq
  have hi : IntsAre its.toArray.toList ns := ints_of_vals rv
  rw [Vals.ref1 r]
  refine call_set_tupI ns (I.ok.hd hc) (show s.heap.IsTuple a its.toArray from pt) hi (by unfold scanBound; omega) fun h' tk c R1 hcn k => ?_
  have hs : s.heap.objs.size ≤ s.heap.objs.size := Nat.le_refl _
  exact ⟨.ref _, upd H s.heap.objs.size (SetO X.w s.heap.objs.size (fun j => decide (j ∈ ns)) c), I.laid (t' := tk) (fun b u e => k b u e) hs (setO_new R1), rfl, q _ c hcn (I.hok.fresh hs)⟩
/-! ### text * int -/
theorem op_mul_str {X : Cx} : OpR X (binaryOp .Mult) (fun x y H Q => ∃ (z : Str) (k : Int), x = .str z ∧ y = .int k ∧ 0 ≤ k ∧ k ≤ 4000 ∧ z.length ≤ 4000 ∧ Q (.str (Txt.mul z k)) H) := by
  intro pins s σ H x y v u Q I rx ry h
  obtain ⟨z, k, rfl, rfl, h0, h1, h2, q⟩ := h
  obtain ⟨t, rfl⟩ := rx
  obtain ⟨t', rfl⟩ := ry
  exact SB.mul (mulOk_of 4095 4095 (by omega) (by omega) (by omega) (by decide) (by decide)) fun t' k' => ⟨.str (Txt.mul z k), H, I.tok _, ⟨_, rfl⟩, q⟩
theorem foldl_app : ∀ (n : Nat) (acc x : Array Nat), ((List.replicate n x).foldl (· ++ ·) acc).toList = acc.toList ++ (List.replicate n x.toList).flatten
  | 0, acc, x => by simp
  | n + 1, acc, x => by
    rw [List.replicate_succ, List.foldl_cons, foldl_app n (acc ++ x) x, List.replicate_succ, List.flatten_cons, Array.toList_append, List.append_assoc]
theorem flat_one (n c : Nat) : (List.replicate n [c]).flatten = List.replicate n c := by
  induction n with
  | zero => rfl
  | succ n ih => rw [List.replicate_succ, List.flatten_cons, ih, List.replicate_succ]; rfl
/-- so many spaces -/
theorem tl_mul_space (n : Nat) : tl (Txt.mul " " (n : Int)) = List.replicate n 32 := by
  unfold Txt.mul
  split
  · have : n = 0 := by omega
    subst this
    rfl
  · split
    · rename_i h
      have h2 : n = 1 := by
        rcases Bool.or_eq_true _ _ |>.mp h with e | e
        · have := eq_of_beq e; omega
        · exact absurd e (by decide)
      subst h2
      rfl
    · show ((List.replicate (n : Int).toNat (" " : Str).cps).foldl (· ++ ·) #[]).toList = _
      rw [foldl_app, Int.toNat_natCast]
      show [] ++ (List.replicate n [32]).flatten = _
      rw [List.nil_append, flat_one]
theorem tl_len (x : Str) : (tl x).length = x.length := by
  show x.cps.toList.length = x.cps.size
  simp
/-! ### x.rjust(n) -/
theorem tl_rjust (x : Str) (n : Nat) : tl (Txt.rjust x (n : Int)) = List.replicate (n - x.length) 32 ++ tl x := by
  unfold Txt.rjust
  split
  · rename_i h
    have e : n - x.length = 0 := by omega
    rw [e]
    rfl
  · show (Array.replicate ((n : Int).toNat - x.length) 32 ++ x.cps ++ Array.replicate 0 32).toList = _
    rw [Int.toNat_natCast]
    simp
theorem joinL_flat (S : List Nat) : ∀ (p : List Nat) (ps : List (List Nat)), joinL S (p :: ps) = p ++ (ps.map (S ++ ·)).flatten
  | p, [] => by simp [joinL]
  | p, q :: r => by
    show p ++ (S ++ joinL S (q :: r)) = _
    rw [joinL_flat S q r, List.map_cons, List.flatten_cons, List.append_assoc]
theorem joinL_nil : ∀ (ps : List (List Nat)), joinL [] ps = ps.flatten
  | [] => rfl
  | p :: ps => by
    rw [joinL_flat]
    simp
theorem tl_inj {x y : Str} (h : tl x = tl y) : x = y := ext_tl h
/-! ### zip of lists of unlike lengths -/
theorem for_zipN {K : PySem.W.Frag} {a b : Addr} {xs ys : List V} {g : TG} {tb : TS} {D : Ends} {σ : L2.St} {H : Hp} (n : Nat) (hn : n ≤ xs.length) (hn2 : n ≤ ys.length) (he : xs.length ≤ n ∨ ys.length ≤ n) (Pv : Nat → L2.St → Hp → Prop) (h0 : Pv 0 σ H) (hq : ∀ i σ H, Pv i σ H → SqL K H a xs ∧ SqL K H b ys)
    (hs : ∀ (i : Nat) (x y : V) (T : Addr) (σ : L2.St) (H : Hp), xs[i]? = some x → ys[i]? = some y → Pv i σ H → H T = none → g (.ref T) σ (upd H T (.tup [x, y])) fun σ2 H2 => tb { D with nx := Pv (i + 1), ct := Pv (i + 1), bk := D.nx } σ2 H2) (hd : ∀ σ H, Pv n σ H → D.nx σ H) :
    ∃ W : Nat → Nat → L2.St → Hp → Prop, (∃ m, W 0 m σ H) ∧ ∀ i m σ H, W i m σ H →
      ((Itz K a b).stop i H ∧ D.nx σ H) ∨ ((Itz K a b).go i H ∧ ∃ N : L2.St → Hp → Prop, (∀ σ' H', N σ' H' → ∃ m', m' < m ∧ W (i + 1) m' σ' H') ∧ ∀ v H', (Itz K a b).yld i H v H' → g v σ H' fun σ2 H2 => tb { D with nx := N, ct := N, bk := D.nx } σ2 H2) := by
  refine ⟨fun i m σ H => m = n - i ∧ i ≤ n ∧ Pv i σ H, ⟨n, rfl, Nat.zero_le _, h0⟩, ?_⟩
  rintro i m σ H ⟨rfl, hi, p⟩
  obtain ⟨qx, qy⟩ := hq i σ H p
  by_cases hlt : i < n
  · have l1 : i < xs.length := by omega
    have l2 : i < ys.length := by omega
    have hx : xs[i]? = some xs[i] := List.getElem?_eq_getElem l1
    have hy : ys[i]? = some ys[i] := List.getElem?_eq_getElem l2
    refine .inr ⟨⟨xs, ys, _, _, qx, qy, hx, hy⟩, Pv (i + 1), fun σ' H' p' => ⟨n - (i + 1), by omega, rfl, hlt, p'⟩, fun v H' y => ?_⟩
    obtain ⟨T, x', y', rfl, hT, rfl, f1, f2⟩ := y
    exact hs i x' y' T σ H (f1 xs qx) (f2 ys qy) p hT
  · have e : i = n := by omega
    subst e
    exact .inl ⟨⟨xs, ys, qx, qy, he⟩, hd σ H p⟩
/-! ### a comprehension over zip of two tuples -/
theorem lc_zipT {K : PySem.W.Frag} {a b : Addr} {xs zs : List V} {g : TG} {tt : TT} {te : TE} {vs : List Nat} {σ : L2.St} {H1 : Hp} {D : Addr} {Qd : Hp → Prop} (he : xs.length = zs.length) (Pv : Nat → Hp → Prop) (h0 : Pv 0 (upd H1 D (.lst []))) (hl : ∀ i H, Pv i H → SqT K H a xs ∧ SqT K H b zs)
    (hs : ∀ i x z T H, xs[i]? = some x → zs[i]? = some z → Pv i H → H T = none → g (.ref T) (wipe σ vs) (upd H T (.tup [x, z])) fun σ2 H2 => wipe σ2 vs = wipe σ vs ∧ tt σ2 H2 fun b H3 =>
      if b = true then te σ2 H3 fun y H4 => ∃ acc, H4 D = some (.lst acc) ∧ acc.length < sizeLine ∧ Pv (i + 1) (upd H4 D (.lst (acc ++ [y]))) else Pv (i + 1) H3) (hd : ∀ H, Pv xs.length H → Qd H) :
    ∃ W : Nat → Nat → Hp → Prop, (∃ m, W 0 m (upd H1 D (.lst []))) ∧ ∀ i m H, W i m H →
      ((ItzT K a b).stop i H ∧ Qd H) ∨ ((ItzT K a b).go i H ∧ ∃ Nx : Hp → Prop, (∀ H', Nx H' → ∃ m', m' < m ∧ W (i + 1) m' H') ∧ ∀ x H', (ItzT K a b).yld i H x H' → g x (wipe σ vs) H' fun σ2 H2 => wipe σ2 vs = wipe σ vs ∧ tt σ2 H2 fun b H3 =>
        if b = true then te σ2 H3 fun y H4 => ∃ acc, H4 D = some (.lst acc) ∧ acc.length < sizeLine ∧ Nx (upd H4 D (.lst (acc ++ [y]))) else Nx H3) := by
  refine ⟨fun i m H => m = xs.length - i ∧ i ≤ xs.length ∧ Pv i H, ⟨xs.length, by simp, Nat.zero_le _, h0⟩, ?_⟩
  rintro i m H ⟨rfl, hi, p⟩
  obtain ⟨qx, qz⟩ := hl i H p
  by_cases hlt : i < xs.length
  · have hz2 : i < zs.length := by omega
    refine .inr ⟨⟨xs, zs, xs[i], zs[i], qx, qz, List.getElem?_eq_getElem hlt, List.getElem?_eq_getElem hz2⟩, Pv (i + 1), fun H' p' => ⟨xs.length - (i + 1), by omega, rfl, hlt, p'⟩, fun x H' y => ?_⟩
    obtain ⟨T, x', y', rfl, hT, rfl, f1, f2⟩ := y
    exact hs i x' y' T H (f1 xs qx) (f2 zs qz) p hT
  · have e : i = xs.length := by omega
    subst e
    exact .inl ⟨⟨xs, zs, qx, qz, .inl (Nat.le_refl _)⟩, hd H p⟩
end Gx
set_option Elab.async false
set_option linter.all false
set_option maxRecDepth 100000
set_option maxHeartbeats 4000000
namespace Gx
open PySem PySem.Spec PyProof.Rows L2 RZ
section
variable {P : Program} {w : World} {K : PySem.W.Frag} {mg : Str → Option Value} {base : Heap}
theorem catA_by {H : Hp} {a b : Addr} {xs ys : List V} {Q : VK} (ha : SqT K H a xs) (hb : SqT K H b ys) (hl : xs.length + ys.length ≤ sizeLine) (q : ∀ p H', Ext [] H H' → SqT K H' p (xs ++ ys) → Q (.ref p) H') : rCatA K (.ref a) (.ref b) H Q := by
  refine ⟨a, b, xs, ys, rfl, rfl, ha, hb, hl, fun e => ?_, fun _ e => ?_, fun _ _ p hp => q p _ (.new hp) (.inl (.inl upd_same))⟩
  · subst e
    exact q b H .refl hb
  · subst e
    exact q a H .refl (by rw [List.append_nil]; exact ha)
theorem slA_by {H : Hp} {a : Addr} {xs : List V} {lo hi : Option Int} {Q : VK} (ha : SqT K H a xs) (q : ∀ p H', Ext [] H H' → SqT K H' p (cutV xs lo hi) → Q (.ref p) H') : rSlA K (.ref a) lo hi H Q := by
  refine ⟨a, xs, rfl, ha, fun e => ?_, fun _ p hp => q p _ (.new hp) (.inl (.inl upd_same))⟩
  refine q a H .refl ?_
  have : cutV xs lo hi = xs := by
    unfold cutV
    rw [e.1, e.2, Nat.sub_zero, List.drop_zero, List.take_length]
  rw [this]
  exact ha
theorem pr_app {α β : Type} {F : α → β → Prop} : ∀ {a : List α} {b : List β} {c : List α} {d : List β}, Paired F a b → Paired F c d → Paired F (a ++ c) (b ++ d)
  | _, _, _, _, .nil, h => h
  | _, _, _, _, .cons x t, h => .cons x (pr_app t h)
theorem pr_take {α β : Type} {F : α → β → Prop} : ∀ {a : List α} {b : List β} (n : Nat), Paired F a b → Paired F (a.take n) (b.take n)
  | _, _, 0, _ => by simpa using Paired.nil
  | _, _, n + 1, .nil => .nil
  | _, _, n + 1, .cons x t => .cons x (pr_take n t)
theorem pr_drop {α β : Type} {F : α → β → Prop} : ∀ {a : List α} {b : List β} (n : Nat), Paired F a b → Paired F (a.drop n) (b.drop n)
  | _, _, 0, h => by simpa using h
  | _, _, n + 1, .nil => .nil
  | _, _, n + 1, .cons _ t => pr_drop n t
theorem pr_at {α β : Type} {F : α → β → Prop} : ∀ {a : List α} {b : List β}, Paired F a b → ∀ (i : Nat) (y : β), b[i]? = some y → ∃ x, a[i]? = some x ∧ F x y
  | _, _, .nil, i, y, e => by cases e
  | _, _, .cons x t, 0, y, e => by cases e; exact ⟨_, rfl, x⟩
  | _, _, .cons _ t, i + 1, y, e => pr_at t i y e
theorem cut_lo {xs : List V} {j : Nat} (h : j ≤ xs.length) : cutV xs none (some (j : Int)) = xs.take j := by
  unfold cutV
  rw [HT.sIx_nat, HT.sIx_none, List.drop_zero, Nat.sub_zero, Nat.min_eq_left h]
theorem cut_hi {xs : List V} {j : Nat} (h : j ≤ xs.length) : cutV xs (some (j : Int)) none = xs.drop j := by
  unfold cutV
  rw [HT.sIx_nat, HT.sIx_none, Nat.min_eq_left h, List.take_of_length_le (by rw [List.length_drop]; omega)]
end
theorem next_eq (D : Ends) (σ : L2.St) (H : Hp) : tNext D σ H = D.nx σ H := rfl
theorem seq_eq (t u : TS) (D : Ends) (σ : L2.St) (H : Hp) : tSeq t u D σ H = t { D with nx := u D } σ H := rfl
theorem asg_eq (te : TE) (g : TG) (D : Ends) (σ : L2.St) (H : Hp) : tAsg te g D σ H = te σ H fun x H1 => g x σ H1 D.nx := rfl
theorem for_eq (wi : TI) (g : TG) (tb : TS) (D : Ends) (σ : L2.St) (H : Hp) : tFor wi g tb D σ H = wi σ H fun J H1 => ∃ W : Nat → Nat → L2.St → Hp → Prop, (∃ m, W 0 m σ H1) ∧ ∀ i m σ H, W i m σ H →
    (J.stop i H ∧ D.nx σ H) ∨ (J.go i H ∧ ∃ N : L2.St → Hp → Prop, (∀ σ' H', N σ' H' → ∃ m', m' < m ∧ W (i + 1) m' σ' H') ∧ ∀ x H', J.yld i H x H' → g x σ H' fun σ2 H2 => tb { D with nx := N, ct := N, bk := D.nx } σ2 H2) := rfl
end Gx
set_option Elab.async false
set_option linter.all false
set_option maxRecDepth 100000
set_option maxHeartbeats 4000000
namespace Gx
open PySem PySem.Spec PyProof.Rows L2 RZ
/-! ### a while loop by its turns -/
theorem while_n {c : TT} {tb : TS} {D : Ends} {σ : L2.St} {H : Hp} (n : Nat) (Pv : Nat → L2.St → Hp → Prop) (h0 : Pv 0 σ H)
    (hs : ∀ j σ H, j ≤ n → Pv j σ H → c σ H fun b H1 => if b = true then j < n ∧ tb { D with nx := Pv (j + 1), ct := Pv (j + 1), bk := D.nx } σ H1 else D.nx σ H1)
    (mono : ∀ σ H Q Q', (∀ b H1, Q b H1 → Q' b H1) → c σ H Q → c σ H Q') : tWhile c tb D σ H := by
  refine ⟨fun m σ H => ∃ j, m = n - j ∧ j ≤ n ∧ Pv j σ H, ⟨n, 0, rfl, Nat.zero_le _, h0⟩, ?_⟩
  rintro m σ H ⟨j, rfl, hj, p⟩
  refine mono σ H _ _ (fun b H1 q => ?_) (hs j σ H hj p)
  cases b with
  | true =>
    obtain ⟨hl, q⟩ := q
    exact ⟨_, fun σ' H' p' => ⟨n - (j + 1), by omega, j + 1, rfl, hl, p'⟩, q⟩
  | false => exact q
theorem name_eq (i : Nat) (v : V) (σ : L2.St) (H : Hp) (D : L2.St → Hp → Prop) : gName i v σ H D = D (σ.set i (some v)) H := rfl
theorem con_eq (v : V) (σ : L2.St) (H : Hp) (Q : VK) : tC v σ H Q = Q v H := rfl
end Gx
set_option Elab.async false
set_option linter.all false
set_option maxRecDepth 100000
set_option maxHeartbeats 4000000
namespace Gx
open PySem PySem.Spec PyProof.Rows L2 RZ TL PySem.StrLaws
/-! ### texts, sign by sign -/
def startsL (c : Nat) (l : List Nat) : Bool := l.head? == some c
theorem sw_one (x : Str) (c : Nat) : Txt.startswith x ⟨#[c]⟩ = startsL c (tl x) := by
  have hy : tl (⟨#[c]⟩ : Str) ≠ [] := by simp [tl]
  have h := at_iff (x := x) hy 0
  rw [List.drop_zero] at h
  have h1 : (Txt.startswith x ⟨#[c]⟩ = true) ↔ At x ⟨#[c]⟩ x.length 0 := by
    unfold Txt.startswith
    rw [Bool.and_eq_true, decide_eq_true_eq]
    exact Iff.rfl
  have h2 : pre (tl (⟨#[c]⟩ : Str)) (tl x) = startsL c (tl x) := by
    show ((tl x).take 1 == [c]) = startsL c (tl x)
    unfold startsL
    cases tl x with
    | nil => rfl
    | cons a r => 
      show ([a] == [c]) = (some a == some c)
      simp
  rw [← h2]
  cases e : Txt.startswith x ⟨#[c]⟩ with
  | true => exact (h.mp (h1.mp e)).symm
  | false =>
    cases e2 : pre (tl (⟨#[c]⟩ : Str)) (tl x) with
    | false => rfl
    | true => rw [h1.mpr (h.mpr e2)] at e; cases e
theorem tl_cut_from (x : Str) (j : Nat) (h : j ≤ x.length) : tl (cutS x (some (j : Int)) none) = (tl x).drop j := by
  unfold cutS
  rw [HT.sIx_nat, HT.sIx_none, Nat.min_eq_left h]
  show (((tl x).drop j).take (x.length - j)) = _
  rw [List.take_of_length_le (by rw [List.length_drop, tl_len]; omega)]
theorem tl_cut_to (x : Str) (j : Nat) (h : j ≤ x.length) : tl (cutS x none (some (j : Int))) = (tl x).take j := by
  unfold cutS
  rw [HT.sIx_nat, HT.sIx_none, Nat.min_eq_left h, Nat.sub_zero]
  show (((tl x).drop 0).take j) = _
  rw [List.drop_zero]
def isDigit (c : Nat) : Bool := decide (48 ≤ c ∧ c ≤ 57)
def bodyL (l : List Nat) : List Nat := if startsL 45 l = true then l.drop 1 else l
/-- 0, or digits, at most so many, without zeros ahead, perhaps behind a minus sign -/
def isNum (most : Nat) (w : Str) : Bool :=
  decide (w = "0") || (decide (1 ≤ (bodyL (tl w)).length ∧ (bodyL (tl w)).length ≤ most) && (!startsL 48 (bodyL (tl w)) && (bodyL (tl w)).all isDigit))
theorem sign_ltA {a b : Nat} : (!decide (([a] : List Nat) < [b])) = decide (b ≤ a) := by
  by_cases h : b ≤ a
  · rw [decide_eq_true h]
    simp [List.cons_lt_cons_iff]
    omega
  · rw [decide_eq_false h]
    simp [List.cons_lt_cons_iff]
    omega
end Gx
set_option Elab.async false
set_option linter.all false
set_option maxRecDepth 100000
set_option maxHeartbeats 4000000
namespace Gx
open PySem PySem.Spec PyProof.Rows L2 RZ
/-! ### isinstance(e, c) in an except suite, e with a dict -/
def rIsX (K : PySem.W.Frag) (D a : Addr) (cls : Value) (d : Option Addr) : List V → Hp → VK → Prop := fun xs H Q => cls = .ref D ∧ ∃ (dd : Addr) (c : V) (cv : Value) (b : Bool) (fs : List (Str × V)), d = some dd ∧ xs = [.ref a, c] ∧ (∀ u, RelV c u → u = cv) ∧ PySem.W.kitOne K (.ref D) cv = some b ∧ H dd = some (.xd fs) ∧ Q (.bl b) H
theorem call_isX {X : Cx} {a D : Addr} {cls : Value} {d : Option Addr} {oe : Obj} {pn : List (Addr × Obj)} (C : ExcC X.K D) (hz : Zc cls d oe) (hf : ∃ vs, oe.data = .fields vs) : CallR (X.suite a ((a, oe) :: pn)) (.builtin "isinstance") (rIsX X.K D a cls d) := by
  intro pins s σ H xs us Q I r h
  obtain ⟨rfl, dd, c, cv, b, fs, rfl, rfl, hcv, e, hd, q⟩ := h
  obtain ⟨u1, u2, rfl, r1, r2⟩ := vals2 r
  obtain rfl : u1 = Value.ref a := r1
  obtain rfl := hcv _ r2
  obtain ⟨ha, _⟩ := I.pin (a, oe) (List.mem_append_left _ List.mem_cons_self)
  obtain ⟨vs, hv⟩ := hf
  have hx : ObjOk X.prog X.w H s.heap dd (.xd fs) := I.hok dd _ hd
  obtain ⟨mA, hns, _⟩ := hx
  obtain ⟨od, ho, _⟩ := lookIn_ns hns
  have J : PySem.W.InstAt s.heap a oe D (some od) := ⟨ha, hz.1, by unfold PySem.W.notCls; rw [hv] <;> rfl, by rw [hz.2]; exact ho⟩
  have hcl : (PySem.W.clsIn X.K D).isSome = true := by
    obtain ⟨cd, hc, _⟩ := PySem.W.any_some C.hd
    rw [hc]
    rfl
  exact PySem.W.kia_one (PySem.W.kitx_exc (od := some od) hcl C.hg C.hk C.hs C.ha C.hn C.ht C.hm) I.kIn J e (fun z => nomatch z) fun tk => ⟨.bl b, H, I.kept (t' := tk) fun _ _ z => z, rfl, q⟩
/-- the heap behind a raise -/
theorem ext_two {H H1 : Hp} {a d : Addr} {o : HO} (ha : H a = none) (hd : H d = none) (h : ∀ b, b ≠ a → b ≠ d → H1 b = H b) (hd1 : H1 d = some o) : Ext [] H H1 := by
  have k : ∀ {b : Addr} {u : HO}, H b = some u → H1 b = some u := fun {b u} e => by
    rw [h b (fun z => by rw [z, ha] at e; cases e) (fun z => by rw [z, hd] at e; cases e)]
    exact e
  refine ⟨fun b u e _ _ => k e, fun b u e => k e, fun b u o e => k e, fun P ⟨ps, e, t⟩ => ⟨ps, k e, t⟩, fun b e => ?_⟩
  by_cases h1 : b = a
  · rw [h1]; exact ha
  · by_cases h2 : b = d
    · rw [h2, hd1] at e; cases e
    · rw [← h b h1 h2]; exact e
end Gx
set_option Elab.async false
set_option linter.all false
set_option maxRecDepth 100000
set_option maxHeartbeats 4000000
namespace Gx
open PySem PySem.Spec PyProof.Rows L2 RZ TL PySem.StrLaws
theorem FunT.okX {P : Program} {w : World} {K : PySem.W.Frag} {mg : Str → Option Value} {base : Heap} {x qual : Str} {st : Stmt} {f c : Addr} {fd : FuncData} {N ps : List Str} {k : Nat} {sp : Sp} (F : FunT K x qual st f fd c) (S : FnScope N ps (defScope st)) (len : ∀ vs H Q E, sp vs H Q E → vs.length = ps.length)
    (hbody : ∀ (A : Around) (outer : List Env) (s : Shared) (H : Hp) (vs : List V) (Q : VK) (E : XK), Room k (A.deeper (envOfC qual (defScope st) s.heap.objs.size f (.ref c))) → sp vs H Q E →
      ∃ t, PSs (cxOf (CX P w) P w K mg base N qual (defScope st) f (.ref c) A outer s H E) (defBody st) t ∧ t { nx := fun _ H' => Q .non H', rt := Q } (start N vs) H) : FnOk P w K mg base (CX P w) (k + 1) f fd ps sp := by
  obtain ⟨oc, od, kV, doc, pm, an, ct, osl, rfl, lk, hcd⟩ := F.ex
  exact fn_of lk hcd S len fun A outer s H vs Q E hr hsp => hbody A outer s H vs Q E hr hsp
/-! ### splitting: how many parts, how long -/
theorem spl_bound {S : List Nat} {B : Nat} : ∀ (k : Nat) (acc l : List Nat), acc.length + l.length ≤ B → (spl S k acc l).length ≤ l.length + 1 ∧ (∀ p ∈ spl S k acc l, p.length ≤ B) ∧ spl S k acc l ≠ []
  | k, acc, [], h => by
    rw [spl_nil]
    exact ⟨Nat.le_refl _, fun p hp => by rw [List.mem_singleton.mp hp]; simpa using h, by simp⟩
  | 0, acc, c :: r, h => by
    rw [List.length_cons] at h
    cases e : pre S (c :: r) with
    | true =>
      rw [spl_hit e]
      obtain ⟨h1, h2, h3⟩ := spl_bound (S := S) (B := B) (S.length - 1) [] r (by simp; omega)
      refine ⟨by rw [List.length_cons, List.length_cons]; omega, fun p hp => ?_, by simp⟩
      rcases List.mem_cons.mp hp with rfl | hp
      · omega
      · exact h2 p hp
    | false =>
      rw [spl_miss e]
      obtain ⟨h1, h2, h3⟩ := spl_bound (S := S) (B := B) 0 (acc ++ [c]) r (by rw [List.length_append]; simp; omega)
      exact ⟨by rw [List.length_cons]; omega, h2, h3⟩
  | k + 1, acc, c :: r, h => by
    rw [List.length_cons] at h
    obtain ⟨h1, h2, h3⟩ := spl_bound (S := S) (B := B) k acc r (by omega)
    show (spl S k acc r).length ≤ _ ∧ (∀ p ∈ spl S k acc r, p.length ≤ B) ∧ spl S k acc r ≠ []
    exact ⟨by rw [List.length_cons]; omega, h2, h3⟩
theorem split_bound (x : Str) (c : Nat) (hc : c < 256) : (Txt.split x ⟨#[c]⟩).length ≤ x.length + 1 ∧ (∀ p ∈ Txt.split x ⟨#[c]⟩, p.length ≤ x.length) ∧ Txt.split x ⟨#[c]⟩ ≠ [] := by
  have e := split_spl x ⟨#[c]⟩ (by simp [tl]) (kind_ok (by simp [hc]))
  obtain ⟨h1, h2, h3⟩ := spl_bound (S := tl (⟨#[c]⟩ : Str)) (B := x.length) 0 [] (tl x) (by rw [tl_len]; simp)
  rw [← e, tl_len] at h1
  rw [← e] at h2 h3
  refine ⟨by simpa using h1, fun p hp => ?_, fun z => h3 (by rw [z]; rfl)⟩
  rw [← tl_len]
  exact h2 _ (List.mem_map.mpr ⟨p, hp, rfl⟩)
/-! ### numbers -/
def wordNum (w : Str) : Int := (PySem.intText? w).getD 0
theorem num_ok {most : Nat} {w : Str} (hm : most ≤ 100) (h : isNum most w = true) : PySem.intText? w = some (wordNum w) ∧ w.length ≤ 640 := by
  unfold isNum at h
  rw [Bool.or_eq_true] at h
  rcases h with h | h
  · rw [of_decide_eq_true h]
    decide +kernel
  · rw [Bool.and_eq_true, Bool.and_eq_true] at h
    obtain ⟨h1, h2, h3⟩ := h
    obtain ⟨l1, l2⟩ := of_decide_eq_true h1
    have dg : NumText.AllDigits (bodyL (tl w)) := fun c hc => of_decide_eq_true (List.all_eq_true.mp h3 c hc)
    have ne : bodyL (tl w) ≠ [] := fun z => by rw [z] at l1; simp at l1
    unfold bodyL at l1 l2 dg ne
    cases hs : startsL 45 (tl w) with
    | true =>
      rw [hs] at l1 l2 dg ne
      simp only [if_true] at l1 l2 dg ne
      obtain ⟨r, hr⟩ : ∃ r, tl w = 45 :: r := by
        cases e : tl w with
        | nil => rw [e] at hs; cases hs
        | cons a r =>
          rw [e] at hs
          unfold startsL at hs
          have : a = 45 := by simpa using hs
          exact ⟨r, by rw [this]⟩
      rw [hr] at l1 l2 dg ne
      simp only [List.drop_succ_cons, List.drop_zero] at l1 l2 dg ne
      have lw : w.length = r.length + 1 := by rw [← tl_len, hr, List.length_cons]
      have e := intText_neg (x := w) hr dg ne (by omega)
      unfold wordNum
      rw [e]
      exact ⟨rfl, by omega⟩
    | false =>
      rw [hs] at l1 l2 dg ne
      simp only [Bool.false_eq_true, if_false] at l1 l2 dg ne
      rw [tl_len] at l1 l2
      have e := intText_digits (x := w) dg ne (by omega)
      unfold wordNum
      rw [e]
      exact ⟨rfl, by omega⟩
end Gx
set_option Elab.async false
set_option linter.all false
set_option maxRecDepth 100000
set_option maxHeartbeats 4000000
namespace Gx
open PySem PySem.Spec PyProof.Rows L2 RZ
/-! ### set(t) and len(set(t)), t a tuple of texts -/
/-- the texts met first, of the first i -/
def metS (zs : List Str) : Nat → List Str
  | 0 => []
  | i + 1 => if (metS zs i).any (· == zs.getD i Str.empty) = true then metS zs i else metS zs i ++ [zs.getD i Str.empty]
theorem metS_le (zs : List Str) : ∀ i, (metS zs i).length ≤ i
  | 0 => Nat.le_refl _
  | i + 1 => by
    have ih := metS_le zs i
    unfold metS
    split
    · omega
    · rw [List.length_append, List.length_singleton]
      omega
theorem metS_any (zs : List Str) (i : Nat) (z : Str) : ((metS zs i).any (· == z) || decide (z = zs.getD i Str.empty)) = (metS zs (i + 1)).any (· == z) := by
  have e1 : metS zs (i + 1) = if (metS zs i).any (· == zs.getD i Str.empty) = true then metS zs i else metS zs i ++ [zs.getD i Str.empty] := rfl
  rw [e1]
  generalize zs.getD i Str.empty = k
  by_cases hc : (metS zs i).any (· == k) = true
  · rw [if_pos hc]
    by_cases e : z = k
    · subst e
      rw [hc, Bool.true_or]
    · rw [decide_eq_false e, Bool.or_false]
  · rw [if_neg hc, List.any_append]
    congr 1
    show decide (z = k) = ((k == z) || false)
    rw [Bool.or_false]
    by_cases e : z = k
    · subst e
      simp
    · rw [decide_eq_false e]
      exact (beq_eq_false_iff_ne.mpr (Ne.symm e)).symm
theorem metS_len (zs : List Str) (i : Nat) : (if (metS zs i).any (· == zs.getD i Str.empty) = true then (metS zs i).length else (metS zs i).length + 1) = (metS zs (i + 1)).length := by
  have e1 : metS zs (i + 1) = if (metS zs i).any (· == zs.getD i Str.empty) = true then metS zs i else metS zs i ++ [zs.getD i Str.empty] := rfl
  rw [e1]
  split
  · rfl
  · rw [List.length_append, List.length_singleton]
theorem metS_mem (zs : List Str) : ∀ i, i ≤ zs.length → ∀ z, z ∈ metS zs i ↔ z ∈ zs.take i
  | 0, _, z => by simp [metS]
  | i + 1, hi, z => by
    have hl : i < zs.length := hi
    have eg : zs.getD i Str.empty = zs[i] := by rw [List.getD_eq_getElem?_getD, List.getElem?_eq_getElem hl]; rfl
    have ih := metS_mem zs i (Nat.le_of_lt hl) z
    unfold metS
    rw [List.take_add_one, List.getElem?_eq_getElem hl, eg]
    split
    · rename_i h
      rw [ih]
      constructor
      · intro k
        exact List.mem_append_left _ k
      · intro k
        rcases List.mem_append.mp k with k | k
        · exact k
        · obtain ⟨y, hy, e⟩ := List.any_eq_true.mp h
          have e1 : y = zs[i] := eq_of_beq e
          have e2 : z = zs[i] := by simpa using k
          rw [e2, ← e1]
          exact (metS_mem zs i (Nat.le_of_lt hl) y).mp hy
    · rw [List.mem_append, List.mem_append, ih]
      simp
theorem metS_full (zs : List Str) : ∀ i, i ≤ zs.length → (metS zs i).length = i → (zs.take i).Nodup
  | 0, _, _ => by simp
  | i + 1, hi, h => by
    have hl : i < zs.length := hi
    have eg : zs.getD i Str.empty = zs[i] := by rw [List.getD_eq_getElem?_getD, List.getElem?_eq_getElem hl]; rfl
    unfold metS at h
    rw [eg] at h
    split at h
    · have := metS_le zs i
      omega
    · rename_i c
      rw [List.length_append, List.length_singleton] at h
      rw [List.take_add_one, List.getElem?_eq_getElem hl]
      show (zs.take i ++ [zs[i]]).Nodup
      rw [List.nodup_append]
      refine ⟨metS_full zs i (Nat.le_of_lt hl) (by omega), by simp, fun a ha b hb z => c ?_⟩
      rw [List.mem_singleton.mp hb] at z
      rw [List.any_eq_true]
      exact ⟨zs[i], (metS_mem zs i (Nat.le_of_lt hl) _).mpr (z ▸ ha), by simp⟩
theorem metS_nodup (zs : List Str) (hn : zs.Nodup) : ∀ i, i ≤ zs.length → metS zs i = zs.take i
  | 0, _ => rfl
  | i + 1, hi => by
    have hl : i < zs.length := hi
    have eg : zs.getD i Str.empty = zs[i] := by rw [List.getD_eq_getElem?_getD, List.getElem?_eq_getElem hl]; rfl
    have ih := metS_nodup zs hn i (Nat.le_of_lt hl)
    unfold metS
    rw [ih, eg, List.take_add_one, List.getElem?_eq_getElem hl]
    rw [if_neg]
    · rfl
    · intro h
      obtain ⟨y, hy, e⟩ := List.any_eq_true.mp h
      have e1 : y = zs[i] := eq_of_beq e
      rw [e1] at hy
      obtain ⟨j, hj, ej⟩ := List.getElem_of_mem hy
      rw [List.length_take] at hj
      rw [List.getElem_take] at ej
      exact List.pairwise_iff_getElem.mp hn j i (by omega) hl (by omega) ej
def setLenS (zs : List Str) : Nat := (metS zs zs.length).length
theorem setLenS_eq (zs : List Str) : decide (V.int (setLenS zs : Nat) = V.int (zs.length : Nat)) = decide zs.Nodup := by
  by_cases h : zs.Nodup
  · have e : setLenS zs = zs.length := by
      unfold setLenS
      rw [metS_nodup zs h zs.length (Nat.le_refl _), List.take_length]
    rw [e, decide_eq_true h]
    exact decide_eq_true rfl
  · rw [decide_eq_false h]
    refine decide_eq_false fun z => h ?_
    have e : setLenS zs = zs.length := by
      have := V.int.inj z
      omega
    have := metS_full zs zs.length (Nat.le_refl _) e
    rwa [List.take_length] at this
section
variable {prog : Program} {w : World} {A : Around} {R : Result → Shared → Prop} {it : Addr} {mine wr : List Addr} {GG : Array GenState → Array GenState → Prop} {n : Nat} {PV : Nat → Value → Prop} {SS : Nat → Shared → Prop}
theorem loop_strs (W : WalksS prog w A.in1 it mine wr GG n PV SS) (a : Addr) (ham : a ∉ mine) (zs : List Str) (hz : zs.length = n) (hb : n + 1 < scanBound) (hv : ∀ i v, PV i v → ∃ t, v = .str (zs.getD i Str.empty) t) :
    ∀ (left i : Nat) (s : Shared), n - i = left → i ≤ n → SS i s → s.heap.SetOf (PySem.strKind prog w) a (fun z => (metS zs i).any (· == z)) (metS zs i).length →
      (∀ s', Moved (a :: wr) GG s s' → s'.heap.SetOf (PySem.strKind prog w) a (fun z => (metS zs n).any (· == z)) (metS zs n).length → R (.ok (.ret .none)) s') →
      codeAny (model prog w) A (.builtin "set.update.loop" ⟨[.ref a, .ref it], []⟩) R s := by
  have haw : a ∉ wr := fun h => ham (W.sub _ h)
  have sub1 : ∀ b ∈ wr, b ∈ a :: wr := fun _ h => List.mem_cons_of_mem _ h
  intro left
  induction left with
  | zero =>
    intro i s hl hi hs hset fin
    obtain rfl : i = n := by omega
    refine codeAny_builtin PyProof.Rows.F.entry_set_update_loop ?_
    rw [Around.under_plainId PyProof.Rows.F.plain_set_update_loop _]
    show wpAny _ A.in1 (pyNext (.ref it) >>= _) _ _ s
    refine wpAny_bind (W.done s _ _ hs fun s1 mv => ?_)
    show wpAny _ A.in1 (ret Value.none) _ _ s1
    refine wpAny_pure (fin s1 (mv.mono sub1) ?_)
    obtain ⟨o, es, ep, t, e, more⟩ := hset
    exact ⟨o, es, ep, t, mv.heap a _ haw e, more⟩
  | succ left ih =>
    intro i s hl hi hs hset fin
    have hlt : i < n := by omega
    refine codeAny_builtin PyProof.Rows.F.entry_set_update_loop ?_
    rw [Around.under_plainId PyProof.Rows.F.plain_set_update_loop _]
    show wpAny _ A.in1 (pyNext (.ref it) >>= _) _ _ s
    refine wpAny_bind (W.item i s _ _ hlt hs fun v s1 hP hs1 mv => ?_)
    obtain ⟨t, rfl⟩ := hv i v hP
    have set1 : s1.heap.SetOf (PySem.strKind prog w) a (fun z => (metS zs i).any (· == z)) (metS zs i).length := by
      obtain ⟨o, es, ep, t, e, more⟩ := hset
      exact ⟨o, es, ep, t, mv.heap a _ haw e, more⟩
    show wpAny _ A.in1 (holding [Value.str (zs.getD i Str.empty) t] (setAdd a (.str (zs.getD i Str.empty) t)) >>= _) _ _ s1
    refine wpAny_bind (wpAny_holding ?_)
    unfold setAdd
    refine wpAny_holding (wpAny_bind ((PySem.strKind prog w).pyHash (k := zs.getD i Str.empty) (strKind_is _ _ _ _) ?_))
    have hroom : (metS zs i).length + 1 < scanBound := by have := metS_le zs i; omega
    refine wpAny_setAddHashed_of (knd := PySem.strKind prog w) (s := { s1 with toks := s1.toks + 1 }) (strKind_is _ _ _ _) rfl set1 hroom fun h2 sb set2 => ?_
    have set3 : h2.SetOf (PySem.strKind prog w) a (fun z => (metS zs (i + 1)).any (· == z)) (metS zs (i + 1)).length := by
      exact SetOf_congr set2 (fun z => metS_any zs i z) (metS_len zs i)
    refine wpAny_pure ⟨plainId_quiet PyProof.Rows.F.plain_set_update_loop _, ih (i + 1) _ (by omega) hlt (W.frame _ s1 _ _ hs1 (Nat.le_succ _) fun b hbm o e => ?_) set3 fun s3 mv3 set4 => ?_⟩
    · exact (sb.2 b (fun z => ham (z ▸ hbm))).trans e
    · refine fin s3 (Moved.trans W.gtrans ((mv.mono sub1).then_heap (Nat.le_succ _) fun b o hbn e => ?_) mv3) set4
      exact (sb.2 b (fun z => hbn (z ▸ List.mem_cons_self))).trans e
end
end Gx
namespace Gx
open PySem PySem.Spec PyProof.Rows L2 RZ
section
variable {prog : Program} {w : World} {A : Around} {E : Value → Shared → Prop} {s : Shared}
theorem strA : ∀ {us : List Value} {zs : List Str}, StrsAre us zs → ∀ (i : Nat) (v : Value), us[i]? = some v → ∃ t, v = .str (zs.getD i Str.empty) t
  | _, _, .nil, _, _, e => by cases e
  | _, _, .cons z t r, 0, _, e => by cases e; exact ⟨t, rfl⟩
  | _, _, .cons z t r, i + 1, v, e => strA r i v e
abbrev set0 (led : Bool) : Obj := { cls := .type "set", dict := none, data := .set #[] 0 (.fresh 0 0 led) }
set_option maxHeartbeats 8000000 in
theorem set_of_strs {l : Addr} {its : Array Value} {zs : List Str} {Q : Value → Shared → Prop} (hd : A.handled = none) (tl : s.heap.IsTuple l its) (za : StrsAre its.toList zs) (hb : zs.length + 1 < scanBound)
    (fin : ∀ (h2 : Heap) (tk : Nat), h2.SetOf (PySem.strKind prog w) s.heap.objs.size (fun z => (metS zs zs.length).any (· == z)) (metS zs zs.length).length → (∀ b o, b < s.heap.objs.size → s.heap.get? b = some o → h2.get? b = some o) →
      Q (.ref s.heap.objs.size) { s with heap := h2, toks := tk }) : wpAny (model prog w) A (call (.type "set") [.ref l]) Q E s := by
  obtain ⟨m1, m2, mroS⟩ := PySem.F.called_set.mro
  have madeS := PySem.F.called_set.made
  have subS := PySem.F.called_set.sub
  refine wpAny_call (codeAny_of_tree ?_)
  show wpAny _ _ (callAny (.type "set") _) _ _ _
  refine wpAny_pure ⟨Code.quiet_builtin _ (by decide +kernel), codeAny_builtin PySem.F.entry_type_call ?_⟩
  rw [Around.under_plain (weight_type_call_type "set" [.ref l] []) rfl]
  have nT := PySem.F.called_set.notType
  have cC := PySem.F.called_set.canCreate
  have tC := PySem.F.typeCall_set_1 (.ref l)
  repeat (any_goals (first | assumption | wp_step))
  refine codeAny_mono (code_set_new_1 (.ref l) (E := E) (Q₁ := fun x s1 => ∃ led : Bool, x = .ref s.heap.objs.size ∧ s1 = { s with heap := s.heap.push (set0 led) }) fun led => ⟨led, rfl, rfl⟩) fun r s1 made => ?_
  cases r with
  | error e => exact made
  | ok fl =>
    cases fl with
    | ret x =>
      obtain ⟨led, rfl, rfl⟩ := made
      have at0 : (s.heap.push (set0 led)).get? s.heap.objs.size = some (set0 led) := Heap.get?_push_size _ rfl
      have ty0 : Shared.TypeIs { s with heap := s.heap.push (set0 led) } (.ref s.heap.objs.size) "set" := ⟨_, at0, rfl⟩
      have iL := PySem.F.called_set.init.lookup
      have iB := PySem.F.called_set.init.bind (.ref s.heap.objs.size)
      repeat (any_goals (first | assumption | wp_step))
      refine codeAny_mono (codeAny_call_builtin (R := wants (fun x s2 => x = .none ∧ ∃ h2 tk, s2 = { s with heap := h2, toks := tk } ∧ h2.SetOf (PySem.strKind prog w) s.heap.objs.size (fun z => (metS zs zs.length).any (· == z)) (metS zs zs.length).length ∧
          ∀ b o, b < s.heap.objs.size → s.heap.get? b = some o → h2.get? b = some o) E) PySem.F.called_set.init.plain PySem.F.entry_set_init (check_set_init_1 ty0 ?_)) fun r2 s2 got => ?_
      · obtain ⟨ob, eo, ec, nn, ed⟩ := tl
        obtain ⟨oc, od, odt, osl⟩ := ob
        simp only at ec ed
        subst ec; subst ed
        have eo2 : (s.heap.push (set0 led)).get? l = some { cls := .type "tuple", dict := od, data := .seq its nn, slots := osl } := Heap.get?_push_of_some _ eo
        have s1 := PySem.F.sub_tuple_set
        have s2 := PySem.F.sub_tuple_frozenset
        have s3 : (Value.type "tuple" == Value.type "dict") = false := by decide
        have tl1 : (s.heap.push (set0 led)).IsTuple l its := ⟨_, eo2, rfl, nn, rfl⟩
        unfold Builtin.«set.__init__» noKeywords Builtin.Frozenset.updateFrom
        generalize hPI : pyIter = PI
        wp_walk
        subst hPI
        refine wpAny_pyIter_tuple tl1 (wpAny_bind (wpAny_runValue ?_))
        have lS : l < s.heap.objs.size := Heap.lt_size eo
        have hd3 : A.in1.in1.in1.handled = none := by simp [hd]
        have lI : l ≠ (s.heap.push (set0 led)).objs.size := by
          rw [Heap.size_push]
          exact Nat.ne_of_lt (Nat.lt_succ_of_lt lS)
        have aM : s.heap.objs.size ∉ [(s.heap.push (set0 led)).objs.size, l] := by
          rw [Heap.size_push]
          simp only [List.mem_cons, List.not_mem_nil, or_false, not_or]
          refine ⟨?_, ?_⟩
          · exact Nat.ne_of_lt (Nat.lt_succ_self _)
          · exact Nat.ne_of_gt lS
        have zl : zs.length = its.size := by rw [← StrsAre.len_eq za, Array.length_toList]
        have zv : ∀ (i : Nat) (v : Value), its[i]? = some v → ∃ t, v = .str (zs.getD i Str.empty) t := fun i v hv => strA za i v (by rw [Array.getElem?_toList]; exact hv)
        refine loop_strs ((Walks.tuple hd3 _ l lI its).toS) s.heap.objs.size aM zs zl (by rw [← zl]; exact hb) zv (its.size - 0) 0 _ (by omega) (Nat.zero_le _) ⟨⟨_, Heap.get?_push_size _ rfl, rfl, rfl⟩, tl1.push _⟩ ?first ?last
        case first =>
          have at1 : ((s.heap.push (set0 led)).push { cls := .type "tuple_iterator", data := .fields #[.ref l, .int 0 0] }).get? s.heap.objs.size = some (set0 led) := Heap.get?_push_of_some _ at0
          exact SetOf_congr ((setObjOf_fresh (knd := PySem.strKind prog w) led).setOf at1 (by unfold scanBound; omega)) (fun _ => rfl) rfl
        case last =>
          intro s4 mv set4
          obtain ⟨h4, g4, d4, t4, os4⟩ := s4
          obtain rfl : g4 = s.gens := mv.gens
          obtain rfl : d4 = s.drawn := mv.drawn
          obtain rfl : os4 = s.os := mv.os
          show wpAny _ _ _ _ _ _
          refine wpAny_pure ?_
          show wpAny _ _ (ret Value.none) _ _ _
          rw [← zl] at set4
          refine wpAny_pure ⟨rfl, h4, t4, rfl, set4, fun b o hbs e => ?_⟩
          refine mv.heap b o ?_ (Heap.get?_push_of_some _ (Heap.get?_push_of_some _ e))
          rw [Heap.size_push]
          simp only [List.mem_cons, List.not_mem_nil, or_false, not_or]
          refine ⟨?_, ?_⟩
          · exact Nat.ne_of_lt hbs
          · exact Nat.ne_of_lt (Nat.lt_succ_of_lt hbs)
      · cases r2 with
        | error e => exact got
        | ok f2 =>
          cases f2 with
          | ret x =>
            obtain ⟨rfl, h2, tk, rfl, set5, keep5⟩ := got
            repeat (any_goals (first | assumption | wp_step))
            exact fin _ _ set5 keep5
          | _ => exact got.elim
    | _ => exact made.elim
def tLenSetS (K : PySem.W.Frag) (ta : TE) : TE := fun σ H Q => ta σ H fun x H1 => ∃ (l : Addr) (zs : List Str), x = .ref l ∧ SqT K H1 l (zs.map V.str) ∧ zs.length ≤ 4000 ∧ Q (.int (setLenS zs : Nat)) H1
theorem pe_lenSetS {X : Cx} {a : Expr} {ta : TE} {p p2 q pos : Pos} (hg : Gl X "len") (hm : X.mg "len" = none) (hg2 : Gl X "set") (hm2 : X.mg "set" = none) (ha : PE X a ta) (hc : X.calm = true := by rfl)
    (na : starEach [a] X.env = (false, eval a X.env) :: starEach [] X.env := by rfl) : PE X (.Call (.Name "len" p) [.Call (.Name "set" p2) [a] [] q] [] pos) (tLenSetS X.K ta) := by
  refine ⟨fun pins s σ H Q I h => ?_⟩
  refine Call_ (ld_blt I hg hm PySem.boot_len (PyProof.Rows.callWith_builtin1 (PyProof.Rows.args_cons ?_ rfl) rfl rfl))
  refine Call_ (ld_blt I hg2 hm2 PyProof.Rows.boot_set (PyProof.Rows.callWith_type1 (PyProof.Rows.args_cons (thn (ha.run pins s σ H _ I h) fun v s1 hv => PyProof.Rows.args_nil ?_) na) na rfl))
  obtain ⟨x, H1, I1, r1, l, zs, rfl, hq, hl, q1⟩ := hv
  cases r1
  obtain ⟨its, r, pl, hz⟩ := I1.tuple hq
  refine set_of_strs (I1.ok.hd hc) pl (by simpa using strsAre_of r) (by unfold scanBound; omega) fun h2 tk hS hk => PyProof.Rows.args_nil ?_
  obtain ⟨o, es, ep, t, ho, hex, hd, _, _, _, hf, hn⟩ := hS
  have I2 : Inv X pins σ H1 { s1 with heap := h2, toks := tk } := I1.kept fun b o e => hk b o (Heap.lt_size e) e
  have hle := metS_le zs zs.length
  exact call_len_set ho hex hd hf (by rw [hn] <;> omega) ⟨.int (setLenS zs : Nat), H1, I2.tok _, ⟨_, by rw [hn]; rfl⟩, q1⟩
end
end Gx
set_option Elab.async false
set_option linter.all false
set_option maxRecDepth 100000
set_option maxHeartbeats 4000000
namespace K2
open PySem PySem.Spec PyProof.Rows L2 Gx RZ
def topS (i : Nat) : Stmt := PySem.Challenge.pw_truelevels_k02_wrong_texts.main.body.getD i (.Pass ⟨0, 0, 0, 0⟩)
abbrev sIsName : Stmt := topS 5
abbrev sIsValue : Stmt := topS 10
abbrev sIsJoined : Stmt := topS 11
abbrev sReached : Stmt := topS 12
abbrev sNeighbours : Stmt := topS 13
abbrev sNeighboursOver : Stmt := topS 14
abbrev sParse : Stmt := topS 19
abbrev sIsAllowed : Stmt := topS 20
abbrev sIsAllowedSign : Stmt := topS 21
abbrev sWordsOf : Stmt := topS 22
abbrev sMarksOf : Stmt := topS 23
abbrev sFaultOfMarks : Stmt := topS 24
abbrev sReadingOf : Stmt := topS 25
abbrev sFaultOfReading : Stmt := topS 26
abbrev sIsNumber : Stmt := topS 27
abbrev sCell : Stmt := topS 29
abbrev sDigits : Stmt := topS 30
abbrev sDraw : Stmt := topS 31
abbrev sPick : Stmt := topS 32
abbrev sTold : Stmt := topS 33
abbrev sBadFirsts : Stmt := topS 34
abbrev sBadLines : Stmt := topS 35
abbrev sLaw : Stmt := topS 36
section
variable {P : Program} {w : World} {K : PySem.W.Frag} {mg : Str → Option Value} {base : Heap}
/-! ### is_value -/
def spIsValue : Sp := fun vs H Q _ => ∃ i : Int, vs = [.int i] ∧ Q (.bl (decide (-1000000 ≤ i ∧ i ≤ 1000000))) H
theorem scIsValue : FnScope ["number"] ["number"] (defScope sIsValue) := ⟨rfl, rfl, rfl, by decide +kernel, rfl, by decide +kernel, by decide +kernel⟩
theorem ok_isValue {f : Addr} {fd : FuncData} {tk : Tok} (mv : mg "MOST_VALUE" = some (.int 1000000 tk)) (F : Fun K "is_value" "is_value" sIsValue f fd) : FnOk P w K mg base CX0 1 f fd ["number"] spIsValue := by
  refine F.ok scIsValue (fun vs H Q E h => ?_) (fun cdv A outer s H vs Q E hr h => ?_)
  · obtain ⟨_, rfl, _⟩ := h
    rfl
  · obtain ⟨i, rfl, q⟩ := h
    refine ⟨_, pss_one (ps_ret (pe_chain op_le op_le (pe_un un_neg (pe_glob (v := .int 1000000) rfl mv ⟨_, rfl⟩)) (pv 0) (pe_glob (v := .int 1000000) rfl mv ⟨_, rfl⟩))), ?_⟩
    refine ⟨_, rfl, _, rfl, _, _, rfl, rfl, _, rfl, ite2 (fun c => ?_) (fun c => ?_)⟩
    · refine ⟨_, _, rfl, rfl, ?_⟩
      have e : decide (-1000000 ≤ i ∧ i ≤ 1000000) = decide (i ≤ 1000000) := by
        have h1 := of_decide_eq_true c
        simp [h1]
      rw [e] at q
      exact q
    · have e : decide (-1000000 ≤ i ∧ i ≤ 1000000) = false := decide_eq_false fun h => c (decide_eq_true h.1)
      rw [e] at q
      exact q
end
def isNameS (x : Str) : Bool := decide (1 ≤ x.length ∧ x.length ≤ 8) && x.cps.toList.all fun c => decide (97 ≤ c ∧ c ≤ 122)
def isNameD (d : PyData) : Bool :=
  match d with
  | .str x => isNameS x
  | _ => false
section
variable {P : Program} {w : World} {K : PySem.W.Frag} {mg : Str → Option Value} {base : Heap}
theorem sign_lt {a b : Nat} : (!decide (([a] : List Nat) < [b])) = decide (b ≤ a) := by
  by_cases h : b ≤ a
  · rw [decide_eq_true h]
    simp [List.cons_lt_cons_iff]
    omega
  · rw [decide_eq_false h]
    simp [List.cons_lt_cons_iff]
    omega
/-! ### is_name -/
def spIsName (K : PySem.W.Frag) (T : Addr) : Sp := fun vs H Q _ => ∃ (v : V) (d : PyData), vs = [v] ∧ DQ [] K H d v ∧ (∀ x, d = .str x → x.length ≤ 100000) ∧ GxR.TabG H T ∧ ∀ H', Ext [] H H' → Q (.bl (isNameD d)) H'
abbrev nIsName : List Str := ["thing", "letter"]
theorem scIsName : FnScope nIsName ["thing"] (defScope sIsName) := ⟨rfl, rfl, rfl, by decide +kernel, rfl, by decide +kernel, by decide +kernel⟩
theorem ok_isName {f c T : Addr} {fd : FuncData} {tk : Tok} (mii : mg "isinstance" = none) (ms : mg "str" = none) (ml : mg "len" = none) (mal : mg "all" = none) (mv : mg "MOST_LETTERS" = some (.int 8 tk)) (F : FunT K "is_name" "is_name" sIsName f fd c) (TB : GxR.TabB base mg c T) :
    FnOk P w K mg base CX0 8 f fd ["thing"] (spIsName K T) := by
  have nd := scIsName.nd
  refine F.ok scIsName (fun vs H Q E h => ?_) (fun A outer s H vs Q E hr h => ?_)
  · obtain ⟨_, _, rfl, _⟩ := h
    rfl
  · obtain ⟨v, d, rfl, hd, hsh, hT, q⟩ := h
    refine ⟨_, pss_cons (ps_if (PW.pt (pw_or (pt_not (pt_val (pe_callB call_isi (by rfl) mii PyProof.Rows.boot_isinstance (pa_cons (pv 0) (pa_cons (pe_bltn (v := .ty "str") (u := .type "str") (by rfl) ms (by decide +kernel) rfl) pa_nil)))))
        (pw_or1 (pt_not (pt_chain op_le op_le pe_int (pe_callB call_len_str (by rfl) ml PySem.boot_len (pa_cons (pv 0) pa_nil)) (pe_glob (v := .int 8) rfl mv ⟨_, rfl⟩)))))) (pss_one (ps_ret pe_bl)) pss_nil)
      (pss_one (ps_ret (pe_all (k := 2) (psrc (k := 1) (own := [("letter", 1)]) (hr.mono (by decide)) rfl nd TB rfl (pi_str (pv 0)) (blkOk_by (N := nIsName) (sc := defScope sIsName) (by decide +kernel)) (by decide +kernel) rfl rfl
        (fun _ _ _ _ _ _ _ _ => pg_name (i := 1) nd rfl (.inl rfl)) (fun _ _ _ _ _ _ _ _ _ => pts_nil) (fun _ _ _ _ _ _ _ _ _ => pe_chain op_le_str op_le_str pe_str (pv 1) pe_str)) (hr.mono (by decide)) rfl mal))), ?_⟩
    refine ⟨_, rfl, v, .ty "str", _, _, _, rfl, .ty "str", hd.ty d v, kit_str d hd.nodict, _, rfl, ?_⟩
    refine ite2 (fun c0 => ?_) (fun c0 => ?_)
    · have e : isNameD d = false := by
        cases d <;> first | rfl | cases c0
      rw [e] at q
      exact iteT (q H .refl)
    · obtain ⟨x, rfl⟩ : ∃ x, d = .str x := by
        cases d <;> first | exact ⟨_, rfl⟩ | exact absurd rfl c0
      rw [DQ] at hd
      subst hd
      have hx := hsh x rfl
      refine ⟨_, rfl, x, rfl, by show _ ≤ 2 ^ 24; omega, _, _, rfl, rfl, _, rfl, ?_⟩
      have bad : ¬ (1 ≤ x.length ∧ x.length ≤ 8) → Q (.bl false) H := fun hb => by
        have e : isNameD (.str x) = false := by
          show (decide _ && _) = false
          rw [decide_eq_false hb, Bool.false_and]
        rw [e] at q
        exact q H .refl
      refine ite2 (fun c1 => ?_) (fun c1 => ?_)
      · refine ⟨_, _, rfl, rfl, _, rfl, ite2 (fun c2 => ?_) (fun c2 => ?_)⟩
        · exact bad fun z => by
            rw [decide_eq_true (show ((x.length : Nat) : Int) ≤ 8 by omega)] at c2
            cases c2
        · have hb : 1 ≤ x.length ∧ x.length ≤ 8 := by
            have h1 := of_decide_eq_true c1
            have h2 : ((x.length : Nat) : Int) ≤ 8 := by
              apply Classical.byContradiction
              intro z
              rw [decide_eq_false z] at c2
              exact c2 rfl
            omega
          have eN : isNameD (.str x) = x.cps.toList.all fun c => decide (97 ≤ c ∧ c ≤ 122) := by
            show (decide _ && _) = _
            rw [decide_eq_true hb, Bool.true_and]
          rw [eN] at q
          refine ⟨_, rfl, x, rfl, hT, fun H2 tb => ?_⟩
          have x2 : Ext [] H H2 := .tabbed hT tb
          refine by_n x.cps.size (fun i ys H3 => Ext [] H H3 ∧ ys = (x.cps.toList.take i).map fun c => V.bl (decide (97 ≤ c ∧ c ≤ 122))) ⟨x2, rfl⟩ (fun i ys H3 hi _ => hi) (fun ys H3 _ => Nat.le_refl _) (fun i ys H3 y H4 hi h3 hy => ?_) (fun ys H3 h3 => ?_)
          · obtain ⟨x3, rfl⟩ := h3
            obtain ⟨rfl, c, hc, rfl⟩ := hy
            have hil : i < x.cps.toList.length := by simpa using hi
            have ec : x.cps.toList[i] = c := by
              rw [Array.getElem_toList]
              exact (Array.getElem?_eq_some_iff.mp hc).2
            refine ⟨rfl, _, rfl, _, _, rfl, rfl, _, rfl, ?_⟩
            have done : ∀ b : Bool, b = decide (97 ≤ c ∧ c ≤ 122) → (kAll fun v H' => Q v H').mid ((x.cps.toList.take i).map fun c => V.bl (decide (97 ≤ c ∧ c ≤ 122))) (.bl b) H4 ∧ ((kAll fun v H' => Q v H').go (.bl b) → Ext [] H H4 ∧ (List.map (fun c => V.bl (decide (97 ≤ c ∧ c ≤ 122))) (x.cps.toList.take i)) ++ [V.bl b] = (x.cps.toList.take (i + 1)).map fun c => V.bl (decide (97 ≤ c ∧ c ≤ 122))) := fun b hb => by
              subst hb
              refine ⟨⟨_, rfl, fun hf _ => ?_⟩, fun _ => ⟨x3, ?_⟩⟩
              · have : (x.cps.toList.all fun c => decide (97 ≤ c ∧ c ≤ 122)) = false := by
                  rw [List.all_eq_false]
                  exact ⟨_, List.getElem_mem hil, by rw [ec, hf]; decide⟩
                rw [this] at q
                exact q _ x3
              · rw [← snoc (fun c => V.bl (decide (97 ≤ c ∧ c ≤ 122))) x.cps.toList hil, ec]
            have e1 : (!decide ((⟨#[c]⟩ : Str).cps.toList < ("a" : Str).cps.toList)) = decide (97 ≤ c) := sign_lt
            have e2 : (!decide (("z" : Str).cps.toList < (⟨#[c]⟩ : Str).cps.toList)) = decide (c ≤ 122) := sign_lt
            refine ite2 (fun k1 => ?_) (fun k1 => ?_)
            · rw [e1] at k1
              have h1 := of_decide_eq_true k1
              refine ⟨_, _, rfl, rfl, done _ ?_⟩
              rw [e2]
              exact decide_eq_decide.mpr ⟨fun h => ⟨h1, h⟩, fun h => h.2⟩
            · rw [e1] at k1
              exact done false (decide_eq_false fun h => k1 (decide_eq_true h.1)).symm
          · obtain ⟨x3, rfl⟩ := h3
            intro hall
            have : (x.cps.toList.all fun c => decide (97 ≤ c ∧ c ≤ 122)) = true := by
              rw [List.all_eq_true]
              intro c hc
              have lx : x.cps.size = x.cps.toList.length := by simp
              rw [lx, List.take_length] at hall
              have := hall _ (List.mem_map.mpr ⟨c, hc, rfl⟩)
              exact V.bl.inj this
            rw [this] at q
            exact q _ x3
      · refine ⟨_, rfl, iteT (bad fun z => c1 (decide_eq_true (by omega)))⟩
end
end K2
set_option Elab.async false
set_option linter.all false
set_option maxRecDepth 100000
set_option maxHeartbeats 4000000
namespace K2
open PySem PySem.Spec PyProof.Rows L2 Gx RZ
section
variable {P : Program} {w : World} {K : PySem.W.Frag} {mg : Str → Option Value} {base : Heap}
/-! ### neighbours -/
/-- the list of lists while it is made -/
structure Near (K : PySem.W.Frag) (H0 H : Hp) (np : Addr) (ads : List Addr) (adj : Nat → List StepM) : Prop where
  x : Ext [] H0 H
  new : H0 np = none
  lst : H np = some (.lst (ads.map V.ref))
  nod : ads.Nodup
  npn : np ∉ ads
  anew : ∀ a ∈ ads, H0 a = none
  at_ : ∀ m a, ads[m]? = some a → StepsAt K H a (adj m)
theorem Near.near {H0 H : Hp} {np : Addr} {ads : List Addr} {adj : Nat → List StepM} (N : Near K H0 H np ads adj) : NearAt K H np ads.length adj := ⟨ads, N.lst, rfl, N.at_⟩
theorem Near.ext {H0 H H1 : Hp} {np : Addr} {ads : List Addr} {adj : Nat → List StepM} (N : Near K H0 H np ads adj) (x : Ext [] H H1) : Near K H0 H1 np ads adj :=
  ⟨N.x.trans x, N.new, x.lst N.lst (by simp), N.nod, N.npn, N.anew, fun m a e => (N.at_ m a e).ext x (by simp)⟩
/-- one more empty list -/
theorem Near.more {H0 H : Hp} {np a : Addr} {ads : List Addr} (N : Near K H0 H np ads fun _ => []) (ha : H a = none) : Near K H0 (upd (upd H a (.lst [])) np (.lst (ads.map V.ref ++ [.ref a]))) np (ads ++ [a]) fun _ => [] := by
  have nan : np ≠ a := ne_of_none N.lst ha
  have e1 : (upd H a (.lst [])) np = some (.lst (ads.map V.ref)) := by rw [upd_ne nan]; exact N.lst
  have x1 : Ext [] H0 (upd H a (.lst [])) := N.x.trans (.new ha)
  have anew : a ∉ ads := fun h => by
    obtain ⟨m, hm, e⟩ := List.getElem_of_mem h
    obtain ⟨vs, hv, _⟩ := N.at_ m a (by rw [List.getElem?_eq_getElem hm, e])
    rw [ha] at hv
    cases hv
  refine ⟨x1.own N.new e1, N.new, by rw [upd_same, List.map_append]; rfl, ?_, ?_, ?_, fun m b e => ?_⟩
  · rw [List.nodup_append]
    refine ⟨N.nod, by simp, fun b hb d hd => ?_⟩
    rw [List.mem_singleton.mp hd]
    exact fun z => anew (z ▸ hb)
  · intro h
    rcases List.mem_append.mp h with h | h
    · exact N.npn h
    · exact nan (List.mem_singleton.mp h)
  · intro b hb
    rcases List.mem_append.mp hb with hb | hb
    · exact N.anew b hb
    · rw [List.mem_singleton.mp hb]
      exact N.x.dom a ha
  · by_cases hm : m < ads.length
    · rw [List.getElem?_append_left hm] at e
      obtain ⟨vs, h1, h2, h3⟩ := N.at_ m b e
      have nb : b ≠ np := fun z => N.npn (z ▸ List.mem_of_getElem? e)
      have nba : b ≠ a := ne_of_none h1 ha
      cases vs with
      | nil => exact ⟨[], by rw [upd_ne nb, upd_ne nba]; exact h1, rfl, fun j st z => by cases z⟩
      | cons v vs => simp at h2
    · have hb : b = a := by
        rw [List.getElem?_append_right (by omega)] at e
        cases h : m - ads.length with
        | zero => rw [h] at e; cases e; rfl
        | succ k => rw [h] at e; cases e
      subst hb
      exact ⟨[], by rw [upd_ne nan.symm]; exact upd_same, rfl, fun j st z => by cases z⟩
/-- a step more from mark m -/
theorem Near.step {H0 H : Hp} {np t a : Addr} {ads : List Addr} {adj : Nat → List StepM} {m : Nat} {st : StepM} {vs : List V} (N : Near K H0 H np ads adj) (hm : ads[m]? = some a) (hv : H a = some (.lst vs)) (ht : SqT K H t [.int st.1, .int st.2.1, .int st.2.2]) :
    Near K H0 (upd H a (.lst (vs ++ [.ref t]))) np ads fun k => if k = m then adj k ++ [st] else adj k := by
  have hma := List.mem_of_getElem? hm
  have nan : np ≠ a := fun z => N.npn (z ▸ hma)
  have xs : Ext [a] H (upd H a (.lst (vs ++ [.ref t]))) := .set (List.mem_singleton.mpr rfl) hv
  refine ⟨N.x.own (N.anew a hma) hv, N.new, by rw [upd_ne nan]; exact N.lst, N.nod, N.npn, N.anew, fun k b e => ?_⟩
  by_cases hk : k = m
  · subst hk
    rw [if_pos rfl]
    obtain rfl : a = b := Option.some.inj (hm.symm.trans e)
    obtain ⟨vs', h1, h2, h3⟩ := N.at_ k a e
    obtain rfl : vs' = vs := HO.lst.inj (Option.some.inj (h1.symm.trans hv))
    exact StepsAt.push N.x (N.anew a hma) hv h2 h3 ht
  · rw [if_neg hk]
    refine (N.at_ k b e).ext xs ?_
    rw [List.mem_singleton]
    intro z
    subst z
    have h1 := List.getElem?_eq_some_iff.mp e
    have h2 := List.getElem?_eq_some_iff.mp hm
    obtain ⟨l1, z1⟩ := h1
    obtain ⟨l2, z2⟩ := h2
    rcases Nat.lt_trichotomy k m with h | h | h
    · exact List.pairwise_iff_getElem.mp N.nod k m l1 l2 h (z1.trans z2.symm)
    · exact hk h
    · exact List.pairwise_iff_getElem.mp N.nod m k l2 l1 h (z2.trans z1.symm)
def spNeighO (K : PySem.W.Frag) : Sp := fun vs H Q _ => ∃ (rp cp : Addr) (n : Nat) (rs : List Rd3), vs = [.int (n : Nat), .ref rp, .ref cp] ∧ SqT K H cp ((List.range rs.length).map fun i => V.int (i : Nat)) ∧ RdsL K H rp rs ∧ Gx.Good n rs ∧ n ≤ 1000 ∧ rs.length ≤ 1000 ∧
  ∀ np H', Ext [] H H' → H np = none → NearAt K H' np n (adjT rs rs.length) → Q (.ref np) H'
def spNeigh (K : PySem.W.Frag) : Sp := fun vs H Q _ => ∃ (rp : Addr) (n : Nat) (rs : List Rd3), vs = [.int (n : Nat), .ref rp] ∧ RdsL K H rp rs ∧ Gx.Good n rs ∧ n ≤ 1000 ∧ rs.length ≤ 1000 ∧
  ∀ np H', Ext [] H H' → H np = none → NearAt K H' np n (adjT rs rs.length) → Q (.ref np) H'
abbrev nNeighO : List Str := ["many", "readings", "chosen", "near", "index", "start", "end", "_"]
theorem scNeighO : FnScope nNeighO ["many", "readings", "chosen"] (defScope sNeighboursOver) := ⟨rfl, rfl, rfl, by decide +kernel, rfl, by decide +kernel, by decide +kernel⟩
theorem ok_neighO {f : Addr} {fd : FuncData} (mr : mg "range" = none) (F : Fun K "neighbours_over" "neighbours_over" sNeighboursOver f fd) : FnOk P w K mg base CX0 2 f fd ["many", "readings", "chosen"] (spNeighO K) := by
  have nd := scNeighO.nd
  refine F.ok scNeighO (fun vs H Q E h => ?_) (fun cdv A outer s H vs Q E hr h => ?_)
  · obtain ⟨_, _, _, _, rfl, _⟩ := h
    rfl
  · obtain ⟨rp, cp, n, rs, rfl, hcp, ⟨vs, n3, n4, n5⟩, hgood, hn, hlen, q⟩ := h
    refine ⟨_, pss_cons (ps_setLc (i := 3) (own := [("_", 7)]) (g := gName 7) rfl nd rfl rfl (sw_true rfl rfl rfl (by decide +kernel)) (pi_range1 (by rfl) mr (pa_cons (pv 0) pa_nil)) (blkOk_by (N := nNeighO) (sc := defScope sNeighboursOver) (by decide +kernel))
          (fun _ _ _ _ _ => pg_name (i := 7) nd rfl (.inl rfl)) (fun _ _ _ _ _ => pts_nil) (fun _ _ _ _ _ => pe_lst pa_nil))
      (pss_cons (ps_for PassesOwn.never rfl (pi_tup (pv 2)) (pg_name (i := 4) nd rfl (.inl rfl))
        (pss_cons (ps_asg (pe_ix ix_list (pv 1) (pv 4) (fun _ _ => rfl)) (pg_tup rfl (pgs_cons (pg_name (i := 5) nd rfl (.inl rfl)) (pgs_cons (pg_name (i := 6) nd rfl (.inl rfl)) (pgs_cons (pg_name (i := 7) nd rfl (.inl rfl)) pgs_nil)))))
        (pss_cons (ps_expr (pe_bm PySem.F.plainAttrs_list PySem.F.slot_list_append PySem.F.type_list_append mt_append (pe_ix ix_list (pv 3) (pv 5) (fun _ _ => rfl)) (pa_cons (pe_tup (pa_cons (pv 4) (pa_cons pe_int (pa_cons (pv 6) pa_nil)))) pa_nil)))
        (pss_one (ps_expr (pe_bm PySem.F.plainAttrs_list PySem.F.slot_list_append PySem.F.type_list_append mt_append (pe_ix ix_list (pv 3) (pv 6) (fun _ _ => rfl)) (pa_cons (pe_tup (pa_cons (pv 4) (pa_cons (pe_un un_neg pe_int) (pa_cons (pv 5) pa_nil)))) pa_nil)))))))
      (pss_one (ps_ret (pv 3)))), ?_⟩
    refine ⟨_, rfl, (n : Nat), rfl, by omega, by omega, fun D hD => ?_⟩
    rw [Int.toNat_natCast]
    refine lc_range (fun j H2 => ∃ ads, ads.length = j ∧ Near K H H2 D ads fun _ => []) ⟨[], rfl, ⟨.new hD, hD, upd_same, .nil, by simp, (fun a h => by cases h), fun m a e => by cases e⟩⟩ (fun j H2 hj h2 => ?_) (fun H2 h2 => ?_)
    · obtain ⟨ads, hl, N⟩ := h2
      refine ⟨rfl, by decide, fun e he => ⟨ads.map V.ref, by rw [upd_ne (ne_of_none N.lst he)]; exact N.lst, by rw [List.length_map, hl]; exact small1000 (by omega), ads ++ [e], by rw [List.length_append, hl]; rfl, N.more he⟩⟩
    · obtain ⟨ads, hl, N⟩ := h2
      refine ⟨_, rfl, cp, rfl, ⟨_, N.x.sqT hcp⟩, ?_⟩
      refine for_tup (xs := (List.range rs.length).map fun i => V.int (i : Nat)) (fun i σ H3 => ∃ y4 y5 y6 y7, σ = [some (.int (n : Nat)), some (.ref rp), some (.ref cp), some (.ref D), y4, y5, y6, y7] ∧ Near K H H3 D ads (adjT rs i)) ⟨_, _, _, _, rfl, N⟩ (fun i σ H3 _ h3 => ?_) (fun i v σ H3 hv h3 => ?_) (fun σ H3 h3 => ?_)
      · obtain ⟨_, _, _, _, _, N3⟩ := h3
        exact N3.x.sqT hcp
      · obtain ⟨y4, y5, y6, y7, rfl, N4⟩ := h3
        have hi : i < rs.length := by
          have := (List.getElem?_eq_some_iff.mp hv).1
          rwa [List.length_map, List.length_range] at this
        have hvi : v = .int (i : Nat) := by
          rw [List.getElem?_map, List.getElem?_range hi] at hv
          exact (Option.some.inj hv).symm
        subst hvi
        obtain ⟨v', e1, rp', rfl, e2⟩ := n5 i rs[i] (List.getElem?_eq_getElem hi)
        obtain ⟨g1, g2, g3⟩ := hgood _ (List.getElem_mem hi)
        refine ⟨_, rfl, _, rfl, rp, _, _, _, rfl, rfl, N4.x.sqL n3 (by simp), atI_nat e1, ?_⟩
        refine ⟨rp', _, rfl, N4.x.sqT e2, rfl, _, _, rfl, _, _, rfl, _, _, rfl, rfl, ?_⟩
        -- from the start
        have l1 : rs[i].1 < ads.length := by omega
        have l2 : rs[i].2.1 < ads.length := by omega
        have a1 : (ads.map V.ref)[rs[i].1]? = some (.ref ads[rs[i].1]) := by rw [List.getElem?_map, List.getElem?_eq_getElem l1]; rfl
        have a2 : (ads.map V.ref)[rs[i].2.1]? = some (.ref ads[rs[i].2.1]) := by rw [List.getElem?_map, List.getElem?_eq_getElem l2]; rfl
        obtain ⟨ws, w1, w2, _⟩ := N4.at_ _ _ (List.getElem?_eq_getElem l1)
        have hw1 : ws.length ≤ 1000 := by
          rw [w2]
          have := adjT_length rs rs[i].1 i
          omega
        refine ⟨_, rfl, _, rfl, D, _, _, _, rfl, rfl, SqL.of N4.lst, atI_nat a1, .inl ⟨rfl, _, SqL.of w1⟩, _, rfl, _, rfl, by show 3 ≤ sizeLine; decide, fun t ht => ?_⟩
        have w1' : (upd H3 t (.tup [.int (i : Nat), .int 1, .int (rs[i].2.1 : Nat)])) ads[rs[i].1] = some (.lst ws) := by rw [upd_ne (ne_of_none w1 ht)]; exact w1
        refine ⟨ads[rs[i].1], _, _, rfl, rfl, w1', small1000 hw1, ?_⟩
        have N5 := (N4.ext (.new ht)).step (st := (i, 1, rs[i].2.1)) (t := t) (List.getElem?_eq_getElem l1) w1' (.inl (.inl upd_same))
        generalize upd (upd H3 t (.tup [.int (i : Nat), .int 1, .int (rs[i].2.1 : Nat)])) ads[rs[i].1] (.lst (ws ++ [.ref t])) = H5 at N5 ⊢
        -- from the end
        obtain ⟨ws2, v1, v2, _⟩ := N5.at_ _ _ (List.getElem?_eq_getElem l2)
        have hw2 : ws2.length ≤ 1000 := by
          rw [v2, if_neg g3.symm]
          have := adjT_length rs rs[i].2.1 i
          omega
        refine ⟨_, rfl, _, rfl, D, _, _, _, rfl, rfl, SqL.of N5.lst, atI_nat a2, .inl ⟨rfl, _, SqL.of v1⟩, _, rfl, _, rfl, _, rfl, by show 3 ≤ sizeLine; decide, fun t2 ht2 => ?_⟩
        have v1' : (upd H5 t2 (.tup [.int (i : Nat), .int (-1), .int (rs[i].1 : Nat)])) ads[rs[i].2.1] = some (.lst ws2) := by rw [upd_ne (ne_of_none v1 ht2)]; exact v1
        refine ⟨ads[rs[i].2.1], _, _, rfl, rfl, v1', small1000 hw2, ?_⟩
        have N6 := (N5.ext (.new ht2)).step (st := (i, -1, rs[i].1)) (t := t2) (List.getElem?_eq_getElem l2) v1' (.inl (.inl upd_same))
        refine ⟨_, _, _, _, rfl, ?_⟩
        have eA : (fun k => if k = rs[i].2.1 then (if k = rs[i].1 then adjT rs i k ++ [(i, 1, rs[i].2.1)] else adjT rs i k) ++ [(i, -1, rs[i].1)] else if k = rs[i].1 then adjT rs i k ++ [(i, 1, rs[i].2.1)] else adjT rs i k) = adjT rs (i + 1) := by
          funext k
          have eg : rs.getD i (0, 0, 0) = rs[i] := by rw [List.getD_eq_getElem?_getD, List.getElem?_eq_getElem hi]; rfl
          show _ = adjT rs i k ++ stepAt i (rs.getD i (0, 0, 0)) k
          rw [eg]
          unfold stepAt
          by_cases k1 : rs[i].1 = k
          · rw [if_pos k1, if_neg (by omega), if_pos k1.symm]
          · rw [if_neg k1, if_neg (Ne.symm k1)]
            by_cases k2 : rs[i].2.1 = k
            · rw [if_pos k2, if_pos k2.symm]
            · rw [if_neg k2, if_neg (Ne.symm k2), List.append_nil]
        rw [eA] at N6
        exact N6
      · obtain ⟨y4, y5, y6, y7, rfl, N3⟩ := h3
        refine ⟨_, rfl, q D H3 N3.x N3.new ?_⟩
        rw [List.length_map, List.length_range] at N3
        rw [← hl]
        exact N3.near
abbrev nNeigh : List Str := ["many", "readings"]
theorem scNeigh : FnScope nNeigh ["many", "readings"] (defScope sNeighbours) := ⟨rfl, rfl, rfl, by decide +kernel, rfl, by decide +kernel, by decide +kernel⟩
theorem ok_neigh {f fO : Addr} {fd fdO : FuncData} (mr : mg "range" = none) (ml : mg "len" = none) (mt : mg "tuple" = none) (F : Fun K "neighbours" "neighbours" sNeighbours f fd)
    (FO : Fun K "neighbours_over" "neighbours_over" sNeighboursOver fO fdO) (bO : Binds K fdO ["many", "readings", "chosen"] []) (gO : mg "neighbours_over" = some (.ref fO)) : FnOk P w K mg base CX0 3 f fd ["many", "readings"] (spNeigh K) := by
  have GO : FnOk P w K mg base CX0 2 fO fdO ["many", "readings", "chosen"] (spNeighO K) := ok_neighO mr FO
  refine F.ok scNeigh (fun vs H Q E h => ?_) (fun cdv A outer s H vs Q E hr h => ?_)
  · obtain ⟨_, _, _, rfl, _⟩ := h
    rfl
  · obtain ⟨rp, n, rs, rfl, hrd, hgood, hn, hlen, q⟩ := h
    refine ⟨_, pss_one (ps_ret (pe_call GO hr (by rfl) gO FO.kp bO .nil pass0 (pa_cons (pv 0) (pa_cons (pv 1) (pa_cons (pe_tupRg rfl (by rfl) mt (prg_1 (by rfl) mr (pe_callB call_len_seq (by rfl) ml PySem.boot_len (pa_cons (pv 1) pa_nil)))) pa_nil))))), ?_⟩
    obtain ⟨vs, n3, n4, n5⟩ := hrd
    refine ⟨_, rfl, _, rfl, _, rfl, rp, vs, rfl, .inl n3, _, rfl, RgOk.of_le (by omega) (by omega) (by omega) (by omega), fun cp hcp => ?_⟩
    have x1 : Ext [] H (upd H cp (.tup (rgV 0 (vs.length : Nat)))) := .new hcp
    refine ⟨rp, cp, n, rs, rfl, .inl (.inl ?_), RdsL.ext (⟨vs, n3, n4, n5⟩ : RdsL K H rp rs) x1, hgood, hn, hlen, fun np H' x2 hnp hat => q np H' (x1.trans x2) (x1.dom np hnp) hat⟩
    rw [upd_same, n4]
    unfold rgV
    congr 2
    rw [show (((rs.length : Nat) : Int) - 0).toNat = rs.length by omega]
    exact List.map_congr_left fun i _ => by rw [Int.zero_add]
end
end K2
set_option Elab.async false
set_option linter.all false
set_option maxRecDepth 100000
set_option maxHeartbeats 4000000
namespace K2
open PySem PySem.Spec PyProof.Rows L2 Gx RZ
/-! ### who is joined with whom -/
def Adj (rs : List Rd3) (m k : Nat) : Prop := ∃ r ∈ rs, (r.1 = m ∧ r.2.1 = k) ∨ (r.2.1 = m ∧ r.1 = k)
inductive Conn (rs : List Rd3) (a : Nat) : Nat → Prop
  | refl : Conn rs a a
  | step {m k : Nat} (h : Conn rs a m) (e : Adj rs m k) : Conn rs a k
theorem Adj.lt {rs : List Rd3} {n m k : Nat} (hg : Gx.Good n rs) (h : Adj rs m k) : k < n := by
  obtain ⟨r, hr, h | h⟩ := h
  · have := (hg r hr).2.1
    omega
  · have := (hg r hr).1
    omega
theorem Conn.lt {rs : List Rd3} {n a m : Nat} (hg : Gx.Good n rs) (ha : a < n) (h : Conn rs a m) : m < n := by
  cases h with
  | refl => exact ha
  | step _ e => exact e.lt hg
theorem adjT_adj {rs : List Rd3} {m : Nat} : ∀ k, k ≤ rs.length → ∀ st ∈ adjT rs k m, Adj rs m st.2.2
  | 0, _, st, h => by cases h
  | k + 1, hk, st, h => by
    unfold adjT at h
    rcases List.mem_append.mp h with h | h
    · exact adjT_adj k (by omega) st h
    · have hk' : k < rs.length := hk
      have eg : rs.getD k (0, 0, 0) = rs[k] := by rw [List.getD_eq_getElem?_getD, List.getElem?_eq_getElem hk']; rfl
      rw [eg] at h
      unfold stepAt at h
      by_cases c1 : rs[k].1 = m
      · rw [if_pos c1] at h
        rw [List.mem_singleton.mp h]
        exact ⟨rs[k], List.getElem_mem hk', .inl ⟨c1, rfl⟩⟩
      · rw [if_neg c1] at h
        by_cases c2 : rs[k].2.1 = m
        · rw [if_pos c2] at h
          rw [List.mem_singleton.mp h]
          exact ⟨rs[k], List.getElem_mem hk', .inr ⟨c2, rfl⟩⟩
        · rw [if_neg c2] at h
          cases h
theorem adj_adjT {rs : List Rd3} {m k : Nat} (hne : ∀ r ∈ rs, r.1 ≠ r.2.1) : ∀ j, j ≤ rs.length → (∃ i, i < j ∧ ((rs.getD i (0, 0, 0)).1 = m ∧ (rs.getD i (0, 0, 0)).2.1 = k ∨ (rs.getD i (0, 0, 0)).2.1 = m ∧ (rs.getD i (0, 0, 0)).1 = k)) → ∃ st ∈ adjT rs j m, st.2.2 = k
  | 0, _, ⟨i, h, _⟩ => by cases h
  | j + 1, hj, ⟨i, hi, h⟩ => by
    unfold adjT
    by_cases c : i < j
    · obtain ⟨st, h1, h2⟩ := adj_adjT hne j (by omega) ⟨i, c, h⟩
      exact ⟨st, List.mem_append_left _ h1, h2⟩
    · have e : i = j := by omega
      subst e
      have hj' : i < rs.length := hj
      have eg : rs.getD i (0, 0, 0) = rs[i] := by rw [List.getD_eq_getElem?_getD, List.getElem?_eq_getElem hj']; rfl
      rw [eg] at h ⊢
      have hn := hne _ (List.getElem_mem hj')
      unfold stepAt
      rcases h with ⟨h1, h2⟩ | ⟨h1, h2⟩
      · rw [if_pos h1]
        exact ⟨_, List.mem_append_right _ (List.mem_singleton.mpr rfl), h2⟩
      · rw [if_neg (fun z => hn (z.trans h1.symm)), if_pos h1]
        exact ⟨_, List.mem_append_right _ (List.mem_singleton.mpr rfl), h2⟩
theorem adj_mem {rs : List Rd3} {n m k : Nat} (hg : Gx.Good n rs) (h : Adj rs m k) : ∃ st ∈ adjT rs rs.length m, st.2.2 = k := by
  obtain ⟨r, hr, h⟩ := h
  obtain ⟨i, hi, e⟩ := List.getElem_of_mem hr
  have eg : rs.getD i (0, 0, 0) = r := by rw [List.getD_eq_getElem?_getD, List.getElem?_eq_getElem hi, e]; rfl
  exact adj_adjT (fun r hr => (hg r hr).2.2) rs.length (Nat.le_refl _) ⟨i, hi, by rw [eg]; exact h⟩
open Classical in
/-- the marks to which one comes, ascending -/
noncomputable def conR (rs : List Rd3) (n a : Nat) : List Nat := (List.range n).filter fun i => decide (Conn rs a i)
/-! ### the search's state -/
structure Sea (rs : List Rd3) (n a : Nat) (fb : List Bool) (wt : List Nat) (ex : Nat → Prop) : Prop where
  len : fb.length = n
  wtl : ∀ m ∈ wt, m < n
  wtf : ∀ m ∈ wt, fb.getD m false = true
  src : fb.getD a false = true
  con : ∀ m, fb.getD m false = true → Conn rs a m
  clo : ∀ m, fb.getD m false = true → m ∉ wt → ¬ ex m → ∀ st ∈ adjT rs rs.length m, fb.getD st.2.2 false = true
theorem Sea.full {rs : List Rd3} {n a : Nat} {fb : List Bool} (S : Sea rs n a fb [] fun _ => False) (hg : Gx.Good n rs) : ∀ m, Conn rs a m → fb.getD m false = true := by
  intro m h
  induction h with
  | refl => exact S.src
  | step h e ih =>
    obtain ⟨st, h1, h2⟩ := adj_mem hg e
    rw [← h2]
    exact S.clo _ ih (by simp) (fun z => z) st h1
theorem getB_set {fb : List Bool} {k : Nat} (hk : k < fb.length) (m : Nat) : (fb.set k true).getD m false = if m = k then true else fb.getD m false := by
  by_cases h : m = k
  · subst h
    rw [if_pos rfl, List.getD_eq_getElem?_getD, List.getElem?_set_self hk]
    rfl
  · rw [if_neg h, List.getD_eq_getElem?_getD, List.getElem?_set_ne (Ne.symm h), ← List.getD_eq_getElem?_getD]
theorem Sea.push {rs : List Rd3} {n a k : Nat} {fb : List Bool} {wt : List Nat} {ex : Nat → Prop} (S : Sea rs n a fb wt ex) (hk : k < n) (hc : Conn rs a k) : Sea rs n a (fb.set k true) (wt ++ [k]) ex := by
  have hkl : k < fb.length := by rw [S.len]; exact hk
  refine ⟨by rw [List.length_set, S.len], fun m hm => ?_, fun m hm => ?_, ?_, fun m hm => ?_, fun m h1 h2 h3 st hs => ?_⟩
  · rcases List.mem_append.mp hm with hm | hm
    · exact S.wtl m hm
    · rw [List.mem_singleton.mp hm]
      exact hk
  · rw [getB_set hkl]
    split
    · rfl
    · rename_i e
      rcases List.mem_append.mp hm with hm | hm
      · exact S.wtf m hm
      · exact absurd (List.mem_singleton.mp hm) e
  · rw [getB_set hkl]
    split
    · rfl
    · exact S.src
  · rw [getB_set hkl] at hm
    by_cases e : m = k
    · rw [e]
      exact hc
    · rw [if_neg e] at hm
      exact S.con m hm
  · rw [getB_set hkl] at h1 ⊢
    have e : m ≠ k := fun z => h2 (List.mem_append_right _ (List.mem_singleton.mpr z))
    rw [if_neg e] at h1
    have := S.clo m h1 (fun z => h2 (List.mem_append_left _ z)) h3 st hs
    split
    · rfl
    · exact this
def nF : List Bool → Nat
  | [] => 0
  | b :: r => (if b = true then 0 else 1) + nF r
theorem nF_set : ∀ (fb : List Bool) (k : Nat), k < fb.length → fb.getD k false = false → nF (fb.set k true) + 1 = nF fb
  | [], k, h, _ => by cases h
  | b :: r, 0, _, e => by
    have : b = false := e
    subst this
    show (0 + nF r) + 1 = 1 + nF r
    omega
  | b :: r, k + 1, h, e => by
    have ih := nF_set r k (by simpa using h) e
    show ((if b = true then 0 else 1) + nF (r.set k true)) + 1 = (if b = true then 0 else 1) + nF r
    omega
theorem nF_rep : ∀ n, nF (List.replicate n false) = n
  | 0 => rfl
  | n + 1 => by
    rw [List.replicate_succ]
    show 1 + nF (List.replicate n false) = n + 1
    rw [nF_rep n]
    omega
/-- the measure, by what stands in the heap -/
def fV : List V → Nat
  | [] => 0
  | .bl true :: r => fV r
  | _ :: r => 1 + fV r
theorem fV_of : ∀ fb : List Bool, fV (fb.map V.bl) = nF fb
  | [] => rfl
  | true :: r => by
    show fV (r.map V.bl) = 0 + nF r
    rw [fV_of r]
    omega
  | false :: r => by
    show 1 + fV (r.map V.bl) = 1 + nF r
    rw [fV_of r]
def mMu (H : Hp) (f wl : Addr) : Nat := (match H f with | some (.lst vs) => fV vs | _ => 0) + (match H wl with | some (.lst vs) => vs.length | _ => 0)
theorem mMu_of {H : Hp} {f wl : Addr} {fb : List Bool} {xs : List V} (h1 : H f = some (.lst (fb.map V.bl))) (h2 : H wl = some (.lst xs)) : mMu H f wl = nF fb + xs.length := by
  unfold mMu
  rw [h1, h2]
  show fV (fb.map V.bl) + xs.length = _
  rw [fV_of]
def nI (l : List Nat) : List Int := l.map fun (x : Nat) => (x : Int)
theorem nI_length (l : List Nat) : (nI l).length = l.length := List.length_map _
theorem nI_snoc (l : List Nat) (x : Nat) : (nI l).map V.int ++ [.int (x : Nat)] = (nI (l ++ [x])).map V.int := by
  unfold nI
  rw [List.map_append, List.map_append]
  rfl
theorem bl_at {fb : List Bool} {i : Nat} (h : i < fb.length) : (fb.map V.bl)[i]? = some (.bl (fb.getD i false)) := by
  rw [List.getElem?_map, List.getElem?_eq_getElem h, List.getD_eq_getElem?_getD, List.getElem?_eq_getElem h]
  rfl
theorem flat_repB (n : Nat) : (List.replicate n [V.bl false]).flatten = (List.replicate n false).map V.bl := by
  induction n with
  | zero => rfl
  | succ n ih =>
    rw [List.replicate_succ, List.flatten_cons, ih, List.replicate_succ, List.map_cons]
    rfl
end K2
set_option Elab.async false
set_option linter.all false
set_option maxRecDepth 100000
set_option maxHeartbeats 4000000
namespace K2
open PySem PySem.Spec PyProof.Rows L2 Gx RZ
section
variable {P : Program} {w : World} {K : PySem.W.Frag} {mg : Str → Option Value} {base : Heap}
def spReached (K : PySem.W.Frag) (T : Addr) : Sp := fun vs H Q _ => ∃ (rp : Addr) (n a : Nat) (rs : List Rd3), vs = [.int (n : Nat), .ref rp, .int (a : Nat)] ∧ RdsL K H rp rs ∧ Gx.Good n rs ∧ a < n ∧ n ≤ 1000 ∧ rs.length ≤ 1000 ∧ GxR.TabG H T ∧
  ∀ q H', Ext [] H H' → H' q = some (.tup ((nI (conR rs n a)).map V.int)) → Q (.ref q) H'
abbrev nReached : List Str := ["many", "readings", "start", "near", "waiting", "mark", "_", "other", "found", "index"]
theorem scReached : FnScope nReached ["many", "readings", "start"] (defScope sReached) := ⟨rfl, rfl, rfl, by decide +kernel, rfl, by decide +kernel, by decide +kernel⟩
theorem con_snoc {p : Nat → Bool} {i : Nat} : (List.range (i + 1)).filter p = (List.range i).filter p ++ (if p i = true then [i] else []) := by
  rw [List.range_succ, List.filter_append]
  congr 1
  cases h : p i <;> simp [h]
open Classical in
theorem ok_reached {f c T fN fO : Addr} {fd fdN fdO : FuncData} (mr : mg "range" = none) (ml : mg "len" = none) (mt : mg "tuple" = none) (F : FunT K "reached" "reached" sReached f fd c) (TB : GxR.TabB base mg c T)
    (FN : Fun K "neighbours" "neighbours" sNeighbours fN fdN) (bN : Binds K fdN ["many", "readings"] []) (gN : mg "neighbours" = some (.ref fN))
    (FO : Fun K "neighbours_over" "neighbours_over" sNeighboursOver fO fdO) (bO : Binds K fdO ["many", "readings", "chosen"] []) (gO : mg "neighbours_over" = some (.ref fO)) : FnOk P w K mg base CX0 8 f fd ["many", "readings", "start"] (spReached K T) := by
  have nd := scReached.nd
  have GN : FnOk P w K mg base CX0 3 fN fdN ["many", "readings"] (spNeigh K) := ok_neigh mr ml mt FN FO bO gO
  refine F.ok scReached (fun vs H Q E h => ?_) (fun A outer s H vs Q E hr h => ?_)
  · obtain ⟨_, _, _, _, rfl, _⟩ := h
    rfl
  · obtain ⟨rp, n, a, rs, rfl, hrd, hgood, han, hn, hlen, hT, q⟩ := h
    refine ⟨_, pss_cons (ps_set (i := 3) nd rfl (.inl rfl) (pe_call GN (hr.mono (by decide)) (by rfl) gN FN.kp bN .nil pass0 (pa_cons (pv 0) (pa_cons (pv 1) pa_nil))))
      (pss_cons (ps_set (i := 8) nd rfl (.inr rfl) (pe_op op_rep (pe_lst (pa_cons pe_bl pa_nil)) (pv 0)))
      (pss_cons (ps_asg pe_bl (pg_sub (pv 8) (pv 2) set_list))
      (pss_cons (ps_set (i := 4) nd rfl (.inl rfl) (pe_lst (pa_cons (pv 2) pa_nil)))
      (pss_cons (ps_while PassesOwn.never (pt_truth (pv 4) (by intro _; rfl))
        (pss_cons (ps_set (i := 5) nd rfl (.inl rfl) (pe_bm0 PySem.F.plainAttrs_list PySem.F.slot_list_pop PySem.F.type_list_pop mt_pop (pv 4)))
        (pss_one (ps_for PassesOwn.never rfl (pi_list (pe_ix ix_list (pv 3) (pv 5) (fun _ _ => rfl))) (pg_tup rfl (pgs_cons (pg_name (i := 6) nd rfl (.inl rfl)) (pgs_cons (pg_name (i := 6) nd rfl (.inl rfl)) (pgs_cons (pg_name (i := 7) nd rfl (.inl rfl)) pgs_nil))))
          (pss_one (ps_if (pt_not (pt_val (pe_ix ix_list (pv 8) (pv 7) (fun _ _ => rfl))))
            (pss_cons (ps_asg pe_bl (pg_sub (pv 8) (pv 7) set_list)) (pss_one (ps_expr (pe_bm PySem.F.plainAttrs_list PySem.F.slot_list_append PySem.F.type_list_append mt_append (pv 4) (pa_cons (pv 7) pa_nil))))) pss_nil))))))
      (pss_one (ps_ret (pe_tupG (k := 2) (psrc (k := 1) (own := [("index", 9)]) (hr.mono (by decide)) rfl nd TB rfl (pi_range1 (by rfl) mr (pa_cons (pv 0) pa_nil)) (blkOk_by (N := nReached) (sc := defScope sReached) (by decide +kernel)) (by decide +kernel) rfl rfl
        (fun _ _ _ _ _ _ _ _ => pg_name (i := 9) nd rfl (.inl rfl)) (fun _ _ _ _ _ _ _ _ _ => pts_one (pt_val (pe_ix (r := rIxL K) ix_list (pv 8) (pv 9) (fun _ _ => rfl)))) (fun _ _ _ _ _ _ _ _ _ => pv 9)) (hr.mono (by decide)) rfl mt PyProof.Rows.boot_tuple))))))), ?_⟩
    -- near
    refine ⟨_, rfl, _, rfl, rp, n, rs, rfl, hrd, hgood, hn, hlen, fun np H1 x1 np0 hnear => ?_⟩
    -- found
    refine ⟨by show 1 ≤ sizeLine; decide, fun l1 hl1 => ⟨_, rfl, l1, _, _, rfl, rfl, upd_same, by omega, by omega, ?_, fun f0 hf => ?_⟩⟩
    · show 1 * (n : Int).toNat ≤ sizeLine
      rw [Int.toNat_natCast, Nat.one_mul]
      exact Nat.le_of_lt (small1000 hn)
    have x2 : Ext [] H1 (upd (upd H1 l1 (.lst [V.bl false])) f0 (.lst (List.replicate ((n : Nat) : Int).toNat [V.bl false]).flatten)) := (Ext.new hl1).trans (.new hf)
    have hf1 : H1 f0 = none := (Ext.new (c := []) (o := .lst [V.bl false]) hl1).dom _ hf
    have ef2 : (upd (upd H1 l1 (.lst [V.bl false])) f0 (.lst (List.replicate ((n : Nat) : Int).toNat [V.bl false]).flatten)) f0 = some (.lst ((List.replicate n false).map V.bl)) := by
      rw [upd_same, Int.toNat_natCast, flat_repB]
    generalize upd (upd H1 l1 (.lst [V.bl false])) f0 (.lst (List.replicate ((n : Nat) : Int).toNat [V.bl false]).flatten) = H2 at x2 ef2 ⊢
    -- found[start]
    refine ⟨_, rfl, _, rfl, f0, _, _, a, rfl, rfl, ef2, ixN_nat (by rw [List.length_map, List.length_replicate]; exact han), ?_⟩
    have eset : ((List.replicate n false).map V.bl).set a (.bl true) = ((List.replicate n false).set a true).map V.bl := by rw [List.map_set]
    rw [eset]
    have x3 : Ext [] H1 (upd H2 f0 (.lst (((List.replicate n false).set a true).map V.bl))) := x2.own hf1 ef2
    have ef3 : (upd H2 f0 (.lst (((List.replicate n false).set a true).map V.bl))) f0 = some (.lst (((List.replicate n false).set a true).map V.bl)) := upd_same
    generalize upd H2 f0 (.lst (((List.replicate n false).set a true).map V.bl)) = H3 at x3 ef3 ⊢
    -- waiting
    refine ⟨_, rfl, by show 1 ≤ sizeLine; decide, fun wl hwl => ?_⟩
    have hwl1 : H1 wl = none := x3.dom _ hwl
    obtain ⟨ads, ea, la, hst⟩ := hnear
    have nfw : f0 ≠ wl := ne_of_none ef3 hwl
    have hrl : a < (List.replicate n false).length := by rw [List.length_replicate]; exact han
    have hr0 : ∀ m, (List.replicate n false).getD m false = false := fun m => by
      rw [List.getD_eq_getElem?_getD, List.getElem?_replicate]
      split <;> rfl
    dsimp only [gName, tSeq]
    refine while_by (fun σ H4 => ∃ fb wt y5 y6 y7, σ = [some (.int (n : Nat)), some (.ref rp), some (.int (a : Nat)), some (.ref np), some (.ref wl), y5, y6, y7, some (.ref f0), none] ∧ Ext [] H1 H4 ∧ H4 f0 = some (.lst (fb.map V.bl)) ∧ H4 wl = some (.lst ((nI wt).map V.int)) ∧
        Sea rs n a fb wt (fun _ => False) ∧ nF fb + wt.length ≤ n) (fun _ H4 => mMu H4 f0 wl)
      ⟨(List.replicate n false).set a true, [a], _, _, _, rfl, x3.trans (.new hwl), by rw [upd_ne nfw]; exact ef3, upd_same, ⟨by rw [List.length_set, List.length_replicate], fun m hm => by rw [List.mem_singleton.mp hm]; exact han, fun m hm => by rw [List.mem_singleton.mp hm, getB_set hrl, if_pos rfl], by rw [getB_set hrl, if_pos rfl], fun m hm => ?_, fun m h1 h2 => ?_⟩, ?_⟩ (fun σ H4 h4 => ?_) (fun σ H4 Q1 Q2 hQ h => ?_)
    · rw [getB_set hrl] at hm
      by_cases e : m = a
      · rw [e]
        exact .refl
      · rw [if_neg e, hr0] at hm
        cases hm
    · rw [getB_set hrl] at h1
      by_cases e : m = a
      · exact absurd (List.mem_singleton.mpr e) h2
      · rw [if_neg e, hr0] at h1
        cases h1
    · have := nF_set (List.replicate n false) a hrl (hr0 a)
      rw [nF_rep] at this
      show nF _ + 1 ≤ n
      omega
    · obtain ⟨fb, wt, y5, y6, y7, rfl, x4, ef4, ew4, S, hM⟩ := h4
      refine ⟨_, rfl, _, .inl ⟨_, SqL.of ew4, rfl⟩, ite2 (fun c0 => ?_) (fun c0 => ?_)⟩
      · -- a mark from the row
        have hne : wt ≠ [] := fun z => by
          rw [z] at c0
          cases c0
        obtain ⟨wt0, mk, rfl⟩ : ∃ wt0 mk, wt = wt0 ++ [mk] := ⟨wt.dropLast, wt.getLast hne, (List.dropLast_concat_getLast hne).symm⟩
        have hmk : mk < n := S.wtl mk (List.mem_append_right _ (List.mem_singleton.mpr rfl))
        have hlast : ((nI (wt0 ++ [mk])).map V.int)[((nI (wt0 ++ [mk])).map V.int).length - 1]? = some (.int (mk : Nat)) := by
          rw [← nI_snoc, List.length_append, List.length_singleton, Nat.add_sub_cancel, List.getElem?_append_right (Nat.le_refl _), Nat.sub_self]
          rfl
        have hdrop : ((nI (wt0 ++ [mk])).map V.int).dropLast = (nI wt0).map V.int := by
          rw [← nI_snoc, List.dropLast_concat]
        refine ⟨_, rfl, .inl ⟨rfl, _, SqL.of ew4⟩, wl, _, _, rfl, rfl, ew4, hlast, ?_⟩
        rw [hdrop]
        have x5 : Ext [] H1 (upd H4 wl (.lst ((nI wt0).map V.int))) := x4.own hwl1 ew4
        have ef5 : (upd H4 wl (.lst ((nI wt0).map V.int))) f0 = some (.lst (fb.map V.bl)) := by rw [upd_ne nfw]; exact ef4
        have ew5 : (upd H4 wl (.lst ((nI wt0).map V.int))) wl = some (.lst ((nI wt0).map V.int)) := upd_same
        have hmu : mMu H4 f0 wl = nF fb + (wt0.length + 1) := by rw [mMu_of ef4 ew4, List.length_map, nI_length, List.length_append]; rfl
        generalize upd H4 wl (.lst ((nI wt0).map V.int)) = H5 at x5 ef5 ew5 ⊢
        have S5 : Sea rs n a fb wt0 (fun m => m = mk) := ⟨S.len, fun m hm => S.wtl m (List.mem_append_left _ hm), fun m hm => S.wtf m (List.mem_append_left _ hm), S.src, S.con, fun m h1 h2 h3 => S.clo m h1 (fun z => by
          rcases List.mem_append.mp z with z | z
          · exact h2 z
          · exact h3 (List.mem_singleton.mp z)) (fun z => z)⟩
        have hcm : fb.getD mk false = true := S.wtf mk (List.mem_append_right _ (List.mem_singleton.mpr rfl))
        have hM5 : nF fb + wt0.length + 1 ≤ n := by
          rw [List.length_append, List.length_singleton] at hM
          omega
        have hal : mk < ads.length := by omega
        obtain ⟨vs, v1, v2, v3⟩ := hst mk _ (List.getElem?_eq_getElem hal)
        have aat : (ads.map V.ref)[mk]? = some (.ref ads[mk]) := by rw [List.getElem?_map, List.getElem?_eq_getElem hal]; rfl
        have hw1k : wt0.length ≤ 1000 := by omega
        refine ⟨_, rfl, _, rfl, np, _, _, _, rfl, rfl, SqL.of (x5.lst ea (by simp)), atI_nat aat, ads[mk], rfl, ⟨_, SqL.of (x5.lst v1 (by simp))⟩, ?_⟩
        refine for_list (xs := vs) (fun j σ H6 => ∃ fb wt y6 y7, σ = [some (.int (n : Nat)), some (.ref rp), some (.int (a : Nat)), some (.ref np), some (.ref wl), some (.int (mk : Nat)), y6, y7, some (.ref f0), none] ∧ Ext [] H1 H6 ∧ H6 f0 = some (.lst (fb.map V.bl)) ∧ H6 wl = some (.lst ((nI wt).map V.int)) ∧
            Sea rs n a fb wt (fun m => m = mk) ∧ nF fb + wt.length + 1 ≤ mMu H4 f0 wl ∧ fb.getD mk false = true ∧ ∀ st ∈ (adjT rs rs.length mk).take j, fb.getD st.2.2 false = true)
          ⟨fb, wt0, _, _, rfl, x5, ef5, ew5, S5, by omega, hcm, fun st hs => by simp at hs⟩ (fun j σ H6 _ h6 => ?_) (fun j v σ H6 hv h6 => ?_) (fun σ H6 h6 => ?_)
        · obtain ⟨_, _, _, _, _, x6, _⟩ := h6
          exact SqL.of (x6.lst v1 (by simp))
        · obtain ⟨fb6, wt6, y6, y7, rfl, x6, ef6, ew6, S6, hM6, hc6, hdn⟩ := h6
          have hj : j < (adjT rs rs.length mk).length := by
            rw [← v2]
            exact (List.getElem?_eq_some_iff.mp hv).1
          obtain ⟨t, e1, e2⟩ := v3 j _ (List.getElem?_eq_getElem hj)
          obtain rfl := Option.some.inj (hv.symm.trans e1)
          generalize hst6 : (adjT rs rs.length mk)[j] = st at e2
          have hadj : Adj rs mk st.2.2 := adjT_adj rs.length (Nat.le_refl _) st (by rw [← hst6]; exact List.getElem_mem hj)
          have hko : st.2.2 < n := hadj.lt hgood
          have hkl : st.2.2 < fb6.length := by rw [S6.len]; exact hko
          have eT : (adjT rs rs.length mk).take (j + 1) = (adjT rs rs.length mk).take j ++ [st] := by
            rw [List.take_add_one, List.getElem?_eq_getElem hj, hst6]
            rfl
          refine ⟨t, _, rfl, x6.sqT e2, rfl, _, _, rfl, _, _, rfl, _, _, rfl, rfl, ?_⟩
          refine ⟨_, rfl, _, rfl, f0, _, _, _, rfl, rfl, SqL.of ef6, atI_nat (bl_at hkl), _, rfl, ?_⟩
          cases hfo : fb6.getD st.2.2 false
          · -- not yet found
            refine iteT ⟨_, rfl, _, rfl, f0, _, _, st.2.2, rfl, rfl, ef6, ixN_nat (by rw [List.length_map]; exact hkl), ?_⟩
            have hmuN := mMu_of ef4 ew4
            have hwt : wt6.length ≤ 1000 := by
              rw [hmu] at hM6
              omega
            have x7 : Ext [] H1 (upd H6 f0 (.lst ((fb6.map V.bl).set st.2.2 (.bl true)))) := x6.own hf1 ef6
            have ef7 : (upd H6 f0 (.lst ((fb6.map V.bl).set st.2.2 (.bl true)))) f0 = some (.lst ((fb6.set st.2.2 true).map V.bl)) := by rw [upd_same, List.map_set]
            have ew7 : (upd H6 f0 (.lst ((fb6.map V.bl).set st.2.2 (.bl true)))) wl = some (.lst ((nI wt6).map V.int)) := by rw [upd_ne nfw.symm]; exact ew6
            generalize upd H6 f0 (.lst ((fb6.map V.bl).set st.2.2 (.bl true))) = H7 at x7 ef7 ew7 ⊢
            refine ⟨_, rfl, .inl ⟨rfl, _, SqL.of ew7⟩, _, rfl, wl, _, _, rfl, rfl, ew7, by rw [List.length_map, nI_length]; exact small1000 hwt, ?_⟩
            have hnf := nF_set fb6 st.2.2 hkl hfo
            refine ⟨fb6.set st.2.2 true, wt6 ++ [st.2.2], _, _, rfl, x7.own hwl1 ew7, by rw [upd_ne nfw]; exact ef7, by rw [upd_same, ← nI_snoc], S6.push hko (.step (S6.con mk hc6) hadj), ?_, ?_, fun s hs => ?_⟩
            · rw [List.length_append, List.length_singleton]
              omega
            · rw [getB_set hkl]
              split
              · rfl
              · exact hc6
            · rw [getB_set hkl]
              split
              · rfl
              · rename_i e
                rw [eT] at hs
                rcases List.mem_append.mp hs with hs | hs
                · exact hdn s hs
                · rw [List.mem_singleton.mp hs] at e
                  exact absurd rfl e
          · refine iteF ⟨fb6, wt6, _, _, rfl, x6, ef6, ew6, S6, hM6, hc6, fun s hs => ?_⟩
            rw [eT] at hs
            rcases List.mem_append.mp hs with hs | hs
            · exact hdn s hs
            · rw [List.mem_singleton.mp hs]
              exact hfo
        · obtain ⟨fb6, wt6, y6, y7, rfl, x6, ef6, ew6, S6, hM6, hc6, hdn⟩ := h6
          rw [v2, List.take_length] at hdn
          refine ⟨⟨fb6, wt6, _, _, _, rfl, x6, ef6, ew6, ⟨S6.len, S6.wtl, S6.wtf, S6.src, S6.con, fun m h1 h2 _ => ?_⟩, ?_⟩, ?_⟩
          · by_cases e : m = mk
            · rw [e]
              exact hdn
            · exact S6.clo m h1 h2 e
          · rw [hmu] at hM6
            omega
          · rw [mMu_of ef6 ew6, List.length_map, nI_length]
            omega
      · have hnil : wt = [] := by
          cases wt with
          | nil => rfl
          | cons x r => exact absurd rfl c0
        subst hnil
        have hfull := S.full hgood
        have hfc : ∀ m, fb.getD m false = decide (Conn rs a m) := fun m => by
          by_cases hc : Conn rs a m
          · rw [decide_eq_true hc]
            exact hfull m hc
          · rw [decide_eq_false hc]
            cases h : fb.getD m false
            · rfl
            · exact absurd (S.con m h) hc
        refine ⟨_, rfl, (n : Nat), rfl, by omega, by omega, (x1.trans x4).tab _ hT, fun H5 tb => ?_⟩
        rw [Int.toNat_natCast]
        have x5 : Ext [] H4 H5 := .tabbed ((x1.trans x4).tab _ hT) tb
        refine by_n n (fun i ys H6 => Ext [] H4 H6 ∧ ys = (nI ((List.range i).filter fun k => decide (Conn rs a k))).map V.int) ⟨x5, rfl⟩ (fun i ys H6 hi _ => hi) (fun ys H6 _ => Nat.le_refl _) (fun i ys H6 y H7 hi h6 hy => ?_) (fun ys H6 h6 => ?_)
        · obtain ⟨x6, rfl⟩ := h6
          obtain ⟨rfl, rfl⟩ := hy
          have hk0 : ((0 : Int) + (i : Nat)) = ((i : Nat) : Int) := by omega
          refine ⟨rfl, _, rfl, _, rfl, f0, _, _, _, rfl, by rw [hk0], SqL.of (x6.lst ef4 (by simp)), atI_nat (bl_at (by rw [S.len]; exact hi)), _, rfl, ?_⟩
          refine ite2 (fun e => ?_) (fun e => ?_)
          · refine ⟨_, rfl, ?_, fun _ => ⟨x6, ?_⟩⟩
            · show (List.map V.int _).length < sizeLine
              rw [List.length_map, nI_length]
              have := List.length_filter_le (fun k => decide (Conn rs a k)) (List.range i)
              rw [List.length_range] at this
              exact small1000 (by omega)
            · rw [con_snoc, if_pos (by rw [← hfc]; exact e), ← nI_snoc, hk0]
          · refine ⟨x6, ?_⟩
            rw [con_snoc, if_neg (by rw [← hfc]; exact e), List.append_nil]
        · obtain ⟨x6, rfl⟩ := h6
          have hle : (conR rs n a).length ≤ 1000 := by
            have := List.length_filter_le (fun k => decide (Conn rs a k)) (List.range n)
            rw [List.length_range] at this
            exact Nat.le_trans this hn
          refine ⟨?_, fun z hz => q z _ ((x1.trans (x4.trans x6)).trans (.new hz)) upd_same⟩
          rw [List.length_map, nI_length]
          exact Nat.le_of_lt (small1000 hle)
    · obtain ⟨v, e, k, t, h⟩ := h
      exact ⟨v, e, k, t, hQ _ _ h⟩
noncomputable def joinedR (rs : List Rd3) (n : Nat) : Bool := decide ((conR rs n 0).length = n)
end
end K2
set_option Elab.async false
set_option linter.all false
set_option maxRecDepth 100000
set_option maxHeartbeats 4000000
namespace K2
open PySem PySem.Spec PyProof.Rows L2 Gx RZ
def strOf : PyData → Str
  | .str x => x
  | _ => Str.empty
def areMarksD (d : PyData) : Bool :=
  match d with
  | .tuple ds => decide (1 ≤ ds.length ∧ ds.length ≤ 16) && ((ds.all isNameD) && decide (ds.map strOf).Nodup)
  | _ => false
def lenD : PyData → Nat
  | .tuple ds => ds.length
  | _ => 0
/-- texts are short -/
def Short (d : PyData) : Prop := ∀ ds, d = .tuple ds → ∀ e ∈ ds, ∀ x, e = .str x → x.length ≤ 1000
section
variable {P : Program} {w : World} {K : PySem.W.Frag} {mg : Str → Option Value} {base : Heap}
/-! ### is_joined -/
def spJoined (K : PySem.W.Frag) (T : Addr) : Sp := fun vs H Q _ => ∃ (mp rp : Addr) (xs : List V) (rs : List Rd3), vs = [.ref mp, .ref rp] ∧ SqT K H mp xs ∧ RdsL K H rp rs ∧ Gx.Good xs.length rs ∧ 0 < xs.length ∧ xs.length ≤ 1000 ∧ rs.length ≤ 1000 ∧ GxR.TabG H T ∧
  ∀ H', Ext [] H H' → Q (.bl (joinedR rs xs.length)) H'
theorem scJoined : FnScope ["marks", "readings"] ["marks", "readings"] (defScope sIsJoined) := ⟨rfl, rfl, rfl, by decide +kernel, rfl, by decide +kernel, by decide +kernel⟩
theorem ok_joined {f fR T : Addr} {fd fdR : FuncData} (ml : mg "len" = none) (F : Fun K "is_joined" "is_joined" sIsJoined f fd)
    (GR : FnOk P w K mg base CX0 8 fR fdR ["many", "readings", "start"] (spReached K T)) (kR : PySem.W.keepIn K (.ref fR) = true) (bR : Binds K fdR ["many", "readings", "start"] []) (gR : mg "reached" = some (.ref fR)) :
    FnOk P w K mg base CX0 9 f fd ["marks", "readings"] (spJoined K T) := by
  refine F.ok scJoined (fun vs H Q E h => ?_) (fun cdv A outer s H vs Q E hr h => ?_)
  · obtain ⟨_, _, _, _, rfl, _⟩ := h
    rfl
  · obtain ⟨mp, rp, xs, rs, rfl, hm, hrd, hgood, h0, hn, hlen, hT, q⟩ := h
    refine ⟨_, pss_one (ps_ret (pe_cmpR op_eq (pe_callB call_len_seq (by rfl) ml PySem.boot_len (pa_cons (pe_call GR hr (by rfl) gR kR bR .nil pass0 (pa_cons (pe_callB call_len_seq (by rfl) ml PySem.boot_len (pa_cons (pv 0) pa_nil)) (pa_cons (pv 1) (pa_cons pe_int pa_nil)))) pa_nil)) (pe_callB call_len_seq (by rfl) ml PySem.boot_len (pa_cons (pv 0) pa_nil)) (nomark _))), ?_⟩
    refine ⟨_, rfl, mp, xs, rfl, .inr hm, _, rfl, rp, xs.length, 0, rs, rfl, hrd, hgood, h0, hn, hlen, hT, fun z H' x e => ?_⟩
    refine ⟨z, _, rfl, .inr (.inl (.inl e)), _, rfl, mp, xs, rfl, .inr (x.sqT hm), rfl, ?_⟩
    have ej : joinedR rs xs.length = decide (V.int (((nI (conR rs xs.length 0)).map V.int).length : Nat) = V.int (xs.length : Nat)) := by
      show decide ((conR rs xs.length 0).length = xs.length) = _
      rw [List.length_map, nI_length]
      exact decide_eq_decide.mpr ⟨fun h => by rw [h], fun h => by have := V.int.inj h; omega⟩
    have := q H' x
    rw [ej] at this
    exact this
end
end K2
set_option Elab.async false
set_option linter.all false
set_option maxRecDepth 100000
set_option maxHeartbeats 4000000
namespace K2
open PySem PySem.Spec PyProof.Rows L2 Gx RZ TL
section
variable {P : Program} {w : World} {K : PySem.W.Frag} {mg : Str → Option Value} {base : Heap}
/-! ### is_number -/
abbrev nIsNumber : List Str := ["word", "most", "digits", "sign"]
theorem scIsNumber : FnScope nIsNumber ["word", "most"] (defScope sIsNumber) := ⟨rfl, rfl, rfl, by decide +kernel, rfl, by decide +kernel, by decide +kernel⟩
def spIsNumber (K : PySem.W.Frag) (T : Addr) : Sp := fun vs H Q _ => ∃ (x : Str) (most : Nat), vs = [.str x, .int (most : Nat)] ∧ x.length ≤ 100000 ∧ GxR.TabG H T ∧ ∀ H', Ext [] H H' → Q (.bl (isNum most x)) H'
theorem ok_isNumber {f c T : Addr} {fd : FuncData} (ml : mg "len" = none) (mal : mg "all" = none) (F : FunT K "is_number" "is_number" sIsNumber f fd c) (TB : GxR.TabB base mg c T) :
    FnOk P w K mg base CX0 8 f fd ["word", "most"] (spIsNumber K T) := by
  have nd := scIsNumber.nd
  refine F.ok scIsNumber (fun vs H Q E h => ?_) (fun A outer s H vs Q E hr h => ?_)
  · obtain ⟨_, _, rfl, _⟩ := h
    rfl
  · obtain ⟨x, most, rfl, hx, hT, q⟩ := h
    refine ⟨_, pss_cons (ps_if (pt_cmpR op_eq (pv 0) pe_str (nomark _)) (pss_one (ps_ret pe_bl)) pss_nil)
      (pss_cons (ps_set (i := 2) nd rfl (.inl rfl) (pe_ifExp (pt_val (pe_m1 PySem.F.slot_str_startswith PySem.F.type_str_startswith mt_startswith (pv 0) pe_str)) (pe_slice sl_str (pv 0) (po_some pe_int) po_none) (pv 0)))
      (pss_cons (ps_if (PW.pt (pw_or (pt_not (pt_chain op_le op_le pe_int (pe_callB call_len_str (by rfl) ml PySem.boot_len (pa_cons (pv 2) pa_nil)) (pv 1))) (pw_or1 (pt_val (pe_m1 PySem.F.slot_str_startswith PySem.F.type_str_startswith mt_startswith (pv 2) pe_str))))) (pss_one (ps_ret pe_bl)) pss_nil)
      (pss_one (ps_ret (pe_all (k := 2) (psrc (k := 1) (own := [("sign", 3)]) (hr.mono (by decide)) rfl nd TB rfl (pi_str (pv 2)) (blkOk_by (N := nIsNumber) (sc := defScope sIsNumber) (by decide +kernel)) (by decide +kernel) rfl rfl
        (fun _ _ _ _ _ _ _ _ => pg_name (i := 3) nd rfl (.inl rfl)) (fun _ _ _ _ _ _ _ _ _ => pts_nil) (fun _ _ _ _ _ _ _ _ _ => pe_chain op_le_str op_le_str pe_str (pv 3) pe_str)) (hr.mono (by decide)) rfl mal))))), ?_⟩
    refine ⟨_, rfl, rfl, _, rfl, ite2 (fun c0 => ?_) (fun c0 => ?_)⟩
    · have e0 : x = "0" := V.str.inj (of_decide_eq_true c0)
      have : isNum most x = true := by
        unfold isNum
        rw [decide_eq_true e0]
        rfl
      rw [this] at q
      exact q H .refl
    have e0 : ¬ x = "0" := fun z => by rw [z] at c0; exact c0 (decide_eq_true rfl)
    have eN : isNum most x = (decide (1 ≤ (bodyL (tl x)).length ∧ (bodyL (tl x)).length ≤ most) && (!startsL 48 (bodyL (tl x)) && (bodyL (tl x)).all isDigit)) := by
      unfold isNum
      rw [decide_eq_false e0, Bool.false_or]
    rw [eN] at q
    -- the digits
    refine ⟨_, rfl, ⟨_, rfl⟩, _, _, rfl, rfl, _, rfl, ?_⟩
    rw [show Txt.startswith x (Str.ofString "-") = startsL 45 (tl x) from sw_one x 45]
    cases hs : startsL 45 (tl x) with
    | true =>
      refine iteT ?_
      have hb : bodyL (tl x) = (tl x).drop 1 := by unfold bodyL; rw [if_pos hs]
      have hl : 1 ≤ x.length := by
        rw [← tl_len]
        cases e : tl x with
        | nil => rw [e] at hs; cases hs
        | cons a r => rw [List.length_cons]; omega
      refine ⟨_, rfl, 1, rfl, x, rfl, by show _ ≤ 2 ^ 24; omega, ?_⟩
      have ey : tl (cutS x (some 1) none) = bodyL (tl x) := by rw [hb]; exact tl_cut_from x 1 hl
      generalize cutS x (some 1) none = dg at ey ⊢
      have hy : dg.length ≤ 100000 := by rw [← tl_len, ey, hb, List.length_drop, tl_len]; omega
      have ly : dg.length = (bodyL (tl x)).length := by rw [← ey, tl_len]
      have bad : ¬ (1 ≤ dg.length ∧ dg.length ≤ most) → Q (.bl false) H := fun hb => by
        rw [ly] at hb
        rw [decide_eq_false hb, Bool.false_and] at q
        exact q H .refl
      refine ⟨_, rfl, dg, rfl, by show _ ≤ 2 ^ 24; omega, _, _, rfl, rfl, _, rfl, ?_⟩
      refine ite2 (fun c1 => ?_) (fun c1 => ?_)
      rotate_left
      · refine ⟨_, rfl, iteT (bad fun z => c1 (decide_eq_true (by omega)))⟩
      refine ⟨_, rfl, _, _, rfl, rfl, _, rfl, ite2 (fun c2 => ?_) (fun c2 => ?_)⟩
      · exact bad fun z => by
          rw [decide_eq_true (show ((dg.length : Nat) : Int) ≤ (most : Int) by omega)] at c2
          cases c2
      have hb2 : 1 ≤ dg.length ∧ dg.length ≤ most := by
        have h1 := of_decide_eq_true c1
        have h2 : ((dg.length : Nat) : Int) ≤ (most : Int) := by
          apply Classical.byContradiction
          intro z
          rw [decide_eq_false z] at c2
          exact c2 rfl
        omega
      rw [← ly, decide_eq_true hb2, Bool.true_and] at q
      refine ⟨_, rfl, ⟨_, rfl⟩, _, _, rfl, rfl, _, rfl, ?_⟩
      rw [show Txt.startswith dg (Str.ofString "0") = startsL 48 (tl dg) from sw_one dg 48, ey]
      cases hz : startsL 48 (bodyL (tl x)) with
      | true =>
        refine iteT ?_
        rw [hz] at q
        exact q H .refl
      | false =>
        refine iteF ?_
        rw [hz, Bool.not_false, Bool.true_and, ← ey] at q
        refine ⟨_, rfl, dg, rfl, hT, fun H2 tb => ?_⟩
        have x2 : Ext [] H H2 := .tabbed hT tb
        refine by_n dg.cps.size (fun i ys H3 => Ext [] H H3 ∧ ys = (dg.cps.toList.take i).map fun c => V.bl (isDigit c)) ⟨x2, rfl⟩ (fun i ys H3 hi _ => hi) (fun ys H3 _ => Nat.le_refl _) (fun i ys H3 y H4 hi h3 hy => ?_) (fun ys H3 h3 => ?_)
        · obtain ⟨x3, rfl⟩ := h3
          obtain ⟨rfl, c, hc, rfl⟩ := hy
          have hil : i < dg.cps.toList.length := by simpa using hi
          have ec : dg.cps.toList[i] = c := by
            rw [Array.getElem_toList]
            exact (Array.getElem?_eq_some_iff.mp hc).2
          refine ⟨rfl, _, rfl, _, _, rfl, rfl, _, rfl, ?_⟩
          have done : ∀ b : Bool, b = isDigit c → (kAll fun v H' => Q v H').mid ((dg.cps.toList.take i).map fun c => V.bl (isDigit c)) (.bl b) H4 ∧ ((kAll fun v H' => Q v H').go (.bl b) → Ext [] H H4 ∧ (List.map (fun c => V.bl (isDigit c)) (dg.cps.toList.take i)) ++ [V.bl b] = (dg.cps.toList.take (i + 1)).map fun c => V.bl (isDigit c)) := fun b hb => by
            subst hb
            refine ⟨⟨_, rfl, fun hf _ => ?_⟩, fun _ => ⟨x3, ?_⟩⟩
            · have : ((tl dg).all isDigit) = false := by
                rw [List.all_eq_false]
                exact ⟨_, List.getElem_mem hil, by rw [ec, hf]; decide⟩
              rw [this] at q
              exact q _ x3
            · rw [← snoc (fun c => V.bl (isDigit c)) dg.cps.toList hil, ec]
          have e1 : (!decide ((⟨#[c]⟩ : Str).cps.toList < ("0" : Str).cps.toList)) = decide (48 ≤ c) := sign_ltA
          have e2 : (!decide (("9" : Str).cps.toList < (⟨#[c]⟩ : Str).cps.toList)) = decide (c ≤ 57) := sign_ltA
          refine ite2 (fun k1 => ?_) (fun k1 => ?_)
          · rw [e1] at k1
            have h1 := of_decide_eq_true k1
            refine ⟨_, _, rfl, rfl, done _ ?_⟩
            rw [e2]
            exact decide_eq_decide.mpr ⟨fun h => ⟨h1, h⟩, fun h => h.2⟩
          · rw [e1] at k1
            exact done false (decide_eq_false fun h => k1 (decide_eq_true h.1)).symm
        · obtain ⟨x3, rfl⟩ := h3
          intro hall
          have : ((tl dg).all isDigit) = true := by
            rw [List.all_eq_true]
            intro c hc
            have lx : dg.cps.size = dg.cps.toList.length := by simp
            rw [lx, List.take_length] at hall
            have := hall _ (List.mem_map.mpr ⟨c, hc, rfl⟩)
            exact V.bl.inj this
          rw [this] at q
          exact q _ x3
    | false =>
      refine iteF ?_
      have hb : bodyL (tl x) = tl x := by unfold bodyL; rw [hs]; rfl
      have ey : tl x = bodyL (tl x) := hb.symm
      refine ⟨_, rfl, ?_⟩
      have ly : x.length = (bodyL (tl x)).length := by rw [← ey, tl_len]
      have bad : ¬ (1 ≤ x.length ∧ x.length ≤ most) → Q (.bl false) H := fun hb => by
        rw [ly] at hb
        rw [decide_eq_false hb, Bool.false_and] at q
        exact q H .refl
      refine ⟨_, rfl, x, rfl, by show _ ≤ 2 ^ 24; omega, _, _, rfl, rfl, _, rfl, ?_⟩
      refine ite2 (fun c1 => ?_) (fun c1 => ?_)
      rotate_left
      · refine ⟨_, rfl, iteT (bad fun z => c1 (decide_eq_true (by omega)))⟩
      refine ⟨_, rfl, _, _, rfl, rfl, _, rfl, ite2 (fun c2 => ?_) (fun c2 => ?_)⟩
      · exact bad fun z => by
          rw [decide_eq_true (show ((x.length : Nat) : Int) ≤ (most : Int) by omega)] at c2
          cases c2
      have hb2 : 1 ≤ x.length ∧ x.length ≤ most := by
        have h1 := of_decide_eq_true c1
        have h2 : ((x.length : Nat) : Int) ≤ (most : Int) := by
          apply Classical.byContradiction
          intro z
          rw [decide_eq_false z] at c2
          exact c2 rfl
        omega
      rw [← ly, decide_eq_true hb2, Bool.true_and] at q
      refine ⟨_, rfl, ⟨_, rfl⟩, _, _, rfl, rfl, _, rfl, ?_⟩
      rw [show Txt.startswith x (Str.ofString "0") = startsL 48 (tl x) from sw_one x 48, ey]
      cases hz : startsL 48 (bodyL (tl x)) with
      | true =>
        refine iteT ?_
        rw [hz] at q
        exact q H .refl
      | false =>
        refine iteF ?_
        rw [hz, Bool.not_false, Bool.true_and, ← ey] at q
        refine ⟨_, rfl, x, rfl, hT, fun H2 tb => ?_⟩
        have x2 : Ext [] H H2 := .tabbed hT tb
        refine by_n x.cps.size (fun i ys H3 => Ext [] H H3 ∧ ys = (x.cps.toList.take i).map fun c => V.bl (isDigit c)) ⟨x2, rfl⟩ (fun i ys H3 hi _ => hi) (fun ys H3 _ => Nat.le_refl _) (fun i ys H3 y H4 hi h3 hy => ?_) (fun ys H3 h3 => ?_)
        · obtain ⟨x3, rfl⟩ := h3
          obtain ⟨rfl, c, hc, rfl⟩ := hy
          have hil : i < x.cps.toList.length := by simpa using hi
          have ec : x.cps.toList[i] = c := by
            rw [Array.getElem_toList]
            exact (Array.getElem?_eq_some_iff.mp hc).2
          refine ⟨rfl, _, rfl, _, _, rfl, rfl, _, rfl, ?_⟩
          have done : ∀ b : Bool, b = isDigit c → (kAll fun v H' => Q v H').mid ((x.cps.toList.take i).map fun c => V.bl (isDigit c)) (.bl b) H4 ∧ ((kAll fun v H' => Q v H').go (.bl b) → Ext [] H H4 ∧ (List.map (fun c => V.bl (isDigit c)) (x.cps.toList.take i)) ++ [V.bl b] = (x.cps.toList.take (i + 1)).map fun c => V.bl (isDigit c)) := fun b hb => by
            subst hb
            refine ⟨⟨_, rfl, fun hf _ => ?_⟩, fun _ => ⟨x3, ?_⟩⟩
            · have : ((tl x).all isDigit) = false := by
                rw [List.all_eq_false]
                exact ⟨_, List.getElem_mem hil, by rw [ec, hf]; decide⟩
              rw [this] at q
              exact q _ x3
            · rw [← snoc (fun c => V.bl (isDigit c)) x.cps.toList hil, ec]
          have e1 : (!decide ((⟨#[c]⟩ : Str).cps.toList < ("0" : Str).cps.toList)) = decide (48 ≤ c) := sign_ltA
          have e2 : (!decide (("9" : Str).cps.toList < (⟨#[c]⟩ : Str).cps.toList)) = decide (c ≤ 57) := sign_ltA
          refine ite2 (fun k1 => ?_) (fun k1 => ?_)
          · rw [e1] at k1
            have h1 := of_decide_eq_true k1
            refine ⟨_, _, rfl, rfl, done _ ?_⟩
            rw [e2]
            exact decide_eq_decide.mpr ⟨fun h => ⟨h1, h⟩, fun h => h.2⟩
          · rw [e1] at k1
            exact done false (decide_eq_false fun h => k1 (decide_eq_true h.1)).symm
        · obtain ⟨x3, rfl⟩ := h3
          intro hall
          have : ((tl x).all isDigit) = true := by
            rw [List.all_eq_true]
            intro c hc
            have lx : x.cps.size = x.cps.toList.length := by simp
            rw [lx, List.take_length] at hall
            have := hall _ (List.mem_map.mpr ⟨c, hc, rfl⟩)
            exact V.bl.inj this
          rw [this] at q
          exact q _ x3
end
end K2
set_option Elab.async false
set_option linter.all false
set_option maxRecDepth 100000
set_option maxHeartbeats 4000000
namespace K2
open PySem PySem.Spec PyProof.Rows L2 Gx RZ TL
section
variable {P : Program} {w : World} {K : PySem.W.Frag} {mg : Str → Option Value} {base : Heap}
/-! ### is_allowed_sign, is_allowed -/
def okSign (c : Nat) : Bool := decide (c = 10) || (decide (32 ≤ c ∧ c ≤ 126) && decide (c ≠ 37))
def spSign : Sp := fun vs H Q _ => ∃ c : Nat, vs = [.str ⟨#[c]⟩] ∧ Q (.bl (okSign c)) H
theorem scSign : FnScope ["sign"] ["sign"] (defScope sIsAllowedSign) := ⟨rfl, rfl, rfl, by decide +kernel, rfl, by decide +kernel, by decide +kernel⟩
theorem ok_sign {f : Addr} {fd : FuncData} {tk : Tok} (mo : mg "ord" = none) (mv : mg "PERCENT_SIGN" = some (.int 37 tk)) (F : Fun K "is_allowed_sign" "is_allowed_sign" sIsAllowedSign f fd) : FnOk P w K mg base CX0 1 f fd ["sign"] spSign := by
  refine F.ok scSign (fun vs H Q E h => ?_) (fun cdv A outer s H vs Q E hr h => ?_)
  · obtain ⟨_, rfl, _⟩ := h
    rfl
  · obtain ⟨c, rfl, q⟩ := h
    refine ⟨_, pss_one (ps_ret (pe_or (pe_cmpR op_eq (pv 0) pe_str (nomark _)) (pe_one (pe_and (pe_chain op_le_str op_le_str pe_str (pv 0) pe_str) (pe_one (pe_cmpR op_ne (pe_callB call_ord (by rfl) mo PyProof.Rows.boot_ord (pa_cons (pv 0) pa_nil)) (pe_glob (v := .int 37) rfl mv ⟨_, rfl⟩) (nomark _))))))), ?_⟩
    have e0 : decide (V.str ⟨#[c]⟩ = V.str (Str.ofString "\n")) = decide (c = 10) := decide_eq_decide.mpr ⟨fun h => by
      have h2 : (⟨#[c]⟩ : Str) = ⟨#[10]⟩ := V.str.inj h
      have h3 : #[c] = #[10] := congrArg Str.cps h2
      simpa using h3, fun h => by rw [h]; rfl⟩
    have e1 : (!decide ((⟨#[c]⟩ : Str).cps.toList < (Str.ofString " ").cps.toList)) = decide (32 ≤ c) := sign_ltA
    have e2 : (!decide ((Str.ofString "~").cps.toList < (⟨#[c]⟩ : Str).cps.toList)) = decide (c ≤ 126) := sign_ltA
    refine ⟨_, rfl, rfl, _, rfl, ?_⟩
    rw [e0]
    refine ite2 (fun h0 => ?_) (fun h0 => ?_)
    · have : okSign c = true := by unfold okSign; rw [h0]; rfl
      rw [this] at q
      exact q
    have z0 : decide (c = 10) = false := by cases h : decide (c = 10) <;> simp_all
    have eq : okSign c = (decide (32 ≤ c ∧ c ≤ 126) && decide (c ≠ 37)) := by unfold okSign; rw [z0]; rfl
    rw [eq] at q
    have no : ¬ (32 ≤ c ∧ c ≤ 126) → Q (.bl false) H := fun h => by
      rw [decide_eq_false h, Bool.false_and] at q
      exact q
    refine ⟨_, rfl, _, _, rfl, rfl, _, rfl, ?_⟩
    rw [e1]
    refine ite2 (fun h1 => ?_) (fun h1 => ?_)
    rotate_left
    · exact ⟨_, rfl, iteF (no fun h => h1 (decide_eq_true h.1))⟩
    refine ⟨_, _, rfl, rfl, _, rfl, ?_⟩
    rw [e2]
    refine ite2 (fun h2 => ?_) (fun h2 => ?_)
    rotate_left
    · exact no fun h => h2 (decide_eq_true h.2)
    rw [decide_eq_true (show 32 ≤ c ∧ c ≤ 126 from ⟨of_decide_eq_true h1, of_decide_eq_true h2⟩), Bool.true_and] at q
    refine ⟨_, rfl, _, rfl, rfl, rfl, ?_⟩
    have e3 : (!decide (V.int (((⟨#[c]⟩ : Str).cps.getD 0 0 : Nat) : Int) = V.int 37)) = decide (c ≠ 37) := by
      show (!decide (V.int ((c : Nat) : Int) = V.int 37)) = decide (c ≠ 37)
      by_cases h : c = 37
      · subst h; decide
      · rw [decide_eq_false (fun z => h (by have := V.int.inj z; omega)), decide_eq_true h]
        rfl
    rw [e3]
    exact q
abbrev nAllowed : List Str := ["text", "sign"]
theorem scAllowed : FnScope nAllowed ["text"] (defScope sIsAllowed) := ⟨rfl, rfl, rfl, by decide +kernel, rfl, by decide +kernel, by decide +kernel⟩
def allowed (x : Str) : Bool := decide (x.length ≤ 10000) && (tl x).all okSign
def spAllowed (K : PySem.W.Frag) (T : Addr) : Sp := fun vs H Q _ => ∃ x : Str, vs = [.str x] ∧ x.length ≤ 1000000 ∧ GxR.TabG H T ∧ ∀ H', Ext [] H H' → Q (.bl (allowed x)) H'
theorem ok_allowed {f c T fS : Addr} {fd fdS : FuncData} {tk : Tok} (ml : mg "len" = none) (mal : mg "all" = none) (mv : mg "MOST_SIGNS" = some (.int 10000 tk)) (F : FunT K "is_allowed" "is_allowed" sIsAllowed f fd c) (TB : GxR.TabB base mg c T)
    (GS : FnOk P w K mg base CX0 1 fS fdS ["sign"] spSign) (kS : PySem.W.keepIn K (.ref fS) = true) (bS : Binds K fdS ["sign"] []) (gS : mg "is_allowed_sign" = some (.ref fS)) :
    FnOk P w K mg base CX0 8 f fd ["text"] (spAllowed K T) := by
  have nd := scAllowed.nd
  refine F.ok scAllowed (fun vs H Q E h => ?_) (fun A outer s H vs Q E hr h => ?_)
  · obtain ⟨_, rfl, _⟩ := h
    rfl
  · obtain ⟨x, rfl, hx, hT, q⟩ := h
    refine ⟨_, pss_one (ps_ret (pe_and (pe_cmpR op_le (pe_callB call_len_str (by rfl) ml PySem.boot_len (pa_cons (pv 0) pa_nil)) (pe_glob (v := .int 10000) rfl mv ⟨_, rfl⟩) (nomark _))
      (pe_one (pe_all (k := 2) (psrc (k := 1) (own := [("sign", 1)]) (hr.mono (by decide)) rfl nd TB rfl (pi_str (pv 0)) (blkOk_by (N := nAllowed) (sc := defScope sIsAllowed) (by decide +kernel)) (by decide +kernel) rfl rfl
        (fun _ _ _ _ _ _ _ _ => pg_name (i := 1) nd rfl (.inl rfl)) (fun _ _ _ _ _ _ _ _ _ => pts_nil) (fun _ _ _ _ _ _ _ _ hr' => pe_call GS (hr'.mono (by decide)) (by rfl) gS kS bS .nil pass0 (pa_cons (pv 1) pa_nil))) (hr.mono (by decide)) rfl mal)))), ?_⟩
    refine ⟨_, rfl, x, rfl, by show _ ≤ 2 ^ 24; omega, _, _, rfl, rfl, _, rfl, ?_⟩
    refine ite2 (fun h1 => ?_) (fun h1 => ?_)
    rotate_left
    · have : allowed x = false := by
        unfold allowed
        rw [decide_eq_false (fun z => h1 (decide_eq_true (by omega))), Bool.false_and]
      rw [this] at q
      exact q H .refl
    have eA : allowed x = (tl x).all okSign := by
      unfold allowed
      rw [decide_eq_true (by have := of_decide_eq_true h1; omega), Bool.true_and]
    rw [eA] at q
    refine ⟨_, rfl, x, rfl, hT, fun H2 tb => ?_⟩
    have x2 : Ext [] H H2 := .tabbed hT tb
    refine by_n x.cps.size (fun i ys H3 => Ext [] H H3 ∧ ys = (x.cps.toList.take i).map fun c => V.bl (okSign c)) ⟨x2, rfl⟩ (fun i ys H3 hi _ => hi) (fun ys H3 _ => Nat.le_refl _) (fun i ys H3 y H4 hi h3 hy => ?_) (fun ys H3 h3 => ?_)
    · obtain ⟨x3, rfl⟩ := h3
      obtain ⟨rfl, c, hc, rfl⟩ := hy
      have hil : i < x.cps.toList.length := by simpa using hi
      have ec : x.cps.toList[i] = c := by
        rw [Array.getElem_toList]
        exact (Array.getElem?_eq_some_iff.mp hc).2
      refine ⟨rfl, _, rfl, c, rfl, ?_⟩
      refine ⟨⟨_, rfl, fun hf _ => ?_⟩, fun _ => ⟨x3, ?_⟩⟩
      · have : ((tl x).all okSign) = false := by
          rw [List.all_eq_false]
          exact ⟨_, List.getElem_mem hil, by rw [ec, hf]; decide⟩
        rw [this] at q
        exact q _ x3
      · rw [← snoc (fun c => V.bl (okSign c)) x.cps.toList hil, ec]
    · obtain ⟨x3, rfl⟩ := h3
      intro hall
      have : ((tl x).all okSign) = true := by
        rw [List.all_eq_true]
        intro c hc
        have lx : x.cps.size = x.cps.toList.length := by simp
        rw [lx, List.take_length] at hall
        have := hall _ (List.mem_map.mpr ⟨c, hc, rfl⟩)
        exact V.bl.inj this
      rw [this] at q
      exact q _ x3
end
end K2
set_option Elab.async false
set_option linter.all false
set_option maxRecDepth 100000
set_option maxHeartbeats 4000000
namespace K2
open PySem PySem.Spec PyProof.Rows L2 Gx RZ TL
section
variable {P : Program} {w : World} {K : PySem.W.Frag} {mg : Str → Option Value} {base : Heap}
/-! ### words_of -/
def hashed (x : Str) : Bool := startsL 35 (tl x)
def cutW : List Str → List Str
  | [] => []
  | x :: xs => if hashed x = true then [] else x :: cutW xs
def wordsOf (line : Str) : List Str := cutW (Txt.words line)
theorem cutW_take : ∀ (xs : List Str) (i : Nat), (∀ j, j < i → ∀ x, xs[j]? = some x → hashed x = false) → (∀ x, xs[i]? = some x → hashed x = true) → cutW xs = xs.take i
  | [], i, _, _ => by simp [cutW]
  | x :: xs, 0, _, h => by
    unfold cutW
    rw [if_pos (h x rfl)]
    rfl
  | x :: xs, i + 1, h1, h2 => by
    unfold cutW
    rw [h1 0 (by omega) x rfl, if_neg (by decide), List.take_succ_cons, cutW_take xs i (fun j hj y hy => h1 (j + 1) (by omega) y (by simpa using hy)) (fun y hy => h2 y (by simpa using hy))]
abbrev nWordsOf : List Str := ["line", "words", "word"]
theorem scWordsOf : FnScope nWordsOf ["line"] (defScope sWordsOf) := ⟨rfl, rfl, rfl, by decide +kernel, rfl, by decide +kernel, by decide +kernel⟩
def spWordsOf : Sp := fun vs H Q _ => ∃ x : Str, vs = [.str x] ∧ x.length ≤ 20000 ∧ ∀ p H', Ext [] H H' → H p = none → H' p = some (.lst ((wordsOf x).map V.str)) → Q (.ref p) H'
theorem small20k {n : Nat} (h : n ≤ 20000) : n < sizeLine := Nat.lt_of_le_of_lt h (by decide)
theorem words_len (x : Str) : (Txt.words x).length ≤ x.length + 1 := words_le x
theorem map_itemS {α : Type} {f : α → V} {xs : List α} {i : Nat} {x : V} (h : (xs.map f)[i]? = some x) : ∃ hi : i < xs.length, x = f xs[i] := by
  rw [List.getElem?_map] at h
  cases e : xs[i]? with
  | none => rw [e] at h; cases h
  | some y =>
    rw [e] at h
    obtain ⟨h1, h2⟩ := List.getElem?_eq_some_iff.mp e
    exact ⟨h1, by rw [h2]; exact (Option.some.inj h).symm⟩
theorem ok_wordsOf {f : Addr} {fd : FuncData} (F : Fun K "words_of" "words_of" sWordsOf f fd) : FnOk P w K mg base CX0 1 f fd ["line"] spWordsOf := by
  have nd := scWordsOf.nd
  refine F.ok scWordsOf (fun vs H Q E h => ?_) (fun cdv A outer s H vs Q E hr h => ?_)
  · obtain ⟨_, rfl, _⟩ := h
    rfl
  · obtain ⟨x, rfl, hx, q⟩ := h
    refine ⟨_, pss_cons (ps_set (i := 1) nd rfl (.inl rfl) (pe_lst pa_nil))
      (pss_cons (ps_for PassesOwn.never rfl (pi_list (pe_words (pv 0))) (pg_name (i := 2) nd rfl (.inl rfl))
        (pss_cons (ps_if (pt_val (pe_m1 PySem.F.slot_str_startswith PySem.F.type_str_startswith mt_startswith (pv 2) pe_str)) (pss_one ps_break) pss_nil)
        (pss_one (ps_expr (pe_bm PySem.F.plainAttrs_list PySem.F.slot_list_append PySem.F.type_list_append mt_append (pv 1) (pa_cons (pv 2) pa_nil))))))
      (pss_one (ps_ret (pv 1)))), ?_⟩
    refine ⟨by decide, fun D hD => ?_⟩
    have x1 : Ext [] H (upd H D (.lst [])) := .new hD
    have e1 : (upd H D (.lst [])) D = some (.lst []) := upd_same
    generalize (upd H D (.lst [])) = H1 at x1 e1 ⊢
    have wl := words_len x
    have we : wordsOf x = cutW (Txt.words x) := rfl
    refine ⟨_, rfl, ⟨_, rfl⟩, _, rfl, rfl, by show _ ≤ 2 ^ 24; omega, fun p hp => ?_⟩
    generalize Txt.words x = ws at wl we ⊢
    have x2 : Ext [] H1 (upd H1 p (.lst (ws.map V.str))) := .new hp
    have e2 : (upd H1 p (.lst (ws.map V.str))) p = some (.lst (ws.map V.str)) := upd_same
    have eD2 : (upd H1 p (.lst (ws.map V.str))) D = some (.lst []) := by rw [upd_ne (ne_of_none e1 hp)]; exact e1
    have npD : p ≠ D := (ne_of_none e1 hp).symm
    generalize (upd H1 p (.lst (ws.map V.str))) = H2 at x2 e2 eD2 ⊢
    refine ⟨p, rfl, ⟨_, SqL.of e2⟩, ?_⟩
    refine for_list (xs := ws.map V.str) (fun i σ H3 => ∃ y2, σ = [some (.str x), some (.ref D), y2] ∧ Ext [] H H3 ∧ H3 p = some (.lst (ws.map V.str)) ∧ H3 D = some (.lst ((ws.take i).map V.str)) ∧ ∀ j, j < i → ∀ z, ws[j]? = some z → hashed z = false)
      ⟨_, rfl, x1.trans x2, e2, by rw [List.take_zero]; exact eD2, fun j hj => absurd hj (by omega)⟩ (fun i σ H3 _ h3 => let ⟨_, _, _, e, _⟩ := h3; SqL.of e) (fun i v σ H3 hv h3 => ?_) (fun σ H3 h3 => ?_)
    · obtain ⟨y2, rfl, x3, e3, eD3, hno⟩ := h3
      obtain ⟨hi, rfl⟩ := map_itemS hv
      refine ⟨_, rfl, ⟨_, rfl⟩, _, _, rfl, rfl, _, rfl, ?_⟩
      rw [show Txt.startswith ws[i] (Str.ofString "#") = hashed ws[i] from sw_one ws[i] 35]
      cases hs : hashed ws[i] with
      | true =>
        refine iteT ?_
        refine ⟨_, rfl, q D H3 x3 hD ?_⟩
        rw [we, cutW_take ws i hno fun z hz => by rw [List.getElem?_eq_getElem hi] at hz; cases hz; exact hs]
        exact eD3
      | false =>
        refine iteF ?_
        refine ⟨_, rfl, .inl ⟨rfl, _, SqL.of eD3⟩, _, rfl, D, _, _, rfl, rfl, eD3, by rw [List.length_map, List.length_take]; exact small20k (by omega), ?_⟩
        refine ⟨_, rfl, x3.own hD eD3, by rw [upd_ne npD]; exact e3, by rw [upd_same, List.take_add_one, List.getElem?_eq_getElem hi, List.map_append]; rfl, fun j hj z hz => ?_⟩
        by_cases c : j < i
        · exact hno j c z hz
        · obtain rfl : j = i := by omega
          rw [List.getElem?_eq_getElem hi] at hz
          cases hz
          exact hs
    · obtain ⟨y2, rfl, x3, e3, eD3, hno⟩ := h3
      rw [List.length_map] at hno eD3
      refine ⟨_, rfl, q D H3 x3 hD ?_⟩
      rw [we, cutW_take ws ws.length hno fun z hz => by rw [List.getElem?_eq_none (Nat.le_refl _)] at hz; cases hz]
      exact eD3
end
end K2
set_option Elab.async false
set_option linter.all false
set_option maxRecDepth 100000
set_option maxHeartbeats 4000000
namespace Gx
open PySem PySem.Spec PyProof.Rows L2 RZ
section
variable {prog : Program} {w : World} {A : Around} {E : Value → Shared → Prop} {s : Shared}
set_option maxHeartbeats 8000000 in
theorem set_of_strsL {l : Addr} {its : Array Value} {zs : List Str} {Q : Value → Shared → Prop} (hd : A.handled = none) (tl : s.heap.IsList l its) (za : StrsAre its.toList zs) (hb : zs.length + 1 < scanBound)
    (fin : ∀ (h2 : Heap) (tk : Nat), h2.SetOf (PySem.strKind prog w) s.heap.objs.size (fun z => (metS zs zs.length).any (· == z)) (metS zs zs.length).length → (∀ b o, b < s.heap.objs.size → s.heap.get? b = some o → h2.get? b = some o) →
      Q (.ref s.heap.objs.size) { s with heap := h2, toks := tk }) : wpAny (model prog w) A (call (.type "set") [.ref l]) Q E s := by
  obtain ⟨m1, m2, mroS⟩ := PySem.F.called_set.mro
  have madeS := PySem.F.called_set.made
  have subS := PySem.F.called_set.sub
  refine wpAny_call (codeAny_of_tree ?_)
  show wpAny _ _ (callAny (.type "set") _) _ _ _
  refine wpAny_pure ⟨Code.quiet_builtin _ (by decide +kernel), codeAny_builtin PySem.F.entry_type_call ?_⟩
  rw [Around.under_plain (weight_type_call_type "set" [.ref l] []) rfl]
  have nT := PySem.F.called_set.notType
  have cC := PySem.F.called_set.canCreate
  have tC := PySem.F.typeCall_set_1 (.ref l)
  repeat (any_goals (first | assumption | wp_step))
  refine codeAny_mono (code_set_new_1 (.ref l) (E := E) (Q₁ := fun x s1 => ∃ led : Bool, x = .ref s.heap.objs.size ∧ s1 = { s with heap := s.heap.push (set0 led) }) fun led => ⟨led, rfl, rfl⟩) fun r s1 made => ?_
  cases r with
  | error e => exact made
  | ok fl =>
    cases fl with
    | ret x =>
      obtain ⟨led, rfl, rfl⟩ := made
      have at0 : (s.heap.push (set0 led)).get? s.heap.objs.size = some (set0 led) := Heap.get?_push_size _ rfl
      have ty0 : Shared.TypeIs { s with heap := s.heap.push (set0 led) } (.ref s.heap.objs.size) "set" := ⟨_, at0, rfl⟩
      have iL := PySem.F.called_set.init.lookup
      have iB := PySem.F.called_set.init.bind (.ref s.heap.objs.size)
      repeat (any_goals (first | assumption | wp_step))
      refine codeAny_mono (codeAny_call_builtin (R := wants (fun x s2 => x = .none ∧ ∃ h2 tk, s2 = { s with heap := h2, toks := tk } ∧ h2.SetOf (PySem.strKind prog w) s.heap.objs.size (fun z => (metS zs zs.length).any (· == z)) (metS zs zs.length).length ∧
          ∀ b o, b < s.heap.objs.size → s.heap.get? b = some o → h2.get? b = some o) E) PySem.F.called_set.init.plain PySem.F.entry_set_init (check_set_init_1 ty0 ?_)) fun r2 s2 got => ?_
      · obtain ⟨ob, eo, ec, nn, ed⟩ := tl
        obtain ⟨oc, od, odt, osl⟩ := ob
        simp only at ec ed
        subst ec; subst ed
        have eo2 : (s.heap.push (set0 led)).get? l = some { cls := .type "list", dict := od, data := .seq its nn, slots := osl } := Heap.get?_push_of_some _ eo
        have s1 := PySem.F.sub_list_set
        have s2 := PySem.F.sub_list_frozenset
        have s3 : (Value.type "list" == Value.type "dict") = false := by decide
        have tl1 : (s.heap.push (set0 led)).IsList l its := ⟨_, eo2, rfl, nn, rfl⟩
        unfold Builtin.«set.__init__» noKeywords Builtin.Frozenset.updateFrom
        generalize hPI : pyIter = PI
        wp_walk
        subst hPI
        refine wpAny_pyIter_list tl1 (wpAny_bind (wpAny_runValue ?_))
        have lS : l < s.heap.objs.size := Heap.lt_size eo
        have hd3 : A.in1.in1.in1.handled = none := by simp [hd]
        have lI : l ≠ (s.heap.push (set0 led)).objs.size := by
          rw [Heap.size_push]
          exact Nat.ne_of_lt (Nat.lt_succ_of_lt lS)
        have aM : s.heap.objs.size ∉ [(s.heap.push (set0 led)).objs.size, l] := by
          rw [Heap.size_push]
          simp only [List.mem_cons, List.not_mem_nil, or_false, not_or]
          refine ⟨?_, ?_⟩
          · exact Nat.ne_of_lt (Nat.lt_succ_self _)
          · exact Nat.ne_of_gt lS
        have zl : zs.length = its.size := by rw [← StrsAre.len_eq za, Array.length_toList]
        have zv : ∀ (i : Nat) (v : Value), its[i]? = some v → ∃ t, v = .str (zs.getD i Str.empty) t := fun i v hv => strA za i v (by rw [Array.getElem?_toList]; exact hv)
        refine loop_strs ((Walks.list hd3 _ l lI its).toS) s.heap.objs.size aM zs zl (by rw [← zl]; exact hb) zv (its.size - 0) 0 _ (by omega) (Nat.zero_le _) ⟨⟨_, Heap.get?_push_size _ rfl, rfl, rfl⟩, tl1.push _⟩ ?first ?last
        case first =>
          have at1 : ((s.heap.push (set0 led)).push { cls := .type "list_iterator", data := .fields #[.ref l, .int 0 0] }).get? s.heap.objs.size = some (set0 led) := Heap.get?_push_of_some _ at0
          exact SetOf_congr ((setObjOf_fresh (knd := PySem.strKind prog w) led).setOf at1 (by unfold scanBound; omega)) (fun _ => rfl) rfl
        case last =>
          intro s4 mv set4
          obtain ⟨h4, g4, d4, t4, os4⟩ := s4
          obtain rfl : g4 = s.gens := mv.gens
          obtain rfl : d4 = s.drawn := mv.drawn
          obtain rfl : os4 = s.os := mv.os
          show wpAny _ _ _ _ _ _
          refine wpAny_pure ?_
          show wpAny _ _ (ret Value.none) _ _ _
          rw [← zl] at set4
          refine wpAny_pure ⟨rfl, h4, t4, rfl, set4, fun b o hbs e => ?_⟩
          refine mv.heap b o ?_ (Heap.get?_push_of_some _ (Heap.get?_push_of_some _ e))
          rw [Heap.size_push]
          simp only [List.mem_cons, List.not_mem_nil, or_false, not_or]
          refine ⟨?_, ?_⟩
          · exact Nat.ne_of_lt hbs
          · exact Nat.ne_of_lt (Nat.lt_succ_of_lt hbs)
      · cases r2 with
        | error e => exact got
        | ok f2 =>
          cases f2 with
          | ret x =>
            obtain ⟨rfl, h2, tk, rfl, set5, keep5⟩ := got
            repeat (any_goals (first | assumption | wp_step))
            exact fin _ _ set5 keep5
          | _ => exact got.elim
    | _ => exact made.elim
def tLenSetL (K : PySem.W.Frag) (ta : TE) : TE := fun σ H Q => ta σ H fun x H1 => ∃ (l : Addr) (zs : List Str), x = .ref l ∧ SqL K H1 l (zs.map V.str) ∧ zs.length ≤ 4000 ∧ Q (.int (setLenS zs : Nat)) H1
theorem pe_lenSetL {X : Cx} {a : Expr} {ta : TE} {p p2 q pos : Pos} (hg : Gl X "len") (hm : X.mg "len" = none) (hg2 : Gl X "set") (hm2 : X.mg "set" = none) (ha : PE X a ta) (hc : X.calm = true := by rfl)
    (na : starEach [a] X.env = (false, eval a X.env) :: starEach [] X.env := by rfl) : PE X (.Call (.Name "len" p) [.Call (.Name "set" p2) [a] [] q] [] pos) (tLenSetL X.K ta) := by
  refine ⟨fun pins s σ H Q I h => ?_⟩
  refine Call_ (ld_blt I hg hm PySem.boot_len (PyProof.Rows.callWith_builtin1 (PyProof.Rows.args_cons ?_ rfl) rfl rfl))
  refine Call_ (ld_blt I hg2 hm2 PyProof.Rows.boot_set (PyProof.Rows.callWith_type1 (PyProof.Rows.args_cons (thn (ha.run pins s σ H _ I h) fun v s1 hv => PyProof.Rows.args_nil ?_) na) na rfl))
  obtain ⟨x, H1, I1, r1, l, zs, rfl, hq, hl, q1⟩ := hv
  cases r1
  obtain ⟨its, r, pl, hz⟩ := I1.list hq
  refine set_of_strsL (I1.ok.hd hc) pl.isList (by simpa using strsAre_of r) (by unfold scanBound; omega) fun h2 tk hS hk => PyProof.Rows.args_nil ?_
  obtain ⟨o, es, ep, t, ho, hex, hd, _, _, _, hf, hn⟩ := hS
  have I2 : Inv X pins σ H1 { s1 with heap := h2, toks := tk } := I1.kept fun b o e => hk b o (Heap.lt_size e) e
  have hle := metS_le zs zs.length
  exact call_len_set ho hex hd hf (by rw [hn] <;> omega) ⟨.int (setLenS zs : Nat), H1, I2.tok _, ⟨_, by rw [hn]; rfl⟩, q1⟩
end
end Gx
set_option Elab.async false
set_option linter.all false
set_option maxRecDepth 100000
set_option maxHeartbeats 4000000
namespace K2
open PySem PySem.Spec PyProof.Rows L2 Gx RZ TL
section
variable {P : Program} {w : World} {K : PySem.W.Frag} {mg : Str → Option Value} {base : Heap}
def sInit : Stmt := match topS 2 with
  | .ClassDef (body := b) .. => b.getD 0 (.Pass ⟨0, 0, 0, 0⟩)
  | _ => .Pass ⟨0, 0, 0, 0⟩
/-- what the written part says of BadNet -/
structure BadC (K : PySem.W.Frag) (C : Addr) : Prop where
  o : OexC K C
  fl : PySem.W.findIn K (.ref C) "line" = some none
  fr : PySem.W.findIn K (.ref C) "reason" = some none
def spInit (K : PySem.W.Frag) (C : Addr) : Sp := fun vs H Q _ => ∃ (a : Addr) (x y : V), vs = [.ref a, x, y] ∧ BadC K C ∧ H a = some (exo a C none) ∧
  ∀ dx, H dx = none → dx ≠ a → Q .non (upd (upd (upd H dx (exd dx [("line", x)])) a (exo a C (some dx))) dx (exd dx [("reason", y), ("line", x)]))
theorem scInit : FnScope ["self", "line", "reason"] ["self", "line", "reason"] (defScope sInit) := ⟨rfl, rfl, rfl, by decide +kernel, rfl, by decide +kernel, by decide +kernel⟩
theorem ok_init {f C : Addr} {fd : FuncData} (F : Fun K "__init__" "BadNet.__init__" sInit f fd) : FnOk P w K mg base CX0 1 f fd ["self", "line", "reason"] (spInit K C) := by
  refine F.ok scInit (fun vs H Q E h => ?_) (fun cdv A outer s H vs Q E hr h => ?_)
  · obtain ⟨_, _, _, rfl, _⟩ := h
    rfl
  · obtain ⟨a, x, y, rfl, B, ha, q⟩ := h
    refine ⟨_, pss_cons (ps_ost (pv 0) (pv 1)) (pss_one (ps_ost (pv 0) (pv 2))), ?_⟩
    refine ⟨_, rfl, _, rfl, a, C, rfl, B.o, B.fl, .inl ⟨ha, fun dx h1 h2 => ?_⟩⟩
    exact ⟨_, rfl, _, rfl, a, C, rfl, B.o, B.fr, .inr ⟨dx, [("line", x)], upd_same, by rw [upd_ne h2]; exact upd_same, by show 1 ≤ 900; decide, q dx h1 h2⟩⟩

theorem made {K : PySem.W.Frag} {C : Addr} (BC : BadC K C) {x y : V} {H1 : Hp} {EE : XK} (hE : ∀ H' dd, Ext [] H1 H' → H' dd = some (.xd [("reason", y), ("line", x)]) → EE (.ref C) (some dd) H') :
    ∀ a, H1 a = none → spInit K C [.ref a, x, y] (upd H1 a (exo a C none)) (fun v H2 => v = .non ∧ ∃ (d : Addr) (fs : List (Str × V)), H2 a = some (exo a C (some d)) ∧ H2 d = some (exd d fs) ∧ H1 d = none ∧ EE (.ref C) (some d) (upd (del H2 a) d (.xd fs))) (fun _ _ _ => False) := fun a ha => by
  refine ⟨a, x, y, rfl, BC, upd_same, fun dx h1 h2 => ⟨rfl, dx, _, by rw [upd_ne h2.symm]; exact upd_same, upd_same, by rw [upd_ne h2] at h1; exact h1, ?_⟩⟩
  have hd1 : H1 dx = none := by rw [upd_ne h2] at h1; exact h1
  refine hE _ dx (ext_two ha hd1 (fun b hb1 hb2 => ?_) upd_same) upd_same
  rw [upd_ne hb2, del_ne hb1, upd_ne hb2, upd_ne hb1, upd_ne hb2, upd_ne hb1]
/-! ### fault_of_marks -/
def faultMarks (ws : List Str) : Str :=
  if ws.getD 0 Str.empty ≠ "marks" ∨ ws.drop 1 = [] then "marks expected"
  else if (ws.drop 1).all isNameS = false then "not a name"
  else if ¬ (ws.drop 1).Nodup then "name twice"
  else if 16 < (ws.drop 1).length then "too many"
  else ""
abbrev nFaultMarks : List Str := ["words", "names", "name"]
theorem scFaultMarks : FnScope nFaultMarks ["words"] (defScope sFaultOfMarks) := ⟨rfl, rfl, rfl, by decide +kernel, rfl, by decide +kernel, by decide +kernel⟩
def spFaultMarks (K : PySem.W.Frag) (T T2 : Addr) : Sp := fun vs H Q _ => ∃ (p : Addr) (ws : List Str), vs = [.ref p] ∧ H p = some (.lst (ws.map V.str)) ∧ ws ≠ [] ∧ ws.length ≤ 1000 ∧ (∀ z ∈ ws, z.length ≤ 20000) ∧ GxR.TabG H T ∧ GxR.TabG H T2 ∧ ∀ H', Ext [] H H' → Q (.str (faultMarks ws)) H'
theorem setLenS_lt (zs : List Str) : decide (((setLenS zs : Nat) : Int) < ((zs.length : Nat) : Int)) = !decide zs.Nodup := by
  have h1 : setLenS zs ≤ zs.length := metS_le zs zs.length
  have h2 := setLenS_eq zs
  by_cases h : zs.Nodup
  · rw [decide_eq_true h] at h2 ⊢
    have := V.int.inj (of_decide_eq_true h2)
    exact decide_eq_false (by omega)
  · rw [decide_eq_false h] at h2 ⊢
    have h3 : setLenS zs ≠ zs.length := fun e => by rw [e, decide_eq_true rfl] at h2; cases h2
    exact decide_eq_true (by omega)
theorem ok_faultMarks {f c T T2 fN : Addr} {fd fdN : FuncData} {tk : Tok} (ml : mg "len" = none) (mal : mg "all" = none) (mst : mg "set" = none) (mv : mg "MOST_MARKS" = some (.int 16 tk)) (F : FunT K "fault_of_marks" "fault_of_marks" sFaultOfMarks f fd c) (TB : GxR.TabB base mg c T)
    (GN : FnOk P w K mg base CX0 8 fN fdN ["thing"] (spIsName K T2)) (kN : PySem.W.keepIn K (.ref fN) = true) (bN : Binds K fdN ["thing"] []) (gN : mg "is_name" = some (.ref fN)) : FnOk P w K mg base CX0 12 f fd ["words"] (spFaultMarks K T T2) := by
  have nd := scFaultMarks.nd
  refine F.ok scFaultMarks (fun vs H Q E h => ?_) (fun A outer s H vs Q E hr h => ?_)
  · obtain ⟨_, _, rfl, _⟩ := h
    rfl
  · obtain ⟨p, ws, rfl, ep, wne, wl, wb, hT, hT2, q⟩ := h
    refine ⟨_, pss_cons (ps_set (i := 1) nd rfl (.inl rfl) (pe_slice sl_list (pv 0) (po_some pe_int) po_none))
      (pss_cons (ps_if (PW.pt (pw_or (pt_cmpR op_ne (pe_ix ix_list (pv 0) pe_int (fun _ _ => rfl)) pe_str (nomark _)) (pw_or1 (pt_not (pt_truth (pv 1) (by intro _; rfl)))))) (pss_one (ps_ret pe_str)) pss_nil)
      (pss_cons (ps_if (pt_not (pt_val (pe_all (k := 9) (psrc (k := 8) (own := [("name", 2)]) (hr.mono (by decide)) rfl nd TB rfl (pi_list (pv 1)) (blkOk_by (N := nFaultMarks) (sc := defScope sFaultOfMarks) (by decide +kernel)) (by decide +kernel) rfl rfl
        (fun _ _ _ _ _ _ _ _ => pg_name (i := 2) nd rfl (.inl rfl)) (fun _ _ _ _ _ _ _ _ _ => pts_nil) (fun _ _ _ _ _ _ _ _ hr' => pe_call GN (hr'.mono (by decide)) (by rfl) gN kN bN .nil pass0 (pa_cons (pv 2) pa_nil))) (hr.mono (by decide)) rfl mal))) (pss_one (ps_ret pe_str)) pss_nil)
      (pss_cons (ps_if (pt_cmpR op_lt (pe_lenSetL (by rfl) ml (by rfl) mst (pv 1)) (pe_callB call_len_seq (by rfl) ml PySem.boot_len (pa_cons (pv 1) pa_nil)) (nomark _)) (pss_one (ps_ret pe_str)) pss_nil)
      (pss_cons (ps_if (pt_cmpR op_gt (pe_callB call_len_seq (by rfl) ml PySem.boot_len (pa_cons (pv 1) pa_nil)) (pe_glob (v := .int 16) rfl mv ⟨_, rfl⟩) (nomark _)) (pss_one (ps_ret pe_str)) pss_nil)
      (pss_one (ps_ret pe_str)))))), ?_⟩
    have l0 : 0 < ws.length := List.length_pos_iff.mpr wne
    have cc : cutV (ws.map V.str) (some 1) none = (ws.drop 1).map V.str := by
      have := cut_hi (xs := ws.map V.str) (j := 1) (by rw [List.length_map]; omega)
      rw [← List.map_drop] at this
      exact this
    have fM : faultMarks ws = (if ws.getD 0 Str.empty ≠ "marks" ∨ ws.drop 1 = [] then ("marks expected" : Str)
      else if (ws.drop 1).all isNameS = false then "not a name" else if ¬ (ws.drop 1).Nodup then "name twice" else if 16 < (ws.drop 1).length then "too many" else "") := rfl
    generalize faultMarks ws = res at fM q
    refine ⟨_, rfl, _, rfl, p, _, rfl, SqL.of ep, fun p2 hp2 => ?_⟩
    have x1 : Ext [] H (upd H p2 (.lst (cutV (ws.map V.str) (some 1) none))) := .new hp2
    have e2 : (upd H p2 (.lst (cutV (ws.map V.str) (some 1) none))) p2 = some (.lst ((ws.drop 1).map V.str)) := by rw [upd_same, cc]
    have ep1 : (upd H p2 (.lst (cutV (ws.map V.str) (some 1) none))) p = some (.lst (ws.map V.str)) := by rw [upd_ne (ne_of_none ep hp2)]; exact ep
    generalize (upd H p2 (.lst (cutV (ws.map V.str) (some 1) none))) = H1 at x1 e2 ep1 ⊢
    have ns_ : (ws.drop 1).length ≤ 1000 := by rw [List.length_drop]; omega
    have nb : ∀ z ∈ ws.drop 1, z.length ≤ 20000 := fun z hz => wb z (List.mem_of_mem_drop hz)
    have i0 : (ws.map V.str)[0]? = some (.str (ws.getD 0 Str.empty)) := by
      rw [List.getElem?_map, List.getD_eq_getElem?_getD, List.getElem?_eq_getElem l0]
      rfl
    generalize ws.drop 1 = ns at fM e2 ns_ nb
    refine ⟨_, rfl, p, _, _, _, rfl, rfl, SqL.of ep1, atI_nat (j := 0) i0, rfl, _, rfl, ?_⟩
    by_cases c1 : ws.getD 0 Str.empty = "marks"
    rotate_left
    · rw [if_pos (.inl c1)] at fM
      refine ite2 (fun z => ?_) (fun z => absurd (by rw [decide_eq_false (fun e => c1 (V.str.inj e))]; rfl) z)
      rw [← fM]
      exact q H1 x1
    refine ite2 (fun z => by rw [c1, decide_eq_true rfl] at z; cases z) (fun _ => ?_)
    refine ⟨_, rfl, _, .inl ⟨_, SqL.of e2, rfl⟩, ?_⟩
    cases ns with
    | nil =>
      rw [if_pos (.inr rfl)] at fM
      refine iteT ?_
      rw [← fM]
      exact q H1 x1
    | cons n0 nr =>
    generalize hns : n0 :: nr = ns at *
    have nn : ns ≠ [] := by rw [← hns]; simp
    rw [if_neg (by rintro (h | h); exact h c1; exact nn h)] at fM
    refine ite2 (fun z => by rw [← hns] at z; cases z) (fun _ => ?_)
    refine ⟨_, rfl, p2, rfl, ⟨_, SqL.of e2⟩, x1.tab _ hT, fun H3 tb => ?_⟩
    have x3 : Ext [] H H3 := x1.trans (.tabbed (x1.tab _ hT) tb)
    have e3 : SqL K H3 p2 (ns.map V.str) := (Ext.tabbed (c := []) (x1.tab _ hT) tb).sqL (SqL.of e2) (by simp)
    have ee3 := (Ext.tabbed (c := []) (x1.tab _ hT) tb).lst e2 (by simp)
    refine by_list (a := p2) (xs := ns.map V.str) (fun i ys H4 => Ext [] H3 H4 ∧ ys = (ns.take i).map fun z => V.bl (isNameS z)) ⟨.refl, rfl⟩ (fun i ys H4 h4 => h4.1.sqL e3 (by simp)) (fun i y ys H4 hy h4 => ?_) (fun ys H4 h4 => ?_)
    · obtain ⟨x4, rfl⟩ := h4
      obtain ⟨hi, rfl⟩ := map_itemS hy
      refine ⟨rfl, _, rfl, .str ns[i], .str ns[i], rfl, DQ.str _, fun x e => by cases e; have := nb ns[i] (List.getElem_mem hi); omega, (x3.trans x4).tab _ hT2, fun H5 x5 => ⟨⟨_, rfl, fun hf _ => ?_⟩, fun _ => ⟨x4.trans x5, ?_⟩⟩⟩
      · have : (ns.all isNameS) = false := by
          rw [List.all_eq_false]
          exact ⟨_, List.getElem_mem hi, by rw [show isNameS ns[i] = false from hf]; decide⟩
        rw [if_pos this] at fM
        refine ⟨_, rfl, iteT ?_⟩
        rw [← fM]
        exact q _ ((x3.trans x4).trans x5)
      · rw [← snoc (fun z => V.bl (isNameS z)) ns hi]
        rfl
    · obtain ⟨x4, rfl⟩ := h4
      intro hall
      have hal : (ns.all isNameS) = true := by
        rw [List.all_eq_true]
        intro z hz
        rw [List.length_map, List.take_length] at hall
        exact V.bl.inj (hall _ (List.mem_map.mpr ⟨z, hz, rfl⟩))
      rw [if_neg (by rw [hal]; decide)] at fM
      refine ⟨_, rfl, iteF ?_⟩
      have e4 := x4.sqL e3 (by simp)
      have x04 := x3.trans x4
      refine ⟨_, rfl, p2, ns, rfl, e4, by omega, _, rfl, p2, _, rfl, .inl e4, _, _, rfl, rfl, _, rfl, ?_⟩
      rw [List.length_map, setLenS_lt]
      by_cases c2 : ns.Nodup
      rotate_left
      · rw [if_pos c2] at fM
        refine ite2 (fun _ => ?_) (fun z => absurd (by rw [decide_eq_false c2]; rfl) z)
        rw [← fM]
        exact q _ x04
      rw [if_neg (by simpa using c2)] at fM
      refine ite2 (fun z => by rw [decide_eq_true c2] at z; cases z) (fun _ => ?_)
      refine ⟨_, rfl, p2, _, rfl, .inl e4, _, _, rfl, rfl, _, rfl, ?_⟩
      rw [List.length_map]
      by_cases c3 : 16 < ns.length
      · rw [if_pos c3] at fM
        refine ite2 (fun _ => ?_) (fun z => absurd (decide_eq_true (by omega)) z)
        rw [← fM]
        exact q _ x04
      · rw [if_neg c3] at fM
        refine ite2 (fun z => absurd (of_decide_eq_true z) (by omega)) (fun _ => ?_)
        rw [← fM]
        exact q _ x04
end
end K2
set_option Elab.async false
set_option linter.all false
set_option maxRecDepth 100000
set_option maxHeartbeats 4000000
namespace Gx
open PySem PySem.Spec PyProof.Rows L2 RZ
/-! ### a tuple that is new, and known to be without a dict: methods of it -/
def FzT (H : Hp) (p : Addr) (xs : List V) : Prop := ∃ o, o.dict = none ∧ H p = some (.frz o (.tup xs))
theorem FzT.sq {H : Hp} {p : Addr} {xs : List V} {K : PySem.W.Frag} (h : FzT H p xs) : SqT K H p xs := let ⟨o, _, e⟩ := h; .inl (.inr ⟨o, e⟩)
theorem FzT.ext {c : List Addr} {H H1 : Hp} {p : Addr} {xs : List V} (h : FzT H p xs) (x : Ext c H H1) : FzT H1 p xs := let ⟨o, d, e⟩ := h; ⟨o, d, x.frz _ _ _ e⟩
theorem Ext.newF {c : List Addr} {H : Hp} {p : Addr} {o : HO} (h : H p = none) : Ext c H (upd H p o) := .new h
section
variable {X : Cx}
theorem call_tuple_ofF : CallR X (.type "tuple") (fun xs H Q => ∃ p ys, xs = [.ref p] ∧ SqL X.K H p ys ∧ ∀ l o, H l = none → o.dict = none → Q (.ref l) (upd H l (.frz o (.tup ys)))) := by
  intro pins s σ H xs us Q I r h
  obtain ⟨p, ys, rfl, hq, q⟩ := h
  obtain ⟨u, rfl, rx⟩ := vals1 r
  cases rx
  obtain ⟨its, r', pl, hz⟩ := I.list hq
  have hlen := r'.length
  refine call_tuple_list pl.isList (fun h' kp => ?_) (by simp only [List.size_toArray] <;> omega)
  have I1 : Inv X pins σ H { s with heap := h' } := I.kept (t' := s.toks) kp
  have I2 : Inv X pins σ (upd H h'.objs.size (.frz { cls := .type "tuple", data := .seq its.toArray } (.tup ys))) { s with heap := h'.push { cls := .type "tuple", data := .seq its.toArray } } :=
    I1.laid (t' := s.toks) (fun b o e => Heap.get?_push_of_some _ e) (Nat.le_refl _) (show ObjOk X.prog X.w _ _ _ (.frz _ (.tup ys)) from ⟨Heap.get?_push_size _ rfl, hz, its, r', IsTup.new _ _⟩)
  exact ⟨.ref h'.objs.size, _, I2, rfl, q _ _ (I1.hok.fresh (Nat.le_refl _)) rfl⟩
def tBMF (r : V → List V → Hp → VK → Prop) (to : TE) (t : TA) : TE := fun σ H Q => to σ H fun x H1 => (∃ p xs, x = .ref p ∧ FzT H1 p xs) ∧ t σ H1 fun xs H2 => r x xs H2 Q
variable {o e : Expr} {es : List Expr} {to : TE} {t : TA} {name : Str} {apos cpos : Pos} {id : String} {r : V → List V → Hp → VK → Prop}
theorem pe_bmF (pa : PlainAttrs "tuple") (slot : Slot "tuple" name id) (hty : typeOf (.builtin id) = pure (.type "method_descriptor")) (hm : MtR X id r) (ho : PE X o to) (ha : PA X (e :: es) t)
    (hbase : attributeBase o name X.env (eval o X.env) = eval o X.env := by rfl)
    (hfew : ((backTo cpos (starEach (e :: es) X.env)).all (fun x => !x.1) && (backToKw cpos (keywordEach [] X.env)).all (fun x => x.1.isSome)
      && decide ((e :: es).length + ([] : List Keyword).length + (if ([] : List Keyword).isEmpty then 0 else 1) < 30)) = true := by rfl)
    (hline : (apos.endLine == cpos.line) = true := by rfl) (hs : starEach (e :: es) X.env = (false, eval e X.env) :: starEach es X.env := by rfl) (hplain : (backTo cpos (starEach es X.env)).any (·.1) = false := by rfl) :
    PE X (.Call (.Attribute o name apos) (e :: es) [] cpos) (tBMF r to t) := by
  refine ⟨fun pins s σ H Q I h => ?_⟩
  refine wpAny_Call_method_late hbase hfew hline rfl (thn (ho.run pins s σ H _ I h) fun v s1 ⟨x, H1, I1, r1, ty, q1⟩ => ?_)
  obtain ⟨p, xs, rfl, ob, hd, hz⟩ := ty
  cases r1
  have hok : ObjOk X.prog X.w H1 s1.heap p (.frz ob (.tup xs)) := I1.hok p _ hz
  obtain ⟨hg, hz2, its, _, o2, ho2, hc2, _⟩ := hok
  have h1 : s1.TypeIs (.ref p) "tuple" := ⟨o2, ho2, hc2⟩
  have h2 : ∀ a, Value.ref p = .ref a → ∃ ob, s1.heap.get? a = some ob ∧ ob.dict = none := fun a e => by cases e; exact ⟨ob, hg, hd⟩
  refine ⟨"tuple", id, pa, slot, hty, h1, h2, ?_⟩
  have hA := ha.run cpos pins s1 σ H1 _ I1 q1
  rw [hs] at hA ⊢
  refine Calls.callWith_builtin (by show (false || (backTo cpos (starEach es X.env)).any (·.1)) = false; rw [hplain] <;> rfl) (Calls.evalArgs_plain ?_)
  exact thn hA fun us s2 ⟨vs, H2, I2, r2, q2⟩ => hm pins s2 σ H2 (.ref p) vs (.ref p) us Q I2 rfl r2 q2
end
end Gx
set_option Elab.async false
set_option linter.all false
set_option maxRecDepth 100000
set_option maxHeartbeats 4000000
namespace K2
open PySem PySem.Spec PyProof.Rows L2 Gx RZ TL
theorem str_len0 {x : Str} (h : x.length = 0) : x = "" := tl_inj (by
  have : tl x = [] := List.length_eq_zero_iff.mp (by rw [tl_len]; exact h)
  rw [this]
  rfl)
theorem faultMarks_len (ws : List Str) : (faultMarks ws).length ≤ 14 := by
  unfold faultMarks
  split
  · decide
  · split
    · decide
    · split
      · decide
      · split <;> decide
theorem inV_str (x : Str) (ms : List Str) : inV (.str x) (ms.map V.str) = decide (x ∈ ms) := by
  induction ms with
  | nil => rfl
  | cons y ys ih =>
    show ((y == x) || inV (.str x) (ys.map V.str)) = _
    rw [ih]
    by_cases e : y = x
    · rw [e, beq_self_eq_true, Bool.true_or, decide_eq_true (by simp)]
    · rw [beq_eq_false_iff_ne.mpr e, Bool.false_or]
      exact decide_eq_decide.mpr ⟨fun h => List.mem_cons_of_mem _ h, fun h => (List.mem_cons.mp h).resolve_left fun z => e z.symm⟩
def firstAt : List Str → Str → Nat
  | [], _ => 0
  | y :: ys, z => if y = z then 0 else firstAt ys z + 1
theorem firstAt_ok : ∀ {ys : List Str} {z : Str}, z ∈ ys → ys[firstAt ys z]? = some z ∧ (∀ m, m < firstAt ys z → ys[m]? ≠ some z) ∧ firstAt ys z < ys.length
  | y :: ys, z, h => by
    unfold firstAt
    by_cases e : y = z
    · rw [if_pos e, e]
      exact ⟨rfl, fun m hm => absurd hm (by omega), by rw [List.length_cons]; omega⟩
    · rw [if_neg e]
      obtain ⟨h1, h2, h3⟩ := firstAt_ok (ys := ys) ((List.mem_cons.mp h).resolve_left fun z => e z.symm)
      refine ⟨h1, fun m hm => ?_, by rw [List.length_cons]; omega⟩
      cases m with
      | zero => intro z; exact e (Option.some.inj z)
      | succ m => exact h2 m (by omega)
section
variable {P : Program} {w : World} {K : PySem.W.Frag} {mg : Str → Option Value} {base : Heap}
/-! ### marks_of -/
abbrev nMarksOf : List Str := ["words", "number", "fault"]
theorem scMarksOf : FnScope nMarksOf ["words", "number"] (defScope sMarksOf) := ⟨rfl, rfl, rfl, by decide +kernel, rfl, by decide +kernel, by decide +kernel⟩
def spMarksOf (K : PySem.W.Frag) (C T T2 : Addr) : Sp := fun vs H Q E => ∃ (p : Addr) (ws : List Str) (n : Int), vs = [.ref p, .int n] ∧ H p = some (.lst (ws.map V.str)) ∧ ws ≠ [] ∧ ws.length ≤ 1000 ∧ (∀ z ∈ ws, z.length ≤ 20000) ∧ GxR.TabG H T ∧ GxR.TabG H T2 ∧ BadC K C ∧
  (faultMarks ws ≠ "" → ∀ H' dd, Ext [] H H' → H' dd = some (.xd [("reason", .str (faultMarks ws)), ("line", .int n)]) → E (.ref C) (some dd) H') ∧
  (faultMarks ws = "" → ∀ q H', Ext [] H H' → FzT H' q ((ws.drop 1).map V.str) → Q (.ref q) H')
theorem ok_marksOf {f fF fI C T T2 : Addr} {fd fdF fdI : FuncData} (mt : mg "tuple" = none) (F : Fun K "marks_of" "marks_of" sMarksOf f fd)
    (GF : FnOk P w K mg base CX0 12 fF fdF ["words"] (spFaultMarks K T T2)) (kF : PySem.W.keepIn K (.ref fF) = true) (bF : Binds K fdF ["words"] []) (gF : mg "fault_of_marks" = some (.ref fF))
    (FI : Fun K "__init__" "BadNet.__init__" sInit fI fdI) (bI : Binds K fdI ["self", "line", "reason"] []) (iC : PySem.W.findIn K (.ref C) "__init__" = some (some (.ref fI))) (tI : PySem.W.typeIn K (.ref fI) = some (.type "function")) (gC : mg "BadNet" = some (.ref C)) (BC : BadC K C) :
    FnOk P w K mg base (CX P w) 13 f fd ["words", "number"] (spMarksOf K C T T2) := by
  have nd := scMarksOf.nd
  have GI : FnOk P w K mg base CX0 1 fI fdI ["self", "line", "reason"] (spInit K C) := ok_init FI
  refine F.okX scMarksOf (fun vs H Q E h => ?_) (fun cdv A outer s H vs Q E hr h => ?_)
  · obtain ⟨_, _, _, rfl, _⟩ := h
    rfl
  · obtain ⟨p, ws, n, rfl, ep, wne, wl, wb, hT, hT2, BC, qe, qo⟩ := h
    refine ⟨_, pss_cons (ps_set (i := 2) nd rfl (.inl rfl) (pe_call GF hr (by rfl) gF kF bF .nil pass0 (pa_cons (pv 0) pa_nil)))
      (pss_cons (ps_if (pt_truth (pv 2) (by intro _; rfl)) (pss_one (ps_raise rfl (takes_of rfl rfl rfl rfl) (pmk_oex BC.o iC tI GI (hr.mono (by decide)) bI .nil pass0 (by rfl) gC (pa_cons (pv 1) (pa_cons (pv 2) pa_nil))))) pss_nil)
      (pss_one (ps_ret (pe_callTy call_tuple_ofF (by rfl) mt PyProof.Rows.boot_tuple (pa_cons (pe_slice sl_list (pv 0) (po_some pe_int) po_none) pa_nil))))), ?_⟩
    have l0 : 0 < ws.length := List.length_pos_iff.mpr wne
    have cc : cutV (ws.map V.str) (some 1) none = (ws.drop 1).map V.str := by
      have := cut_hi (xs := ws.map V.str) (j := 1) (by rw [List.length_map]; omega)
      rw [← List.map_drop] at this
      exact this
    have fl := faultMarks_len ws
    refine ⟨_, rfl, p, ws, rfl, ep, wne, wl, wb, hT, hT2, fun H1 x1 => ?_⟩
    generalize faultMarks ws = fm at fl qe qo ⊢
    refine ⟨_, rfl, _, ⟨by show _ ≤ 2 ^ 24; omega, rfl⟩, ?_⟩
    by_cases c : fm = ""
    · subst c
      refine ite2 (fun z => absurd z (by decide)) (fun _ => ?_)
      refine ⟨_, rfl, 1, rfl, p, _, rfl, SqL.of (x1.lst ep (by simp)), fun p2 hp2 => ?_⟩
      have x2 : Ext [] H1 (upd H1 p2 (.lst (cutV (ws.map V.str) (some 1) none))) := .new hp2
      have e2 : (upd H1 p2 (.lst (cutV (ws.map V.str) (some 1) none))) p2 = some (.lst ((ws.drop 1).map V.str)) := by rw [upd_same, cc]
      generalize (upd H1 p2 (.lst (cutV (ws.map V.str) (some 1) none))) = H2 at x2 e2 ⊢
      exact ⟨p2, _, rfl, SqL.of e2, fun l o hl hd => qo rfl l _ ((x1.trans x2).trans (.new hl)) ⟨o, hd, upd_same⟩⟩
    · have hc : fm.length ≠ 0 := fun z => c (str_len0 z)
      refine ite2 (fun _ => ?_) (fun z => absurd (by rw [bne_iff_ne]; omega) z)
      exact ⟨_, rfl, _, rfl, by show 2 ≤ 1000; decide, made BC fun H' dd x e => qe c H' dd (x1.trans x) e⟩
/-! ### fault_of_reading -/
def faultReading (ws marks : List Str) (many : Nat) : Str :=
  match ws with
  | [a, b, c, d, e] =>
    if b ≠ "to" ∨ d ≠ "is" then "unknown line"
    else if a ∉ marks ∨ c ∉ marks then "unknown mark"
    else if a = c then "same mark"
    else if isNum 7 e = false then "not a number"
    else if ¬ (-1000000 ≤ wordNum e ∧ wordNum e ≤ 1000000) then "out of range"
    else if 80 ≤ many then "too many"
    else ""
  | _ => "unknown line"
theorem faultReading_ne {ws marks : List Str} {many : Nat} (h : ws.length ≠ 5) : faultReading ws marks many = "unknown line" := by
  unfold faultReading
  split
  · exact absurd rfl h
  · rfl
theorem five_of {ws : List Str} (h : ws.length = 5) : ∃ a b c d e, ws = [a, b, c, d, e] := by
  match ws, h with
  | [a, b, c, d, e], _ => exact ⟨a, b, c, d, e, rfl⟩
abbrev nFaultReading : List Str := ["words", "marks", "many", "start", "_", "end", "value"]
theorem scFaultReading : FnScope nFaultReading ["words", "marks", "many"] (defScope sFaultOfReading) := ⟨rfl, rfl, rfl, by decide +kernel, rfl, by decide +kernel, by decide +kernel⟩
def spFaultReading (K : PySem.W.Frag) (T : Addr) : Sp := fun vs H Q _ => ∃ (p mp : Addr) (ws ms : List Str) (many : Nat), vs = [.ref p, .ref mp, .int (many : Nat)] ∧ H p = some (.lst (ws.map V.str)) ∧ SqT K H mp (ms.map V.str) ∧ ws.length ≤ 1000 ∧ ms.length ≤ 1000 ∧ (∀ z ∈ ws, z.length ≤ 20000) ∧ GxR.TabG H T ∧ ∀ H', Ext [] H H' → Q (.str (faultReading ws ms many)) H'
theorem ok_faultReading {f T fN fV : Addr} {fd fdN fdV : FuncData} {tk tk2 : Tok} (ml : mg "len" = none) (mi : mg "int" = none) (md : mg "MOST_DIGITS" = some (.int 7 tk)) (mr : mg "MOST_READINGS" = some (.int 80 tk2)) (F : Fun K "fault_of_reading" "fault_of_reading" sFaultOfReading f fd)
    (GN : FnOk P w K mg base CX0 8 fN fdN ["word", "most"] (spIsNumber K T)) (kN : PySem.W.keepIn K (.ref fN) = true) (bN : Binds K fdN ["word", "most"] []) (gN : mg "is_number" = some (.ref fN))
    (GV : FnOk P w K mg base CX0 1 fV fdV ["number"] spIsValue) (kV : PySem.W.keepIn K (.ref fV) = true) (bV : Binds K fdV ["number"] []) (gV : mg "is_value" = some (.ref fV)) :
    FnOk P w K mg base CX0 9 f fd ["words", "marks", "many"] (spFaultReading K T) := by
  have nd := scFaultReading.nd
  refine F.ok scFaultReading (fun vs H Q E h => ?_) (fun cdv A outer s H vs Q E hr h => ?_)
  · obtain ⟨_, _, _, _, _, rfl, _⟩ := h
    rfl
  · obtain ⟨p, mp, ws, ms, many, rfl, ep, em, wl, hml, wb, hT, q⟩ := h
    refine ⟨_, pss_cons (ps_if (PW.pt (pw_or (pt_cmpR op_ne (pe_callB call_len_seq (by rfl) ml PySem.boot_len (pa_cons (pv 0) pa_nil)) pe_int (nomark _)) (pw_or (pt_cmpR op_ne (pe_ix ix_list (pv 0) pe_int (fun _ _ => rfl)) pe_str (nomark _)) (pw_or1 (pt_cmpR op_ne (pe_ix ix_list (pv 0) pe_int (fun _ _ => rfl)) pe_str (nomark _)))))) (pss_one (ps_ret pe_str)) pss_nil)
      (pss_cons (ps_asg (pv 0) (pg_lst rfl (pgs_cons (pg_name (i := 3) nd rfl (.inl rfl)) (pgs_cons (pg_name (i := 4) nd rfl (.inl rfl)) (pgs_cons (pg_name (i := 5) nd rfl (.inl rfl)) (pgs_cons (pg_name (i := 4) nd rfl (.inl rfl)) (pgs_cons (pg_name (i := 6) nd rfl (.inl rfl)) pgs_nil)))))))
      (pss_cons (ps_if (PW.pt (pw_or (pt_cmpR (r := rIn K true) op_notIn_seq (pv 3) (pv 1) (by rfl)) (pw_or1 (pt_cmpR (r := rIn K true) op_notIn_seq (pv 5) (pv 1) (by rfl))))) (pss_one (ps_ret pe_str)) pss_nil)
      (pss_cons (ps_if (pt_cmpR op_eq (pv 3) (pv 5) (nomark _)) (pss_one (ps_ret pe_str)) pss_nil)
      (pss_cons (ps_if (pt_not (pt_val (pe_call GN hr (by rfl) gN kN bN .nil pass0 (pa_cons (pv 6) (pa_cons (pe_glob (v := .int 7) rfl md ⟨_, rfl⟩) pa_nil))))) (pss_one (ps_ret pe_str)) pss_nil)
      (pss_cons (ps_if (pt_not (pt_val (pe_call GV (hr.mono (by decide)) (by rfl) gV kV bV .nil pass0 (pa_cons (pe_callTy call_int_str (by rfl) mi PyProof.Rows.boot_int (pa_cons (pv 6) pa_nil)) pa_nil)))) (pss_one (ps_ret pe_str)) pss_nil)
      (pss_cons (ps_if (pt_cmpR op_ge (pv 2) (pe_glob (v := .int 80) rfl mr ⟨_, rfl⟩) (nomark _)) (pss_one (ps_ret pe_str)) pss_nil)
      (pss_one (ps_ret pe_str)))))))), ?_⟩
    by_cases c0 : ws.length = 5
    rotate_left
    · rw [faultReading_ne c0] at q
      refine ⟨_, rfl, p, _, rfl, .inl (SqL.of ep), rfl, _, rfl, ite2 (fun _ => ?_) (fun z => absurd ?_ z)⟩
      · exact q H .refl
      · rw [decide_eq_false (fun e => c0 (by have := V.int.inj e; rw [List.length_map] at this; omega))]
        rfl
    obtain ⟨w0, w1, w2, w3, w4, rfl⟩ := five_of c0
    have hF : faultReading [w0, w1, w2, w3, w4] ms many = (if w1 ≠ "to" ∨ w3 ≠ "is" then ("unknown line" : Str) else if w0 ∉ ms ∨ w2 ∉ ms then "unknown mark" else if w0 = w2 then "same mark" else if isNum 7 w4 = false then "not a number"
      else if ¬ (-1000000 ≤ wordNum w4 ∧ wordNum w4 ≤ 1000000) then "out of range" else if 80 ≤ many then "too many" else "") := rfl
    generalize faultReading [w0, w1, w2, w3, w4] ms many = res at hF q
    refine ⟨_, rfl, p, _, rfl, .inl (SqL.of ep), rfl, _, rfl, ite2 (fun z => absurd z (by show ¬ (!decide (V.int ((5 : Nat) : Int) = V.int 5)) = true; decide)) (fun _ => ?_)⟩
    refine ⟨_, rfl, p, _, _, _, rfl, rfl, SqL.of ep, atI_nat (j := 1) rfl, rfl, _, rfl, ?_⟩
    by_cases c1 : w1 = "to"
    rotate_left
    · rw [if_pos (.inl c1)] at hF
      refine ite2 (fun z => ?_) (fun z => absurd (by rw [decide_eq_false (fun e => c1 (V.str.inj e))]; rfl) z)
      rw [← hF]
      exact q H .refl
    refine ite2 (fun z => by rw [c1, decide_eq_true rfl] at z; cases z) (fun _ => ?_)
    refine ⟨_, rfl, p, _, _, _, rfl, rfl, SqL.of ep, atI_nat (j := 3) rfl, rfl, _, rfl, ?_⟩
    by_cases c3 : w3 = "is"
    rotate_left
    · rw [if_pos (.inr c3)] at hF
      refine ite2 (fun z => ?_) (fun z => absurd (by rw [decide_eq_false (fun e => c3 (V.str.inj e))]; rfl) z)
      rw [← hF]
      exact q H .refl
    rw [if_neg (by rintro (h | h); exact h c1; exact h c3)] at hF
    refine ite2 (fun z => by rw [c3, decide_eq_true rfl] at z; cases z) (fun _ => ?_)
    refine ⟨_, rfl, p, _, rfl, SqL.of ep, rfl, _, _, rfl, _, _, rfl, _, _, rfl, _, _, rfl, _, _, rfl, rfl, ?_⟩
    refine ⟨_, rfl, _, rfl, mp, _, rfl, .inr em, rfl, flat_strs ms, _, rfl, ?_⟩
    rw [inV_str]
    by_cases c4 : w0 ∈ ms
    rotate_left
    · rw [if_pos (.inl c4)] at hF
      refine ite2 (fun z => ?_) (fun z => absurd (by rw [decide_eq_false c4]; rfl) z)
      rw [← hF]
      exact q H .refl
    refine ite2 (fun z => by rw [decide_eq_true c4] at z; cases z) (fun _ => ?_)
    refine ⟨_, rfl, _, rfl, mp, _, rfl, .inr em, rfl, flat_strs ms, _, rfl, ?_⟩
    rw [inV_str]
    by_cases c5 : w2 ∈ ms
    rotate_left
    · rw [if_pos (.inr c5)] at hF
      refine ite2 (fun z => ?_) (fun z => absurd (by rw [decide_eq_false c5]; rfl) z)
      rw [← hF]
      exact q H .refl
    rw [if_neg (by rintro (h | h); exact h c4; exact h c5)] at hF
    refine ite2 (fun z => by rw [decide_eq_true c5] at z; cases z) (fun _ => ?_)
    refine ⟨_, rfl, _, rfl, rfl, _, rfl, ?_⟩
    by_cases c6 : w0 = w2
    · rw [if_pos c6] at hF
      refine ite2 (fun _ => ?_) (fun z => absurd (by rw [c6, decide_eq_true rfl]) z)
      rw [← hF]
      exact q H .refl
    rw [if_neg c6] at hF
    refine ite2 (fun z => absurd (V.str.inj (of_decide_eq_true z)) c6) (fun _ => ?_)
    have b4 := wb w4 (by simp)
    refine ⟨_, rfl, w4, 7, rfl, by omega, hT, fun H1 x1 => ⟨_, rfl, ?_⟩⟩
    cases c7 : isNum 7 w4 with
    | false =>
      rw [if_pos c7] at hF
      refine iteT ?_
      rw [← hF]
      exact q H1 x1
    | true =>
      rw [if_neg (by rw [c7]; decide)] at hF
      refine iteF ?_
      obtain ⟨n1, n2⟩ := num_ok (most := 7) (by decide) c7
      refine ⟨_, rfl, w4, _, rfl, n1, n2, _, rfl, _, rfl, ?_⟩
      by_cases c8 : -1000000 ≤ wordNum w4 ∧ wordNum w4 ≤ 1000000
      rotate_left
      · rw [if_pos c8] at hF
        refine ite2 (fun _ => ?_) (fun z => absurd (by rw [decide_eq_false c8]; rfl) z)
        rw [← hF]
        exact q H1 x1
      rw [if_neg (by simpa using c8)] at hF
      refine ite2 (fun z => by rw [decide_eq_true c8] at z; cases z) (fun _ => ?_)
      refine ⟨_, rfl, _, _, rfl, rfl, _, rfl, ?_⟩
      by_cases c9 : 80 ≤ many
      · rw [if_pos c9] at hF
        refine ite2 (fun _ => ?_) (fun z => absurd (decide_eq_true (by omega)) z)
        rw [← hF]
        exact q H1 x1
      · rw [if_neg c9] at hF
        refine ite2 (fun z => absurd (of_decide_eq_true z) (by omega)) (fun _ => ?_)
        rw [← hF]
        exact q H1 x1
end
end K2
set_option Elab.async false
set_option linter.all false
set_option maxRecDepth 100000
set_option maxHeartbeats 4000000
namespace K2
open PySem PySem.Spec PyProof.Rows L2 Gx RZ TL
def readR (ws ms : List Str) : Rd3 := (firstAt ms (ws.getD 0 Str.empty), firstAt ms (ws.getD 2 Str.empty), wordNum (ws.getD 4 Str.empty))
theorem faultReading_ok {ws ms : List Str} {many : Nat} (h : faultReading ws ms many = "") : ∃ a b c d e, ws = [a, b, c, d, e] ∧ a ∈ ms ∧ c ∈ ms ∧ a ≠ c ∧ isNum 7 e = true ∧ many < 80 := by
  by_cases hl : ws.length = 5
  rotate_left
  · rw [faultReading_ne hl] at h
    exact absurd h (by decide)
  obtain ⟨a, b, c, d, e, rfl⟩ := five_of hl
  have hF : faultReading [a, b, c, d, e] ms many = (if b ≠ "to" ∨ d ≠ "is" then ("unknown line" : Str) else if a ∉ ms ∨ c ∉ ms then "unknown mark" else if a = c then "same mark" else if isNum 7 e = false then "not a number"
      else if ¬ (-1000000 ≤ wordNum e ∧ wordNum e ≤ 1000000) then "out of range" else if 80 ≤ many then "too many" else "") := rfl
  rw [hF] at h
  split at h
  · exact absurd h (by decide)
  · split at h
    · exact absurd h (by decide)
    · next h2 =>
      split at h
      · exact absurd h (by decide)
      · next h3 =>
        split at h
        · exact absurd h (by decide)
        · next h4 =>
          split at h
          · exact absurd h (by decide)
          · split at h
            · exact absurd h (by decide)
            · next h6 =>
              refine ⟨a, b, c, d, e, rfl, ?_, ?_, h3, ?_, by omega⟩
              · exact Classical.byContradiction fun z => h2 (.inl z)
              · exact Classical.byContradiction fun z => h2 (.inr z)
              · cases hn : isNum 7 e with
                | true => rfl
                | false => exact absurd hn h4
theorem faultReading_len (ws ms : List Str) (many : Nat) : (faultReading ws ms many).length ≤ 14 := by
  by_cases hl : ws.length = 5
  rotate_left
  · rw [faultReading_ne hl]
    decide
  obtain ⟨a, b, c, d, e, rfl⟩ := five_of hl
  show (if b ≠ "to" ∨ d ≠ "is" then ("unknown line" : Str) else if a ∉ ms ∨ c ∉ ms then "unknown mark" else if a = c then "same mark" else if isNum 7 e = false then "not a number"
      else if ¬ (-1000000 ≤ wordNum e ∧ wordNum e ≤ 1000000) then "out of range" else if 80 ≤ many then "too many" else "").length ≤ 14
  split
  · decide
  · split
    · decide
    · split
      · decide
      · split
        · decide
        · split
          · decide
          · split <;> decide
theorem readR_good {ws ms : List Str} {many : Nat} (h : faultReading ws ms many = "") : (readR ws ms).1 < ms.length ∧ (readR ws ms).2.1 < ms.length ∧ (readR ws ms).1 ≠ (readR ws ms).2.1 := by
  obtain ⟨a, b, c, d, e, rfl, ha, hc, hne, _, _⟩ := faultReading_ok h
  obtain ⟨h1, _, h2⟩ := firstAt_ok ha
  obtain ⟨h3, _, h4⟩ := firstAt_ok hc
  refine ⟨h2, h4, fun z => hne ?_⟩
  have z' : firstAt ms a = firstAt ms c := z
  rw [z'] at h1
  exact Option.some.inj (h1.symm.trans h3)
section
variable {P : Program} {w : World} {K : PySem.W.Frag} {mg : Str → Option Value} {base : Heap}
/-! ### reading_of -/
abbrev nReadingOf : List Str := ["words", "marks", "many", "number", "fault"]
theorem scReadingOf : FnScope nReadingOf ["words", "marks", "many", "number"] (defScope sReadingOf) := ⟨rfl, rfl, rfl, by decide +kernel, rfl, by decide +kernel, by decide +kernel⟩
def spReadingOf (K : PySem.W.Frag) (C T : Addr) : Sp := fun vs H Q E => ∃ (p mp : Addr) (ws ms : List Str) (many : Nat) (n : Int), vs = [.ref p, .ref mp, .int (many : Nat), .int n] ∧ H p = some (.lst (ws.map V.str)) ∧ FzT H mp (ms.map V.str) ∧ ws.length ≤ 1000 ∧ ms.length ≤ 1000 ∧ (∀ z ∈ ws, z.length ≤ 20000) ∧ GxR.TabG H T ∧ BadC K C ∧
  (faultReading ws ms many ≠ "" → ∀ H' dd, Ext [] H H' → H' dd = some (.xd [("reason", .str (faultReading ws ms many)), ("line", .int n)]) → E (.ref C) (some dd) H') ∧
  (faultReading ws ms many = "" → ∀ q H', Ext [] H H' → RdAt K H' (.ref q) (readR ws ms) → Q (.ref q) H')
theorem ok_readingOf {f fF fI C T : Addr} {fd fdF fdI : FuncData} (mi : mg "int" = none) (F : Fun K "reading_of" "reading_of" sReadingOf f fd)
    (GF : FnOk P w K mg base CX0 9 fF fdF ["words", "marks", "many"] (spFaultReading K T)) (kF : PySem.W.keepIn K (.ref fF) = true) (bF : Binds K fdF ["words", "marks", "many"] []) (gF : mg "fault_of_reading" = some (.ref fF))
    (FI : Fun K "__init__" "BadNet.__init__" sInit fI fdI) (bI : Binds K fdI ["self", "line", "reason"] []) (iC : PySem.W.findIn K (.ref C) "__init__" = some (some (.ref fI))) (tI : PySem.W.typeIn K (.ref fI) = some (.type "function")) (gC : mg "BadNet" = some (.ref C)) (BC : BadC K C) :
    FnOk P w K mg base (CX P w) 10 f fd ["words", "marks", "many", "number"] (spReadingOf K C T) := by
  have nd := scReadingOf.nd
  have GI : FnOk P w K mg base CX0 1 fI fdI ["self", "line", "reason"] (spInit K C) := ok_init FI
  refine F.okX scReadingOf (fun vs H Q E h => ?_) (fun cdv A outer s H vs Q E hr h => ?_)
  · obtain ⟨_, _, _, _, _, _, rfl, _⟩ := h
    rfl
  · obtain ⟨p, mp, ws, ms, many, n, rfl, ep, em, wl, hml, wb, hT, BC, qe, qo⟩ := h
    refine ⟨_, pss_cons (ps_set (i := 4) nd rfl (.inl rfl) (pe_call GF hr (by rfl) gF kF bF .nil pass0 (pa_cons (pv 0) (pa_cons (pv 1) (pa_cons (pv 2) pa_nil)))))
      (pss_cons (ps_if (pt_truth (pv 4) (by intro _; rfl)) (pss_one (ps_raise rfl (takes_of rfl rfl rfl rfl) (pmk_oex BC.o iC tI GI (hr.mono (by decide)) bI .nil pass0 (by rfl) gC (pa_cons (pv 3) (pa_cons (pv 4) pa_nil))))) pss_nil)
      (pss_one (ps_ret (pe_tup (pa_cons (pe_bmF PySem.F.plainAttrs_tuple PySem.F.slot_tuple_index PySem.F.type_tuple_index mt_tup_index (pv 1) (pa_cons (pe_ix ix_list (pv 0) pe_int (fun _ _ => rfl)) pa_nil)) (pa_cons (pe_bmF PySem.F.plainAttrs_tuple PySem.F.slot_tuple_index PySem.F.type_tuple_index mt_tup_index (pv 1) (pa_cons (pe_ix ix_list (pv 0) pe_int (fun _ _ => rfl)) pa_nil))
        (pa_cons (pe_callTy call_int_str (by rfl) mi PyProof.Rows.boot_int (pa_cons (pe_ix ix_list (pv 0) pe_int (fun _ _ => rfl)) pa_nil)) pa_nil))))))), ?_⟩
    have fl := faultReading_len ws ms many
    have hok := @faultReading_ok ws ms many
    refine ⟨_, rfl, _, rfl, _, rfl, p, mp, ws, ms, many, rfl, ep, em.sq, wl, hml, wb, hT, fun H1 x1 => ?_⟩
    generalize faultReading ws ms many = fm at fl qe qo hok ⊢
    refine ⟨_, rfl, _, ⟨by show _ ≤ 2 ^ 24; omega, rfl⟩, ?_⟩
    by_cases c : fm = ""
    rotate_left
    · have hc : fm.length ≠ 0 := fun z => c (str_len0 z)
      refine ite2 (fun _ => ?_) (fun z => absurd (by rw [bne_iff_ne]; omega) z)
      exact ⟨_, rfl, _, rfl, by show 2 ≤ 1000; decide, made BC fun H' dd x e => qe c H' dd (x1.trans x) e⟩
    obtain ⟨a, b, c2, d, e, rfl, ha, hc, _, hn, _⟩ := hok c
    subst c
    refine ite2 (fun z => absurd z (by decide)) (fun _ => ?_)
    have ep1 := x1.lst ep (by simp)
    have em1 := em.ext x1
    obtain ⟨a1, a2, a3⟩ := firstAt_ok ha
    obtain ⟨c1, c3, c4⟩ := firstAt_ok hc
    obtain ⟨n1, n2⟩ := num_ok (most := 7) (by decide) hn
    refine ⟨_, rfl, ⟨mp, _, rfl, em1⟩, _, rfl, p, _, _, _, rfl, rfl, SqL.of ep1, atI_nat (j := 0) rfl, mp, ms, a, _, rfl, rfl, em1.sq, a1, a2, ?_⟩
    refine ⟨_, rfl, ⟨mp, _, rfl, em1⟩, _, rfl, p, _, _, _, rfl, rfl, SqL.of ep1, atI_nat (j := 2) rfl, mp, ms, c2, _, rfl, rfl, em1.sq, c1, c3, ?_⟩
    refine ⟨_, rfl, p, _, _, _, rfl, rfl, SqL.of ep1, atI_nat (j := 4) rfl, e, _, rfl, n1, n2, by show 3 ≤ sizeLine; decide, fun t ht => ?_⟩
    exact qo rfl t _ (x1.trans (.new ht)) ⟨t, rfl, .inl (.inl upd_same)⟩
end
/-! ### what parse reads -/
abbrev St2 := List Str × List Rd3
def stepP (n : Int) (line : Str) (st : St2) : Except (Int × Str) St2 :=
  if wordsOf line = [] then .ok st
  else if st.1 = [] then (if faultMarks (wordsOf line) ≠ "" then .error (n, faultMarks (wordsOf line)) else .ok ((wordsOf line).drop 1, st.2))
  else if faultReading (wordsOf line) st.1 st.2.length ≠ "" then .error (n, faultReading (wordsOf line) st.1 st.2.length) else .ok (st.1, st.2 ++ [readR (wordsOf line) st.1])
def loopP : Nat → List Str → St2 → Except (Int × Str) St2
  | _, [], st => .ok st
  | i, line :: r, st => match stepP ((i : Nat) + 1) line st with
    | .error e => .error e
    | .ok st' => loopP (i + 1) r st'
noncomputable def finP (text : Str) : Except (Int × Str) St2 → Except (Int × Str) St2
  | .error e => .error e
  | .ok st => if st.1 = [] then .error (Txt.count text "\n" + 1, "marks expected") else if joinedR st.2 st.1.length = false then .error (0, "not joined") else .ok st
noncomputable def parseR (text : Str) : Except (Int × Str) St2 :=
  if allowed text = false then .error (1, "text not allowed") else finP text (loopP 0 (Txt.split text "\n") ([], []))
/-- what is kept on the way -/
structure Way (st : St2) : Prop where
  l1 : st.1.length ≤ 16
  l2 : st.2.length ≤ 80
  good : Gx.Good st.1.length st.2
  emp : st.1 = [] → st.2 = []
theorem way0 : Way ([], []) := ⟨by decide, by decide, (fun r h => by cases h), fun _ => rfl⟩
theorem way_step {n : Int} {line : Str} {st st' : St2} (W : Way st) (h : stepP n line st = .ok st') : Way st' := by
  unfold stepP at h
  split at h
  · cases h; exact W
  · split at h
    · next he =>
      split at h
      · cases h
      · next hf =>
        cases h
        have hf2 : faultMarks (wordsOf line) = "" := Classical.byContradiction fun z => hf z
        have hl : ((wordsOf line).drop 1).length ≤ 16 := by
          unfold faultMarks at hf2
          split at hf2
          · exact absurd hf2 (by decide)
          · split at hf2
            · exact absurd hf2 (by decide)
            · split at hf2
              · exact absurd hf2 (by decide)
              · split at hf2
                · exact absurd hf2 (by decide)
                · omega
        have e2 := W.emp he
        refine ⟨hl, W.l2, ?_, fun _ => e2⟩
        show Gx.Good _ st.2
        rw [e2]
        exact fun r h => by cases h
    · next he =>
      split at h
      · cases h
      · next hf =>
        cases h
        have hf2 : faultReading (wordsOf line) st.1 st.2.length = "" := Classical.byContradiction fun z => hf z
        obtain ⟨_, _, _, _, _, _, _, _, _, _, hm⟩ := faultReading_ok hf2
        have g := readR_good hf2
        refine ⟨W.l1, by show (st.2 ++ [_]).length ≤ 80; rw [List.length_append, List.length_singleton]; omega, fun r hr => ?_, fun z => absurd z he⟩
        rcases List.mem_append.mp hr with hr | hr
        · exact W.good r hr
        · rw [List.mem_singleton.mp hr]
          exact g
end K2
set_option Elab.async false
set_option linter.all false
set_option maxRecDepth 100000
set_option maxHeartbeats 4000000
namespace Gx
open PySem PySem.Spec PyProof.Rows L2 RZ
/-! ### pairs and nets, as the later laws make them -/
abbrev Pr2 := Nat × Nat
def PrAt (K : PySem.W.Frag) (H : Hp) (v : V) (q : Pr2) : Prop := ∃ p, v = .ref p ∧ SqT K H p [.int q.1, .int q.2]
theorem PrAt.ext {K : PySem.W.Frag} {H H1 : Hp} {c : List Addr} {v : V} {q : Pr2} (h : PrAt K H v q) (x : Ext c H H1) : PrAt K H1 v q := let ⟨p, e, z⟩ := h; ⟨p, e, x.sqT z⟩
def GoodP (n : Nat) (ps : List Pr2) : Prop := ∀ q ∈ ps, q.1 < n ∧ q.2 < n ∧ q.1 ≠ q.2
def LinkP (ps : List Pr2) (n : Nat) : Prop := ∀ k, 1 ≤ k → k < n → ∃ q ∈ ps, (q.1 = k ∧ q.2 < k) ∨ (q.2 = k ∧ q.1 < k)
def insAt {α : Type} (xs : List α) (i : Nat) (x : α) : List α := xs.take i ++ [x] ++ xs.drop i
theorem mem_insAt {α : Type} {xs : List α} {i : Nat} {x y : α} : y ∈ insAt xs i x ↔ y = x ∨ y ∈ xs := by
  unfold insAt
  rw [List.mem_append, List.mem_append, List.mem_singleton]
  constructor
  · rintro ((h | h) | h)
    · exact .inr (List.mem_of_mem_take h)
    · exact .inl h
    · exact .inr (List.mem_of_mem_drop h)
  · rintro (h | h)
    · exact .inl (.inr h)
    · rw [← List.take_append_drop i xs, List.mem_append] at h
      rcases h with h | h
      · exact .inl (.inl h)
      · exact .inr h
theorem insAt_length {α : Type} (xs : List α) (i : Nat) (x : α) : (insAt xs i x).length = xs.length + 1 := by
  unfold insAt
  rw [List.length_append, List.length_append, List.length_take, List.length_drop, List.length_singleton]
  omega
theorem pr_insAt {α β : Type} {F : α → β → Prop} {a : List α} {b : List β} {x : α} {y : β} (i : Nat) (h : Paired F a b) (e : F x y) : Paired F (insAt a i x) (insAt b i y) :=
  pr_app (pr_app (pr_take i h) (.cons e .nil)) (pr_drop i h)
theorem pr_set {α β : Type} {F : α → β → Prop} : ∀ {a : List α} {b : List β} (i : Nat) {x : α} {y : β}, Paired F a b → F x y → Paired F (a.set i x) (b.set i y)
  | _, _, _, _, _, .nil, _ => .nil
  | _, _, 0, _, _, .cons _ t, e => .cons e t
  | _, _, i + 1, _, _, .cons r t, e => .cons r (pr_set i t e)
theorem pr_snoc {α β : Type} {F : α → β → Prop} {a : List α} {b : List β} {x : α} {y : β} (h : Paired F a b) (e : F x y) : Paired F (a ++ [x]) (b ++ [y]) := pr_app h (.cons e .nil)
theorem GoodP.ins {n i : Nat} {ps : List Pr2} {q : Pr2} (h : GoodP n ps) (e : q.1 < n ∧ q.2 < n ∧ q.1 ≠ q.2) : GoodP n (insAt ps i q) := fun r hr => by
  rcases mem_insAt.mp hr with rfl | hr
  · exact e
  · exact h r hr
theorem GoodP.mono {n m : Nat} {ps : List Pr2} (h : GoodP n ps) (e : n ≤ m) : GoodP m ps := fun r hr => let ⟨a, b, c⟩ := h r hr; ⟨by omega, by omega, c⟩
theorem LinkP.ins {n i : Nat} {ps : List Pr2} {q : Pr2} (h : LinkP ps n) : LinkP (insAt ps i q) n := fun k h1 h2 => let ⟨r, hr, e⟩ := h k h1 h2; ⟨r, mem_insAt.mpr (.inr hr), e⟩
theorem LinkP.step {n i : Nat} {ps : List Pr2} {q : Pr2} (h : LinkP ps n) (e : (q.1 = n ∧ q.2 < n) ∨ (q.2 = n ∧ q.1 < n)) : LinkP (insAt ps i q) (n + 1) := fun k h1 h2 => by
  by_cases hk : k = n
  · exact ⟨q, mem_insAt.mpr (.inl rfl), by rw [hk]; exact e⟩
  · exact h.ins k h1 (by omega)
/-- a net at p: its names, its readings -/
def NetV (K : PySem.W.Frag) (H : Hp) (p : Addr) (ms : List Str) (rs : List Rd3) : Prop := ∃ mp rp vs, SqT K H p [.str "net", .ref mp, .ref rp] ∧ SqT K H mp (ms.map V.str) ∧ SqT K H rp vs ∧ Paired (RdAt K H) vs rs
theorem NetV.ext {K : PySem.W.Frag} {H H1 : Hp} {c : List Addr} {p : Addr} {ms : List Str} {rs : List Rd3} (h : NetV K H p ms rs) (x : Ext c H H1) : NetV K H1 p ms rs :=
  let ⟨mp, rp, vs, a, b, d, e⟩ := h; ⟨mp, rp, vs, x.sqT a, x.sqT b, x.sqT d, L2.Paired.mapP e fun _ _ k => k.ext x⟩
theorem rds_of {K : PySem.W.Frag} {H : Hp} {p : Addr} {vs : List V} {rs : List Rd3} (h : SqT K H p vs) (e : Paired (RdAt K H) vs rs) : RdsAt K H p rs := ⟨vs, h, Paired.length e, fun i r hr => pr_at e i r hr⟩
theorem NetV.at {K : PySem.W.Frag} {H : Hp} {p : Addr} {ms : List Str} {rs : List Rd3} (h : NetV K H p ms rs) : NetAt K H p ms rs :=
  let ⟨mp, rp, vs, a, b, d, e⟩ := h; ⟨mp, rp, a, b, rds_of d e⟩
/-- values within B -/
def ValB (B : Int) (rs : List Rd3) : Prop := ∀ r ∈ rs, -B ≤ r.2.2 ∧ r.2.2 ≤ B
/-- the readings' ends -/
def ends (rs : List Rd3) : List Pr2 := rs.map fun r => (r.1, r.2.1)
def keptR (hs : List Int) (q : Pr2) : Rd3 := (q.1, q.2, hs.getD q.2 0 - hs.getD q.1 0)
theorem ends_kept (hs : List Int) (ps : List Pr2) : ends (ps.map (keptR hs)) = ps := by
  unfold ends
  rw [List.map_map]
  exact List.map_id' ps
/-- one reading's value changed by m -/
def chg1 (rs : List Rd3) (q : Nat × Int) : List Rd3 := rs.set q.1 ((rs.getD q.1 (0, 0, 0)).1, (rs.getD q.1 (0, 0, 0)).2.1, (rs.getD q.1 (0, 0, 0)).2.2 + q.2)
def chg (rs : List Rd3) (rows : List (Nat × Int)) : List Rd3 := rows.foldl chg1 rs
theorem chg1_length (rs : List Rd3) (q : Nat × Int) : (chg1 rs q).length = rs.length := by unfold chg1; rw [List.length_set]
theorem ends_chg1 (rs : List Rd3) (q : Nat × Int) : ends (chg1 rs q) = ends rs := by
  unfold chg1 ends
  rw [List.map_set]
  by_cases h : q.1 < rs.length
  · have e : rs.getD q.1 (0, 0, 0) = rs[q.1] := by rw [List.getD_eq_getElem?_getD, List.getElem?_eq_getElem h]; rfl
    rw [e]
    refine List.ext_getElem (by rw [List.length_set]) fun i h1 h2 => ?_
    rw [List.getElem_set]
    split
    · rename_i z
      subst z
      rw [List.getElem_map]
    · rfl
  · rw [List.set_eq_of_length_le (by rw [List.length_map]; omega)]
theorem ends_chg (rows : List (Nat × Int)) : ∀ rs, ends (chg rs rows) = ends rs := by
  induction rows with
  | nil => intro rs; rfl
  | cons q r ih =>
    intro rs
    show ends (chg (chg1 rs q) r) = _
    rw [ih, ends_chg1]
theorem chg_length (rs : List Rd3) (rows : List (Nat × Int)) : (chg rs rows).length = rs.length := by
  have := congrArg List.length (ends_chg rows rs)
  unfold ends at this
  rwa [List.length_map, List.length_map] at this
theorem getD_mem3 {rs : List Rd3} {i : Nat} (h : i < rs.length) : rs.getD i (0, 0, 0) ∈ rs := by
  rw [List.getD_eq_getElem?_getD, List.getElem?_eq_getElem h]
  exact List.getElem_mem h
theorem ValB.chg1 {B C : Int} {rs : List Rd3} {q : Nat × Int} (h : ValB B rs) (hC : 0 ≤ C) (e : -C ≤ q.2 ∧ q.2 ≤ C) : ValB (B + C) (Gx.chg1 rs q) := fun r hr => by
  unfold Gx.chg1 at hr
  rcases List.mem_or_eq_of_mem_set hr with hr | rfl
  · have := h r hr
    omega
  · by_cases hl : q.1 < rs.length
    · have := h _ (getD_mem3 hl)
      dsimp only
      omega
    · rw [List.set_eq_of_length_le (by omega)] at hr
      have := h _ hr
      dsimp only at this ⊢
      omega
theorem good_ends {n : Nat} {rs : List Rd3} : Good n rs ↔ GoodP n (ends rs) := by
  unfold Good GoodP ends
  constructor
  · intro h q hq
    obtain ⟨r, hr, rfl⟩ := List.mem_map.mp hq
    exact h r hr
  · intro h r hr
    exact h (r.1, r.2.1) (List.mem_map.mpr ⟨r, hr, rfl⟩)
end Gx
set_option Elab.async false
set_option linter.all false
set_option maxRecDepth 100000
set_option maxHeartbeats 4000000
namespace K2
open PySem PySem.Spec PyProof.Rows L2 Gx RZ TL
/-! ### the words are no longer than the line -/
theorem wfold_bound (B : Nat) : ∀ (l : List Nat) (st : List (List Nat) × List Nat), (∀ p ∈ st.1, p.length ≤ B) → st.2.length + l.length ≤ B → ∀ p ∈ wfin (l.foldl wstep st), p.length ≤ B
  | [], st, h1, h2, p, hp => by
    unfold wfin at hp
    split at hp
    · exact h1 p hp
    · rcases List.mem_append.mp hp with hp | hp
      · exact h1 p hp
      · rw [List.mem_singleton.mp hp]
        have : ([] : List Nat).length = 0 := rfl
        simp only [List.foldl_nil]
        omega
  | c :: l, st, h1, h2, p, hp => by
    rw [List.foldl_cons] at hp
    rw [List.length_cons] at h2
    refine wfold_bound B l (wstep st c) ?_ ?_ p hp
    · unfold wstep
      split
      · split
        · exact h1
        · intro q hq
          rcases List.mem_append.mp hq with hq | hq
          · exact h1 q hq
          · rw [List.mem_singleton.mp hq]
            omega
      · exact h1
    · unfold wstep
      split
      · split
        · omega
        · show ([] : List Nat).length + l.length ≤ B
          simp only [List.length_nil]
          omega
      · show (st.2 ++ [c]).length + l.length ≤ B
        rw [List.length_append, List.length_singleton]
        omega
theorem words_bound {x z : Str} (h : z ∈ Txt.words x) : z.length ≤ x.length := by
  have e := words_tl x
  have : tl z ∈ (Txt.words x).map tl := List.mem_map.mpr ⟨z, h, rfl⟩
  rw [e] at this
  have h2 := wfold_bound x.length (tl x) ([], []) (fun p hp => by cases hp) (by rw [tl_len]; simp) _ this
  rwa [tl_len] at h2
theorem cutW_mem : ∀ {xs : List Str} {z : Str}, z ∈ cutW xs → z ∈ xs
  | x :: xs, z, h => by
    unfold cutW at h
    split at h
    · cases h
    · rcases List.mem_cons.mp h with rfl | h
      · exact List.mem_cons_self
      · exact List.mem_cons_of_mem _ (cutW_mem h)
theorem wordsOf_bound {x z : Str} (h : z ∈ wordsOf x) : z.length ≤ x.length := words_bound (cutW_mem h)
section
variable {P : Program} {w : World} {K : PySem.W.Frag} {mg : Str → Option Value} {base : Heap}
/-! ### parse -/
abbrev nParse : List Str := ["text", "marks", "readings", "number", "line", "words"]
theorem scParse : FnScope nParse ["text"] (defScope sParse) := ⟨rfl, rfl, rfl, by decide +kernel, rfl, by decide +kernel, by decide +kernel⟩
structure Tabs5 (H : Hp) (T1 T2 T3 T4 T5 : Addr) : Prop where
  t1 : GxR.TabG H T1
  t2 : GxR.TabG H T2
  t3 : GxR.TabG H T3
  t4 : GxR.TabG H T4
  t5 : GxR.TabG H T5
theorem Tabs5.ext {c : List Addr} {H H1 : Hp} {T1 T2 T3 T4 T5 : Addr} (t : Tabs5 H T1 T2 T3 T4 T5) (x : Ext c H H1) : Tabs5 H1 T1 T2 T3 T4 T5 := ⟨x.tab _ t.t1, x.tab _ t.t2, x.tab _ t.t3, x.tab _ t.t4, x.tab _ t.t5⟩
def spParse (K : PySem.W.Frag) (C T1 T2 T3 T4 T5 : Addr) : Sp := fun vs H Q E => ∃ text : Str, vs = [.str text] ∧ text.length ≤ 1000000 ∧ (∀ line ∈ Txt.split text "\n", (wordsOf line).length ≤ 1000) ∧ Tabs5 H T1 T2 T3 T4 T5 ∧ BadC K C ∧
  (∀ n r, parseR text = .error (n, r) → ∀ H' dd, Ext [] H H' → H' dd = some (.xd [("reason", .str r), ("line", .int n)]) → E (.ref C) (some dd) H') ∧
  (∀ ms rs, parseR text = .ok (ms, rs) → ∀ q H', Ext [] H H' → NetAt K H' q ms rs → Q (.ref q) H')
theorem loopP_step {i : Nat} {line : Str} {r : List Str} {st st' : St2} (h : stepP ((i : Nat) + 1) line st = .ok st') : loopP i (line :: r) st = loopP (i + 1) r st' := by
  rw [loopP, h]
theorem loopP_err {i : Nat} {line : Str} {r : List Str} {st : St2} {e : Int × Str} (h : stepP ((i : Nat) + 1) line st = .error e) : loopP i (line :: r) st = .error e := by
  rw [loopP, h]
theorem ok_parse {f fA fW fM fR fJ fI C T1 T2 T3 T4 T5 : Addr} {fd fdA fdW fdM fdR fdJ fdI : FuncData} (ml : mg "len" = none) (me : mg "enumerate" = none) (mt : mg "tuple" = none) (F : Fun K "parse" "parse" sParse f fd)
    (GA : FnOk P w K mg base CX0 8 fA fdA ["text"] (spAllowed K T1)) (kA : PySem.W.keepIn K (.ref fA) = true) (bA : Binds K fdA ["text"] []) (gA : mg "is_allowed" = some (.ref fA))
    (GW : FnOk P w K mg base CX0 1 fW fdW ["line"] spWordsOf) (kW : PySem.W.keepIn K (.ref fW) = true) (bW : Binds K fdW ["line"] []) (gW : mg "words_of" = some (.ref fW))
    (GM : FnOk P w K mg base (CX P w) 13 fM fdM ["words", "number"] (spMarksOf K C T2 T3)) (kM : PySem.W.keepIn K (.ref fM) = true) (bM : Binds K fdM ["words", "number"] []) (gM : mg "marks_of" = some (.ref fM))
    (GR : FnOk P w K mg base (CX P w) 10 fR fdR ["words", "marks", "many", "number"] (spReadingOf K C T4)) (kR : PySem.W.keepIn K (.ref fR) = true) (bR : Binds K fdR ["words", "marks", "many", "number"] []) (gR : mg "reading_of" = some (.ref fR))
    (GJ : FnOk P w K mg base CX0 9 fJ fdJ ["marks", "readings"] (spJoined K T5)) (kJ : PySem.W.keepIn K (.ref fJ) = true) (bJ : Binds K fdJ ["marks", "readings"] []) (gJ : mg "is_joined" = some (.ref fJ))
    (FI : Fun K "__init__" "BadNet.__init__" sInit fI fdI) (bI : Binds K fdI ["self", "line", "reason"] []) (iC : PySem.W.findIn K (.ref C) "__init__" = some (some (.ref fI))) (tI : PySem.W.typeIn K (.ref fI) = some (.type "function")) (gC : mg "BadNet" = some (.ref C)) (BC : BadC K C) :
    FnOk P w K mg base (CX P w) 14 f fd ["text"] (spParse K C T1 T2 T3 T4 T5) := by
  have nd := scParse.nd
  have GI : FnOk P w K mg base CX0 1 fI fdI ["self", "line", "reason"] (spInit K C) := ok_init FI
  refine F.okX scParse (fun vs H Q E h => ?_) (fun cdv A outer s H vs Q E hr h => ?_)
  · obtain ⟨_, rfl, _⟩ := h
    rfl
  · obtain ⟨text, rfl, htx, hwl, hT, BC, qe, qo⟩ := h
    apply Exists.intro
    refine And.intro ?hb ?hc
    case hb =>
      apply pss_cons
      · exact ps_if (pt_not (pt_val (pe_call GA (hr.mono (by decide)) (by rfl) gA kA bA .nil pass0 (pa_cons (pv 0) pa_nil)))) (pss_one (ps_raise rfl (takes_of rfl rfl rfl rfl) (pmk_oex BC.o iC tI GI (hr.mono (by decide)) bI .nil pass0 (by rfl) gC (pa_cons pe_int (pa_cons pe_str pa_nil))))) pss_nil
      apply pss_cons
      · exact ps_set (i := 1) nd rfl (.inl rfl) (pe_tup pa_nil)
      apply pss_cons
      · exact ps_set (i := 2) nd rfl (.inl rfl) (pe_lst pa_nil)
      apply pss_cons
      · apply ps_for (passes_of rfl) rfl (pi_enumS (by rfl) me (pa_cons (pe_split (pv 0) pe_str) pa_nil) (pk_cons pe_int pk_nil)) (pg_tup rfl (pgs_cons (pg_name (i := 3) nd rfl (.inl rfl)) (pgs_cons (pg_name (i := 4) nd rfl (.inl rfl)) pgs_nil)))
        apply pss_cons
        · exact ps_set (i := 5) nd rfl (.inl rfl) (pe_call GW (hr.mono (by decide)) (by rfl) gW kW bW .nil pass0 (pa_cons (pv 4) pa_nil))
        exact pss_one (ps_if (PW.pt (pw_and (pt_truth (pv 5) (by intro _; rfl)) (pw_and1 (pt_not (pt_truth (pv 1) (by intro _; rfl))))))
          (pss_one (ps_set (i := 1) nd rfl (.inl rfl) (pe_call GM hr (by rfl) gM kM bM .nil (passes_call (takes_of rfl rfl rfl rfl) (fun _ _ _ _ h => h)) (pa_cons (pv 5) (pa_cons (pv 3) pa_nil)))))
          (pss_one (ps_if (pt_truth (pv 5) (by intro _; rfl)) (pss_one (ps_expr (pe_bm PySem.F.plainAttrs_list PySem.F.slot_list_append PySem.F.type_list_append mt_append (pv 2) (pa_cons (pe_call GR (hr.mono (by decide)) (by rfl) gR kR bR .nil (passes_call (takes_of rfl rfl rfl rfl) (fun _ _ _ _ h => h))
            (pa_cons (pv 5) (pa_cons (pv 1) (pa_cons (pe_callB call_len_seq (by rfl) ml PySem.boot_len (pa_cons (pv 2) pa_nil)) (pa_cons (pv 3) pa_nil))))) pa_nil)))) pss_nil)))
      apply pss_cons
      · exact ps_if (pt_not (pt_truth (pv 1) (by intro _; rfl))) (pss_one (ps_raise rfl (takes_of rfl rfl rfl rfl) (pmk_oex BC.o iC tI GI (hr.mono (by decide)) bI .nil pass0 (by rfl) gC (pa_cons (pe_op op_add (pe_m1 PySem.F.slot_str_count PySem.F.type_str_count mt_count (pv 0) pe_str) pe_int) (pa_cons pe_str pa_nil))))) pss_nil
      apply pss_cons
      · exact ps_if (pt_not (pt_val (pe_call GJ (hr.mono (by decide)) (by rfl) gJ kJ bJ .nil pass0 (pa_cons (pv 1) (pa_cons (pv 2) pa_nil))))) (pss_one (ps_raise rfl (takes_of rfl rfl rfl rfl) (pmk_oex BC.o iC tI GI (hr.mono (by decide)) bI .nil pass0 (by rfl) gC (pa_cons pe_int (pa_cons pe_str pa_nil))))) pss_nil
      exact pss_one (ps_ret (pe_tup (pa_cons pe_str (pa_cons (pv 1) (pa_cons (pe_callTy call_tuple_of (by rfl) mt PyProof.Rows.boot_tuple (pa_cons (pv 2) pa_nil)) pa_nil)))))
    case hc =>
      refine ⟨_, rfl, text, rfl, htx, hT.t1, fun H1 x1 => ⟨_, rfl, ?_⟩⟩
      cases hal : allowed text with
      | false =>
        refine iteT ?_
        exact ⟨by show 2 ≤ 1000; decide, made BC fun H' dd x e => qe 1 _ (by unfold parseR; rw [if_pos hal]) H' dd (x1.trans x) e⟩
      | true =>
        refine iteF ?_
        have hP : parseR text = finP text (loopP 0 (Txt.split text "\n") ([], [])) := by
          unfold parseR
          rw [if_neg (by rw [hal]; decide)]
        have hlen : text.length ≤ 10000 := by
          unfold allowed at hal
          rw [Bool.and_eq_true, decide_eq_true_eq] at hal
          exact hal.1
        refine ⟨by decide, fun m0 hm0 => ?_⟩
        have x2 : Ext [] H1 (upd H1 m0 (.tup [])) := .new hm0
        have e2 : SqT K (upd H1 m0 (.tup [])) m0 [] := .inl (.inl upd_same)
        generalize (upd H1 m0 (.tup [])) = H2 at x2 e2 ⊢
        refine ⟨by decide, fun D hD => ?_⟩
        have x3 : Ext [] H2 (upd H2 D (.lst [])) := .new hD
        have e3 : (upd H2 D (.lst [])) D = some (.lst []) := upd_same
        have hD0 : H D = none := x1.dom D (x2.dom D hD)
        generalize (upd H2 D (.lst [])) = H3 at x3 e3 ⊢
        obtain ⟨wl, wp, wne⟩ := split_bound text 10 (by decide)
        have wl' : (Txt.split text "\n").length ≤ text.length + 1 := wl
        have wp' : ∀ p ∈ Txt.split text "\n", p.length ≤ text.length := wp
        clear wl wp wne
        refine ⟨_, rfl, ⟨_, rfl⟩, _, _, rfl, rfl, by decide, by show _ ≤ 2 ^ 24; omega, fun pl hpl => ?_⟩
        generalize Txt.split text "\n" = ls at hwl wl' wp' hP ⊢
        have x4 : Ext [] H3 (upd H3 pl (.lst (ls.map V.str))) := .new hpl
        have e4 : (upd H3 pl (.lst (ls.map V.str))) pl = some (.lst (ls.map V.str)) := upd_same
        have e34 := x4.lst e3 (by simp)
        have nplD : pl ≠ D := (ne_of_none e3 hpl).symm
        have x04 := ((x1.trans x2).trans x3).trans x4
        have em4 := (x3.trans x4).sqT e2
        generalize (upd H3 pl (.lst (ls.map V.str))) = H4 at x4 e4 e34 x04 em4 ⊢
        refine ⟨pl, _, 1, rfl, rfl, SqL.of e4, by decide, by decide, ?_⟩
        refine for_enumS (xs := ls.map V.str) (fun i σ H5 => ∃ (mp : Addr) (y3 y4 y5 : Option V) (st : St2) (us : List V), σ = [some (.str text), some (.ref mp), some (.ref D), y3, y4, y5] ∧ Ext [] H H5 ∧ SqT K H5 mp (st.1.map V.str) ∧ (st.1 ≠ [] → FzT H5 mp (st.1.map V.str)) ∧
            H5 D = some (.lst us) ∧ Paired (RdAt K H5) us st.2 ∧ H5 pl = some (.lst (ls.map V.str)) ∧ Way st ∧ loopP 0 ls ([], []) = loopP i (ls.drop i) st)
          ⟨m0, _, _, _, ([], []), [], rfl, x04, em4, fun z => absurd rfl z, e34, .nil, e4, way0, rfl⟩ (fun i σ H5 h5 => let ⟨_, _, _, _, _, _, _, _, _, _, _, _, e, _⟩ := h5; SqL.of e) (fun i v T σ H5 hv h5 hT5 => ?_) (fun σ H5 h5 => ?_)
        · obtain ⟨mp, y3, y4, y5, st, us, rfl, x5, em, ez, eD, pr, epl, W, hloop⟩ := h5
          obtain ⟨hi, rfl⟩ := map_itemS hv
          have hline := List.getElem_mem hi
          have hll := wp' _ hline
          have hw1 := hwl _ hline
          have hd : ls.drop i = ls[i] :: ls.drop (i + 1) := List.drop_eq_getElem_cons hi
          rw [hd] at hloop
          have x6 : Ext [] H5 (upd H5 T (.tup [.int ((i : Nat) + 1), .str ls[i]])) := .new hT5
          have eT : (upd H5 T (.tup [.int ((i : Nat) + 1), .str ls[i]])) T = some (.tup [.int ((i : Nat) + 1), .str ls[i]]) := upd_same
          generalize (upd H5 T (.tup [.int ((i : Nat) + 1), .str ls[i]])) = H6 at x6 eT ⊢
          refine ⟨T, _, rfl, .inl (.inl eT), rfl, _, _, rfl, _, _, rfl, rfl, ?_⟩
          refine ⟨_, rfl, ls[i], rfl, by omega, fun pw H7 x7 hpw epw => ?_⟩
          have x57 := x6.trans x7
          have eD7 := x57.lst eD (by simp)
          have epl7 := x57.lst epl (by simp)
          have em7 := x57.sqT em
          have pr7 : Paired (RdAt K H7) us st.2 := L2.Paired.mapP pr fun _ _ k => k.ext x57
          have x07 := x5.trans x57
          have hTn := hT.ext x07
          have wb : ∀ z ∈ wordsOf ls[i], z.length ≤ 20000 := fun z hz => by have := wordsOf_bound hz; omega
          have hst : stepP ((i : Nat) + 1) ls[i] st = (if wordsOf ls[i] = [] then .ok st
            else if st.1 = [] then (if faultMarks (wordsOf ls[i]) ≠ "" then .error (((i : Nat) : Int) + 1, faultMarks (wordsOf ls[i])) else .ok ((wordsOf ls[i]).drop 1, st.2))
            else if faultReading (wordsOf ls[i]) st.1 st.2.length ≠ "" then .error (((i : Nat) : Int) + 1, faultReading (wordsOf ls[i]) st.1 st.2.length) else .ok (st.1, st.2 ++ [readR (wordsOf ls[i]) st.1])) := rfl
          have wstp : ∀ st', stepP ((i : Nat) + 1) ls[i] st = .ok st' → Way st' := fun st' h => way_step W h
          have bad : ∀ r, stepP ((i : Nat) + 1) ls[i] st = .error (((i : Nat) : Int) + 1, r) → ∀ H' dd, Ext [] H7 H' → H' dd = some (.xd [("reason", .str r), ("line", .int (((i : Nat) : Int) + 1))]) → E (.ref C) (some dd) H' := fun r h H' dd x e =>
            qe _ r (by rw [hP, hloop, loopP_err h]; rfl) H' dd (x07.trans x) e
          have go : ∀ st', stepP ((i : Nat) + 1) ls[i] st = .ok st' → loopP 0 ls ([], []) = loopP (i + 1) (ls.drop (i + 1)) st' := fun st' h => by rw [hloop, loopP_step h]
          generalize wordsOf ls[i] = ws at epw hw1 wb hst
          clear hloop
          generalize stepP ((i : Nat) + 1) ls[i] st = stp at hst wstp bad go
          refine ⟨_, rfl, _, .inl ⟨_, SqL.of epw, rfl⟩, ?_⟩
          cases ws with
          | nil =>
            rw [if_pos rfl] at hst
            refine iteF ?_
            refine ⟨_, rfl, _, .inl ⟨_, SqL.of epw, rfl⟩, iteF ?_⟩
            exact ⟨mp, _, _, _, st, us, rfl, x07, em7, fun z => (ez z).ext x57, eD7, pr7, epl7, W, go st hst⟩
          | cons w0 wr =>
          generalize hws : w0 :: wr = ws at *
          have wne : ws ≠ [] := by rw [← hws]; simp
          rw [if_neg wne] at hst
          refine ite2 (fun _ => ?_) (fun z => absurd (by rw [← hws]; rfl) z)
          refine ⟨_, rfl, _, .inr (.inl ⟨_, em7, rfl⟩), ?_⟩
          by_cases cm : st.1 = []
          · rw [if_pos cm] at hst
            refine ite2 (fun _ => ?_) (fun z => absurd (by rw [cm]; rfl) z)
            refine ⟨_, rfl, _, rfl, pw, ws, _, rfl, epw, wne, hw1, wb, hTn.t2, hTn.t3, BC, fun hf H8 dd x8 e8 => ?_, fun hf q8 H8 x8 e8 => ?_⟩
            · rw [if_pos hf] at hst
              exact bad _ hst H8 dd x8 e8
            · rw [if_neg (by simpa using hf)] at hst
              exact ⟨q8, _, _, _, (ws.drop 1, st.2), us, rfl, x07.trans x8, e8.sq, fun _ => e8, x8.lst eD7 (by simp), L2.Paired.mapP pr7 (fun _ _ k => k.ext x8), x8.lst epl7 (by simp), wstp _ hst, go _ hst⟩
          · rw [if_neg cm] at hst
            refine ite2 (fun z => absurd z ?_) (fun _ => ?_)
            · cases hs : st.1 with
              | nil => exact absurd hs cm
              | cons a r => exact fun z => by cases z
            refine ⟨_, rfl, _, .inl ⟨_, SqL.of epw, rfl⟩, ite2 (fun _ => ?_) (fun z => absurd (by rw [← hws]; rfl) z)⟩
            have lus : us.length = st.2.length := Paired.length pr7
            refine ⟨_, rfl, .inl ⟨rfl, _, SqL.of eD7⟩, _, rfl, _, rfl, _, rfl, D, _, rfl, .inl (SqL.of eD7), _, rfl, ?_⟩
            rw [lus]
            refine ⟨pw, mp, ws, st.1, st.2.length, _, rfl, epw, (ez cm).ext x57, hw1, by have := W.l1; omega, wb, hTn.t4, BC, fun hf H8 dd x8 e8 => ?_, fun hf q8 H8 x8 e8 => ?_⟩
            · rw [if_pos hf] at hst
              exact bad _ hst H8 dd x8 e8
            · rw [if_neg (by simpa using hf)] at hst
              have eD8 := x8.lst eD7 (by simp)
              have pr8 : Paired (RdAt K H8) us st.2 := L2.Paired.mapP pr7 fun _ _ k => k.ext x8
              have x9 : Ext [D] H8 (upd H8 D (.lst (us ++ [.ref q8]))) := .set (by simp) eD8
              refine ⟨D, us, _, rfl, rfl, eD8, by have := W.l2; exact small1000 (by omega), ?_⟩
              exact ⟨mp, _, _, _, (st.1, st.2 ++ [readR ws st.1]), us ++ [.ref q8], rfl, (x07.trans x8).own hD0 eD8, x9.sqT (x8.sqT em7), fun z => ((ez cm).ext (x57.trans x8)).ext x9, upd_same,
                pr_snoc (L2.Paired.mapP pr8 fun _ _ k => k.ext x9) (e8.ext x9), by rw [upd_ne nplD]; exact x8.lst epl7 (by simp), wstp _ hst, go _ hst⟩
        · obtain ⟨mp, y3, y4, y5, st, us, rfl, x5, em, ez, eD, pr, epl, W, hloop⟩ := h5
          rw [List.length_map, List.drop_length] at hloop
          have hloop' : loopP 0 ls ([], []) = .ok st := hloop
          rw [hloop'] at hP
          have hP2 : parseR text = (if st.1 = [] then .error (Txt.count text "\n" + 1, "marks expected") else if joinedR st.2 st.1.length = false then .error (0, "not joined") else .ok st) := hP
          refine ⟨_, rfl, _, .inr (.inl ⟨_, em, rfl⟩), ?_⟩
          by_cases cm : st.1 = []
          · rw [if_pos cm] at hP2
            refine ite2 (fun _ => ?_) (fun z => absurd (by rw [cm]; rfl) z)
            refine ⟨_, rfl, ⟨_, rfl⟩, _, _, rfl, rfl, _, _, rfl, rfl, by show 2 ≤ 1000; decide, made BC fun H' dd x e => qe _ _ hP2 H' dd (x5.trans x) e⟩
          · rw [if_neg cm] at hP2
            refine ite2 (fun z => absurd z ?_) (fun _ => ?_)
            · cases hs : st.1 with
              | nil => exact absurd hs cm
              | cons a r => exact fun z => by cases z
            have hl0 : 0 < st.1.length := List.length_pos_iff.mpr cm
            have w1 := W.l1
            have w2 := W.l2
            have hTn := hT.ext x5
            refine ⟨_, rfl, _, rfl, mp, D, st.1.map V.str, st.2, rfl, em, ⟨us, SqL.of eD, Paired.length pr, fun i r hr => pr_at pr i r hr⟩, by rw [List.length_map]; exact W.good, by rw [List.length_map]; exact hl0, by rw [List.length_map]; omega, by omega, hTn.t5, fun H6 x6 => ?_⟩
            rw [List.length_map]
            cases hj : joinedR st.2 st.1.length with
            | false =>
              rw [if_pos hj] at hP2
              exact ⟨_, rfl, iteT ⟨by show 2 ≤ 1000; decide, made BC fun H' dd x e => qe _ _ hP2 H' dd ((x5.trans x6).trans x) e⟩⟩
            | true =>
              rw [if_neg (by rw [hj]; decide)] at hP2
              refine ⟨_, rfl, iteF ?_⟩
              have eD6 := x6.lst eD (by simp)
              have pr6 : Paired (RdAt K H6) us st.2 := L2.Paired.mapP pr fun _ _ k => k.ext x6
              refine ⟨_, rfl, _, rfl, D, us, rfl, .inl ⟨SqL.of eD6, fun tr htr => ?_⟩⟩
              have x7 : Ext [] H6 (upd H6 tr (.tup us)) := .new htr
              have er : SqT K (upd H6 tr (.tup us)) tr us := .inl (.inl upd_same)
              generalize (upd H6 tr (.tup us)) = H7 at x7 er ⊢
              refine ⟨by show 3 ≤ sizeLine; decide, fun q hq => ?_⟩
              have x8 : Ext [] H7 (upd H7 q (.tup [.str "net", .ref mp, .ref tr])) := .new hq
              have x78 := x7.trans x8
              have pr8 : Paired (RdAt K (upd H7 q (.tup [.str "net", .ref mp, .ref tr]))) us st.2 := L2.Paired.mapP pr6 fun _ _ k => k.ext x78
              exact qo _ _ hP2 q _ ((x5.trans x6).trans x78) ⟨mp, tr, .inl (.inl upd_same), (x6.trans x78).sqT em, us, x8.sqT er, Paired.length pr8, fun i r hr => pr_at pr8 i r hr⟩
end
end K2
set_option Elab.async false
set_option linter.all false
set_option maxRecDepth 100000
set_option maxHeartbeats 4000000
namespace K2
open PySem PySem.Spec PyProof.Rows L2 Gx RZ TL
/-! ### loops over lines -/
theorem loopP_app : ∀ (xs ys : List Str) (i : Nat) (st : St2), loopP i (xs ++ ys) st = match loopP i xs st with | .error e => .error e | .ok st' => loopP (i + xs.length) ys st'
  | [], ys, i, st => rfl
  | x :: xs, ys, i, st => by
    rw [List.cons_append, loopP, loopP]
    cases stepP ((i : Nat) + 1) x st with
    | error e => rfl
    | ok st' =>
      show loopP (i + 1) (xs ++ ys) st' = _
      rw [loopP_app xs ys (i + 1) st', List.length_cons, show i + 1 + xs.length = i + (xs.length + 1) by omega]
theorem loopP_ok {xs ys : List Str} {i : Nat} {st st' : St2} (h : loopP i xs st = .ok st') : loopP i (xs ++ ys) st = loopP (i + xs.length) ys st' := by
  rw [loopP_app, h]
theorem stepP_idx {n m : Int} {x : Str} {st st' : St2} (h : stepP n x st = .ok st') : stepP m x st = .ok st' := by
  unfold stepP at h ⊢
  split at h
  · next c => rw [if_pos c]; exact h
  · next c =>
    rw [if_neg c]
    split at h
    · next c2 =>
      rw [if_pos c2]
      split at h
      · cases h
      · next c3 => rw [if_neg c3]; exact h
    · next c2 =>
      rw [if_neg c2]
      split at h
      · cases h
      · next c3 => rw [if_neg c3]; exact h
theorem loopP_idx : ∀ {xs : List Str} {i j : Nat} {st st' : St2}, loopP i xs st = .ok st' → loopP j xs st = .ok st'
  | [], _, _, _, _, h => h
  | x :: xs, i, j, st, st', h => by
    rw [loopP] at h
    cases hs : stepP ((i : Nat) + 1) x st with
    | error e => rw [hs] at h; cases h
    | ok s2 =>
      rw [hs] at h
      rw [loopP_step (stepP_idx hs)]
      exact loopP_idx h
theorem blank_loop : ∀ {xs : List Str} (i : Nat) (st : St2), (∀ x ∈ xs, wordsOf x = []) → loopP i xs st = .ok st
  | [], _, _, _ => rfl
  | x :: xs, i, st, h => by
    have : stepP ((i : Nat) + 1) x st = .ok st := by
      unfold stepP
      rw [if_pos (h x List.mem_cons_self)]
    rw [loopP_step this]
    exact blank_loop (i + 1) st fun y hy => h y (List.mem_cons_of_mem _ hy)
/-! ### joins of lines -/
def noNl (l : Str) : Bool := (tl l).all fun c => decide (c ≠ 10)
def okL (l : Str) : Bool := (tl l).all okSign && decide (l.length ≤ 200)
def goodL (l : Str) : Bool := noNl l && (okL l && decide ((wordsOf l).length ≤ 100))
theorem split_lines {ls : List Str} (h : ls ≠ []) (hn : ∀ l ∈ ls, noNl l = true) : Txt.split (Txt.join "\n" ls) "\n" = ls := by
  refine split_join (y := "\n") (s := 10) (S := []) rfl (by decide +kernel) h fun p hp => ?_
  intro z
  have := List.all_eq_true.mp (hn p hp) 10 z
  simp at this
theorem flat_ok : ∀ (ps : List Str), (∀ l ∈ ps, okL l = true) → ((((ps.map tl).map fun q => [10] ++ q).flatten).all okSign = true) ∧ (((ps.map tl).map fun q => [10] ++ q).flatten).length ≤ 201 * ps.length
  | [], _ => ⟨rfl, by simp⟩
  | p :: ps, h => by
    obtain ⟨h1, h2⟩ := flat_ok ps fun l hl => h l (List.mem_cons_of_mem _ hl)
    have h3 := h p List.mem_cons_self
    unfold okL at h3
    rw [Bool.and_eq_true, decide_eq_true_eq] at h3
    constructor
    · rw [List.map_cons, List.map_cons, List.flatten_cons, List.all_append, List.all_append, h1, h3.1]
      decide
    · rw [List.map_cons, List.map_cons, List.flatten_cons, List.length_append, List.length_append, tl_len]
      have e1 : ([10] : List Nat).length = 1 := rfl
      have e2 : (p :: ps).length = ps.length + 1 := rfl
      have e3 := h3.2
      omega
theorem allowed_lines {ls : List Str} (hl : ls.length ≤ 40) (h : ∀ l ∈ ls, okL l = true) : allowed (Txt.join "\n" ls) = true := by
  have e : tl (Txt.join "\n" ls) = joinL [10] (ls.map tl) := by rw [join_eq, tl_join]; rfl
  unfold allowed
  rw [Bool.and_eq_true, decide_eq_true_eq, ← tl_len, e]
  cases ls with
  | nil => exact ⟨by decide, rfl⟩
  | cons p ps =>
    obtain ⟨h1, h2⟩ := flat_ok ps fun l hl => h l (List.mem_cons_of_mem _ hl)
    have h3 := h p List.mem_cons_self
    unfold okL at h3
    rw [Bool.and_eq_true, decide_eq_true_eq] at h3
    rw [List.map_cons, joinL_flat, List.length_append, List.all_append, h1, h3.1]
    rw [List.length_cons] at hl
    have h4 := h3.2
    rw [← tl_len] at h4
    exact ⟨by omega, rfl⟩
/-- a text of good lines, and what is read of it -/
structure TextOf (t : Str) (ls : List Str) : Prop where
  al : allowed t = true
  sp : Txt.split t "\n" = ls
  few : ∀ l ∈ ls, (wordsOf l).length ≤ 1000
theorem text_lines {ls : List Str} (h0 : ls ≠ []) (hl : ls.length ≤ 40) (h : ∀ l ∈ ls, goodL l = true) : TextOf (Txt.join "\n" ls) ls := by
  have h' : ∀ l ∈ ls, noNl l = true ∧ okL l = true ∧ (wordsOf l).length ≤ 100 := fun l hm => by
    have := h l hm
    unfold goodL at this
    rw [Bool.and_eq_true, Bool.and_eq_true, decide_eq_true_eq] at this
    exact this
  exact ⟨allowed_lines hl fun l hm => (h' l hm).2.1, split_lines h0 fun l hm => (h' l hm).1, fun l hm => by have := (h' l hm).2.2; omega⟩
theorem TextOf.err {t : Str} {ls : List Str} {e : Int × Str} (h : TextOf t ls) (hl : loopP 0 ls ([], []) = .error e) : parseR t = .error e := by
  unfold parseR
  rw [if_neg (by rw [h.al]; decide), h.sp, hl]
  rfl
theorem TextOf.okR {t : Str} {ls : List Str} {st : St2} (h : TextOf t ls) (hl : loopP 0 ls ([], []) = .ok st) (h1 : st.1 ≠ []) (hj : joinedR st.2 st.1.length = true) : parseR t = .ok st := by
  unfold parseR
  rw [if_neg (by rw [h.al]; decide), h.sp, hl]
  show (if st.1 = [] then _ else _) = _
  rw [if_neg h1, if_neg (by rw [hj]; decide)]
theorem TextOf.apart {t : Str} {ls : List Str} {st : St2} (h : TextOf t ls) (hl : loopP 0 ls ([], []) = .ok st) (h1 : st.1 ≠ []) (hj : joinedR st.2 st.1.length = false) : parseR t = .error (0, "not joined") := by
  unfold parseR
  rw [if_neg (by rw [h.al]; decide), h.sp, hl]
  show (if st.1 = [] then _ else _) = _
  rw [if_neg h1, if_pos hj]
theorem TextOf.none {t : Str} {ls : List Str} {st : St2} (h : TextOf t ls) (hl : loopP 0 ls ([], []) = .ok st) (h1 : st.1 = []) : parseR t = .error (Txt.count t "\n" + 1, "marks expected") := by
  unfold parseR
  rw [if_neg (by rw [h.al]; decide), h.sp, hl]
  show (if st.1 = [] then _ else _) = _
  rw [if_pos h1]
open Classical in
theorem joined_of {rs : List Rd3} {n : Nat} (h : ∀ i, i < n → Conn rs 0 i) : joinedR rs n = true := by
  unfold joinedR conR
  refine decide_eq_true ?_
  rw [List.filter_eq_self.mpr fun i hi => decide_eq_true (h i (List.mem_range.mp hi)), List.length_range]
open Classical in
theorem apart_of {rs : List Rd3} {n i : Nat} (hi : i < n) (h : ¬ Conn rs 0 i) : joinedR rs n = false := by
  unfold joinedR conR
  refine decide_eq_false fun e => ?_
  have e2 : (List.range n).filter (fun i => decide (Conn rs 0 i)) = List.range n := List.filter_sublist.eq_of_length (by rw [e, List.length_range])
  have := List.filter_eq_self.mp e2 i (List.mem_range.mpr hi)
  exact h (of_decide_eq_true this)
/-! ### the tables of the law -/
def blanks : List Str := ["", "  ", "# a", "   #"]
def firsts : List (Str × Str) := [("mark a b", "marks expected"), ("a to b is 5", "marks expected"), ("marks", "marks expected"), ("Marks a", "marks expected"), ("marks a B", "not a name"), ("marks a a1", "not a name"), ("marks abcdefghi a a", "not a name"), ("marks a b a", "name twice"),
  ("marks za zb zc zd ze zf zg zh zi zj zk zl zm zn zo zp zq", "too many")]
def badNs : List Str := ["x", "05", "-0", "--5", "-", "+5", "5-", "12345678", "-05", "1.5"]
def bads : List (Str × Str) := [("a to b", "unknown line"), ("a to b is", "unknown line"), ("a to b is 5 6", "unknown line"), ("a at b is 5", "unknown line"), ("a to b as 5", "unknown line"), ("marks a b c", "unknown line"), ("a", "unknown line"), ("a to A is", "unknown line"),
  ("a to d is x", "unknown mark"), ("A to b is 5", "unknown mark"), ("d to d is 5", "unknown mark"), ("7 to a is 5", "unknown mark"), ("a to a is x", "same mark"), ("b to b is 1000001", "same mark"),
  ("a to b is x", "not a number"), ("a to b is 05", "not a number"), ("a to b is -0", "not a number"), ("a to b is --5", "not a number"), ("a to b is -", "not a number"), ("a to b is +5", "not a number"), ("a to b is 5-", "not a number"), ("a to b is 12345678", "not a number"), ("a to b is -05", "not a number"), ("a to b is 1.5", "not a number"),
  ("a to b is 1000001", "out of range"), ("a to b is -1000001", "out of range"), ("a to b is 9999999", "out of range")]
def goods : List Str := ["marks a b c", "a to b is 5", "c to a is -1000000", "b to a is 0", "b to a is 0"]
def rds : List Rd3 := [(0, 1, 5), (2, 0, -1000000), (1, 0, 0), (1, 0, 0)]
def abc : List Str := ["a", "b", "c"]
def isOk (st : St2) : Except (Int × Str) St2 → Bool
  | .error _ => false
  | .ok st' => decide (st' = st)
theorem isOk_eq {st : St2} {r : Except (Int × Str) St2} (h : isOk st r = true) : r = .ok st := by
  cases r with
  | error _ => cases h
  | ok s => rw [of_decide_eq_true h]
set_option maxHeartbeats 0
theorem f_blanks : (blanks.all fun l => decide (wordsOf l = []) && goodL l) = true := by decide +kernel
theorem f_zz : goodL "zz" = true := by decide +kernel
theorem f_firsts : (firsts.all fun r => decide (wordsOf r.1 ≠ []) && (decide (faultMarks (wordsOf r.1) = r.2) && (decide (r.2 ≠ "") && goodL r.1))) = true := by decide +kernel
theorem f_bads : (bads.all fun r => decide (wordsOf r.1 ≠ []) && (((List.range 5).all fun m => decide (faultReading (wordsOf r.1) abc m = r.2)) && (decide (r.2 ≠ "") && goodL r.1))) = true := by decide +kernel
theorem f_goods : (goods.all goodL) = true := by decide +kernel
theorem f_loop : ((List.range 5).all fun r => isOk (abc, rds.take r) (loopP 0 (goods.take (1 + r)) ([], []))) = true := by decide +kernel
end K2
set_option Elab.async false
set_option linter.all false
set_option maxRecDepth 100000
set_option maxHeartbeats 4000000
namespace K2
open PySem PySem.Spec PyProof.Rows L2 Gx RZ
/-- the box of digits -/
def Box (H : Hp) (b d : Addr) : Prop := ∃ (ds : List Int) (at_ : Nat), H b = some (.lst [.ref d, .int (at_ : Nat)]) ∧ H d = some (.lst (ds.map V.int))
theorem Box.ne {H : Hp} {a b d : Addr} {xs : List Int} (h : Box H b d) (e : H a = some (.lst (xs.map V.int))) : a ≠ b := by
  obtain ⟨ds, at_, h1, h2⟩ := h
  intro z
  rw [z, h1] at e
  have e2 := HO.lst.inj (Option.some.inj e)
  cases xs with
  | nil => cases e2
  | cons x r =>
    rw [List.map_cons] at e2
    have := (List.cons.inj e2).1
    cases this
theorem Box.ext {H H' : Hp} {b d : Addr} (h : Box H b d) (x : Ext [] H H') : Box H' b d := let ⟨ds, at_, h1, h2⟩ := h; ⟨ds, at_, x.lst h1 (by simp), x.lst h2 (by simp)⟩
theorem Box.upd {H H1 : Hp} {b d p : Addr} {o : HO} (h : Box H b d) (h1 : Box H1 b d) (hp : H p = none) : Box (L2.upd H1 p o) b d := by
  obtain ⟨_, _, e1, e2⟩ := h
  obtain ⟨ds, at_, k1, k2⟩ := h1
  exact ⟨ds, at_, by rw [upd_ne (ne_of_none e1 hp)]; exact k1, by rw [upd_ne (ne_of_none e2 hp)]; exact k2⟩
section
variable {P : Program} {w : World} {K : PySem.W.Frag} {mg : Str → Option Value} {base : Heap}
/-! ### _law_cell -/
def spCell (K : PySem.W.Frag) : Sp := fun vs H Q _ => ∃ (a : Addr) (xs : List Int) (k : Nat), vs = [.ref a, .int (k : Nat)] ∧ SqL K H a (xs.map V.int) ∧ ∀ x : Int, Q (.int x) H
theorem scCell : FnScope ["script", "k"] ["script", "k"] (defScope sCell) := ⟨rfl, rfl, rfl, by decide +kernel, rfl, by decide +kernel, by decide +kernel⟩
theorem ok_cell {f : Addr} {fd : FuncData} (ml : mg "len" = none) (F : Fun K "_law_cell" "_law_cell" sCell f fd) : FnOk P w K mg base CX0 1 f fd ["script", "k"] (spCell K) := by
  refine F.ok scCell (fun vs H Q E h => ?_) (fun cdv A outer s H vs Q E hr h => ?_)
  · obtain ⟨_, _, _, rfl, _⟩ := h
    rfl
  · obtain ⟨a, xs, k, rfl, hs, q⟩ := h
    refine ⟨_, pss_cons (ps_if (pt_cmpR op_lt (pv 1) (pe_callB call_len_seq (by rfl) ml PySem.boot_len (pa_cons (pv 0) pa_nil)) (nomark _)) (pss_one (ps_ret (pe_ix ix_list (pv 0) (pv 1) (fun _ _ => rfl)))) pss_nil)
      (pss_one (ps_ret pe_int)), ?_⟩
    refine ⟨_, rfl, _, rfl, a, _, rfl, .inl hs, _, _, rfl, rfl, _, rfl, ite2 (fun e => ?_) (fun e => ?_)⟩
    · have hk : k < xs.length := by
        have := of_decide_eq_true e
        rw [List.length_map] at this
        omega
      exact ⟨_, rfl, _, rfl, a, _, _, _, rfl, rfl, hs, atI_nat (ints_at hk), q _⟩
    · exact q 0
/-! ### _law_digits -/
def spDigits (K : PySem.W.Frag) : Sp := fun vs H Q _ => ∃ (a : Addr) (xs : List Int), vs = [.ref a, .int 0, .int 40] ∧ SqL K H a (xs.map V.int) ∧
  ∀ (d : Addr) (ds : List Int) (H' : Hp), Ext [] H H' → H d = none → H' d = some (.lst (ds.map V.int)) → Q (.ref d) H'
abbrev nDigits : List Str := ["script", "first", "last", "digits", "k", "cell", "turn", "seed"]
theorem scDigits : FnScope nDigits ["script", "first", "last"] (defScope sDigits) := ⟨rfl, rfl, rfl, by decide +kernel, rfl, by decide +kernel, by decide +kernel⟩
/-- the list that is made -/
structure Dig (H : Hp) (n : Nat) (d : Addr) (H' : Hp) : Prop where
  x : Ext [] H H'
  new : H d = none
  lst : ∃ ds : List Int, H' d = some (.lst (ds.map V.int)) ∧ ds.length ≤ n
theorem Dig.push {H H' : Hp} {n : Nat} {d : Addr} {ds : List Int} (h : Dig H n d H') (e : H' d = some (.lst (ds.map V.int))) (hn : ds.length ≤ n) (i : Int) : Dig H (n + 1) d (upd H' d (.lst (ds.map V.int ++ [.int i]))) :=
  ⟨h.x.own h.new e, h.new, ds ++ [i], by rw [upd_same, List.map_append]; rfl, by rw [List.length_append]; simpa using hn⟩
theorem ok_digits {f fC : Addr} {fd fdC : FuncData} (ml : mg "len" = none) (mr : mg "range" = none) (mi : mg "int" = none) (F : Fun K "_law_digits" "_law_digits" sDigits f fd)
    (FC : Fun K "_law_cell" "_law_cell" sCell fC fdC) (bC : Binds K fdC ["script", "k"] []) (gC : mg "_law_cell" = some (.ref fC)) : FnOk P w K mg base CX0 2 f fd ["script", "first", "last"] (spDigits K) := by
  have GC : FnOk P w K mg base CX0 1 fC fdC ["script", "k"] (spCell K) := ok_cell ml FC
  have nd := scDigits.nd
  refine F.ok scDigits (fun vs H Q E h => ?_) (fun cdv A outer s H vs Q E hr h => ?_)
  · obtain ⟨_, _, rfl, _⟩ := h
    rfl
  · obtain ⟨a, xs, rfl, hs, q⟩ := h
    refine ⟨_, pss_cons (ps_set (i := 3) nd rfl (.inl rfl) (pe_lst pa_nil))
      (pss_cons (ps_for PassesOwn.never rfl (pi_range2 (by rfl) mr (pa_cons (pv 1) (pa_cons (pv 2) pa_nil))) (pg_name (i := 4) nd rfl (.inl rfl))
        (pss_cons (ps_set (i := 5) nd rfl (.inl rfl) (pe_call GC hr (by rfl) gC FC.kp bC .nil pass0 (pa_cons (pv 0) (pa_cons (pv 4) pa_nil))))
        (pss_cons (ps_if (pt_cmpR op_lt (pv 5) pe_int (nomark _)) (pss_one (ps_set (i := 5) nd rfl (.inl rfl) (pe_op op_sub pe_int (pe_op op_mul pe_int (pv 5))))) pss_nil)
        (pss_one (ps_if (pt_cmpR op_ge (pv 5) (pe_op op_pow pe_int pe_int) (nomark _))
          (pss_one (ps_for PassesOwn.never rfl (pi_range1 (by rfl) mr (pa_cons pe_int pa_nil)) (pg_name (i := 6) nd rfl (.inl rfl))
            (pss_one (ps_if (pt_cmpR op_gt (pv 5) pe_int (nomark _))
              (pss_cons (ps_expr (pe_bm PySem.F.plainAttrs_list PySem.F.slot_list_append PySem.F.type_list_append mt_append (pv 3) (pa_cons (pe_op op_mod (pe_callTy call_int1 (by rfl) mi PyProof.Rows.boot_int (pa_cons (pv 5) pa_nil)) pe_int) pa_nil)))
              (pss_one (ps_set (i := 5) nd rfl (.inl rfl) (pe_op op_fdiv (pv 5) pe_int)))) pss_nil))))
          (pss_cons (ps_set (i := 7) nd rfl (.inl rfl) (pe_op op_mod (pe_callTy call_int1 (by rfl) mi PyProof.Rows.boot_int (pa_cons (pe_op op_add (pe_op op_add (pe_op op_mul (pv 5) pe_int) (pe_op op_mul (pv 4) pe_int)) pe_int) pa_nil)) pe_int))
          (pss_one (ps_for PassesOwn.never rfl (pi_range1 (by rfl) mr (pa_cons pe_int pa_nil)) (pg_name (i := 6) nd rfl (.inl rfl))
            (pss_cons (ps_set (i := 7) nd rfl (.inl rfl) (pe_op op_mod (pe_callTy call_int1 (by rfl) mi PyProof.Rows.boot_int (pa_cons (pe_op op_add (pe_op op_add (pe_op op_mul (pv 7) pe_int) (pe_op op_mul pe_int (pv 6))) pe_int) pa_nil)) pe_int))
            (pss_one (ps_expr (pe_bm PySem.F.plainAttrs_list PySem.F.slot_list_append PySem.F.type_list_append mt_append (pv 3) (pa_cons (pe_op op_mod (pe_callTy call_int1 (by rfl) mi PyProof.Rows.boot_int (pa_cons (pe_op op_fdiv (pv 7) pe_int) pa_nil)) pe_int) pa_nil)))))))))))))
      (pss_one (ps_ret (pv 3)))), ?_⟩
    refine ⟨by decide, fun d hd => ?_⟩
    refine ⟨_, rfl, _, rfl, 0, 40, rfl, by decide, for_range (n := 40)
      (fun i σ H3 => ∃ y4 y5 y6 y7, σ = [some (.ref a), some (.int 0), some (.int 40), some (.ref d), y4, y5, y6, y7] ∧ Dig H (60 * i) d H3)
      ⟨_, _, _, _, rfl, .new hd, hd, [], upd_same, Nat.le_refl _⟩ (fun i σ H3 hi h3 => ?_) (fun σ H3 h3 => ?_)⟩
    · obtain ⟨y4, y5, y6, y7, rfl, D3⟩ := h3
      have hk : ((0 : Int) + (i : Nat)) = ((i : Nat) : Int) := by omega
      refine ⟨_, rfl, _, rfl, a, xs, i, by rw [hk]; rfl, D3.x.sqL hs (by simp), fun x => ?_⟩
      -- the sign
      refine ⟨_, rfl, _, _, rfl, rfl, _, rfl, ?_⟩
      refine ite2 (fun _ => ?_) (fun _ => ?_)
      refine ⟨_, rfl, _, _, rfl, rfl, .inl (by decide), _, _, rfl, rfl, ?_⟩
      all_goals
        refine ⟨_, rfl, _, _, rfl, rfl, ⟨by decide, by decide, by decide⟩, _, _, rfl, rfl, _, rfl, ?_⟩
        refine ite2 (fun _ => ?_) (fun _ => ?_)
        · refine ⟨_, rfl, by decide, by decide, for_range (n := 60)
            (fun j σ H4 => ∃ y5 y6, σ = [some (.ref a), some (.int 0), some (.int 40), some (.ref d), some (.int (0 + (i : Nat))), some (.int y5), y6, y7] ∧ Dig H (60 * i + j) d H4)
            ⟨_, _, rfl, D3⟩ (fun j σ H4 hj h4 => ?_) (fun σ H4 h4 => ?_)⟩
          · obtain ⟨c, z6, rfl, D4⟩ := h4
            refine ⟨_, rfl, _, _, rfl, rfl, _, rfl, ?_⟩
            refine ite2 (fun _ => ?_) (fun _ => ?_)
            · obtain ⟨ds, e, hn⟩ := D4.lst
              refine ⟨_, rfl, .inl ⟨rfl, _, SqL.of e⟩, _, rfl, .inl ⟨_, rfl, _, _, rfl, rfl, by show (0 : Int) < 1000; decide, ?_⟩⟩
              refine ⟨d, _, _, rfl, rfl, e, by rw [List.length_map]; show _ < 2 ^ 24; omega, ?_⟩
              refine ⟨_, rfl, _, _, rfl, rfl, ⟨by decide, by decide⟩, _, _, rfl, D4.push e hn _⟩
            · exact ⟨_, _, rfl, D4.x, D4.new, let ⟨ds, e, hn⟩ := D4.lst; ⟨ds, e, Nat.le_succ_of_le hn⟩⟩
          · obtain ⟨c, z6, rfl, D4⟩ := h4
            exact ⟨_, _, _, _, rfl, D4.x, D4.new, let ⟨ds, e, hn⟩ := D4.lst; ⟨ds, e, by omega⟩⟩
        · refine ⟨_, rfl, _, _, rfl, rfl, .inr (by decide), _, rfl, _, _, rfl, rfl, .inr (by decide), _, _, rfl, rfl, _, _, rfl, rfl, .inl ⟨_, rfl, _, _, rfl, rfl, by show (0 : Int) < 2147483647; decide, ?_⟩⟩
          refine ⟨_, rfl, by decide, by decide, for_range (n := 12)
            (fun j σ H4 => ∃ y5 y6 y7, σ = [some (.ref a), some (.int 0), some (.int 40), some (.ref d), some (.int (0 + (i : Nat))), y5, y6, some (.int y7)] ∧ Dig H (60 * i + j) d H4)
            ⟨_, _, _, rfl, D3⟩ (fun j σ H4 hj h4 => ?_) (fun σ H4 h4 => ?_)⟩
          · obtain ⟨z5, z6, c, rfl, D4⟩ := h4
            refine ⟨_, rfl, _, _, rfl, rfl, .inr (by decide), _, rfl, _, _, rfl, rfl, .inl (by decide), _, _, rfl, rfl, _, _, rfl, rfl, .inl ⟨_, rfl, _, _, rfl, rfl, by show (0 : Int) < 2147483647; decide, ?_⟩⟩
            obtain ⟨ds, e, hn⟩ := D4.lst
            refine ⟨_, rfl, .inl ⟨rfl, _, SqL.of e⟩, _, rfl, _, _, rfl, rfl, ⟨by decide, by decide⟩, .inl ⟨_, rfl, _, _, rfl, rfl, by show (0 : Int) < 1000; decide, ?_⟩⟩
            refine ⟨d, _, _, rfl, rfl, e, by rw [List.length_map]; show _ < 2 ^ 24; omega, ?_⟩
            exact ⟨_, _, _, rfl, D4.push e hn _⟩
          · obtain ⟨z5, z6, c, rfl, D4⟩ := h4
            exact ⟨_, _, _, _, rfl, D4.x, D4.new, let ⟨ds, e, hn⟩ := D4.lst; ⟨ds, e, by omega⟩⟩
    · obtain ⟨y4, y5, y6, y7, rfl, D3⟩ := h3
      obtain ⟨ds, e, _⟩ := D3.lst
      exact ⟨_, rfl, q d ds H3 D3.x hd e⟩
/-! ### _law_draw -/
def spDraw : Sp := fun vs H Q _ => ∃ (b d : Addr) (many : Int), vs = [.ref b, .int many] ∧ Box H b d ∧ 0 < many ∧ ∀ (r : Int) (H' : Hp), 0 ≤ r → r < many → Ext [b] H H' → Box H' b d → Q (.int r) H'
theorem scDraw : FnScope ["box", "many", "at"] ["box", "many"] (defScope sDraw) := ⟨rfl, rfl, rfl, by decide +kernel, rfl, by decide +kernel, by decide +kernel⟩
theorem ok_draw {f : Addr} {fd : FuncData} (ml : mg "len" = none) (mi : mg "int" = none) (F : Fun K "_law_draw" "_law_draw" sDraw f fd) : FnOk P w K mg base CX0 1 f fd ["box", "many"] spDraw := by
  have nd := scDraw.nd
  refine F.ok scDraw (fun vs H Q E h => ?_) (fun cdv A outer s H vs Q E hr h => ?_)
  · obtain ⟨_, _, _, rfl, _⟩ := h
    rfl
  · obtain ⟨b, d, many, rfl, ⟨ds, k, hb, hd⟩, hm, q⟩ := h
    refine ⟨_, pss_cons (ps_set (i := 2) nd rfl (.inl rfl) (pe_ix ix_list (pv 0) pe_int (fun _ _ => rfl)))
      (pss_cons (ps_asg (pe_op op_add (pv 2) pe_int) (pg_sub (pv 0) pe_int set_list))
      (pss_cons (ps_if (pt_cmpR op_lt (pv 2) (pe_callB call_len_seq (by rfl) ml PySem.boot_len (pa_cons (pe_ix ix_list (pv 0) pe_int (fun _ _ => rfl)) pa_nil)) (nomark _))
        (pss_one (ps_ret (pe_op op_mod (pe_callTy call_int1 (by rfl) mi PyProof.Rows.boot_int (pa_cons (pe_ix ix_list (pe_ix ix_list (pv 0) pe_int (fun _ _ => rfl)) (pv 2) (fun _ _ => rfl)) pa_nil)) (pv 1)))) pss_nil)
      (pss_one (ps_ret pe_int)))), ?_⟩
    have ndb : d ≠ b := by
      have := Box.ne ⟨ds, k, hb, hd⟩ hd
      exact this
    refine ⟨_, rfl, b, _, _, _, rfl, rfl, SqL.of hb, atI_nat (j := 1) rfl, ?_⟩
    refine ⟨_, rfl, _, _, rfl, rfl, _, rfl, b, _, _, 1, rfl, rfl, hb, rfl, ?_⟩
    have x1 : Ext [b] H (upd H b (.lst [.ref d, .int ((k : Int) + 1)])) := .set (List.mem_singleton.mpr rfl) hb
    have hb1 : (upd H b (.lst [.ref d, .int ((k : Int) + 1)])) b = some (.lst [.ref d, .int ((k : Int) + 1)]) := upd_same
    have hd1 : (upd H b (.lst [.ref d, .int ((k : Int) + 1)])) d = some (.lst (ds.map V.int)) := by rw [upd_ne ndb]; exact hd
    have bx : Box (L2.upd H b (.lst [.ref d, .int ((k : Int) + 1)])) b d := ⟨ds, k + 1, by rw [hb1]; rfl, hd1⟩
    refine ⟨_, rfl, _, rfl, b, _, _, _, rfl, rfl, SqL.of hb1, atI_nat (j := 0) rfl, d, _, rfl, .inl (SqL.of hd1), _, _, rfl, rfl, _, rfl, ite2 (fun e => ?_) (fun e => ?_)⟩
    · have hk : k < ds.length := by
        have := of_decide_eq_true e
        rw [List.length_map] at this
        omega
      refine ⟨_, rfl, b, _, _, _, rfl, rfl, SqL.of hb1, atI_nat (j := 0) rfl, _, rfl, d, _, _, _, rfl, rfl, SqL.of hd1, atI_nat (ints_at hk), .inl ⟨_, rfl, _, rfl, _, _, rfl, rfl, hm, ?_⟩⟩
      exact q _ _ (Int.emod_nonneg _ (by omega)) (Int.emod_lt_of_pos _ hm) x1 bx
    · exact q 0 _ (by omega) hm x1 bx
/-! ### _law_pick -/
def spPick (K : PySem.W.Frag) : Sp := fun vs H Q _ => ∃ (b d t : Addr) (xs : List V), vs = [.ref b, .ref t] ∧ Box H b d ∧ H t = some (.lst xs) ∧ t ≠ b ∧ 0 < xs.length ∧ ∀ (j : Nat) (v : V), xs[j]? = some v → ∀ H', Ext [b] H H' → Box H' b d → Q v H'
theorem scPick : FnScope ["box", "things"] ["box", "things"] (defScope sPick) := ⟨rfl, rfl, rfl, by decide +kernel, rfl, by decide +kernel, by decide +kernel⟩
theorem ok_pick {f fD : Addr} {fd fdD : FuncData} (ml : mg "len" = none) (mi : mg "int" = none) (F : Fun K "_law_pick" "_law_pick" sPick f fd)
    (FD : Fun K "_law_draw" "_law_draw" sDraw fD fdD) (bD : Binds K fdD ["box", "many"] []) (gD : mg "_law_draw" = some (.ref fD)) : FnOk P w K mg base CX0 2 f fd ["box", "things"] (spPick K) := by
  have nd := scPick.nd
  have GD : FnOk P w K mg base CX0 1 fD fdD ["box", "many"] spDraw := ok_draw ml mi FD
  refine F.ok scPick (fun vs H Q E h => ?_) (fun cdv A outer s H vs Q E hr h => ?_)
  · obtain ⟨_, _, _, _, rfl, _⟩ := h
    rfl
  · obtain ⟨b, d, t, xs, rfl, hb, ht, htb, hx, q⟩ := h
    refine ⟨_, pss_one (ps_ret (pe_ix ix_list (pv 1) (pe_op op_mod (pe_callTy call_int1 (by rfl) mi PyProof.Rows.boot_int (pa_cons (pe_call GD hr (by rfl) gD FD.kp bD .nil pass0 (pa_cons (pv 0) (pa_cons pe_int pa_nil))) pa_nil)) (pe_callB call_len_seq (by rfl) ml PySem.boot_len (pa_cons (pv 1) pa_nil))) (fun _ _ => rfl))), ?_⟩
    refine ⟨_, rfl, _, rfl, b, d, 900, rfl, hb, by decide, fun r H1 h0 h1 x1 b1 => .inl ⟨_, rfl, ?_⟩⟩
    have ht1 : H1 t = some (.lst xs) := x1.lst ht (by rw [List.mem_singleton]; exact htb)
    have hlI : (0 : Int) < (xs.length : Nat) := by omega
    refine ⟨_, rfl, t, _, rfl, .inl (SqL.of ht1), _, _, rfl, rfl, hlI, ?_⟩
    have e0 := Int.emod_nonneg r (Int.ne_of_gt hlI)
    have e1 := Int.emod_lt_of_pos r hlI
    obtain ⟨j, hj⟩ : ∃ j : Nat, r % (xs.length : Nat) = (j : Int) := ⟨_, (Int.toNat_of_nonneg e0).symm⟩
    rw [hj] at e1
    have hjl : j < xs.length := by omega
    have hv := List.getElem?_eq_getElem hjl
    exact ⟨t, _, _, _, rfl, by rw [← hj], SqL.of ht1, atI_nat hv, q j _ hv _ x1 b1⟩
end
end K2
set_option Elab.async false
set_option linter.all false
set_option maxRecDepth 100000
set_option maxHeartbeats 4000000
namespace Gx
open PySem PySem.Spec PyProof.Rows L2 RZ
/-! ### displays of data: what their readings need -/
def Trk (c : List Addr) (H : Hp) : Prop := ∀ a ∈ c, H a ≠ none
theorem Trk.ext {c c' : List Addr} {H H' : Hp} (t : Trk c H) (x : Ext c' H H') : Trk c H' := fun a ha e => t a ha (x.dom a e)
def GD (c : List Addr) (K : PySem.W.Frag) (σ : L2.St) (H0 : Hp) (t : TE) (d : PyData) : Prop := ∀ H Q, Ext [] H0 H → (∀ v H', Ext [] H H' → DQ c K H' d v → Q v H') → t σ H Q
def GDs (c : List Addr) (K : PySem.W.Frag) (σ : L2.St) (H0 : Hp) (t : TA) (ds : List PyData) : Prop := ∀ H Q, Ext [] H0 H → (∀ xs H', Ext [] H H' → DQs c K H' ds xs → Q xs H') → t σ H Q
section
variable {c : List Addr} {K : PySem.W.Frag} {σ : L2.St} {H0 : Hp} {t t2 : TE} {ta : TA} {d : PyData} {ds es : List PyData}
theorem dq_more {H H' : Hp} {v : V} (h : DQ c K H d v) (x : Ext [] H H') : DQ c K H' d v := DQ.ext x.more d v h
theorem gd_int (i : Int) : GD c K σ H0 (tC (.int i)) (.int i) := fun H Q _ q => q _ H .refl (DQ.int i)
theorem gd_str (x : Str) : GD c K σ H0 (tC (.str x)) (.str x) := fun H Q _ q => q _ H .refl (DQ.str x)
theorem gd_bl (b : Bool) : GD c K σ H0 (tC (.bl b)) (.bool b) := fun H Q _ q => q _ H .refl (DQ.bl b)
theorem gd_non : GD c K σ H0 (tC .non) .none := fun H Q _ q => q _ H .refl DQ.non
theorem gd_neg (i : Int) : GD c K σ H0 (tUn (rU fun i => .int (-i)) (tC (.int i))) (.int (-i)) := fun H Q _ q => ⟨i, rfl, q _ H .refl (DQ.int _)⟩
theorem gd_var {i : Nat} {v : V} (hv : σ[i]? = some (some v)) (h : DQ c K H0 d v) : GD c K σ H0 (tVar i) d := fun H Q x q => ⟨v, hv, q v H .refl (dq_more h x)⟩
theorem gds_nil : GDs c K σ H0 tNil [] := fun H Q _ q => q [] H .refl DQs.nil
theorem gds_cons (h : GD c K σ H0 t d) (hs : GDs c K σ H0 ta ds) : GDs c K σ H0 (tCons t ta) (d :: ds) := fun H Q x q =>
  h H _ x fun v H1 x1 h1 => hs H1 _ (x.trans x1) fun xs H2 x2 h2 => q (v :: xs) H2 (x1.trans x2) (DQs.cons (dq_more h1 x2) h2)
theorem gd_tup (h : GDs c K σ H0 ta ds) (hl : ds.length ≤ 1000) : GD c K σ H0 (tTup ta) (.tuple ds) := fun H Q x q =>
  h H _ x fun xs H1 x1 h1 => ⟨by rw [h1.length]; exact Nat.le_of_lt (small1000 hl), fun p hp => q (.ref p) _ (x1.trans (.new hp)) (DQ.tup (.inl (.inl upd_same)) (DQs.ext (Ext.new hp) _ _ h1))⟩
/-- a list that is made: where it stands -/
theorem lst_new (h : GDs c K σ H0 ta ds) (hl : ds.length ≤ 1000) {H : Hp} {Q : VK} (x : Ext [] H0 H) (q : ∀ a xs H', Ext [] H H' → H a = none → H' a = some (.lst xs) → DQs c K H' ds xs → Q (.ref a) H') : tLst ta σ H Q :=
  h H _ x fun xs H1 x1 h1 => ⟨by rw [h1.length]; exact Nat.le_of_lt (small1000 hl), fun p hp => q p xs _ (x1.trans (.new hp)) (x1.dom p hp) upd_same (DQs.ext (Ext.new hp) _ _ h1)⟩
theorem gd_lst (ht : Trk c H0) (h : GDs c K σ H0 ta ds) (hl : ds.length ≤ 1000) : GD c K σ H0 (tLst ta) (.list ds) := fun H Q x q =>
  lst_new h hl x fun a xs H' x1 a0 e1 h1 => q (.ref a) H' x1 (DQ.lst (fun z => (ht.ext x) a z a0) (SqL.of e1) h1)
theorem gd_cat (h1 : GD c K σ H0 t (.tuple ds)) (h2 : GD c K σ H0 t2 (.tuple es)) (hl : ds.length + es.length ≤ 1000) : GD c K σ H0 (tOp (rCatA K) t t2) (.tuple (ds ++ es)) := fun H Q x q =>
  h1 H _ x fun v H1 x1 k1 => h2 H1 _ (x.trans x1) fun w' H2 x2 k2 => by
    have k1' := dq_more k1 x2
    rw [DQ] at k1' k2
    obtain ⟨a, xs, rfl, s1, q1⟩ := k1'
    obtain ⟨b, ys, rfl, s2, q2⟩ := k2
    have x12 := x1.trans x2
    refine ⟨a, b, xs, ys, rfl, rfl, s1, s2, ?_, fun e => ?_, fun _ e => ?_, fun _ _ p hp => ?_⟩
    · rw [q1.length, q2.length]
      exact Nat.le_of_lt (small1000 hl)
    · subst e
      have := q1.length
      have e2 : ds = [] := List.length_eq_zero_iff.mp this.symm
      subst e2
      exact q _ H2 x12 (DQ.tup s2 q2)
    · subst e
      have e2 : es = [] := List.length_eq_zero_iff.mp q2.length.symm
      subst e2
      refine q _ H2 x12 (DQ.tup (ds := ds ++ []) s1 ?_)
      rw [List.append_nil]
      exact q1
    · exact q _ _ (x12.trans (.new hp)) (DQ.tup (.inl (.inl upd_same)) (DQs.ext (Ext.new hp) _ _ (DQs.app q1 q2)))
theorem dqs_get : ∀ {ds : List PyData} {xs : List V} {H : Hp} {j : Nat} {d : PyData}, DQs c K H ds xs → ds[j]? = some d → ∃ v, xs[j]? = some v ∧ DQ c K H d v
  | [], _, _, _, _, h, e => by cases e
  | d0 :: ds, xs, H, j, d, h, e => by
    rw [DQs] at h
    obtain ⟨v, vs, rfl, h1, h2⟩ := h
    cases j with
    | zero => cases e; exact ⟨v, rfl, h1⟩
    | succ j => exact dqs_get (ds := ds) (xs := vs) h2 e
theorem gd_ix {j : Nat} (h : GD c K σ H0 t (.tuple ds)) (hj : ds[j]? = some d) : GD c K σ H0 (tOp (rIxT K) t (tC (.int (j : Nat)))) d := fun H Q x q =>
  h H _ x fun v H1 x1 k1 => by
    have k2 := k1
    rw [DQ] at k2
    obtain ⟨a, xs, rfl, s1, q1⟩ := k2
    obtain ⟨w', hw, hd⟩ := dqs_get q1 hj
    exact ⟨a, xs, _, w', rfl, rfl, s1, atI_nat hw, q w' H1 x1 hd⟩
end
end Gx
set_option Elab.async false
set_option linter.all false
set_option maxRecDepth 100000
set_option maxHeartbeats 4000000
namespace K2
open PySem PySem.Spec PyProof.Rows L2 Gx RZ TL
section
variable {P : Program} {w : World} {K : PySem.W.Frag} {mg : Str → Option Value} {base : Heap}
/-! ### _law_told -/
structure Errs (K : PySem.W.Frag) (mg : Str → Option Value) (C L : Addr) : Prop where
  bc : BadC K C
  xc : ExcC K C
  xf : XfC K C
  gL : mg "LevelError" = some (.ref L)
  gC : mg "BadNet" = some (.ref C)
  ex : PySem.W.exmOne K (.ref C) (.ref L) = some true
  kC : PySem.W.kitOne K (.ref C) (.ref C) = some true
/-- a text that can be read: its bounds -/
structure TxOk (t : Str) : Prop where
  len : t.length ≤ 1000000
  few : ∀ line ∈ Txt.split t "\n", (wordsOf line).length ≤ 1000
def spTold (K : PySem.W.Frag) (T1 T2 T3 T4 T5 : Addr) : Sp := fun vs H Q _ => ∃ text : Str, vs = [.str text] ∧ TxOk text ∧ Tabs5 H T1 T2 T3 T4 T5 ∧
  (∀ n r, parseR text = .error (n, r) → ∀ q H', Ext [] H H' → H' q = some (.tup [.int n, .str r]) → Q (.ref q) H') ∧ (∀ ms rs, parseR text = .ok (ms, rs) → ∀ H', Ext [] H H' → Q (.str "") H')
theorem scTold : FnScope ["text", "e"] ["text"] (defScope sTold) := ⟨rfl, rfl, rfl, by decide +kernel, rfl, by decide +kernel, by decide +kernel⟩
theorem ok_told {f fC C L T1 T2 T3 T4 T5 : Addr} {fd fdC : FuncData} (mii : mg "isinstance" = none) (F : Fun K "_law_told" "_law_told" sTold f fd) (X : Errs K mg C L)
    (GC : FnOk P w K mg base (CX P w) 14 fC fdC ["text"] (spParse K C T1 T2 T3 T4 T5)) (kC : PySem.W.keepIn K (.ref fC) = true) (bC : Binds K fdC ["text"] []) (gC : mg "parse" = some (.ref fC)) : FnOk P w K mg base CX0 15 f fd ["text"] (spTold K T1 T2 T3 T4 T5) := by
  have nd := scTold.nd
  refine F.ok scTold (fun vs H Q E h => ?_) (fun cdv A outer s H vs Q EE hr h => ?_)
  · obtain ⟨_, rfl, _⟩ := h
    rfl
  · obtain ⟨text, rfl, tx, hT, q1, q2⟩ := h
    refine ⟨_, pss_cons (ps_try_as (i := 1) rfl rfl nd rfl rfl ⟨rfl, by decide, .inl X.gL⟩ takes0 (fun W pn xe tk _ => pss_one (ps_expr (pe_callS GC hr rfl gC kC bC (fun σ => passAt tk σ) (pa_cons (pv 0) pa_nil))))
        (fun a oe cls dd pn hz hf => pss_cons (ps_if (pt_not (pt_val (pe_callB (call_isX X.xc hz hf) (by rfl) mii PyProof.Rows.boot_isinstance (pa_cons (pv 1) (pa_cons (pe_glob (v := .ref C) rfl X.gC rfl) pa_nil))))) (pss_one (ps_ret pe_str)) pss_nil)
          (pss_one (ps_ret (pe_tup (pa_cons (pe_xf X.xf X.bc.fl hz hf (pv 1)) (pa_cons (pe_xf X.xf X.bc.fr hz hf (pv 1)) pa_nil)))))))
      (pss_one (ps_ret pe_str)), ?_⟩
    refine ⟨_, rfl, text, rfl, tx.len, tx.few, hT, X.bc, fun n r hres H1 dd x1 e1 => ?_, fun ms rs hres p H1 x1 _ => q2 ms rs hres H1 x1⟩
    refine ⟨true, X.ex, fun _ a ha => ?_, fun z => nomatch z⟩
    refine ⟨_, rfl, rfl, dd, _, _, _, _, rfl, rfl, (fun u r => r), X.kC, e1, _, rfl, iteF ?_⟩
    refine ⟨_, rfl, rfl, rfl, dd, _, _, rfl, e1, rfl, _, rfl, rfl, rfl, dd, _, _, rfl, e1, rfl, by show 2 ≤ sizeLine; decide, fun t ht' => ?_⟩
    exact q1 n r hres t _ (x1.trans (.new ht')) upd_same
/-! ### the tables -/
def rowD (r : Str × Str) : PyData := .list [.str r.1, .str r.2]
theorem trk0 {H : Hp} : Trk [] H := fun a h => by cases h
theorem gd_row {c : List Addr} {σ : L2.St} {H0 : Hp} (ht : Trk c H0) (a b : Str) : GD c K σ H0 (tLst (tCons (tC (.str a)) (tCons (tC (.str b)) tNil))) (rowD (a, b)) := gd_lst ht (gds_cons (gd_str _) (gds_cons (gd_str _) gds_nil)) (by show 2 ≤ 1000; decide)
def spTab (K : PySem.W.Frag) (rows : List (Str × Str)) (c : List Addr) : Sp := fun vs H Q _ => vs = [] ∧ Trk c H ∧ ∀ p xs H', Ext [] H H' → H p = none → H' p = some (.lst xs) → DQs c K H' (rows.map rowD) xs → Q (.ref p) H'
abbrev nFirsts : List Str := ["rows", "k"]
theorem scFirsts : FnScope nFirsts [] (defScope sBadFirsts) := ⟨rfl, rfl, rfl, by decide +kernel, rfl, by decide +kernel, by decide +kernel⟩
theorem zs17 : ∀ i, i < 17 → (("abcdefghijklmnopqrstuvwxyz" : Str).cps.toList[i]? = some (97 + i)) := by decide +kernel
theorem ok_firsts {f : Addr} {fd : FuncData} (mr : mg "range" = none) (F : Fun K "_law_bad_firsts" "_law_bad_firsts" sBadFirsts f fd) (c : List Addr) : FnOk P w K mg base CX0 1 f fd [] (spTab K firsts c) := by
  have nd := scFirsts.nd
  refine F.ok scFirsts (fun vs H Q E h => ?_) (fun cdv A outer s H vs Q E hr h => ?_)
  · obtain ⟨rfl, _⟩ := h
    rfl
  · obtain ⟨rfl, ht, q⟩ := h
    apply Exists.intro
    refine And.intro ?hb ?hc
    case hb =>
      apply pss_cons
      · exact ps_set (i := 0) nd rfl (.inl rfl) (pe_lst (pa_cons (pe_lst (pa_cons pe_str (pa_cons pe_str pa_nil))) (pa_cons (pe_lst (pa_cons pe_str (pa_cons pe_str pa_nil))) (pa_cons (pe_lst (pa_cons pe_str (pa_cons pe_str pa_nil))) (pa_cons (pe_lst (pa_cons pe_str (pa_cons pe_str pa_nil))) pa_nil)))))
      apply pss_cons
      · exact ps_set (i := 0) nd rfl (.inl rfl) (pe_op op_cat (pv 0) (pe_lst (pa_cons (pe_lst (pa_cons pe_str (pa_cons pe_str pa_nil))) (pa_cons (pe_lst (pa_cons pe_str (pa_cons pe_str pa_nil))) (pa_cons (pe_lst (pa_cons pe_str (pa_cons pe_str pa_nil))) (pa_cons (pe_lst (pa_cons pe_str (pa_cons pe_str pa_nil))) pa_nil))))))
      exact pss_one (ps_ret (pe_op op_cat (pv 0) (pe_lst (pa_cons (pe_lst (pa_cons (pe_op op_add_str pe_str (pe_join pe_str (pe_lc (own := [("k", 1)]) (g := gName 1) (tt := tYes) rfl nd (pi_range1 (by rfl) mr (pa_cons pe_int pa_nil)) (blkOk_by (N := nFirsts) (sc := defScope sBadFirsts) (by decide +kernel))
        (fun _ _ _ _ _ => pg_name (i := 1) nd rfl (.inl rfl)) (fun _ _ _ _ _ => pts_nil) (fun _ _ _ _ _ => pe_op op_add_str pe_str (pe_ix ix_str pe_str (pv 1) (fun _ _ => rfl)))))) (pa_cons pe_str pa_nil))) pa_nil))))
    case hc =>
      dsimp only
      rw [seq_eq, asg_eq]
      refine lst_new (c := c) (K := K) (H0 := H) (ds := (firsts.take 4).map rowD) (gds_cons (gd_row ht _ _) (gds_cons (gd_row ht _ _) (gds_cons (gd_row ht _ _) (gds_cons (gd_row ht _ _) gds_nil)))) (by show 4 ≤ 1000; decide) .refl fun a xs H1 x1 a0 ea da => ?_
      rw [name_eq]
      dsimp only
      rw [seq_eq, asg_eq]
      refine ⟨_, rfl, ?_⟩
      dsimp only
      refine lst_new (c := c) (K := K) (H0 := H1) (ds := ((firsts.drop 4).take 4).map rowD) (gds_cons (gd_row (ht.ext x1) _ _) (gds_cons (gd_row (ht.ext x1) _ _) (gds_cons (gd_row (ht.ext x1) _ _) (gds_cons (gd_row (ht.ext x1) _ _) gds_nil)))) (by show 4 ≤ 1000; decide) .refl fun b ys H2 x2 b0 eb db => ?_
      have ea2 := x2.lst ea (by simp)
      have da2 := DQs.ext x2.more _ _ da
      have la : xs.length = 4 := da.length
      have lb : ys.length = 4 := db.length
      refine ⟨a, b, xs, ys, rfl, rfl, ea2, eb, by rw [la, lb]; decide, fun r hr => ?_⟩
      have x3 : Ext [] H2 (upd H2 r (.lst (xs ++ ys))) := .new hr
      have er : (upd H2 r (.lst (xs ++ ys))) r = some (.lst (xs ++ ys)) := upd_same
      have d3 : DQs c K (upd H2 r (.lst (xs ++ ys))) ((firsts.take 8).map rowD) (xs ++ ys) := DQs.app (DQs.ext x3.more _ _ da2) (DQs.ext x3.more _ _ db)
      have x03 := (x1.trans x2).trans x3
      generalize (upd H2 r (.lst (xs ++ ys))) = H3 at x3 er d3 x03 ⊢
      dsimp only
      rw [name_eq]
      refine ⟨_, rfl, ?_⟩
      dsimp only
      refine lst_new (c := c) (K := K) (H0 := H3) (ds := (firsts.drop 8).map rowD) (gds_cons (gd_lst (ht.ext x03) (gds_cons ?g17 (gds_cons (gd_str _) gds_nil)) (by show 2 ≤ 1000; decide)) gds_nil) (by show 1 ≤ 1000; decide) .refl fun b4 zs H4 x4 b40 e4 d4 => ?_
      case g17 =>
        intro HH QQ xx qq
        refine ⟨⟨_, rfl⟩, 17, rfl, by decide, by decide, fun D hD => ?_⟩
        refine lc_range (fun i H7 => Ext [] HH H7 ∧ H7 D = some (.lst (((List.range i).map fun k => ("z" : Str) ++ (⟨#[97 + k]⟩ : Str)).map V.str))) ⟨.new hD, upd_same⟩ (fun i H7 hi h7 => ?_) (fun H7 h7 => ?_)
        · obtain ⟨x7, e7⟩ := h7
          have ej : ((0 : Int) + (i : Nat)) = ((i : Nat) : Int) := by omega
          refine ⟨rfl, _, rfl, _, _, _, rfl, rfl, by decide, by rw [ej]; exact atI_nat (zs17 i hi), _, _, rfl, rfl, by show 1 + 1 ≤ 2 ^ 24; decide, _, e7, by rw [List.length_map, List.length_map, List.length_range]; exact small1000 (by omega), x7.own hD e7, ?_⟩
          rw [upd_same, List.range_succ, List.map_append, List.map_append]
          rfl
        · obtain ⟨x7, e7⟩ := h7
          refine ⟨_, D, (List.range 17).map fun k => ("z" : Str) ++ (⟨#[97 + k]⟩ : Str), rfl, rfl, .inl (SqL.of e7), by decide +kernel, _, _, rfl, rfl, by decide +kernel, ?_⟩
          have eS : ("marks " : Str) ++ Txt.join " " ((List.range 17).map fun k => ("z" : Str) ++ (⟨#[97 + k]⟩ : Str)) = "marks za zb zc zd ze zf zg zh zi zj zk zl zm zn zo zp zq" := by decide +kernel
          rw [eS]
          exact qq _ _ x7 (DQ.str _)
      have er4 := x4.lst er (by simp)
      have l3 : (xs ++ ys).length = 8 := by rw [List.length_append, la, lb]
      have l4 : zs.length = 1 := d4.length
      refine ⟨r, b4, _, zs, rfl, rfl, er4, e4, by rw [l3, l4]; decide, fun r5 hr5 => ?_⟩
      have x5 : Ext [] H4 (upd H4 r5 (.lst (xs ++ ys ++ zs))) := .new hr5
      exact q r5 _ _ ((x03.trans x4).trans x5) ((x03.trans x4).dom r5 hr5) upd_same (DQs.app (DQs.ext (x4.trans x5).more _ _ d3) (DQs.ext x5.more _ _ d4))
end
end K2
set_option Elab.async false
set_option linter.all false
set_option maxRecDepth 100000
set_option maxHeartbeats 4000000
namespace K2
open PySem PySem.Spec PyProof.Rows L2 Gx RZ TL
section
variable {P : Program} {w : World} {K : PySem.W.Frag} {mg : Str → Option Value} {base : Heap}
theorem cat_step {c : List Addr} {σ : L2.St} {H : Hp} {Q : VK} {a : Addr} {xs : List V} {ds es : List PyData} {ta : TA} (h0 : σ[0]? = some (some (.ref a))) (ea : H a = some (.lst xs)) (da : DQs c K H ds xs) (g : GDs c K σ H ta es) (hl : ds.length + es.length ≤ 1000)
    (q : ∀ r zs H2, Ext [] H H2 → H2 r = none → DQs c K H2 (ds ++ es) zs → Q (.ref r) (upd H2 r (.lst zs))) : tOp rCat (tVar 0) (tLst ta) σ H Q := by
  refine ⟨_, h0, ?_⟩
  dsimp only
  refine lst_new g (by omega) .refl fun b ys H2 x2 b0 eb db => ?_
  exact ⟨a, b, xs, ys, rfl, rfl, x2.lst ea (by simp), eb, by rw [da.length, db.length]; exact Nat.le_of_lt (small1000 hl), fun r hr => q r _ H2 x2 hr (DQs.app (DQs.ext x2.more _ _ da) db)⟩
abbrev nLines : List Str := ["rows", "word"]
theorem scLines : FnScope nLines [] (defScope sBadLines) := ⟨rfl, rfl, rfl, by decide +kernel, rfl, by decide +kernel, by decide +kernel⟩
def numRow (x : Str) : Str × Str := (("a to b is " : Str) ++ x, "not a number")
theorem bads_eq : bads = (bads.take 14 ++ badNs.map numRow) ++ bads.drop 24 := by decide +kernel
theorem ok_lines {f : Addr} {fd : FuncData} (F : Fun K "_law_bad_lines" "_law_bad_lines" sBadLines f fd) (c : List Addr) : FnOk P w K mg base CX0 1 f fd [] (spTab K bads c) := by
  have nd := scLines.nd
  refine F.ok scLines (fun vs H Q E h => ?_) (fun cdv A outer s H vs Q E hr h => ?_)
  · obtain ⟨rfl, _⟩ := h
    rfl
  · obtain ⟨rfl, ht, q⟩ := h
    apply Exists.intro
    refine And.intro ?hb ?hc
    case hb =>
      apply pss_cons
      · exact ps_set (i := 0) nd rfl (.inl rfl) (pe_lst (pa_cons (pe_lst (pa_cons pe_str (pa_cons pe_str pa_nil))) (pa_cons (pe_lst (pa_cons pe_str (pa_cons pe_str pa_nil))) (pa_cons (pe_lst (pa_cons pe_str (pa_cons pe_str pa_nil))) (pa_cons (pe_lst (pa_cons pe_str (pa_cons pe_str pa_nil))) pa_nil)))))
      apply pss_cons
      · exact ps_set (i := 0) nd rfl (.inl rfl) (pe_op op_cat (pv 0) (pe_lst (pa_cons (pe_lst (pa_cons pe_str (pa_cons pe_str pa_nil))) (pa_cons (pe_lst (pa_cons pe_str (pa_cons pe_str pa_nil))) (pa_cons (pe_lst (pa_cons pe_str (pa_cons pe_str pa_nil))) (pa_cons (pe_lst (pa_cons pe_str (pa_cons pe_str pa_nil))) pa_nil))))))
      apply pss_cons
      · exact ps_set (i := 0) nd rfl (.inl rfl) (pe_op op_cat (pv 0) (pe_lst (pa_cons (pe_lst (pa_cons pe_str (pa_cons pe_str pa_nil))) (pa_cons (pe_lst (pa_cons pe_str (pa_cons pe_str pa_nil))) (pa_cons (pe_lst (pa_cons pe_str (pa_cons pe_str pa_nil))) (pa_cons (pe_lst (pa_cons pe_str (pa_cons pe_str pa_nil))) pa_nil))))))
      apply pss_cons
      · exact ps_set (i := 0) nd rfl (.inl rfl) (pe_op op_cat (pv 0) (pe_lst (pa_cons (pe_lst (pa_cons pe_str (pa_cons pe_str pa_nil))) (pa_cons (pe_lst (pa_cons pe_str (pa_cons pe_str pa_nil))) pa_nil))))
      apply pss_cons
      · exact ps_for PassesOwn.never rfl (pi_list (pe_lst (pa_cons pe_str (pa_cons pe_str (pa_cons pe_str (pa_cons pe_str (pa_cons pe_str (pa_cons pe_str (pa_cons pe_str (pa_cons pe_str (pa_cons pe_str (pa_cons pe_str pa_nil)))))))))))) (pg_name (i := 1) nd rfl (.inl rfl))
          (pss_one (ps_expr (pe_bm PySem.F.plainAttrs_list PySem.F.slot_list_append PySem.F.type_list_append mt_append (pv 0) (pa_cons (pe_lst (pa_cons (pe_op op_add_str pe_str (pv 1)) (pa_cons pe_str pa_nil))) pa_nil))))
      exact pss_one (ps_ret (pe_op op_cat (pv 0) (pe_lst (pa_cons (pe_lst (pa_cons pe_str (pa_cons pe_str pa_nil))) (pa_cons (pe_lst (pa_cons pe_str (pa_cons pe_str pa_nil))) (pa_cons (pe_lst (pa_cons pe_str (pa_cons pe_str pa_nil))) pa_nil))))))
    case hc =>
      try dsimp only
      rw [seq_eq, asg_eq]
      refine lst_new (c := c) (K := K) (H0 := H) (ds := (bads.take 4).map rowD) (gds_cons (gd_row ht _ _) (gds_cons (gd_row ht _ _) (gds_cons (gd_row ht _ _) (gds_cons (gd_row ht _ _) gds_nil)))) (by show 4 ≤ 1000; decide) .refl fun a xs H1 x1 a0 ea da => ?_
      rw [name_eq]
      try dsimp only
      rw [seq_eq, asg_eq]
      have t1 := ht.ext x1
      refine cat_step (c := c) (es := ((bads.drop 4).take 4).map rowD) rfl ea da (gds_cons (gd_row t1 _ _) (gds_cons (gd_row t1 _ _) (gds_cons (gd_row t1 _ _) (gds_cons (gd_row t1 _ _) gds_nil)))) (by decide) fun a2 xs2 H2 x2 hr2 d2 => ?_
      have y2 : Ext [] H2 (upd H2 a2 (.lst xs2)) := .new hr2
      have d2' := DQs.ext y2.more _ _ d2
      have e2 : (upd H2 a2 (.lst xs2)) a2 = some (.lst xs2) := upd_same
      have x02 := (x1.trans x2).trans y2
      generalize (upd H2 a2 (.lst xs2)) = H3 at d2' e2 x02 y2 ⊢
      try dsimp only
      rw [name_eq]
      try dsimp only
      rw [seq_eq, asg_eq]
      have t2 := ht.ext x02
      refine cat_step (c := c) (es := ((bads.drop 8).take 4).map rowD) rfl e2 d2' (gds_cons (gd_row t2 _ _) (gds_cons (gd_row t2 _ _) (gds_cons (gd_row t2 _ _) (gds_cons (gd_row t2 _ _) gds_nil)))) (by decide) fun a3 xs3 H4 x4 hr4 d4 => ?_
      have y4 : Ext [] H4 (upd H4 a3 (.lst xs3)) := .new hr4
      have d4' := DQs.ext y4.more _ _ d4
      have e4 : (upd H4 a3 (.lst xs3)) a3 = some (.lst xs3) := upd_same
      have x04 := (x02.trans x4).trans y4
      generalize (upd H4 a3 (.lst xs3)) = H5 at d4' e4 x04 y4 ⊢
      try dsimp only
      rw [name_eq]
      try dsimp only
      rw [seq_eq, asg_eq]
      have t4 := ht.ext x04
      refine cat_step (c := c) (es := ((bads.drop 12).take 2).map rowD) rfl e4 d4' (gds_cons (gd_row t4 _ _) (gds_cons (gd_row t4 _ _) gds_nil)) (by decide) fun r xs6 H6 x6 hr6 d6 => ?_
      have y6 : Ext [] H6 (upd H6 r (.lst xs6)) := .new hr6
      have e6 : (upd H6 r (.lst xs6)) r = some (.lst xs6) := upd_same
      have x06 := x04.trans x6
      have hr0 := x06.dom r hr6
      have t6 : Trk (r :: c) (upd H6 r (.lst xs6)) := fun b hb => by
        rcases List.mem_cons.mp hb with rfl | hb
        · rw [upd_same]; exact fun z => by cases z
        · exact (ht.ext (x06.trans y6)) b hb
      clear d4 d4' d2 d2' da ea e2 e4 hr2 hr4 t1 t2 t4 x1 x2 x4 y2 y4 x02 x04 a0
      generalize (upd H6 r (.lst xs6)) = H7 at y6 e6 t6 ⊢
      try dsimp only
      rw [name_eq]
      try dsimp only
      rw [seq_eq]
      refine ⟨by show 10 ≤ sizeLine; decide, fun wl hwl => ?_⟩
      have y8 : Ext [] H7 (upd H7 wl (.lst (badNs.map V.str))) := .new hwl
      have ew : (upd H7 wl (.lst (badNs.map V.str))) wl = some (.lst (badNs.map V.str)) := upd_same
      have e8 := y8.lst e6 (by simp)
      have t8 := t6.ext y8
      have nwr : wl ≠ r := (ne_of_none e6 hwl).symm
      have x68 := y6.trans y8
      refine ⟨wl, rfl, ⟨badNs.map V.str, SqL.of ew⟩, ?_⟩
      show ∃ W : Nat → Nat → L2.St → Hp → Prop, (∃ m, W 0 m _ (upd H7 wl (.lst (badNs.map V.str)))) ∧ _
      generalize (upd H7 wl (.lst (badNs.map V.str))) = H8 at y8 ew e8 t8 x68 ⊢
      refine for_list (xs := badNs.map V.str) (fun i σ H9 => ∃ y1 ns, σ = [some (.ref r), y1] ∧ Ext [] H6 H9 ∧ H9 r = some (.lst (xs6 ++ ns)) ∧ H9 wl = some (.lst (badNs.map V.str)) ∧ DQs (r :: c) K H9 ((badNs.take i).map fun x => rowD (numRow x)) ns ∧ Trk (r :: c) H9)
        ⟨_, [], rfl, x68, by rw [List.append_nil]; exact e8, ew, DQs.nil, t8⟩ (fun i σ H9 _ h9 => let ⟨_, _, _, _, _, e, _⟩ := h9; SqL.of e) (fun i v σ H9 hv h9 => ?_) (fun σ H9 h9 => ?_)
      · obtain ⟨y1, ns, rfl, x9, e9, ew9, d9, t9⟩ := h9
        obtain ⟨hi, rfl⟩ := map_itemS hv
        have hln : ∀ z ∈ badNs, z.length ≤ 8 := by decide +kernel
        have hz := hln badNs[i] (List.getElem_mem hi)
        refine ⟨_, rfl, .inl ⟨rfl, _, SqL.of e9⟩, ?_⟩
        dsimp only
        refine lst_new (c := r :: c) (K := K) (H0 := H9) (ds := [.str (("a to b is " : Str) ++ badNs[i]), .str "not a number"]) (gds_cons ?gword (gds_cons (gd_str _) gds_nil)) (by show 2 ≤ 1000; decide) .refl fun t ts H10 x10 t0 et dt => ?_
        case gword =>
          intro HH QQ xx qq
          exact ⟨_, rfl, _, _, rfl, rfl, by show 10 + badNs[i].length ≤ 2 ^ 24; omega, qq _ HH .refl (DQ.str _)⟩
        have e10 := x10.lst e9 (by simp)
        have ln : ns.length = i := by
          rw [d9.length, List.length_map, List.length_take]
          omega
        have l6 : xs6.length = 14 := d6.length
        have tnc : t ∉ r :: c := fun z => t9 t z t0
        refine ⟨r, _, _, rfl, rfl, e10, by rw [List.length_append, l6, ln]; exact small1000 (by have : badNs.length = 10 := rfl; omega), ?_⟩
        have x11 : Ext [r] H10 (upd H10 r (.lst (xs6 ++ ns ++ [.ref t]))) := .set (by simp) e10
        have x11c : Ext (r :: c) H10 (upd H10 r (.lst (xs6 ++ ns ++ [.ref t]))) := x11.mono (by simp)
        have dn : DQ (r :: c) K H10 (rowD (numRow badNs[i])) (.ref t) := DQ.lst tnc (SqL.of et) dt
        refine ⟨_, ns ++ [.ref t], rfl, (x9.trans x10).own hr6 e10, by rw [upd_same, List.append_assoc], x11.lst (x10.lst ew9 (by simp)) (by simpa using nwr), ?_, t9.ext (x10.more.trans x11c)⟩
        rw [List.take_add_one, List.getElem?_eq_getElem hi, List.map_append]
        exact DQs.app (DQs.ext (x10.more.trans x11c) _ _ d9) (DQs.cons (DQ.ext x11c _ _ dn) DQs.nil)
      · obtain ⟨y1, ns, rfl, x9, e9, ew9, d9, t9⟩ := h9
        rw [List.length_map, List.take_length] at d9
        have d69 : DQs c K H9 ((bads.take 14).map rowD) xs6 := DQs.ext x9.more _ _ d6
        have d9c : DQs c K H9 ((badNs.map numRow).map rowD) ns := by
          rw [List.map_map]
          exact DQs.sub (fun a h => List.mem_cons_of_mem _ h) _ _ d9
        have tc : Trk c H9 := fun b hb => t9 b (List.mem_cons_of_mem _ hb)
        have dall := DQs.app d69 d9c
        refine cat_step (c := c) (es := (bads.drop 24).map rowD) rfl e9 dall (gds_cons (gd_row tc _ _) (gds_cons (gd_row tc _ _) (gds_cons (gd_row tc _ _) gds_nil))) (by decide) fun r5 zs H10 x10 hr10 d10 => ?_
        have y10 : Ext [] H10 (upd H10 r5 (.lst zs)) := .new hr10
        have xall := (x06.trans x9).trans x10
        refine q r5 zs _ (xall.trans y10) (xall.dom r5 hr10) upd_same ?_
        rw [bads_eq, List.map_append, List.map_append]
        exact DQs.ext y10.more _ _ d10
end
end K2
set_option Elab.async false
set_option linter.all false
set_option maxRecDepth 100000
set_option maxHeartbeats 4000000
namespace K2
open PySem PySem.Spec PyProof.Rows L2 Gx RZ TL
/-! ### the law's texts -/
def RdErr (t : Str) (n : Int) (s : Str) : Prop := TxOk t ∧ parseR t = .error (n, s)
def RdOk (t : Str) : Prop := TxOk t ∧ ∃ st, parseR t = .ok st
theorem allowed_len {t : Str} (h : allowed t = true) : t.length ≤ 1000000 := by
  unfold allowed at h
  rw [Bool.and_eq_true, decide_eq_true_eq] at h
  omega
theorem TextOf.tx {t : Str} {ls : List Str} (h : TextOf t ls) : TxOk t := ⟨allowed_len h.al, by rw [h.sp]; exact h.few⟩
theorem blank_ok {l : Str} (h : l ∈ blanks) : wordsOf l = [] ∧ goodL l = true := by
  have := List.all_eq_true.mp f_blanks l h
  rw [Bool.and_eq_true, decide_eq_true_eq] at this
  exact this
theorem bl_loop (b i : Nat) (st : St2) : loopP i (blanks.take b) st = .ok st := blank_loop i st fun x hx => (blank_ok (List.mem_of_mem_take hx)).1
theorem fact_first {b : Nat} (hb : b ≤ 4) {r : Str × Str} (hr : r ∈ firsts) : RdErr (Txt.join "\n" (blanks.take b ++ [r.1, "zz"])) ((b : Nat) + 1) r.2 := by
  have f := List.all_eq_true.mp f_firsts r hr
  simp only [Bool.and_eq_true, decide_eq_true_eq] at f
  obtain ⟨f1, f2, f3, f4⟩ := f
  have lb : (blanks.take b).length = b := by rw [List.length_take]; show min b 4 = b; omega
  have T : TextOf (Txt.join "\n" (blanks.take b ++ [r.1, "zz"])) (blanks.take b ++ [r.1, "zz"]) := text_lines (by simp) (by rw [List.length_append, lb]; show b + 2 ≤ 40; omega) fun l hl => by
    rcases List.mem_append.mp hl with hl | hl
    · exact (blank_ok (List.mem_of_mem_take hl)).2
    · simp only [List.mem_cons, List.not_mem_nil, or_false] at hl
      rcases hl with rfl | rfl
      · exact f4
      · exact f_zz
  refine ⟨T.tx, T.err ?_⟩
  rw [loopP_ok (bl_loop b 0 ([], [])), lb, Nat.zero_add]
  refine loopP_err ?_
  unfold stepP
  rw [if_neg f1, if_pos rfl, f2, if_pos f3]
theorem good_mem {l : Str} (h : l ∈ goods) : goodL l = true := List.all_eq_true.mp f_goods l h
theorem goods_loop {r i : Nat} (h : r ≤ 4) : loopP i (goods.take (1 + r)) ([], []) = .ok (abc, rds.take r) := by
  have := List.all_eq_true.mp f_loop r (List.mem_range.mpr (by omega))
  exact loopP_idx (isOk_eq this)
theorem conn_rds (r : Nat) (h : 2 ≤ r) : ∀ i, i < 3 → Conn (rds.take r) 0 i := by
  obtain ⟨q, rfl⟩ : ∃ q, r = q + 2 := ⟨r - 2, by omega⟩
  have e : rds.take (q + 2) = (0, 1, 5) :: (2, 0, -1000000) :: ([(1, 0, 0), (1, 0, 0)] : List Rd3).take q := rfl
  rw [e]
  intro i hi
  have h0 : Conn ((0, 1, 5) :: (2, 0, -1000000) :: ([(1, 0, 0), (1, 0, 0)] : List Rd3).take q) 0 0 := .refl
  have : i = 0 ∨ i = 1 ∨ i = 2 := by omega
  rcases this with rfl | rfl | rfl
  · exact .refl
  · exact .step h0 ⟨(0, 1, 5), by simp, .inl ⟨rfl, rfl⟩⟩
  · exact .step h0 ⟨(2, 0, -1000000), by simp, .inr ⟨rfl, rfl⟩⟩
theorem fact_lines {b k : Nat} (hb : b ≤ 4) (hk : k ≤ 2) : RdOk (Txt.join "\n" (blanks.take b ++ goods.take (3 + k))) := by
  have lb : (blanks.take b).length = b := by rw [List.length_take]; show min b 4 = b; omega
  have T : TextOf (Txt.join "\n" (blanks.take b ++ goods.take (3 + k))) (blanks.take b ++ goods.take (3 + k)) := text_lines (by
      intro z
      have := congrArg List.length z
      rw [List.length_append, List.length_take] at this
      simp only [List.length_nil] at this
      have e : goods.length = 5 := rfl
      rw [List.length_take] at this
      omega) (by rw [List.length_append, lb, List.length_take]; omega) fun l hl => by
    rcases List.mem_append.mp hl with hl | hl
    · exact (blank_ok (List.mem_of_mem_take hl)).2
    · exact good_mem (List.mem_of_mem_take hl)
  have hl : loopP 0 (blanks.take b ++ goods.take (3 + k)) ([], []) = .ok (abc, rds.take (2 + k)) := by
    rw [loopP_ok (bl_loop b 0 ([], [])), show 3 + k = 1 + (2 + k) by omega]
    exact goods_loop (by omega)
  exact ⟨T.tx, _, T.okR hl (by show ¬ abc = []; decide) (joined_of (conn_rds (2 + k) (by omega)))⟩
theorem fact_bad {b k r : Nat} (hb : b ≤ 4) (hk : k ≤ 2) (hr : r < 3 + k) {x : Str × Str} (hx : x ∈ bads) {rest : List Str} (hrest : ∀ l ∈ rest, goodL l = true) (hlen : rest.length ≤ 10) :
    RdErr (Txt.join "\n" (blanks.take b ++ goods.take (1 + r) ++ [x.1] ++ rest ++ [("zz" : Str)])) (((b + 1 + r : Nat) : Int) + 1) x.2 := by
  have f := List.all_eq_true.mp f_bads x hx
  simp only [Bool.and_eq_true, decide_eq_true_eq] at f
  obtain ⟨f1, f2, f3, f4⟩ := f
  have f2' := List.all_eq_true.mp f2 r (List.mem_range.mpr (by omega))
  rw [decide_eq_true_eq] at f2'
  have lb : (blanks.take b).length = b := by rw [List.length_take]; show min b 4 = b; omega
  have lg : (goods.take (1 + r)).length = 1 + r := by rw [List.length_take]; show min (1 + r) 5 = 1 + r; omega
  have lr : (rds.take r).length = r := by rw [List.length_take]; show min r 4 = r; omega
  have T : TextOf (Txt.join "\n" (blanks.take b ++ goods.take (1 + r) ++ [x.1] ++ rest ++ [("zz" : Str)])) (blanks.take b ++ goods.take (1 + r) ++ [x.1] ++ rest ++ [("zz" : Str)]) := text_lines (by simp) (by
      simp only [List.length_append, lb, lg, List.length_singleton]
      omega) fun l hl => by
    simp only [List.mem_append, List.mem_singleton] at hl
    rcases hl with (((hl | hl) | rfl) | hl) | rfl
    · exact (blank_ok (List.mem_of_mem_take hl)).2
    · exact good_mem (List.mem_of_mem_take hl)
    · exact f4
    · exact hrest l hl
    · exact f_zz
  refine ⟨T.tx, T.err ?_⟩
  rw [List.append_assoc, List.append_assoc, List.append_assoc, loopP_ok (bl_loop b 0 ([], [])), loopP_ok (goods_loop (i := 0 + (blanks.take b).length) (by omega : r ≤ 4)), lb, lg]
  have e : 0 + b + (1 + r) = b + 1 + r := by omega
  rw [e]
  refine loopP_err ?_
  unfold stepP
  rw [if_neg f1, if_neg (show ¬ abc = [] by decide), lr, f2', if_pos f3]
def isErr (n : Int) (s : Str) : Except (Int × Str) St2 → Bool
  | .error (m, r) => decide (m = n) && decide (r = s)
  | .ok _ => false
theorem isErr_eq {n : Int} {s : Str} {r : Except (Int × Str) St2} (h : isErr n s r = true) : r = .error (n, s) := by
  cases r with
  | error e =>
    obtain ⟨m, x⟩ := e
    unfold isErr at h
    rw [Bool.and_eq_true, decide_eq_true_eq, decide_eq_true_eq] at h
    rw [h.1, h.2]
  | ok _ => cases h
def txOkB (t : Str) : Bool := decide (t.length ≤ 1000000) && (Txt.split t "\n").all fun l => decide ((wordsOf l).length ≤ 1000)
theorem txOk_of {t : Str} (h : txOkB t = true) : TxOk t := by
  unfold txOkB at h
  rw [Bool.and_eq_true, decide_eq_true_eq] at h
  exact ⟨h.1, fun l hl => of_decide_eq_true (List.all_eq_true.mp h.2 l hl)⟩
theorem err_of {t : Str} {n : Int} {s : Str} (h1 : txOkB t = true) (h2 : allowed t = true) (h3 : isErr n s (loopP 0 (Txt.split t "\n") ([], [])) = true) : RdErr t n s := by
  refine ⟨txOk_of h1, ?_⟩
  unfold parseR
  rw [if_neg (by rw [h2]; decide), isErr_eq h3]
  rfl
set_option maxHeartbeats 0
theorem f_many : ((List.range 5).all fun m => txOkB (Txt.mul "\n" (m : Nat)) && (allowed (Txt.mul "\n" (m : Nat)) && (isOk ([], []) (loopP 0 (Txt.split (Txt.mul "\n" (m : Nat)) "\n") ([], [])) && decide (Txt.count (Txt.mul "\n" (m : Nat)) "\n" = (m : Nat))))) = true := by decide +kernel
theorem f_apart : ((List.range 5).all fun m => txOkB (Txt.mul "\n" (m : Nat) ++ "marks a b c\na to b is 5") && (allowed (Txt.mul "\n" (m : Nat) ++ "marks a b c\na to b is 5") && isOk (abc, [(0, 1, 5)]) (loopP 0 (Txt.split (Txt.mul "\n" (m : Nat) ++ "marks a b c\na to b is 5") "\n") ([], [])))) = true := by decide +kernel
theorem f_tab : (([("\t" : Str), "a\tb"] : List Str).all fun x => txOkB (("zz\n" : Str) ++ x) && decide (allowed (("zz\n" : Str) ++ x) = false)) = true := by decide +kernel
end K2
set_option Elab.async false
set_option linter.all false
set_option maxRecDepth 100000
set_option maxHeartbeats 4000000
namespace K2
open PySem PySem.Spec PyProof.Rows L2 Gx RZ TL
theorem op_mul_strB {X : Cx} : OpR X (binaryOp .Mult) (fun x y H Q => ∃ (z : Str) (k : Int), x = .str z ∧ y = .int k ∧ 0 ≤ k ∧ k ≤ 20000 ∧ z.length ≤ 20 ∧ Q (.str (Txt.mul z k)) H) := by
  intro pins s σ H x y v u Q I rx ry h
  obtain ⟨z, k, rfl, rfl, h0, h1, h2, q⟩ := h
  obtain ⟨t, rfl⟩ := rx
  obtain ⟨t', rfl⟩ := ry
  exact SB.mul (mulOk_of 20 20000 (by omega) (by omega) (by omega) (by decide) (by decide)) fun t' k' => ⟨.str (Txt.mul z k), H, I.tok _, ⟨_, rfl⟩, q⟩
/-! ### many readings -/
theorem w1 : wordsOf "a to b is 1" = ([("a" : Str), "to", "b", "is", "1"] : List Str) := by decide +kernel
theorem fr1 (many : Nat) : faultReading ["a", "to", "b", "is", "1"] ["a", "b"] many = (if 80 ≤ many then ("too many" : Str) else "") := by
  have c1 : ¬ (("to" : Str) ≠ "to" ∨ ("is" : Str) ≠ "is") := by decide +kernel
  have c2 : ¬ (("a" : Str) ∉ (["a", "b"] : List Str) ∨ ("b" : Str) ∉ (["a", "b"] : List Str)) := by decide +kernel
  have c3 : ¬ (("a" : Str) = "b") := by decide +kernel
  have c4 : ¬ (isNum 7 "1" = false) := by decide +kernel
  have c5 : ¬ ¬ (-1000000 ≤ wordNum "1" ∧ wordNum "1" ≤ 1000000) := by decide +kernel
  unfold faultReading
  dsimp only
  rw [if_neg c1, if_neg c2, if_neg c3, if_neg c4, if_neg c5]
theorem rd1 : readR ["a", "to", "b", "is", "1"] ["a", "b"] = (0, 1, 1) := by decide +kernel
theorem step1 {n : Int} {rs : List Rd3} (h : rs.length < 80) : stepP n "a to b is 1" (["a", "b"], rs) = .ok (["a", "b"], rs ++ [(0, 1, 1)]) := by
  unfold stepP
  dsimp only
  have e : (if 80 ≤ rs.length then ("too many" : Str) else "") = "" := if_neg (by omega)
  rw [w1, if_neg (by simp), if_neg (by simp), fr1, e, if_neg (by simp), rd1]
theorem rep_loop : ∀ (n i : Nat) (rs : List Rd3), rs.length + n ≤ 80 → loopP i (List.replicate n "a to b is 1") (["a", "b"], rs) = .ok (["a", "b"], rs ++ List.replicate n (0, 1, 1))
  | 0, i, rs, _ => by rw [List.replicate_zero, List.replicate_zero, List.append_nil]; rfl
  | n + 1, i, rs, h => by
    rw [List.replicate_succ, loopP_step (step1 (by omega)), rep_loop n (i + 1) (rs ++ [(0, 1, 1)]) (by rw [List.length_append, List.length_singleton]; omega), List.append_assoc, List.replicate_succ]
    rfl
def linesN (n : Nat) : List Str := ("marks a b" : Str) :: (List.replicate n ("a to b is 1" : Str) ++ [("" : Str)])
theorem tl_mulN (x : Str) (n : Nat) (hn : 2 ≤ n) (hx : 0 < x.length) : tl (Txt.mul x (n : Int)) = (List.replicate n (tl x)).flatten := by
  unfold Txt.mul
  rw [if_neg (by omega), if_neg]
  · show ((List.replicate (n : Int).toNat x.cps).foldl (· ++ ·) #[]).toList = _
    rw [foldl_app, Int.toNat_natCast]
    rfl
  · intro h
    rcases Bool.or_eq_true _ _ |>.mp h with e | e
    · have := eq_of_beq e; omega
    · have := eq_of_beq e; omega
theorem shift_nl (L : List Nat) : ∀ n, [10] ++ (List.replicate n (L ++ [10])).flatten = (List.replicate n ([10] ++ L)).flatten ++ [10]
  | 0 => rfl
  | n + 1 => by
    rw [List.replicate_succ, List.flatten_cons, List.replicate_succ, List.flatten_cons, List.append_assoc ([10] ++ L), ← shift_nl L n]
    simp only [List.append_assoc]
theorem text_n (n : Nat) (hn : 2 ≤ n) : ("marks a b\n" : Str) ++ Txt.mul "a to b is 1\n" (n : Nat) = Txt.join "\n" (linesN n) := by
  refine tl_inj ?_
  rw [join_eq, tl_join, tl_append, tl_mulN _ n hn (by decide)]
  show _ = joinL [10] (tl ("marks a b" : Str) :: (List.replicate n ("a to b is 1" : Str) ++ [("" : Str)]).map tl)
  rw [joinL_flat, List.map_append, List.map_replicate, List.map_append, List.map_replicate, List.flatten_append]
  have e1 : tl ("marks a b\n" : Str) = tl ("marks a b" : Str) ++ [10] := by decide +kernel
  have e2 : tl ("a to b is 1\n" : Str) = tl ("a to b is 1" : Str) ++ [10] := by decide +kernel
  rw [e1, e2, List.append_assoc, shift_nl]
  rfl
theorem lines_good : goodL "marks a b" = true ∧ goodL "a to b is 1" = true ∧ goodL "" = true ∧ (tl ("a to b is 1\n" : Str)).all okSign = true ∧ (tl ("marks a b\n" : Str)).all okSign = true := by decide +kernel
theorem textN (n : Nat) (hn : 2 ≤ n) (h : n ≤ 800) : TextOf (("marks a b\n" : Str) ++ Txt.mul "a to b is 1\n" (n : Nat)) (linesN n) := by
  obtain ⟨g1, g2, g3, g4, g5⟩ := lines_good
  have hg : ∀ l ∈ linesN n, goodL l = true := fun l hl => by
    unfold linesN at hl
    rcases List.mem_cons.mp hl with rfl | hl
    · exact g1
    · rcases List.mem_append.mp hl with hl | hl
      · rw [List.eq_of_mem_replicate hl]; exact g2
      · rw [List.mem_singleton.mp hl]; exact g3
  refine ⟨?_, ?_, fun l hl => ?_⟩
  · have hl : (("marks a b\n" : Str) ++ Txt.mul "a to b is 1\n" (n : Nat)).length = 10 + n * 12 := by
      rw [← tl_len, tl_append, tl_mulN _ n hn (by decide), List.length_append, List.length_flatten, List.map_replicate, List.sum_replicate_nat]
      rfl
    unfold allowed
    rw [hl, decide_eq_true (by omega), Bool.true_and, tl_append, tl_mulN _ n hn (by decide), List.all_append, g5, Bool.true_and, List.all_eq_true]
    intro c hc
    obtain ⟨q, hq, hc⟩ := List.mem_flatten.mp hc
    rw [List.eq_of_mem_replicate hq] at hc
    exact List.all_eq_true.mp g4 c hc
  · rw [text_n n hn]
    refine split_lines (by simp [linesN]) fun l hl => ?_
    have := hg l hl
    unfold goodL at this
    rw [Bool.and_eq_true] at this
    exact this.1
  · have := hg l hl
    unfold goodL at this
    rw [Bool.and_eq_true, Bool.and_eq_true, decide_eq_true_eq] at this
    omega
theorem head_loop (ls : List Str) : loopP 0 ("marks a b" :: ls) ([], []) = loopP 1 ls (["a", "b"], []) := by
  have s1 : stepP (((0 : Nat) : Int) + 1) "marks a b" ([], []) = .ok (["a", "b"], []) := isOk_eq (by decide +kernel)
  exact loopP_step s1
theorem fact_80 : RdOk ("marks a b\n" ++ Txt.mul "a to b is 1\n" ((80 : Nat) : Int)) := by
  have T := textN 80 (by decide) (by decide)
  have hl : loopP 0 (linesN 80) ([], []) = .ok (["a", "b"], List.replicate 80 (0, 1, 1)) := by
    unfold linesN
    rw [head_loop, loopP_ok (rep_loop 80 1 [] (by decide)), List.nil_append]
    exact blank_loop _ _ fun x hx => by rw [List.mem_singleton.mp hx]; decide +kernel
  refine ⟨T.tx, _, T.okR hl (by simp) (joined_of fun i hi => ?_)⟩
  have hi2 : i < 2 := hi
  have : i = 0 ∨ i = 1 := by omega
  rcases this with rfl | rfl
  · exact .refl
  · refine .step .refl ⟨(0, 1, 1), ?_, .inl ⟨rfl, rfl⟩⟩
    show (0, 1, 1) ∈ List.replicate 80 ((0, 1, 1) : Rd3)
    exact List.mem_replicate.mpr ⟨by decide, rfl⟩
theorem fact_81 : RdErr ("marks a b\n" ++ Txt.mul "a to b is 1\n" ((81 : Nat) : Int)) 82 "too many" := by
  have T := textN 81 (by decide) (by decide)
  refine ⟨T.tx, T.err ?_⟩
  unfold linesN
  have e : List.replicate 81 ("a to b is 1" : Str) ++ [("" : Str)] = List.replicate 80 ("a to b is 1" : Str) ++ [("a to b is 1" : Str), ("" : Str)] := by
    rw [show (81 : Nat) = 80 + 1 from rfl, ← List.replicate_append_replicate, List.append_assoc]
    rfl
  rw [head_loop, e, loopP_ok (rep_loop 80 1 [] (by decide)), List.nil_append]
  refine loopP_err ?_
  unfold stepP
  dsimp only
  rw [w1, if_neg (by simp), if_neg (by simp), List.length_replicate, fr1, if_pos (by decide), if_pos (by decide), List.length_replicate]
  rfl
theorem fact_many {m : Nat} (hm : m < 5) : RdErr (Txt.mul "\n" (m : Nat)) ((m : Nat) + 1) "marks expected" := by
  have h := List.all_eq_true.mp f_many m (List.mem_range.mpr hm)
  simp only [Bool.and_eq_true, decide_eq_true_eq] at h
  obtain ⟨h1, h2, h3, h4⟩ := h
  refine ⟨txOk_of h1, ?_⟩
  unfold parseR
  rw [if_neg (by rw [h2]; decide), isOk_eq h3]
  unfold finP
  dsimp only
  rw [if_pos rfl, h4]
theorem fact_apart {m : Nat} (hm : m < 5) : RdErr (Txt.mul "\n" (m : Nat) ++ "marks a b c\na to b is 5") 0 "not joined" := by
  have h := List.all_eq_true.mp f_apart m (List.mem_range.mpr hm)
  simp only [Bool.and_eq_true] at h
  obtain ⟨h1, h2, h3⟩ := h
  refine ⟨txOk_of h1, ?_⟩
  unfold parseR
  rw [if_neg (by rw [h2]; decide), isOk_eq h3]
  have hj : joinedR [(0, 1, 5)] 3 = false := apart_of (i := 2) (by decide) fun h => by
    have inv : ∀ j, Conn [(0, 1, 5)] 0 j → j ≤ 1 := fun j hc => by
      induction hc with
      | refl => omega
      | step _ e _ =>
        obtain ⟨r, hr, h⟩ := e
        rw [List.mem_singleton.mp hr] at h
        rcases h with ⟨_, rfl⟩ | ⟨_, rfl⟩ <;> decide
    have := inv 2 h
    omega
  unfold finP
  dsimp only
  rw [if_neg (by decide), if_pos (show joinedR [(0, 1, 5)] abc.length = false from hj)]
theorem fact_tab {x : Str} (h : x ∈ (["\t", "a\tb"] : List Str)) : RdErr (("zz\n" : Str) ++ x) 1 "text not allowed" := by
  have h := List.all_eq_true.mp f_tab x h
  simp only [Bool.and_eq_true, decide_eq_true_eq] at h
  refine ⟨txOk_of h.1, ?_⟩
  unfold parseR
  rw [if_pos h.2]
/-! ### a long comment -/
theorem tl_mul_hash (n : Nat) : tl (Txt.mul "#" (n : Int)) = List.replicate n 35 := by
  unfold Txt.mul
  split
  · have : n = 0 := by omega
    subst this
    rfl
  · split
    · rename_i h
      have h2 : n = 1 := by
        rcases Bool.or_eq_true _ _ |>.mp h with e | e
        · have := eq_of_beq e; omega
        · exact absurd e (by decide)
      subst h2
      rfl
    · show ((List.replicate (n : Int).toNat ("#" : Str).cps).foldl (· ++ ·) #[]).toList = _
      rw [foldl_app, Int.toNat_natCast]
      show [] ++ (List.replicate n [35]).flatten = _
      rw [List.nil_append, flat_one]
theorem wfold_hash : ∀ (n : Nat) (acc : List Nat), (List.replicate n 35).foldl wstep ([], acc) = ([], acc ++ List.replicate n 35)
  | 0, acc => by simp
  | n + 1, acc => by
    rw [List.replicate_succ, List.foldl_cons]
    have : wstep ([], acc) 35 = ([], acc ++ [35]) := by
      unfold wstep
      rw [if_neg (by decide +kernel)]
    rw [this, wfold_hash n, List.append_assoc]
    rfl
theorem words_hash {n : Nat} (hn : 0 < n) : Txt.words (Txt.mul "#" (n : Nat)) = [Txt.mul "#" (n : Nat)] := by
  have e := words_tl (Txt.mul "#" (n : Nat))
  rw [tl_mul_hash, wfold_hash, List.nil_append] at e
  have e2 : wfin ([], List.replicate n 35) = [List.replicate n 35] := by
    unfold wfin
    rw [if_neg]
    · rfl
    · intro z
      have := congrArg List.length z
      rw [List.length_replicate] at this
      simp at this
      omega
  rw [e2] at e
  generalize Txt.words (Txt.mul "#" (n : Nat)) = ws at e
  cases ws with
  | nil => exact absurd (congrArg List.length e) (by simp)
  | cons y r =>
    cases r with
    | cons z r2 => exact absurd (congrArg List.length e) (by simp)
    | nil =>
      rw [List.map_cons, List.map_nil] at e
      have e3 := (List.cons.inj e).1
      congr 1
      exact tl_inj (by rw [e3, tl_mul_hash])
theorem wordsOf_hash {n : Nat} (hn : 0 < n) : wordsOf (Txt.mul "#" (n : Nat)) = [] := by
  unfold wordsOf
  rw [words_hash hn]
  unfold cutW
  rw [if_pos]
  unfold hashed
  rw [tl_mul_hash]
  obtain ⟨m, rfl⟩ : ∃ m, n = m + 1 := ⟨n - 1, by omega⟩
  rfl
theorem hash_text (n : Nat) : ("marks a\n" : Str) ++ Txt.mul "#" (n : Nat) = Txt.join "\n" ([("marks a" : Str), Txt.mul "#" (n : Nat)] : List Str) := by
  refine tl_inj ?_
  rw [join_eq, tl_join, tl_append]
  show _ = tl ("marks a" : Str) ++ ([10] ++ tl (Txt.mul "#" (n : Nat)))
  have e : tl ("marks a\n" : Str) = tl ("marks a" : Str) ++ [10] := by decide +kernel
  rw [e, List.append_assoc]
theorem hash_split (n : Nat) : Txt.split (("marks a\n" : Str) ++ Txt.mul "#" (n : Nat)) "\n" = ([("marks a" : Str), Txt.mul "#" (n : Nat)] : List Str) := by
  rw [hash_text]
  refine split_lines (by simp) fun l hl => ?_
  simp only [List.mem_cons, List.not_mem_nil, or_false] at hl
  rcases hl with rfl | rfl
  · decide +kernel
  · unfold noNl
    rw [tl_mul_hash, List.all_eq_true]
    intro c hc
    rw [List.eq_of_mem_replicate hc]
    decide
theorem hash_len (n : Nat) : (("marks a\n" : Str) ++ Txt.mul "#" (n : Nat)).length = 8 + n := by
  rw [← tl_len, tl_append, List.length_append, tl_mul_hash, List.length_replicate]
  rfl
theorem hash_tx {n : Nat} (hn : 0 < n) (h : n ≤ 20000) : TxOk (("marks a\n" : Str) ++ Txt.mul "#" (n : Nat)) := by
  refine ⟨by rw [hash_len]; omega, ?_⟩
  rw [hash_split]
  intro l hl
  simp only [List.mem_cons, List.not_mem_nil, or_false] at hl
  rcases hl with rfl | rfl
  · decide +kernel
  · rw [wordsOf_hash hn]
    decide
theorem fact_hash_no {n : Nat} (hn : 9993 ≤ n) (h : n ≤ 20000) : RdErr (("marks a\n" : Str) ++ Txt.mul "#" (n : Nat)) 1 "text not allowed" := by
  refine ⟨hash_tx (by omega) h, ?_⟩
  unfold parseR
  rw [if_pos]
  unfold allowed
  rw [hash_len, decide_eq_false (by omega), Bool.false_and]
theorem fact_hash {n : Nat} (hn : 0 < n) (h : n ≤ 9992) : RdOk (("marks a\n" : Str) ++ Txt.mul "#" (n : Nat)) := by
  have hal : allowed (("marks a\n" : Str) ++ Txt.mul "#" (n : Nat)) = true := by
    unfold allowed
    rw [hash_len, decide_eq_true (by omega), Bool.true_and, tl_append, tl_mul_hash, List.all_append, Bool.and_eq_true]
    refine ⟨by decide +kernel, List.all_eq_true.mpr fun c hc => ?_⟩
    rw [List.eq_of_mem_replicate hc]
    decide
  refine ⟨hash_tx hn (by omega), (["a"], []), ?_⟩
  unfold parseR
  rw [if_neg (by rw [hal]; decide), hash_split]
  have hl : loopP 0 ["marks a", Txt.mul "#" (n : Nat)] ([], []) = .ok (["a"], []) := by
    have s1 : stepP (((0 : Nat) : Int) + 1) "marks a" ([], []) = .ok (["a"], []) := isOk_eq (by decide +kernel)
    rw [loopP_step s1]
    have s2 : stepP (((1 : Nat) : Int) + 1) (Txt.mul "#" (n : Nat)) (["a"], []) = .ok (["a"], []) := by
      unfold stepP
      rw [if_pos (wordsOf_hash hn)]
    rw [loopP_step s2]
    rfl
  rw [hl]
  have hj : joinedR [] 1 = true := joined_of fun i hi => by
    obtain rfl : i = 0 := by omega
    exact .refl
  unfold finP
  dsimp only
  rw [if_neg (by simp), if_neg (by show ¬ joinedR [] 1 = false; rw [hj]; decide)]
end K2
set_option Elab.async false
set_option linter.all false
set_option maxRecDepth 100000
set_option maxHeartbeats 8000000
namespace K2
open PySem PySem.Spec PyProof.Rows L2 Gx RZ TL
abbrev nLaw : List Str := ["script", "box", "blank", "first", "reason", "lines", "at", "wrong", "many", "size", "text"]
theorem scLaw : FnScope nLaw ["script"] (defScope sLaw) := ⟨rfl, rfl, rfl, by decide +kernel, rfl, by decide +kernel, by decide +kernel⟩
theorem neF {A B : Prop} {d e : PyData} (h : PyData.eqv d e = true) (hB : B) : if (!PyData.eqv d e) = true then A else B := by
  rw [h]
  exact iteF hB
theorem eqv_two (i : Int) (x : Str) : PyData.eqv (.tuple [.int i, .str x]) (.tuple [.int i, .str x]) = true := by
  simp [PyData.eqv, PyData.eqvAll]
theorem shaped_two (i : Int) (x : Str) (h : SeqAt.shaped (.str x) = true) : SeqAt.shaped (.tuple [.int i, .str x]) = true := by
  have h1 := SeqAt.canLay_of_shaped h
  unfold SeqAt.shaped
  simp only [PyData.canLay0, PyData.canLayAll0, PyData.depth, PyData.depthAll] at h1 ⊢
  simp [h1]
theorem Box.new {H : Hp} {b d p : Addr} (h : Box H b d) (hp : H p = none) : p ≠ b := fun z => by
  obtain ⟨_, _, e, _⟩ := h
  rw [z, e] at hp
  cases hp
theorem nat_of {i : Int} (h : 0 ≤ i) : ∃ n : Nat, i = (n : Int) := ⟨i.toNat, (Int.toNat_of_nonneg h).symm⟩
theorem lines_eq (n k : Nat) (hk : k ≤ 2) : ((blanks.take n).map V.str ++ [V.str "marks a b c", V.str "a to b is 5", V.str "c to a is -1000000"]) ++ (List.replicate k [V.str "b to a is 0"]).flatten = (blanks.take n ++ goods.take (3 + k)).map V.str := by
  rw [List.map_append, List.append_assoc]
  congr 1
  have : k = 0 ∨ k = 1 ∨ k = 2 := by omega
  rcases this with rfl | rfl | rfl <;> rfl
theorem cat_len (a b : Str) : (a ++ b).length = a.length + b.length := by rw [← tl_len, tl_append, List.length_append, tl_len, tl_len]
theorem cat_fit {a b : Str} (h : TxOk (a ++ b)) : a.length + b.length ≤ sizeLine := by
  rw [← cat_len]
  exact Nat.le_trans h.len (by show 1000000 ≤ 2 ^ 24; decide)
theorem sh_tabs : ((firsts ++ bads).all fun r => SeqAt.shaped (.str r.2)) = true := by decide +kernel
theorem sh_firsts {r : Str × Str} (h : r ∈ firsts) : SeqAt.shaped (.str r.2) = true := List.all_eq_true.mp sh_tabs r (List.mem_append_left _ h)
theorem sh_bads {r : Str × Str} (h : r ∈ bads) : SeqAt.shaped (.str r.2) = true := List.all_eq_true.mp sh_tabs r (List.mem_append_right _ h)
theorem err_inj {t : Str} {n m : Int} {s r : Str} (h : RdErr t n s) (e : parseR t = .error (m, r)) : m = n ∧ r = s := by
  have := h.2.symm.trans e
  cases this
  exact ⟨rfl, rfl⟩
theorem err_ok {t : Str} {n : Int} {s : Str} {st : St2} (h : RdErr t n s) (e : parseR t = .ok st) : False := by
  have := h.2.symm.trans e
  cases this
theorem ok_err {t : Str} {e : Int × Str} (h : RdOk t) (he : parseR t = .error e) : False := by
  obtain ⟨_, st, h⟩ := h
  have := h.symm.trans he
  cases this
theorem dq_row {c : List Addr} {K : PySem.W.Frag} {H : Hp} {r : Str × Str} {v : V} (h : DQ c K H (rowD r) v) : ∃ a, v = .ref a ∧ a ∉ c ∧ SqL K H a [.str r.1, .str r.2] := by
  unfold rowD at h
  rw [DQ] at h
  obtain ⟨a, xs, rfl, hc, hs, hq⟩ := h
  rw [DQs] at hq
  obtain ⟨v1, vs, rfl, h1, h2⟩ := hq
  rw [DQs] at h2
  obtain ⟨v2, vs2, rfl, h3, h4⟩ := h2
  rw [DQs] at h4
  subst h4
  rw [DQ] at h1 h3
  subst h1 h3
  exact ⟨a, rfl, hc, hs⟩
theorem sum_leS {B : Nat} : ∀ (l : List Str), (∀ y ∈ l, y.length ≤ B) → (l.map (·.length)).sum ≤ l.length * B
  | [], _ => Nat.zero_le _
  | y :: l, h => by
    have ih := sum_leS l fun z hz => h z (List.mem_cons_of_mem _ hz)
    have h1 := h y List.mem_cons_self
    rw [List.map_cons, List.sum_cons, List.length_cons, Nat.succ_mul]
    omega
theorem join_size {ls : List Str} (hl : ls.length ≤ 40) (h : ∀ y ∈ ls, y.length ≤ 1000) : (ls.map (·.length)).sum + ls.length * ("\n" : Str).length ≤ 16777216 := by
  have h1 := sum_leS ls h
  have h2 := Nat.mul_le_mul hl (Nat.le_refl 1000)
  have h3 : ("\n" : Str).length = 1 := rfl
  rw [h3]
  omega
theorem goodL_len {l : Str} (h : goodL l = true) : l.length ≤ 1000 := by
  unfold goodL okL at h
  rw [Bool.and_eq_true, Bool.and_eq_true, Bool.and_eq_true, decide_eq_true_eq] at h
  omega
theorem first_good {r : Str × Str} (h : r ∈ firsts) : goodL r.1 = true := by
  have f := List.all_eq_true.mp f_firsts r h
  simp only [Bool.and_eq_true] at f
  exact f.2.2.2
theorem bad_good {r : Str × Str} (h : r ∈ bads) : goodL r.1 = true := by
  have f := List.all_eq_true.mp f_bads r h
  simp only [Bool.and_eq_true] at f
  exact f.2.2.2
structure Cd (P : Program) (w : World) (K : PySem.W.Frag) (mg : Str → Option Value) (base : Heap) (k : Nat) (x : Str) (ps : List Str) (sp : Sp) (f : Addr) (fd : FuncData) : Prop where
  ok : FnOk P w K mg base CX0 k f fd ps sp
  kp : PySem.W.keepIn K (.ref f) = true
  bi : Binds K fd ps []
  gl : mg x = some (.ref f)
section
variable {P : Program} {w : World} {K : PySem.W.Frag} {mg : Str → Option Value} {base : Heap}
def spTabE (K : PySem.W.Frag) (rows : List (Str × Str)) : Sp := fun vs H Q E => ∃ c : List Addr, spTab K rows c vs H Q E
theorem tab_ex {k : Nat} {f : Addr} {fd : FuncData} {ps : List Str} {rows : List (Str × Str)} (h : ∀ c, FnOk P w K mg base CX0 k f fd ps (spTab K rows c)) : FnOk P w K mg base CX0 k f fd ps (spTabE K rows) :=
  ⟨fun vs H Q E ⟨c, s⟩ => (h c).len _ _ _ _ s, fun A outer s H args us vs Q E hr he hb hv ⟨c, sc⟩ => (h c).run A outer s H args us vs Q E hr he hb hv sc⟩
def spLaw (K : PySem.W.Frag) (T1 T2 T3 T4 T5 : Addr) : Sp := fun vs H Q _ => ∃ (a : Addr) (xs : List Int), vs = [.ref a] ∧ SqL K H a (xs.map V.int) ∧ Tabs5 H T1 T2 T3 T4 T5 ∧ ∀ H', Q (.bl true) H'
theorem ok_law {fL fDg fD fP fF fB fT T1 T2 T3 T4 T5 : Addr} {dL dDg dD dP dF dB dT : FuncData} (ml : mg "len" = none) (mi : mg "int" = none) (F : Fun K "law" "law" sLaw fL dL)
    (DDg : Cd P w K mg base 2 "_law_digits" ["script", "first", "last"] (spDigits K) fDg dDg) (DD : Cd P w K mg base 1 "_law_draw" ["box", "many"] spDraw fD dD) (DP : Cd P w K mg base 2 "_law_pick" ["box", "things"] (spPick K) fP dP)
    (DF : Cd P w K mg base 1 "_law_bad_firsts" [] (spTabE K firsts) fF dF) (DB : Cd P w K mg base 1 "_law_bad_lines" [] (spTabE K bads) fB dB) (DT : Cd P w K mg base 15 "_law_told" ["text"] (spTold K T1 T2 T3 T4 T5) fT dT) :
    FnG P w K mg base 16 fL dL ["script"] (spLaw K T1 T2 T3 T4 T5) := by
  have nd := scLaw.nd
  refine okG F scLaw (fun vs H Q E h => ?_) (fun cdv A outer s H vs Q E hgd hr h => ?_)
  · obtain ⟨_, _, rfl, _⟩ := h
    rfl
  · obtain ⟨a, xs, rfl, hs, hT, q⟩ := h
    have hu := hr.units
    have r1 := hr.mono (show 1 ≤ 15 by decide)
    have r2 := hr.mono (show 2 ≤ 15 by decide)
    apply Exists.intro
    refine And.intro ?hb ?hc
    case hb =>
      apply pss_cons
      · exact ps_set (i := 1) nd rfl (.inl rfl) (pe_lst (pa_cons (pe_call DDg.ok r2 (by rfl) DDg.gl DDg.kp DDg.bi .nil pass0 (pa_cons (pv 0) (pa_cons pe_int (pa_cons pe_int pa_nil)))) (pa_cons pe_int pa_nil)))
      apply pss_cons
      · exact ps_set (i := 2) nd rfl (.inl rfl) (pe_slice sl_list (pe_lst (pa_cons pe_str (pa_cons pe_str (pa_cons pe_str (pa_cons pe_str pa_nil))))) po_none (po_some (pe_call DD.ok r1 (by rfl) DD.gl DD.kp DD.bi .nil pass0 (pa_cons (pv 1) (pa_cons pe_int pa_nil)))))
      apply pss_cons
      · exact ps_asg (pe_call DP.ok r2 (by rfl) DP.gl DP.kp DP.bi .nil pass0 (pa_cons (pv 1) (pa_cons (pe_call0 DF.ok r1 (by rfl) DF.gl DF.kp DF.bi .nil pass0) pa_nil))) (pg_lst rfl (pgs_cons (pg_name (i := 3) nd rfl (.inl rfl)) (pgs_cons (pg_name (i := 4) nd rfl (.inl rfl)) pgs_nil)))
      apply pss_cons
      · exact ps_if (pt_cmpR (op_neD hu) (pe_call DT.ok hr (by rfl) DT.gl DT.kp DT.bi .nil pass0 (pa_cons (pe_join pe_str (pe_op op_cat (pv 2) (pe_lst (pa_cons (pv 3) (pa_cons pe_str pa_nil))))) pa_nil)) (pe_tup (pa_cons (pe_op op_add (pe_callB call_len_seq (by rfl) ml PySem.boot_len (pa_cons (pv 2) pa_nil)) pe_int) (pa_cons (pv 4) pa_nil))) (nomark _)) (pss_one (ps_ret pe_bl)) pss_nil
      apply pss_cons
      · exact ps_set (i := 5) nd rfl (.inl rfl) (pe_op op_cat (pe_op op_cat (pv 2) (pe_lst (pa_cons pe_str (pa_cons pe_str (pa_cons pe_str pa_nil))))) (pe_op op_rep (pe_lst (pa_cons pe_str pa_nil)) (pe_call DD.ok r1 (by rfl) DD.gl DD.kp DD.bi .nil pass0 (pa_cons (pv 1) (pa_cons pe_int pa_nil)))))
      apply pss_cons
      · exact ps_if (pt_cmpR (op_neD hu) (pe_call DT.ok hr (by rfl) DT.gl DT.kp DT.bi .nil pass0 (pa_cons (pe_join pe_str (pv 5)) pa_nil)) pe_str (nomark _)) (pss_one (ps_ret pe_bl)) pss_nil
      apply pss_cons
      · exact ps_set (i := 6) nd rfl (.inl rfl) (pe_op op_add (pe_op op_add (pe_callB call_len_seq (by rfl) ml PySem.boot_len (pa_cons (pv 2) pa_nil)) pe_int) (pe_call DD.ok r1 (by rfl) DD.gl DD.kp DD.bi .nil pass0 (pa_cons (pv 1) (pa_cons (pe_op op_sub (pe_callB call_len_seq (by rfl) ml PySem.boot_len (pa_cons (pv 5) pa_nil)) (pe_callB call_len_seq (by rfl) ml PySem.boot_len (pa_cons (pv 2) pa_nil))) pa_nil))))
      apply pss_cons
      · exact ps_asg (pe_call DP.ok r2 (by rfl) DP.gl DP.kp DP.bi .nil pass0 (pa_cons (pv 1) (pa_cons (pe_call0 DB.ok r1 (by rfl) DB.gl DB.kp DB.bi .nil pass0) pa_nil))) (pg_lst rfl (pgs_cons (pg_name (i := 7) nd rfl (.inl rfl)) (pgs_cons (pg_name (i := 4) nd rfl (.inl rfl)) pgs_nil)))
      apply pss_cons
      · exact ps_if (pt_cmpR (op_neD hu) (pe_call DT.ok hr (by rfl) DT.gl DT.kp DT.bi .nil pass0 (pa_cons (pe_join pe_str (pe_op op_cat (pe_op op_cat (pe_op op_cat (pe_slice sl_list (pv 5) po_none (po_some (pv 6))) (pe_lst (pa_cons (pv 7) pa_nil))) (pe_slice sl_list (pv 5) (po_some (pv 6)) po_none)) (pe_lst (pa_cons pe_str pa_nil)))) pa_nil))
          (pe_tup (pa_cons (pe_op op_add (pv 6) pe_int) (pa_cons (pv 4) pa_nil))) (nomark _)) (pss_one (ps_ret pe_bl)) pss_nil
      apply pss_cons
      · exact ps_set (i := 8) nd rfl (.inl rfl) (pe_call DD.ok r1 (by rfl) DD.gl DD.kp DD.bi .nil pass0 (pa_cons (pv 1) (pa_cons pe_int pa_nil)))
      apply pss_cons
      · exact ps_if (PW.pt (pw_or (pt_cmpR (op_neD hu) (pe_call DT.ok hr (by rfl) DT.gl DT.kp DT.bi .nil pass0 (pa_cons (pe_op op_mul_strB pe_str (pv 8)) pa_nil)) (pe_tup (pa_cons (pe_op op_add (pv 8) pe_int) (pa_cons pe_str pa_nil))) (nomark _))
          (pw_or1 (pt_cmpR (op_neD hu) (pe_call DT.ok hr (by rfl) DT.gl DT.kp DT.bi .nil pass0 (pa_cons (pe_op op_add_str (pe_op op_mul_strB pe_str (pv 8)) pe_str) pa_nil)) (pe_tup (pa_cons pe_int (pa_cons pe_str pa_nil))) (nomark _))))) (pss_one (ps_ret pe_bl)) pss_nil
      apply pss_cons
      · exact ps_set (i := 9) nd rfl (.inl rfl) (pe_op op_add pe_int (pe_call DD.ok r1 (by rfl) DD.gl DD.kp DD.bi .nil pass0 (pa_cons (pv 1) (pa_cons pe_int pa_nil))))
      apply pss_cons
      · exact ps_if (pt_cmpR (op_neD hu) (pe_call DT.ok hr (by rfl) DT.gl DT.kp DT.bi .nil pass0 (pa_cons (pe_op op_add_str pe_str (pe_op op_mul_strB pe_str (pv 9))) pa_nil))
          (pe_ix ix_list (pe_lst (pa_cons pe_str (pa_cons (pe_tup (pa_cons pe_int (pa_cons pe_str pa_nil))) pa_nil))) (pe_callTy call_int1 (by rfl) mi PyProof.Rows.boot_int (pa_cons (pe_cmpR op_eq (pv 9) pe_int (nomark _)) pa_nil)) (fun _ _ => rfl)) (nomark _)) (pss_one (ps_ret pe_bl)) pss_nil
      apply pss_cons
      · exact ps_if (pt_cmpR (op_neD hu) (pe_call DT.ok hr (by rfl) DT.gl DT.kp DT.bi .nil pass0 (pa_cons (pe_op op_add_str pe_str (pe_call DP.ok r2 (by rfl) DP.gl DP.kp DP.bi .nil pass0 (pa_cons (pv 1) (pa_cons (pe_lst (pa_cons pe_str (pa_cons pe_str pa_nil))) pa_nil)))) pa_nil)) (pe_tup (pa_cons pe_int (pa_cons pe_str pa_nil))) (nomark _)) (pss_one (ps_ret pe_bl)) pss_nil
      apply pss_cons
      · exact ps_set (i := 9) nd rfl (.inl rfl) (pe_op op_add pe_int (pe_call DD.ok r1 (by rfl) DD.gl DD.kp DD.bi .nil pass0 (pa_cons (pv 1) (pa_cons pe_int pa_nil))))
      apply pss_cons
      · exact ps_set (i := 10) nd rfl (.inl rfl) pe_str
      exact pss_one (ps_ret (pe_cmpR (op_eqD hu) (pe_call DT.ok hr (by rfl) DT.gl DT.kp DT.bi .nil pass0 (pa_cons (pe_op op_add_str (pv 10) (pe_op op_mul_strB pe_str (pe_op op_sub (pv 9) (pe_callB call_len_str (by rfl) ml PySem.boot_len (pa_cons (pv 10) pa_nil))))) pa_nil))
          (pe_ix ix_list (pe_lst (pa_cons pe_str (pa_cons (pe_tup (pa_cons pe_int (pa_cons pe_str pa_nil))) pa_nil))) (pe_callTy call_int1 (by rfl) mi PyProof.Rows.boot_int (pa_cons (pe_cmpR op_gt (pv 9) pe_int (nomark _)) pa_nil)) (fun _ _ => rfl)) (nomark _)))
    case hc =>
      refine ⟨_, rfl, a, xs, rfl, hs, fun d ds H1 x1 hd0 ed => ⟨by show 2 ≤ sizeLine; decide, fun b hb => ?_⟩⟩
      have x2 : Ext [] H (upd H1 b (.lst [.ref d, .int 0])) := x1.trans (.new hb)
      have bx : Box (upd H1 b (.lst [.ref d, .int 0])) b d := ⟨ds, 0, upd_same, by rw [upd_ne (ne_of_none ed hb)]; exact ed⟩
      have hTn := hT.ext x2
      clear hT x1 hd0 ed hb
      generalize (upd H1 b (.lst [.ref d, .int 0])) = H2 at x2 bx hTn ⊢
      clear x2 hs
      -- blank
      refine ⟨by show 4 ≤ sizeLine; decide, fun t ht => ?_⟩
      have y3 : Ext [b] H2 (upd H2 t (.lst (blanks.map V.str))) := .new ht
      have b3 : Box (L2.upd H2 t (.lst (blanks.map V.str))) b d := bx.ext (.new ht)
      have et : (upd H2 t (.lst (blanks.map V.str))) t = some (.lst (blanks.map V.str)) := upd_same
      have ntb : t ≠ b := bx.new ht
      refine ⟨_, rfl, b, d, 5, rfl, b3, by decide, fun r3 H4 g0 g1 x4 b4 => ?_⟩
      have y4 := y3.trans x4
      have et4 := x4.lst et (by rw [List.mem_singleton]; exact ntb)
      obtain ⟨n, rfl⟩ := nat_of g0
      have hn4 : n ≤ 4 := by omega
      refine ⟨_, rfl, t, _, rfl, SqL.of et4, fun p hp => ?_⟩
      have ebl : (upd H4 p (.lst (cutV (blanks.map V.str) none (some (n : Int))))) p = some (.lst ((blanks.take n).map V.str)) := by
        rw [upd_same, cut_lo (by rw [List.length_map]; show n ≤ 4; omega), List.map_take]
      have y5 : Ext [b] H2 (upd H4 p (.lst (cutV (blanks.map V.str) none (some (n : Int))))) := y4.trans (.new hp)
      have b5 : Box (L2.upd H4 p (.lst (cutV (blanks.map V.str) none (some (n : Int))))) b d := b4.ext (.new hp)
      have npb : p ≠ b := b4.new hp
      generalize (upd H4 p (.lst (cutV (blanks.map V.str) none (some (n : Int))))) = H5 at ebl y5 b5 ⊢
      clear hp et4 y4 b4 x4 g1 ntb et b3 y3 ht
      have lb : (blanks.take n).length = n := by rw [List.length_take]; show min n 4 = n; omega
      have bgood : ∀ l ∈ blanks.take n, goodL l = true := fun l hl => (blank_ok (List.mem_of_mem_take hl)).2
      have trk : ∀ {H'}, Box H' b d → Trk [b] H' := fun {H'} bb aa ha => by
        rw [List.mem_singleton.mp ha]
        obtain ⟨_, _, e, _⟩ := bb
        rw [e]
        exact fun z => by cases z
      have dpT : ∀ {H : Hp} {t : Addr} {i : Int} {x : Str}, H t = some (.tup [.int i, .str x]) → Dp K H (.ref t) (.tuple [.int i, .str x]) := fun e => .tup (.inl (.inl e)) (.cons (.int _) (.cons (.str _) .nil))
      -- the first lines
      refine ⟨_, rfl, [b], rfl, trk b5, fun t1 ts1 H6 x6 t10 et1 dt1 => ?_⟩
      have b6 := b5.ext x6
      have nt1 : t1 ≠ b := fun z => by
        obtain ⟨_, _, e, _⟩ := b5
        rw [z, e] at t10
        cases t10
      refine ⟨b, d, t1, ts1, rfl, b6, et1, nt1, by rw [dt1.length]; show 0 < 9; decide, fun j v hv H7 x7 b7 => ?_⟩
      obtain ⟨rd, hrd, dq1⟩ := dt1.at_ hv
      rw [List.getElem?_map] at hrd
      obtain ⟨r, hr0, rfl⟩ := Option.map_eq_some_iff.mp hrd
      have hrm := List.mem_of_getElem? hr0
      obtain ⟨ra, rfl, hrac, hras⟩ := dq_row dq1
      have hra7 := x7.sqL hras hrac
      refine ⟨ra, _, rfl, hra7, rfl, _, _, rfl, _, _, rfl, rfl, ?_⟩
      have y7 := (y5.trans x6.more).trans x7
      have ebl7 := (x6.more.trans x7).lst ebl (by rw [List.mem_singleton]; exact npb)
      have F1 := fact_first hn4 hrm
      have shE : SeqAt.shaped (.str "") = true := by decide +kernel
      have sz : ∀ m : Nat, m ≤ 1000 → m ≤ sizeLine := fun m h => Nat.le_trans h (by show 1000 ≤ 2 ^ 24; decide)
      clear y5 b6 x6 hras dq1 hv x7 et1 dt1 t10 ebl b5
      refine ⟨⟨_, rfl⟩, _, rfl, _, rfl, by show 2 ≤ sizeLine; decide, fun l hl => ?_⟩
      have x8 : Ext [] H7 (upd H7 l (.lst [V.str r.1, V.str "zz"])) := .new hl
      have el : (upd H7 l (.lst [V.str r.1, V.str "zz"])) l = some (.lst [V.str r.1, V.str "zz"]) := upd_same
      generalize (upd H7 l (.lst [V.str r.1, V.str "zz"])) = H8 at x8 el ⊢
      refine ⟨p, l, _, _, rfl, rfl, x8.lst ebl7 (by simp), el, by rw [List.length_map, lb]; exact sz _ (by show n + 2 ≤ 1000; omega), fun lr hlr => ?_⟩
      have x9 : Ext [] H8 (upd H8 lr (.lst ((blanks.take n).map V.str ++ [V.str r.1, V.str "zz"]))) := .new hlr
      have e9 : (upd H8 lr (.lst ((blanks.take n).map V.str ++ [V.str r.1, V.str "zz"]))) lr = some (.lst ((blanks.take n ++ [r.1, "zz"]).map V.str)) := by rw [upd_same, List.map_append]; rfl
      generalize (upd H8 lr (.lst ((blanks.take n).map V.str ++ [V.str r.1, V.str "zz"]))) = H9 at x9 e9 ⊢
      have x79 := x8.trans x9
      refine ⟨_, lr, blanks.take n ++ [r.1, "zz"], rfl, rfl, .inl (SqL.of e9), join_size (by rw [List.length_append, lb]; show n + 2 ≤ 40; omega) (fun y hy => ?_), ?_⟩
      · rcases List.mem_append.mp hy with hy | hy
        · exact goodL_len (bgood y hy)
        · simp only [List.mem_cons, List.not_mem_nil, or_false] at hy
          rcases hy with rfl | rfl
          · exact goodL_len (first_good hrm)
          · exact goodL_len f_zz
      refine ⟨_, rfl, F1.1, (hTn.ext y7).ext x79, fun m s hp9 q9 H10 x10 e10 => ?_, fun ms rs hp9 => (err_ok F1 hp9).elim⟩
      obtain ⟨rfl, rfl⟩ := err_inj F1 hp9
      have x710 := x79.trans x10
      have ebl10 := x710.lst ebl7 (by simp)
      refine ⟨_, rfl, p, _, rfl, .inl (SqL.of ebl10), ?_⟩
      rw [List.length_map, lb]
      refine ⟨_, _, rfl, rfl, _, rfl, by show 2 ≤ sizeLine; decide, fun t11 ht11 => ?_⟩
      have x11 : Ext [] H10 (upd H10 t11 (.tup [V.int ((n : Nat) + 1), V.str r.2])) := .new ht11
      refine ⟨_, _, dpT (x11.tup _ _ e10), dpT upd_same, shaped_two _ _ (sh_firsts hrm), shaped_two _ _ (sh_firsts hrm), _, rfl, neF (eqv_two _ _) ?_⟩
      have y11 := y7.trans (x710.trans x11).more
      have b11 := b7.ext (x710.trans x11)
      have ebl11 := x11.lst ebl10 (by simp)
      generalize (upd H10 t11 (.tup [V.int ((n : Nat) + 1), V.str r.2])) = H11 at x11 y11 b11 ebl11 ⊢
      clear x11 ht11 ebl10 x710 e10 x10 hp9 x79 e9 x9 hlr el x8 hl F1 ebl7 y7 hra7 b7
      -- lines
      refine ⟨_, rfl, by show 3 ≤ sizeLine; decide, fun l3 hl3 => ?_⟩
      have z1 : Ext [b] H11 (upd H11 l3 (.lst [V.str "marks a b c", V.str "a to b is 5", V.str "c to a is -1000000"])) := .new hl3
      have c1 : Box (L2.upd H11 l3 (.lst [V.str "marks a b c", V.str "a to b is 5", V.str "c to a is -1000000"])) b d := b11.ext (.new hl3)
      have el3 : (upd H11 l3 (.lst [V.str "marks a b c", V.str "a to b is 5", V.str "c to a is -1000000"])) l3 = some (.lst [V.str "marks a b c", V.str "a to b is 5", V.str "c to a is -1000000"]) := upd_same
      generalize (upd H11 l3 (.lst [V.str "marks a b c", V.str "a to b is 5", V.str "c to a is -1000000"])) = H12 at z1 c1 el3 ⊢
      have nb : ∀ z : Addr, z ≠ b → z ∉ [b] := fun z h => by rw [List.mem_singleton]; exact h
      refine ⟨p, l3, _, _, rfl, rfl, z1.lst ebl11 (nb p npb), el3, by rw [List.length_map, lb]; exact sz _ (by show n + 3 ≤ 1000; omega), fun lc hlc => ?_⟩
      have z2 : Ext [b] H11 (upd H12 lc (.lst ((blanks.take n).map V.str ++ [V.str "marks a b c", V.str "a to b is 5", V.str "c to a is -1000000"]))) := z1.trans (.new hlc)
      have c2 : Box (L2.upd H12 lc (.lst ((blanks.take n).map V.str ++ [V.str "marks a b c", V.str "a to b is 5", V.str "c to a is -1000000"]))) b d := c1.ext (.new hlc)
      have elc : (upd H12 lc (.lst ((blanks.take n).map V.str ++ [V.str "marks a b c", V.str "a to b is 5", V.str "c to a is -1000000"]))) lc = some (.lst ((blanks.take n).map V.str ++ [V.str "marks a b c", V.str "a to b is 5", V.str "c to a is -1000000"])) := upd_same
      have nlc : lc ≠ b := c1.new hlc
      generalize (upd H12 lc (.lst ((blanks.take n).map V.str ++ [V.str "marks a b c", V.str "a to b is 5", V.str "c to a is -1000000"]))) = H13 at z2 c2 elc ⊢
      refine ⟨by show 1 ≤ sizeLine; decide, fun l1 hl1 => ?_⟩
      have z3 : Ext [b] H13 (upd H13 l1 (.lst [V.str "b to a is 0"])) := .new hl1
      have c3 : Box (L2.upd H13 l1 (.lst [V.str "b to a is 0"])) b d := c2.ext (.new hl1)
      have el1 : (upd H13 l1 (.lst [V.str "b to a is 0"])) l1 = some (.lst [V.str "b to a is 0"]) := upd_same
      have nl1 : l1 ≠ b := c2.new hl1
      refine ⟨_, rfl, b, d, 3, rfl, c3, by decide, fun rk H14 k0 k1 z4 c4 => ?_⟩
      obtain ⟨k, rfl⟩ := nat_of k0
      have hk2 : k ≤ 2 := by omega
      have z34 := z3.trans z4
      refine ⟨l1, _, _, rfl, rfl, z4.lst el1 (nb l1 nl1), by omega, by omega, by rw [Int.toNat_natCast]; show 1 * k ≤ sizeLine; exact sz _ (by omega), fun lp hlp => ?_⟩
      rw [Int.toNat_natCast]
      have z5 : Ext [] H14 (upd H14 lp (.lst (List.replicate k [V.str "b to a is 0"]).flatten)) := .new hlp
      have elp : (upd H14 lp (.lst (List.replicate k [V.str "b to a is 0"]).flatten)) lp = some (.lst (List.replicate k [V.str "b to a is 0"]).flatten) := upd_same
      have c5 : Box (L2.upd H14 lp (.lst (List.replicate k [V.str "b to a is 0"]).flatten)) b d := c4.ext z5
      generalize (upd H14 lp (.lst (List.replicate k [V.str "b to a is 0"]).flatten)) = H15 at z5 elp c5 ⊢
      refine ⟨lc, lp, _, _, rfl, rfl, (z34.trans z5.more).lst elc (nb lc nlc), elp, ?_, fun ll hll => ?_⟩
      · rw [List.length_append, List.length_map, lb, List.length_flatten, List.map_replicate, List.sum_replicate_nat]
        exact sz _ (by show n + 3 + k * 1 ≤ 1000; omega)
      have ell : (upd H15 ll (.lst ((blanks.take n).map V.str ++ [V.str "marks a b c", V.str "a to b is 5", V.str "c to a is -1000000"] ++ (List.replicate k [V.str "b to a is 0"]).flatten))) ll = some (.lst ((blanks.take n ++ goods.take (3 + k)).map V.str)) := by rw [upd_same, lines_eq n k hk2]
      have z6 : Ext [b] H11 (upd H15 ll (.lst ((blanks.take n).map V.str ++ [V.str "marks a b c", V.str "a to b is 5", V.str "c to a is -1000000"] ++ (List.replicate k [V.str "b to a is 0"]).flatten))) := ((z2.trans z34).trans z5.more).trans (.new hll)
      have c6 : Box (L2.upd H15 ll (.lst ((blanks.take n).map V.str ++ [V.str "marks a b c", V.str "a to b is 5", V.str "c to a is -1000000"] ++ (List.replicate k [V.str "b to a is 0"]).flatten))) b d := c5.ext (.new hll)
      have nll : ll ≠ b := c5.new hll
      generalize (upd H15 ll (.lst ((blanks.take n).map V.str ++ [V.str "marks a b c", V.str "a to b is 5", V.str "c to a is -1000000"] ++ (List.replicate k [V.str "b to a is 0"]).flatten))) = H16 at ell z6 c6 ⊢
      have ebl16 := z6.lst ebl11 (nb p npb)
      have y16 := y11.trans z6
      clear hll c5 elp z5 hlp z34 c4 z4 k1 el1 nl1 c3 z3 hl1 elc nlc c2 z2 hlc el3 c1 z1 hl3 z6 ebl11 b11 y11
      -- they are read
      have F2 := fact_lines hn4 hk2
      have lgk : (goods.take (3 + k)).length = 3 + k := by rw [List.length_take]; show min (3 + k) 5 = 3 + k; omega
      have llen : (blanks.take n ++ goods.take (3 + k)).length = n + (3 + k) := by rw [List.length_append, lb, lgk]
      have lgood : ∀ y ∈ blanks.take n ++ goods.take (3 + k), goodL y = true := fun y hy => by
        rcases List.mem_append.mp hy with hy | hy
        · exact bgood y hy
        · exact good_mem (List.mem_of_mem_take hy)
      refine ⟨⟨_, rfl⟩, _, rfl, _, ll, blanks.take n ++ goods.take (3 + k), rfl, rfl, .inl (SqL.of ell), join_size (by rw [llen]; omega) (fun y hy => goodL_len (lgood y hy)), ?_⟩
      refine ⟨_, rfl, F2.1, hTn.ext y16, fun m s hp9 => (ok_err F2 hp9).elim, fun ms rs hp9 H17 x17 => ?_⟩
      refine ⟨_, _, .str _, .str _, shE, shE, _, rfl, neF (by decide +kernel) ?_⟩
      have ell17 := x17.lst ell (by simp)
      have ebl17 := x17.lst ebl16 (by simp)
      have y17 := y16.trans x17.more
      have b17 := c6.ext x17
      clear x17 hp9 F2 c6 ell ebl16 y16
      -- at
      refine ⟨_, rfl, p, _, rfl, .inl (SqL.of ebl17), _, _, rfl, rfl, _, rfl, _, rfl, ll, _, rfl, .inl (SqL.of ell17), _, rfl, p, _, rfl, .inl (SqL.of ebl17), _, _, rfl, rfl, ?_⟩
      dsimp only
      rw [List.length_map, List.length_map, llen, lb, show ((n + (3 + k) : Nat) : Int) - (n : Nat) = ((3 + k : Nat) : Int) by omega]
      refine ⟨b, d, 3 + k, rfl, b17, by omega, fun r6 H18 g6 g7 x18 b18 => ⟨_, _, rfl, rfl, ?_⟩⟩
      obtain ⟨at_, rfl⟩ := nat_of g6
      have hat : at_ < 3 + k := by omega
      dsimp only
      rw [show ((n : Nat) : Int) + 1 + ((at_ : Nat) : Int) = ((n + 1 + at_ : Nat) : Int) by omega]
      have y18 := y17.trans x18
      have nb : ∀ z : Addr, z ≠ b → z ∉ [b] := fun z h => by rw [List.mem_singleton]; exact h
      have ell18 := x18.lst ell17 (nb ll nll)
      clear x18 b17 y17 ebl17 ell17 g7
      -- the bad lines
      refine ⟨_, rfl, [b], rfl, trk b18, fun t2 ts2 H19 x19 t20 et2 dt2 => ?_⟩
      have b19 := b18.ext x19
      have nt2 : t2 ≠ b := fun z => by
        obtain ⟨_, _, e, _⟩ := b18
        rw [z, e] at t20
        cases t20
      refine ⟨b, d, t2, ts2, rfl, b19, et2, nt2, by rw [dt2.length]; show 0 < 27; decide, fun j2 v2 hv2 H20 x20 b20 => ?_⟩
      obtain ⟨rd2, hrd2, dq2⟩ := dt2.at_ hv2
      rw [List.getElem?_map] at hrd2
      obtain ⟨w2, hw0, rfl⟩ := Option.map_eq_some_iff.mp hrd2
      have hwm := List.mem_of_getElem? hw0
      obtain ⟨wa, rfl, hwac, hwas⟩ := dq_row dq2
      have hwa20 := x20.sqL hwas hwac
      refine ⟨wa, _, rfl, hwa20, rfl, _, _, rfl, _, _, rfl, rfl, ?_⟩
      have y20 := (y18.trans x19.more).trans x20
      have ell20 := (x19.more.trans x20).lst ell18 (nb ll nll)
      clear hwa20 hwas dq2 hv2 x20 et2 dt2 t20 b19 x19 ell18 y18 b18
      have hatl : n + 1 + at_ ≤ ((blanks.take n ++ goods.take (3 + k)).map V.str).length := by rw [List.length_map, llen]; omega
      have etake : (blanks.take n ++ goods.take (3 + k)).take (n + 1 + at_) = blanks.take n ++ goods.take (1 + at_) := by
        rw [List.take_append, lb, List.take_of_length_le (by rw [lb]; omega), show n + 1 + at_ - n = 1 + at_ by omega, List.take_take, Nat.min_eq_left (by omega)]
      -- the text with it
      refine ⟨⟨_, rfl⟩, _, rfl, _, rfl, _, rfl, ll, _, rfl, SqL.of ell20, fun pa hpa => ?_⟩
      have u1 : Ext [] H20 (upd H20 pa (.lst (cutV ((blanks.take n ++ goods.take (3 + k)).map V.str) none (some ((n + 1 + at_ : Nat) : Int))))) := .new hpa
      have ea : (upd H20 pa (.lst (cutV ((blanks.take n ++ goods.take (3 + k)).map V.str) none (some ((n + 1 + at_ : Nat) : Int))))) pa = some (.lst ((blanks.take n ++ goods.take (1 + at_)).map V.str)) := by
        rw [upd_same, cut_lo hatl, ← List.map_take, etake]
      generalize (upd H20 pa (.lst (cutV ((blanks.take n ++ goods.take (3 + k)).map V.str) none (some ((n + 1 + at_ : Nat) : Int))))) = H21 at u1 ea ⊢
      have lgA : (goods.take (1 + at_)).length = 1 + at_ := by rw [List.length_take]; show min (1 + at_) 5 = 1 + at_; omega
      have lA : (blanks.take n ++ goods.take (1 + at_)).length = n + (1 + at_) := by rw [List.length_append, lb, lgA]
      refine ⟨_, rfl, by show 1 ≤ sizeLine; decide, fun pw hpw => ?_⟩
      have u2 : Ext [] H21 (upd H21 pw (.lst [V.str w2.1])) := .new hpw
      have ew : (upd H21 pw (.lst [V.str w2.1])) pw = some (.lst [V.str w2.1]) := upd_same
      generalize (upd H21 pw (.lst [V.str w2.1])) = H22 at u2 ew ⊢
      refine ⟨pa, pw, _, _, rfl, rfl, u2.lst ea (by simp), ew, by rw [List.length_map, lA]; exact sz _ (by show n + (1 + at_) + 1 ≤ 1000; omega), fun pc hpc => ?_⟩
      have u3 : Ext [] H22 (upd H22 pc (.lst ((blanks.take n ++ goods.take (1 + at_)).map V.str ++ [V.str w2.1]))) := .new hpc
      have ec : (upd H22 pc (.lst ((blanks.take n ++ goods.take (1 + at_)).map V.str ++ [V.str w2.1]))) pc = some (.lst ((blanks.take n ++ goods.take (1 + at_) ++ [w2.1]).map V.str)) := by rw [upd_same]; simp only [List.map_append, List.map_cons, List.map_nil]
      generalize (upd H22 pc (.lst ((blanks.take n ++ goods.take (1 + at_)).map V.str ++ [V.str w2.1]))) = H23 at u3 ec ⊢
      have ell23 := ((u1.trans u2).trans u3).lst ell20 (by simp)
      refine ⟨_, rfl, _, rfl, _, rfl, ll, _, rfl, SqL.of ell23, fun pd hpd => ?_⟩
      generalize hrest : (blanks.take n ++ goods.take (3 + k)).drop (n + 1 + at_) = rest
      have u4 : Ext [] H23 (upd H23 pd (.lst (cutV ((blanks.take n ++ goods.take (3 + k)).map V.str) (some ((n + 1 + at_ : Nat) : Int)) none))) := .new hpd
      have ed2 : (upd H23 pd (.lst (cutV ((blanks.take n ++ goods.take (3 + k)).map V.str) (some ((n + 1 + at_ : Nat) : Int)) none))) pd = some (.lst (rest.map V.str)) := by
        rw [upd_same, cut_hi hatl, ← List.map_drop, hrest]
      generalize (upd H23 pd (.lst (cutV ((blanks.take n ++ goods.take (3 + k)).map V.str) (some ((n + 1 + at_ : Nat) : Int)) none))) = H24 at u4 ed2 ⊢
      have rgood : ∀ l ∈ rest, goodL l = true := fun l hl => lgood l (by rw [← hrest] at hl; exact List.mem_of_mem_drop hl)
      have rlen : rest.length ≤ 10 := by rw [← hrest, List.length_drop, llen]; omega
      refine ⟨pc, pd, _, _, rfl, rfl, u4.lst ec (by simp), ed2, by rw [List.length_map, List.length_map, List.length_append, lA]; exact sz _ (by show n + (1 + at_) + 1 + rest.length ≤ 1000; omega), fun pe hpe => ?_⟩
      have u5 : Ext [] H24 (upd H24 pe (.lst ((blanks.take n ++ goods.take (1 + at_) ++ [w2.1]).map V.str ++ rest.map V.str))) := .new hpe
      have ee : (upd H24 pe (.lst ((blanks.take n ++ goods.take (1 + at_) ++ [w2.1]).map V.str ++ rest.map V.str))) pe = some (.lst ((blanks.take n ++ goods.take (1 + at_) ++ [w2.1] ++ rest).map V.str)) := by rw [upd_same, ← List.map_append]
      generalize (upd H24 pe (.lst ((blanks.take n ++ goods.take (1 + at_) ++ [w2.1]).map V.str ++ rest.map V.str))) = H25 at u5 ee ⊢
      refine ⟨by show 1 ≤ sizeLine; decide, fun pz hpz => ?_⟩
      have u6 : Ext [] H25 (upd H25 pz (.lst [V.str "zz"])) := .new hpz
      have ez : (upd H25 pz (.lst [V.str "zz"])) pz = some (.lst [V.str "zz"]) := upd_same
      generalize (upd H25 pz (.lst [V.str "zz"])) = H26 at u6 ez ⊢
      refine ⟨pe, pz, _, _, rfl, rfl, u6.lst ee (by simp), ez, by rw [List.length_map, List.length_append, List.length_append, lA]; exact sz _ (by show n + (1 + at_) + 1 + rest.length + 1 ≤ 1000; omega), fun pf hpf => ?_⟩
      have u7 : Ext [] H26 (upd H26 pf (.lst ((blanks.take n ++ goods.take (1 + at_) ++ [w2.1] ++ rest).map V.str ++ [V.str "zz"]))) := .new hpf
      have ef : (upd H26 pf (.lst ((blanks.take n ++ goods.take (1 + at_) ++ [w2.1] ++ rest).map V.str ++ [V.str "zz"]))) pf = some (.lst ((blanks.take n ++ goods.take (1 + at_) ++ [w2.1] ++ rest ++ [("zz" : Str)]).map V.str)) := by rw [upd_same]; simp only [List.map_append, List.map_cons, List.map_nil]
      generalize (upd H26 pf (.lst ((blanks.take n ++ goods.take (1 + at_) ++ [w2.1] ++ rest).map V.str ++ [V.str "zz"]))) = H27 at u7 ef ⊢
      have u17 : Ext [] H20 H27 := (((((u1.trans u2).trans u3).trans u4).trans u5).trans u6).trans u7
      have F3 := fact_bad hn4 hk2 hat hwm rgood rlen
      refine ⟨_, pf, blanks.take n ++ goods.take (1 + at_) ++ [w2.1] ++ rest ++ [("zz" : Str)], rfl, rfl, .inl (SqL.of ef), join_size (by simp only [List.length_append, lb, lgA, List.length_singleton]; omega) (fun y hy => ?_), ?_⟩
      · simp only [List.mem_append, List.mem_singleton] at hy
        rcases hy with (((hy | hy) | rfl) | hy) | rfl
        · exact goodL_len (bgood y hy)
        · exact goodL_len (good_mem (List.mem_of_mem_take hy))
        · exact goodL_len (bad_good hwm)
        · exact goodL_len (rgood y hy)
        · exact goodL_len f_zz
      refine ⟨_, rfl, F3.1, (hTn.ext y20).ext u17, fun m s hp9 q9 H28 x28 e28 => ?_, fun ms rs hp9 => (err_ok F3 hp9).elim⟩
      obtain ⟨rfl, rfl⟩ := err_inj F3 hp9
      refine ⟨_, rfl, _, _, rfl, rfl, _, rfl, by show 2 ≤ sizeLine; decide, fun t29 ht29 => ?_⟩
      rw [show n + 1 + at_ = n + 1 + at_ from rfl]
      have x29 : Ext [] H28 (upd H28 t29 (.tup [V.int (((n + 1 + at_ : Nat) : Int) + 1), V.str w2.2])) := .new ht29
      refine ⟨_, _, dpT (x29.tup _ _ e28), dpT upd_same, shaped_two _ _ (sh_bads hwm), shaped_two _ _ (sh_bads hwm), _, rfl, neF (eqv_two _ _) ?_⟩
      have y29 := y20.trans ((u17.trans x28).trans x29).more
      have b29 := b20.ext ((u17.trans x28).trans x29)
      generalize (upd H28 t29 (.tup [V.int (((n + 1 + at_ : Nat) : Int) + 1), V.str w2.2])) = H29 at x29 y29 b29 ⊢
      clear x29 ht29 e28 x28 hp9 F3 u17 ef u7 hpf ez u6 hpz ee u5 hpe rlen rgood ed2 u4 hrest hpd ell23 ec u3 hpc ew u2 hpw lA lgA ea u1 hpa etake hatl ell20 y20 b20
      -- newlines
      refine ⟨_, rfl, b, d, 5, rfl, b29, by decide, fun r8 H30 h0 h1 x30 b30 => ?_⟩
      obtain ⟨m, rfl⟩ := nat_of h0
      have hm : m < 5 := by omega
      have y30 := y29.trans x30
      have F4 := fact_many hm
      have F5 := fact_apart hm
      have shM : SeqAt.shaped (.str "marks expected") = true := by decide +kernel
      have shN : SeqAt.shaped (.str "not joined") = true := by decide +kernel
      have shT : SeqAt.shaped (.str "too many") = true := by decide +kernel
      have shA : SeqAt.shaped (.str "text not allowed") = true := by decide +kernel
      refine ⟨_, rfl, _, _, rfl, rfl, by omega, by omega, by decide, ?_⟩
      refine ⟨_, rfl, F4.1, hTn.ext y30, fun mm s hp9 q9 H31 x31 e31 => ?_, fun ms rs hp9 => (err_ok F4 hp9).elim⟩
      obtain ⟨rfl, rfl⟩ := err_inj F4 hp9
      refine ⟨_, rfl, _, _, rfl, rfl, by show 2 ≤ sizeLine; decide, fun t32 ht32 => ?_⟩
      have x32 : Ext [] H31 (upd H31 t32 (.tup [V.int (((m : Nat) : Int) + 1), V.str "marks expected"])) := .new ht32
      refine ⟨_, _, dpT (x32.tup _ _ e31), dpT upd_same, shaped_two _ _ shM, shaped_two _ _ shM, _, rfl, neF (eqv_two _ _) ?_⟩
      have y32 := y30.trans (x31.trans x32).more
      have b32 := b30.ext (x31.trans x32)
      generalize (upd H31 t32 (.tup [V.int (((m : Nat) : Int) + 1), V.str "marks expected"])) = H32 at x32 y32 b32 ⊢
      clear x32 ht32 e31 x31 hp9 F4 y30 b30 x30
      refine ⟨_, rfl, _, _, rfl, rfl, by omega, by omega, by decide, _, _, rfl, rfl, cat_fit F5.1, ?_⟩
      refine ⟨_, rfl, F5.1, hTn.ext y32, fun mm s hp9 q9 H33 x33 e33 => ?_, fun ms rs hp9 => (err_ok F5 hp9).elim⟩
      obtain ⟨rfl, rfl⟩ := err_inj F5 hp9
      refine ⟨by show 2 ≤ sizeLine; decide, fun t34 ht34 => ?_⟩
      have x34 : Ext [] H33 (upd H33 t34 (.tup [V.int 0, V.str "not joined"])) := .new ht34
      refine ⟨_, _, dpT (x34.tup _ _ e33), dpT upd_same, shaped_two _ _ shN, shaped_two _ _ shN, _, rfl, neF (eqv_two _ _) ?_⟩
      have y34 := y32.trans (x33.trans x34).more
      have b34 := b32.ext (x33.trans x34)
      generalize (upd H33 t34 (.tup [V.int 0, V.str "not joined"])) = H34 at x34 y34 b34 ⊢
      clear x34 ht34 e33 x33 hp9 F5 y32 b32
      -- eighty
      refine ⟨_, rfl, b, d, 2, rfl, b34, by decide, fun r9 H35 v0 v1 x35 b35 => ⟨_, _, rfl, rfl, ?_⟩⟩
      have y35 := y34.trans x35
      have hr9 : r9 = 0 ∨ r9 = 1 := by omega
      clear x35 y34 b34 v0 v1
      rcases hr9 with rfl | rfl
      dsimp only
      rw [show (80 : Int) + 0 = ((80 : Nat) : Int) from rfl]
      refine ⟨_, rfl, _, _, rfl, rfl, by decide, by decide, by decide, _, _, rfl, rfl, cat_fit fact_80.1, ?_⟩
      refine ⟨_, rfl, fact_80.1, hTn.ext y35, fun mm s hp9 => (ok_err fact_80 hp9).elim, fun ms rs hp9 H36 x36 => ?_⟩
      refine ⟨by show 2 ≤ sizeLine; decide, fun tt htt => ⟨by show 2 ≤ sizeLine; decide, fun tl htl => ?_⟩⟩
      have x37 : Ext [] H36 (upd (upd H36 tt (.tup [.int 82, .str "too many"])) tl (.lst [.str "", .ref tt])) := (Ext.new htt).trans (.new htl)
      refine ⟨_, rfl, rfl, .inr ⟨_, rfl, tl, [.str "", .ref tt], _, .str "", rfl, rfl, SqL.of upd_same, by rw [if_neg (by decide)]; exact atI_nat (j := 0) rfl, _, _, .str _, .str _, shE, shE, _, rfl, neF (by decide +kernel) ?_⟩⟩
      have y37 := y35.trans (x36.trans x37).more
      have b37 := b35.ext (x36.trans x37)
      generalize (upd (upd H36 tt (.tup [.int 82, .str "too many"])) tl (.lst [.str "", .ref tt])) = H37 at y37 b37 x37 ⊢
      clear x37 x36 htt htl y35 b35
      rotate_left
      dsimp only
      rw [show (80 : Int) + 1 = ((81 : Nat) : Int) from rfl]
      refine ⟨_, rfl, _, _, rfl, rfl, by decide, by decide, by decide, _, _, rfl, rfl, cat_fit fact_81.1, ?_⟩
      refine ⟨_, rfl, fact_81.1, hTn.ext y35, fun mm s hp9 q9 H36 x36 e36 => ?_, fun ms rs hp9 => (err_ok fact_81 hp9).elim⟩
      obtain ⟨rfl, rfl⟩ := err_inj fact_81 hp9
      refine ⟨by show 2 ≤ sizeLine; decide, fun tt htt => ⟨by show 2 ≤ sizeLine; decide, fun tl htl => ?_⟩⟩
      have et : (upd (upd H36 tt (.tup [.int 82, .str "too many"])) tl (.lst [.str "", .ref tt])) tt = some (.tup [.int 82, .str "too many"]) := by rw [upd_ne (ne_of_none upd_same htl)]; exact upd_same
      have x37 : Ext [] H36 (upd (upd H36 tt (.tup [.int 82, .str "too many"])) tl (.lst [.str "", .ref tt])) := (Ext.new htt).trans (.new htl)
      refine ⟨_, rfl, rfl, .inr ⟨_, rfl, tl, [.str "", .ref tt], _, .ref tt, rfl, rfl, SqL.of upd_same, by rw [if_pos (by decide)]; exact atI_nat (j := 1) rfl, _, _, dpT (x37.tup _ _ e36), dpT et, shaped_two _ _ shT, shaped_two _ _ shT, _, rfl, neF (eqv_two _ _) ?_⟩⟩
      have y37 := y35.trans (x36.trans x37).more
      have b37 := b35.ext (x36.trans x37)
      generalize (upd (upd H36 tt (.tup [.int 82, .str "too many"])) tl (.lst [.str "", .ref tt])) = H37 at y37 b37 x37 et ⊢
      clear x37 et hp9 e36 x36 htt htl y35 b35
      all_goals
        -- tabs
        refine ⟨_, rfl, by show 2 ≤ sizeLine; decide, fun tq htq => ?_⟩
        refine ⟨b, d, tq, _, rfl, b37.ext (.new htq), upd_same, b37.new htq, by show 0 < 2; decide, fun j9 v9 hv9 H39 x39 b39 => ?_⟩
        obtain ⟨z, rfl, hz⟩ : ∃ z : Str, v9 = .str z ∧ z ∈ ([("\t" : Str), "a\tb"] : List Str) := by
          have := List.mem_of_getElem? hv9
          simp only [List.mem_cons, List.not_mem_nil, or_false] at this
          rcases this with rfl | rfl
          · exact ⟨_, rfl, by simp⟩
          · exact ⟨_, rfl, by simp⟩
        have F7 := fact_tab hz
        have y39 := (y37.trans (.new htq)).trans x39
        refine ⟨_, _, rfl, rfl, cat_fit F7.1, ?_⟩
        refine ⟨_, rfl, F7.1, hTn.ext y39, fun mm s hp9 q9 H40 x40 e40 => ?_, fun ms rs hp9 => (err_ok F7 hp9).elim⟩
        obtain ⟨rfl, rfl⟩ := err_inj F7 hp9
        refine ⟨by show 2 ≤ sizeLine; decide, fun t41 ht41 => ?_⟩
        have x41 : Ext [] H40 (upd H40 t41 (.tup [V.int 1, V.str "text not allowed"])) := .new ht41
        refine ⟨_, _, dpT (x41.tup _ _ e40), dpT upd_same, shaped_two _ _ shA, shaped_two _ _ shA, _, rfl, neF (eqv_two _ _) ?_⟩
        have y41 := y39.trans (x40.trans x41).more
        have b41 := b39.ext (x40.trans x41)
        generalize (upd H40 t41 (.tup [V.int 1, V.str "text not allowed"])) = H41 at x41 y41 b41 ⊢
        clear x41 ht41 e40 x40 hp9 F7 y39 x39 b39 y37 b37
        -- a long comment
        refine ⟨_, rfl, b, d, 3, rfl, b41, by decide, fun rs9 H42 w0 w1 x42 b42 => ⟨_, _, rfl, rfl, ?_⟩⟩
        obtain ⟨r, rfl⟩ := nat_of w0
        have y42 := y41.trans x42
        refine ⟨_, rfl, _, rfl, _, rfl, _, rfl, by decide, _, _, rfl, rfl, ?_⟩
        have l8 : ("marks a\n" : Str).length = 8 := rfl
        dsimp only
        rw [l8, show (9999 : Int) + (r : Nat) - ((8 : Nat) : Int) = ((9991 + r : Nat) : Int) by omega]
        by_cases hc : r ≤ 1
        · have F8 := fact_hash (n := 9991 + r) (by omega) (by omega)
          refine ⟨_, _, rfl, rfl, by omega, by omega, by decide, _, _, rfl, rfl, cat_fit F8.1, ?_⟩
          refine ⟨_, rfl, F8.1, hTn.ext y42, fun mm s hp9 => (ok_err F8 hp9).elim, fun ms rs hp9 H43 x43 => ?_⟩
          refine ⟨by show 2 ≤ sizeLine; decide, fun tt htt => ⟨by show 2 ≤ sizeLine; decide, fun tl htl => ?_⟩⟩
          refine ⟨_, rfl, _, _, rfl, rfl, .inr ⟨_, rfl, tl, [.str "", .ref tt], _, .str "", rfl, rfl, SqL.of upd_same, by rw [if_neg (by simp; omega)]; exact atI_nat (j := 0) rfl, _, _, .str _, .str _, shE, shE, ?_⟩⟩
          rw [show PyData.eqv (.str "") (.str "") = true from by decide +kernel]
          exact q _
        · have F8 := fact_hash_no (n := 9991 + r) (by omega) (by omega)
          refine ⟨_, _, rfl, rfl, by omega, by omega, by decide, _, _, rfl, rfl, cat_fit F8.1, ?_⟩
          refine ⟨_, rfl, F8.1, hTn.ext y42, fun mm s hp9 q9 H43 x43 e43 => ?_, fun ms rs hp9 => (err_ok F8 hp9).elim⟩
          obtain ⟨rfl, rfl⟩ := err_inj F8 hp9
          refine ⟨by show 2 ≤ sizeLine; decide, fun tt htt => ⟨by show 2 ≤ sizeLine; decide, fun tl htl => ?_⟩⟩
          have et : (upd (upd H43 tt (.tup [.int 1, .str "text not allowed"])) tl (.lst [.str "", .ref tt])) tt = some (.tup [.int 1, .str "text not allowed"]) := by rw [upd_ne (ne_of_none upd_same htl)]; exact upd_same
          have x44 : Ext [] H43 (upd (upd H43 tt (.tup [.int 1, .str "text not allowed"])) tl (.lst [.str "", .ref tt])) := (Ext.new htt).trans (.new htl)
          refine ⟨_, rfl, _, _, rfl, rfl, .inr ⟨_, rfl, tl, [.str "", .ref tt], _, .ref tt, rfl, rfl, SqL.of upd_same, by rw [if_pos (by simp; omega)]; exact atI_nat (j := 1) rfl, _, _, dpT (x44.tup _ _ e43), dpT et, shaped_two _ _ shA, shaped_two _ _ shA, ?_⟩⟩
          rw [eqv_two]
          exact q _
end
end K2
set_option Elab.async false
set_option linter.all false
set_option maxRecDepth 100000
set_option maxHeartbeats 4000000
namespace K2
open PySem PySem.Spec PyProof.Rows L2 Gx RZ
theorem tabIn_of {K : PySem.W.Frag} {x qual : Str} {f c P : Addr} {oc : Value} {od an : Option Addr} {osl : Array (Option Value)} {kV doc pm ct : Value} {st : Stmt} {e : Value} {dd : Option Addr} {vs : Array Value} {sl : Array (Option Value)}
    (a : PySem.W.nsIn K mainGlobals x = some (some (.ref f))) (l : K.lookup f = some ⟨oc, od, .func (PySem.W.fnOf x qual (defArgs st) (defBody st) (defScope st) .none kV doc pm an (.ref c) ct), osl⟩) (lc : K.lookup c = some ⟨e, dd, .fields vs, sl⟩) (v : vs[11]? = some (.ref P)) :
    PySem.W.tabIn K x = some (c, P) := by
  unfold PySem.W.tabIn
  rw [a]
  simp only [l, lc, v, PySem.W.fnOf]
theorem lawK {l : PySem.W.OpenLaw} {q : Program} {w : World} {K : PySem.W.Frag} {mg : Str → Option Value} {fa : Addr} {h : Heap} (KX : K.In h) (G : h.Ns mainGlobals mg) (hmg : mg "law" = some (.ref fa))
   (HT : ∀ (d' : DefRec) (y : Str) (c P : Addr), (recsOf q).find? (fun e => e.name == y) = some d' → PySem.W.tabIn K y = some (c, P) → PySem.W.CodeHd h c P ∧ h.get? P = some Gx.tab0)
    {odL anL : Option Addr} {slL : Array (Option Value)} {ocL kVL dcL pmL ctL : Value} {fL : Addr} {cdL : Value}
    (aL : PySem.W.nsIn K mainGlobals "law" = some (some (.ref fL))) (lL : K.lookup fL = some ⟨ocL, odL, .func (PySem.W.fnOf "law" "law" (defArgs sLaw) (defBody sLaw) (defScope sLaw) .none kVL dcL pmL anL cdL ctL), slL⟩) (hL : PySem.W.codeIn K cdL "law" = true) (kL : PySem.W.keepIn K (.ref fL) = true)
    {odDg anDg : Option Addr} {slDg : Array (Option Value)} {ocDg kVDg dcDg pmDg ctDg : Value} {fDg : Addr} {cdDg : Value}
    (aDg : PySem.W.nsIn K mainGlobals "_law_digits" = some (some (.ref fDg))) (lDg : K.lookup fDg = some ⟨ocDg, odDg, .func (PySem.W.fnOf "_law_digits" "_law_digits" (defArgs sDigits) (defBody sDigits) (defScope sDigits) .none kVDg dcDg pmDg anDg cdDg ctDg), slDg⟩) (hDg : PySem.W.codeIn K cdDg "_law_digits" = true) (kDg : PySem.W.keepIn K (.ref fDg) = true)
    {odC anC : Option Addr} {slC : Array (Option Value)} {ocC kVC dcC pmC ctC : Value} {fC : Addr} {cdC : Value}
    (aC : PySem.W.nsIn K mainGlobals "_law_cell" = some (some (.ref fC))) (lC : K.lookup fC = some ⟨ocC, odC, .func (PySem.W.fnOf "_law_cell" "_law_cell" (defArgs sCell) (defBody sCell) (defScope sCell) .none kVC dcC pmC anC cdC ctC), slC⟩) (hC : PySem.W.codeIn K cdC "_law_cell" = true) (kC : PySem.W.keepIn K (.ref fC) = true)
    {odD anD : Option Addr} {slD : Array (Option Value)} {ocD kVD dcD pmD ctD : Value} {fD : Addr} {cdD : Value}
    (aD : PySem.W.nsIn K mainGlobals "_law_draw" = some (some (.ref fD))) (lD : K.lookup fD = some ⟨ocD, odD, .func (PySem.W.fnOf "_law_draw" "_law_draw" (defArgs sDraw) (defBody sDraw) (defScope sDraw) .none kVD dcD pmD anD cdD ctD), slD⟩) (hD : PySem.W.codeIn K cdD "_law_draw" = true) (kD : PySem.W.keepIn K (.ref fD) = true)
    {odP anP : Option Addr} {slP : Array (Option Value)} {ocP kVP dcP pmP ctP : Value} {fP : Addr} {cdP : Value}
    (aP : PySem.W.nsIn K mainGlobals "_law_pick" = some (some (.ref fP))) (lP : K.lookup fP = some ⟨ocP, odP, .func (PySem.W.fnOf "_law_pick" "_law_pick" (defArgs sPick) (defBody sPick) (defScope sPick) .none kVP dcP pmP anP cdP ctP), slP⟩) (hP : PySem.W.codeIn K cdP "_law_pick" = true) (kP : PySem.W.keepIn K (.ref fP) = true)
    {odBf anBf : Option Addr} {slBf : Array (Option Value)} {ocBf kVBf dcBf pmBf ctBf : Value} {fBf : Addr} {cdBf : Value}
    (aBf : PySem.W.nsIn K mainGlobals "_law_bad_firsts" = some (some (.ref fBf))) (lBf : K.lookup fBf = some ⟨ocBf, odBf, .func (PySem.W.fnOf "_law_bad_firsts" "_law_bad_firsts" (defArgs sBadFirsts) (defBody sBadFirsts) (defScope sBadFirsts) .none kVBf dcBf pmBf anBf cdBf ctBf), slBf⟩) (hBf : PySem.W.codeIn K cdBf "_law_bad_firsts" = true) (kBf : PySem.W.keepIn K (.ref fBf) = true)
    {odBl anBl : Option Addr} {slBl : Array (Option Value)} {ocBl kVBl dcBl pmBl ctBl : Value} {fBl : Addr} {cdBl : Value}
    (aBl : PySem.W.nsIn K mainGlobals "_law_bad_lines" = some (some (.ref fBl))) (lBl : K.lookup fBl = some ⟨ocBl, odBl, .func (PySem.W.fnOf "_law_bad_lines" "_law_bad_lines" (defArgs sBadLines) (defBody sBadLines) (defScope sBadLines) .none kVBl dcBl pmBl anBl cdBl ctBl), slBl⟩) (hBl : PySem.W.codeIn K cdBl "_law_bad_lines" = true) (kBl : PySem.W.keepIn K (.ref fBl) = true)
    {odTo anTo : Option Addr} {slTo : Array (Option Value)} {ocTo kVTo dcTo pmTo ctTo : Value} {fTo : Addr} {cdTo : Value}
    (aTo : PySem.W.nsIn K mainGlobals "_law_told" = some (some (.ref fTo))) (lTo : K.lookup fTo = some ⟨ocTo, odTo, .func (PySem.W.fnOf "_law_told" "_law_told" (defArgs sTold) (defBody sTold) (defScope sTold) .none kVTo dcTo pmTo anTo cdTo ctTo), slTo⟩) (hTo : PySem.W.codeIn K cdTo "_law_told" = true) (kTo : PySem.W.keepIn K (.ref fTo) = true)
    {odPp anPp : Option Addr} {slPp : Array (Option Value)} {ocPp kVPp dcPp pmPp ctPp : Value} {fPp : Addr} {cdPp : Value}
    (aPp : PySem.W.nsIn K mainGlobals "parse" = some (some (.ref fPp))) (lPp : K.lookup fPp = some ⟨ocPp, odPp, .func (PySem.W.fnOf "parse" "parse" (defArgs sParse) (defBody sParse) (defScope sParse) .none kVPp dcPp pmPp anPp cdPp ctPp), slPp⟩) (hPp : PySem.W.codeIn K cdPp "parse" = true) (kPp : PySem.W.keepIn K (.ref fPp) = true)
    {odAs anAs : Option Addr} {slAs : Array (Option Value)} {ocAs kVAs dcAs pmAs ctAs : Value} {fAs : Addr} {cdAs : Value}
    (aAs : PySem.W.nsIn K mainGlobals "is_allowed_sign" = some (some (.ref fAs))) (lAs : K.lookup fAs = some ⟨ocAs, odAs, .func (PySem.W.fnOf "is_allowed_sign" "is_allowed_sign" (defArgs sIsAllowedSign) (defBody sIsAllowedSign) (defScope sIsAllowedSign) .none kVAs dcAs pmAs anAs cdAs ctAs), slAs⟩) (hAs : PySem.W.codeIn K cdAs "is_allowed_sign" = true) (kAs : PySem.W.keepIn K (.ref fAs) = true)
    {odWo anWo : Option Addr} {slWo : Array (Option Value)} {ocWo kVWo dcWo pmWo ctWo : Value} {fWo : Addr} {cdWo : Value}
    (aWo : PySem.W.nsIn K mainGlobals "words_of" = some (some (.ref fWo))) (lWo : K.lookup fWo = some ⟨ocWo, odWo, .func (PySem.W.fnOf "words_of" "words_of" (defArgs sWordsOf) (defBody sWordsOf) (defScope sWordsOf) .none kVWo dcWo pmWo anWo cdWo ctWo), slWo⟩) (hWo : PySem.W.codeIn K cdWo "words_of" = true) (kWo : PySem.W.keepIn K (.ref fWo) = true)
    {odMo anMo : Option Addr} {slMo : Array (Option Value)} {ocMo kVMo dcMo pmMo ctMo : Value} {fMo : Addr} {cdMo : Value}
    (aMo : PySem.W.nsIn K mainGlobals "marks_of" = some (some (.ref fMo))) (lMo : K.lookup fMo = some ⟨ocMo, odMo, .func (PySem.W.fnOf "marks_of" "marks_of" (defArgs sMarksOf) (defBody sMarksOf) (defScope sMarksOf) .none kVMo dcMo pmMo anMo cdMo ctMo), slMo⟩) (hMo : PySem.W.codeIn K cdMo "marks_of" = true) (kMo : PySem.W.keepIn K (.ref fMo) = true)
    {odRo anRo : Option Addr} {slRo : Array (Option Value)} {ocRo kVRo dcRo pmRo ctRo : Value} {fRo : Addr} {cdRo : Value}
    (aRo : PySem.W.nsIn K mainGlobals "reading_of" = some (some (.ref fRo))) (lRo : K.lookup fRo = some ⟨ocRo, odRo, .func (PySem.W.fnOf "reading_of" "reading_of" (defArgs sReadingOf) (defBody sReadingOf) (defScope sReadingOf) .none kVRo dcRo pmRo anRo cdRo ctRo), slRo⟩) (hRo : PySem.W.codeIn K cdRo "reading_of" = true) (kRo : PySem.W.keepIn K (.ref fRo) = true)
    {odFr anFr : Option Addr} {slFr : Array (Option Value)} {ocFr kVFr dcFr pmFr ctFr : Value} {fFr : Addr} {cdFr : Value}
    (aFr : PySem.W.nsIn K mainGlobals "fault_of_reading" = some (some (.ref fFr))) (lFr : K.lookup fFr = some ⟨ocFr, odFr, .func (PySem.W.fnOf "fault_of_reading" "fault_of_reading" (defArgs sFaultOfReading) (defBody sFaultOfReading) (defScope sFaultOfReading) .none kVFr dcFr pmFr anFr cdFr ctFr), slFr⟩) (hFr : PySem.W.codeIn K cdFr "fault_of_reading" = true) (kFr : PySem.W.keepIn K (.ref fFr) = true)
    {odJo anJo : Option Addr} {slJo : Array (Option Value)} {ocJo kVJo dcJo pmJo ctJo : Value} {fJo : Addr} {cdJo : Value}
    (aJo : PySem.W.nsIn K mainGlobals "is_joined" = some (some (.ref fJo))) (lJo : K.lookup fJo = some ⟨ocJo, odJo, .func (PySem.W.fnOf "is_joined" "is_joined" (defArgs sIsJoined) (defBody sIsJoined) (defScope sIsJoined) .none kVJo dcJo pmJo anJo cdJo ctJo), slJo⟩) (hJo : PySem.W.codeIn K cdJo "is_joined" = true) (kJo : PySem.W.keepIn K (.ref fJo) = true)
    {odNb anNb : Option Addr} {slNb : Array (Option Value)} {ocNb kVNb dcNb pmNb ctNb : Value} {fNb : Addr} {cdNb : Value}
    (aNb : PySem.W.nsIn K mainGlobals "neighbours" = some (some (.ref fNb))) (lNb : K.lookup fNb = some ⟨ocNb, odNb, .func (PySem.W.fnOf "neighbours" "neighbours" (defArgs sNeighbours) (defBody sNeighbours) (defScope sNeighbours) .none kVNb dcNb pmNb anNb cdNb ctNb), slNb⟩) (hNb : PySem.W.codeIn K cdNb "neighbours" = true) (kNb : PySem.W.keepIn K (.ref fNb) = true)
    {odNo anNo : Option Addr} {slNo : Array (Option Value)} {ocNo kVNo dcNo pmNo ctNo : Value} {fNo : Addr} {cdNo : Value}
    (aNo : PySem.W.nsIn K mainGlobals "neighbours_over" = some (some (.ref fNo))) (lNo : K.lookup fNo = some ⟨ocNo, odNo, .func (PySem.W.fnOf "neighbours_over" "neighbours_over" (defArgs sNeighboursOver) (defBody sNeighboursOver) (defScope sNeighboursOver) .none kVNo dcNo pmNo anNo cdNo ctNo), slNo⟩) (hNo : PySem.W.codeIn K cdNo "neighbours_over" = true) (kNo : PySem.W.keepIn K (.ref fNo) = true)
    {odVa anVa : Option Addr} {slVa : Array (Option Value)} {ocVa kVVa dcVa pmVa ctVa : Value} {fVa : Addr} {cdVa : Value}
    (aVa : PySem.W.nsIn K mainGlobals "is_value" = some (some (.ref fVa))) (lVa : K.lookup fVa = some ⟨ocVa, odVa, .func (PySem.W.fnOf "is_value" "is_value" (defArgs sIsValue) (defBody sIsValue) (defScope sIsValue) .none kVVa dcVa pmVa anVa cdVa ctVa), slVa⟩) (hVa : PySem.W.codeIn K cdVa "is_value" = true) (kVa : PySem.W.keepIn K (.ref fVa) = true)
    {odAl anAl : Option Addr} {slAl : Array (Option Value)} {ocAl kVAl dcAl pmAl ctAl : Value} {fAl : Addr} {cAl PAl : Addr} {dAl : DefRec} {eAl : Value} {ddAl : Option Addr} {vsAl : Array Value} {scAl : Array (Option Value)}
    (aAl : PySem.W.nsIn K mainGlobals "is_allowed" = some (some (.ref fAl))) (lAl : K.lookup fAl = some ⟨ocAl, odAl, .func (PySem.W.fnOf "is_allowed" "is_allowed" (defArgs sIsAllowed) (defBody sIsAllowed) (defScope sIsAllowed) .none kVAl dcAl pmAl anAl (.ref cAl) ctAl), slAl⟩) (hAl : PySem.W.codeIn K (.ref cAl) "is_allowed" = true) (kAl : PySem.W.keepIn K (.ref fAl) = true)
    (qAl : (recsOf q).find? (fun e => e.name == ("is_allowed" : Str)) = some dAl) (lcAl : K.lookup cAl = some ⟨eAl, ddAl, .fields vsAl, scAl⟩) (vAl : vsAl[11]? = some (.ref PAl)) (nAl : K.lookup PAl = none)
    {odFm anFm : Option Addr} {slFm : Array (Option Value)} {ocFm kVFm dcFm pmFm ctFm : Value} {fFm : Addr} {cFm PFm : Addr} {dFm : DefRec} {eFm : Value} {ddFm : Option Addr} {vsFm : Array Value} {scFm : Array (Option Value)}
    (aFm : PySem.W.nsIn K mainGlobals "fault_of_marks" = some (some (.ref fFm))) (lFm : K.lookup fFm = some ⟨ocFm, odFm, .func (PySem.W.fnOf "fault_of_marks" "fault_of_marks" (defArgs sFaultOfMarks) (defBody sFaultOfMarks) (defScope sFaultOfMarks) .none kVFm dcFm pmFm anFm (.ref cFm) ctFm), slFm⟩) (hFm : PySem.W.codeIn K (.ref cFm) "fault_of_marks" = true) (kFm : PySem.W.keepIn K (.ref fFm) = true)
    (qFm : (recsOf q).find? (fun e => e.name == ("fault_of_marks" : Str)) = some dFm) (lcFm : K.lookup cFm = some ⟨eFm, ddFm, .fields vsFm, scFm⟩) (vFm : vsFm[11]? = some (.ref PFm)) (nFm : K.lookup PFm = none)
    {odNm anNm : Option Addr} {slNm : Array (Option Value)} {ocNm kVNm dcNm pmNm ctNm : Value} {fNm : Addr} {cNm PNm : Addr} {dNm : DefRec} {eNm : Value} {ddNm : Option Addr} {vsNm : Array Value} {scNm : Array (Option Value)}
    (aNm : PySem.W.nsIn K mainGlobals "is_name" = some (some (.ref fNm))) (lNm : K.lookup fNm = some ⟨ocNm, odNm, .func (PySem.W.fnOf "is_name" "is_name" (defArgs sIsName) (defBody sIsName) (defScope sIsName) .none kVNm dcNm pmNm anNm (.ref cNm) ctNm), slNm⟩) (hNm : PySem.W.codeIn K (.ref cNm) "is_name" = true) (kNm : PySem.W.keepIn K (.ref fNm) = true)
    (qNm : (recsOf q).find? (fun e => e.name == ("is_name" : Str)) = some dNm) (lcNm : K.lookup cNm = some ⟨eNm, ddNm, .fields vsNm, scNm⟩) (vNm : vsNm[11]? = some (.ref PNm)) (nNm : K.lookup PNm = none)
    {odNu anNu : Option Addr} {slNu : Array (Option Value)} {ocNu kVNu dcNu pmNu ctNu : Value} {fNu : Addr} {cNu PNu : Addr} {dNu : DefRec} {eNu : Value} {ddNu : Option Addr} {vsNu : Array Value} {scNu : Array (Option Value)}
    (aNu : PySem.W.nsIn K mainGlobals "is_number" = some (some (.ref fNu))) (lNu : K.lookup fNu = some ⟨ocNu, odNu, .func (PySem.W.fnOf "is_number" "is_number" (defArgs sIsNumber) (defBody sIsNumber) (defScope sIsNumber) .none kVNu dcNu pmNu anNu (.ref cNu) ctNu), slNu⟩) (hNu : PySem.W.codeIn K (.ref cNu) "is_number" = true) (kNu : PySem.W.keepIn K (.ref fNu) = true)
    (qNu : (recsOf q).find? (fun e => e.name == ("is_number" : Str)) = some dNu) (lcNu : K.lookup cNu = some ⟨eNu, ddNu, .fields vsNu, scNu⟩) (vNu : vsNu[11]? = some (.ref PNu)) (nNu : K.lookup PNu = none)
    {odRc anRc : Option Addr} {slRc : Array (Option Value)} {ocRc kVRc dcRc pmRc ctRc : Value} {fRc : Addr} {cRc PRc : Addr} {dRc : DefRec} {eRc : Value} {ddRc : Option Addr} {vsRc : Array Value} {scRc : Array (Option Value)}
    (aRc : PySem.W.nsIn K mainGlobals "reached" = some (some (.ref fRc))) (lRc : K.lookup fRc = some ⟨ocRc, odRc, .func (PySem.W.fnOf "reached" "reached" (defArgs sReached) (defBody sReached) (defScope sReached) .none kVRc dcRc pmRc anRc (.ref cRc) ctRc), slRc⟩) (hRc : PySem.W.codeIn K (.ref cRc) "reached" = true) (kRc : PySem.W.keepIn K (.ref fRc) = true)
    (qRc : (recsOf q).find? (fun e => e.name == ("reached" : Str)) = some dRc) (lcRc : K.lookup cRc = some ⟨eRc, ddRc, .fields vsRc, scRc⟩) (vRc : vsRc[11]? = some (.ref PRc)) (nRc : K.lookup PRc = none)
    (z_len : PySem.W.nsIn K mainGlobals "len" = some none)
    (z_int : PySem.W.nsIn K mainGlobals "int" = some none)
    (z_range : PySem.W.nsIn K mainGlobals "range" = some none)
    (z_tuple : PySem.W.nsIn K mainGlobals "tuple" = some none)
    (z_all : PySem.W.nsIn K mainGlobals "all" = some none)
    (z_set : PySem.W.nsIn K mainGlobals "set" = some none)
    (z_enumerate : PySem.W.nsIn K mainGlobals "enumerate" = some none)
    (z_str : PySem.W.nsIn K mainGlobals "str" = some none)
    (z_isinstance : PySem.W.nsIn K mainGlobals "isinstance" = some none)
    (z_ord : PySem.W.nsIn K mainGlobals "ord" = some none)
    {tkMOST_LETTERS : Tok} (i_MOST_LETTERS : PySem.W.nsIn K mainGlobals "MOST_LETTERS" = some (some (.int 8 tkMOST_LETTERS)))
    {tkMOST_MARKS : Tok} (i_MOST_MARKS : PySem.W.nsIn K mainGlobals "MOST_MARKS" = some (some (.int 16 tkMOST_MARKS)))
    {tkMOST_READINGS : Tok} (i_MOST_READINGS : PySem.W.nsIn K mainGlobals "MOST_READINGS" = some (some (.int 80 tkMOST_READINGS)))
    {tkMOST_VALUE : Tok} (i_MOST_VALUE : PySem.W.nsIn K mainGlobals "MOST_VALUE" = some (some (.int 1000000 tkMOST_VALUE)))
    {tkMOST_SIGNS : Tok} (i_MOST_SIGNS : PySem.W.nsIn K mainGlobals "MOST_SIGNS" = some (some (.int 10000 tkMOST_SIGNS)))
    {tkMOST_DIGITS : Tok} (i_MOST_DIGITS : PySem.W.nsIn K mainGlobals "MOST_DIGITS" = some (some (.int 7 tkMOST_DIGITS)))
    {tkPERCENT_SIGN : Tok} (i_PERCENT_SIGN : PySem.W.nsIn K mainGlobals "PERCENT_SIGN" = some (some (.int 37 tkPERCENT_SIGN)))
    {Cn Le : Addr} (yC : PySem.W.nsIn K mainGlobals "BadNet" = some (some (.ref Cn))) (yL : PySem.W.nsIn K mainGlobals "LevelError" = some (some (.ref Le)))
    {fI : Addr} {odI anI : Option Addr} {slI : Array (Option Value)} {ocI kVI dcI pmI ctI cdI : Value} (iC : PySem.W.findIn K (.ref Cn) "__init__" = some (some (.ref fI))) (tI : PySem.W.typeIn K (.ref fI) = some (.type "function")) (lI : K.lookup fI = some ⟨ocI, odI, .func (PySem.W.fnOf "__init__" "BadNet.__init__" (defArgs sInit) (defBody sInit) (defScope sInit) .none kVI dcI pmI anI cdI ctI), slI⟩) (hI : PySem.W.codeIn K cdI "BadNet.__init__" = true) (kI : PySem.W.keepIn K (.ref fI) = true)
    {nm q' N bs bm sn sub ab col dd k0 k1 k2 k3 k5} (o1 : K.lookup Cn = some (excClassObj nm q' Cn N bs bm true sn sub ab col dd k0 k1 k2 k3 k5 "ValueError.__new__")) (o2 : PySem.HandSPX.refsVE bm = true) (o3 : PySem.W.findIn K (.ref Cn) "__setattr__" = some (some (.builtin "object.__setattr__"))) (o4 : PySem.W.subIn K (.ref Cn) (.type "BaseException") = some true) (o5 : PySem.W.typeIn K (.ref Cn) = some (.type "type")) (o8 : PySem.W.keepIn K (.ref Cn) = true)
    (o6 : PySem.W.findIn K (.ref Cn) "line" = some none) (o7 : PySem.W.findIn K (.ref Cn) "reason" = some none) (xc : ExcC K Cn) (xf : XfC K Cn)
    (eX : PySem.W.exmOne K (.ref Cn) (.ref Le) = some true) (kC_ : PySem.W.kitOne K (.ref Cn) (.ref Cn) = some true)
    : Gx.LawG l w K 16 63 "script" mg fa h := by
  have e := hmg.symm.trans (PySem.W.mg_of KX G aL)
  cases e
  have FL := fun_mk (st := sLaw) lL hL kL
  have FDg := fun_mk (st := sDigits) lDg hDg kDg
  have FC := fun_mk (st := sCell) lC hC kC
  have FD := fun_mk (st := sDraw) lD hD kD
  have FP := fun_mk (st := sPick) lP hP kP
  have FBf := fun_mk (st := sBadFirsts) lBf hBf kBf
  have FBl := fun_mk (st := sBadLines) lBl hBl kBl
  have FTo := fun_mk (st := sTold) lTo hTo kTo
  have FPp := fun_mk (st := sParse) lPp hPp kPp
  have FAs := fun_mk (st := sIsAllowedSign) lAs hAs kAs
  have FWo := fun_mk (st := sWordsOf) lWo hWo kWo
  have FMo := fun_mk (st := sMarksOf) lMo hMo kMo
  have FRo := fun_mk (st := sReadingOf) lRo hRo kRo
  have FFr := fun_mk (st := sFaultOfReading) lFr hFr kFr
  have FJo := fun_mk (st := sIsJoined) lJo hJo kJo
  have FNb := fun_mk (st := sNeighbours) lNb hNb kNb
  have FNo := fun_mk (st := sNeighboursOver) lNo hNo kNo
  have FVa := fun_mk (st := sIsValue) lVa hVa kVa
  have FAl := funT_mk (st := sIsAllowed) lAl hAl kAl
  have TAl := HT dAl "is_allowed" cAl PAl qAl (tabIn_of aAl lAl lcAl vAl)
  have FFm := funT_mk (st := sFaultOfMarks) lFm hFm kFm
  have TFm := HT dFm "fault_of_marks" cFm PFm qFm (tabIn_of aFm lFm lcFm vFm)
  have FNm := funT_mk (st := sIsName) lNm hNm kNm
  have TNm := HT dNm "is_name" cNm PNm qNm (tabIn_of aNm lNm lcNm vNm)
  have FNu := funT_mk (st := sIsNumber) lNu hNu kNu
  have TNu := HT dNu "is_number" cNu PNu qNu (tabIn_of aNu lNu lcNu vNu)
  have FRc := funT_mk (st := sReached) lRc hRc kRc
  have TRc := HT dRc "reached" cRc PRc qRc (tabIn_of aRc lRc lcRc vRc)
  have bDg := FDg.binds (ps := ["script", "first", "last"]) fun _ _ _ _ _ _ us hl => match us, hl with | [_, _, _], _ => rfl
  have gDg := PySem.W.mg_of KX G aDg
  have bC := FC.binds (ps := ["script", "k"]) fun _ _ _ _ _ _ us hl => match us, hl with | [_, _], _ => rfl
  have gC := PySem.W.mg_of KX G aC
  have bD := FD.binds (ps := ["box", "many"]) fun _ _ _ _ _ _ us hl => match us, hl with | [_, _], _ => rfl
  have gD := PySem.W.mg_of KX G aD
  have bP := FP.binds (ps := ["box", "things"]) fun _ _ _ _ _ _ us hl => match us, hl with | [_, _], _ => rfl
  have gP := PySem.W.mg_of KX G aP
  have bBf := FBf.binds (ps := []) fun _ _ _ _ _ _ us hl => match us, hl with | [], _ => rfl
  have gBf := PySem.W.mg_of KX G aBf
  have bBl := FBl.binds (ps := []) fun _ _ _ _ _ _ us hl => match us, hl with | [], _ => rfl
  have gBl := PySem.W.mg_of KX G aBl
  have bTo := FTo.binds (ps := ["text"]) fun _ _ _ _ _ _ us hl => match us, hl with | [_], _ => rfl
  have gTo := PySem.W.mg_of KX G aTo
  have bPp := FPp.binds (ps := ["text"]) fun _ _ _ _ _ _ us hl => match us, hl with | [_], _ => rfl
  have gPp := PySem.W.mg_of KX G aPp
  have bAs := FAs.binds (ps := ["sign"]) fun _ _ _ _ _ _ us hl => match us, hl with | [_], _ => rfl
  have gAs := PySem.W.mg_of KX G aAs
  have bWo := FWo.binds (ps := ["line"]) fun _ _ _ _ _ _ us hl => match us, hl with | [_], _ => rfl
  have gWo := PySem.W.mg_of KX G aWo
  have bMo := FMo.binds (ps := ["words", "number"]) fun _ _ _ _ _ _ us hl => match us, hl with | [_, _], _ => rfl
  have gMo := PySem.W.mg_of KX G aMo
  have bRo := FRo.binds (ps := ["words", "marks", "many", "number"]) fun _ _ _ _ _ _ us hl => match us, hl with | [_, _, _, _], _ => rfl
  have gRo := PySem.W.mg_of KX G aRo
  have bFr := FFr.binds (ps := ["words", "marks", "many"]) fun _ _ _ _ _ _ us hl => match us, hl with | [_, _, _], _ => rfl
  have gFr := PySem.W.mg_of KX G aFr
  have bJo := FJo.binds (ps := ["marks", "readings"]) fun _ _ _ _ _ _ us hl => match us, hl with | [_, _], _ => rfl
  have gJo := PySem.W.mg_of KX G aJo
  have bNb := FNb.binds (ps := ["many", "readings"]) fun _ _ _ _ _ _ us hl => match us, hl with | [_, _], _ => rfl
  have gNb := PySem.W.mg_of KX G aNb
  have bNo := FNo.binds (ps := ["many", "readings", "chosen"]) fun _ _ _ _ _ _ us hl => match us, hl with | [_, _, _], _ => rfl
  have gNo := PySem.W.mg_of KX G aNo
  have bVa := FVa.binds (ps := ["number"]) fun _ _ _ _ _ _ us hl => match us, hl with | [_], _ => rfl
  have gVa := PySem.W.mg_of KX G aVa
  have bAl := FAl.toFun.binds (ps := ["text"]) fun _ _ _ _ _ _ us hl => match us, hl with | [_], _ => rfl
  have gAl := PySem.W.mg_of KX G aAl
  have bFm := FFm.toFun.binds (ps := ["words"]) fun _ _ _ _ _ _ us hl => match us, hl with | [_], _ => rfl
  have gFm := PySem.W.mg_of KX G aFm
  have bNm := FNm.toFun.binds (ps := ["thing"]) fun _ _ _ _ _ _ us hl => match us, hl with | [_], _ => rfl
  have gNm := PySem.W.mg_of KX G aNm
  have bNu := FNu.toFun.binds (ps := ["word", "most"]) fun _ _ _ _ _ _ us hl => match us, hl with | [_, _], _ => rfl
  have gNu := PySem.W.mg_of KX G aNu
  have bRc := FRc.toFun.binds (ps := ["many", "readings", "start"]) fun _ _ _ _ _ _ us hl => match us, hl with | [_, _, _], _ => rfl
  have gRc := PySem.W.mg_of KX G aRc
  have m_len := PySem.W.mg_none_of KX G z_len
  have m_int := PySem.W.mg_none_of KX G z_int
  have m_range := PySem.W.mg_none_of KX G z_range
  have m_tuple := PySem.W.mg_none_of KX G z_tuple
  have m_all := PySem.W.mg_none_of KX G z_all
  have m_set := PySem.W.mg_none_of KX G z_set
  have m_enumerate := PySem.W.mg_none_of KX G z_enumerate
  have m_str := PySem.W.mg_none_of KX G z_str
  have m_isinstance := PySem.W.mg_none_of KX G z_isinstance
  have m_ord := PySem.W.mg_none_of KX G z_ord
  have j_MOST_LETTERS := PySem.W.mg_of KX G i_MOST_LETTERS
  have j_MOST_MARKS := PySem.W.mg_of KX G i_MOST_MARKS
  have j_MOST_READINGS := PySem.W.mg_of KX G i_MOST_READINGS
  have j_MOST_VALUE := PySem.W.mg_of KX G i_MOST_VALUE
  have j_MOST_SIGNS := PySem.W.mg_of KX G i_MOST_SIGNS
  have j_MOST_DIGITS := PySem.W.mg_of KX G i_MOST_DIGITS
  have j_PERCENT_SIGN := PySem.W.mg_of KX G i_PERCENT_SIGN
  have FI := fun_mk (st := sInit) lI hI kI
  have bI := FI.binds (ps := ["self", "line", "reason"]) fun _ _ _ _ _ _ us hl => match us, hl with | [_, _, _], _ => rfl
  have gCn := PySem.W.mg_of KX G yC
  have BC : BadC K Cn := ⟨⟨⟨_, _, _, _, _, _, _, _, _, _, _, _, _, _, _, o1, o2⟩, o3, o4, o5, o8⟩, o6, o7⟩
  have X : Errs K mg Cn Le := ⟨BC, xc, xf, PySem.W.mg_of KX G yL, gCn, eX, kC_⟩
  refine ⟨PySem.W.fnOf "law" "law" (defArgs sLaw) (defBody sLaw) (defScope sLaw) .none kVL dcL pmL anL cdL ctL, [(cAl, PAl), (cFm, PFm), (cNm, PNm), (cNu, PNu), (cRc, PRc)], spLaw K PAl PFm PNm PNu PRc, fun p hp => ?_, fun s v => .of_eq rfl, fun H a ns _ _ hH hS => ⟨a, ns, rfl, hS, ⟨hH (cAl, PAl) (by simp), hH (cFm, PFm) (by simp), hH (cNm, PNm) (by simp), hH (cNu, PNu) (by simp), hH (cRc, PRc) (by simp)⟩, fun _ => rfl⟩, fun base _ _ hB => ?_⟩
  · simp only [List.mem_cons, List.not_mem_nil, or_false] at hp
    rcases hp with rfl | rfl | rfl | rfl | rfl
    · exact ⟨TAl.2, nAl, TAl.1⟩
    · exact ⟨TFm.2, nFm, TFm.1⟩
    · exact ⟨TNm.2, nNm, TNm.1⟩
    · exact ⟨TNu.2, nNu, TNu.1⟩
    · exact ⟨TRc.2, nRc, TRc.1⟩
  · skip
    have tAl := hB (cAl, PAl) (by simp)
    have tFm := hB (cFm, PFm) (by simp)
    have tNm := hB (cNm, PNm) (by simp)
    have tNu := hB (cNu, PNu) (by simp)
    have tRc := hB (cRc, PRc) (by simp)
    have Oas := ok_sign (P := l.prog) (w := w) (base := base) m_ord j_PERCENT_SIGN FAs
    have Oal := ok_allowed m_len m_all j_MOST_SIGNS FAl tAl Oas kAs bAs gAs
    have Owo := ok_wordsOf (P := l.prog) (w := w) (mg := mg) (base := base) FWo
    have Onm := ok_isName (P := l.prog) (w := w) m_isinstance m_str m_len m_all j_MOST_LETTERS FNm tNm
    have Ofm := ok_faultMarks m_len m_all m_set j_MOST_MARKS FFm tFm Onm kNm bNm gNm
    have Omo := ok_marksOf m_tuple FMo Ofm kFm bFm gFm FI bI iC tI gCn BC
    have Onu := ok_isNumber (P := l.prog) (w := w) m_len m_all FNu tNu
    have Ova := ok_isValue (P := l.prog) (w := w) (base := base) j_MOST_VALUE FVa
    have Ofr := ok_faultReading m_len m_int j_MOST_DIGITS j_MOST_READINGS FFr Onu kNu bNu gNu Ova kVa bVa gVa
    have Oro := ok_readingOf m_int FRo Ofr kFr bFr gFr FI bI iC tI gCn BC
    have Orc := ok_reached (P := l.prog) (w := w) m_range m_len m_tuple FRc tRc FNb bNb gNb FNo bNo gNo
    have Ojo := ok_joined m_len FJo Orc kRc bRc gRc
    have Opp := ok_parse m_len m_enumerate m_tuple FPp Oal kAl bAl gAl Owo kWo bWo gWo Omo kMo bMo gMo Oro kRo bRo gRo Ojo kJo bJo gJo FI bI iC tI gCn BC
    have Oto := ok_told m_isinstance FTo X Opp kPp bPp gPp
    exact ok_law m_len m_int FL ⟨ok_digits m_len m_range m_int FDg FC bC gC, kDg, bDg, gDg⟩ ⟨ok_draw m_len m_int FD, kD, bD, gD⟩ ⟨ok_pick m_len m_int FP FD bD gD, kP, bP, gP⟩ ⟨tab_ex fun c => ok_firsts m_range FBf c, kBf, bBf, gBf⟩ ⟨tab_ex fun c => ok_lines FBl c, kBl, bBl, gBl⟩ ⟨Oto, kTo, bTo, gTo⟩
end K2
open PySem PySem.W PyProof.Rows
set_option maxHeartbeats 0 in
theorem PySem.Challenge.cw_truelevels_k02_wrong_texts_holds : PySem.Challenge.rw_truelevels_k02_wrong_texts.Holds := by
  w_on; o_law; k_head; (case hw => w_witness2)
  k_fill
  refine Gx.walkG (l := PySem.Challenge.rw_truelevels_k02_wrong_texts) (n := 63) (k := 16) (x := "script") rfl (by decide) rfl ⟨rfl, by decide, by decide⟩ (fun w h Y => PySem.W.kIn_of Y) ?F
  case F =>
    intro w mg fa h KX G hmg HT
    refine' K2.lawK KX G hmg HT ?aL ?lL ?hL ?kL ?aDg ?lDg ?hDg ?kDg ?aC ?lC ?hC ?kC ?aD ?lD ?hD ?kD ?aP ?lP ?hP ?kP ?aBf ?lBf ?hBf ?kBf ?aBl ?lBl ?hBl ?kBl ?aTo ?lTo ?hTo ?kTo ?aPp ?lPp ?hPp ?kPp ?aAs ?lAs ?hAs ?kAs ?aWo ?lWo ?hWo ?kWo ?aMo ?lMo ?hMo ?kMo ?aRo ?lRo ?hRo ?kRo ?aFr ?lFr ?hFr ?kFr ?aJo ?lJo ?hJo ?kJo ?aNb ?lNb ?hNb ?kNb ?aNo ?lNo ?hNo ?kNo ?aVa ?lVa ?hVa ?kVa ?aAl ?lAl ?hAl ?kAl ?qAl ?lcAl ?vAl ?nAl ?aFm ?lFm ?hFm ?kFm ?qFm ?lcFm ?vFm ?nFm ?aNm ?lNm ?hNm ?kNm ?qNm ?lcNm ?vNm ?nNm ?aNu ?lNu ?hNu ?kNu ?qNu ?lcNu ?vNu ?nNu ?aRc ?lRc ?hRc ?kRc ?qRc ?lcRc ?vRc ?nRc ?z_len ?z_int ?z_range ?z_tuple ?z_all ?z_set ?z_enumerate ?z_str ?z_isinstance ?z_ord ?i_MOST_LETTERS ?i_MOST_MARKS ?i_MOST_READINGS ?i_MOST_VALUE ?i_MOST_SIGNS ?i_MOST_DIGITS ?i_PERCENT_SIGN ?yC ?yL ?iC ?tI ?lI ?hI ?kI ?o1 ?o2 ?o3 ?o4 ?o5 ?o8 ?o6 ?o7 ?xc ?xf ?eX ?kC_
    (case aL => k_is)
    (case lL => k_is)
    (case hL => k_is)
    (case kL => k_is)
    (case aDg => k_is)
    (case lDg => k_is)
    (case hDg => k_is)
    (case kDg => k_is)
    (case aC => k_is)
    (case lC => k_is)
    (case hC => k_is)
    (case kC => k_is)
    (case aD => k_is)
    (case lD => k_is)
    (case hD => k_is)
    (case kD => k_is)
    (case aP => k_is)
    (case lP => k_is)
    (case hP => k_is)
    (case kP => k_is)
    (case aBf => k_is)
    (case lBf => k_is)
    (case hBf => k_is)
    (case kBf => k_is)
    (case aBl => k_is)
    (case lBl => k_is)
    (case hBl => k_is)
    (case kBl => k_is)
    (case aTo => k_is)
    (case lTo => k_is)
    (case hTo => k_is)
    (case kTo => k_is)
    (case aPp => k_is)
    (case lPp => k_is)
    (case hPp => k_is)
    (case kPp => k_is)
    (case aAs => k_is)
    (case lAs => k_is)
    (case hAs => k_is)
    (case kAs => k_is)
    (case aWo => k_is)
    (case lWo => k_is)
    (case hWo => k_is)
    (case kWo => k_is)
    (case aMo => k_is)
    (case lMo => k_is)
    (case hMo => k_is)
    (case kMo => k_is)
    (case aRo => k_is)
    (case lRo => k_is)
    (case hRo => k_is)
    (case kRo => k_is)
    (case aFr => k_is)
    (case lFr => k_is)
    (case hFr => k_is)
    (case kFr => k_is)
    (case aJo => k_is)
    (case lJo => k_is)
    (case hJo => k_is)
    (case kJo => k_is)
    (case aNb => k_is)
    (case lNb => k_is)
    (case hNb => k_is)
    (case kNb => k_is)
    (case aNo => k_is)
    (case lNo => k_is)
    (case hNo => k_is)
    (case kNo => k_is)
    (case aVa => k_is)
    (case lVa => k_is)
    (case hVa => k_is)
    (case kVa => k_is)
    (case aAl => k_is)
    (case lAl => k_is)
    (case hAl => k_is)
    (case kAl => k_is)
    (case qAl => rfl)
    (case lcAl => k_is)
    (case vAl => rfl)
    (case nAl => rfl)
    (case aFm => k_is)
    (case lFm => k_is)
    (case hFm => k_is)
    (case kFm => k_is)
    (case qFm => rfl)
    (case lcFm => k_is)
    (case vFm => rfl)
    (case nFm => rfl)
    (case aNm => k_is)
    (case lNm => k_is)
    (case hNm => k_is)
    (case kNm => k_is)
    (case qNm => rfl)
    (case lcNm => k_is)
    (case vNm => rfl)
    (case nNm => rfl)
    (case aNu => k_is)
    (case lNu => k_is)
    (case hNu => k_is)
    (case kNu => k_is)
    (case qNu => rfl)
    (case lcNu => k_is)
    (case vNu => rfl)
    (case nNu => rfl)
    (case aRc => k_is)
    (case lRc => k_is)
    (case hRc => k_is)
    (case kRc => k_is)
    (case qRc => rfl)
    (case lcRc => k_is)
    (case vRc => rfl)
    (case nRc => rfl)
    (case z_len => k_is)
    (case z_int => k_is)
    (case z_range => k_is)
    (case z_tuple => k_is)
    (case z_all => k_is)
    (case z_set => k_is)
    (case z_enumerate => k_is)
    (case z_str => k_is)
    (case z_isinstance => k_is)
    (case z_ord => k_is)
    (case i_MOST_LETTERS => k_is)
    (case i_MOST_MARKS => k_is)
    (case i_MOST_READINGS => k_is)
    (case i_MOST_VALUE => k_is)
    (case i_MOST_SIGNS => k_is)
    (case i_MOST_DIGITS => k_is)
    (case i_PERCENT_SIGN => k_is)
    (case yC => k_is)
    (case yL => k_is)
    (case iC => k_is)
    (case tI => k_is)
    (case lI => k_is)
    (case hI => k_is)
    (case kI => k_is)
    (case o1 => k_is)
    (case o2 => decide +kernel)
    (case o3 => k_is)
    (case o4 => k_is)
    (case o5 => k_is)
    (case o8 => k_is)
    (case o6 => k_is)
    (case o7 => k_is)
    (case xc => (constructor <;> k_is))
    (case xf => (constructor <;> k_is))
    (case eX => kts_exm)
    (case kC_ => kit_is)
