import PyProof.Rows.All
import Wide.All
import OpenK.AllK
import Wide.FinOn
import HandS.GenList
import HandS.Comp
import HandS.AnyAll
import PyProof.CodeObjX
import PyProof.TupleOfGen
import HandS.ForMost
import HandS.EndBits
import KE.GoesMore
import KE.GoesEnum
import HandS.Zip
import HandS.IsInst
import HandS.SetFor
import HandS.Strs
import HandS.StrMore
import HandS.FStr
import HandS.Star
import HandS.Text
import HandS.TupAny
import HandS.More
import HandS.SortInts
import HandS.Exc
import HandS.ExcInit
import HandS.ExcField
import HandS.ExcIs
import HandS.WordsExc
import KE.KExcIs
import KE.IntTextLaws
import HandS.Style
import PySem.Challenge.RW_truelevels_k35_papers_are_read
set_option Elab.async false
set_option linter.all false
set_option maxRecDepth 100000
set_option maxHeartbeats 4000000
/-! Generator expressions over the hand layer: the frame's context, its turns, its making. -/
namespace Gx
open PySem PySem.Spec PyProof.Rows L2 GenW

theorem over_gx {A : Around} {elt tg iter : Expr} {ifs : List Expr} {scope : Scope} {pos : Pos} {it acc : Value} {cenv : Env} : A.over (.compLoop (.GeneratorExp elt [⟨tg, iter, ifs, 0⟩] scope pos) 0 it acc cenv) [] = A.deeper cenv := by
  obtain ⟨hd, d, fr, gs, u⟩ := A; simp [Around.over, Around.deeper, marksOver, frameCount, unitsOf, envsOf, guardsOf, pushEnvs, pushGuards, Code.envs, Code.env?, Code.isFrame, Code.guards, Code.isGuard, Code.weight, Code.frames, Code.isCreation, Code.isCaller, Code.cUnits]
theorem over_gxs {A : Around} {elt tg iter : Expr} {ifs : List Expr} {scope : Scope} {pos : Pos} {it acc : Value} {cenv : Env} : A.over (.compStart (.GeneratorExp elt [⟨tg, iter, ifs, 0⟩] scope pos) 0 it acc cenv) [] = A.deeper cenv := by
  obtain ⟨hd, d, fr, gs, u⟩ := A; simp [Around.over, Around.deeper, marksOver, frameCount, unitsOf, envsOf, guardsOf, pushEnvs, pushGuards, Code.envs, Code.env?, Code.isFrame, Code.guards, Code.isGuard, Code.weight, Code.frames, Code.isCreation, Code.isCaller, Code.cUnits]

/-- the context of the frame: s the state ahead of it, fp its iterator's objects, pn the generator's own object -/
abbrev cx (X : Cx) (A : Around) (s : Shared) (H : Hp) (cenv : Env) (fp : List Addr) (pn : List (Addr × Obj)) : Cx :=
  { X with A := A.deeper cenv, s_0 := s, H_0 := H, env := cenv, outer := X.stack, stack := cenv :: X.stack, ex := fp, fn := fun _ => false, pn := pn, xe := fun _ _ => False }

section
variable {X : Cx} {pins : List (Addr × Obj)} {σ : L2.St} {H : Hp} {s : Shared}
theorem gstart {scope : Scope} {own : List (Str × Nat)} {fp : List Addr} {A : Around} {code : Value} {h5 : Heap} {g5 : Array GenState} {d5 : Drawn} {t5 : Nat} {m : Str → Option Value}
    (I : Inv X pins σ H s) (ok : BlkOk X.N X.env.scope scope own) (hN : X.N.Nodup) (hcell : ∀ y ∈ scope.names, y.2 ≠ .cell) (hfp : ∀ b ∈ fp, FpOk X pins H b ∧ b < s.heap.objs.size)
    (hA : A.handled = none) (hfr : A.frames = some X.stack) (hn : h5.Ns s.heap.objs.size m) (hk : ∀ b o, s.heap.get? b = some o → h5.get? b = some o) (hb : AllBare g5) :
    Inv (cx X A s H (genEnv scope (cloFrom X.env.cells scope.names []) s.heap.objs.size code builtinsNs X.env) fp []) [] (wipe σ (own.map (·.2))) H { s with heap := h5, gens := g5, drawn := d5, toks := t5 } := by
  have hfree : ∀ y ∈ scope.names, y.2 = .free → ∃ c, X.env.cells.lookup y.1 = some c := fun y hy e => by
    rcases ok.free y hy e with k | k
    · exact I.ok.has _ (.inl k)
    · exact I.ok.has _ (.inr k)
  have cm : ∀ {y c}, (y, c) ∈ cloFrom X.env.cells scope.names [] → X.env.cells.lookup y = some c ∧ c < s.heap.objs.size := fun {y c} hm => by
    rcases cloFrom_mem hm with hm | ⟨h1, rfl⟩
    · cases hm
    · obtain ⟨c, hc⟩ := hfree _ h1 rfl
      rw [hc]
      obtain ⟨w, z⟩ := I.cell _ _ hc
      exact ⟨rfl, z.lt⟩
  have look : ∀ {y}, scope.names.lookup y = some .free → ∃ c, (cloFrom X.env.cells scope.names []).lookup y = some c ∧ X.env.cells.lookup y = some c := fun {y} hl => by
    have hy : (y, NameKind.free) ∈ scope.names := PySem.mem_of_lookup hl
    obtain ⟨c', e'⟩ := mem_lookup (cloFrom_has (cells := X.env.cells) (acc := []) hy)
    exact ⟨c', e', (cm (PySem.mem_of_lookup e')).1⟩
  generalize hcenv : genEnv scope (cloFrom X.env.cells scope.names []) s.heap.objs.size code builtinsNs X.env = cenv
  have hL : cenv.locals = s.heap.objs.size := by rw [← hcenv]; rfl
  have hcl : cenv.cells = cloFrom X.env.cells scope.names [] := by rw [← hcenv]; rfl
  have hsc : cenv.scope = scope := by rw [← hcenv]; rfl
  have mem : ∀ {y c}, cenv.cells.lookup y = some c → X.env.cells.lookup y = some c ∧ c < s.heap.objs.size := fun {y c} e => by
    rw [hcl] at e
    exact cm (PySem.mem_of_lookup e)
  have nocell : ∀ {y}, scope.names.lookup y ≠ some .cell := fun {y} e => hcell _ (PySem.mem_of_lookup e) rfl
  have okB : (cx X A s H cenv fp []).Ok := by
    refine ⟨I.ok.mod, by show cenv.scope.kind = _; rw [hsc]; exact ok.kind, by show cenv.globals = _; rw [← hcenv]; exact I.ok.glob, by show cenv.builtins = _; rw [← hcenv]; rfl, by show s.heap.objs.size ≤ cenv.locals; rw [hL]; exact Nat.le_refl _,
      fun y z c e1 e2 => I.ok.inj y z c (mem e1).1 (mem e2).1, fun y hy => ?_, fun y c z e => Bool.noConfusion z, fun _ => hA, Around.frames_deeper hfr, .inr ⟨rfl, by show cenv.frame = some cenv.locals; rw [← hcenv]; rfl⟩, fun b hb => ⟨?_, fun y c e z => ?_⟩, I.bs, Nat.le_trans I.ok.bsz I.sz, fun b o e hb => ?_, fun b hb z => ?_, I.stack, I.stkFree⟩
    · show ∃ c, cenv.cells.lookup y = some c
      have hy : cenv.scope.names.lookup y = some .cell ∨ cenv.scope.names.lookup y = some .free := hy
      rw [hsc] at hy
      rcases hy with hy | hy
      · exact absurd hy nocell
      · obtain ⟨c, h1, _⟩ := look hy
        exact ⟨c, by rw [hcl]; exact h1⟩
    · show b ≠ cenv.locals
      rw [hL]; exact Nat.ne_of_lt (hfp b hb).2
    · exact (hfp b hb).1.2.2.2.2.1 y c (mem e).1 z
    · rcases (hfp b hb).1.2.2.2.1 with z | z
      · exact I.ok.noex b o e z
      · exact absurd (Nat.lt_of_lt_of_le (Heap.lt_size e) (Nat.le_trans I.ok.bsz z)) (Nat.lt_irrefl _)
    · rcases List.mem_cons.mp (I.stkSub b z) with z | z
      · exact (hfp b hb).1.2.1 z
      · exact (hfp b hb).1.2.2.1 z
  refine ⟨okB, rfl, hb, Un.kept hk, ⟨m, ?_, fun i y av e1 e2 e3 => ?_⟩, fun y c e => ?_, ?_, fun y c e => ?_, fun p hp => ?_, I.hok.kept hk, by rw [wipe_length]; exact I.len⟩
  · show Heap.Ns _ cenv.locals _
    rw [hL]
    exact hn
  · obtain ⟨e2, hne⟩ := wipe_some e2
    have e3 : Vis cenv.scope y := e3
    rw [hsc] at e3
    have no : ¬ (scope.names.lookup y = some .local ∨ scope.names.lookup y = some .cell) := fun hh => by
      obtain ⟨k, hk', hkk⟩ : ∃ k, (y, k) ∈ scope.names ∧ (k = NameKind.local ∨ k = NameKind.cell) := by
        rcases hh with hh | hh
        · exact ⟨_, PySem.mem_of_lookup hh, .inl rfl⟩
        · exact ⟨_, PySem.mem_of_lookup hh, .inr rfl⟩
      rcases ok.own (y, k) hk' hkk with e' | e'
      · obtain ⟨p, hp, hpy⟩ := List.mem_map.mp e'
        have e3 := ok.ix p hp
        have : p.1 = y := hpy
        rw [this] at e3
        exact hne (List.mem_map.mpr ⟨p, hp, nodup_ix hN e3 e1⟩)
      · exact e' (List.mem_of_getElem? e1)
    have hfr : scope.names.lookup y = some .free := by
      rcases e3 with e3 | e3 | e3
      · exact absurd (.inl e3) no
      · exact absurd (.inr e3) no
      · exact e3
    obtain ⟨m', hn', hl⟩ := I.loc
    have hvis : Vis X.env.scope y := (ok.free _ (PySem.mem_of_lookup hfr) rfl).elim (fun k => .inr (.inl k)) (fun k => .inr (.inr k))
    obtain ⟨w, r, q⟩ := hl i y av e1 e2 hvis
    refine ⟨w, r, .inr ⟨.inr (by show cenv.scope.names.lookup y = _; rw [hsc]; exact hfr), ?_⟩⟩
    obtain ⟨c, h1, h2⟩ := look hfr
    rcases q with ⟨k, _⟩ | ⟨_, c', e', z⟩
    · have k : X.env.scope.names.lookup y = some .local := k
      rcases ok.free _ (PySem.mem_of_lookup hfr) rfl with k' | k' <;> rw [show X.env.scope.names.lookup y = _ from k'] at k <;> cases k
    · rw [h2] at e'; cases e'
      exact ⟨c, by show cenv.cells.lookup y = _; rw [hcl]; exact h1, z.keeps hk⟩
  · have e : cenv.cells.lookup y = some c := e
    obtain ⟨w, z⟩ := I.cell y c (mem e).1
    exact ⟨w, z.keeps hk⟩
  · show H cenv.locals = none
    rw [hL]; exact I.hok.fresh (Nat.le_refl _)
  · have e : cenv.cells.lookup y = some c := e
    exact I.freeC y c (mem e).1
  · exact absurd (show p ∈ ([] : List (Addr × Obj)) ++ [] from hp) (by simp)
end

/-! ### the consumer's memory, the protocol -/
/-- CO: the addresses at which the consumer keeps its own; Rl: what is out, and how it stands there -/
abbrev Rel := List V → Shared → Prop
structure Stable (CO : List Addr) (Rl : Rel) : Prop where
  keep : ∀ ys s s', (∀ b ∈ CO, s'.heap.get? b = s.heap.get? b) → Rl ys s → Rl ys s'
/-- while the generator sleeps -/
structure Slept (CO : List Addr) (Rl : Rel) (ys : List V) (s s' : Shared) : Prop where
  os : s'.os = s.os
  bare : AllBare s'.gens
  keep : ∀ b o, b ∉ CO → s.heap.get? b = some o → s'.heap.get? b = some o
  own : ∀ b ∈ CO, ∃ o, s'.heap.get? b = some o ∧ ∀ v, o.data ≠ .cell v
  rel : Rl ys s'
/-- running -/
def GI (X' : Cx) (CO : List Addr) (σ : L2.St) (H : Hp) (s : Shared) : Prop := ∃ pins, pins.map (·.1) = CO ∧ Inv X' pins σ H s
structure Young (X' : Cx) (CO : List Addr) : Prop where
  sz : ∀ b ∈ CO, X'.s_0.heap.objs.size ≤ b
  loc : ∀ b ∈ CO, b ≠ X'.env.locals
  cell : ∀ b ∈ CO, ∀ x c, X'.env.cells.lookup x = some c → c ≠ b
  pn : ∀ b ∈ CO, ∀ p ∈ X'.pn, p.1 ≠ b
  ex : ∀ b ∈ CO, b ∉ X'.ex
theorem GI.free {X' : Cx} {CO : List Addr} {σ : L2.St} {H : Hp} {s : Shared} (h : GI X' CO σ H s) : ∀ b ∈ CO, H b = none ∧ ∃ o, s.heap.get? b = some o ∧ (∀ v, o.data ≠ .cell v) ∧ b ∉ X'.fs := fun b hb => by
  obtain ⟨pins, e, I⟩ := h
  rw [← e] at hb
  obtain ⟨p, hp, rfl⟩ := List.mem_map.mp hb
  obtain ⟨h1, h2, h3, h4, h5⟩ := I.pin p (List.mem_append_right _ hp)
  exact ⟨h2, p.2, h1, h5, h4⟩
/-- the pins at CO, as they stand -/
theorem pins_at {CO : List Addr} {s : Shared} (h : ∀ b ∈ CO, ∃ o, s.heap.get? b = some o ∧ ∀ v : Option Value, o.data ≠ .cell v) : ∃ pins : List (Addr × Obj), pins.map (·.1) = CO ∧ ∀ p ∈ pins, s.heap.get? p.1 = some p.2 ∧ ∀ v : Option Value, p.2.data ≠ .cell v := by
  induction CO with
  | nil => exact ⟨[], rfl, fun p hp => by cases hp⟩
  | cons b r ih =>
    obtain ⟨pins, e, hp⟩ := ih fun c hc => h c (List.mem_cons_of_mem _ hc)
    obtain ⟨o, h1, h2⟩ := h b List.mem_cons_self
    refine ⟨(b, o) :: pins, by rw [List.map_cons, e], fun p hp' => ?_⟩
    rcases List.mem_cons.mp hp' with rfl | hp'
    · exact ⟨h1, h2⟩
    · exact hp p hp'
theorem GI.make {X' : Cx} {CO : List Addr} {σ : L2.St} {H : Hp} {s : Shared} (I : Inv X' [] σ H s) (y : Young X' CO) (hf : ∀ b ∈ CO, H b = none ∧ b ∉ X'.fs) (h : ∀ b ∈ CO, ∃ o, s.heap.get? b = some o ∧ ∀ v : Option Value, o.data ≠ .cell v) : GI X' CO σ H s := by
  obtain ⟨pins, e, hp⟩ := pins_at h
  refine ⟨pins, e, I.pins_of fun p hp' => ?_⟩
  have hm : p.1 ∈ CO := by rw [← e]; exact List.mem_map.mpr ⟨p, hp', rfl⟩
  exact ⟨(hp p hp').1, (hf _ hm).1, y.loc _ hm, (hf _ hm).2, (hp p hp').2⟩
theorem GI.woken {X' : Cx} {CO : List Addr} {Rl : Rel} {ys : List V} {σ : L2.St} {H : Hp} {s s' : Shared} (y : Young X' CO) (h : GI X' CO σ H s) (z : Slept CO Rl ys s s') : GI X' CO σ H s' := by
  have hf := h.free
  obtain ⟨pins, e, I⟩ := h
  have I0 : Inv X' [] σ H s := I.pins_of fun p hp => by cases hp
  have nt : ∀ b u, H b = some u → b ∉ CO := fun b u q hb => by rw [(hf b hb).1] at q; cases q
  obtain ⟨z1, z2, z3, z4, _⟩ := z
  obtain ⟨hh, g, d, t, o⟩ := s'
  have ho : o = s.os := z1
  subst ho
  have J : Inv X' [] σ H { s with heap := hh, gens := g, drawn := d, toks := t } := by
    refine I0.step (g' := g) (t' := t) (d' := d) (ch := CO) (fun b hb => ⟨.inr (y.sz b hb), y.loc b hb, y.cell b hb, fun p hp => ?_⟩)
      (fun b ob _ _ hc q _ => z3 b ob hc q) (fun b ob _ _ hc q _ => ⟨ob.slots, z3 b ob hc q⟩) (fun _ _ _ _ n => n) (fun b ob hc q => ⟨ob, z3 b ob hc q⟩)
      (fun _ _ q => q) (fun _ _ _ q => q) (fun b ps q => ⟨#[], by rw [q]; simp⟩) (fun m hm => ?_) (fun b u q => ?_) z2
    · rcases List.mem_append.mp hp with hp | hp
      · exact y.pn b hb p hp
      · cases hp
    · obtain ⟨ob, es, ep, ho, r⟩ := hm
      exact ⟨ob, es, ep, z3 _ ob (fun hc => y.loc _ hc rfl) ho, r⟩
    · refine (I0.hok b u q).stay (fun c v hc y' => z3 c v ?_ y') (fun _ y => y) fun _ _ y => y
      rcases hc with y' | y'
      · rw [y']; exact nt b u q
      · exact nt c _ y'
  exact GI.make J y (fun b hb => ⟨(hf b hb).1, let ⟨_, _, _, h⟩ := hf b hb; h.2⟩) z4

/-- the state behind what ran so far, by the caller's data -/
structure Aw (X : Cx) (sc : Shared) (fp : List Addr) (H1 : Hp) (a : Addr) (g : Nat) (CO : List Addr) (H' : Hp) (s : Shared) : Prop where
  os : s.os = sc.os
  bare : AllBare s.gens
  un : Un (frs X.stack) fp H1 H' sc.heap s.heap
  hok : HOk X.prog X.w H' s.heap
  lim : s.heap.NoLimit
  gen : s.heap.IsGen a g
  free : ∀ b ∈ CO, H' b = none
  own : ∀ b ∈ CO, ∃ o, s.heap.get? b = some o ∧ ∀ v, o.data ≠ .cell v
/-- what a consumer asks: of an item that is out, behind which it goes on if go; at the end -/
structure GK where
  mid : List V → V → Hp → Prop
  go : V → Prop
  done : List V → Hp → Prop
def GFin (X : Cx) (sc : Shared) (fp : List Addr) (H1 : Hp) (a : Addr) (g : Nat) (CO : List Addr) (Rl : Rel) (N : Nat) (K : GK) (n : Nat) (s₀ s1 : Shared) : Prop :=
  (∀ b ∈ CO, s1.heap.get? b = s₀.heap.get? b) ∧ ∃ ys H', n + ys.length = N ∧ Aw X sc fp H1 a g CO H' s1 ∧ Rl ys s1 ∧ K.done ys H'
def GEnd (X : Cx) (sc : Shared) (fp : List Addr) (H1 : Hp) (a : Addr) (g : Nat) (CO : List Addr) (Rl : Rel) (N : Nat) (K : GK) : GenEnd := fun n s₀ r s1 =>
  ((r = .ok (.ret .none) ∨ r = .ok .next) ∧ GFin X sc fp H1 a g CO Rl N K n s₀ s1) ∨ ∃ e, r = .error e ∧ False
def GItem (X : Cx) (sc : Shared) (fp : List Addr) (H1 : Hp) (a : Addr) (g : Nat) (CO : List Addr) (Rl : Rel) (N : Nat) (K : GK) : Protocol := fun n s₀ v s1 kap =>
  (∀ b ∈ CO, s1.heap.get? b = s₀.heap.get? b) ∧ ∃ ys x H', n + 1 + ys.length = N ∧ RelV x v ∧ Aw X sc fp H1 a g CO H' s1 ∧ Rl ys s1 ∧ K.mid ys x H' ∧ (K.go x → ∀ s', Slept CO Rl (ys ++ [x]) s1 s' → kap (.send .none) s')
end Gx
set_option Elab.async false
set_option linter.all false
set_option maxRecDepth 100000
set_option maxHeartbeats 4000000
namespace Gx
open PySem PySem.Spec PyProof.Rows L2 GenW

/-- a turn's reading -/
def Turns (J : It) (g : TG) (tt : TT) (te : TE) (vs : List Nat) (σ : L2.St) (K : GK) (W : Nat → Nat → List V → Hp → Prop) : Prop :=
  ∀ i m ys H, W i m ys H → (J.stop i H ∧ K.done ys H) ∨ (J.go i H ∧ 0 < m ∧ ∃ Nx : List V → Hp → Prop, (∀ ys' H', Nx ys' H' → ∃ m', m' < m ∧ W (i + 1) m' ys' H') ∧
    ∀ x H', J.yld i H x H' → g x (wipe σ vs) H' fun σ2 H2 => wipe σ2 vs = wipe σ vs ∧ tt σ2 H2 fun b H3 =>
      if b = true then te σ2 H3 fun y H4 => K.mid ys y H4 ∧ (K.go y → Nx (ys ++ [y]) H4) else Nx ys H3)

section
variable {X' : Cx} {A : Around} {elt tg iter : Expr} {ifs : List Expr} {scope : Scope} {pos : Pos} {it : Addr} {fp : List Addr} {tn : Nat → Heap → Prop} {J : It} {g : TG} {tt : TT} {te : TE} {vs : List Nat} {σ : L2.St} {CO : List Addr} {Rl : Rel} {N : Nat} {K : GK}
  {W : Nat → Nat → List V → Hp → Prop} {R : GenEnd} {Y : Protocol}

theorem loop (hA : X'.A = A.deeper X'.env) (hxe : X'.xe = fun _ _ => False) (hc : X'.calm = true) (hex : X'.ex = fp) (hco : X'.env.scope.isCoroutine = false) (y : Young X' CO) (hpn : ∀ b ∈ fp, ∀ p ∈ X'.pn, p.1 ≠ b)
    (T : Turn X'.prog X'.w X'.K tg J fp it tn) (pg : PG X' tg g) (pt : PTs X' ifs tt) (pe : PE X' elt te) (hst : Stable CO Rl) (turn : Turns J g tt te vs σ K W)
    (hR : ∀ n s₀ s ys H, (∀ b ∈ CO, s.heap.get? b = s₀.heap.get? b) → n + ys.length = N → GI X' CO (wipe σ vs) H s → Rl ys s → K.done ys H → R n s₀ (.ok .next) s)
    (hY : ∀ n s₀ v s kap ys x σ' H, (∀ b ∈ CO, s.heap.get? b = s₀.heap.get? b) → n + 1 + ys.length = N → RelV x v → GI X' CO σ' H s → Rl ys s → K.mid ys x H → (K.go x → ∀ s', Slept CO Rl (ys ++ [x]) s s' → kap (.send .none) s') → Y n s₀ v s kap) :
    ∀ (m n i : Nat) (ys : List V) (s₀ s : Shared) (H : Hp), (∀ b ∈ CO, s.heap.get? b = s₀.heap.get? b) → n + ys.length = N → m ≤ n → GI X' CO (wipe σ vs) H s → Rl ys s → tn i s.heap → (∀ b ∈ fp, H b = none) → W i m ys H →
      Seg (model X'.prog X'.w) A R Y n s₀ (.compLoop (.GeneratorExp elt [⟨tg, iter, ifs, 0⟩] scope pos) 0 (.ref it) .none X'.env) ((model X'.prog X'.w).den (.compLoop (.GeneratorExp elt [⟨tg, iter, ifs, 0⟩] scope pos) 0 (.ref it) .none X'.env)) [] s := by
  have hov : A.over (.compLoop (.GeneratorExp elt [⟨tg, iter, ifs, 0⟩] scope pos) 0 (.ref it) .none X'.env) [] = X'.A := over_gx.trans hA.symm
  have nox : ∀ {e : Value} {s : Shared}, X'.xe e s → False := fun {e s} h => by rw [hxe] at h; exact h
  intro m
  induction m using Nat.strongRecOn with
  | ind m ih =>
    intro n i ys s₀ s H h00 hn hmn hI hRl htn hfp w
    obtain ⟨pins, ep, I⟩ := hI
    have pinCO : ∀ b ∈ CO, ∃ o, (b, o) ∈ pins := fun b hb => by
      rw [← ep] at hb
      obtain ⟨p, hp, rfl⟩ := List.mem_map.mp hb
      exact ⟨p.2, hp⟩
    have fpok : ∀ {σ' : L2.St} {H' : Hp} {s' : Shared}, Inv X' pins σ' H' s' → (∀ b ∈ fp, H' b = none) → ∀ b ∈ fp, FpOk X' pins H' b := fun {σ' H' s'} I' hn b hb => by
      have hb' : b ∈ X'.ex := by rw [hex]; exact hb
      refine ⟨hn b hb, (I'.ok.exf b hb').1, I'.ok.exfs b hb', .inl hb', fun x c e => (I'.ok.exf b hb').2 x c e, fun p hp => ?_⟩
      rcases List.mem_append.mp hp with hp | hp
      · exact hpn b hb p hp
      · have hm : p.1 ∈ CO := by rw [← ep]; exact List.mem_map.mpr ⟨p, hp, rfl⟩
        exact fun z => y.ex _ hm (by rw [hex, z]; exact hb)
    have keepCO : ∀ {σ' : L2.St} {H' : Hp} {s' : Shared} {more : List (Addr × Obj)}, Inv X' (pins ++ more) σ' H' s' → ∀ b ∈ CO, s'.heap.get? b = s.heap.get? b := fun {σ' H' s' more} I' b hb => by
      obtain ⟨o, ho⟩ := pinCO b hb
      exact (I'.pin (b, o) (List.mem_append_right _ (List.mem_append_left _ ho))).1.trans (I.pin (b, o) (List.mem_append_right _ ho)).1.symm
    have back : ∀ {σ' : L2.St} {H' : Hp} {s' : Shared} {more : List (Addr × Obj)}, Inv X' (pins ++ more) σ' H' s' → GI X' CO σ' H' s' := fun {σ' H' s' more} I' => ⟨pins, ep, I'.unpinned⟩
    show Seg _ A _ _ _ s₀ _ ((compTurn (.GeneratorExp elt [⟨tg, iter, ifs, 0⟩] scope pos) 0 (.ref it) .none X'.env).onRaise (leaving X'.env)) [] s
    rw [compTurn_gen, Sem.onRaise_eq_wrap]
    refine seg_bind_wrap (wpAny_standAt ?_)
    rcases turn i m ys H w with ⟨stop, dn⟩ | ⟨go, hm0, Nx, hNx, step⟩
    · refine seg_bind_wrap ?_
      rw [hov]
      refine wpAny_mono (T.done X' rfl rfl rfl hc i pins s _ H _ I (fpok I hfp) htn stop) (fun r s1 ⟨hr, I1⟩ => ?_) fun _ _ h => h
      subst hr
      exact seg_end (.ok .next) (hR n s₀ s1 ys H (fun b hb => (keepCO (more := []) (by rw [List.append_nil]; exact I1) b hb).trans (h00 b hb)) hn ⟨pins, ep, I1⟩ (hst.keep ys s s1 (fun b hb => keepCO (more := []) (by rw [List.append_nil]; exact I1) b hb) hRl) dn)
    · refine seg_bind_wrap ?_
      rw [hov]
      refine wpAny_mono (T.item X' rfl rfl rfl hc i pins s _ H _ I (fpok I hfp) htn go) (fun r s1 ⟨u, hr, h1⟩ => ?_) fun _ _ h => h
      subst hr
      dsimp only
      refine seg_bind_wrap ?_
      rw [hov]
      refine wpAny_mono h1 (fun _ s2 ⟨x, H2, I2, r2, y2, tn2, fp2⟩ => ?_) fun _ _ h => h
      have I2' := I2.pinned (fpok I2 fp2) (T.obj _ _ tn2)
      refine seg_bind_wrap ?_
      rw [hov]
      refine wpAny_mono (pg.run _ s2 _ H2 x u _ I2' r2 (step x H2 y2)) (fun _ s3 ⟨σ3, H3, I3, hw3, q3⟩ => ?_) fun _ _ h => (nox h).elim
      refine seg_bind_wrap ?_
      rw [hov]
      refine wpAny_mono (pt.run _ s3 σ3 H3 _ I3 q3) (fun b s4 ⟨H4, I4, q4⟩ => ?_) fun _ _ h => (nox h).elim
      have hl : (wipe σ vs).length = σ3.length := by rw [← hw3, wipe_length]
      have weak : ∀ {H' : Hp} {s' : Shared}, GI X' CO σ3 H' s' → GI X' CO (wipe σ vs) H' s' := fun {H' s'} hG => by
        obtain ⟨pins', e', I'⟩ := hG
        refine ⟨pins', e', I'.weak hl fun j v e => ?_⟩
        rw [← hw3] at e
        exact (wipe_some e).1
      have pin' : ∀ {H' : Hp} {s' : Shared}, Inv X' (pins ++ pinsAt fp s2.heap) σ3 H' s' → ∀ b ∈ fp, ∀ o, s2.heap.get? b = some o → s'.heap.get? b = some o ∧ H' b = none := fun {H' s'} I' b hb o e =>
        let z := I'.pin (b, o) (List.mem_append_right _ (List.mem_append_right _ (mem_pinsAt hb e)))
        ⟨z.1, z.2.1⟩
      have tnk : ∀ {H' : Hp} {s' : Shared}, Inv X' (pins ++ pinsAt fp s2.heap) σ3 H' s' → tn (i + 1) s'.heap := fun {H' s'} I' => T.keep _ _ _ tn2 fun b hb o e => (pin' I' b hb o e).1
      have fpn : ∀ {H' : Hp} {s' : Shared}, Inv X' (pins ++ pinsAt fp s2.heap) σ3 H' s' → ∀ b ∈ fp, H' b = none := fun {H' s'} I' b hb => by
        obtain ⟨o, e, _⟩ := T.obj _ _ tn2 b hb
        exact (pin' I' b hb o e).2
      cases b with
      | false =>
        simp only [Bool.false_eq_true, if_false] at q4 ⊢
        obtain ⟨m', hm', w'⟩ := hNx ys H4 q4
        exact seg_again rfl (ih m' hm' n (i + 1) ys s₀ s4 H4 (fun b hb => (keepCO I4 b hb).trans (h00 b hb)) hn (by omega) (weak (back I4)) (hst.keep ys s s4 (keepCO I4) hRl) (tnk I4) (fpn I4) w')
      | true =>
        simp only [if_true] at q4 ⊢
        have hyo : ∀ v, yieldOut X'.env v = yieldValue v := fun v => by simp only [yieldOut, hco, Bool.false_eq_true, if_false]
        simp only [hyo]
        rw [Sem.bind_eq_wrap', Sem.bind_eq_wrap', Sem.wrap_wrap, Sem.wrap_wrap]
        refine seg_wrap ?_
        rw [hov]
        refine wpAny_mono (pe.run _ s4 σ3 H4 _ I4 q4) (fun v s5 ⟨yv, H5, I5, r5, md, hgo⟩ => ?_) fun _ _ h => (nox h).elim
        have Rl5 : Rl ys s5 := hst.keep ys s s5 (keepCO I5) hRl
        obtain ⟨n', rfl⟩ : ∃ k, n = k + 1 := ⟨n - 1, by omega⟩
        refine seg_at (seg_yield rfl rfl rfl (hY n' s₀ v s5 _ ys yv σ3 H5 (fun b hb => (keepCO I5 b hb).trans (h00 b hb)) hn r5 (back I5) Rl5 md fun hg s' z => ?_))
        obtain ⟨m', hm', w'⟩ := hNx (ys ++ [yv]) H5 (hgo hg)
        have G' := (back I5).woken y z
        have kb : ∀ b ∈ fp, ∀ o, s5.heap.get? b = some o → s'.heap.get? b = some o := fun b hb o e => z.keep b o (fun hC => y.ex b hC (by rw [hex]; exact hb)) e
        exact seg_again rfl (ih m' hm' n' (i + 1) (ys ++ [yv]) s' s' H5 (fun _ _ => rfl) (by rw [List.length_append, List.length_singleton]; omega) (by omega) (weak G') z.rel (T.keep _ _ _ (tnk I5) kb) (fpn I5) w')
end
end Gx
set_option Elab.async false
set_option linter.all false
set_option maxRecDepth 100000
set_option maxHeartbeats 4000000
namespace Gx
open PySem PySem.Spec PyProof.Rows L2 GenW

/-- what the expression gives: a generator that has not begun -/
def Made (X : Cx) (k : Nat) (H1 : Hp) (sc : Shared) (fp : List Addr) (K : GK) (u : Value) (s' : Shared) : Prop :=
  ∃ (a : Addr) (g : Nat) (c : Code) (N : Nat), u = .ref a ∧ sc.heap.objs.size ≤ a ∧ a < s'.heap.objs.size ∧ s'.heap.IsGen a g ∧ s'.gens[g]? = some (.fresh c) ∧ s'.os = sc.os ∧ AllBare s'.gens ∧ s'.heap.NoLimit ∧ (∀ b o, sc.heap.get? b = some o → s'.heap.get? b = some o) ∧
    ∀ (A : Around) (CO : List Addr) (Rl : Rel) (s2 : Shared), Room k A → A.frames = some X.stack → (∀ b ∈ CO, s'.heap.objs.size ≤ b) → Stable CO Rl → (∀ b o, s'.heap.get? b = some o → s2.heap.get? b = some o) → (∀ b ∈ CO, ∃ o, s2.heap.get? b = some o ∧ ∀ v, o.data ≠ .cell v) →
      s2.os = s'.os → AllBare s2.gens → Rl [] s2 → Seg (model X.prog X.w) A (GEnd X sc fp H1 a g CO Rl N K) (GItem X sc fp H1 a g CO Rl N K) N s2 c ((model X.prog X.w).den c) [] s2

abbrev TGS := L2.St → Hp → GK → Prop
structure PSrc (X : Cx) (k : Nat) (e : Expr) (tg : TGS) : Prop where
  run : ∀ (pins : List (Addr × Obj)) (s : Shared) (σ : L2.St) (H : Hp) (K : GK), Inv X pins σ H s → tg σ H K → wpAny (model X.prog X.w) X.A (eval e X.env)
    (fun u s' => ∃ H1 sc fp, Inv X pins σ H1 sc ∧ ExOk X pins fp ∧ Made X k H1 sc fp K u s') X.xe s

/-- the reading: the walked thing, the table grown, the turns -/
def tGx (P : Addr) (wi : TI) (g : TG) (tt : TT) (te : TE) (vs : List Nat) : TGS := fun σ H K => wi σ H fun J H1 => GxR.TabG H1 P ∧ ∀ H2, GxR.Tabbed P H1 H2 →
  ∃ W : Nat → Nat → List V → Hp → Prop, (∃ m, W 0 m [] H2) ∧ Turns J g tt te vs σ K W

section
variable {X : Cx} {k : Nat} {c P : Addr} {elt tg iter : Expr} {ifs : List Expr} {scope : Scope} {own : List (Str × Nat)} {pos : Pos} {wi : TI} {g : TG} {tt : TT} {te : TE}

theorem start_code {M : Model} {A : Around} {R : GenEnd} {Y : Protocol} {n : Nat} {s₀ s : Shared} {it : Addr} {cenv : Env}
    (hself : wpAny M (A.deeper cenv) (pyIter (.ref it)) (fun it' s' => it' = .ref it ∧ s' = s) (fun _ _ => False) s)
    (hden : M.den (.compStart (.GeneratorExp elt [⟨tg, iter, ifs, 0⟩] scope pos) 0 (.ref it) .none cenv) = (compStart (.GeneratorExp elt [⟨tg, iter, ifs, 0⟩] scope pos) 0 (.ref it) .none cenv).onRaise (leaving cenv))
    (lp : Seg M A R Y n s₀ (.compLoop (.GeneratorExp elt [⟨tg, iter, ifs, 0⟩] scope pos) 0 (.ref it) .none cenv) (M.den (.compLoop (.GeneratorExp elt [⟨tg, iter, ifs, 0⟩] scope pos) 0 (.ref it) .none cenv)) [] s) :
    Seg M A R Y n s₀ (.compStart (.GeneratorExp elt [⟨tg, iter, ifs, 0⟩] scope pos) 0 (.ref it) .none cenv) (M.den (.compStart (.GeneratorExp elt [⟨tg, iter, ifs, 0⟩] scope pos) 0 (.ref it) .none cenv)) [] s := by
  have sf : ∀ (Q : Value → Shared → Prop) (E : Value → Shared → Prop), Q (.ref it) s → wpAny M (A.over (.compStart (.GeneratorExp elt [⟨tg, iter, ifs, 0⟩] scope pos) 0 (.ref it) .none cenv) []) (pyIter (.ref it)) Q E s := fun Q E hQ => by
    rw [over_gxs]
    exact wpAny_mono hself (fun u s' ⟨e1, e2⟩ => by subst e1 e2; exact hQ) fun _ _ h => h.elim
  rw [hden]
  unfold compStart
  rw [Sem.onRaise_eq_wrap]
  show Seg _ A _ _ _ s₀ _ ((ask >>= _).wrap _ _ _ _) [] s
  refine seg_bind_wrap (wpAny_askSetting ?_)
  split
  · exact seg_again rfl lp
  · first
      | exact seg_bind_wrap (wpAny_rule (seg_bind_wrap (wpAny_standAt (seg_bind_wrap (sf _ _ (seg_again rfl lp))))))
      | (refine seg_bind_wrap (wpAny_rule ?_); show Seg _ A _ _ _ s₀ _ ((standAt iter.pos >>= _).wrap _ _ _ _) [] s; exact seg_bind_wrap (wpAny_standAt (seg_bind_wrap (sf _ _ (seg_again rfl lp)))))
end
end Gx
set_option Elab.async false
set_option linter.all false
set_option maxRecDepth 100000
set_option maxHeartbeats 4000000
namespace Gx
open PySem PySem.Spec PyProof.Rows L2 GenW

theorem pinned {X : Cx} {A : Around} {sc s : Shared} {H H' : Hp} {cenv : Env} {fp : List Addr} {pn : List (Addr × Obj)} {σ : L2.St} (I : Inv (cx X A sc H cenv fp []) [] σ H' s)
    (h : ∀ p ∈ pn, s.heap.get? p.1 = some p.2 ∧ H' p.1 = none ∧ p.1 ≠ cenv.locals ∧ p.1 ∉ frs X.stack ∧ ∀ v, p.2.data ≠ .cell v) : Inv (cx X A sc H cenv fp pn) [] σ H' s :=
  ⟨⟨I.ok.mod, I.ok.kind, I.ok.glob, I.ok.blt, I.ok.above, I.ok.inj, I.ok.has, I.ok.cab, I.ok.hd, I.ok.frames, I.ok.stk, I.ok.exf, I.ok.bs, I.ok.bsz, I.ok.noex, I.ok.exfs, I.ok.funs, I.ok.frf⟩, I.os, I.bare, I.base, I.loc, I.cell, I.free, I.freeC,
    fun p hp => h p (by simpa using hp), I.hok, I.len⟩

section
variable {X : Cx} {k : Nat} {c P : Addr} {elt tg iter : Expr} {ifs : List Expr} {scope : Scope} {own : List (Str × Nat)} {pos : Pos} {wi : TI} {g : TG} {tt : TT} {te : TE}

theorem made {pins : List (Addr × Obj)} {σ : L2.St} {H2 : Hp} {sc : Shared} {fp : List Addr} {tn : Nat → Heap → Prop} {J : It} {K : GK} {W : Nat → Nat → List V → Hp → Prop} {it : Addr} {code : Value} {h' : Heap} {m0 : Nat} {mm : Str → Option Value} {tk : Nat} {nm qn : Value}
    (hc : X.calm = true) (hN : X.N.Nodup) (ok : BlkOk X.N X.env.scope scope own) (hcell : ∀ y ∈ scope.names, y.2 ≠ .cell) (hco : scope.isCoroutine = false)
    (hg : ∀ (A : Around) (s : Shared) (H : Hp) (C : Addr) (cl : List (Str × Addr)) (cd : Value) (fp : List Addr) (pn : List (Addr × Obj)), PG (cx X A s H (genEnv scope cl C cd builtinsNs X.env) fp pn) tg g)
    (ht : ∀ (A : Around) (s : Shared) (H : Hp) (C : Addr) (cl : List (Str × Addr)) (cd : Value) (fp : List Addr) (pn : List (Addr × Obj)), Room k (A.deeper (genEnv scope cl C cd builtinsNs X.env)) → PTs (cx X A s H (genEnv scope cl C cd builtinsNs X.env) fp pn) ifs tt)
    (he : ∀ (A : Around) (s : Shared) (H : Hp) (C : Addr) (cl : List (Str × Addr)) (cd : Value) (fp : List Addr) (pn : List (Addr × Obj)), Room k (A.deeper (genEnv scope cl C cd builtinsNs X.env)) → PE (cx X A s H (genEnv scope cl C cd builtinsNs X.env) fp pn) elt te)
    (I : Inv X pins σ H2 sc) (T : Turn X.prog X.w X.K tg J fp it tn) (htn : tn 0 sc.heap) (hfp : ∀ b ∈ fp, FpOk X pins H2 b) (w0 : W 0 m0 [] H2) (turn : Turns J g tt te (own.map (·.2)) σ K W)
    (hn : h'.Ns sc.heap.objs.size mm) (hs : Heap.SameBut sc.heap.objs.size (sc.heap.push { cls := .type "frame", data := .dict #[] }) h') :
    Made X (k + 1) H2 sc fp K (.ref h'.objs.size) { sc with gens := sc.gens.push (.fresh (.compStart (.GeneratorExp elt [⟨tg, iter, ifs, 0⟩] scope pos) 0 (.ref it) .none (genEnv scope (cloFrom X.env.cells scope.names []) sc.heap.objs.size code builtinsNs X.env))), toks := tk, heap := h'.push { cls := .type "generator", data := .fields #[.int sc.gens.size 0, nm, qn] } } := by
  generalize hcl : cloFrom X.env.cells scope.names [] = cl
  have sz' : h'.objs.size = sc.heap.objs.size + 1 := by rw [hs.1, Heap.size_push]
  have keep' : ∀ b o, sc.heap.get? b = some o → h'.get? b = some o := fun b o e => hs.extBut b o (Nat.ne_of_lt (Heap.lt_size e)) (Heap.get?_push_of_some _ e)
  generalize hgo : ({ cls := .type "generator", data := .fields #[.int sc.gens.size 0, nm, qn] } : Obj) = go
  have hpush : (h'.push go).get? h'.objs.size = some go := Heap.get?_push_size _ (by rw [← hgo]; rfl)
  have keep5 : ∀ b o, sc.heap.get? b = some o → (h'.push go).get? b = some o := fun b o e => Heap.get?_push_of_some _ (keep' b o e)
  have hgen : ∀ h : Heap, h.get? h'.objs.size = some go → h.IsGen h'.objs.size sc.gens.size := fun h e => ⟨go, nm, qn, e, by rw [← hgo], by rw [← hgo], by rw [← hgo]⟩
  have sz5 : (h'.push go).objs.size = sc.heap.objs.size + 2 := by rw [Heap.size_push, sz']
  have lim5 : (h'.push go).NoLimit := I.nolimit.keeps keep5
  have hgd : ∀ v, go.data ≠ .cell v := fun v q => by rw [← hgo] at q; cases q
  have fplt : ∀ b ∈ fp, b < sc.heap.objs.size := fun b hb => by
    obtain ⟨o, e, _⟩ := T.obj _ _ htn b hb
    exact Heap.lt_size e
  refine ⟨h'.objs.size, sc.gens.size, _, m0, rfl, by omega, by show _ < (h'.push go).objs.size; omega, hgen _ hpush, Array.getElem?_push_size .., rfl, AllBare.push I.bare rfl, lim5, keep5, ?_⟩
  intro A CO Rl s2 hr hfr hCO hst hk2 hown hos hba hRl
  have hCO : ∀ b ∈ CO, sc.heap.objs.size + 2 ≤ b := fun b hb => by
    have q : (h'.push go).objs.size ≤ b := hCO b hb
    rw [sz5] at q; exact q
  have I1 := gstart (A := A) (code := code) (g5 := sc.gens.push (.fresh (.compStart (.GeneratorExp elt [⟨tg, iter, ifs, 0⟩] scope pos) 0 (.ref it) .none (genEnv scope cl sc.heap.objs.size code builtinsNs X.env)))) (d5 := sc.drawn) (t5 := tk) I ok hN hcell (fun b hb => ⟨hfp b hb, fplt b hb⟩) hr.hd hfr (hn.push go) keep5 (AllBare.push I.bare rfl)
  rw [hcl] at I1
  have I2 : Inv (cx X A sc H2 (genEnv scope cl sc.heap.objs.size code builtinsNs X.env) fp []) [] (wipe σ (own.map (·.2))) H2 s2 :=
    I1.call' (ch := []) hos (Un.kept hk2) (I1.hok.kept hk2) hba fun b z => by cases z
  have young : ∀ b, sc.heap.objs.size + 1 ≤ b → H2 b = none ∧ b ≠ sc.heap.objs.size ∧ b ∉ frs X.stack := fun b hb => by
    refine ⟨I.hok.fresh (Nat.le_of_succ_le hb), Nat.ne_of_gt hb, fun z => ?_⟩
    rcases List.mem_cons.mp (I.stkSub b z) with z | z
    · have := I.lt
      rw [← z] at this
      exact absurd (Nat.lt_of_lt_of_le this (Nat.le_of_succ_le hb)) (Nat.lt_irrefl _)
    · exact I.nofs (Nat.le_of_succ_le hb) z
  have I3 : Inv (cx X A sc H2 (genEnv scope cl sc.heap.objs.size code builtinsNs X.env) fp [(h'.objs.size, go)]) [] (wipe σ (own.map (·.2))) H2 s2 := by
    refine pinned I2 fun p hp => ?_
    rw [List.mem_singleton.mp hp]
    obtain ⟨y1, y2, y3⟩ := young h'.objs.size (by omega)
    exact ⟨hk2 _ _ hpush, y1, y2, y3, hgd⟩
  have yg : Young (cx X A sc H2 (genEnv scope cl sc.heap.objs.size code builtinsNs X.env) fp [(h'.objs.size, go)]) CO := by
    refine ⟨fun b hb => ?_, fun b hb => ?_, fun b hb x cc e z => ?_, fun b hb p hp z => ?_, fun b hb z => ?_⟩
    · have := hCO b hb; show sc.heap.objs.size ≤ b; omega
    · have := hCO b hb; exact Nat.ne_of_gt (show sc.heap.objs.size < b by omega)
    · obtain ⟨v, q⟩ := I1.cell x cc e
      have e2 : cl.lookup x = some cc := e
      rw [← hcl] at e2
      have q2 : cc < sc.heap.objs.size := by
        rcases cloFrom_mem (PySem.mem_of_lookup e2) with hm | ⟨h1, h2⟩
        · cases hm
        · have hfree : ∃ c, X.env.cells.lookup x = some c := by
            rcases ok.free _ h1 rfl with k | k
            · exact I.ok.has _ (.inl k)
            · exact I.ok.has _ (.inr k)
          obtain ⟨c2, hc2⟩ := hfree
          rw [hc2] at h2
          obtain ⟨w2, z2⟩ := I.cell _ _ hc2
          have := z2.lt
          rw [h2]; exact this
      have h9 := hCO b hb
      rw [z] at q2
      exact absurd (Nat.lt_of_lt_of_le q2 (Nat.le_trans (Nat.le_add_right _ 2) h9)) (Nat.lt_irrefl _)
    · rw [List.mem_singleton.mp hp] at z
      have := hCO b hb
      have z : (h'.objs.size : Nat) = b := z
      omega
    · exact absurd (Nat.lt_of_lt_of_le (fplt b z) (Nat.le_trans (Nat.le_add_right _ 2) (hCO b hb))) (Nat.lt_irrefl _)
  have G0 := GI.make I3 yg (fun b hb => let y := young b (by have := hCO b hb; omega); ⟨y.1, y.2.2⟩) hown
  have hdp : Room k (A.deeper (genEnv scope cl sc.heap.objs.size code builtinsNs X.env)) := hr.deeper _
  have aw : ∀ {σ' : L2.St} {H : Hp} {s : Shared}, GI (cx X A sc H2 (genEnv scope cl sc.heap.objs.size code builtinsNs X.env) fp [(h'.objs.size, go)]) CO σ' H s → Aw X sc fp H2 h'.objs.size sc.gens.size CO H s := fun {σ' H s} G => by
    have hf := G.free
    obtain ⟨pp, _, J⟩ := G
    exact ⟨J.os, J.bare, J.base, J.hok, J.nolimit, hgen _ (J.pin (h'.objs.size, go) (List.mem_append_left _ (List.mem_singleton.mpr rfl))).1, fun b hb => (hf b hb).1, fun b hb => let ⟨_, o, q1, q2, _⟩ := hf b hb; ⟨o, q1, q2⟩⟩
  have tn2 : tn 0 s2.heap := T.keep _ _ _ htn fun b _ o e => hk2 _ _ (keep5 b o e)
  refine start_code ?_ rfl ?_
  · exact T.self _ 0 s2 _ _ tn2 ⟨rfl, rfl⟩
  · refine loop (X' := cx X A sc H2 (genEnv scope cl sc.heap.objs.size code builtinsNs X.env) fp [(h'.objs.size, go)]) (fp := fp) (CO := CO) (Rl := Rl) (N := m0) (K := K) (σ := σ) (vs := own.map (·.2)) rfl rfl hc rfl hco yg (fun b hb p hp z => ?_) T (hg ..) (ht _ _ _ _ _ _ _ _ hdp) (he _ _ _ _ _ _ _ _ hdp) hst turn
      (fun n s₀ s ys H h00 hn hG hRl' dn => .inl ⟨.inr rfl, h00, ys, H, hn, aw hG, hRl', dn⟩) (fun n s₀ v s kap ys x σ' H h00 hn hv hG hRl' md hgo => ⟨h00, ys, x, H, hn, hv, aw hG, hRl', md, hgo⟩)
      m0 m0 0 [] s2 s2 H2 (fun _ _ => rfl) (Nat.add_zero _) (Nat.le_refl _) G0 hRl tn2 (fun b hb => (hfp b hb).1) w0
    rw [List.mem_singleton.mp hp] at z
    have h9 := fplt b hb
    have z : h'.objs.size = b := z
    rw [← z, sz'] at h9
    exact absurd h9 (Nat.not_lt_of_le (Nat.le_add_right _ 1))
end
end Gx
set_option Elab.async false
set_option linter.all false
set_option maxRecDepth 100000
set_option maxHeartbeats 4000000
namespace Gx
open PySem PySem.Spec PyProof.Rows L2 GenW
section
variable {X : Cx} {k : Nat} {c P : Addr} {elt tg iter : Expr} {ifs : List Expr} {scope : Scope} {own : List (Str × Nat)} {pos : Pos} {wi : TI} {g : TG} {tt : TT} {te : TE}
/-- THE RULE: a generator expression, by its parts -/
theorem psrc (hr : Room (k + 1) X.A) (hc : X.calm = true) (hN : X.N.Nodup) (TB : GxR.TabB X.base X.mg c P) (hcode : X.env.code = .ref c) (hi : PI X tg iter wi) (ok : BlkOk X.N X.env.scope scope own) (hcell : ∀ y ∈ scope.names, y.2 ≠ .cell) (h0 : scope.names.lookup (".0" : Str) = some NameKind.local) (hco : scope.isCoroutine = false)
    (hg : ∀ (A : Around) (s : Shared) (H : Hp) (C : Addr) (cl : List (Str × Addr)) (cd : Value) (fp : List Addr) (pn : List (Addr × Obj)), PG (cx X A s H (genEnv scope cl C cd builtinsNs X.env) fp pn) tg g)
    (ht : ∀ (A : Around) (s : Shared) (H : Hp) (C : Addr) (cl : List (Str × Addr)) (cd : Value) (fp : List Addr) (pn : List (Addr × Obj)), Room k (A.deeper (genEnv scope cl C cd builtinsNs X.env)) → PTs (cx X A s H (genEnv scope cl C cd builtinsNs X.env) fp pn) ifs tt)
    (he : ∀ (A : Around) (s : Shared) (H : Hp) (C : Addr) (cl : List (Str × Addr)) (cd : Value) (fp : List Addr) (pn : List (Addr × Obj)), Room k (A.deeper (genEnv scope cl C cd builtinsNs X.env)) → PE (cx X A s H (genEnv scope cl C cd builtinsNs X.env) fp pn) elt te)
    (hs : ∀ v, genFold iter X.env v = pure v := by intro _; rfl) : PSrc X (k + 1) (.GeneratorExp elt [⟨tg, iter, ifs, 0⟩] scope pos) (tGx P wi g tt te (own.map (·.2))) := by
  refine ⟨fun pins s σ H K I h => ?_⟩
  have hfree : ∀ y ∈ scope.names, y.2 = .free → ∃ c, X.env.cells.lookup y.1 = some c := fun y hy e => by
    rcases ok.free y hy e with k | k
    · exact I.ok.has _ (.inl k)
    · exact I.ok.has _ (.inr k)
  refine wpAny_GeneratorExp_make hco (closure_ok hfree) hcell h0 ok.kind (by have := hr.dp; omega) ?_ hs
  refine thn (hi.run pins s σ H _ I h) fun xv s1 hx => thn hx fun itv s2 h2 => ?_
  obtain ⟨it, fp, tn, J, H1, rfl, I2, T, st2, f2, ⟨ps, hP, htr⟩, q⟩ := h2
  refine ⟨I2.nolimit, ?_⟩
  have hPs : s2.heap.get? P = some { cls := .none, data := .fields ps } := I2.hok P _ hP
  have cd : PySem.W.CodeHd s2.heap c P := TB.code.keeps fun b u e => I2.bk b u e
  have fpP : ∀ b ∈ fp, b ≠ P := fun b hb z => by
    have := (f2 b hb).1
    rw [z, hP] at this; cases this
  have cont : ∀ (code : Value) (h3 : Heap) (tk : Nat) (ps' : Array Value), Heap.ExtBut P s2.heap h3 → h3.get? P = some { cls := .none, data := .fields ps' } → (∃ more, ps' = ps ++ more) → TriplesOk ps'.toList →
      wpAny (model X.prog X.w) X.A (builtinsFor X.env.globals X.env.builtins) (fun bi s₄ => ∀ h', h'.Ns s₄.heap.objs.size (fun y => if y = ".0" then some (.ref it) else none) → Heap.SameBut s₄.heap.objs.size (s₄.heap.push { cls := .type "frame", data := .dict #[] }) h' →
          ∃ H1 sc fp, Inv X pins σ H1 sc ∧ ExOk X pins fp ∧ Made X (k + 1) H1 sc fp K (.ref h'.objs.size) { s₄ with
            gens := s₄.gens.push (.fresh (.compStart (.GeneratorExp elt [⟨tg, iter, ifs, 0⟩] scope pos) 0 (.ref it) .none (genEnv scope (cloFrom X.env.cells scope.names []) s₄.heap.objs.size code bi X.env))),
            toks := s₄.toks + 1 + 1 + 1,
            heap := h'.push { cls := .type "generator", data := .fields #[.int s₄.gens.size 0, .str "<genexpr>" (s₄.toks + 1), .str (X.env.qual ++ "<genexpr>") (s₄.toks + 1 + 1)] } }) X.xe { s2 with heap := h3, toks := tk } := by
    intro code h3 tk ps' hx hP3 hmore ht3
    obtain ⟨more, em⟩ := hmore
    obtain ⟨bm, ob, e1, e2, e3, e4, e5, e6, e7, e8⟩ := TB.bm
    have keep3 : ∀ b u, b ≠ P → s2.heap.get? b = some u → h3.get? b = some u := fun b u hb e => hx b u hb e
    refine wpAny_builtinsFor (m := X.mg) (by rw [I2.ok.glob]; exact (I2.mod.glob.keeps I2.bk).extBut hx TB.gP) e1 e2 (keep3 _ _ e4 (I2.bk _ _ e5)) e6 e7 e8 ?_
    intro h' hn' hs'
    have I3 : Inv X pins σ (upd H1 P (.tbl ps')) { s2 with heap := h3, toks := tk } := by
      have J := GxR.inv_tab (more := more) (h' := h3) (g' := s2.gens) (d' := s2.drawn) (t' := tk) I2 hP keep3 (by rw [← em]; exact hP3) I2.bare
      rw [← em] at J
      exact J
    have T2 : GxR.Tabbed P H1 (upd H1 P (.tbl ps')) := ⟨⟨ps', upd_same, ht3⟩, fun b hb => upd_ne hb⟩
    obtain ⟨W, ⟨m0, w0⟩, turn⟩ := q _ T2
    have f3 : ∀ b ∈ fp, FpOk X pins (upd H1 P (.tbl ps')) b := fun b hb => ⟨by rw [upd_ne (fpP b hb)]; exact (f2 b hb).1, (f2 b hb).2⟩
    have tn3 : tn 0 h3 := T.keep _ _ _ st2 fun b hb o e => keep3 b o (fpP b hb) e
    refine ⟨upd H1 P (.tbl ps'), { s2 with heap := h3, toks := tk }, fp, I3, fun b hb => ⟨(f3 b hb).2.2.2.1, (f3 b hb).2.1, (f3 b hb).2.2.2.2.1, (f3 b hb).2.2.2.2.2⟩, ?_⟩
    exact made hc hN ok hcell hco hg ht he I3 T tn3 f3 w0 turn hn' hs'
  cases hf : codeAmong pos ps.toList with
  | none =>
    refine wpAny_genexprCodeX hcode (cd.code hPs htr) (cd.tab hPs) hf fun c' h' tk hx hge hlt hco' _ htab' _ => ?_
    obtain ⟨o1, vs, f1, tf, fl, tg, inF, tx, tt, op, _, _, _, _, _, _, _, _, _, htr', _⟩ := hco'
    exact cont _ h' tk _ hx htab'.2 ⟨_, rfl⟩ htr'
  | some cv =>
    refine wpAny_genexprCode_hit hcode (cd.code hPs htr) hf ?_
    exact cont cv s2.heap s2.toks ps (Heap.ExtBut.refl _ _) hPs ⟨#[], by simp⟩ htr
end

/-! ### the consumer -/
section
variable {X : Cx} {sc : Shared} {fp : List Addr} {H1 : Hp} {a : Addr} {g : Nat} {CO : List Addr} {Rl : Rel} {N : Nat} {K : GK}
/-- the generator sleeps; n items more at most -/
structure Live (X : Cx) (sc : Shared) (fp : List Addr) (H1 : Hp) (a : Addr) (g : Nat) (CO : List Addr) (Rl : Rel) (N : Nat) (K : GK) (B : Around) (n : Nat) (s : Shared) : Prop where
  gen : s.heap.IsGen a g
  lim : s.heap.NoLimit
  goes : ∃ gs, s.gens[g]? = some gs ∧ gs.Goes (model X.prog X.w) B (GEnd X sc fp H1 a g CO Rl N K) (GItem X sc fp H1 a g CO Rl N K) n (.send .none) (s.setGen g .running)
/-- an item is out: the consumer may go on from any state that kept all but its own -/
theorem next {A : Around} {n : Nat} {s : Shared} {Q : Option Value → Shared → Prop} {E : Value → Shared → Prop} (hh : A.handled = none) (hd : A.depth < recursionLimit) (hst : Stable CO Rl) (haC : a ∉ CO) (hcC : cStatics ∉ CO) (L : Live X sc fp H1 a g CO Rl N K A.in1 n s)
    (hY : ∀ ys x v H' s1, (∀ b ∈ CO, s1.heap.get? b = s.heap.get? b) → n - 1 + 1 + ys.length = N → RelV x v → Aw X sc fp H1 a g CO H' s1 → Rl ys s1 → K.mid ys x H' →
      (K.go x → ∀ s', s'.os = s1.os → s'.gens = s1.gens → (∀ b o, b ∉ CO → s1.heap.get? b = some o → s'.heap.get? b = some o) → (∀ b ∈ CO, ∃ o, s'.heap.get? b = some o ∧ ∀ v, o.data ≠ .cell v) → Rl (ys ++ [x]) s' → 0 < n ∧ Live X sc fp H1 a g CO Rl N K A.in1 (n - 1) s') → Q (some v) s1)
    (hP : ∀ ys H' s1, (∀ b ∈ CO, s1.heap.get? b = s.heap.get? b) → n + ys.length = N → Aw X sc fp H1 a g CO H' s1 → Rl ys s1 → K.done ys H' → Q none s1) :
    wpAny (model X.prog X.w) A (pyNext (.ref a)) Q E s := by
  obtain ⟨hg, hl, gs, hgs, hgo⟩ := L
  have hgl : g < s.gens.size := (Array.getElem?_eq_some_iff.mp hgs).1
  refine wpAny_gsz (n := g + 1) hgl (next_genG (A := A) (Er := fun _ _ => False) (F := GFin X sc fp H1 a g CO Rl N K) (Y := GItem X sc fp H1 a g CO Rl N K) hh hl hd hg hgs hgo (fun v s₁ gs' hbare hv => ?_) (fun s₁ hp h' hk => ?_) fun e s₁ he => he.elim)
  · intro hsz
    have hsz1 : g < s₁.gens.size := by
      have q : (s₁.setGen g gs').gens.size = s₁.gens.size := setGen_size _ _ _
      have hsz' : g + 1 ≤ (s₁.setGen g gs').gens.size := hsz
      omega
    obtain ⟨h00, ys, x, H', h1, h2, h3, h4, h5, h7⟩ := hv
    have hb : AllBare (s₁.setGen g gs').gens := allBare_setGen h3.bare hbare
    refine hY ys x v H' _ h00 h1 h2 ⟨h3.os, hb, h3.un, h3.hok, h3.lim, h3.gen, h3.free, h3.own⟩ (hst.keep ys s₁ _ (fun _ _ => rfl) h4) h5 fun hgo' s' e1 e2 e3 e4 e5 => ?_
    have z : Slept CO Rl (ys ++ [x]) s₁ (s'.setGen g .running) :=
      ⟨e1, allBare_setGen (by rw [e2]; exact hb) rfl, e3, e4, hst.keep _ s' _ (fun _ _ => rfl) e5⟩
    cases n with
    | zero => exact (h7 hgo' _ z).elim
    | succ m =>
      refine ⟨Nat.succ_pos _, ?_, ?_, gs', by rw [e2]; exact setGen_at hsz1, h7 hgo' _ z⟩
      · obtain ⟨o, nm, qn, ho, r⟩ := h3.gen
        exact ⟨o, nm, qn, e3 a o haC ho, r⟩
      · obtain ⟨mc, hns, hnn⟩ := h3.lim
        exact ⟨mc, hns.at' fun o e => e3 _ o hcC e, hnn⟩
  · intro hsz
    obtain ⟨h00, ys, H', h1, h2, h3, h4⟩ := hp
    have hsame : ∀ b ∈ CO, h'.get? b = s₁.heap.get? b := fun b hb => by
      obtain ⟨o, q1, _⟩ := h2.own b hb
      rw [q1, hk _ _ q1]
    refine hP ys H' _ (fun b hb => (hsame b hb).trans (h00 b hb)) h1 ⟨h2.os, allBare_setGen h2.bare rfl, h2.un.trans (Un.kept hk), h2.hok.kept hk, h2.lim.keeps hk, h2.gen.keeps hk, h2.free, fun b hb => let ⟨o, q1, q2⟩ := h2.own b hb; ⟨o, hk _ _ q1, q2⟩⟩ ?_ h4
    exact hst.keep ys s₁ _ hsame h3
/-- to begin with -/
theorem Made.live {k : Nat} {u : Value} {s' s2 : Shared} {A : Around} (M : Made X k H1 sc fp K u s') (hr : Room k A.in1) (hfr : A.frames = some X.stack) :
    ∃ a g N, u = .ref a ∧ sc.heap.objs.size ≤ a ∧ a < s'.heap.objs.size ∧ s'.heap.IsGen a g ∧ s'.heap.NoLimit ∧ s'.os = sc.os ∧ AllBare s'.gens ∧ (∀ b o, sc.heap.get? b = some o → s'.heap.get? b = some o) ∧
      ∀ (CO : List Addr) (Rl : Rel), (∀ b ∈ CO, s'.heap.objs.size ≤ b) → Stable CO Rl → (∀ b o, s'.heap.get? b = some o → s2.heap.get? b = some o) → (∀ b ∈ CO, ∃ o, s2.heap.get? b = some o ∧ ∀ v, o.data ≠ .cell v) → s2.os = s'.os → s2.gens = s'.gens → Rl [] s2 → Live X sc fp H1 a g CO Rl N K A.in1 N s2 := by
  obtain ⟨a, g, c, N, e, h1, h2, h3, h4, h5, h6, h7, h8, h9⟩ := M
  refine ⟨a, g, N, e, h1, h2, h3, h7, h5, h6, h8, fun CO Rl q1 q2 q3 q4 q5 q6 q7 => ⟨h3.keeps q3, h7.keeps q3, .fresh c, by rw [q6]; exact h4, ?_⟩⟩
  exact ⟨rfl, h9 A.in1 CO Rl _ hr hfr q1 q2 q3 q4 q5 (allBare_setGen (by rw [q6]; exact h6) rfl) (q2.keep _ s2 _ (fun _ _ => rfl) q7)⟩
end
end Gx
set_option Elab.async false
set_option linter.all false
set_option maxRecDepth 100000
set_option maxHeartbeats 4000000
namespace Gx
open PySem PySem.Spec PyProof.Rows L2 GenW

section
variable {X : Cx} {sc : Shared} {fp : List Addr} {H1 : Hp} {a : Addr} {g : Nat} {N : Nat} {k : Nat}

/-! ### all, any -/
def bRel (t : Bool) : Rel := fun ys _ => ∀ y ∈ ys, y = V.bl t
theorem bStable {t : Bool} {CO : List Addr} : Stable CO (bRel t) := ⟨fun _ _ _ _ h => h⟩
/-- all: an item is a bool; at the first False it ends -/
def kAll (Q : VK) : GK := ⟨fun ys y H => ∃ b, y = .bl b ∧ (b = false → (∀ z ∈ ys, z = V.bl true) → Q (.bl false) H), fun y => y = .bl true, fun ys H => (∀ z ∈ ys, z = V.bl true) → Q (.bl true) H⟩
theorem all_loop {A : Around} {R : Result → Shared → Prop} {Q : VK} (hh : A.handled = none) (hd : A.depth < recursionLimit)
    (hR : ∀ b H' s', Aw X sc fp H1 a g [] H' s' → Q (.bl b) H' → R (.ok (.ret (.bool b))) s') :
    ∀ (n : Nat) (s : Shared), Live X sc fp H1 a g [] (bRel true) N (kAll Q) A.in1.in1 n s → codeAny (model X.prog X.w) A (.builtin "all.loop" ⟨[.ref a], []⟩) R s := by
  intro n
  induction n with
  | zero =>
    intro s L
    refine codeAny_builtin F.entry_all_loop ?_
    rw [Around.under_plainId F.plain_all_loop _]
    show wpAny _ A.in1 (pyNext (.ref a) >>= _) _ _ s
    refine wpAny_bind (next (A := A.in1) hh hd bStable (by simp) (by simp) L (fun ys x v H' s1 _ hn rv aw hrl md hgo => ?_) fun ys H' s1 _ hn aw hrl dn => ?_)
    · obtain ⟨b, rfl, hf⟩ := md
      have rv : v = Value.bool b := rv
      subst rv
      cases b with
      | true =>
        have := (hgo rfl s1 rfl rfl (fun _ _ _ e => e) (fun _ hb => by cases hb) (fun y hy => by rcases List.mem_append.mp hy with hy | hy; exact hrl y hy; exact List.mem_singleton.mp hy)).1
        omega
      | false =>
        refine wpAny_bind (wpAny_holding (wpAny_truthy_bool ?_))
        refine wpAny_bind (wpAny_letGo ?_)
        simp only [Bool.false_eq_true, if_false]
        exact wpAny_bind (wpAny_rule (wpAny_pure (hR false H' _ aw (hf rfl hrl))))
    · exact wpAny_bind (wpAny_rule (wpAny_pure (hR true H' _ aw (dn hrl))))
  | succ n ih =>
    intro s L
    refine codeAny_builtin F.entry_all_loop ?_
    rw [Around.under_plainId F.plain_all_loop _]
    show wpAny _ A.in1 (pyNext (.ref a) >>= _) _ _ s
    refine wpAny_bind (next (A := A.in1) hh hd bStable (by simp) (by simp) L (fun ys x v H' s1 _ hn rv aw hrl md hgo => ?_) fun ys H' s1 _ hn aw hrl dn => ?_)
    · obtain ⟨b, rfl, hf⟩ := md
      have rv : v = Value.bool b := rv
      subst rv
      refine wpAny_bind (wpAny_holding (wpAny_truthy_bool ?_))
      refine wpAny_bind (wpAny_letGo ?_)
      cases b with
      | true =>
        simp only [if_true]
        exact wpAny_pure ⟨plainId_quiet F.plain_all_loop _, ih _ (hgo rfl s1 rfl rfl (fun _ _ _ e => e) (fun _ hb => by cases hb) (fun y hy => by rcases List.mem_append.mp hy with hy | hy; exact hrl y hy; exact List.mem_singleton.mp hy)).2⟩
      | false =>
        simp only [Bool.false_eq_true, if_false]
        exact wpAny_bind (wpAny_rule (wpAny_pure (hR false H' _ aw (hf rfl hrl))))
    · exact wpAny_bind (wpAny_rule (wpAny_pure (hR true H' _ aw (dn hrl))))
/-- any: an item is a bool; at the first True it ends -/
def kAny (Q : VK) : GK := ⟨fun ys y H => ∃ b, y = .bl b ∧ (b = true → (∀ z ∈ ys, z = V.bl false) → Q (.bl true) H), fun y => y = .bl false, fun ys H => (∀ z ∈ ys, z = V.bl false) → Q (.bl false) H⟩
theorem any_loop {A : Around} {R : Result → Shared → Prop} {Q : VK} (hh : A.handled = none) (hd : A.depth < recursionLimit)
    (hR : ∀ b H' s', Aw X sc fp H1 a g [] H' s' → Q (.bl b) H' → R (.ok (.ret (.bool b))) s') :
    ∀ (n : Nat) (s : Shared), Live X sc fp H1 a g [] (bRel false) N (kAny Q) A.in1.in1 n s → codeAny (model X.prog X.w) A (.builtin "any.loop" ⟨[.ref a], []⟩) R s := by
  intro n
  induction n with
  | zero =>
    intro s L
    refine codeAny_builtin F.entry_any_loop ?_
    rw [Around.under_plainId F.plain_any_loop _]
    show wpAny _ A.in1 (pyNext (.ref a) >>= _) _ _ s
    refine wpAny_bind (next (A := A.in1) hh hd bStable (by simp) (by simp) L (fun ys x v H' s1 _ hn rv aw hrl md hgo => ?_) fun ys H' s1 _ hn aw hrl dn => ?_)
    · obtain ⟨b, rfl, hf⟩ := md
      have rv : v = Value.bool b := rv
      subst rv
      cases b with
      | false =>
        have := (hgo rfl s1 rfl rfl (fun _ _ _ e => e) (fun _ hb => by cases hb) (fun y hy => by rcases List.mem_append.mp hy with hy | hy; exact hrl y hy; exact List.mem_singleton.mp hy)).1
        omega
      | true =>
        refine wpAny_bind (wpAny_holding (wpAny_truthy_bool ?_))
        refine wpAny_bind (wpAny_letGo ?_)
        simp only [if_true]
        exact wpAny_bind (wpAny_rule (wpAny_pure (hR true H' _ aw (hf rfl hrl))))
    · exact wpAny_bind (wpAny_rule (wpAny_pure (hR false H' _ aw (dn hrl))))
  | succ n ih =>
    intro s L
    refine codeAny_builtin F.entry_any_loop ?_
    rw [Around.under_plainId F.plain_any_loop _]
    show wpAny _ A.in1 (pyNext (.ref a) >>= _) _ _ s
    refine wpAny_bind (next (A := A.in1) hh hd bStable (by simp) (by simp) L (fun ys x v H' s1 _ hn rv aw hrl md hgo => ?_) fun ys H' s1 _ hn aw hrl dn => ?_)
    · obtain ⟨b, rfl, hf⟩ := md
      have rv : v = Value.bool b := rv
      subst rv
      refine wpAny_bind (wpAny_holding (wpAny_truthy_bool ?_))
      refine wpAny_bind (wpAny_letGo ?_)
      cases b with
      | false =>
        simp only [Bool.false_eq_true, if_false]
        exact wpAny_pure ⟨plainId_quiet F.plain_any_loop _, ih _ (hgo rfl s1 rfl rfl (fun _ _ _ e => e) (fun _ hb => by cases hb) (fun y hy => by rcases List.mem_append.mp hy with hy | hy; exact hrl y hy; exact List.mem_singleton.mp hy)).2⟩
      | true =>
        simp only [if_true]
        exact wpAny_bind (wpAny_rule (wpAny_pure (hR true H' _ aw (hf rfl hrl))))
    · exact wpAny_bind (wpAny_rule (wpAny_pure (hR false H' _ aw (dn hrl))))

/-- the consumer's end, back in the caller's context -/
theorem back {pins : List (Addr × Obj)} {σ : L2.St} {H' : Hp} {s' : Shared} {CO : List Addr} (I : Inv X pins σ H1 sc) (hex : ExOk X pins fp) (aw : Aw X sc fp H1 a g CO H' s') : Inv X pins σ H' s' :=
  I.call' (ch := fp) aw.os aw.un aw.hok aw.bare hex

def tAll (tg : TGS) : TE := fun σ H Q => tg σ H (kAll Q)
def tAny (tg : TGS) : TE := fun σ H Q => tg σ H (kAny Q)
variable {e : Expr} {tg : TGS} {p pos : Pos}
theorem pe_all (h : PSrc X k e tg) (hr : Room (k + 2) X.A) (hg : Gl X "all") (hm : X.mg "all" = none) (he : starEach [e] X.env = (false, eval e X.env) :: starEach [] X.env := by rfl) :
    PE X (.Call (.Name "all" p) [e] [] pos) (tAll tg) := by
  refine ⟨fun pins s σ H Q I hq => ?_⟩
  refine wpAny_Call_Name_kw (ld_blt I hg hm boot_all ?_)
  refine PyProof.Rows.callWith_builtin1 ?_ he (by rfl)
  rw [he]
  show wpAny _ _ (spliced ((false, eval e X.env) :: backTo pos (starEach [] X.env))) _ _ s
  refine Calls.spliced_cons (thn (h.run pins s σ H _ I hq) fun u s1 ⟨H1, sc, fp, I1, hex, M⟩ => ?_)
  refine Calls.spliced_nil ?_
  obtain ⟨a, g, N, rfl, h1, h2, h3, h4, h5, h6, h7, h8⟩ := M.live (A := X.A.in1) (s2 := s1) hr.in1.in1 I1.ok.frames
  refine call_function_tree F.kind_all F.plain_all F.entry_all (F.args_all1 _) ?_
  unfold Builtin.«all»
  refine wpAny_bind (m := oneArg "all" _) (wpAny_pure ?_)
  refine wpAny_bind (wpAny_pyIter_gen h3 ?_)
  refine wpAny_pure ⟨plainId_quiet F.plain_all_loop _, all_loop (A := X.A) hr.hd (by have := hr.dp; show X.A.depth < _; omega) (fun b H' s' aw hq => ?_) N s1 (h8 [] (bRel true) (fun b hb => by cases hb) bStable (fun _ _ e => e) (fun b hb => by cases hb) rfl rfl (fun y hy => by cases hy))⟩
  exact ⟨.bl b, H', back I1 hex aw, rfl, hq⟩
theorem pe_any (h : PSrc X k e tg) (hr : Room (k + 2) X.A) (hg : Gl X "any") (hm : X.mg "any" = none) (he : starEach [e] X.env = (false, eval e X.env) :: starEach [] X.env := by rfl) :
    PE X (.Call (.Name "any" p) [e] [] pos) (tAny tg) := by
  refine ⟨fun pins s σ H Q I hq => ?_⟩
  refine wpAny_Call_Name_kw (ld_blt I hg hm boot_any ?_)
  refine PyProof.Rows.callWith_builtin1 ?_ he (by rfl)
  rw [he]
  show wpAny _ _ (spliced ((false, eval e X.env) :: backTo pos (starEach [] X.env))) _ _ s
  refine Calls.spliced_cons (thn (h.run pins s σ H _ I hq) fun u s1 ⟨H1, sc, fp, I1, hex, M⟩ => ?_)
  refine Calls.spliced_nil ?_
  obtain ⟨a, g, N, rfl, h1, h2, h3, h4, h5, h6, h7, h8⟩ := M.live (A := X.A.in1) (s2 := s1) hr.in1.in1 I1.ok.frames
  refine call_function_tree F.kind_any F.plain_any F.entry_any (F.args_any1 _) ?_
  unfold Builtin.«any»
  refine wpAny_bind (m := oneArg "any" _) (wpAny_pure ?_)
  refine wpAny_bind (wpAny_pyIter_gen h3 ?_)
  refine wpAny_pure ⟨plainId_quiet F.plain_any_loop _, any_loop (A := X.A) hr.hd (by have := hr.dp; show X.A.depth < _; omega) (fun b H' s' aw hq => ?_) N s1 (h8 [] (bRel false) (fun b hb => by cases hb) bStable (fun _ _ e => e) (fun b hb => by cases hb) rfl rfl (fun y hy => by cases hy))⟩
  exact ⟨.bl b, H', back I1 hex aw, rfl, hq⟩

/-! ### sum -/
def intOf : V → Int
  | .int i => i
  | _ => 0
def sumV (ys : List V) : Int := (ys.map intOf).sum
def sRel (S : Addr) : Rel := fun ys s => ∃ c t, s.heap.get? S = some (lstObj #[.int (sumV ys) t] c)
theorem sStable {S : Addr} : Stable [S] (sRel S) := ⟨fun ys s s' h ⟨c, t, e⟩ => ⟨c, t, by rw [h S (List.mem_singleton.mpr rfl)]; exact e⟩⟩
def kSum (Q : VK) : GK := ⟨fun ys y _ => ∃ i, y = .int i ∧ InLong i ∧ InLong (sumV ys + i), fun _ => True, fun ys H => Q (.int (sumV ys)) H⟩
theorem sumV_snoc (ys : List V) (i : Int) : sumV (ys ++ [.int i]) = sumV ys + i := by
  unfold sumV
  rw [List.map_append, List.sum_append]
  show _ + (i + 0) = _
  rw [Int.add_zero]
theorem sum_loop {A : Around} {R : Result → Shared → Prop} {Q : VK} {S : Addr} (hh : A.handled = none) (hd : A.depth < recursionLimit) (hSa : a ≠ S) (hSc : cStatics ≠ S)
    (hR : ∀ i t H' s', Aw X sc fp H1 a g [S] H' s' → Q (.int i) H' → R (.ok (.ret (.int i t))) s') :
    ∀ (n : Nat) (s : Shared) (ys0 : List V), sRel S ys0 s → Live X sc fp H1 a g [S] (sRel S) N (kSum Q) A.in1.in1 n s → codeAny (model X.prog X.w) A (.builtin "sum.loop" ⟨[.ref a, .ref S, rawInt 0, rawInt 0], []⟩) R s := by
  intro n
  induction n with
  | zero =>
    intro s ys0 ⟨c, t, hS⟩ L
    refine codeAny_builtin F.entry_sum_loop ?_
    rw [Around.under_plainId F.plain_sum_loop _]
    show wpAny _ A.in1 (seqItems? (.ref S) >>= _) _ _ s
    refine wpAny_bind (wpAny_seqItems hS rfl ?_)
    show wpAny _ A.in1 (tryCatch (pyNext (.ref a)) _ >>= _) _ _ s
    refine wpAny_bind (wpAny_tryCatch (next (A := A.in1) hh hd sStable (by simpa using hSa) (by simpa using hSc) L (fun ys x v H' s1 h00 hn rv aw hrl md hgo => ?_) fun ys H' s1 h00 hn aw hrl dn => ?_))
    · obtain ⟨i, rfl, f1, f2⟩ := md
      obtain ⟨c1, t1, e1⟩ := hrl
      have := (hgo trivial { s1 with heap := s1.heap.update S (fun o => { o with data := .seq #[.int (sumV (ys ++ [.int i])) t1] c1 }) } rfl rfl (fun b o hb e => (Heap.get?_update_other _ _ (fun h : S = b => hb (by rw [h]; exact List.mem_singleton.mpr rfl))).trans e) (fun b hb => ?_) ?_).1
      · omega
      · rw [List.mem_singleton.mp hb]
        exact ⟨_, Heap.get?_update_self _ e1 rfl, fun v q => by cases q⟩
      · exact ⟨c1, t1, Heap.get?_update_self _ e1 rfl⟩
    · obtain ⟨c1, t1, e1⟩ := hrl
      have e2 := (h00 S (List.mem_singleton.mpr rfl)).symm.trans e1
      rw [hS] at e2
      have e3 : sumV ys0 = sumV ys := by
        have q := Option.some.inj e2
        simp only [lstObj, Obj.mk.injEq, Data.seq.injEq, Array.mk.injEq, List.cons.injEq, Value.int.injEq] at q
        exact q.2.2.1.1.1.1
      have dn : Q (.int (sumV ys)) H' := dn
      rw [← e3] at dn
      exact wpAny_pure (hR _ t H' s1 aw dn)
  | succ n ih => 
    intro s ys0 ⟨c, t, hS⟩ L
    refine codeAny_builtin F.entry_sum_loop ?_
    rw [Around.under_plainId F.plain_sum_loop _]
    show wpAny _ A.in1 (seqItems? (.ref S) >>= _) _ _ s
    refine wpAny_bind (wpAny_seqItems hS rfl ?_)
    show wpAny _ A.in1 (tryCatch (pyNext (.ref a)) _ >>= _) _ _ s
    refine wpAny_bind (wpAny_tryCatch (next (A := A.in1) hh hd sStable (by simpa using hSa) (by simpa using hSc) L (fun ys x v H' s1 h00 hn rv aw hrl md hgo => ?_) fun ys H' s1 h00 hn aw hrl dn => ?_))
    · obtain ⟨i, rfl, f1, f2⟩ := md
      obtain ⟨tv, rfl⟩ : ∃ u, v = Value.int i u := rv
      obtain ⟨c1, t1, e1⟩ := id hrl
      have e2 := (h00 S (List.mem_singleton.mpr rfl)).symm.trans e1
      rw [hS] at e2
      have e3 : sumV ys0 = sumV ys := by
        have q := Option.some.inj e2
        simp only [lstObj, Obj.mk.injEq, Data.seq.injEq, Array.mk.injEq, List.cons.injEq, Value.int.injEq] at q
        exact q.2.2.1.1.1.1
      have hc : ((decide (-(2 ^ 63) ≤ i) && decide (i < 2 ^ 63)) && (decide (-(2 ^ 63) ≤ sumV ys0 + i) && decide (sumV ys0 + i < 2 ^ 63))) = true := by
        rw [e3]
        simp only [Bool.and_eq_true, decide_eq_true_eq]
        exact ⟨⟨f1.1, f1.2⟩, f2.1, f2.2⟩
      show wpAny _ A.in1 (if (_ : Bool) = true then (mkInt (sumV ys0 + i) >>= _) else _) _ _ _
      split
      · refine wpAny_bind (wpAny_mkInt ?_)
        show wpAny _ A.in1 (updateSeq S (fun _ => #[.int (sumV ys0 + i) s1.toks]) >>= _) _ _ _
        refine wpAny_bind ?_
        have hnew : sRel S (ys ++ [.int i]) { s1 with toks := s1.toks + 1, heap := s1.heap.update S (Obj.mapSeq (fun _ => #[.int (sumV ys0 + i) s1.toks])) } := by
          rw [e3]
          obtain ⟨c9, h9⟩ : ∃ c9, Obj.mapSeq (fun _ => #[Value.int (sumV ys + i) s1.toks]) (lstObj #[.int (sumV ys) t1] c1) = lstObj #[Value.int (sumV ys + i) s1.toks] c9 := ⟨_, rfl⟩
          refine ⟨c9, s1.toks, ?_⟩
          rw [sumV_snoc, ← h9]
          exact Heap.get?_update_self _ e1 rfl
        refine wpAny_updateSeq e1 rfl (wpAny_pure ⟨plainId_quiet F.plain_sum_loop _, ih _ (ys ++ [.int i]) hnew (hgo trivial { s1 with toks := s1.toks + 1, heap := s1.heap.update S (Obj.mapSeq (fun _ => #[.int (sumV ys0 + i) s1.toks])) } rfl rfl (fun b o hb e => ?_) (fun b hb => ?_) hnew).2⟩)
        · exact (Heap.get?_update_other _ _ (fun h : S = b => hb (by rw [h]; exact List.mem_singleton.mpr rfl))).trans e
        · rw [List.mem_singleton.mp hb]
          exact ⟨_, Heap.get?_update_self _ e1 rfl, fun v q => by cases q⟩
      · rename_i hneg
        exact absurd hc hneg
    · obtain ⟨c1, t1, e1⟩ := hrl
      have e2 := (h00 S (List.mem_singleton.mpr rfl)).symm.trans e1
      rw [hS] at e2
      have e3 : sumV ys0 = sumV ys := by
        have q := Option.some.inj e2
        simp only [lstObj, Obj.mk.injEq, Data.seq.injEq, Array.mk.injEq, List.cons.injEq, Value.int.injEq] at q
        exact q.2.2.1.1.1.1
      have dn : Q (.int (sumV ys)) H' := dn
      rw [← e3] at dn
      exact wpAny_pure (hR _ t H' s1 aw dn)
def tSum (tg : TGS) : TE := fun σ H Q => tg σ H (kSum Q)
variable {e : Expr} {tg : TGS} {p pos : Pos}
theorem pe_sum (h : PSrc X k e tg) (hr : Room (k + 2) X.A) (hg : Gl X "sum") (hm : X.mg "sum" = none) (he : starEach [e] X.env = (false, eval e X.env) :: starEach [] X.env := by rfl) :
    PE X (.Call (.Name "sum" p) [e] [] pos) (tSum tg) := by
  refine ⟨fun pins s σ H Q I hq => ?_⟩
  refine wpAny_Call_Name_kw (ld_blt I hg hm boot_sum ?_)
  refine PyProof.Rows.callWith_builtin1 ?_ he (by rfl)
  rw [he]
  show wpAny _ _ (spliced ((false, eval e X.env) :: backTo pos (starEach [] X.env))) _ _ s
  refine Calls.spliced_cons (thn (h.run pins s σ H _ I hq) fun u s1 ⟨H1, sc, fp, I1, hex, M⟩ => ?_)
  refine Calls.spliced_nil ?_
  refine call_function_tree F.kind_sum F.plain_sum F.entry_sum (F.args_sum1 _) ?_
  have hM := fun s2 => M.live (A := X.A.in1) (s2 := s2) hr.in1.in1 I1.ok.frames
  obtain ⟨a, g, c, N0, rfl, q1, q2, q3, _⟩ := id M
  unfold Builtin.«sum»
  simp only [List.length_cons, List.length_nil]
  rw [if_neg (by decide)]
  refine wpAny_bind (wpAny_of_eq (show Builtin.Builtins.bindParams "sum" ["start"] 0 { } = pure [none] from rfl) ?_)
  refine wpAny_bind (wpAny_pyIter_gen q3 ?_)
  refine wpAny_bind (wpAny_mkInt ?_)
  refine wpAny_bind (wpAny_pure ?_)
  simp only [List.forIn_cons, List.forIn_nil]
  refine wpAny_bind (wpAny_bind (wpAny_bind (wpAny_isInstance (T := "int") (b := false) (typeIs_int _ _ _) PySem.sub_int_str ?_)))
  simp only [Bool.false_eq_true, if_false]
  refine wpAny_pure (wpAny_bind (wpAny_bind (wpAny_isInstance (T := "int") (b := false) (typeIs_int _ _ _) PySem.sub_int_bytes ?_)))
  simp only [Bool.false_eq_true, if_false]
  refine wpAny_pure (wpAny_bind (wpAny_bind (wpAny_isInstance (T := "int") (b := false) (typeIs_int _ _ _) PySem.sub_int_bytearray ?_)))
  simp only [Bool.false_eq_true, if_false]
  refine wpAny_pure (wpAny_pure ?_)
  refine wpAny_bind (wpAny_newObj_type ?_)
  obtain ⟨a', g', N, e', h1, h2, h3, h4, h5, h6, h7, h8⟩ := hM { s1 with heap := s1.heap.push { cls := .type "list", data := .seq ([Value.int 0 s1.toks] : List Value).toArray }, toks := s1.toks + 1 }
  cases e'
  have kp : ∀ b o, s1.heap.get? b = some o → (s1.heap.push { cls := .type "list", data := .seq ([Value.int 0 s1.toks] : List Value).toArray }).get? b = some o := fun b o e => Heap.get?_push_of_some _ e
  have hS : (s1.heap.push { cls := .type "list", data := .seq ([Value.int 0 s1.toks] : List Value).toArray }).get? s1.heap.objs.size = some (lstObj #[.int 0 s1.toks] 0) := Heap.get?_push_size _ rfl
  have hcl : cStatics < s1.heap.objs.size := let ⟨_, hn, _⟩ := h4; hn.lt
  have hr0 : sRel s1.heap.objs.size [] { s1 with heap := s1.heap.push { cls := .type "list", data := .seq ([Value.int 0 s1.toks] : List Value).toArray }, toks := s1.toks + 1 } := ⟨0, s1.toks, hS⟩
  refine wpAny_pure ⟨plainId_quiet F.plain_sum_loop _, sum_loop (A := X.A) (S := s1.heap.objs.size) (N := N) (g := g') hr.hd (by have := hr.dp; show X.A.depth < _; omega) (Nat.ne_of_lt h2) (Nat.ne_of_lt hcl) (fun i t H' s' aw hq => ?_) N _ [] hr0
    (h8 [s1.heap.objs.size] (sRel s1.heap.objs.size) (fun b hb => by rw [List.mem_singleton.mp hb]; exact Nat.le_refl _) sStable kp (fun b hb => by rw [List.mem_singleton.mp hb]; exact ⟨_, hS, fun v q => by cases q⟩) rfl rfl hr0)⟩
  exact ⟨.int i, H', back I1 hex aw, ⟨t, rfl⟩, hq⟩
end
end Gx
set_option Elab.async false
set_option linter.all false
set_option maxRecDepth 100000
set_option maxHeartbeats 4000000
namespace Gx
open PySem PySem.Spec PyProof.Rows L2 GenW

section
variable {X : Cx} {sc : Shared} {fp : List Addr} {H1 : Hp} {a : Addr} {g : Nat} {N : Nat} {k : Nat}
/-! ### a list that the consumer fills -/
def lRel (S : Addr) : Rel := fun ys s => ∃ acc c, s.heap.get? S = some (lstObj acc c) ∧ Vals ys acc.toList
theorem lStable {S : Addr} : Stable [S] (lRel S) := ⟨fun ys s s' h ⟨acc, c, e, r⟩ => ⟨acc, c, by rw [h S (List.mem_singleton.mpr rfl)]; exact e, r⟩⟩
def kLst (D : List V → Hp → Prop) : GK := ⟨fun ys _ _ => ys.length < sizeLine, fun _ => True, D⟩
theorem lRel_push {S : Addr} {ys : List V} {x : V} {v : Value} {s : Shared} {acc : Array Value} {c : Nat} (e : s.heap.get? S = some (lstObj acc c)) (r : Vals ys acc.toList) (rv : RelV x v) : lRel S (ys ++ [x]) { s with heap := s.heap.update S (Obj.mapSeq (·.push v)) } := by
  obtain ⟨c9, h9⟩ : ∃ c9, Obj.mapSeq (·.push v) (lstObj acc c) = lstObj (acc.push v) c9 := ⟨_, rfl⟩
  refine ⟨acc.push v, c9, ?_, ?_⟩
  · rw [← h9]
    exact Heap.get?_update_self _ e rfl
  · rw [Array.toList_push]
    exact r.append (.cons rv .nil)
theorem ext_loop {A : Around} {R : Result → Shared → Prop} {D : List V → Hp → Prop} {S : Addr} {res : Value} (hh : A.handled = none) (hd : A.depth < recursionLimit) (hSa : a ≠ S) (hSc : cStatics ≠ S)
    (hR : ∀ ys H' s', Aw X sc fp H1 a g [S] H' s' → lRel S ys s' → D ys H' → R (.ok (.ret res)) s') :
    ∀ (n : Nat) (s : Shared), Live X sc fp H1 a g [S] (lRel S) N (kLst D) A.in1.in1 n s → codeAny (model X.prog X.w) A (.builtin "list.extend.loop" ⟨[.ref S, .ref a, res], []⟩) R s := by
  intro n
  have sl : ∀ {ys : List V} {acc : Array Value}, Vals ys acc.toList → acc.size = ys.length := fun {ys acc} r => by
    have e1 := r.length
    have e2 : acc.toList.length = acc.size := by simp
    omega
  induction n with
  | zero =>
    intro s L
    refine codeAny_builtin F.entry_extend_loop ?_
    rw [Around.under_plainId F.plain_extend_loop _]
    show wpAny _ A.in1 (pyNext (.ref a) >>= _) _ _ s
    refine wpAny_bind (next (A := A.in1) hh hd lStable (by simpa using hSa) (by simpa using hSc) L (fun ys x v H' s1 h00 hn rv aw hrl md hgo => ?_) fun ys H' s1 h00 hn aw hrl dn => ?_)
    · obtain ⟨acc, c1, e1, r1⟩ := hrl
      have := (hgo trivial { s1 with heap := s1.heap.update S (Obj.mapSeq (·.push v)) } rfl rfl (fun b o hb e => (Heap.get?_update_other _ _ (fun h : S = b => hb (by rw [h]; exact List.mem_singleton.mpr rfl))).trans e) (fun b hb => ?_) (lRel_push e1 r1 rv)).1
      · omega
      · rw [List.mem_singleton.mp hb]
        exact ⟨_, Heap.get?_update_self _ e1 rfl, fun v q => by cases q⟩
    · exact wpAny_pure (hR ys H' s1 aw hrl dn)
  | succ n ih =>
    intro s L
    refine codeAny_builtin F.entry_extend_loop ?_
    rw [Around.under_plainId F.plain_extend_loop _]
    show wpAny _ A.in1 (pyNext (.ref a) >>= _) _ _ s
    refine wpAny_bind (next (A := A.in1) hh hd lStable (by simpa using hSa) (by simpa using hSc) L (fun ys x v H' s1 h00 hn rv aw hrl md hgo => ?_) fun ys H' s1 h00 hn aw hrl dn => ?_)
    · obtain ⟨acc, c1, e1, r1⟩ := hrl
      have hz : ys.length < sizeLine := md
      have hz1 := sl r1
      show wpAny _ A.in1 (updateSeq S (·.push v) >>= _) _ _ _
      refine wpAny_bind ?_
      refine wpAny_updateSeq e1 rfl (wpAny_pure ⟨plainId_quiet F.plain_extend_loop _, ih _ (hgo trivial { s1 with heap := s1.heap.update S (Obj.mapSeq (·.push v)) } rfl rfl (fun b o hb e => ?_) (fun b hb => ?_) (lRel_push e1 r1 rv)).2⟩) (by omega) (by show (acc.push v).size ≤ sizeLine + 1; rw [Array.size_push]; omega)
      · exact (Heap.get?_update_other _ _ (fun h : S = b => hb (by rw [h]; exact List.mem_singleton.mpr rfl))).trans e
      · rw [List.mem_singleton.mp hb]
        exact ⟨_, Heap.get?_update_self _ e1 rfl, fun v q => by cases q⟩
    · exact wpAny_pure (hR ys H' s1 aw hrl dn)

theorem collect_gx {A : Around} {D : List V → Hp → Prop} {s : Shared} {u : Value} {Q : List Value → Shared → Prop} {E : Value → Shared → Prop} (M : Made X k H1 sc fp (kLst D) u s) (hr : Room k A.in1.in1) (hfr : A.frames = some X.stack)
    (hQ : ∀ ys acc S a g H' s', Aw X sc fp H1 a g [S] H' s' → Vals ys acc → D ys H' → Q acc s') : wpAny (model X.prog X.w) A (collect u) Q E s := by
  have hM := fun s2 => M.live (A := A.in1) (s2 := s2) hr hfr
  obtain ⟨a, g, c, N0, rfl, q1, q2, q3, q4, q5, q6, q7, _⟩ := id M
  have hcl : cStatics < s.heap.objs.size := let ⟨_, hn, _⟩ := q7; hn.lt
  have hSI : s.heap.objs.size ≠ a := Nat.ne_of_gt q2
  unfold collect
  refine wpAny_bind (wpAny_runValue (codeAny_builtin F.entry_proto_collect ?_))
  rw [Around.under_plainId F.plain_proto_collect _]
  show wpAny _ A.in1 (newList [] >>= fun l => again (.builtin "list.__iadd__" ⟨[l, .ref a], []⟩)) _ _ s
  refine wpAny_bind (wpAny_newObj_type ?_)
  refine wpAny_pure ⟨plainId_quiet F.plain_list_iadd _, codeAny_builtin F.entry_list_iadd ?_⟩
  rw [Around.under_plainId F.plain_list_iadd _]
  have kp : ∀ b o, s.heap.get? b = some o → (s.heap.push { cls := .type "list", data := .seq ([] : List Value).toArray }).get? b = some o := fun b o e => Heap.get?_push_of_some _ e
  show wpAny _ A.in1 (Builtin.List.listExtendWith (.ref s.heap.objs.size) (.ref a) (.ref s.heap.objs.size)) _ _ _
  unfold Builtin.List.listExtendWith
  refine wpAny_bind (wpAny_typeOf (Heap.IsGen.typeIs (s := { s with heap := _ }) (q3.keeps kp)) ?_)
  have h1 : Builtin.List.listSameRef (.ref s.heap.objs.size) (.ref a) = false := by simp [Builtin.List.listSameRef, hSI]
  have h2 : (Value.type "generator" == Value.type "list") = false := by decide
  have h3 : (Value.type "generator" == Value.type "tuple") = false := by decide
  simp only [h1, h2, h3, Bool.or_false, Bool.false_eq_true, if_false]
  refine wpAny_bind (wpAny_pyIter_gen (s := { s with heap := _ }) (q3.keeps kp) ?_)
  refine wpAny_bind (wpAny_holding ?_)
  unfold Builtin.List.listLengthHint
  refine wpAny_bind (wpAny_specialOf (Heap.IsGen.typeIs (s := { s with heap := _ }) (q3.keeps kp)) F.gen_no_len ?_)
  show wpAny _ A.in1 (specialOf (Value.ref a) (Str.ofString "__length_hint__") >>= _) _ _ _
  refine wpAny_bind (wpAny_specialOf (Heap.IsGen.typeIs (s := { s with heap := _ }) (q3.keeps kp)) F.gen_no_hint ?_)
  refine wpAny_pure ?_
  show wpAny _ A.in1 (rule "list.extend.makes-room" >>= fun _ => Builtin.List.listTouch (.ref s.heap.objs.size) >>= fun _ =>
    again (.builtin "list.extend.loop" ⟨[.ref s.heap.objs.size, .ref a, .ref s.heap.objs.size], []⟩)) _ _ _
  refine wpAny_bind (wpAny_rule ?_)
  have hS₁ : (s.heap.push { cls := .type "list", data := .seq ([] : List Value).toArray }).get? s.heap.objs.size = some { cls := .type "list", data := .seq ([] : List Value).toArray } := Heap.get?_push_size _ rfl
  refine wpAny_bind ?_
  show wpAny _ A.in1 (updateSeq s.heap.objs.size (·.push .none) >>= fun _ => updateSeq s.heap.objs.size (·.pop)) _ _ _
  refine wpAny_bind (wpAny_updateSeq hS₁ rfl ?_)
  have hS₂ := Heap.get?_update_self (Obj.mapSeq (·.push Value.none)) hS₁ rfl
  refine wpAny_updateSeq hS₂ rfl ?_
  have hS₃ := Heap.get?_update_self (Obj.mapSeq (·.pop)) hS₂ rfl
  have oth : ∀ b o, b ≠ s.heap.objs.size → (s.heap.push { cls := .type "list", data := .seq ([] : List Value).toArray }).get? b = some o →
      (((s.heap.push { cls := .type "list", data := .seq ([] : List Value).toArray }).update s.heap.objs.size (Obj.mapSeq (·.push Value.none))).update s.heap.objs.size (Obj.mapSeq (·.pop))).get? b = some o :=
    fun b o hb e => (Heap.get?_update_other _ _ (Ne.symm hb)).trans ((Heap.get?_update_other _ _ (Ne.symm hb)).trans e)
  obtain ⟨a', g', N, e', h1, h2, h3, h4, h5, h6, h7, h8⟩ := hM { s with heap := ((s.heap.push { cls := .type "list", data := .seq ([] : List Value).toArray }).update s.heap.objs.size (Obj.mapSeq (·.push Value.none))).update s.heap.objs.size (Obj.mapSeq (·.pop)) }
  cases e'
  refine wpAny_pure ⟨plainId_quiet F.plain_extend_loop _, ext_loop (A := A) (S := s.heap.objs.size) (N := N) (g := g') (D := D) hr.hd (by have := hr.dp; show A.depth < _; have e9 : A.in1.in1.depth = A.depth := rfl; omega) (Ne.symm hSI) (Nat.ne_of_lt hcl) (fun ys H' s' aw hrl dn => ?_) N _
    (h8 [s.heap.objs.size] (lRel s.heap.objs.size) (fun b hb => by rw [List.mem_singleton.mp hb]; exact Nat.le_refl _) lStable (fun b o e => oth b o (Nat.ne_of_lt (Heap.lt_size e)) (kp b o e)) (fun b hb => by rw [List.mem_singleton.mp hb]; exact ⟨_, hS₃, fun v q => by cases q⟩) rfl rfl ⟨_, _, hS₃, .nil⟩)⟩
  obtain ⟨acc, c1, e1, r1⟩ := hrl
  show wpAny _ A (load s.heap.objs.size >>= _) _ _ s'
  refine wpAny_bind (wpAny_load e1 ?_)
  exact wpAny_pure (hQ ys acc.toList s.heap.objs.size a g' H' s' aw r1 dn)

/-! ### tuple(g) -/
def kTup (Q : VK) : GK := kLst fun ys H => ys.length ≤ sizeLine ∧ ∀ p, H p = none → Q (.ref p) (upd H p (.tup ys))
def tTupG (tg : TGS) : TE := fun σ H Q => tg σ H (kTup Q)
variable {e : Expr} {tg : TGS} {p pos : Pos}
theorem pe_tupG (h : PSrc X k e tg) (hr : Room (k + 4) X.A) (hg : Gl X "tuple") (hm : X.mg "tuple" = none) (hv : bootBuiltins "tuple" = some (.type "tuple")) (he : starEach [e] X.env = (false, eval e X.env) :: starEach [] X.env := by rfl) :
    PE X (.Call (.Name "tuple" p) [e] [] pos) (tTupG tg) := by
  refine ⟨fun pins s σ H Q I hq => ?_⟩
  refine wpAny_Call_Name_kw (ld_blt I hg hm hv ?_)
  refine PyProof.Rows.callWith_type1 ?_ he rfl
  rw [he]
  show wpAny _ _ (spliced ((false, eval e X.env) :: backTo pos (starEach [] X.env))) _ _ s
  refine Calls.spliced_cons (thn (h.run pins s σ H _ I hq) fun u s1 ⟨H1, sc, fp, I1, hex, M⟩ => ?_)
  refine Calls.spliced_nil ?_
  have hT : s1.TypeIs u "generator" := by
    obtain ⟨a, g, c, N, rfl, _, _, h3, _⟩ := id M
    exact h3.typeIs
  have main : codeAny (model X.prog X.w) X.A.in1 (.call (.builtin "tuple.__new__") ⟨[.type "tuple", u], []⟩) (wants (fun obj s2 => s2.TypeIs obj "tuple" ∧ EP X pins σ Q obj s2) X.xe) s1 := by
    refine codeAny_of_tree ?_
    show wpAny _ X.A.in1.in1 (do checkBuiltinCall "tuple.__new__" ⟨[.type "tuple", u], []⟩; again (.builtin "tuple.__new__" ⟨[.type "tuple", u], []⟩)) _ _ s1
    refine wpAny_bind (wpAny_of_eq (F.newCall_tuple_1 _) (wpAny_pure ⟨plainId_quiet F.plain_tuple_new _, codeAny_builtin F.entry_tuple_new ?_⟩))
    rw [Around.under_plainId F.plain_tuple_new _]
    have hsub := sub_tuple_self
    have hinit := init_tuple_lookup
    have hmh := madeHere_tuple
    have cg := fun (Q : List Value → Shared → Prop) (E : Value → Shared → Prop) hQ => collect_gx (A := X.A.in1.in1) (Q := Q) (E := E) M hr.in1.in1.in1.in1 I1.ok.frames hQ
    obtain ⟨a, g, c, N, rfl, _⟩ := id M
    wp_walk using wpAny_typeOf hT, cg
    intro ys acc S a' g' H' s' aw r dn
    obtain ⟨hz, dn⟩ := dn
    show wpAny _ _ (Builtin.Tuple.tupleExact acc.toArray >>= fun v => ret v) _ _ _
    unfold Builtin.Tuple.tupleExact
    refine wpAny_bind (wpAny_newObj_type ?_ (by show acc.toArray.size ≤ sizeLine; rw [List.size_toArray, ← r.length]; exact hz))
    refine wpAny_pure ⟨⟨_, Heap.get?_push_size _ rfl, rfl⟩, ?_⟩
    have I2 := back I1 hex aw
    have hf : H' s'.heap.objs.size = none := I2.hok.fresh (Nat.le_refl _)
    refine ⟨.ref s'.heap.objs.size, upd H' s'.heap.objs.size (.tup ys), I2.laid (t' := s'.toks) (fun b u e => Heap.get?_push_of_some _ e) (Nat.le_refl _) ?_, rfl, dn _ hf⟩
    exact ⟨hz, acc, r, ⟨_, Heap.get?_push_size _ rfl, rfl, _, rfl⟩⟩
  refine callType_codes (Q₁ := fun obj s₁ => s₁.TypeIs obj "tuple" ∧ EP X pins σ Q obj s₁) F.called_tuple (F.typeCall_tuple_1 _) F.entry_object_init main fun obj s₁ h₁ => ?_
  exact ⟨h₁.1, F.args_object_init_2 obj _, object_init_meets F.called_tuple.init.lookup F.called_tuple.made (by decide) X.prog X.w X.A.in1 _ s₁ ⟨h₁.1, rfl, h₁.2⟩⟩
end
end Gx
set_option Elab.async false
set_option linter.all false
set_option maxRecDepth 100000
set_option maxHeartbeats 4000000
namespace Gx
open PySem PySem.Spec PyProof.Rows L2 GenW

/-! ### defs whose code object is known by its address (for their generator expressions) -/
structure FunT (K : PySem.W.Frag) (x qual : Str) (st : Stmt) (f : Addr) (fd : FuncData) (c : Addr) : Prop where
  ex : ∃ (oc : Value) (od : Option Addr) (kV doc pm : Value) (an : Option Addr) (ct : Value) (osl : Array (Option Value)),
    fd = PySem.W.fnOf x qual (defArgs st) (defBody st) (defScope st) .none kV doc pm an (.ref c) ct ∧ K.lookup f = some ⟨oc, od, .func fd, osl⟩ ∧ PySem.W.codeIn K (.ref c) qual = true
  kp : PySem.W.keepIn K (.ref f) = true
section
variable {P : Program} {w : World} {K : PySem.W.Frag} {mg : Str → Option Value} {base : Heap}
theorem FunT.toFun {x qual : Str} {st : Stmt} {f c : Addr} {fd : FuncData} (F : FunT K x qual st f fd c) : Fun K x qual st f fd := by
  obtain ⟨oc, od, kV, doc, pm, an, ct, osl, e, l, h⟩ := F.ex
  exact ⟨⟨oc, od, kV, doc, pm, an, .ref c, ct, osl, e, l, h⟩, F.kp⟩
theorem funT_mk {x qual : Str} {st : Stmt} {f c : Addr} {oc : Value} {od an : Option Addr} {osl : Array (Option Value)} {kV doc pm ct : Value} (l : K.lookup f = some ⟨oc, od, .func (PySem.W.fnOf x qual (defArgs st) (defBody st) (defScope st) .none kV doc pm an (.ref c) ct), osl⟩)
    (h : PySem.W.codeIn K (.ref c) qual = true) (k : PySem.W.keepIn K (.ref f) = true) : FunT K x qual st f (PySem.W.fnOf x qual (defArgs st) (defBody st) (defScope st) .none kV doc pm an (.ref c) ct) c := ⟨⟨oc, od, kV, doc, pm, an, ct, osl, rfl, l, h⟩, k⟩
theorem FunT.ok {x qual : Str} {st : Stmt} {f c : Addr} {fd : FuncData} {N ps : List Str} {k : Nat} {sp : Sp} (F : FunT K x qual st f fd c) (S : FnScope N ps (defScope st)) (len : ∀ vs H Q E, sp vs H Q E → vs.length = ps.length)
    (hbody : ∀ (A : Around) (outer : List Env) (s : Shared) (H : Hp) (vs : List V) (Q : VK) (E : XK), Room k (A.deeper (envOfC qual (defScope st) s.heap.objs.size f (.ref c))) → sp vs H Q E →
      ∃ t, PSs (cxOf CX0 P w K mg base N qual (defScope st) f (.ref c) A outer s H E).nox (defBody st) t ∧ t { nx := fun _ H' => Q .non H', rt := Q } (start N vs) H) : FnOk P w K mg base CX0 (k + 1) f fd ps sp := by
  obtain ⟨oc, od, kV, doc, pm, an, ct, osl, rfl, lk, hcd⟩ := F.ex
  refine fn_of lk hcd S len fun A outer s H vs Q E hr hsp => ?_
  obtain ⟨t, h, q⟩ := hbody A outer s H vs Q E hr hsp
  exact ⟨t, h.nox, q⟩

/-! ### defs that are called where no repr runs -/
structure FnG (P : Program) (w : World) (K : PySem.W.Frag) (mg : Str → Option Value) (base : Heap) (k : Nat) (f : Addr) (fd : FuncData) (ps : List Str) (sp : Sp) : Prop where
  len : ∀ vs H Q E, sp vs H Q E → vs.length = ps.length
  run : ∀ (A : Around) (outer : List Env) (s : Shared) (H : Hp) (args : Args) (us : List Value) (vs : List V) (Q : VK) (E : XK), A.guards = some [] → Room k A → Env0 P w K mg base A outer s H → BindsTo s fd args (ps.zip us) → Vals vs us → sp vs H Q E →
    codeAny (model P w) A (.call (.ref f) args) (CR CX0 outer P w H s Q E) s
theorem okG {x qual : Str} {st : Stmt} {f : Addr} {fd : FuncData} {N ps : List Str} {k : Nat} {sp : Sp} (F : Fun K x qual st f fd) (S : FnScope N ps (defScope st)) (len : ∀ vs H Q E, sp vs H Q E → vs.length = ps.length)
    (hbody : ∀ (cdv : Value) (A : Around) (outer : List Env) (s : Shared) (H : Hp) (vs : List V) (Q : VK) (E : XK), A.guards = some [] → Room k (A.deeper (envOfC qual (defScope st) s.heap.objs.size f cdv)) → sp vs H Q E →
      ∃ t, PSs (cxOf CX0 P w K mg base N qual (defScope st) f cdv A outer s H E).nox (defBody st) t ∧ t { nx := fun _ H' => Q .non H', rt := Q } (start N vs) H) : FnG P w K mg base (k + 1) f fd ps sp := by
  obtain ⟨oc, od, kV, doc, pm, an, cdv, ct, osl, rfl, lk, hcd⟩ := F.ex
  refine ⟨len, fun A outer s H args us vs Q E hgd hr e0 hb r hsp => ?_⟩
  have hl := len _ _ _ _ hsp
  have old : ∀ b o, base.get? b = some o → s.heap.get? b = some o := fun b o e => (e0.bs b o e).1
  have KX : K.In s.heap := e0.mod.kin.keeps old
  have own : ∀ y ∈ ps.zip us, (defScope st).names.lookup y.1 = some .local ∨ ((defScope st).names.lookup y.1 = some .cell ∧ ((cellsFrom (s.heap.objs.size + 1) (defScope st).names []).lookup y.1).isSome = true) := by
    rintro ⟨n, v⟩ hy
    rcases S.par n (List.of_mem_zip hy).1 with q | q
    · exact .inl q
    · exact .inr ⟨q, PySem.W.cellsFrom_some _ _ _ (.inl q)⟩
  refine codeAny_call_function hr.depth (KX _ _ lk) rfl S.co S.gen rfl (PySem.W.codeRec_of KX hcd) (hb _ _ _ _ ?_)
  refine wpAny_newFunctionEnv_cells S.kind own ?_
  rintro env rfl s1 x
  refine ⟨(e0.mod.nolimit.keeps old).keeps x.toInCall.keep, codeAny_func ?_⟩
  obtain ⟨t, ht, hq⟩ := hbody cdv A outer s H vs Q E hgd (hr.deeper _) hsp
  have I := inv_start (CX := CX0) (E := E) S hr.hd e0 hl r x
  refine wpAny_mono (ht.nox.run [] s1 (start N vs) H _ I hq) (fun fl s' hs => ?_) fun e s' hs => hs
  cases fl with
  | ret u =>
    obtain ⟨v, σ', H', J, rv, q⟩ := hs
    exact ⟨v, H', J.os, J.bare, J.base, J.hok, rv, q⟩
  | next =>
    obtain ⟨σ', H', J, q⟩ := hs
    exact ⟨.non, H', J.os, J.bare, J.base, J.hok, rfl, q⟩
  | brk => exact let ⟨_, _, _, q⟩ := hs; q.elim
  | cont => exact let ⟨_, _, _, q⟩ := hs; q.elim

section
variable {X : Cx} {k : Nat} {f : Addr} {fd : FuncData} {ps : List Str} {sp : Sp} {x : Str} {p pos : Pos} {e : Expr} {es : List Expr} {t : TA}
theorem pe_callG (F : FnG X.prog X.w X.K X.mg X.base k f fd ps sp) (hgd : X.A.guards = some []) (hr : Room k X.A) (hg : Gl X x) (hm : X.mg x = some (.ref f)) (hk : PySem.W.keepIn X.K (.ref f) = true) (hb : Binds X.K fd ps [])
    (ha : PA X (e :: es) t) (hdb : (x == ("__debug__" : Str)) = false := by decide) (he : starEach (e :: es) X.env = (false, eval e X.env) :: starEach es X.env := by rfl) (hpl : (backTo pos (starEach es X.env)).any (·.1) = false := by rfl) :
    PE X (.Call (.Name x p) (e :: es) [] pos) (fun σ H Q => t σ H fun vs H1 => sp vs H1 Q E0) := by
  refine ⟨fun pins s σ H Q I h => ?_⟩
  refine wpAny_Call_Name_kw (ld_glob I hg hm ?_ hdb)
  refine PySem.W.callWith_K (h₀ := X.base) I.ok.mod.kin hk (thn (ha.run pos pins s σ H _ I h) fun us s1 ⟨vs, H1, I1, r, q⟩ => ⟨I1.kIn, ?_⟩) he hpl
  have hl : (us ++ []).length = ps.length := by
    rw [List.append_nil, ← r.length]
    exact F.len _ _ _ _ q
  have hb1 := hb s1 us I1.kIn hl
  rw [List.append_nil] at hb1
  refine wpAny_call (codeAny_mono (F.run X.A X.stack s1 H1 ⟨us, []⟩ us vs Q E0 hgd hr I1.env0 hb1 r q) fun r s' hq => ?_)
  cases r with
  | error e => exact False.elim hq
  | ok fl =>
    cases fl with
    | ret u => exact I1.after hq
    | next => exact False.elim hq
    | brk => exact False.elim hq
    | cont => exact False.elim hq

/-! ### repr of data -/
/-- data that repr writes -/
structure Shows (d : PyData) : Prop where
  show_ : d.showable = true
  nod : d.hasDict = false
  dep : d.depth ≤ 60
  size : d.shown.length ≤ sizeLine
  int : ∀ i, d = .int i → i.natAbs.log2 < 1920
  str : ∀ x, d ≠ .str x
def rRepr (K : PySem.W.Frag) : List V → Hp → VK → Prop := fun xs H Q => ∃ x d, xs = [x] ∧ Dp K H x d ∧ Shows d ∧ Q (.str d.shown) H
theorem call_repr (hgd : X.A.guards = some []) (hu : X.A.units + 65 < cLine) : CallR X (.builtin "repr") (rRepr X.K) := by
  intro pins s σ H xs us Q I r h
  obtain ⟨x, d, rfl, hd, S, q⟩ := h
  cases r with
  | cons r1 r2 =>
    rename_i u ut
    cases r2
    obtain ⟨as, rd⟩ := Dp.reads I d x u hd r1
    have ref : ∀ a, u = .ref a → wpAny (model X.prog X.w) X.A (call (.builtin "repr") [u]) (EP X pins σ Q) X.xe s := by
      rintro a rfl
      have := S.dep
      exact repr_of_reads' rd S.show_ (PyData.noDict_hsm S.nod) hgd (by omega) (fun _ _ e => e) (fun h' u tk hk => ⟨.str d.shown, H, I.kept (t' := tk) hk, ⟨u, rfl⟩, q⟩) S.size
    cases rd with
    | none => exact PySem.P.repr_of_none ⟨.str _, H, I.tok _, ⟨_, rfl⟩, q⟩
    | bool b => exact PySem.P.repr_of_bool ⟨.str _, H, I.tok _, ⟨_, rfl⟩, q⟩
    | int i t => exact PySem.P.repr_of_int (S.int i rfl) ⟨.str _, H, I.tok _, ⟨_, rfl⟩, q⟩
    | str z t => exact absurd rfl (S.str z)
    | list _ _ _ _ => exact ref _ rfl
    | tuple _ _ _ _ => exact ref _ rfl
    | dict _ _ _ _ _ => exact ref _ rfl
end
end
end Gx
set_option Elab.async false
set_option linter.all false
set_option maxRecDepth 100000
set_option maxHeartbeats 4000000
namespace Gx
open PySem PySem.Spec PyProof.Rows L2 GenW

/-- the abstract heap at the law's entry: the tables ts, and the script where it is none of the module's own objects -/
def entryH (K : PySem.W.Frag) (a : Addr) (o : Obj) (ns : List Int) (ts : List Addr) : Hp := fun b =>
  if b ∈ ts then some (.tbl #[]) else if b = a ∧ (K.lookup a).isNone = true then some (.frz o (.lst (ns.map V.int))) else none
section
variable {K : PySem.W.Frag} {a : Addr} {o : Obj} {ns : List Int} {ts : List Addr}
theorem entryH_tab {b : Addr} (h : b ∈ ts) : entryH K a o ns ts b = some (.tbl #[]) := if_pos h
theorem entryH_cases (b : Addr) : entryH K a o ns ts b = none ∨ (b ∈ ts ∧ entryH K a o ns ts b = some (.tbl #[])) ∨ (b ∉ ts ∧ b = a ∧ K.lookup a = none ∧ entryH K a o ns ts b = some (.frz o (.lst (ns.map V.int)))) := by
  by_cases h1 : b ∈ ts
  · exact .inr (.inl ⟨h1, entryH_tab h1⟩)
  · by_cases h2 : b = a ∧ (K.lookup a).isNone = true
    · exact .inr (.inr ⟨h1, h2.1, Option.isNone_iff_eq_none.mp h2.2, (if_neg h1).trans (if_pos h2)⟩)
    · exact .inl ((if_neg h1).trans (if_neg h2))
end
abbrev tab0 : Obj := { cls := .none, data := .fields #[] }
abbrev scrObj (vs : List Value) : Obj := { cls := .type "list", data := .seq vs.toArray }

/-- the law's call, where its promise holds with no repr around -/
theorem enterG {P : Program} {w : World} {K : PySem.W.Frag} {mg mb : Str → Option Value} {k : Nat} {fa a : Addr} {cs : List (Addr × Addr)} {fd : FuncData} {x : Str} {sp : Sp} {s : Shared} {vs : List Value} {ns : List Int}
    (KX : K.In s.heap) (gl : s.heap.Ns mainGlobals mg) (bl : s.heap.Ns builtinsNs mb) (bb : ∀ x : Str, x ≠ "__name__" → mb x = bootBuiltins x) (lim : s.heap.NoLimit) (g0 : s.gens = #[])
    (hT : ∀ p ∈ cs, s.heap.get? p.2 = some tab0 ∧ K.lookup p.2 = none ∧ PySem.W.CodeHd s.heap p.1 p.2)
    (bm : ∃ (bm : Addr) (ob : Obj), mg "__builtins__" = some (.ref bm) ∧ bm ≠ builtinsNs ∧ s.heap.get? bm = some ob ∧ ob.cls = .type "module" ∧ ob.dict = some builtinsNs ∧ ob.data = .plain)
    (ha : s.heap.get? a = some (scrObj vs)) (hi : IntsAre vs ns) (hl : ns.length ≤ sizeLine) (hr : Room k callerA) (hbind : ∀ (s : Shared) (u : Value), BindsTo s fd ⟨[u], []⟩ [(x, u)])
    (F : ∀ base : Heap, K.In base → base.Ns mainGlobals mg → (∀ p ∈ cs, GxR.TabB base mg p.1 p.2) → FnG P w K mg base k fa fd [x] sp)
    (hsp : ∀ H : Hp, (∀ p ∈ cs, GxR.TabG H p.2) → SqL K H a (ns.map V.int) → sp [.ref a] H (fun v _ => v = .bl true) E0) :
    codeAny (model P w) callerA (.call (.ref fa) ⟨[.ref a], []⟩) (fun r s' => r = .ok (.ret (.bool true)) ∧ OldK s.heap s'.heap ∧ s'.os = s.os ∧ AllBare s'.gens) s := by
  have rv := vals_ints hi
  have lenV := hi.length
  generalize hts : cs.map (·.2) = ts
  have tsT : ∀ b ∈ ts, s.heap.get? b = some tab0 ∧ K.lookup b = none := fun b hb => by
    rw [← hts] at hb
    obtain ⟨p, hp, rfl⟩ := List.mem_map.mp hb
    exact ⟨(hT p hp).1, (hT p hp).2.1⟩
  have inT : ∀ p ∈ cs, p.2 ∈ ts := fun p hp => by rw [← hts]; exact List.mem_map.mpr ⟨p, hp, rfl⟩
  have aT : a ∉ ts := fun hb => by
    have q := (tsT a hb).1
    rw [ha] at q
    exact absurd (congrArg Obj.data (Option.some.inj q)) (by intro z; cases z)
  generalize hH : entryH K a (scrObj vs) ns ts = H
  have cases_ : ∀ b, H b = none ∨ (b ∈ ts ∧ H b = some (.tbl #[])) ∨ (b ∉ ts ∧ b = a ∧ K.lookup a = none ∧ H b = some (.frz (scrObj vs) (.lst (ns.map V.int)))) := fun b => by rw [← hH]; exact entryH_cases b
  have tabs : ∀ p ∈ cs, H p.2 = some (.tbl #[]) := fun p hp => by rw [← hH]; exact entryH_tab (inT p hp)
  have hS : SqL K H a (ns.map V.int) := by
    cases hk : K.lookup a with
    | none => exact .inl (.inr ⟨scrObj vs, by rw [← hH]; exact (if_neg aT).trans (if_pos ⟨rfl, by rw [hk]; rfl⟩)⟩)
    | some u =>
      have e := KX a u hk
      rw [ha] at e
      cases e
      exact .inr ⟨_, vs.toArray, _, hk, rfl, rfl, rfl, by rw [List.size_toArray, lenV]; exact hl, by simpa using rv⟩
  have hok : HOk P w H s.heap := fun b u e => by
    rcases cases_ b with z | ⟨hb, z⟩ | ⟨_, rfl, _, z⟩
    · rw [z] at e; cases e
    · rw [z] at e; cases e
      exact (tsT b hb).1
    · rw [z] at e; cases e
      exact ⟨ha, by rw [List.length_map]; exact hl, vs, _, rv, ha⟩
  -- what is no list and no empty table is not tracked
  have clear : ∀ {b : Addr} {o : Obj}, s.heap.get? b = some o → (∀ ys n, o.data ≠ .seq ys n) → o.data ≠ .fields #[] → H b = none := fun {b o} e h1 h2 => by
    rcases cases_ b with z | ⟨hb, _⟩ | ⟨_, rfl, _, _⟩
    · exact z
    · rw [(tsT b hb).1] at e; cases e
      exact absurd rfl h2
    · rw [ha] at e; cases e
      exact absurd rfl (h1 _ _)
  have nsB : ∀ {b : Addr} {m : Str → Option Value}, s.heap.Ns b m → (hidT s.heap H).Ns b m := fun {b m} ⟨o, es, ep, e, d, r⟩ =>
    ⟨o, es, ep, hidT_get e (clear e (fun ys n z => by rw [d] at z; cases z) fun z => by rw [d] at z; cases z), d, r⟩
  have kB : K.In (hidT s.heap H) := fun b o e => hidT_get (KX b o e) (by
    rcases cases_ b with z | ⟨hb, _⟩ | ⟨_, rfl, hk, _⟩
    · exact z
    · rw [(tsT b hb).2] at e; cases e
    · rw [hk] at e; cases e)
  have modB : L2.Mod K mg (hidT s.heap H) := ⟨kB, nsB gl, ⟨mb, nsB bl, bb⟩, let ⟨mc, h1, h2⟩ := lim; ⟨mc, nsB h1, h2⟩⟩
  have noGl : ∀ {b : Addr} {o : Obj}, s.heap.get? b = some o → (∀ es ep, o.data ≠ .dict es ep) → b ≠ mainGlobals := fun {b o} e h z => by
    obtain ⟨o', es, ep, e', hd, _⟩ := gl
    rw [← z, e] at e'
    cases e'
    exact h _ _ hd
  have tb : ∀ p ∈ cs, GxR.TabB (hidT s.heap H) mg p.1 p.2 := fun p hp => by
    obtain ⟨t1, _, o, us, file, tf, flags, tg, inF, text, tt, e1, r1, r2, r3, r⟩ := hT p hp
    obtain ⟨b, ob, b1, b2, b3, b4, b5, b6⟩ := bm
    refine ⟨⟨o, us, file, tf, flags, tg, inF, text, tt, hidT_get e1 (clear e1 (fun ys n z => by rw [r2] at z; cases z) fun z => ?_), r1, r2, r3, r⟩,
      ⟨b, ob, b1, b2, noGl b3 (fun es ep z => by rw [b6] at z; cases z), fun q => ?_, hidT_get b3 (clear b3 (fun ys n z => by rw [b6] at z; cases z) fun z => by rw [b6] at z; cases z), b4, b5, b6⟩, (noGl t1 (fun es ep z => by cases z)).symm⟩
    · rw [r2] at z
      cases z
      simp at r3
    · rw [q, t1] at b3
      cases b3
      cases b6
  have e0 : Env0 P w K mg (hidT s.heap H) callerA [] s H :=
    ⟨rfl, modB, fun b o e => of_hidT e, Nat.le_of_eq (hidT_size _ _), trivial, (fun b hb => absurd (show b ∈ ([] : List Addr) from hb) (by simp)), hok, .of_eq g0⟩
  refine codeAny_mono ((F _ kB (nsB gl) tb).run callerA [] s H ⟨[.ref a], []⟩ [.ref a] [.ref a] _ E0 rfl hr e0 (hbind s (.ref a)) (.cons rfl .nil) (hsp H (fun p hp => ⟨#[], tabs p hp, by
    unfold TriplesOk
    trivial⟩) hS)) fun r s' h => ?_
  cases r with
  | error e => exact False.elim h
  | ok fl =>
    cases fl with
    | next => exact False.elim h
    | brk => exact False.elim h
    | cont => exact False.elim h
    | ret u =>
      obtain ⟨v, H', os, bare, un, hok', r', rfl⟩ := h
      obtain rfl : u = Value.bool true := r'
      have same : ∀ b o, b ∉ ts → s.heap.get? b = some o → s'.heap.get? b = some o := fun b o hb e => by
        rcases cases_ b with z | ⟨h1, _⟩ | ⟨_, rfl, _, z⟩
        · exact un.keep b o e z (by intro y; cases y) (by intro y; cases y)
        · exact absurd h1 hb
        · have z1 := (hok b _ z).1
          have z2 := (hok' b _ (un.frzs b _ _ z)).1
          rw [e] at z1
          cases z1
          exact z2
      have tabG : ∀ b ∈ ts, ∃ more : Array Value, s'.heap.get? b = some { cls := .none, data := .fields more } := fun b hb => by
        obtain ⟨more, z⟩ := un.tbls b #[] (by rw [← hH]; exact entryH_tab hb)
        exact ⟨_, hok' b _ z⟩
      refine ⟨rfl, ⟨fun b o e => ?_, fun b o e => ?_⟩, os, bare⟩
      · by_cases hb : b ∈ ts
        · obtain ⟨more, hm⟩ := tabG b hb
          have hb2 := hb
          rw [← hts] at hb2
          obtain ⟨p, hp, rfl⟩ := List.mem_map.mp hb2
          obtain ⟨t1, _, C⟩ := hT p hp
          rw [t1] at e
          cases e
          exact .inr (.inl ⟨(C.tab t1).isCodeTable, rfl, #[], more, rfl, by rw [Array.empty_append]; exact hm⟩)
        · exact .inl (same b o hb e)
      · by_cases hb : b ∈ ts
        · obtain ⟨more, hm⟩ := tabG b hb
          exact ⟨_, hm⟩
        · exact ⟨o, same b o hb e⟩

/-- what is to be shown of the law's promise at the head's heap -/
def LawG (l : PySem.W.OpenLaw) (w : World) (K : PySem.W.Frag) (k n : Nat) (x : Str) (mg : Str → Option Value) (fa : Addr) (h : Heap) : Prop :=
  ∃ (fd : FuncData) (cs : List (Addr × Addr)) (sp : Sp), (∀ p ∈ cs, h.get? p.2 = some tab0 ∧ K.lookup p.2 = none ∧ PySem.W.CodeHd h p.1 p.2) ∧ (∀ (s : Shared) (u : Value), BindsTo s fd ⟨[u], []⟩ [(x, u)]) ∧
    (∀ (H : Hp) (a : Addr) (ns : List Int), ns.length ≤ n → (∀ z ∈ ns, Builtin.Int.intBits z ≤ 1048576) → (∀ p ∈ cs, GxR.TabG H p.2) → SqL K H a (ns.map V.int) → sp [.ref a] H (fun v _ => v = .bl true) E0) ∧
    ∀ base : Heap, K.In base → base.Ns mainGlobals mg → (∀ p ∈ cs, GxR.TabB base mg p.1 p.2) → FnG l.prog w K mg base k fa fd [x] sp
theorem walkG {l : PySem.W.OpenLaw} {n k : Nat} {q : Program} {loose : List Str} {XP : (Str → Option Value) → Heap → Prop} {YP : World → Heap → Prop} {d : DefRec} {K : Params → PySem.W.Frag} {x : Str}
    (hn : l.most = some n) (hn2 : n ≤ sizeLine) (hdf : d.params.defaults = []) (hr : Room k callerA) (hY : ∀ (w : World) (h : Heap), YP w h → (K w.params).In h)
    (F : ∀ (w : World) (mg : Str → Option Value) (fa : Addr) (h : Heap), (K w.params).In h → h.Ns mainGlobals mg → mg d.name = some (.ref fa) →
      (∀ (d' : DefRec) (y : Str) (c P : Addr), (recsOf q).find? (fun e => e.name == y) = some d' → PySem.W.tabIn (K w.params) y = some (c, P) → PySem.W.CodeHd h c P ∧ h.get? P = some tab0) → LawG l w (K w.params) k n x mg fa h) :
    PySem.W.WalkO q loose XP YP l.row.toRowW d [] (fun f vs => PySem.call f vs) := by
  refine Att.attach_callB hn hdf fun w s₀ s₁ mg mb fa o pm cd doc a vs ns G Y ho hd hcd hmg hobj hints hlen hbits hg => ?_
  have KX := hY w _ Y
  obtain ⟨fd, cs, sp, hT, hb, hsp, hF⟩ := F w mg fa _ KX G.T.g hmg fun d' y c P h1 h2 => PySem.W.tab_of G.T KX h1 h2
  exact enterG KX G.T.g G.T.b G.T.builtins G.T.nolimit hg hT G.T.bmain hobj hints (Nat.le_trans hlen hn2) hr hb hF fun H h1 h2 => hsp H a ns hlen hbits h1 h2
end Gx
set_option Elab.async false
set_option linter.all false
set_option maxRecDepth 100000
set_option maxHeartbeats 4000000
namespace Gx
open PySem PySem.Spec PyProof.Rows L2 GenW
open Sem (wp)
open AutoSeq1 (wpAny_loadPart')

/-! ### enumerate over a tuple -/
theorem meets_enumT (a : Addr) (items : Array Value) :
    Meets (Builtin.«enumerate.__new__» ⟨[.type "enumerate", .ref a], []⟩) (fun _ R s => s.heap.IsTuple a items ∧
      R (.ok (.ret (.ref (s.heap.push { cls := .type "tuple_iterator", data := .fields #[.ref a, .int 0 0] }).objs.size)))
        { s with heap := (s.heap.push { cls := .type "tuple_iterator", data := .fields #[.ref a, .int 0 0] }).push { cls := .type "enumerate", data := .fields #[.none, .bool false, .ref s.heap.objs.size, rawInt 0, .none, .none] } }) :=
  .of_wp fun prog w A R s h => by
    obtain ⟨hp, g, d, tk, os⟩ := s
    obtain ⟨hT, h⟩ := h
    have hsub := sub_enumerate
    have q1 : ∀ {A' : Around} {E : Value → Shared → Prop} {Q : Value → Shared → Prop}, Q (.ref hp.objs.size) ⟨hp.push { cls := .type "tuple_iterator", data := .fields #[.ref a, .int 0 0] }, g, d, tk, os⟩ → wpAny (model prog w) A' (pyIter (.ref a)) Q E ⟨hp, g, d, tk, os⟩ :=
      fun q => (begins_tuple a items).iter prog w _ _ ⟨hp, g, d, tk, os⟩ _ hT q
    wp_walk using q1
    refine wpAny_stack_any fun st => wpAny_pure ?_
    split
    · rename_i c _ _ _ _ _
      cases (c == Value.type "enumerate")
      · wp_walk using q1
        exact ⟨_, rfl, h⟩
      · wp_walk using q1
        exact ⟨_, rfl, h⟩
    · wp_walk using q1
      exact ⟨_, rfl, h⟩
theorem call_enumT {prog : Program} {w : World} {A : Around} {E : Value → Shared → Prop} {s : Shared} {a : Addr} {items : Array Value} {Q : Value → Shared → Prop} (hT : s.heap.IsTuple a items)
    (h : ∀ h', IsEnum h' (s.heap.objs.size + 1) s.heap.objs.size 0 .none → h'.IsTupleIter s.heap.objs.size a 0 → h'.objs.size = s.heap.objs.size + 2 →
      (∀ b o, s.heap.get? b = some o → h'.get? b = some o) → Q (.ref (s.heap.objs.size + 1)) { s with heap := h' }) :
    wpAny (model prog w) A (call (.type "enumerate") [.ref a]) Q E s := by
  refine callType_new F.called_enumerate (by decide) (F.typeCall_enumerate_1 _) (F.newCall_enumerate_1 _) (fun obj => F.args_object_init_2 obj _) F.entry_enumerate_new (meets_enumT a items) ⟨hT, ?_⟩
  generalize ho : ({ cls := .type "tuple_iterator", data := .fields #[.ref a, .int 0 0] } : Obj) = o1
  have hz : (s.heap.push o1).objs.size = s.heap.objs.size + 1 := Heap.size_push ..
  show _ ∧ _
  rw [hz]
  have he : IsEnum ((s.heap.push o1).push { cls := .type "enumerate", data := .fields #[.none, .bool false, .ref s.heap.objs.size, rawInt 0, .none, .none] }) (s.heap.objs.size + 1) s.heap.objs.size 0 .none := by
    have q := Heap.get?_push_size (s.heap.push o1) (o := { cls := .type "enumerate", data := .fields #[.none, .bool false, .ref s.heap.objs.size, rawInt 0, .none, .none] }) rfl
    rw [hz] at q
    exact q
  refine ⟨⟨_, he, rfl⟩, h _ he ⟨o1, Heap.get?_push_of_some _ (Heap.get?_push_size _ (by rw [← ho]; rfl)), (by subst ho; rfl), (by subst ho; rfl)⟩ (by rw [Heap.size_push, hz]) fun b o x => Heap.get?_push_of_some _ (Heap.get?_push_of_some _ x)⟩

def IteT (K : PySem.W.Frag) (a : Addr) : It :=
  ⟨fun i H => ∃ xs x, SqT K H a xs ∧ xs[i]? = some x, fun i H v H' => ∃ T x, v = .ref T ∧ H T = none ∧ H' = upd H T (.tup [.int (i : Nat), x]) ∧ ∀ xs, SqT K H a xs → xs[i]? = some x, fun i H => ∃ xs, SqT K H a xs ∧ xs.length ≤ i⟩
theorem turn_enumT {P : Program} {w : World} {K : PySem.W.Frag} {elts : List Expr} {kk : Nat} {tpos : Pos} (a e it : Addr) :
    Turn P w K (.Tuple elts kk tpos) (IteT K a) [e, it] e (fun i h => (∃ old, IsEnum h e it ((i : Nat) : Int) old) ∧ h.IsTupleIter it a i ∧ e ≠ it ∧ a ≠ it ∧ a ≠ e) where
  mem := List.mem_cons_self
  obj := fun i h st b hb => by
    obtain ⟨⟨old, he⟩, ⟨o, ho, _, hd⟩, _⟩ := st
    rcases List.mem_cons.mp hb with z | z
    · exact ⟨_, (by rw [z]; exact he), fun v q => by cases q⟩
    · rw [List.mem_singleton.mp z]
      exact ⟨o, ho, fun v q => by rw [hd] at q; cases q⟩
  keep := fun i h h' st k => let ⟨⟨old, he⟩, hi, r⟩ := st; ⟨⟨old, k e List.mem_cons_self _ he⟩, hi.at fun o q => k it (List.mem_cons_of_mem _ List.mem_cons_self) o q, r⟩
  item := by
    intro X hP hw hK hc i pins s σ H E I hf st hg
    subst hP hw hK
    obtain ⟨⟨old, he⟩, hit, hne, hai, hae⟩ := st
    obtain ⟨xs, x, hq, hx⟩ := hg
    obtain ⟨its, rv, p, hz⟩ := I.tuple hq
    obtain ⟨u, hu, ru⟩ := rv.get hx
    have hel : e < s.heap.objs.size := Heap.lt_size he
    have hil : it < s.heap.objs.size := by obtain ⟨_, q, _⟩ := hit; exact Heap.lt_size q
    have hlt : i < its.toArray.size := by
      rw [List.size_toArray]
      exact (List.getElem?_eq_some_iff.mp hu).1
    refine wpAny_pyNext_enum_itemD (Draws.tuple (A := X.A.in1) (I.ok.hd hc) it a hai its.toArray) he ⟨hit, p⟩ hlt hne (fun z => ?_) fun y h' tk hy ho hst' hT hsz hk => ?_
    · rcases List.mem_cons.mp z with z | z
      · exact hne z
      · exact hae (List.mem_singleton.mp z).symm
    obtain rfl : u = y := by
      have q : its[i]? = some y := by simpa using hy
      rw [hu] at q
      exact Option.some.inj q
    obtain ⟨hit', _⟩ := hst'
    refine ⟨_, rfl, wpAny_letOwnedTupleGo_enum (s := { s with heap := h', toks := tk + 1 }) ho fun h'' he' sb => ?_⟩
    have hT2 : h''.get? s.heap.objs.size = some { cls := .type "tuple", data := .seq #[.int i tk, u] } := (sb.2 _ (Nat.ne_of_gt hel)).trans hT
    have new : ObjOk X.prog X.w (upd H s.heap.objs.size (.tup [.int (i : Nat), x])) h'' s.heap.objs.size (.tup [.int (i : Nat), x]) :=
      ⟨by show 2 ≤ sizeLine; decide, [.int i tk, u], .cons ⟨_, rfl⟩ (.cons ru .nil), ⟨_, hT2, rfl, _, rfl⟩⟩
    have I1 : Inv X pins σ (upd H s.heap.objs.size (.tup [.int (i : Nat), x])) { s with heap := h'', toks := tk + 1 } :=
      I.turnedNew (ch := [e, it]) (fun b ob hb q => (sb.2 b (fun z => hb (by rw [z]; exact List.mem_cons_self))).trans (hk b ob (fun z => hb (by rw [z]; exact List.mem_cons_self)) (fun z => hb (by rw [z]; exact List.mem_cons_of_mem _ List.mem_cons_self)) q)) hf (Nat.le_refl _) new
    refine ⟨.ref s.heap.objs.size, _, I1, rfl, ⟨_, x, rfl, I.hok.fresh (Nat.le_refl _), rfl, fun ys hy => by rw [I.tuple_inj hy hq]; exact hx⟩, ⟨⟨u, ?_⟩, hit'.at fun o q => (sb.2 it (Ne.symm hne)).trans q, hne, hai, hae⟩, fun b hb => ?_⟩
    · have e1 : ((i + 1 : Nat) : Int) = (i : Int) + 1 := by omega
      rw [e1]; exact he'
    · have hb' : b < s.heap.objs.size := by
        rcases List.mem_cons.mp hb with z | z
        · rw [z]; exact hel
        · rw [List.mem_singleton.mp z]; exact hil
      rw [upd_ne (Nat.ne_of_lt hb')]
      exact (hf b hb).1
  done := by
    intro X hP hw hK hc i pins s σ H E I hf st hg
    subst hP hw hK
    obtain ⟨⟨old, he⟩, hit, hne, hai, hae⟩ := st
    obtain ⟨xs, hq, hx⟩ := hg
    obtain ⟨its, rv, p, hz⟩ := I.tuple hq
    obtain ⟨f0, f1, f2, f3, f4, f5⟩ := hf it (List.mem_cons_of_mem _ List.mem_cons_self)
    have hT : s.TypeIs (.ref e) "enumerate" := ⟨_, he, rfl⟩
    have hl := rv.length
    unfold pyNext
    refine wpAny_bind (wpAny_attempt (wpAny_callSpecial?_slot (name := Str.ofString "__next__") hT F.slot_enumerate_next
      (wpAny_call_entry F.slot_enumerate_next hT F.entry_enumerate_next ?_ (F.args_enumerate_next_1 _))))
    show wpAny _ _ (field (.ref e) 2 >>= _) _ _ _
    refine wpAny_bind (wpAny_field he rfl (x := .ref it) rfl ?_)
    refine wpAny_bind (wpAny_nextOf_tuple_end (A := X.A.in1) (I.ok.hd hc) hit p (by simp; omega) fun h' x he' hx' => ?_)
    obtain ⟨o, ho, hc⟩ := hx'
    refine wpAny_bind (wpAny_isInstance (T := "StopIteration") (b := true) ⟨o, ho, hc⟩ isSubtype_stop ?_)
    exact wpAny_pure ⟨rfl, I.turned (t' := s.toks) (fun b o hb q => he' b o hb q) f0 f1 f3 f4 f5⟩
  self := fun A i s Q E st h => let ⟨⟨_, he⟩, _⟩ := st; wpAny_pyIter_enum he h
def iEnumT (K : PySem.W.Frag) (ta : TA) : TI := fun σ H R => ta σ H fun vs H1 => ∃ a xs, vs = [.ref a] ∧ SqT K H1 a xs ∧ R (IteT K a) H1
theorem pi_enumT {X : Cx} {e : Expr} {ta : TA} {p pos tpos : Pos} {elts : List Expr} {kk : Nat} (hg : Gl X "enumerate") (hm : X.mg "enumerate" = none) (ha : PA X [e] ta) (hs : starEach [e] X.env = [(false, eval e X.env)] := by rfl) :
    PI X (.Tuple elts kk tpos) (.Call (.Name "enumerate" p) [e] [] pos) (iEnumT X.K ta) := by
  refine ⟨fun pins s σ H R I h => ?_⟩
  refine Call_ (ld_blt I hg hm boot_enumerate (PyProof.Rows.callWith_type1 (thn (ha.run pos pins s σ H _ I h) fun us s1 ⟨vs, H1, I1, r1, q1⟩ => ?_) hs rfl))
  obtain ⟨a, xs, rfl, hq, q⟩ := q1
  cases r1 with
  | cons r rr =>
    cases rr
    cases r
    obtain ⟨its, rv, p', hz⟩ := I1.tuple hq
    have hal : a < s1.heap.objs.size := by obtain ⟨o, ho, _⟩ := id p'; exact Heap.lt_size ho
    refine call_enumT (show s1.heap.IsTuple a its.toArray from p') fun h' he hit hsz hk => wpAny_pyIter_enum he ?_
    have I2 : Inv X pins σ H1 { s1 with heap := h' } := I1.kept (t' := s1.toks) hk
    refine ⟨s1.heap.objs.size + 1, [s1.heap.objs.size + 1, s1.heap.objs.size], _, _, H1, rfl, I2, turn_enumT a (s1.heap.objs.size + 1) s1.heap.objs.size, ⟨⟨.none, he⟩, hit, Nat.succ_ne_self _, Nat.ne_of_lt hal, Nat.ne_of_lt (Nat.lt_succ_of_lt hal)⟩, fun b hb => ?_, q⟩
    have hle : s1.heap.objs.size ≤ b := by
      rcases List.mem_cons.mp hb with z | z
      · rw [z]; exact Nat.le_add_right _ _
      · rw [List.mem_singleton.mp z]; exact Nat.le_refl _
    exact I1.fpOk hle (I1.hok.fresh hle)
end Gx
set_option Elab.async false
set_option linter.all false
set_option maxRecDepth 100000
set_option maxHeartbeats 4000000
namespace Gx
open PySem PySem.Spec PyProof.Rows L2 GenW RZ

/-! ### turns by a bound -/
theorem by_n {J : It} {g : TG} {tt : TT} {te : TE} {vs : List Nat} {σ : L2.St} {K : GK} {H2 : Hp} (n : Nat) (Pv : Nat → List V → Hp → Prop) (h0 : Pv 0 [] H2) (hgo : ∀ i ys H, i < n → Pv i ys H → J.go i H) (hstop : ∀ ys H, Pv n ys H → J.stop n H)
    (hs : ∀ i ys H x H', i < n → Pv i ys H → J.yld i H x H' → g x (wipe σ vs) H' fun σ2 H2 => wipe σ2 vs = wipe σ vs ∧ tt σ2 H2 fun b H3 =>
      if b = true then te σ2 H3 fun y H4 => K.mid ys y H4 ∧ (K.go y → Pv (i + 1) (ys ++ [y]) H4) else Pv (i + 1) ys H3) (hd : ∀ ys H, Pv n ys H → K.done ys H) :
    ∃ W : Nat → Nat → List V → Hp → Prop, (∃ m, W 0 m [] H2) ∧ Turns J g tt te vs σ K W := by
  refine ⟨fun i m ys H => m = n - i ∧ i ≤ n ∧ Pv i ys H, ⟨n, rfl, Nat.zero_le _, h0⟩, ?_⟩
  rintro i m ys H ⟨rfl, hi, p⟩
  by_cases hlt : i < n
  · exact .inr ⟨hgo i ys H hlt p, by omega, Pv (i + 1), fun ys' H' p' => ⟨n - (i + 1), by omega, rfl, hlt, p'⟩, fun x H' y => hs i ys H x H' hlt p y⟩
  · have e : i = n := by omega
    subst e
    exact .inl ⟨hstop ys H p, hd ys H p⟩
theorem by_tup {Kf : PySem.W.Frag} {a : Addr} {xs : List V} {g : TG} {tt : TT} {te : TE} {vs : List Nat} {σ : L2.St} {K : GK} {H2 : Hp} (Pv : Nat → List V → Hp → Prop) (h0 : Pv 0 [] H2) (hl : ∀ i ys H, Pv i ys H → SqT Kf H a xs)
    (hs : ∀ i x ys H, xs[i]? = some x → Pv i ys H → g x (wipe σ vs) H fun σ2 H2 => wipe σ2 vs = wipe σ vs ∧ tt σ2 H2 fun b H3 =>
      if b = true then te σ2 H3 fun y H4 => K.mid ys y H4 ∧ (K.go y → Pv (i + 1) (ys ++ [y]) H4) else Pv (i + 1) ys H3) (hd : ∀ ys H, Pv xs.length ys H → K.done ys H) :
    ∃ W : Nat → Nat → List V → Hp → Prop, (∃ m, W 0 m [] H2) ∧ Turns (Itt Kf a) g tt te vs σ K W :=
  by_n xs.length Pv h0 (fun i ys H hi p => ⟨xs, xs[i], hl i ys H p, List.getElem?_eq_getElem hi⟩) (fun ys H p => ⟨xs, hl _ ys H p, Nat.le_refl _⟩)
    (fun i ys H x H' hi p y => by obtain ⟨rfl, f⟩ := y; exact hs i x ys _ (f xs (hl i ys _ p)) p) hd
theorem by_list {Kf : PySem.W.Frag} {a : Addr} {xs : List V} {g : TG} {tt : TT} {te : TE} {vs : List Nat} {σ : L2.St} {K : GK} {H2 : Hp} (Pv : Nat → List V → Hp → Prop) (h0 : Pv 0 [] H2) (hl : ∀ i ys H, Pv i ys H → SqL Kf H a xs)
    (hs : ∀ i x ys H, xs[i]? = some x → Pv i ys H → g x (wipe σ vs) H fun σ2 H2 => wipe σ2 vs = wipe σ vs ∧ tt σ2 H2 fun b H3 =>
      if b = true then te σ2 H3 fun y H4 => K.mid ys y H4 ∧ (K.go y → Pv (i + 1) (ys ++ [y]) H4) else Pv (i + 1) ys H3) (hd : ∀ ys H, Pv xs.length ys H → K.done ys H) :
    ∃ W : Nat → Nat → List V → Hp → Prop, (∃ m, W 0 m [] H2) ∧ Turns (Itl Kf a) g tt te vs σ K W :=
  by_n xs.length Pv h0 (fun i ys H hi p => ⟨xs, xs[i], hl i ys H p, List.getElem?_eq_getElem hi⟩) (fun ys H p => ⟨xs, hl _ ys H p, Nat.le_refl _⟩)
    (fun i ys H x H' hi p y => by obtain ⟨rfl, f⟩ := y; exact hs i x ys _ (f xs (hl i ys _ p)) p) hd
theorem by_enumT {Kf : PySem.W.Frag} {a : Addr} {xs : List V} {g : TG} {tt : TT} {te : TE} {vs : List Nat} {σ : L2.St} {K : GK} {H2 : Hp} (Pv : Nat → List V → Hp → Prop) (h0 : Pv 0 [] H2) (hl : ∀ i ys H, Pv i ys H → SqT Kf H a xs)
    (hs : ∀ i x T ys H, xs[i]? = some x → Pv i ys H → H T = none → g (.ref T) (wipe σ vs) (upd H T (.tup [.int (i : Nat), x])) fun σ2 H2 => wipe σ2 vs = wipe σ vs ∧ tt σ2 H2 fun b H3 =>
      if b = true then te σ2 H3 fun y H4 => K.mid ys y H4 ∧ (K.go y → Pv (i + 1) (ys ++ [y]) H4) else Pv (i + 1) ys H3) (hd : ∀ ys H, Pv xs.length ys H → K.done ys H) :
    ∃ W : Nat → Nat → List V → Hp → Prop, (∃ m, W 0 m [] H2) ∧ Turns (IteT Kf a) g tt te vs σ K W :=
  by_n xs.length Pv h0 (fun i ys H hi p => ⟨xs, xs[i], hl i ys H p, List.getElem?_eq_getElem hi⟩) (fun ys H p => ⟨xs, hl _ ys H p, Nat.le_refl _⟩)
    (fun i ys H v H' hi p y => by obtain ⟨T, x, rfl, hT, rfl, f⟩ := y; exact hs i x T ys _ (f xs (hl i ys _ p)) p hT) hd
theorem by_zipT {Kf : PySem.W.Frag} {a b : Addr} {xs zs : List V} {g : TG} {tt : TT} {te : TE} {vs : List Nat} {σ : L2.St} {K : GK} {H2 : Hp} (he : xs.length = zs.length) (Pv : Nat → List V → Hp → Prop) (h0 : Pv 0 [] H2) (hl : ∀ i ys H, Pv i ys H → SqT Kf H a xs ∧ SqT Kf H b zs)
    (hs : ∀ i x z T ys H, xs[i]? = some x → zs[i]? = some z → Pv i ys H → H T = none → g (.ref T) (wipe σ vs) (upd H T (.tup [x, z])) fun σ2 H2 => wipe σ2 vs = wipe σ vs ∧ tt σ2 H2 fun b H3 =>
      if b = true then te σ2 H3 fun y H4 => K.mid ys y H4 ∧ (K.go y → Pv (i + 1) (ys ++ [y]) H4) else Pv (i + 1) ys H3) (hd : ∀ ys H, Pv xs.length ys H → K.done ys H) :
    ∃ W : Nat → Nat → List V → Hp → Prop, (∃ m, W 0 m [] H2) ∧ Turns (ItzT Kf a b) g tt te vs σ K W :=
  by_n xs.length Pv h0 (fun i ys H hi p => ⟨xs, zs, xs[i], zs[i]'(by omega), (hl i ys H p).1, (hl i ys H p).2, List.getElem?_eq_getElem hi, List.getElem?_eq_getElem (by omega)⟩) (fun ys H p => ⟨xs, zs, (hl _ ys H p).1, (hl _ ys H p).2, .inl (Nat.le_refl _)⟩)
    (fun i ys H v H' hi p y => by obtain ⟨T, x, z, rfl, hT, rfl, f1, f2⟩ := y; exact hs i x z T ys _ (f1 xs (hl i ys _ p).1) (f2 zs (hl i ys _ p).2) p hT) hd

/-! ### heaps that went on: c the lists that may have changed -/
structure Ext (c : List Addr) (H H' : Hp) : Prop where
  keep : ∀ b o, H b = some o → (∀ ps, o ≠ .tbl ps) → b ∉ c → H' b = some o
  tup : ∀ b xs, H b = some (.tup xs) → H' b = some (.tup xs)
  frz : ∀ b u o, H b = some (.frz u o) → H' b = some (.frz u o)
  tab : ∀ P, GxR.TabG H P → GxR.TabG H' P
  dom : ∀ b, H' b = none → H b = none
namespace Ext
variable {c c' : List Addr} {H H1 H2 : Hp} {a p P : Addr} {K : PySem.W.Frag} {xs : List V}
theorem refl : Ext c H H := ⟨fun _ _ h _ _ => h, fun _ _ h => h, fun _ _ _ h => h, fun _ h => h, fun _ h => h⟩
theorem trans (x : Ext c H H1) (y : Ext c H1 H2) : Ext c H H2 :=
  ⟨fun b o h n hb => y.keep b o (x.keep b o h n hb) n hb, fun b xs h => y.tup b xs (x.tup b xs h), fun b u o h => y.frz b u o (x.frz b u o h), fun P h => y.tab P (x.tab P h), fun b h => x.dom b (y.dom b h)⟩
theorem mono (x : Ext c H H1) (h : ∀ b ∈ c, b ∈ c') : Ext c' H H1 := ⟨fun b o e n hb => x.keep b o e n fun z => hb (h b z), x.tup, x.frz, x.tab, x.dom⟩
theorem more (x : Ext [] H H1) : Ext c H H1 := x.mono fun _ h => by cases h
theorem new {o : HO} (h : H p = none) : Ext c H (upd H p o) :=
  ⟨fun b u e _ _ => by rw [upd_ne (ne_of_none e h)]; exact e, fun b u e => by rw [upd_ne (ne_of_none e h)]; exact e, fun b u o e => by rw [upd_ne (ne_of_none e h)]; exact e,
    fun P ⟨ps, e, t⟩ => ⟨ps, by rw [upd_ne (ne_of_none e h)]; exact e, t⟩, fun b e => by
      by_cases hb : b = p
      · rw [hb]; exact h
      · rw [upd_ne hb] at e; exact e⟩
theorem set {xs ys : List V} (hp : p ∈ c) (h : H p = some (.lst xs)) : Ext c H (upd H p (.lst ys)) := by
  have ne : ∀ {b : Addr} {u : HO}, H b = some u → (∀ xs, u ≠ .lst xs) → b ≠ p := fun {b u} e n z => by rw [z, h] at e; exact n xs (Option.some.inj e).symm
  refine ⟨fun b u e _ hb => ?_, fun b u e => ?_, fun b u o e => ?_, fun P ⟨ps, e, t⟩ => ⟨ps, ?_, t⟩, fun b e => ?_⟩
  · rw [upd_ne (fun z => hb (by rw [z]; exact hp))]; exact e
  · rw [upd_ne (ne e fun _ z => by cases z)]; exact e
  · rw [upd_ne (ne e fun _ z => by cases z)]; exact e
  · rw [upd_ne (ne e fun _ z => by cases z)]; exact e
  · by_cases hb : b = p
    · rw [hb, upd_same] at e; cases e
    · rw [upd_ne hb] at e; exact e
/-- a list that was made since may be written -/
theorem own {xs ys : List V} (x : Ext c H H1) (h0 : H p = none) (h1 : H1 p = some (.lst xs)) : Ext c H (upd H1 p (.lst ys)) := by
  have ne : ∀ {b : Addr} {u : HO}, H b = some u → b ≠ p := fun {b u} e => ne_of_none e h0
  refine ⟨fun b u e n hb => by rw [upd_ne (ne e)]; exact x.keep b u e n hb, fun b u e => by rw [upd_ne (ne e)]; exact x.tup b u e, fun b u o e => by rw [upd_ne (ne e)]; exact x.frz b u o e, fun P h => ?_, fun b e => ?_⟩
  · obtain ⟨ps, e, t⟩ := x.tab P h
    obtain ⟨_, e2, _⟩ := h
    exact ⟨ps, by rw [upd_ne (ne e2)]; exact e, t⟩
  · by_cases hb : b = p
    · rw [hb, upd_same] at e; cases e
    · rw [upd_ne hb] at e; exact x.dom b e
theorem tabbed (h : GxR.TabG H P) (t : GxR.Tabbed P H H1) : Ext c H H1 := by
  obtain ⟨ps, e0, t0⟩ := h
  obtain ⟨⟨ps', e1, t1⟩, k⟩ := t
  have ne : ∀ {b : Addr} {u : HO}, H b = some u → (∀ q, u ≠ .tbl q) → b ≠ P := fun {b u} e n z => by rw [z, e0] at e; exact n ps (Option.some.inj e).symm
  refine ⟨fun b u e n _ => by rw [k b (ne e n)]; exact e, fun b u e => by rw [k b (ne e fun _ z => by cases z)]; exact e, fun b u o e => by rw [k b (ne e fun _ z => by cases z)]; exact e, fun Q h => ?_, fun b e => ?_⟩
  · by_cases hQ : Q = P
    · rw [hQ]; exact ⟨ps', e1, t1⟩
    · obtain ⟨qs, e, t⟩ := h
      exact ⟨qs, by rw [k Q hQ]; exact e, t⟩
  · by_cases hb : b = P
    · rw [hb, e1] at e; cases e
    · rw [k b hb] at e; exact e
theorem sqT (x : Ext c H H1) (h : SqT K H a xs) : SqT K H1 a xs := by
  rcases h with h | h
  · rcases h with h | ⟨u, h⟩
    · exact .inl (.inl (x.tup _ _ h))
    · exact .inl (.inr ⟨u, x.frz _ _ _ h⟩)
  · exact .inr h
theorem sqL (x : Ext c H H1) (h : SqL K H a xs) (ha : a ∉ c) : SqL K H1 a xs := by
  rcases h with h | h
  · rcases h with h | ⟨u, h⟩
    · exact .inl (.inl (x.keep _ _ h (fun _ z => by cases z) ha))
    · exact .inl (.inr ⟨u, x.frz _ _ _ h⟩)
  · exact .inr h
theorem lst (x : Ext c H H1) (h : H a = some (.lst xs)) (ha : a ∉ c) : H1 a = some (.lst xs) := x.keep _ _ h (fun _ z => by cases z) ha
end Ext

/-! ### nets in the heap -/
abbrev Rd3 := Nat × Nat × Int
def RdAt (K : PySem.W.Frag) (H : Hp) (v : V) (r : Rd3) : Prop := ∃ p, v = .ref p ∧ SqT K H p [.int r.1, .int r.2.1, .int r.2.2]
def RdsAt (K : PySem.W.Frag) (H : Hp) (p : Addr) (rs : List Rd3) : Prop := ∃ vs, SqT K H p vs ∧ vs.length = rs.length ∧ ∀ (i : Nat) (r : Rd3), rs[i]? = some r → ∃ v, vs[i]? = some v ∧ RdAt K H v r
def NetAt (K : PySem.W.Frag) (H : Hp) (p : Addr) (ms : List Str) (rs : List Rd3) : Prop := ∃ mp rp, SqT K H p [.str "net", .ref mp, .ref rp] ∧ SqT K H mp (ms.map V.str) ∧ RdsAt K H rp rs
section
variable {K : PySem.W.Frag} {H H1 : Hp} {c : List Addr}
theorem RdAt.ext {v : V} {r : Rd3} (h : RdAt K H v r) (x : Ext c H H1) : RdAt K H1 v r := let ⟨p, e, q⟩ := h; ⟨p, e, x.sqT q⟩
theorem RdsAt.ext {p : Addr} {rs : List Rd3} (h : RdsAt K H p rs) (x : Ext c H H1) : RdsAt K H1 p rs := let ⟨vs, q, l, f⟩ := h; ⟨vs, x.sqT q, l, fun i r e => let ⟨v, e1, e2⟩ := f i r e; ⟨v, e1, e2.ext x⟩⟩
theorem NetAt.ext {p : Addr} {ms : List Str} {rs : List Rd3} (h : NetAt K H p ms rs) (x : Ext c H H1) : NetAt K H1 p ms rs := let ⟨mp, rp, q1, q2, q3⟩ := h; ⟨mp, rp, x.sqT q1, x.sqT q2, q3.ext x⟩
end
/-- the readings go between n marks -/
def Good (n : Nat) (rs : List Rd3) : Prop := ∀ r ∈ rs, r.1 < n ∧ r.2.1 < n ∧ r.1 ≠ r.2.1
def missR (hs : List Int) (r : Rd3) : Int := r.2.2 - hs.getD r.2.1 0 + hs.getD r.1 0
theorem snoc {α β : Type} (f : α → β) (l : List α) {i : Nat} (h : i < l.length) : (l.take i).map f ++ [f l[i]] = (l.take (i + 1)).map f := by
  rw [List.take_add_one, List.getElem?_eq_getElem h, List.map_append]
  rfl
theorem ints_snoc {α : Type} (f : α → Int) (l : List α) {i : Nat} (h : i < l.length) : ((l.take i).map f).map V.int ++ [.int (f l[i])] = ((l.take (i + 1)).map f).map V.int := by
  rw [← snoc f l h, List.map_append]
  rfl
theorem ints_at {hs : List Int} {i : Nat} (h : i < hs.length) : (hs.map V.int)[i]? = some (.int (hs.getD i 0)) := by
  rw [List.getElem?_map, List.getElem?_eq_getElem h, List.getD_eq_getElem?_getD, List.getElem?_eq_getElem h]
  rfl
/-! ### xs[i] for xs[i] op= e -/
def rGetL (K : PySem.W.Frag) : V → V → Hp → VK → Prop := fun x y H Q => ∃ p xs i v, x = .ref p ∧ y = .int (i : Nat) ∧ SqL K H p xs ∧ xs[i]? = some v ∧ Q v H
theorem get_list {X : Cx} : PGet X (rGetL X.K) := by
  intro pins s σ H o i ov iv Q I ro ri h
  obtain ⟨p, xs, j, v, rfl, rfl, hq, hv, q⟩ := h
  cases ro
  obtain ⟨t, rfl⟩ := ri
  obtain ⟨its, r, pl, hz⟩ := I.list hq
  obtain ⟨u, hu, ru⟩ := r.get hv
  have hj : j < xs.length := (List.getElem?_eq_some_iff.mp hv).1
  have hn := line63
  exact wpAny_getItem_list pl.isList (Int.natCast_nonneg _) (by omega) (x := u) (by simpa using hu) ⟨v, H, I, ru, q⟩
theorem ixN_nat {n i : Nat} (h : i < n) : ixN n (i : Int) = some i := by
  unfold ixN
  rw [if_pos (Int.natCast_nonneg _), if_pos (by omega)]
  rfl

/-! ### sums -/
theorem sumV_ints (ns : List Int) : sumV (ns.map V.int) = ns.sum := by
  unfold sumV
  rw [List.map_map]
  congr 1
  exact List.map_id' ns
theorem sum_bound {B : Int} (hB : 0 ≤ B) : ∀ l : List Int, (∀ x ∈ l, -B ≤ x ∧ x ≤ B) → -(l.length * B) ≤ l.sum ∧ l.sum ≤ l.length * B
  | [], _ => by simp
  | x :: r, h => by
    have ih := sum_bound hB r fun y hy => h y (List.mem_cons_of_mem _ hy)
    have hx := h x List.mem_cons_self
    have e : ((x :: r).length : Int) * B = r.length * B + B := by
      rw [List.length_cons]
      push_cast
      rw [Int.add_mul, Int.one_mul]
    rw [List.sum_cons, e]
    omega
/-- small sums of at most 1,000 numbers below 2 ^ 50 -/
theorem sum_long {l : List Int} (hl : l.length ≤ 1000) (h : ∀ x ∈ l, -(2 ^ 50) ≤ x ∧ x ≤ 2 ^ 50) : InLong l.sum := by
  have hb := sum_bound (B := 2 ^ 50) (by decide) l h
  have e : (l.length : Int) * 2 ^ 50 ≤ 1000 * 2 ^ 50 := Int.mul_le_mul_of_nonneg_right (by omega) (by decide)
  have e2 : (1000 : Int) * 2 ^ 50 < 2 ^ 63 := by decide
  exact ⟨by omega, by omega⟩
/-- the sum of the items so far, for sum -/
theorem mid_long {α : Type} (f : α → Int) (l : List α) {i : Nat} (hl : l.length ≤ 1000) (h : ∀ x ∈ l, -(2 ^ 50) ≤ f x ∧ f x ≤ 2 ^ 50) (hi : i < l.length) : InLong (f l[i]) ∧ InLong (sumV (((l.take i).map f).map V.int) + f l[i]) := by
  have hx := h l[i] (List.getElem_mem hi)
  refine ⟨⟨by omega, by omega⟩, ?_⟩
  have e : sumV (((l.take i).map f).map V.int) + f l[i] = ((l.take (i + 1)).map f).sum := by
    rw [sumV_ints, ← snoc f l hi, List.sum_append]
    simp
  rw [e]
  refine sum_long ?_ fun x hx => ?_
  · rw [List.length_map, List.length_take]
    omega
  · obtain ⟨y, hy, rfl⟩ := List.mem_map.mp hx
    exact h y (List.mem_of_mem_take hy)
end Gx
set_option Elab.async false
set_option linter.all false
set_option maxRecDepth 100000
set_option maxHeartbeats 4000000
namespace Gx
open PySem PySem.Spec PyProof.Rows L2 RZ
/-! ### data in the heap whose lists are none of c -/
mutual
def DQ (c : List Addr) (K : PySem.W.Frag) (H : Hp) : PyData → V → Prop
  | .none, v => v = .non
  | .bool b, v => v = .bl b
  | .int i, v => v = .int i
  | .str x, v => v = .str x
  | .list ds, v => ∃ a xs, v = .ref a ∧ a ∉ c ∧ SqL K H a xs ∧ DQs c K H ds xs
  | .tuple ds, v => ∃ a xs, v = .ref a ∧ SqT K H a xs ∧ DQs c K H ds xs
  | .dict _, _ => False
def DQs (c : List Addr) (K : PySem.W.Frag) (H : Hp) : List PyData → List V → Prop
  | [], xs => xs = []
  | d :: ds, xs => ∃ v vs, xs = v :: vs ∧ DQ c K H d v ∧ DQs c K H ds vs
end
section
variable {c : List Addr} {K : PySem.W.Frag} {H H' : Hp}
mutual
theorem DQ.ext (x : Ext c H H') : ∀ (d : PyData) (v : V), DQ c K H d v → DQ c K H' d v
  | .none, _, h => h
  | .bool _, _, h => h
  | .int _, _, h => h
  | .str _, _, h => h
  | .list ds, v, h => by
    rw [DQ] at h ⊢
    obtain ⟨a, xs, e, hc, hs, hq⟩ := h
    exact ⟨a, xs, e, hc, x.sqL hs hc, DQs.ext x ds xs hq⟩
  | .tuple ds, v, h => by
    rw [DQ] at h ⊢
    obtain ⟨a, xs, e, hs, hq⟩ := h
    exact ⟨a, xs, e, x.sqT hs, DQs.ext x ds xs hq⟩
  | .dict _, _, h => by rw [DQ] at h; exact h.elim
theorem DQs.ext (x : Ext c H H') : ∀ (ds : List PyData) (xs : List V), DQs c K H ds xs → DQs c K H' ds xs
  | [], _, h => by
    rw [DQs] at h ⊢
    exact h
  | d :: ds, xs, h => by
    rw [DQs] at h ⊢
    obtain ⟨v, vs, e, h1, h2⟩ := h
    exact ⟨v, vs, e, DQ.ext x d v h1, DQs.ext x ds vs h2⟩
end
mutual
theorem DQ.sub {c' : List Addr} (hs : ∀ a ∈ c', a ∈ c) : ∀ (d : PyData) (v : V), DQ c K H d v → DQ c' K H d v
  | .none, _, h => h
  | .bool _, _, h => h
  | .int _, _, h => h
  | .str _, _, h => h
  | .list ds, v, h => by
    rw [DQ] at h ⊢
    obtain ⟨a, xs, e, hc, hl, hq⟩ := h
    exact ⟨a, xs, e, fun z => hc (hs _ z), hl, DQs.sub hs ds xs hq⟩
  | .tuple ds, v, h => by
    rw [DQ] at h ⊢
    obtain ⟨a, xs, e, hl, hq⟩ := h
    exact ⟨a, xs, e, hl, DQs.sub hs ds xs hq⟩
  | .dict _, _, h => by rw [DQ] at h; exact h.elim
theorem DQs.sub {c' : List Addr} (hs : ∀ a ∈ c', a ∈ c) : ∀ (ds : List PyData) (xs : List V), DQs c K H ds xs → DQs c' K H ds xs
  | [], _, h => by
    rw [DQs] at h ⊢
    exact h
  | d :: ds, xs, h => by
    rw [DQs] at h ⊢
    obtain ⟨v, vs, e, h1, h2⟩ := h
    exact ⟨v, vs, e, DQ.sub hs d v h1, DQs.sub hs ds vs h2⟩
end
mutual
theorem DQ.dp : ∀ (d : PyData) (v : V), DQ c K H d v → Dp K H v d
  | .none, _, h => by rw [DQ] at h; subst h; exact .non
  | .bool _, _, h => by rw [DQ] at h; subst h; exact .bl _
  | .int _, _, h => by rw [DQ] at h; subst h; exact .int _
  | .str _, _, h => by rw [DQ] at h; subst h; exact .str _
  | .list ds, v, h => by
    rw [DQ] at h
    obtain ⟨a, xs, rfl, _, hl, hq⟩ := h
    exact .lst hl (DQs.dp ds xs hq)
  | .tuple ds, v, h => by
    rw [DQ] at h
    obtain ⟨a, xs, rfl, hl, hq⟩ := h
    exact .tup hl (DQs.dp ds xs hq)
  | .dict _, _, h => by rw [DQ] at h; exact h.elim
theorem DQs.dp : ∀ (ds : List PyData) (xs : List V), DQs c K H ds xs → DpAll K H xs ds
  | [], _, h => by rw [DQs] at h; subst h; exact .nil
  | d :: ds, xs, h => by
    rw [DQs] at h
    obtain ⟨v, vs, rfl, h1, h2⟩ := h
    exact .cons (DQ.dp d v h1) (DQs.dp ds vs h2)
end
theorem DQs.length : ∀ {ds : List PyData} {xs : List V}, DQs c K H ds xs → xs.length = ds.length
  | [], _, h => by rw [DQs] at h; subst h; rfl
  | d :: ds, xs, h => by
    rw [DQs] at h
    obtain ⟨v, vs, rfl, _, h2⟩ := h
    rw [List.length_cons, List.length_cons, DQs.length h2]
theorem DQs.at_ : ∀ {ds : List PyData} {xs : List V} {i : Nat} {v : V}, DQs c K H ds xs → xs[i]? = some v → ∃ d, ds[i]? = some d ∧ DQ c K H d v
  | [], _, i, v, h, e => by rw [DQs] at h; subst h; simp at e
  | d :: ds, xs, i, v, h, e => by
    rw [DQs] at h
    obtain ⟨v0, vs, rfl, h1, h2⟩ := h
    cases i with
    | zero => cases e; exact ⟨d, rfl, h1⟩
    | succ i => exact DQs.at_ (ds := ds) h2 e
theorem DQs.cons {d : PyData} {ds : List PyData} {v : V} {vs : List V} (h1 : DQ c K H d v) (h2 : DQs c K H ds vs) : DQs c K H (d :: ds) (v :: vs) := by
  rw [DQs]
  exact ⟨v, vs, rfl, h1, h2⟩
theorem DQs.nil : DQs c K H [] [] := by rw [DQs]
theorem DQs.app : ∀ {ds es : List PyData} {xs ys : List V}, DQs c K H ds xs → DQs c K H es ys → DQs c K H (ds ++ es) (xs ++ ys)
  | [], _, _, _, h, k => by rw [DQs] at h; subst h; exact k
  | d :: ds, es, xs, ys, h, k => by
    rw [DQs] at h
    obtain ⟨v, vs, rfl, h1, h2⟩ := h
    exact DQs.cons h1 (DQs.app h2 k)
theorem DQ.tup {a : Addr} {xs : List V} {ds : List PyData} (h : SqT K H a xs) (k : DQs c K H ds xs) : DQ c K H (.tuple ds) (.ref a) := by
  rw [DQ]
  exact ⟨a, xs, rfl, h, k⟩
theorem DQ.lst {a : Addr} {xs : List V} {ds : List PyData} (hc : a ∉ c) (h : SqL K H a xs) (k : DQs c K H ds xs) : DQ c K H (.list ds) (.ref a) := by
  rw [DQ]
  exact ⟨a, xs, rfl, hc, h, k⟩
theorem DQ.int (i : Int) : DQ c K H (.int i) (.int i) := by rw [DQ]
theorem DQ.bl (b : Bool) : DQ c K H (.bool b) (.bl b) := by rw [DQ]
theorem DQ.str (x : Str) : DQ c K H (.str x) (.str x) := by rw [DQ]
theorem DQ.non : DQ c K H .none .non := by rw [DQ]
theorem DQs.ints : ∀ ns : List Int, DQs c K H (ns.map .int) (ns.map V.int)
  | [] => DQs.nil
  | n :: r => DQs.cons (DQ.int n) (DQs.ints r)
theorem DQs.strs : ∀ ns : List Str, DQs c K H (ns.map .str) (ns.map V.str)
  | [] => DQs.nil
  | n :: r => DQs.cons (DQ.str n) (DQs.strs r)
/-! ### kinds -/
def tyD : PyData → String
  | .none => "NoneType"
  | .bool _ => "bool"
  | .int _ => "int"
  | .str _ => "str"
  | .list _ => "list"
  | .tuple _ => "tuple"
  | .dict _ => "dict"
theorem DQ.ty : ∀ (d : PyData) (v : V), DQ c K H d v → TyX K H v (.type (tyD d))
  | .none, _, h => by rw [DQ] at h; subst h; exact .base .non
  | .bool _, _, h => by rw [DQ] at h; subst h; exact .base (.bl _)
  | .int _, _, h => by rw [DQ] at h; subst h; exact .base (.int _)
  | .str _, _, h => by rw [DQ] at h; subst h; exact .base (.str _)
  | .list ds, v, h => by
    rw [DQ] at h
    obtain ⟨a, xs, rfl, _, hl, hq⟩ := h
    rcases hl with (h | ⟨o, h⟩) | ⟨o, its, n, h, hc, _⟩
    · exact .base (.lst h)
    · exact .base (.frz h)
    · exact .kList h hc
  | .tuple ds, v, h => by
    rw [DQ] at h
    obtain ⟨a, xs, rfl, hl, hq⟩ := h
    rcases hl with (h | ⟨o, h⟩) | ⟨o, its, n, h, hc, _⟩
    · exact .base (.tup h)
    · exact .fTuple h
    · exact .kTuple h hc
  | .dict _, _, h => by rw [DQ] at h; exact h.elim
def isInt : PyData → Bool
  | .int _ => true
  | _ => false
def isBool : PyData → Bool
  | .bool _ => true
  | _ => false
def isStr : PyData → Bool
  | .str _ => true
  | _ => false
def isTup : PyData → Bool
  | .tuple _ => true
  | _ => false
def isDict : PyData → Bool
  | .dict _ => true
  | _ => false
theorem kit_int : ∀ d : PyData, isDict d = false → PySem.W.kitOne K (.type (tyD d)) (.type "int") = some (isInt d || isBool d)
  | .none, _ => kit_ty (a := "NoneType") (b := "int") (r := false) (by decide +kernel)
  | .bool _, _ => kit_ty (a := "bool") (b := "int") (r := true) (by decide +kernel)
  | .int _, _ => kit_ty (a := "int") (b := "int") (r := true) (by decide +kernel)
  | .str _, _ => kit_ty (a := "str") (b := "int") (r := false) (by decide +kernel)
  | .list _, _ => kit_ty (a := "list") (b := "int") (r := false) (by decide +kernel)
  | .tuple _, _ => kit_ty (a := "tuple") (b := "int") (r := false) (by decide +kernel)
  | .dict _, h => by cases h
theorem kit_bool : ∀ d : PyData, isDict d = false → PySem.W.kitOne K (.type (tyD d)) (.type "bool") = some (isBool d)
  | .none, _ => kit_ty (a := "NoneType") (b := "bool") (r := false) (by decide +kernel)
  | .bool _, _ => kit_ty (a := "bool") (b := "bool") (r := true) (by decide +kernel)
  | .int _, _ => kit_ty (a := "int") (b := "bool") (r := false) (by decide +kernel)
  | .str _, _ => kit_ty (a := "str") (b := "bool") (r := false) (by decide +kernel)
  | .list _, _ => kit_ty (a := "list") (b := "bool") (r := false) (by decide +kernel)
  | .tuple _, _ => kit_ty (a := "tuple") (b := "bool") (r := false) (by decide +kernel)
  | .dict _, h => by cases h
theorem kit_str : ∀ d : PyData, isDict d = false → PySem.W.kitOne K (.type (tyD d)) (.type "str") = some (isStr d)
  | .none, _ => kit_ty (a := "NoneType") (b := "str") (r := false) (by decide +kernel)
  | .bool _, _ => kit_ty (a := "bool") (b := "str") (r := false) (by decide +kernel)
  | .int _, _ => kit_ty (a := "int") (b := "str") (r := false) (by decide +kernel)
  | .str _, _ => kit_ty (a := "str") (b := "str") (r := true) (by decide +kernel)
  | .list _, _ => kit_ty (a := "list") (b := "str") (r := false) (by decide +kernel)
  | .tuple _, _ => kit_ty (a := "tuple") (b := "str") (r := false) (by decide +kernel)
  | .dict _, h => by cases h
theorem kit_tup : ∀ d : PyData, isDict d = false → PySem.W.kitOne K (.type (tyD d)) (.type "tuple") = some (isTup d)
  | .none, _ => kit_ty (a := "NoneType") (b := "tuple") (r := false) (by decide +kernel)
  | .bool _, _ => kit_ty (a := "bool") (b := "tuple") (r := false) (by decide +kernel)
  | .int _, _ => kit_ty (a := "int") (b := "tuple") (r := false) (by decide +kernel)
  | .str _, _ => kit_ty (a := "str") (b := "tuple") (r := false) (by decide +kernel)
  | .list _, _ => kit_ty (a := "list") (b := "tuple") (r := false) (by decide +kernel)
  | .tuple _, _ => kit_ty (a := "tuple") (b := "tuple") (r := true) (by decide +kernel)
  | .dict _, h => by cases h
theorem DQ.nodict : ∀ {d : PyData} {v : V}, DQ c K H d v → isDict d = false
  | .dict _, _, h => by rw [DQ] at h; exact h.elim
  | .none, _, _ => rfl
  | .bool _, _, _ => rfl
  | .int _, _, _ => rfl
  | .str _, _, _ => rfl
  | .list _, _, _ => rfl
  | .tuple _, _, _ => rfl
end
end Gx
set_option Elab.async false
set_option linter.all false
set_option maxRecDepth 100000
set_option maxHeartbeats 4000000
namespace Gx
open PySem PySem.Spec PyProof.Rows L2 RZ
/-! ### for loops by a bound, over anything -/
theorem for_n {J : It} {g : TG} {tb : TS} {D : Ends} {σ : L2.St} {H : Hp} (n : Nat) (Pv : Nat → L2.St → Hp → Prop) (h0 : Pv 0 σ H) (hgo : ∀ i σ H, i < n → Pv i σ H → J.go i H) (hstop : ∀ σ H, Pv n σ H → J.stop n H)
    (hs : ∀ i σ H x H', i < n → Pv i σ H → J.yld i H x H' → g x σ H' fun σ2 H2 => tb { D with nx := Pv (i + 1), ct := Pv (i + 1), bk := D.nx } σ2 H2) (hd : ∀ σ H, Pv n σ H → D.nx σ H) :
    ∃ W : Nat → Nat → L2.St → Hp → Prop, (∃ m, W 0 m σ H) ∧ ∀ i m σ H, W i m σ H →
      (J.stop i H ∧ D.nx σ H) ∨ (J.go i H ∧ ∃ N : L2.St → Hp → Prop, (∀ σ' H', N σ' H' → ∃ m', m' < m ∧ W (i + 1) m' σ' H') ∧ ∀ x H', J.yld i H x H' → g x σ H' fun σ2 H2 => tb { D with nx := N, ct := N, bk := D.nx } σ2 H2) := by
  refine ⟨fun i m σ H => m = n - i ∧ i ≤ n ∧ Pv i σ H, ⟨n, rfl, Nat.zero_le _, h0⟩, ?_⟩
  rintro i m σ H ⟨rfl, hi, p⟩
  by_cases hlt : i < n
  · exact .inr ⟨hgo i σ H hlt p, Pv (i + 1), fun σ' H' p' => ⟨n - (i + 1), by omega, rfl, hlt, p'⟩, fun x H' y => hs i σ H x H' hlt p y⟩
  · have e : i = n := by omega
    subst e
    exact .inl ⟨hstop σ H p, hd σ H p⟩
theorem for_enumT {Kf : PySem.W.Frag} {a : Addr} {xs : List V} {g : TG} {tb : TS} {D : Ends} {σ : L2.St} {H : Hp} (Pv : Nat → L2.St → Hp → Prop) (h0 : Pv 0 σ H) (hl : ∀ i σ H, Pv i σ H → SqT Kf H a xs)
    (hs : ∀ i x T σ H, xs[i]? = some x → Pv i σ H → H T = none → g (.ref T) σ (upd H T (.tup [.int (i : Nat), x])) fun σ2 H2 => tb { D with nx := Pv (i + 1), ct := Pv (i + 1), bk := D.nx } σ2 H2) (hd : ∀ σ H, Pv xs.length σ H → D.nx σ H) :
    ∃ W : Nat → Nat → L2.St → Hp → Prop, (∃ m, W 0 m σ H) ∧ ∀ i m σ H, W i m σ H →
      ((IteT Kf a).stop i H ∧ D.nx σ H) ∨ ((IteT Kf a).go i H ∧ ∃ N : L2.St → Hp → Prop, (∀ σ' H', N σ' H' → ∃ m', m' < m ∧ W (i + 1) m' σ' H') ∧ ∀ x H', (IteT Kf a).yld i H x H' → g x σ H' fun σ2 H2 => tb { D with nx := N, ct := N, bk := D.nx } σ2 H2) :=
  for_n xs.length Pv h0 (fun i σ H hi p => ⟨xs, xs[i], hl i σ H p, List.getElem?_eq_getElem hi⟩) (fun σ H p => ⟨xs, hl _ σ H p, Nat.le_refl _⟩)
    (fun i σ H v H' hi p y => by obtain ⟨T, x, rfl, hT, rfl, f⟩ := y; exact hs i x T σ _ (f xs (hl i σ _ p)) p hT) hd
/-! ### steps from the marks -/
abbrev StepM := Nat × Int × Nat
def stepAt (i : Nat) (r : Rd3) (m : Nat) : List StepM := if r.1 = m then [(i, 1, r.2.1)] else if r.2.1 = m then [(i, -1, r.1)] else []
def adjT (rs : List Rd3) : Nat → Nat → List StepM
  | 0, _ => []
  | k + 1, m => adjT rs k m ++ stepAt k (rs.getD k (0, 0, 0)) m
theorem adjT_length (rs : List Rd3) (m : Nat) : ∀ k, (adjT rs k m).length ≤ k
  | 0 => Nat.le_refl _
  | k + 1 => by
    have ih := adjT_length rs m k
    unfold adjT
    rw [List.length_append]
    have : (stepAt k (rs.getD k (0, 0, 0)) m).length ≤ 1 := by
      unfold stepAt
      split
      · exact Nat.le_refl _
      · split
        · exact Nat.le_refl _
        · exact Nat.zero_le _
    omega
def StepsAt (K : PySem.W.Frag) (H : Hp) (a : Addr) (l : List StepM) : Prop := ∃ vs, H a = some (.lst vs) ∧ vs.length = l.length ∧ ∀ (j : Nat) (st : StepM), l[j]? = some st → ∃ t, vs[j]? = some (.ref t) ∧ SqT K H t [.int st.1, .int st.2.1, .int st.2.2]
def NearAt (K : PySem.W.Frag) (H : Hp) (np : Addr) (n : Nat) (adj : Nat → List StepM) : Prop := ∃ ads : List Addr, H np = some (.lst (ads.map V.ref)) ∧ ads.length = n ∧ ∀ m a, ads[m]? = some a → StepsAt K H a (adj m)
section
variable {K : PySem.W.Frag} {H H1 : Hp} {c : List Addr}
theorem StepsAt.ext {a : Addr} {l : List StepM} (h : StepsAt K H a l) (x : Ext c H H1) (ha : a ∉ c) : StepsAt K H1 a l := by
  obtain ⟨vs, h1, h2, h3⟩ := h
  exact ⟨vs, x.lst h1 ha, h2, fun j st e => let ⟨t, e1, e2⟩ := h3 j st e; ⟨t, e1, x.sqT e2⟩⟩
theorem NearAt.ext {np : Addr} {n : Nat} {adj : Nat → List StepM} (h : NearAt K H np n adj) (x : Ext [] H H1) : NearAt K H1 np n adj := by
  obtain ⟨ads, h1, h2, h3⟩ := h
  exact ⟨ads, x.lst h1 (by simp), h2, fun m a e => (h3 m a e).ext x (by simp)⟩
/-- a step more at a -/
theorem StepsAt.push {H0 : Hp} {a t : Addr} {l : List StepM} {vs : List V} {st : StepM} (x : Ext [] H0 H) (h0 : H0 a = none) (h1 : H a = some (.lst vs)) (h2 : vs.length = l.length) (h3 : ∀ (j : Nat) (st : StepM), l[j]? = some st → ∃ t, vs[j]? = some (.ref t) ∧ SqT K H t [.int st.1, .int st.2.1, .int st.2.2])
    (ht : SqT K H t [.int st.1, .int st.2.1, .int st.2.2]) : StepsAt K (upd H a (.lst (vs ++ [.ref t]))) a (l ++ [st]) := by
  have xo : Ext [a] H (upd H a (.lst (vs ++ [.ref t]))) := .set (List.mem_singleton.mpr rfl) h1
  refine ⟨_, upd_same, by rw [List.length_append, List.length_append, h2]; rfl, fun j s e => ?_⟩
  by_cases hj : j < l.length
  · rw [List.getElem?_append_left hj] at e
    obtain ⟨t', e1, e2⟩ := h3 j s e
    exact ⟨t', by rw [List.getElem?_append_left (by omega)]; exact e1, xo.sqT e2⟩
  · rw [List.getElem?_append_right (by omega)] at e
    have hj0 : j - l.length = 0 := by
      cases h : j - l.length with
      | zero => rfl
      | succ k => rw [h] at e; cases e
    rw [hj0] at e
    cases e
    refine ⟨t, ?_, xo.sqT ht⟩
    rw [List.getElem?_append_right (by omega), h2, hj0]
    rfl
end
end Gx
set_option Elab.async false
set_option linter.all false
set_option maxRecDepth 100000
set_option maxHeartbeats 4000000
namespace Gx
open PySem PySem.Spec PyProof.Rows L2 RZ TL
/-! ### set(t) of a tuple of ints -/
def rSetI (K : PySem.W.Frag) (w : World) : List V → Hp → VK → Prop := fun xs H Q => ∃ (a : Addr) (ns : List Int), xs = [.ref a] ∧ SqT K H a (ns.map V.int) ∧ ns.length ≤ 1000 ∧
  ∀ p c, c ≤ ns.length → H p = none → Q (.ref p) (upd H p (SetO w p (fun j => decide (j ∈ ns)) c))
theorem call_setI {X : Cx} (hc : X.calm = true) : CallR X (.type "set") (rSetI X.K X.w) := by
  intro pins s σ H vs us Q I r h
  obtain ⟨a, ns, rfl, hq, hl, q⟩ := h
  obtain ⟨its, rv, pt, hz⟩ := I.tuple hq
  have hi : IntsAre its.toArray.toList ns := ints_of_vals rv
  rw [Vals.ref1 r]
  refine call_set_tupI ns (I.ok.hd hc) (show s.heap.IsTuple a its.toArray from pt) hi (by unfold scanBound; omega) fun h' tk c R1 hcn k => ?_
  have hs : s.heap.objs.size ≤ s.heap.objs.size := Nat.le_refl _
  exact ⟨.ref _, upd H s.heap.objs.size (SetO X.w s.heap.objs.size (fun j => decide (j ∈ ns)) c), I.laid (t' := tk) (fun b u e => k b u e) hs (setO_new R1), rfl, q _ c hcn (I.hok.fresh hs)⟩
/-! ### text * int -/
theorem op_mul_str {X : Cx} : OpR X (binaryOp .Mult) (fun x y H Q => ∃ (z : Str) (k : Int), x = .str z ∧ y = .int k ∧ 0 ≤ k ∧ k ≤ 4000 ∧ z.length ≤ 4000 ∧ Q (.str (Txt.mul z k)) H) := by
  intro pins s σ H x y v u Q I rx ry h
  obtain ⟨z, k, rfl, rfl, h0, h1, h2, q⟩ := h
  obtain ⟨t, rfl⟩ := rx
  obtain ⟨t', rfl⟩ := ry
  exact SB.mul (mulOk_of 4095 4095 (by omega) (by omega) (by omega) (by decide) (by decide)) fun t' k' => ⟨.str (Txt.mul z k), H, I.tok _, ⟨_, rfl⟩, q⟩
theorem foldl_app : ∀ (n : Nat) (acc x : Array Nat), ((List.replicate n x).foldl (· ++ ·) acc).toList = acc.toList ++ (List.replicate n x.toList).flatten
  | 0, acc, x => by simp
  | n + 1, acc, x => by
    rw [List.replicate_succ, List.foldl_cons, foldl_app n (acc ++ x) x, List.replicate_succ, List.flatten_cons, Array.toList_append, List.append_assoc]
theorem flat_one (n c : Nat) : (List.replicate n [c]).flatten = List.replicate n c := by
  induction n with
  | zero => rfl
  | succ n ih => rw [List.replicate_succ, List.flatten_cons, ih, List.replicate_succ]; rfl
/-- so many spaces -/
theorem tl_mul_space (n : Nat) : tl (Txt.mul " " (n : Int)) = List.replicate n 32 := by
  unfold Txt.mul
  split
  · have : n = 0 := by omega
    subst this
    rfl
  · split
    · rename_i h
      have h2 : n = 1 := by
        rcases Bool.or_eq_true _ _ |>.mp h with e | e
        · have := eq_of_beq e; omega
        · exact absurd e (by decide)
      subst h2
      rfl
    · show ((List.replicate (n : Int).toNat (" " : Str).cps).foldl (· ++ ·) #[]).toList = _
      rw [foldl_app, Int.toNat_natCast]
      show [] ++ (List.replicate n [32]).flatten = _
      rw [List.nil_append, flat_one]
theorem tl_len (x : Str) : (tl x).length = x.length := by
  show x.cps.toList.length = x.cps.size
  simp
/-! ### x.rjust(n) -/
theorem tl_rjust (x : Str) (n : Nat) : tl (Txt.rjust x (n : Int)) = List.replicate (n - x.length) 32 ++ tl x := by
  unfold Txt.rjust
  split
  · rename_i h
    have e : n - x.length = 0 := by omega
    rw [e]
    rfl
  · show (Array.replicate ((n : Int).toNat - x.length) 32 ++ x.cps ++ Array.replicate 0 32).toList = _
    rw [Int.toNat_natCast]
    simp
theorem joinL_flat (S : List Nat) : ∀ (p : List Nat) (ps : List (List Nat)), joinL S (p :: ps) = p ++ (ps.map (S ++ ·)).flatten
  | p, [] => by simp [joinL]
  | p, q :: r => by
    show p ++ (S ++ joinL S (q :: r)) = _
    rw [joinL_flat S q r, List.map_cons, List.flatten_cons, List.append_assoc]
theorem joinL_nil : ∀ (ps : List (List Nat)), joinL [] ps = ps.flatten
  | [] => rfl
  | p :: ps => by
    rw [joinL_flat]
    simp
theorem tl_inj {x y : Str} (h : tl x = tl y) : x = y := ext_tl h
/-! ### zip of lists of unlike lengths -/
theorem for_zipN {K : PySem.W.Frag} {a b : Addr} {xs ys : List V} {g : TG} {tb : TS} {D : Ends} {σ : L2.St} {H : Hp} (n : Nat) (hn : n ≤ xs.length) (hn2 : n ≤ ys.length) (he : xs.length ≤ n ∨ ys.length ≤ n) (Pv : Nat → L2.St → Hp → Prop) (h0 : Pv 0 σ H) (hq : ∀ i σ H, Pv i σ H → SqL K H a xs ∧ SqL K H b ys)
    (hs : ∀ (i : Nat) (x y : V) (T : Addr) (σ : L2.St) (H : Hp), xs[i]? = some x → ys[i]? = some y → Pv i σ H → H T = none → g (.ref T) σ (upd H T (.tup [x, y])) fun σ2 H2 => tb { D with nx := Pv (i + 1), ct := Pv (i + 1), bk := D.nx } σ2 H2) (hd : ∀ σ H, Pv n σ H → D.nx σ H) :
    ∃ W : Nat → Nat → L2.St → Hp → Prop, (∃ m, W 0 m σ H) ∧ ∀ i m σ H, W i m σ H →
      ((Itz K a b).stop i H ∧ D.nx σ H) ∨ ((Itz K a b).go i H ∧ ∃ N : L2.St → Hp → Prop, (∀ σ' H', N σ' H' → ∃ m', m' < m ∧ W (i + 1) m' σ' H') ∧ ∀ v H', (Itz K a b).yld i H v H' → g v σ H' fun σ2 H2 => tb { D with nx := N, ct := N, bk := D.nx } σ2 H2) := by
  refine ⟨fun i m σ H => m = n - i ∧ i ≤ n ∧ Pv i σ H, ⟨n, rfl, Nat.zero_le _, h0⟩, ?_⟩
  rintro i m σ H ⟨rfl, hi, p⟩
  obtain ⟨qx, qy⟩ := hq i σ H p
  by_cases hlt : i < n
  · have l1 : i < xs.length := by omega
    have l2 : i < ys.length := by omega
    have hx : xs[i]? = some xs[i] := List.getElem?_eq_getElem l1
    have hy : ys[i]? = some ys[i] := List.getElem?_eq_getElem l2
    refine .inr ⟨⟨xs, ys, _, _, qx, qy, hx, hy⟩, Pv (i + 1), fun σ' H' p' => ⟨n - (i + 1), by omega, rfl, hlt, p'⟩, fun v H' y => ?_⟩
    obtain ⟨T, x', y', rfl, hT, rfl, f1, f2⟩ := y
    exact hs i x' y' T σ H (f1 xs qx) (f2 ys qy) p hT
  · have e : i = n := by omega
    subst e
    exact .inl ⟨⟨xs, ys, qx, qy, he⟩, hd σ H p⟩
/-! ### a comprehension over zip of two tuples -/
theorem lc_zipT {K : PySem.W.Frag} {a b : Addr} {xs zs : List V} {g : TG} {tt : TT} {te : TE} {vs : List Nat} {σ : L2.St} {H1 : Hp} {D : Addr} {Qd : Hp → Prop} (he : xs.length = zs.length) (Pv : Nat → Hp → Prop) (h0 : Pv 0 (upd H1 D (.lst []))) (hl : ∀ i H, Pv i H → SqT K H a xs ∧ SqT K H b zs)
    (hs : ∀ i x z T H, xs[i]? = some x → zs[i]? = some z → Pv i H → H T = none → g (.ref T) (wipe σ vs) (upd H T (.tup [x, z])) fun σ2 H2 => wipe σ2 vs = wipe σ vs ∧ tt σ2 H2 fun b H3 =>
      if b = true then te σ2 H3 fun y H4 => ∃ acc, H4 D = some (.lst acc) ∧ acc.length < sizeLine ∧ Pv (i + 1) (upd H4 D (.lst (acc ++ [y]))) else Pv (i + 1) H3) (hd : ∀ H, Pv xs.length H → Qd H) :
    ∃ W : Nat → Nat → Hp → Prop, (∃ m, W 0 m (upd H1 D (.lst []))) ∧ ∀ i m H, W i m H →
      ((ItzT K a b).stop i H ∧ Qd H) ∨ ((ItzT K a b).go i H ∧ ∃ Nx : Hp → Prop, (∀ H', Nx H' → ∃ m', m' < m ∧ W (i + 1) m' H') ∧ ∀ x H', (ItzT K a b).yld i H x H' → g x (wipe σ vs) H' fun σ2 H2 => wipe σ2 vs = wipe σ vs ∧ tt σ2 H2 fun b H3 =>
        if b = true then te σ2 H3 fun y H4 => ∃ acc, H4 D = some (.lst acc) ∧ acc.length < sizeLine ∧ Nx (upd H4 D (.lst (acc ++ [y]))) else Nx H3) := by
  refine ⟨fun i m H => m = xs.length - i ∧ i ≤ xs.length ∧ Pv i H, ⟨xs.length, by simp, Nat.zero_le _, h0⟩, ?_⟩
  rintro i m H ⟨rfl, hi, p⟩
  obtain ⟨qx, qz⟩ := hl i H p
  by_cases hlt : i < xs.length
  · have hz2 : i < zs.length := by omega
    refine .inr ⟨⟨xs, zs, xs[i], zs[i], qx, qz, List.getElem?_eq_getElem hlt, List.getElem?_eq_getElem hz2⟩, Pv (i + 1), fun H' p' => ⟨xs.length - (i + 1), by omega, rfl, hlt, p'⟩, fun x H' y => ?_⟩
    obtain ⟨T, x', y', rfl, hT, rfl, f1, f2⟩ := y
    exact hs i x' y' T H (f1 xs qx) (f2 zs qz) p hT
  · have e : i = xs.length := by omega
    subst e
    exact .inl ⟨⟨xs, zs, qx, qz, .inl (Nat.le_refl _)⟩, hd H p⟩
end Gx
set_option Elab.async false
set_option linter.all false
set_option maxRecDepth 100000
set_option maxHeartbeats 4000000
namespace Gx
open PySem PySem.Spec PyProof.Rows L2 RZ
section
variable {P : Program} {w : World} {K : PySem.W.Frag} {mg : Str → Option Value} {base : Heap}
theorem catA_by {H : Hp} {a b : Addr} {xs ys : List V} {Q : VK} (ha : SqT K H a xs) (hb : SqT K H b ys) (hl : xs.length + ys.length ≤ sizeLine) (q : ∀ p H', Ext [] H H' → SqT K H' p (xs ++ ys) → Q (.ref p) H') : rCatA K (.ref a) (.ref b) H Q := by
  refine ⟨a, b, xs, ys, rfl, rfl, ha, hb, hl, fun e => ?_, fun _ e => ?_, fun _ _ p hp => q p _ (.new hp) (.inl (.inl upd_same))⟩
  · subst e
    exact q b H .refl hb
  · subst e
    exact q a H .refl (by rw [List.append_nil]; exact ha)
theorem slA_by {H : Hp} {a : Addr} {xs : List V} {lo hi : Option Int} {Q : VK} (ha : SqT K H a xs) (q : ∀ p H', Ext [] H H' → SqT K H' p (cutV xs lo hi) → Q (.ref p) H') : rSlA K (.ref a) lo hi H Q := by
  refine ⟨a, xs, rfl, ha, fun e => ?_, fun _ p hp => q p _ (.new hp) (.inl (.inl upd_same))⟩
  refine q a H .refl ?_
  have : cutV xs lo hi = xs := by
    unfold cutV
    rw [e.1, e.2, Nat.sub_zero, List.drop_zero, List.take_length]
  rw [this]
  exact ha
theorem pr_app {α β : Type} {F : α → β → Prop} : ∀ {a : List α} {b : List β} {c : List α} {d : List β}, Paired F a b → Paired F c d → Paired F (a ++ c) (b ++ d)
  | _, _, _, _, .nil, h => h
  | _, _, _, _, .cons x t, h => .cons x (pr_app t h)
theorem pr_take {α β : Type} {F : α → β → Prop} : ∀ {a : List α} {b : List β} (n : Nat), Paired F a b → Paired F (a.take n) (b.take n)
  | _, _, 0, _ => by simpa using Paired.nil
  | _, _, n + 1, .nil => .nil
  | _, _, n + 1, .cons x t => .cons x (pr_take n t)
theorem pr_drop {α β : Type} {F : α → β → Prop} : ∀ {a : List α} {b : List β} (n : Nat), Paired F a b → Paired F (a.drop n) (b.drop n)
  | _, _, 0, h => by simpa using h
  | _, _, n + 1, .nil => .nil
  | _, _, n + 1, .cons _ t => pr_drop n t
theorem pr_at {α β : Type} {F : α → β → Prop} : ∀ {a : List α} {b : List β}, Paired F a b → ∀ (i : Nat) (y : β), b[i]? = some y → ∃ x, a[i]? = some x ∧ F x y
  | _, _, .nil, i, y, e => by cases e
  | _, _, .cons x t, 0, y, e => by cases e; exact ⟨_, rfl, x⟩
  | _, _, .cons _ t, i + 1, y, e => pr_at t i y e
theorem cut_lo {xs : List V} {j : Nat} (h : j ≤ xs.length) : cutV xs none (some (j : Int)) = xs.take j := by
  unfold cutV
  rw [HT.sIx_nat, HT.sIx_none, List.drop_zero, Nat.sub_zero, Nat.min_eq_left h]
theorem cut_hi {xs : List V} {j : Nat} (h : j ≤ xs.length) : cutV xs (some (j : Int)) none = xs.drop j := by
  unfold cutV
  rw [HT.sIx_nat, HT.sIx_none, Nat.min_eq_left h, List.take_of_length_le (by rw [List.length_drop]; omega)]
end
theorem next_eq (D : Ends) (σ : L2.St) (H : Hp) : tNext D σ H = D.nx σ H := rfl
theorem seq_eq (t u : TS) (D : Ends) (σ : L2.St) (H : Hp) : tSeq t u D σ H = t { D with nx := u D } σ H := rfl
theorem asg_eq (te : TE) (g : TG) (D : Ends) (σ : L2.St) (H : Hp) : tAsg te g D σ H = te σ H fun x H1 => g x σ H1 D.nx := rfl
theorem for_eq (wi : TI) (g : TG) (tb : TS) (D : Ends) (σ : L2.St) (H : Hp) : tFor wi g tb D σ H = wi σ H fun J H1 => ∃ W : Nat → Nat → L2.St → Hp → Prop, (∃ m, W 0 m σ H1) ∧ ∀ i m σ H, W i m σ H →
    (J.stop i H ∧ D.nx σ H) ∨ (J.go i H ∧ ∃ N : L2.St → Hp → Prop, (∀ σ' H', N σ' H' → ∃ m', m' < m ∧ W (i + 1) m' σ' H') ∧ ∀ x H', J.yld i H x H' → g x σ H' fun σ2 H2 => tb { D with nx := N, ct := N, bk := D.nx } σ2 H2) := rfl
end Gx
set_option Elab.async false
set_option linter.all false
set_option maxRecDepth 100000
set_option maxHeartbeats 4000000
namespace Gx
open PySem PySem.Spec PyProof.Rows L2 RZ
/-! ### a while loop by its turns -/
theorem while_n {c : TT} {tb : TS} {D : Ends} {σ : L2.St} {H : Hp} (n : Nat) (Pv : Nat → L2.St → Hp → Prop) (h0 : Pv 0 σ H)
    (hs : ∀ j σ H, j ≤ n → Pv j σ H → c σ H fun b H1 => if b = true then j < n ∧ tb { D with nx := Pv (j + 1), ct := Pv (j + 1), bk := D.nx } σ H1 else D.nx σ H1)
    (mono : ∀ σ H Q Q', (∀ b H1, Q b H1 → Q' b H1) → c σ H Q → c σ H Q') : tWhile c tb D σ H := by
  refine ⟨fun m σ H => ∃ j, m = n - j ∧ j ≤ n ∧ Pv j σ H, ⟨n, 0, rfl, Nat.zero_le _, h0⟩, ?_⟩
  rintro m σ H ⟨j, rfl, hj, p⟩
  refine mono σ H _ _ (fun b H1 q => ?_) (hs j σ H hj p)
  cases b with
  | true =>
    obtain ⟨hl, q⟩ := q
    exact ⟨_, fun σ' H' p' => ⟨n - (j + 1), by omega, j + 1, rfl, hl, p'⟩, q⟩
  | false => exact q
theorem name_eq (i : Nat) (v : V) (σ : L2.St) (H : Hp) (D : L2.St → Hp → Prop) : gName i v σ H D = D (σ.set i (some v)) H := rfl
theorem con_eq (v : V) (σ : L2.St) (H : Hp) (Q : VK) : tC v σ H Q = Q v H := rfl
end Gx
set_option Elab.async false
set_option linter.all false
set_option maxRecDepth 100000
set_option maxHeartbeats 4000000
namespace Gx
open PySem PySem.Spec PyProof.Rows L2 RZ
/-! ### pairs and nets, as the later laws make them -/
abbrev Pr2 := Nat × Nat
def PrAt (K : PySem.W.Frag) (H : Hp) (v : V) (q : Pr2) : Prop := ∃ p, v = .ref p ∧ SqT K H p [.int q.1, .int q.2]
theorem PrAt.ext {K : PySem.W.Frag} {H H1 : Hp} {c : List Addr} {v : V} {q : Pr2} (h : PrAt K H v q) (x : Ext c H H1) : PrAt K H1 v q := let ⟨p, e, z⟩ := h; ⟨p, e, x.sqT z⟩
def GoodP (n : Nat) (ps : List Pr2) : Prop := ∀ q ∈ ps, q.1 < n ∧ q.2 < n ∧ q.1 ≠ q.2
def LinkP (ps : List Pr2) (n : Nat) : Prop := ∀ k, 1 ≤ k → k < n → ∃ q ∈ ps, (q.1 = k ∧ q.2 < k) ∨ (q.2 = k ∧ q.1 < k)
def insAt {α : Type} (xs : List α) (i : Nat) (x : α) : List α := xs.take i ++ [x] ++ xs.drop i
theorem mem_insAt {α : Type} {xs : List α} {i : Nat} {x y : α} : y ∈ insAt xs i x ↔ y = x ∨ y ∈ xs := by
  unfold insAt
  rw [List.mem_append, List.mem_append, List.mem_singleton]
  constructor
  · rintro ((h | h) | h)
    · exact .inr (List.mem_of_mem_take h)
    · exact .inl h
    · exact .inr (List.mem_of_mem_drop h)
  · rintro (h | h)
    · exact .inl (.inr h)
    · rw [← List.take_append_drop i xs, List.mem_append] at h
      rcases h with h | h
      · exact .inl (.inl h)
      · exact .inr h
theorem insAt_length {α : Type} (xs : List α) (i : Nat) (x : α) : (insAt xs i x).length = xs.length + 1 := by
  unfold insAt
  rw [List.length_append, List.length_append, List.length_take, List.length_drop, List.length_singleton]
  omega
theorem pr_insAt {α β : Type} {F : α → β → Prop} {a : List α} {b : List β} {x : α} {y : β} (i : Nat) (h : Paired F a b) (e : F x y) : Paired F (insAt a i x) (insAt b i y) :=
  pr_app (pr_app (pr_take i h) (.cons e .nil)) (pr_drop i h)
theorem pr_set {α β : Type} {F : α → β → Prop} : ∀ {a : List α} {b : List β} (i : Nat) {x : α} {y : β}, Paired F a b → F x y → Paired F (a.set i x) (b.set i y)
  | _, _, _, _, _, .nil, _ => .nil
  | _, _, 0, _, _, .cons _ t, e => .cons e t
  | _, _, i + 1, _, _, .cons r t, e => .cons r (pr_set i t e)
theorem pr_snoc {α β : Type} {F : α → β → Prop} {a : List α} {b : List β} {x : α} {y : β} (h : Paired F a b) (e : F x y) : Paired F (a ++ [x]) (b ++ [y]) := pr_app h (.cons e .nil)
theorem GoodP.ins {n i : Nat} {ps : List Pr2} {q : Pr2} (h : GoodP n ps) (e : q.1 < n ∧ q.2 < n ∧ q.1 ≠ q.2) : GoodP n (insAt ps i q) := fun r hr => by
  rcases mem_insAt.mp hr with rfl | hr
  · exact e
  · exact h r hr
theorem GoodP.mono {n m : Nat} {ps : List Pr2} (h : GoodP n ps) (e : n ≤ m) : GoodP m ps := fun r hr => let ⟨a, b, c⟩ := h r hr; ⟨by omega, by omega, c⟩
theorem LinkP.ins {n i : Nat} {ps : List Pr2} {q : Pr2} (h : LinkP ps n) : LinkP (insAt ps i q) n := fun k h1 h2 => let ⟨r, hr, e⟩ := h k h1 h2; ⟨r, mem_insAt.mpr (.inr hr), e⟩
theorem LinkP.step {n i : Nat} {ps : List Pr2} {q : Pr2} (h : LinkP ps n) (e : (q.1 = n ∧ q.2 < n) ∨ (q.2 = n ∧ q.1 < n)) : LinkP (insAt ps i q) (n + 1) := fun k h1 h2 => by
  by_cases hk : k = n
  · exact ⟨q, mem_insAt.mpr (.inl rfl), by rw [hk]; exact e⟩
  · exact h.ins k h1 (by omega)
/-- a net at p: its names, its readings -/
def NetV (K : PySem.W.Frag) (H : Hp) (p : Addr) (ms : List Str) (rs : List Rd3) : Prop := ∃ mp rp vs, SqT K H p [.str "net", .ref mp, .ref rp] ∧ SqT K H mp (ms.map V.str) ∧ SqT K H rp vs ∧ Paired (RdAt K H) vs rs
theorem NetV.ext {K : PySem.W.Frag} {H H1 : Hp} {c : List Addr} {p : Addr} {ms : List Str} {rs : List Rd3} (h : NetV K H p ms rs) (x : Ext c H H1) : NetV K H1 p ms rs :=
  let ⟨mp, rp, vs, a, b, d, e⟩ := h; ⟨mp, rp, vs, x.sqT a, x.sqT b, x.sqT d, L2.Paired.mapP e fun _ _ k => k.ext x⟩
theorem rds_of {K : PySem.W.Frag} {H : Hp} {p : Addr} {vs : List V} {rs : List Rd3} (h : SqT K H p vs) (e : Paired (RdAt K H) vs rs) : RdsAt K H p rs := ⟨vs, h, Paired.length e, fun i r hr => pr_at e i r hr⟩
theorem NetV.at {K : PySem.W.Frag} {H : Hp} {p : Addr} {ms : List Str} {rs : List Rd3} (h : NetV K H p ms rs) : NetAt K H p ms rs :=
  let ⟨mp, rp, vs, a, b, d, e⟩ := h; ⟨mp, rp, a, b, rds_of d e⟩
/-- values within B -/
def ValB (B : Int) (rs : List Rd3) : Prop := ∀ r ∈ rs, -B ≤ r.2.2 ∧ r.2.2 ≤ B
/-- the readings' ends -/
def ends (rs : List Rd3) : List Pr2 := rs.map fun r => (r.1, r.2.1)
def keptR (hs : List Int) (q : Pr2) : Rd3 := (q.1, q.2, hs.getD q.2 0 - hs.getD q.1 0)
theorem ends_kept (hs : List Int) (ps : List Pr2) : ends (ps.map (keptR hs)) = ps := by
  unfold ends
  rw [List.map_map]
  exact List.map_id' ps
/-- one reading's value changed by m -/
def chg1 (rs : List Rd3) (q : Nat × Int) : List Rd3 := rs.set q.1 ((rs.getD q.1 (0, 0, 0)).1, (rs.getD q.1 (0, 0, 0)).2.1, (rs.getD q.1 (0, 0, 0)).2.2 + q.2)
def chg (rs : List Rd3) (rows : List (Nat × Int)) : List Rd3 := rows.foldl chg1 rs
theorem chg1_length (rs : List Rd3) (q : Nat × Int) : (chg1 rs q).length = rs.length := by unfold chg1; rw [List.length_set]
theorem ends_chg1 (rs : List Rd3) (q : Nat × Int) : ends (chg1 rs q) = ends rs := by
  unfold chg1 ends
  rw [List.map_set]
  by_cases h : q.1 < rs.length
  · have e : rs.getD q.1 (0, 0, 0) = rs[q.1] := by rw [List.getD_eq_getElem?_getD, List.getElem?_eq_getElem h]; rfl
    rw [e]
    refine List.ext_getElem (by rw [List.length_set]) fun i h1 h2 => ?_
    rw [List.getElem_set]
    split
    · rename_i z
      subst z
      rw [List.getElem_map]
    · rfl
  · rw [List.set_eq_of_length_le (by rw [List.length_map]; omega)]
theorem ends_chg (rows : List (Nat × Int)) : ∀ rs, ends (chg rs rows) = ends rs := by
  induction rows with
  | nil => intro rs; rfl
  | cons q r ih =>
    intro rs
    show ends (chg (chg1 rs q) r) = _
    rw [ih, ends_chg1]
theorem chg_length (rs : List Rd3) (rows : List (Nat × Int)) : (chg rs rows).length = rs.length := by
  have := congrArg List.length (ends_chg rows rs)
  unfold ends at this
  rwa [List.length_map, List.length_map] at this
theorem getD_mem3 {rs : List Rd3} {i : Nat} (h : i < rs.length) : rs.getD i (0, 0, 0) ∈ rs := by
  rw [List.getD_eq_getElem?_getD, List.getElem?_eq_getElem h]
  exact List.getElem_mem h
theorem ValB.chg1 {B C : Int} {rs : List Rd3} {q : Nat × Int} (h : ValB B rs) (hC : 0 ≤ C) (e : -C ≤ q.2 ∧ q.2 ≤ C) : ValB (B + C) (Gx.chg1 rs q) := fun r hr => by
  unfold Gx.chg1 at hr
  rcases List.mem_or_eq_of_mem_set hr with hr | rfl
  · have := h r hr
    omega
  · by_cases hl : q.1 < rs.length
    · have := h _ (getD_mem3 hl)
      dsimp only
      omega
    · rw [List.set_eq_of_length_le (by omega)] at hr
      have := h _ hr
      dsimp only at this ⊢
      omega
theorem good_ends {n : Nat} {rs : List Rd3} : Good n rs ↔ GoodP n (ends rs) := by
  unfold Good GoodP ends
  constructor
  · intro h q hq
    obtain ⟨r, hr, rfl⟩ := List.mem_map.mp hq
    exact h r hr
  · intro h r hr
    exact h (r.1, r.2.1) (List.mem_map.mpr ⟨r, hr, rfl⟩)
end Gx
set_option Elab.async false
set_option linter.all false
set_option maxRecDepth 100000
set_option maxHeartbeats 4000000
namespace K35
open PySem PySem.Spec PyProof.Rows L2 Gx RZ
def topS (i : Nat) : Stmt := PySem.Challenge.pw_truelevels_k35_papers_are_read.main.body.getD i (.Pass ⟨0, 0, 0, 0⟩)
abbrev sIsNumber : Stmt := topS 4
abbrev sShown : Stmt := topS 7
abbrev sNumLine : Stmt := topS 8
abbrev sParse : Stmt := topS 9
abbrev sParsed : Stmt := topS 10
abbrev sCell : Stmt := topS 12
abbrev sDigits : Stmt := topS 13
abbrev sDraw : Stmt := topS 14
abbrev sPick : Stmt := topS 15
abbrev sPairs : Stmt := topS 16
abbrev sHeights : Stmt := topS 17
abbrev sNames : Stmt := topS 18
abbrev sKept : Stmt := topS 19
abbrev sChanged : Stmt := topS 20
abbrev sSome : Stmt := topS 21
abbrev sLied : Stmt := topS 22
abbrev sNet : Stmt := topS 23
abbrev sAnyNet : Stmt := topS 24
abbrev sWords : Stmt := topS 25
abbrev sLawNum : Stmt := topS 26
abbrev sRow : Stmt := topS 27
abbrev sDue : Stmt := topS 28
abbrev sTold : Stmt := topS 29
abbrev sOtherLine : Stmt := topS 30
abbrev sOther : Stmt := topS 31
abbrev sLaw : Stmt := topS 32
end K35
set_option Elab.async false
set_option linter.all false
set_option maxRecDepth 100000
set_option maxHeartbeats 4000000
namespace K35
open PySem PySem.Spec PyProof.Rows L2 Gx RZ
/-- the box of digits -/
def Box (H : Hp) (b d : Addr) : Prop := ∃ (ds : List Int) (at_ : Nat), H b = some (.lst [.ref d, .int (at_ : Nat)]) ∧ H d = some (.lst (ds.map V.int))
theorem Box.ne {H : Hp} {a b d : Addr} {xs : List Int} (h : Box H b d) (e : H a = some (.lst (xs.map V.int))) : a ≠ b := by
  obtain ⟨ds, at_, h1, h2⟩ := h
  intro z
  rw [z, h1] at e
  have e2 := HO.lst.inj (Option.some.inj e)
  cases xs with
  | nil => cases e2
  | cons x r =>
    rw [List.map_cons] at e2
    have := (List.cons.inj e2).1
    cases this
theorem Box.ext {H H' : Hp} {b d : Addr} (h : Box H b d) (x : Ext [] H H') : Box H' b d := let ⟨ds, at_, h1, h2⟩ := h; ⟨ds, at_, x.lst h1 (by simp), x.lst h2 (by simp)⟩
theorem Box.upd {H H1 : Hp} {b d p : Addr} {o : HO} (h : Box H b d) (h1 : Box H1 b d) (hp : H p = none) : Box (L2.upd H1 p o) b d := by
  obtain ⟨_, _, e1, e2⟩ := h
  obtain ⟨ds, at_, k1, k2⟩ := h1
  exact ⟨ds, at_, by rw [upd_ne (ne_of_none e1 hp)]; exact k1, by rw [upd_ne (ne_of_none e2 hp)]; exact k2⟩
section
variable {P : Program} {w : World} {K : PySem.W.Frag} {mg : Str → Option Value} {base : Heap}
/-! ### _law_cell -/
def spCell (K : PySem.W.Frag) : Sp := fun vs H Q _ => ∃ (a : Addr) (xs : List Int) (k : Nat), vs = [.ref a, .int (k : Nat)] ∧ SqL K H a (xs.map V.int) ∧ ∀ x : Int, Q (.int x) H
theorem scCell : FnScope ["script", "k"] ["script", "k"] (defScope sCell) := ⟨rfl, rfl, rfl, by decide +kernel, rfl, by decide +kernel, by decide +kernel⟩
theorem ok_cell {f : Addr} {fd : FuncData} (ml : mg "len" = none) (F : Fun K "_law_cell" "_law_cell" sCell f fd) : FnOk P w K mg base CX0 1 f fd ["script", "k"] (spCell K) := by
  refine F.ok scCell (fun vs H Q E h => ?_) (fun cdv A outer s H vs Q E hr h => ?_)
  · obtain ⟨_, _, _, rfl, _⟩ := h
    rfl
  · obtain ⟨a, xs, k, rfl, hs, q⟩ := h
    refine ⟨_, pss_cons (ps_if (pt_cmpR op_lt (pv 1) (pe_callB call_len_seq (by rfl) ml PySem.boot_len (pa_cons (pv 0) pa_nil)) (nomark _)) (pss_one (ps_ret (pe_ix ix_list (pv 0) (pv 1) (fun _ _ => rfl)))) pss_nil)
      (pss_one (ps_ret pe_int)), ?_⟩
    refine ⟨_, rfl, _, rfl, a, _, rfl, .inl hs, _, _, rfl, rfl, _, rfl, ite2 (fun e => ?_) (fun e => ?_)⟩
    · have hk : k < xs.length := by
        have := of_decide_eq_true e
        rw [List.length_map] at this
        omega
      exact ⟨_, rfl, _, rfl, a, _, _, _, rfl, rfl, hs, atI_nat (ints_at hk), q _⟩
    · exact q 0
/-! ### _law_digits -/
def spDigits (K : PySem.W.Frag) : Sp := fun vs H Q _ => ∃ (a : Addr) (xs : List Int), vs = [.ref a, .int 0, .int 63] ∧ SqL K H a (xs.map V.int) ∧
  ∀ (d : Addr) (ds : List Int) (H' : Hp), Ext [] H H' → H d = none → H' d = some (.lst (ds.map V.int)) → Q (.ref d) H'
abbrev nDigits : List Str := ["script", "first", "last", "digits", "k", "cell", "turn", "seed"]
theorem scDigits : FnScope nDigits ["script", "first", "last"] (defScope sDigits) := ⟨rfl, rfl, rfl, by decide +kernel, rfl, by decide +kernel, by decide +kernel⟩
/-- the list that is made -/
structure Dig (H : Hp) (n : Nat) (d : Addr) (H' : Hp) : Prop where
  x : Ext [] H H'
  new : H d = none
  lst : ∃ ds : List Int, H' d = some (.lst (ds.map V.int)) ∧ ds.length ≤ n
theorem Dig.push {H H' : Hp} {n : Nat} {d : Addr} {ds : List Int} (h : Dig H n d H') (e : H' d = some (.lst (ds.map V.int))) (hn : ds.length ≤ n) (i : Int) : Dig H (n + 1) d (upd H' d (.lst (ds.map V.int ++ [.int i]))) :=
  ⟨h.x.own h.new e, h.new, ds ++ [i], by rw [upd_same, List.map_append]; rfl, by rw [List.length_append]; simpa using hn⟩
theorem ok_digits {f fC : Addr} {fd fdC : FuncData} (ml : mg "len" = none) (mr : mg "range" = none) (mi : mg "int" = none) (F : Fun K "_law_digits" "_law_digits" sDigits f fd)
    (FC : Fun K "_law_cell" "_law_cell" sCell fC fdC) (bC : Binds K fdC ["script", "k"] []) (gC : mg "_law_cell" = some (.ref fC)) : FnOk P w K mg base CX0 2 f fd ["script", "first", "last"] (spDigits K) := by
  have GC : FnOk P w K mg base CX0 1 fC fdC ["script", "k"] (spCell K) := ok_cell ml FC
  have nd := scDigits.nd
  refine F.ok scDigits (fun vs H Q E h => ?_) (fun cdv A outer s H vs Q E hr h => ?_)
  · obtain ⟨_, _, rfl, _⟩ := h
    rfl
  · obtain ⟨a, xs, rfl, hs, q⟩ := h
    refine ⟨_, pss_cons (ps_set (i := 3) nd rfl (.inl rfl) (pe_lst pa_nil))
      (pss_cons (ps_for PassesOwn.never rfl (pi_range2 (by rfl) mr (pa_cons (pv 1) (pa_cons (pv 2) pa_nil))) (pg_name (i := 4) nd rfl (.inl rfl))
        (pss_cons (ps_set (i := 5) nd rfl (.inl rfl) (pe_call GC hr (by rfl) gC FC.kp bC .nil pass0 (pa_cons (pv 0) (pa_cons (pv 4) pa_nil))))
        (pss_cons (ps_if (pt_cmpR op_lt (pv 5) pe_int (nomark _)) (pss_one (ps_set (i := 5) nd rfl (.inl rfl) (pe_op op_sub pe_int (pe_op op_mul pe_int (pv 5))))) pss_nil)
        (pss_one (ps_if (pt_cmpR op_ge (pv 5) (pe_op op_pow pe_int pe_int) (nomark _))
          (pss_one (ps_for PassesOwn.never rfl (pi_range1 (by rfl) mr (pa_cons pe_int pa_nil)) (pg_name (i := 6) nd rfl (.inl rfl))
            (pss_one (ps_if (pt_cmpR op_gt (pv 5) pe_int (nomark _))
              (pss_cons (ps_expr (pe_bm PySem.F.plainAttrs_list PySem.F.slot_list_append PySem.F.type_list_append mt_append (pv 3) (pa_cons (pe_op op_mod (pe_callTy call_int1 (by rfl) mi PyProof.Rows.boot_int (pa_cons (pv 5) pa_nil)) pe_int) pa_nil)))
              (pss_one (ps_set (i := 5) nd rfl (.inl rfl) (pe_op op_fdiv (pv 5) pe_int)))) pss_nil))))
          (pss_cons (ps_set (i := 7) nd rfl (.inl rfl) (pe_op op_mod (pe_callTy call_int1 (by rfl) mi PyProof.Rows.boot_int (pa_cons (pe_op op_add (pe_op op_add (pe_op op_mul (pv 5) pe_int) (pe_op op_mul (pv 4) pe_int)) pe_int) pa_nil)) pe_int))
          (pss_one (ps_for PassesOwn.never rfl (pi_range1 (by rfl) mr (pa_cons pe_int pa_nil)) (pg_name (i := 6) nd rfl (.inl rfl))
            (pss_cons (ps_set (i := 7) nd rfl (.inl rfl) (pe_op op_mod (pe_callTy call_int1 (by rfl) mi PyProof.Rows.boot_int (pa_cons (pe_op op_add (pe_op op_add (pe_op op_mul (pv 7) pe_int) (pe_op op_mul pe_int (pv 6))) pe_int) pa_nil)) pe_int))
            (pss_one (ps_expr (pe_bm PySem.F.plainAttrs_list PySem.F.slot_list_append PySem.F.type_list_append mt_append (pv 3) (pa_cons (pe_op op_mod (pe_callTy call_int1 (by rfl) mi PyProof.Rows.boot_int (pa_cons (pe_op op_fdiv (pv 7) pe_int) pa_nil)) pe_int) pa_nil)))))))))))))
      (pss_one (ps_ret (pv 3)))), ?_⟩
    refine ⟨by decide, fun d hd => ?_⟩
    refine ⟨_, rfl, _, rfl, 0, 63, rfl, by decide, for_range (n := 63)
      (fun i σ H3 => ∃ y4 y5 y6 y7, σ = [some (.ref a), some (.int 0), some (.int 63), some (.ref d), y4, y5, y6, y7] ∧ Dig H (60 * i) d H3)
      ⟨_, _, _, _, rfl, .new hd, hd, [], upd_same, Nat.le_refl _⟩ (fun i σ H3 hi h3 => ?_) (fun σ H3 h3 => ?_)⟩
    · obtain ⟨y4, y5, y6, y7, rfl, D3⟩ := h3
      have hk : ((0 : Int) + (i : Nat)) = ((i : Nat) : Int) := by omega
      refine ⟨_, rfl, _, rfl, a, xs, i, by rw [hk]; rfl, D3.x.sqL hs (by simp), fun x => ?_⟩
      -- the sign
      refine ⟨_, rfl, _, _, rfl, rfl, _, rfl, ?_⟩
      refine ite2 (fun _ => ?_) (fun _ => ?_)
      refine ⟨_, rfl, _, _, rfl, rfl, .inl (by decide), _, _, rfl, rfl, ?_⟩
      all_goals
        refine ⟨_, rfl, _, _, rfl, rfl, ⟨by decide, by decide, by decide⟩, _, _, rfl, rfl, _, rfl, ?_⟩
        refine ite2 (fun _ => ?_) (fun _ => ?_)
        · refine ⟨_, rfl, by decide, by decide, for_range (n := 60)
            (fun j σ H4 => ∃ y5 y6, σ = [some (.ref a), some (.int 0), some (.int 63), some (.ref d), some (.int (0 + (i : Nat))), some (.int y5), y6, y7] ∧ Dig H (60 * i + j) d H4)
            ⟨_, _, rfl, D3⟩ (fun j σ H4 hj h4 => ?_) (fun σ H4 h4 => ?_)⟩
          · obtain ⟨c, z6, rfl, D4⟩ := h4
            refine ⟨_, rfl, _, _, rfl, rfl, _, rfl, ?_⟩
            refine ite2 (fun _ => ?_) (fun _ => ?_)
            · obtain ⟨ds, e, hn⟩ := D4.lst
              refine ⟨_, rfl, .inl ⟨rfl, _, SqL.of e⟩, _, rfl, .inl ⟨_, rfl, _, _, rfl, rfl, by show (0 : Int) < 1000; decide, ?_⟩⟩
              refine ⟨d, _, _, rfl, rfl, e, by rw [List.length_map]; show _ < 2 ^ 24; omega, ?_⟩
              refine ⟨_, rfl, _, _, rfl, rfl, ⟨by decide, by decide⟩, _, _, rfl, D4.push e hn _⟩
            · exact ⟨_, _, rfl, D4.x, D4.new, let ⟨ds, e, hn⟩ := D4.lst; ⟨ds, e, Nat.le_succ_of_le hn⟩⟩
          · obtain ⟨c, z6, rfl, D4⟩ := h4
            exact ⟨_, _, _, _, rfl, D4.x, D4.new, let ⟨ds, e, hn⟩ := D4.lst; ⟨ds, e, by omega⟩⟩
        · refine ⟨_, rfl, _, _, rfl, rfl, .inr (by decide), _, rfl, _, _, rfl, rfl, .inr (by decide), _, _, rfl, rfl, _, _, rfl, rfl, .inl ⟨_, rfl, _, _, rfl, rfl, by show (0 : Int) < 2147483647; decide, ?_⟩⟩
          refine ⟨_, rfl, by decide, by decide, for_range (n := 12)
            (fun j σ H4 => ∃ y5 y6 y7, σ = [some (.ref a), some (.int 0), some (.int 63), some (.ref d), some (.int (0 + (i : Nat))), y5, y6, some (.int y7)] ∧ Dig H (60 * i + j) d H4)
            ⟨_, _, _, rfl, D3⟩ (fun j σ H4 hj h4 => ?_) (fun σ H4 h4 => ?_)⟩
          · obtain ⟨z5, z6, c, rfl, D4⟩ := h4
            refine ⟨_, rfl, _, _, rfl, rfl, .inr (by decide), _, rfl, _, _, rfl, rfl, .inl (by decide), _, _, rfl, rfl, _, _, rfl, rfl, .inl ⟨_, rfl, _, _, rfl, rfl, by show (0 : Int) < 2147483647; decide, ?_⟩⟩
            obtain ⟨ds, e, hn⟩ := D4.lst
            refine ⟨_, rfl, .inl ⟨rfl, _, SqL.of e⟩, _, rfl, _, _, rfl, rfl, ⟨by decide, by decide⟩, .inl ⟨_, rfl, _, _, rfl, rfl, by show (0 : Int) < 1000; decide, ?_⟩⟩
            refine ⟨d, _, _, rfl, rfl, e, by rw [List.length_map]; show _ < 2 ^ 24; omega, ?_⟩
            exact ⟨_, _, _, rfl, D4.push e hn _⟩
          · obtain ⟨z5, z6, c, rfl, D4⟩ := h4
            exact ⟨_, _, _, _, rfl, D4.x, D4.new, let ⟨ds, e, hn⟩ := D4.lst; ⟨ds, e, by omega⟩⟩
    · obtain ⟨y4, y5, y6, y7, rfl, D3⟩ := h3
      obtain ⟨ds, e, _⟩ := D3.lst
      exact ⟨_, rfl, q d ds H3 D3.x hd e⟩
/-! ### _law_draw -/
def spDraw : Sp := fun vs H Q _ => ∃ (b d : Addr) (many : Int), vs = [.ref b, .int many] ∧ Box H b d ∧ 0 < many ∧ ∀ (r : Int) (H' : Hp), 0 ≤ r → r < many → Ext [b] H H' → Box H' b d → Q (.int r) H'
theorem scDraw : FnScope ["box", "many", "at"] ["box", "many"] (defScope sDraw) := ⟨rfl, rfl, rfl, by decide +kernel, rfl, by decide +kernel, by decide +kernel⟩
theorem ok_draw {f : Addr} {fd : FuncData} (ml : mg "len" = none) (mi : mg "int" = none) (F : Fun K "_law_draw" "_law_draw" sDraw f fd) : FnOk P w K mg base CX0 1 f fd ["box", "many"] spDraw := by
  have nd := scDraw.nd
  refine F.ok scDraw (fun vs H Q E h => ?_) (fun cdv A outer s H vs Q E hr h => ?_)
  · obtain ⟨_, _, _, rfl, _⟩ := h
    rfl
  · obtain ⟨b, d, many, rfl, ⟨ds, k, hb, hd⟩, hm, q⟩ := h
    refine ⟨_, pss_cons (ps_set (i := 2) nd rfl (.inl rfl) (pe_ix ix_list (pv 0) pe_int (fun _ _ => rfl)))
      (pss_cons (ps_asg (pe_op op_add (pv 2) pe_int) (pg_sub (pv 0) pe_int set_list))
      (pss_cons (ps_if (pt_cmpR op_lt (pv 2) (pe_callB call_len_seq (by rfl) ml PySem.boot_len (pa_cons (pe_ix ix_list (pv 0) pe_int (fun _ _ => rfl)) pa_nil)) (nomark _))
        (pss_one (ps_ret (pe_op op_mod (pe_callTy call_int1 (by rfl) mi PyProof.Rows.boot_int (pa_cons (pe_ix ix_list (pe_ix ix_list (pv 0) pe_int (fun _ _ => rfl)) (pv 2) (fun _ _ => rfl)) pa_nil)) (pv 1)))) pss_nil)
      (pss_one (ps_ret (pe_op op_mod (pe_callTy call_int1 (by rfl) mi PyProof.Rows.boot_int (pa_cons (pe_op op_add (pe_op op_mul (pv 2) pe_int) pe_int) pa_nil)) (pv 1)))))), ?_⟩
    have ndb : d ≠ b := by
      have := Box.ne ⟨ds, k, hb, hd⟩ hd
      exact this
    refine ⟨_, rfl, b, _, _, _, rfl, rfl, SqL.of hb, atI_nat (j := 1) rfl, ?_⟩
    refine ⟨_, rfl, _, _, rfl, rfl, _, rfl, b, _, _, 1, rfl, rfl, hb, rfl, ?_⟩
    have x1 : Ext [b] H (upd H b (.lst [.ref d, .int ((k : Int) + 1)])) := .set (List.mem_singleton.mpr rfl) hb
    have hb1 : (upd H b (.lst [.ref d, .int ((k : Int) + 1)])) b = some (.lst [.ref d, .int ((k : Int) + 1)]) := upd_same
    have hd1 : (upd H b (.lst [.ref d, .int ((k : Int) + 1)])) d = some (.lst (ds.map V.int)) := by rw [upd_ne ndb]; exact hd
    have bx : Box (L2.upd H b (.lst [.ref d, .int ((k : Int) + 1)])) b d := ⟨ds, k + 1, by rw [hb1]; rfl, hd1⟩
    refine ⟨_, rfl, _, rfl, b, _, _, _, rfl, rfl, SqL.of hb1, atI_nat (j := 0) rfl, d, _, rfl, .inl (SqL.of hd1), _, _, rfl, rfl, _, rfl, ite2 (fun e => ?_) (fun e => ?_)⟩
    · have hk : k < ds.length := by
        have := of_decide_eq_true e
        rw [List.length_map] at this
        omega
      refine ⟨_, rfl, b, _, _, _, rfl, rfl, SqL.of hb1, atI_nat (j := 0) rfl, _, rfl, d, _, _, _, rfl, rfl, SqL.of hd1, atI_nat (ints_at hk), .inl ⟨_, rfl, _, rfl, _, _, rfl, rfl, hm, ?_⟩⟩
      exact q _ _ (Int.emod_nonneg _ (by omega)) (Int.emod_lt_of_pos _ hm) x1 bx
    · refine ⟨_, rfl, _, _, rfl, rfl, .inr (by decide), _, _, rfl, rfl, .inl ⟨_, rfl, _, rfl, _, _, rfl, rfl, hm, ?_⟩⟩
      exact q _ _ (Int.emod_nonneg _ (by omega)) (Int.emod_lt_of_pos _ hm) x1 bx
/-! ### _law_pick -/
def spPick (K : PySem.W.Frag) : Sp := fun vs H Q _ => ∃ (b d t : Addr) (xs : List V), vs = [.ref b, .ref t] ∧ Box H b d ∧ H t = some (.lst xs) ∧ t ≠ b ∧ 0 < xs.length ∧ ∀ (j : Nat) (v : V), xs[j]? = some v → ∀ H', Ext [b] H H' → Box H' b d → Q v H'
theorem scPick : FnScope ["box", "things"] ["box", "things"] (defScope sPick) := ⟨rfl, rfl, rfl, by decide +kernel, rfl, by decide +kernel, by decide +kernel⟩
theorem ok_pick {f fD : Addr} {fd fdD : FuncData} (ml : mg "len" = none) (mi : mg "int" = none) (F : Fun K "_law_pick" "_law_pick" sPick f fd)
    (FD : Fun K "_law_draw" "_law_draw" sDraw fD fdD) (bD : Binds K fdD ["box", "many"] []) (gD : mg "_law_draw" = some (.ref fD)) : FnOk P w K mg base CX0 2 f fd ["box", "things"] (spPick K) := by
  have nd := scPick.nd
  have GD : FnOk P w K mg base CX0 1 fD fdD ["box", "many"] spDraw := ok_draw ml mi FD
  refine F.ok scPick (fun vs H Q E h => ?_) (fun cdv A outer s H vs Q E hr h => ?_)
  · obtain ⟨_, _, _, _, rfl, _⟩ := h
    rfl
  · obtain ⟨b, d, t, xs, rfl, hb, ht, htb, hx, q⟩ := h
    refine ⟨_, pss_one (ps_ret (pe_ix ix_list (pv 1) (pe_op op_mod (pe_callTy call_int1 (by rfl) mi PyProof.Rows.boot_int (pa_cons (pe_call GD hr (by rfl) gD FD.kp bD .nil pass0 (pa_cons (pv 0) (pa_cons pe_int pa_nil))) pa_nil)) (pe_callB call_len_seq (by rfl) ml PySem.boot_len (pa_cons (pv 1) pa_nil))) (fun _ _ => rfl))), ?_⟩
    refine ⟨_, rfl, _, rfl, b, d, 900, rfl, hb, by decide, fun r H1 h0 h1 x1 b1 => .inl ⟨_, rfl, ?_⟩⟩
    have ht1 : H1 t = some (.lst xs) := x1.lst ht (by rw [List.mem_singleton]; exact htb)
    have hlI : (0 : Int) < (xs.length : Nat) := by omega
    refine ⟨_, rfl, t, _, rfl, .inl (SqL.of ht1), _, _, rfl, rfl, hlI, ?_⟩
    have e0 := Int.emod_nonneg r (Int.ne_of_gt hlI)
    have e1 := Int.emod_lt_of_pos r hlI
    obtain ⟨j, hj⟩ : ∃ j : Nat, r % (xs.length : Nat) = (j : Int) := ⟨_, (Int.toNat_of_nonneg e0).symm⟩
    rw [hj] at e1
    have hjl : j < xs.length := by omega
    have hv := List.getElem?_eq_getElem hjl
    exact ⟨t, _, _, _, rfl, by rw [← hj], SqL.of ht1, atI_nat hv, q j _ hv _ x1 b1⟩
end
end K35
set_option Elab.async false
set_option linter.all false
set_option maxRecDepth 100000
set_option maxHeartbeats 4000000
namespace K35
open PySem PySem.Spec PyProof.Rows L2 Gx RZ
theorem nat_of {r : Int} (h : 0 ≤ r) : ∃ j : Nat, r = (j : Int) := ⟨r.toNat, (Int.toNat_of_nonneg h).symm⟩
theorem Box.here {H : Hp} {b d : Addr} (h : Box H b d) : ∃ o, H b = some o := let ⟨_, _, e, _⟩ := h; ⟨_, e⟩
theorem Box.new {H : Hp} {b d p : Addr} (h : Box H b d) (hp : H p = none) : p ≠ b := fun z => by
  obtain ⟨o, e⟩ := h.here
  rw [z, e] at hp
  cases hp
section
variable {P : Program} {w : World} {K : PySem.W.Frag} {mg : Str → Option Value} {base : Heap}
/-! ### _law_pairs -/
abbrev nPairs : List Str := ["box", "many", "extra", "pairs", "mark", "other", "turn", "start", "end"]
theorem scPairs : FnScope nPairs ["box", "many", "extra"] (defScope sPairs) := ⟨rfl, rfl, rfl, by decide +kernel, rfl, by decide +kernel, by decide +kernel⟩
def spPairs (K : PySem.W.Frag) : Sp := fun vs H Q _ => ∃ (b d : Addr) (n extra : Nat), vs = [.ref b, .int (n : Nat), .int (extra : Nat)] ∧ Box H b d ∧ 1 ≤ n ∧ n ≤ 20 ∧ extra ≤ 100 ∧ (extra = 0 ∨ 2 ≤ n) ∧
  ∀ (l : Addr) (us : List V) (ps : List Pr2) (H' : Hp), ps.length = (n - 1) + extra → GoodP n ps → LinkP ps n → Ext [b] H H' → Box H' b d → H l = none → l ≠ b → H' l = some (.lst us) → Paired (PrAt K H') us ps → Q (.ref l) H'
theorem pick2 {u v x : V} {j : Nat} (h : [u, v][j]? = some x) : x = u ∨ x = v := by
  have := List.mem_of_getElem? h
  simpa using this
theorem ok_pairs {f fD fP : Addr} {fd fdD fdP : FuncData} (ml : mg "len" = none) (mi : mg "int" = none) (mr : mg "range" = none) (F : Fun K "_law_pairs" "_law_pairs" sPairs f fd)
    (FD : Fun K "_law_draw" "_law_draw" sDraw fD fdD) (bD : Binds K fdD ["box", "many"] []) (gD : mg "_law_draw" = some (.ref fD))
    (FP : Fun K "_law_pick" "_law_pick" sPick fP fdP) (bP : Binds K fdP ["box", "things"] []) (gP : mg "_law_pick" = some (.ref fP)) : FnOk P w K mg base CX0 3 f fd ["box", "many", "extra"] (spPairs K) := by
  have nd := scPairs.nd
  have GD : FnOk P w K mg base CX0 1 fD fdD ["box", "many"] spDraw := ok_draw ml mi FD
  have GP : FnOk P w K mg base CX0 2 fP fdP ["box", "things"] (spPick K) := ok_pick ml mi FP FD bD gD
  refine F.ok scPairs (fun vs H Q E h => ?_) (fun cdv A outer s H vs Q E hr h => ?_)
  · obtain ⟨_, _, _, _, rfl, _⟩ := h
    rfl
  · obtain ⟨b, d, n, extra, rfl, hb, n1, n20, e1, e2, q⟩ := h
    have hr1 : Room 1 (A.deeper (envOfC "_law_pairs" (defScope sPairs) s.heap.objs.size f cdv)) := hr.mono (by decide)
    refine ⟨_, pss_cons (ps_set (i := 3) nd rfl (.inl rfl) (pe_lst pa_nil))
      (pss_cons (ps_for PassesOwn.never rfl (pi_range2 (by rfl) mr (pa_cons pe_int (pa_cons (pv 1) pa_nil))) (pg_name (i := 4) nd rfl (.inl rfl))
        (pss_cons (ps_set (i := 5) nd rfl (.inl rfl) (pe_call GD hr1 (by rfl) gD FD.kp bD .nil pass0 (pa_cons (pv 0) (pa_cons (pv 4) pa_nil))))
        (pss_one (ps_expr (pe_bm PySem.F.plainAttrs_list PySem.F.slot_list_insert PySem.F.type_list_insert mt_insert (pv 3) (pa_cons (pe_call GD hr1 (by rfl) gD FD.kp bD .nil pass0 (pa_cons (pv 0) (pa_cons (pe_op op_add (pe_callB call_len_seq (by rfl) ml PySem.boot_len (pa_cons (pv 3) pa_nil)) pe_int) pa_nil)))
          (pa_cons (pe_call GP hr (by rfl) gP FP.kp bP .nil pass0 (pa_cons (pv 0) (pa_cons (pe_lst (pa_cons (pe_tup (pa_cons (pv 4) (pa_cons (pv 5) pa_nil))) (pa_cons (pe_tup (pa_cons (pv 5) (pa_cons (pv 4) pa_nil))) pa_nil))) pa_nil))) pa_nil)))))))
      (pss_cons (ps_for PassesOwn.never rfl (pi_range1 (by rfl) mr (pa_cons (pv 2) pa_nil)) (pg_name (i := 6) nd rfl (.inl rfl))
        (pss_cons (ps_set (i := 7) nd rfl (.inl rfl) (pe_call GD hr1 (by rfl) gD FD.kp bD .nil pass0 (pa_cons (pv 0) (pa_cons (pv 1) pa_nil))))
        (pss_cons (ps_set (i := 8) nd rfl (.inl rfl) (pe_op op_mod (pe_callTy call_int1 (by rfl) mi PyProof.Rows.boot_int (pa_cons (pe_op op_add (pe_op op_add (pv 7) pe_int) (pe_call GD hr1 (by rfl) gD FD.kp bD .nil pass0 (pa_cons (pv 0) (pa_cons (pe_op op_sub (pv 1) pe_int) pa_nil)))) pa_nil)) (pv 1)))
        (pss_one (ps_expr (pe_bm PySem.F.plainAttrs_list PySem.F.slot_list_insert PySem.F.type_list_insert mt_insert (pv 3) (pa_cons (pe_call GD hr1 (by rfl) gD FD.kp bD .nil pass0 (pa_cons (pv 0) (pa_cons (pe_op op_add (pe_callB call_len_seq (by rfl) ml PySem.boot_len (pa_cons (pv 3) pa_nil)) pe_int) pa_nil)))
          (pa_cons (pe_tup (pa_cons (pv 7) (pa_cons (pv 8) pa_nil))) pa_nil))))))))
      (pss_one (ps_ret (pv 3))))), ?_⟩
    refine ⟨by decide, fun l hl => ?_⟩
    have nlb := hb.new hl
    refine ⟨_, rfl, 1, (n : Int), rfl, by omega, for_range (lo := 1) (n := ((n : Int) - 1).toNat) (fun i σ H2 => ∃ y4 y5 us ps, σ = [some (.ref b), some (.int (n : Nat)), some (.int (extra : Nat)), some (.ref l), y4, y5, none, none, none] ∧ ps.length = i ∧ GoodP n ps ∧ LinkP ps (i + 1) ∧ Ext [b] H H2 ∧ Box H2 b d ∧ H2 l = some (.lst us) ∧ Paired (PrAt K H2) us ps)
      ⟨_, _, [], [], rfl, rfl, (fun q hq => by cases hq), (fun k h1 h2 => by omega), .new hl, hb.ext (.new hl), upd_same, .nil⟩ (fun i σ H2 hi h2 => ?_) (fun σ H2 h2 => ?_)⟩
    · obtain ⟨y4, y5, us, ps, rfl, lp, gp, kp, x2, b2, el, pr⟩ := h2
      have hi2 : i + 1 < n := by omega
      have hm : (1 : Int) + (i : Nat) = ((i + 1 : Nat) : Int) := by omega
      rw [hm]
      refine ⟨_, rfl, _, rfl, b, d, _, rfl, b2, by omega, fun r1 H3 g0 g1 x3 b3 => ?_⟩
      obtain ⟨o, rfl⟩ := nat_of g0
      have el3 := x3.lst el (by rw [List.mem_singleton]; exact nlb)
      have lus : us.length = i := by rw [Paired.length pr, lp]
      refine ⟨_, rfl, .inl ⟨rfl, _, SqL.of el3⟩, ?_⟩
      refine ⟨_, rfl, _, rfl, l, _, rfl, .inl (SqL.of el3), _, _, rfl, rfl, b, d, _, rfl, b3, by omega, fun r2 H4 g2 g3 x4 b4 => ?_⟩
      have el4 := x4.lst el3 (by rw [List.mem_singleton]; exact nlb)
      obtain ⟨at_, rfl⟩ := nat_of g2
      refine ⟨_, rfl, _, rfl, _, rfl, by show 2 ≤ sizeLine; decide, fun t1 ht1 => ?_⟩
      have x5 : Ext [] H4 (upd H4 t1 (.tup [V.int ((i + 1 : Nat) : Int), V.int (o : Int)])) := .new ht1
      have q1 : SqT K (upd H4 t1 (.tup [V.int ((i + 1 : Nat) : Int), V.int (o : Int)])) t1 [V.int ((i + 1 : Nat) : Int), V.int (o : Int)] := .inl (.inl upd_same)
      generalize (upd H4 t1 (.tup [V.int ((i + 1 : Nat) : Int), V.int (o : Int)])) = H5 at x5 q1 ⊢
      refine ⟨_, rfl, _, rfl, by show 2 ≤ sizeLine; decide, fun t2 ht2 => ?_⟩
      have x6 : Ext [] H5 (upd H5 t2 (.tup [V.int (o : Int), V.int ((i + 1 : Nat) : Int)])) := .new ht2
      have q2 : SqT K (upd H5 t2 (.tup [V.int (o : Int), V.int ((i + 1 : Nat) : Int)])) t2 [V.int (o : Int), V.int ((i + 1 : Nat) : Int)] := .inl (.inl upd_same)
      have q1' := x6.sqT q1
      generalize (upd H5 t2 (.tup [V.int (o : Int), V.int ((i + 1 : Nat) : Int)])) = H6 at x6 q2 q1' ⊢
      refine ⟨by show 2 ≤ sizeLine; decide, fun t3 ht3 => ?_⟩
      have x7 : Ext [] H6 (upd H6 t3 (.lst [V.ref t1, V.ref t2])) := .new ht3
      have x47 : Ext [] H4 (upd H6 t3 (.lst [V.ref t1, V.ref t2])) := (x5.trans x6).trans x7
      refine ⟨b, d, t3, _, rfl, b4.ext x47, upd_same, (b4.ext (x5.trans x6)).new ht3, by show 0 < 2; decide, fun j v hv H8 x8 b8 => ?_⟩
      have xx : Ext [b] H4 H8 := (x47.mono (by simp)).trans x8
      have el8 := xx.lst el4 (by rw [List.mem_singleton]; exact nlb)
      refine ⟨l, us, _, _, rfl, rfl, el8, small1000 (by omega), by omega, by omega, ?_⟩
      have lat : (at_ : Int).toNat = at_ := Int.toNat_natCast at_
      obtain ⟨w', hw', pw, gw, kw⟩ : ∃ q : Pr2, PrAt K H8 v q ∧ (q = (i + 1, o) ∨ q = (o, i + 1)) ∧ (q.1 < n ∧ q.2 < n ∧ q.1 ≠ q.2) ∧ ((q.1 = i + 1 ∧ q.2 < i + 1) ∨ (q.2 = i + 1 ∧ q.1 < i + 1)) := by
        rcases pick2 hv with rfl | rfl
        · exact ⟨(i + 1, o), ⟨t1, rfl, ((x7.mono (by simp)).trans x8).sqT q1'⟩, .inl rfl, ⟨hi2, by dsimp only; omega, by dsimp only; omega⟩, .inl ⟨rfl, by dsimp only; omega⟩⟩
        · exact ⟨(o, i + 1), ⟨t2, rfl, ((x7.mono (by simp)).trans x8).sqT q2⟩, .inr rfl, ⟨by dsimp only; omega, hi2, by dsimp only; omega⟩, .inr ⟨rfl, by dsimp only; omega⟩⟩
      rw [lat]
      have xall : Ext [b] H H8 := ((x2.trans x3).trans x4).trans xx
      have xs9 : Ext [l] H8 (upd H8 l (.lst (insAt us at_ v))) := .set (by simp) el8
      have pr8 : Paired (PrAt K H8) us ps := L2.Paired.mapP pr fun _ _ k => ((k.ext x3).ext x4).ext xx
      refine ⟨_, _, insAt us at_ v, insAt ps at_ w', rfl, by rw [insAt_length, lp], gp.ins gw, kp.step kw, xall.own hl el8, hb.upd b8 hl, upd_same, L2.Paired.mapP (pr_insAt at_ pr8 hw') fun _ _ k => k.ext xs9⟩
    · obtain ⟨y4, y5, us, ps, rfl, lp, gp, kp, x2, b2, el, pr⟩ := h2
      have en : ((n : Int) - 1).toNat = n - 1 := by omega
      rw [en] at lp kp
      rw [show n - 1 + 1 = n by omega] at kp
      refine ⟨_, rfl, (extra : Int), rfl, by omega, by omega, ?_⟩
      rw [Int.toNat_natCast]
      refine for_range (n := extra) (fun i σ H3 => ∃ y4 y5 y6 y7 y8 us ps, σ = [some (.ref b), some (.int (n : Nat)), some (.int (extra : Nat)), some (.ref l), y4, y5, y6, y7, y8] ∧ ps.length = (n - 1) + i ∧ GoodP n ps ∧ LinkP ps n ∧ Ext [b] H H3 ∧ Box H3 b d ∧ H3 l = some (.lst us) ∧ Paired (PrAt K H3) us ps)
        ⟨_, _, _, _, _, us, ps, rfl, lp, gp, kp, x2, b2, el, pr⟩ (fun i σ H3 hi h3 => ?_) (fun σ H3 h3 => ?_)
      · obtain ⟨y4, y5, y6, y7, y8, us, ps, rfl, lp, gp, kp, x3, b3, el, pr⟩ := h3
        have n2 : 2 ≤ n := by omega
        have lus : us.length = n - 1 + i := by rw [Paired.length pr, lp]
        refine ⟨_, rfl, _, rfl, b, d, _, rfl, b3, by omega, fun r1 H4 g0 g1 x4 b4 => ?_⟩
        obtain ⟨o, rfl⟩ := nat_of g0
        refine ⟨_, rfl, _, _, rfl, rfl, _, rfl, _, rfl, _, _, rfl, rfl, b, d, _, rfl, b4, by omega, fun r2 H5 g2 g3 x5 b5 => ⟨_, _, rfl, rfl, .inl ⟨_, rfl, _, rfl, _, _, rfl, rfl, by omega, ?_⟩⟩⟩
        obtain ⟨e, he⟩ : ∃ e : Nat, ((o : Int) + 1 + r2) % (n : Int) = (e : Int) := nat_of (Int.emod_nonneg _ (by omega))
        dsimp only
        rw [he]
        have hen : e < n := by
          have := Int.emod_lt_of_pos ((o : Int) + 1 + r2) (show (0 : Int) < (n : Int) by omega)
          omega
        have heo : e ≠ o := by
          intro z
          subst z
          by_cases c : (e : Int) + 1 + r2 < n
          · rw [Int.emod_eq_of_lt (by omega) c] at he
            omega
          · have e3 : ((e : Int) + 1 + r2) % (n : Int) = (e : Int) + 1 + r2 - n := by
              rw [← Int.sub_emod_right, Int.emod_eq_of_lt (by omega) (by omega)]
            rw [e3] at he
            omega
        have el5 := (x4.trans x5).lst el (by rw [List.mem_singleton]; exact nlb)
        refine ⟨_, rfl, .inl ⟨rfl, _, SqL.of el5⟩, ?_⟩
        refine ⟨_, rfl, _, rfl, l, _, rfl, .inl (SqL.of el5), _, _, rfl, rfl, b, d, _, rfl, b5, by omega, fun r3 H6 g4 g5 x6 b6 => ?_⟩
        have el6 := x6.lst el5 (by rw [List.mem_singleton]; exact nlb)
        obtain ⟨at_, rfl⟩ := nat_of g4
        refine ⟨_, rfl, _, rfl, by show 2 ≤ sizeLine; decide, fun t1 ht1 => ?_⟩
        have x7 : Ext [] H6 (upd H6 t1 (.tup [V.int (o : Int), V.int (e : Int)])) := .new ht1
        have q1 : SqT K (upd H6 t1 (.tup [V.int (o : Int), V.int (e : Int)])) t1 [V.int (o : Int), V.int (e : Int)] := .inl (.inl upd_same)
        generalize (upd H6 t1 (.tup [V.int (o : Int), V.int (e : Int)])) = H7 at x7 q1 ⊢
        have el7 := x7.lst el6 (by simp)
        refine ⟨l, us, _, _, rfl, rfl, el7, small1000 (by omega), by omega, by omega, ?_⟩
        rw [show (at_ : Int).toNat = at_ from Int.toNat_natCast at_]
        have xall : Ext [b] H H7 := (((x3.trans x4).trans x5).trans x6).trans (x7.mono (by simp))
        have xs9 : Ext [l] H7 (upd H7 l (.lst (insAt us at_ (.ref t1)))) := .set (by simp) el7
        have pr7 : Paired (PrAt K H7) us ps := L2.Paired.mapP pr fun _ _ k => (((k.ext x4).ext x5).ext x6).ext x7
        refine ⟨_, _, _, _, _, insAt us at_ (.ref t1), insAt ps at_ (o, e), rfl, by rw [insAt_length, lp]; omega, gp.ins ⟨by dsimp only; omega, hen, by dsimp only; omega⟩, kp.ins, xall.own hl el7, hb.upd (b6.ext x7) hl, upd_same, L2.Paired.mapP (pr_insAt at_ pr7 ⟨t1, rfl, q1⟩) fun _ _ k => k.ext xs9⟩
      · obtain ⟨y4, y5, y6, y7, y8, us, ps, rfl, lp, gp, kp, x3, b3, el, pr⟩ := h3
        exact ⟨_, rfl, q l us ps H3 lp gp kp x3 b3 hl nlb el pr⟩
end
end K35
set_option Elab.async false
set_option linter.all false
set_option maxRecDepth 100000
set_option maxHeartbeats 4000000
namespace K35
open PySem PySem.Spec PyProof.Rows L2 Gx RZ
def nmS (k : Nat) : Str := ⟨#[109, 97 + k]⟩
def nmsN (n : Nat) : List Str := (List.range n).map nmS
theorem nmsN_length (n : Nat) : (nmsN n).length = n := by
  unfold nmsN
  rw [List.length_map, List.length_range]
theorem nmsN_succ (n : Nat) : nmsN (n + 1) = nmsN n ++ [nmS n] := by
  unfold nmsN
  rw [List.range_succ, List.map_append]
  rfl
theorem alph16 {j : Nat} (h : j < 16) : ("abcdefghijklmnop" : Str).cps.toList[j]? = some (97 + j) := by
  have a : ∀ i : Fin 16, ("abcdefghijklmnop" : Str).cps.toList[i.val]? = some (97 + i.val) := by decide +kernel
  exact a ⟨j, h⟩
def RwAt (K : PySem.W.Frag) (H : Hp) (v : V) (q : Nat × Int) : Prop := ∃ p, v = .ref p ∧ SqT K H p [.int q.1, .int q.2]
theorem RwAt.ext {K : PySem.W.Frag} {H H1 : Hp} {c : List Addr} {v : V} {q : Nat × Int} (h : RwAt K H v q) (x : Ext c H H1) : RwAt K H1 v q := let ⟨p, e, z⟩ := h; ⟨p, e, x.sqT z⟩
section
variable {P : Program} {w : World} {K : PySem.W.Frag} {mg : Str → Option Value} {base : Heap}
/-! ### _law_heights -/
abbrev nHeights : List Str := ["box", "many", "k"]
theorem scHeights : FnScope nHeights ["box", "many"] (defScope sHeights) := ⟨rfl, rfl, rfl, by decide +kernel, rfl, by decide +kernel, by decide +kernel⟩
def spHeights (K : PySem.W.Frag) : Sp := fun vs H Q _ => ∃ (b d : Addr) (n : Nat), vs = [.ref b, .int (n : Nat)] ∧ Box H b d ∧ 1 ≤ n ∧ n ≤ 20 ∧
  ∀ (q : Addr) (hs : List Int) (H' : Hp), hs.length = n → hs.getD 0 0 = 0 → (∀ x ∈ hs, -20 ≤ x ∧ x ≤ 20) → Ext [b] H H' → Box H' b d → SqT K H' q (hs.map V.int) → Q (.ref q) H'
theorem ok_heights {f fD : Addr} {fd fdD : FuncData} (ml : mg "len" = none) (mi : mg "int" = none) (mr : mg "range" = none) (mt : mg "tuple" = none) (F : Fun K "_law_heights" "_law_heights" sHeights f fd)
    (FD : Fun K "_law_draw" "_law_draw" sDraw fD fdD) (bD : Binds K fdD ["box", "many"] []) (gD : mg "_law_draw" = some (.ref fD)) : FnOk P w K mg base CX0 2 f fd ["box", "many"] (spHeights K) := by
  have nd := scHeights.nd
  have GD : FnOk P w K mg base CX0 1 fD fdD ["box", "many"] spDraw := ok_draw ml mi FD
  refine F.ok scHeights (fun vs H Q E h => ?_) (fun cdv A outer s H vs Q E hr h => ?_)
  · obtain ⟨_, _, _, rfl, _⟩ := h
    rfl
  · obtain ⟨b, d, n, rfl, hb, n1, n20, q⟩ := h
    refine ⟨_, pss_one (ps_ret (pe_op op_catA (pe_tup (pa_cons pe_int pa_nil)) (pe_callTy call_tuple_of (by rfl) mt PyProof.Rows.boot_tuple (pa_cons (pe_lc (own := [("k", 2)]) (g := gName 2) (tt := tYes) rfl nd (pi_range1 (by rfl) mr (pa_cons (pe_op op_sub (pv 1) pe_int) pa_nil)) (blkOk_by (N := nHeights) (sc := defScope sHeights) (by decide +kernel))
        (fun _ _ _ _ _ => pg_name (i := 2) nd rfl (.inl rfl)) (fun _ _ _ _ _ => pts_nil) (fun _ _ _ _ _ => pe_op op_sub (pe_call GD hr (by rfl) gD FD.kp bD .nil pass0 (pa_cons (pv 0) (pa_cons pe_int pa_nil))) pe_int)) pa_nil)))), ?_⟩
    refine ⟨by show 1 ≤ sizeLine; decide, fun t0 ht0 => ?_⟩
    have x0 : Ext [] H (upd H t0 (.tup [V.int 0])) := .new ht0
    have et0 : SqT K (upd H t0 (.tup [V.int 0])) t0 [V.int 0] := .inl (.inl upd_same)
    generalize (upd H t0 (.tup [V.int 0])) = H6 at x0 et0 ⊢
    have b0 := hb.ext x0
    refine ⟨_, rfl, _, _, rfl, rfl, _, rfl, by omega, by omega, fun D hD => ?_⟩
    refine lc_range (fun i H7 => ∃ hs : List Int, hs.length = i ∧ (∀ x ∈ hs, -20 ≤ x ∧ x ≤ 20) ∧ Ext [b] H6 H7 ∧ Box H7 b d ∧ H7 D = some (.lst (hs.map V.int)))
      ⟨[], rfl, (fun _ h => by cases h), .new hD, b0.ext (.new hD), upd_same⟩ (fun i H7 hi h7 => ?_) (fun H7 h7 => ?_)
    · obtain ⟨hs, e1, e2, x7, b7, eD⟩ := h7
      refine ⟨rfl, _, rfl, b, d, 41, rfl, b7, by decide, fun r4 H8 g4 g5 x8 b8 => ⟨_, _, rfl, rfl, ?_⟩⟩
      have eD8 : H8 D = some (.lst (hs.map V.int)) := x8.lst eD (by rw [List.mem_singleton]; exact b7.ne eD)
      refine ⟨_, eD8, by rw [List.length_map, e1]; exact small1000 (by omega), hs ++ [r4 - 20], by rw [List.length_append, e1]; rfl, fun x hx => ?_, (x7.trans x8).own hD eD8, b0.upd b8 hD, by rw [upd_same, List.map_append]; rfl⟩
      rcases List.mem_append.mp hx with hx | hx
      · exact e2 x hx
      · rw [List.mem_singleton.mp hx]
        omega
    · obtain ⟨hs0, e1, e2, x7, b7, eD⟩ := h7
      refine ⟨D, _, rfl, .inl ⟨SqL.of eD, fun l hl => ?_⟩⟩
      have x8 : Ext [b] H6 (upd H7 l (.tup (hs0.map V.int))) := x7.trans (.new hl)
      have b8 : Box (L2.upd H7 l (.tup (hs0.map V.int))) b d := b7.ext (.new hl)
      have e8 : SqT K (upd H7 l (.tup (hs0.map V.int))) l (hs0.map V.int) := .inl (.inl upd_same)
      generalize (upd H7 l (.tup (hs0.map V.int))) = H8 at x8 b8 e8 ⊢
      refine catA_by (x8.sqT et0) e8 (by rw [List.length_map, e1]; show 1 + _ ≤ 2 ^ 24; omega) fun hp H9 x9 eh => ?_
      refine q hp (0 :: hs0) H9 (by rw [List.length_cons, e1]; omega) rfl (fun x hx => ?_) (((x0.mono (by simp)).trans x8).trans (x9.mono (by simp))) (b8.ext x9) eh
      rcases List.mem_cons.mp hx with rfl | hx
      · decide
      · exact e2 x hx
/-! ### _law_names -/
abbrev nNames : List Str := ["many", "k"]
theorem scNames : FnScope nNames ["many"] (defScope sNames) := ⟨rfl, rfl, rfl, by decide +kernel, rfl, by decide +kernel, by decide +kernel⟩
def spNames (K : PySem.W.Frag) : Sp := fun vs H Q _ => ∃ n : Nat, vs = [.int (n : Nat)] ∧ n ≤ 16 ∧ ∀ (q : Addr) (H' : Hp), Ext [] H H' → SqT K H' q ((nmsN n).map V.str) → Q (.ref q) H'
theorem ok_names {f : Addr} {fd : FuncData} (mr : mg "range" = none) (mt : mg "tuple" = none) (F : Fun K "_law_names" "_law_names" sNames f fd) : FnOk P w K mg base CX0 1 f fd ["many"] (spNames K) := by
  have nd := scNames.nd
  refine F.ok scNames (fun vs H Q E h => ?_) (fun cdv A outer s H vs Q E hr h => ?_)
  · obtain ⟨_, rfl, _⟩ := h
    rfl
  · obtain ⟨n, rfl, hn, q⟩ := h
    refine ⟨_, pss_one (ps_ret (pe_callTy call_tuple_of (by rfl) mt PyProof.Rows.boot_tuple (pa_cons (pe_lc (own := [("k", 1)]) (g := gName 1) (tt := tYes) rfl nd (pi_range1 (by rfl) mr (pa_cons (pv 0) pa_nil)) (blkOk_by (N := nNames) (sc := defScope sNames) (by decide +kernel))
        (fun _ _ _ _ _ => pg_name (i := 1) nd rfl (.inl rfl)) (fun _ _ _ _ _ => pts_nil) (fun _ _ _ _ _ => pe_op op_add_str pe_str (pe_ix ix_str pe_str (pv 1) (fun _ _ => rfl)))) pa_nil))), ?_⟩
    refine ⟨_, rfl, (n : Int), rfl, by omega, by omega, fun D hD => ?_⟩
    rw [Int.toNat_natCast]
    refine lc_range (fun i H2 => Ext [] H H2 ∧ H2 D = some (.lst ((nmsN i).map V.str))) ⟨.new hD, upd_same⟩ (fun i H2 hi h2 => ?_) (fun H2 h2 => ?_)
    · obtain ⟨x2, e2⟩ := h2
      have hj : (0 : Int) + (i : Nat) = ((i : Nat) : Int) := by omega
      refine ⟨rfl, _, rfl, _, _, _, rfl, rfl, by decide, by rw [hj]; exact atI_nat (alph16 (by omega)), _, _, rfl, rfl, by show 1 + 1 ≤ 2 ^ 24; decide, ?_⟩
      refine ⟨_, e2, by rw [List.length_map, nmsN_length]; exact small1000 (by omega), x2.own hD e2, ?_⟩
      rw [upd_same, nmsN_succ, List.map_append]
      rfl
    · obtain ⟨x2, e2⟩ := h2
      exact ⟨D, _, rfl, .inl ⟨SqL.of e2, fun l hl => q l _ (x2.trans (.new hl)) (.inl (.inl upd_same))⟩⟩
/-! ### _law_kept_net -/
abbrev nKept : List Str := ["pairs", "heights", "readings", "a", "b"]
theorem scKept : FnScope nKept ["pairs", "heights"] (defScope sKept) := ⟨rfl, rfl, rfl, by decide +kernel, rfl, by decide +kernel, by decide +kernel⟩
def spKept (K : PySem.W.Frag) : Sp := fun vs H Q _ => ∃ (pl hq : Addr) (us : List V) (ps : List Pr2) (hs : List Int), vs = [.ref pl, .ref hq] ∧ SqL K H pl us ∧ Paired (PrAt K H) us ps ∧ GoodP hs.length ps ∧ SqT K H hq (hs.map V.int) ∧ hs.length ≤ 16 ∧ ps.length ≤ 500 ∧
  ∀ (p : Addr) (H' : Hp), Ext [] H H' → NetV K H' p (nmsN hs.length) (ps.map (keptR hs)) → Q (.ref p) H'
theorem ok_kept {f fN : Addr} {fd fdN : FuncData} (ml : mg "len" = none) (mr : mg "range" = none) (mt : mg "tuple" = none) (F : Fun K "_law_kept_net" "_law_kept_net" sKept f fd)
    (FN : Fun K "_law_names" "_law_names" sNames fN fdN) (bN : Binds K fdN ["many"] []) (gN : mg "_law_names" = some (.ref fN)) : FnOk P w K mg base CX0 2 f fd ["pairs", "heights"] (spKept K) := by
  have nd := scKept.nd
  have GN : FnOk P w K mg base CX0 1 fN fdN ["many"] (spNames K) := ok_names mr mt FN
  refine F.ok scKept (fun vs H Q E h => ?_) (fun cdv A outer s H vs Q E hr h => ?_)
  · obtain ⟨_, _, _, _, _, rfl, _⟩ := h
    rfl
  · obtain ⟨pl, hq, us, ps, hs, rfl, hl, pr, gp, hh, h16, l500, q⟩ := h
    refine ⟨_, pss_cons (ps_set (i := 2) nd rfl (.inl rfl) (pe_callTy call_tuple_of (by rfl) mt PyProof.Rows.boot_tuple (pa_cons (pe_lc (own := [("a", 3), ("b", 4)]) (g := gTup K 2 (gCons (gName 3) (gCons (gName 4) gNil))) (tt := tYes) rfl nd (pi_list (pv 0)) (blkOk_by (N := nKept) (sc := defScope sKept) (by decide +kernel))
        (fun _ _ _ _ _ => pg_tup rfl (pgs_cons (pg_name (i := 3) nd rfl (.inl rfl) (.inr rfl)) (pgs_cons (pg_name (i := 4) nd rfl (.inl rfl) (.inr rfl)) pgs_nil))) (fun _ _ _ _ _ => pts_nil) (fun _ _ _ _ _ => pe_tup (pa_cons (pv 3) (pa_cons (pv 4) (pa_cons (pe_op op_sub (pe_ix (r := rIxT K) ix_tup (pv 1) (pv 4) (fun _ _ => rfl)) (pe_ix (r := rIxT K) ix_tup (pv 1) (pv 3) (fun _ _ => rfl))) pa_nil))))) pa_nil)))
      (pss_one (ps_ret (pe_tup (pa_cons pe_str (pa_cons (pe_call GN hr (by rfl) gN FN.kp bN .nil pass0 (pa_cons (pe_callB call_len_seq (by rfl) ml PySem.boot_len (pa_cons (pv 1) pa_nil)) pa_nil)) (pa_cons (pv 2) pa_nil)))))), ?_⟩
    refine ⟨_, rfl, pl, rfl, ⟨_, hl⟩, fun D hD => ?_⟩
    have lus : us.length = ps.length := Paired.length pr
    refine lc_list (K := K) (a := pl) (xs := us) (fun i H2 => ∃ vs, Ext [] H H2 ∧ H2 D = some (.lst vs) ∧ Paired (RdAt K H2) vs ((ps.take i).map (keptR hs))) ⟨[], .new hD, upd_same, by simpa using Paired.nil⟩ (fun i H2 _ h2 => let ⟨_, x, _⟩ := h2; x.sqL hl (by simp)) (fun i x H2 hx h2 => ?_) (fun H2 h2 => ?_)
    · obtain ⟨vs, x2, e2, p2⟩ := h2
      have hi : i < us.length := (List.getElem?_eq_some_iff.mp hx).1
      have hi2 : i < ps.length := by omega
      obtain ⟨y, hy, t, rfl, ht⟩ := pr_at pr i ps[i] (List.getElem?_eq_getElem hi2)
      rw [hx] at hy
      obtain rfl := Option.some.inj hy
      obtain ⟨ga, gb, gn⟩ := gp ps[i] (List.getElem_mem hi2)
      have hh2 := x2.sqT hh
      refine ⟨t, _, rfl, x2.sqT ht, rfl, _, _, rfl, _, _, rfl, rfl, rfl, ?_⟩
      refine ⟨_, rfl, _, rfl, _, rfl, _, rfl, hq, _, _, _, rfl, rfl, hh2, atI_nat (ints_at gb), _, rfl, _, rfl, hq, _, _, _, rfl, rfl, hh2, atI_nat (ints_at ga), _, _, rfl, rfl, ?_⟩
      refine ⟨by show 3 ≤ sizeLine; decide, fun T hT => ?_⟩
      have x3 : Ext [] H2 (upd H2 T (.tup [.int (ps[i].1 : Nat), .int (ps[i].2 : Nat), .int (hs.getD ps[i].2 0 - hs.getD ps[i].1 0)])) := .new hT
      have q3 : SqT K (upd H2 T (.tup [.int (ps[i].1 : Nat), .int (ps[i].2 : Nat), .int (hs.getD ps[i].2 0 - hs.getD ps[i].1 0)])) T [.int (ps[i].1 : Nat), .int (ps[i].2 : Nat), .int (hs.getD ps[i].2 0 - hs.getD ps[i].1 0)] := .inl (.inl upd_same)
      generalize (upd H2 T (.tup [.int (ps[i].1 : Nat), .int (ps[i].2 : Nat), .int (hs.getD ps[i].2 0 - hs.getD ps[i].1 0)])) = H3 at x3 q3 ⊢
      have e3 := x3.lst e2 (by simp)
      have lvs := Paired.length p2
      rw [List.length_map, List.length_take] at lvs
      refine ⟨_, e3, small1000 (by omega), vs ++ [.ref T], (x2.trans x3).own hD e3, upd_same, ?_⟩
      rw [← snoc (keptR hs) ps hi2]
      have xs : Ext [D] H3 (upd H3 D (.lst (vs ++ [.ref T]))) := .set (by simp) e3
      exact pr_snoc (L2.Paired.mapP p2 fun _ _ k => (k.ext x3).ext xs) ⟨T, rfl, xs.sqT q3⟩
    · obtain ⟨vs, x2, e2, p2⟩ := h2
      rw [lus, List.take_length] at p2
      refine ⟨D, _, rfl, .inl ⟨SqL.of e2, fun l hl2 => ?_⟩⟩
      have x3 : Ext [] H2 (upd H2 l (.tup vs)) := .new hl2
      have q3 : SqT K (upd H2 l (.tup vs)) l vs := .inl (.inl upd_same)
      have p3 : Paired (RdAt K (upd H2 l (.tup vs))) vs (ps.map (keptR hs)) := L2.Paired.mapP p2 fun _ _ k => k.ext x3
      generalize (upd H2 l (.tup vs)) = H3 at x3 q3 p3 ⊢
      refine ⟨_, rfl, hq, _, rfl, .inr ((x2.trans x3).sqT hh), ?_⟩
      refine ⟨hs.length, by rw [List.length_map]; rfl, h16, fun nq H4 x4 e4 => ?_⟩
      refine ⟨_, rfl, by show 3 ≤ sizeLine; decide, fun p hp => ?_⟩
      have x5 : Ext [] H4 (upd H4 p (.tup [V.str "net", V.ref nq, V.ref l])) := .new hp
      exact q p _ (((x2.trans x3).trans x4).trans x5) ⟨nq, l, vs, .inl (.inl upd_same), x5.sqT e4, x5.sqT (x4.sqT q3), L2.Paired.mapP p3 fun _ _ k => (k.ext x4).ext x5⟩
end
end K35
set_option Elab.async false
set_option linter.all false
set_option maxRecDepth 100000
set_option maxHeartbeats 4000000
namespace K35
open PySem PySem.Spec PyProof.Rows L2 Gx RZ
theorem chg_snoc (rs : List Rd3) (rows : List (Nat × Int)) {i : Nat} (h : i < rows.length) : chg1 (chg rs (rows.take i)) rows[i] = chg rs (rows.take (i + 1)) := by
  unfold chg
  rw [List.take_add_one, List.getElem?_eq_getElem h, List.foldl_append]
  rfl
section
variable {P : Program} {w : World} {K : PySem.W.Frag} {mg : Str → Option Value} {base : Heap}
/-! ### _law_changed -/
abbrev nChanged : List Str := ["net", "rows", "readings", "index", "more", "a", "b", "value"]
theorem scChanged : FnScope nChanged ["net", "rows"] (defScope sChanged) := ⟨rfl, rfl, rfl, by decide +kernel, rfl, by decide +kernel, by decide +kernel⟩
def spChanged (K : PySem.W.Frag) : Sp := fun vs H Q _ => ∃ (np rl : Addr) (ms : List Str) (rs : List Rd3) (us : List V) (rows : List (Nat × Int)), vs = [.ref np, .ref rl] ∧ NetV K H np ms rs ∧ SqL K H rl us ∧ Paired (RwAt K H) us rows ∧ (∀ q ∈ rows, q.1 < rs.length) ∧
  ∀ (p : Addr) (H' : Hp), Ext [] H H' → NetV K H' p ms (chg rs rows) → Q (.ref p) H'
theorem ok_changed {f : Addr} {fd : FuncData} (mli : mg "list" = none) (mt : mg "tuple" = none) (F : Fun K "_law_changed" "_law_changed" sChanged f fd) : FnOk P w K mg base CX0 1 f fd ["net", "rows"] (spChanged K) := by
  have nd := scChanged.nd
  refine F.ok scChanged (fun vs H Q E h => ?_) (fun cdv A outer s H vs Q E hr h => ?_)
  · obtain ⟨_, _, _, _, _, _, rfl, _⟩ := h
    rfl
  · obtain ⟨np, rl, ms, rs, us, rows, rfl, ⟨mp, rp, vs0, s1, s2, s3, s4⟩, hl, pr, hlt, q⟩ := h
    refine ⟨_, pss_cons (ps_set (i := 2) nd rfl (.inl rfl) (pe_callTy call_list_of (by rfl) mli PyProof.Rows.boot_list (pa_cons (pe_ix ix_tup (pv 0) pe_int (fun _ _ => rfl)) pa_nil)))
      (pss_cons (ps_for PassesOwn.never rfl (pi_list (pv 1)) (pg_tup rfl (pgs_cons (pg_name (i := 3) nd rfl (.inl rfl)) (pgs_cons (pg_name (i := 4) nd rfl (.inl rfl)) pgs_nil)))
        (pss_cons (ps_asg (pe_ix ix_list (pv 2) (pv 3) (fun _ _ => rfl)) (pg_tup rfl (pgs_cons (pg_name (i := 5) nd rfl (.inl rfl)) (pgs_cons (pg_name (i := 6) nd rfl (.inl rfl)) (pgs_cons (pg_name (i := 7) nd rfl (.inl rfl)) pgs_nil)))))
        (pss_one (ps_asg (pe_tup (pa_cons (pv 5) (pa_cons (pv 6) (pa_cons (pe_op op_add (pv 7) (pv 4)) pa_nil)))) (pg_sub (pv 2) (pv 3) set_list)))))
      (pss_one (ps_ret (pe_tup (pa_cons pe_str (pa_cons (pe_ix ix_tup (pv 0) pe_int (fun _ _ => rfl)) (pa_cons (pe_callTy call_tuple_of (by rfl) mt PyProof.Rows.boot_tuple (pa_cons (pv 2) pa_nil)) pa_nil))))))), ?_⟩
    refine ⟨_, rfl, np, _, _, _, rfl, rfl, s1, atI_nat (j := 2) rfl, rp, _, rfl, .inr s3, fun L hL => ?_⟩
    have x1 : Ext [] H (upd H L (.lst vs0)) := .new hL
    have e1 : (upd H L (.lst vs0)) L = some (.lst vs0) := upd_same
    have p1 : Paired (RdAt K (upd H L (.lst vs0))) vs0 rs := L2.Paired.mapP s4 fun _ _ k => k.ext x1
    generalize (upd H L (.lst vs0)) = H1 at x1 e1 p1 ⊢
    have lus : us.length = rows.length := Paired.length pr
    refine ⟨_, rfl, rl, rfl, ⟨_, x1.sqL hl (by simp)⟩, ?_⟩
    refine for_list (K := K) (a := rl) (xs := us) (fun i σ H2 => ∃ y3 y4 y5 y6 y7 vs, σ = [some (.ref np), some (.ref rl), some (.ref L), y3, y4, y5, y6, y7] ∧ Ext [] H H2 ∧ H2 L = some (.lst vs) ∧ Paired (RdAt K H2) vs (chg rs (rows.take i)))
      ⟨_, _, _, _, _, vs0, rfl, x1, e1, by simpa [chg] using p1⟩ (fun i σ H2 _ h2 => let ⟨_, _, _, _, _, _, _, x, _⟩ := h2; x.sqL hl (by simp)) (fun i x σ H2 hx h2 => ?_) (fun σ H2 h2 => ?_)
    · obtain ⟨y3, y4, y5, y6, y7, vs, rfl, x2, e2, p2⟩ := h2
      have hi : i < us.length := (List.getElem?_eq_some_iff.mp hx).1
      have hi2 : i < rows.length := by omega
      obtain ⟨y, hy, t, rfl, ht⟩ := pr_at pr i rows[i] (List.getElem?_eq_getElem hi2)
      rw [hx] at hy
      obtain rfl := Option.some.inj hy
      have hb := hlt rows[i] (List.getElem_mem hi2)
      have lc : (chg rs (rows.take i)).length = rs.length := chg_length rs _
      rw [← chg_snoc rs rows hi2]
      generalize rows[i] = qq at hb ht ⊢
      generalize chg rs (rows.take i) = rc at p2 lc ⊢
      have hq : qq.1 < rc.length := by omega
      obtain ⟨z, hz, tz, rfl, hz2⟩ := pr_at p2 qq.1 rc[qq.1] (List.getElem?_eq_getElem hq)
      have lvs : vs.length = rc.length := Paired.length p2
      refine ⟨t, _, rfl, x2.sqT ht, rfl, _, _, rfl, _, _, rfl, rfl, ?_⟩
      refine ⟨_, rfl, _, rfl, L, _, _, _, rfl, rfl, SqL.of e2, atI_nat hz, tz, _, rfl, hz2, rfl, _, _, rfl, _, _, rfl, _, _, rfl, rfl, ?_⟩
      refine ⟨_, rfl, _, rfl, _, rfl, _, rfl, _, _, rfl, rfl, by show 3 ≤ sizeLine; decide, fun T hT => ?_⟩
      have eg : rc.getD qq.1 (0, 0, 0) = rc[qq.1] := by rw [List.getD_eq_getElem?_getD, List.getElem?_eq_getElem hq]; rfl
      have x3 : Ext [] H2 (upd H2 T (.tup [.int (rc[qq.1].1 : Nat), .int (rc[qq.1].2.1 : Nat), .int (rc[qq.1].2.2 + qq.2)])) := .new hT
      have q3 : SqT K (upd H2 T (.tup [.int (rc[qq.1].1 : Nat), .int (rc[qq.1].2.1 : Nat), .int (rc[qq.1].2.2 + qq.2)])) T [.int (rc[qq.1].1 : Nat), .int (rc[qq.1].2.1 : Nat), .int (rc[qq.1].2.2 + qq.2)] := .inl (.inl upd_same)
      generalize (upd H2 T (.tup [.int (rc[qq.1].1 : Nat), .int (rc[qq.1].2.1 : Nat), .int (rc[qq.1].2.2 + qq.2)])) = H3 at x3 q3 ⊢
      have e3 := x3.lst e2 (by simp)
      refine ⟨_, rfl, _, rfl, L, vs, _, qq.1, rfl, rfl, e3, ixN_nat (by omega), ?_⟩
      have xs : Ext [L] H3 (upd H3 L (.lst (vs.set qq.1 (.ref T)))) := .set (by simp) e3
      refine ⟨_, _, _, _, _, vs.set qq.1 (.ref T), rfl, (x2.trans x3).own hL e3, upd_same, ?_⟩
      unfold chg1
      rw [eg]
      exact pr_set qq.1 (L2.Paired.mapP p2 fun _ _ k => (k.ext x3).ext xs) ⟨T, rfl, xs.sqT q3⟩
    · obtain ⟨y3, y4, y5, y6, y7, vs, rfl, x2, e2, p2⟩ := h2
      rw [lus, List.take_length] at p2
      refine ⟨_, rfl, np, _, _, _, rfl, rfl, x2.sqT s1, atI_nat (j := 1) rfl, _, rfl, L, _, rfl, .inl ⟨SqL.of e2, fun t ht => ?_⟩⟩
      have x3 : Ext [] H2 (upd H2 t (.tup vs)) := .new ht
      have q3 : SqT K (upd H2 t (.tup vs)) t vs := .inl (.inl upd_same)
      have p3 : Paired (RdAt K (upd H2 t (.tup vs))) vs (chg rs rows) := L2.Paired.mapP p2 fun _ _ k => k.ext x3
      generalize (upd H2 t (.tup vs)) = H3 at x3 q3 p3 ⊢
      refine ⟨by show 3 ≤ sizeLine; decide, fun p hp => ?_⟩
      have x4 : Ext [] H3 (upd H3 p (.tup [V.str "net", V.ref mp, V.ref t])) := .new hp
      exact q p _ ((x2.trans x3).trans x4) ⟨mp, t, vs, .inl (.inl upd_same), ((x2.trans x3).trans x4).sqT s2, x4.sqT q3, L2.Paired.mapP p3 fun _ _ k => k.ext x4⟩
/-! ### _law_some -/
abbrev nSome : List Str := ["box", "many", "most", "found", "turn", "index"]
theorem scSome : FnScope nSome ["box", "many", "most"] (defScope sSome) := ⟨rfl, rfl, rfl, by decide +kernel, rfl, by decide +kernel, by decide +kernel⟩
def natV (js : List Nat) : List V := js.map fun (j : Nat) => V.int (j : Int)
def spSome (K : PySem.W.Frag) : Sp := fun vs H Q _ => ∃ (b d : Addr) (many most : Nat), vs = [.ref b, .int (many : Nat), .int (most : Nat)] ∧ Box H b d ∧ most ≤ 20 ∧ many ≤ 1000 ∧
  ∀ (l : Addr) (js : List Nat) (H' : Hp), js.length ≤ most → (∀ j ∈ js, j < many) → Ext [b] H H' → Box H' b d → H l = none → l ≠ b → H' l = some (.lst (natV js)) → Q (.ref l) H'
theorem nat_list : ∀ {ns : List Int}, (∀ x ∈ ns, 0 ≤ x) → ∃ js : List Nat, ns.map V.int = natV js ∧ js.length = ns.length ∧ ∀ j ∈ js, (j : Int) ∈ ns
  | [], _ => ⟨[], rfl, rfl, fun j hj => by cases hj⟩
  | x :: r, h => by
    obtain ⟨js, e1, e2, e3⟩ := nat_list (ns := r) fun y hy => h y (List.mem_cons_of_mem _ hy)
    obtain ⟨j, hj⟩ := nat_of (h x List.mem_cons_self)
    refine ⟨j :: js, ?_, by rw [List.length_cons, e2, List.length_cons], fun i hi => ?_⟩
    · show V.int x :: r.map V.int = V.int (j : Int) :: natV js
      rw [e1, hj]
    · rcases List.mem_cons.mp hi with rfl | hi
      · rw [hj]; exact List.mem_cons_self
      · exact List.mem_cons_of_mem _ (e3 i hi)
theorem ok_some {f fD : Addr} {fd fdD : FuncData} (ml : mg "len" = none) (mi : mg "int" = none) (mr : mg "range" = none) (mmi : mg "min" = none) (mso : mg "sorted" = none) (F : Fun K "_law_some" "_law_some" sSome f fd)
    (FD : Fun K "_law_draw" "_law_draw" sDraw fD fdD) (bD : Binds K fdD ["box", "many"] []) (gD : mg "_law_draw" = some (.ref fD)) : FnOk P w K mg base CX0 2 f fd ["box", "many", "most"] (spSome K) := by
  have nd := scSome.nd
  have GD : FnOk P w K mg base CX0 1 fD fdD ["box", "many"] spDraw := ok_draw ml mi FD
  refine F.ok scSome (fun vs H Q E h => ?_) (fun cdv A outer s H vs Q E hr h => ?_)
  · obtain ⟨_, _, _, _, rfl, _⟩ := h
    rfl
  · obtain ⟨b, d, many, most, rfl, hb, m20, m1000, q⟩ := h
    refine ⟨_, pss_cons (ps_set (i := 3) nd rfl (.inl rfl) (pe_lst pa_nil))
      (pss_cons (ps_for PassesOwn.never rfl (pi_range1 (by rfl) mr (pa_cons (pe_callB (call_min2 rfl) (by rfl) mmi PyProof.Rows.boot_min (pa_cons (pv 2) (pa_cons (pv 1) pa_nil))) pa_nil)) (pg_name (i := 4) nd rfl (.inl rfl))
        (pss_cons (ps_set (i := 5) nd rfl (.inl rfl) (pe_call GD hr (by rfl) gD FD.kp bD .nil pass0 (pa_cons (pv 0) (pa_cons (pv 1) pa_nil))))
        (pss_one (ps_if (pt_cmpR (r := rIn K true) op_notIn_seq (pv 5) (pv 3) (by rfl)) (pss_one (ps_expr (pe_bm PySem.F.plainAttrs_list PySem.F.slot_list_append PySem.F.type_list_append mt_append (pv 3) (pa_cons (pv 5) pa_nil)))) pss_nil))))
      (pss_one (ps_ret (pe_callB cr_sortedI (by rfl) mso PyProof.Rows.boot_sorted (pa_cons (pv 3) pa_nil))))), ?_⟩
    refine ⟨by decide, fun l hl => ?_⟩
    have nlb := hb.new hl
    refine ⟨_, rfl, _, rfl, _, _, rfl, _, rfl, ?_, ?_, ?_⟩
    · split <;> omega
    · split <;> omega
    have et : (if (many : Int) < (most : Int) then (many : Int) else (most : Int)).toNat ≤ most ∧ (if (many : Int) < (most : Int) then (many : Int) else (most : Int)).toNat ≤ many := by split <;> omega
    generalize (if (many : Int) < (most : Int) then (many : Int) else (most : Int)).toNat = T at et ⊢
    refine for_range (n := T) (fun i σ H2 => ∃ y4 y5 ns, σ = [some (.ref b), some (.int (many : Nat)), some (.int (most : Nat)), some (.ref l), y4, y5] ∧ ns.length ≤ i ∧ (∀ x ∈ ns, 0 ≤ x ∧ x < (many : Int)) ∧ Ext [b] H H2 ∧ Box H2 b d ∧ H2 l = some (.lst (ns.map V.int)))
      ⟨_, _, [], rfl, Nat.le_refl _, (fun x hx => by cases hx), .new hl, hb.ext (.new hl), upd_same⟩ (fun i σ H2 hi h2 => ?_) (fun σ H2 h2 => ?_)
    · obtain ⟨y4, y5, ns, rfl, ln, bn, x2, b2, el⟩ := h2
      refine ⟨_, rfl, _, rfl, b, d, _, rfl, b2, by omega, fun r1 H3 g0 g1 x3 b3 => ?_⟩
      have el3 := x3.lst el (by rw [List.mem_singleton]; exact nlb)
      refine ⟨_, rfl, _, rfl, l, _, rfl, .inl (SqL.of el3), rfl, by rw [List.all_eq_true]; intro v hv; obtain ⟨z, _, rfl⟩ := List.mem_map.mp hv; rfl, _, rfl, ite2 (fun c => ?_) (fun c => ?_)⟩
      · refine ⟨_, rfl, .inl ⟨rfl, _, SqL.of el3⟩, _, rfl, l, _, _, rfl, rfl, el3, by rw [List.length_map]; exact small1000 (by omega), ?_⟩
        refine ⟨_, _, ns ++ [r1], rfl, by rw [List.length_append]; simpa using ln, fun x hx => ?_, (x2.trans x3).own hl el3, hb.upd b3 hl, by rw [upd_same, List.map_append]; rfl⟩
        rcases List.mem_append.mp hx with hx | hx
        · exact bn x hx
        · rw [List.mem_singleton.mp hx]
          exact ⟨g0, g1⟩
      · exact ⟨_, _, ns, rfl, by omega, bn, x2.trans x3, b3, el3⟩
    · obtain ⟨y4, y5, ns, rfl, ln, bn, x2, b2, el⟩ := h2
      refine ⟨_, rfl, l, ns, rfl, SqL.of el, fun ns' p pm srt hp => ?_⟩
      obtain ⟨js, j1, j2, j3⟩ := nat_list (ns := ns') fun x hx => (bn x (pm.mem_iff.mp hx)).1
      have lp := pm.length_eq
      refine q p js _ (by omega) (fun j hj => ?_) (x2.trans (.new hp)) (b2.ext (.new hp)) (x2.dom p hp) (b2.new hp) (by rw [upd_same, j1])
      have := (bn _ (pm.mem_iff.mp (j3 j hj))).2
      omega
end
end K35
set_option Elab.async false
set_option linter.all false
set_option maxRecDepth 100000
set_option maxHeartbeats 4000000
namespace K35
open PySem PySem.Spec PyProof.Rows L2 Gx RZ
section
variable {P : Program} {w : World} {K : PySem.W.Frag} {mg : Str → Option Value} {base : Heap}
theorem natV_at {js : List Nat} {i : Nat} {x : V} (h : (natV js)[i]? = some x) : ∃ hi : i < js.length, x = .int (js[i] : Nat) := by
  unfold natV at h
  rw [List.getElem?_map] at h
  cases e : js[i]? with
  | none => rw [e] at h; cases h
  | some y =>
    rw [e] at h
    obtain ⟨h1, h2⟩ := List.getElem?_eq_some_iff.mp e
    exact ⟨h1, by rw [h2]; exact (Option.some.inj h).symm⟩
/-! ### _law_lied -/
abbrev nLied : List Str := ["box", "net", "most", "rows", "index"]
theorem scLied : FnScope nLied ["box", "net", "most"] (defScope sLied) := ⟨rfl, rfl, rfl, by decide +kernel, rfl, by decide +kernel, by decide +kernel⟩
def RowsOk (n most : Nat) (rows : List (Nat × Int)) : Prop := rows.length ≤ most ∧ ∀ q ∈ rows, q.1 < n ∧ -30 ≤ q.2 ∧ q.2 ≤ 30
def spLied (K : PySem.W.Frag) : Sp := fun vs H Q _ => ∃ (b d np : Addr) (ms : List Str) (rs : List Rd3) (most : Nat), vs = [.ref b, .ref np, .int (most : Nat)] ∧ Box H b d ∧ NetV K H np ms rs ∧ most ≤ 20 ∧ rs.length ≤ 1000 ∧
  ∀ (p : Addr) (rows : List (Nat × Int)) (H' : Hp), RowsOk rs.length most rows → Ext [b] H H' → Box H' b d → NetV K H' p ms (chg rs rows) → Q (.ref p) H'
theorem ok_lied {f fD fS fC : Addr} {fd fdD fdS fdC : FuncData} (ml : mg "len" = none) (mi : mg "int" = none) (mr : mg "range" = none) (mmi : mg "min" = none) (mso : mg "sorted" = none) (mli : mg "list" = none) (mt : mg "tuple" = none) (F : Fun K "_law_lied" "_law_lied" sLied f fd)
    (FD : Fun K "_law_draw" "_law_draw" sDraw fD fdD) (bD : Binds K fdD ["box", "many"] []) (gD : mg "_law_draw" = some (.ref fD))
    (FS : Fun K "_law_some" "_law_some" sSome fS fdS) (bS : Binds K fdS ["box", "many", "most"] []) (gS : mg "_law_some" = some (.ref fS))
    (FC : Fun K "_law_changed" "_law_changed" sChanged fC fdC) (bC : Binds K fdC ["net", "rows"] []) (gC : mg "_law_changed" = some (.ref fC)) : FnOk P w K mg base CX0 3 f fd ["box", "net", "most"] (spLied K) := by
  have nd := scLied.nd
  have GD : FnOk P w K mg base CX0 1 fD fdD ["box", "many"] spDraw := ok_draw ml mi FD
  have GS : FnOk P w K mg base CX0 2 fS fdS ["box", "many", "most"] (spSome K) := ok_some ml mi mr mmi mso FS FD bD gD
  have GC : FnOk P w K mg base CX0 1 fC fdC ["net", "rows"] (spChanged K) := ok_changed mli mt FC
  refine F.ok scLied (fun vs H Q E h => ?_) (fun cdv A outer s H vs Q E hr h => ?_)
  · obtain ⟨_, _, _, _, _, _, rfl, _⟩ := h
    rfl
  · obtain ⟨b, d, np, ms, rs, most, rfl, hb, hn, m20, l1000, q⟩ := h
    have hr1 : Room 1 (A.deeper (envOfC "_law_lied" (defScope sLied) s.heap.objs.size f cdv)) := hr.mono (by decide)
    refine ⟨_, pss_cons (ps_setLc (i := 3) (own := [("index", 4)]) (g := gName 4) (tt := tYes) rfl nd rfl rfl (sw_true rfl rfl rfl (by decide +kernel)) (pi_list (pe_call GS hr (by rfl) gS FS.kp bS .nil pass0 (pa_cons (pv 0) (pa_cons (pe_callB call_len_seq (by rfl) ml PySem.boot_len (pa_cons (pe_ix ix_tup (pv 1) pe_int (fun _ _ => rfl)) pa_nil)) (pa_cons (pv 2) pa_nil))))) (blkOk_by (N := nLied) (sc := defScope sLied) (by decide +kernel))
        (fun _ _ _ _ _ => pg_name (i := 4) nd rfl (.inl rfl)) (fun _ _ _ _ _ => pts_nil) (fun _ _ _ _ _ => pe_tup (pa_cons (pv 4) (pa_cons (pe_op op_mul (pe_op op_add pe_int (pe_call GD hr1 (by rfl) gD FD.kp bD .nil pass0 (pa_cons (pv 0) (pa_cons pe_int pa_nil)))) (pe_op op_sub (pe_op op_mul pe_int (pe_call GD hr1 (by rfl) gD FD.kp bD .nil pass0 (pa_cons (pv 0) (pa_cons pe_int pa_nil)))) pe_int)) pa_nil))))
      (pss_one (ps_ret (pe_call GC hr1 (by rfl) gC FC.kp bC .nil pass0 (pa_cons (pv 1) (pa_cons (pv 3) pa_nil))))), ?_⟩
    obtain ⟨mp, rp, vs0, s1, s2, s3, s4⟩ := id hn
    have lv : vs0.length = rs.length := Paired.length s4
    refine ⟨_, rfl, _, rfl, np, _, _, _, rfl, rfl, s1, atI_nat (j := 2) rfl, rp, _, rfl, .inr s3, _, rfl, ?_⟩
    refine ⟨b, d, vs0.length, most, rfl, hb, m20, by omega, fun l js H1 lj bj x1 b1 hl nlb el => ?_⟩
    refine ⟨l, rfl, ⟨_, SqL.of el⟩, fun D hD => ?_⟩
    have hD0 := x1.dom D hD
    refine lc_list (K := K) (a := l) (xs := natV js) (fun i H2 => ∃ us rows, Ext [b] H H2 ∧ Box H2 b d ∧ H2 l = some (.lst (natV js)) ∧ H2 D = some (.lst us) ∧ Paired (RwAt K H2) us rows ∧ rows.length = i ∧ (∀ q ∈ rows, q.1 < rs.length ∧ -30 ≤ q.2 ∧ q.2 ≤ 30) ∧ D ≠ b ∧ D ≠ l)
      ⟨[], [], x1.trans (.new hD), b1.ext (.new hD), by rw [upd_ne (ne_of_none el hD)]; exact el, upd_same, .nil, rfl, (fun q hq => by cases hq), b1.new hD, (ne_of_none el hD).symm⟩ (fun i H2 _ h2 => let ⟨_, _, _, _, e, _⟩ := h2; SqL.of e) (fun i x H2 hx h2 => ?_) (fun H2 h2 => ?_)
    · obtain ⟨us, rows, x2, b2, el2, eD, pr, lr, br, nb, nl⟩ := h2
      obtain ⟨hi, rfl⟩ := natV_at hx
      have hj := bj js[i] (List.getElem_mem hi)
      refine ⟨rfl, _, rfl, ?_⟩
      refine ⟨_, rfl, b, d, 30, rfl, b2, by decide, fun r1 H3 g0 g1 x3 b3 => ⟨_, _, rfl, rfl, ?_⟩⟩
      refine ⟨_, rfl, b, d, 2, rfl, b3, by decide, fun r2 H4 g2 g3 x4 b4 => ⟨_, _, rfl, rfl, .inl (by decide), _, _, rfl, rfl, _, _, rfl, rfl, .inl ⟨by omega, by omega⟩, ?_⟩⟩
      refine ⟨by show 2 ≤ sizeLine; decide, fun T hT => ?_⟩
      have bv : -30 ≤ (1 + r1) * (2 * r2 - 1) ∧ (1 + r1) * (2 * r2 - 1) ≤ 30 := by
        have : r2 = 0 ∨ r2 = 1 := by omega
        rcases this with rfl | rfl
        · rw [show (2 : Int) * 0 - 1 = -1 by decide]
          omega
        · rw [show (2 : Int) * 1 - 1 = 1 by decide]
          omega
      dsimp only
      generalize (1 + r1) * (2 * r2 - 1) = m at bv ⊢
      have x5 : Ext [] H4 (upd H4 T (.tup [.int (js[i] : Nat), .int m])) := .new hT
      have q5 : SqT K (upd H4 T (.tup [.int (js[i] : Nat), .int m])) T [.int (js[i] : Nat), .int m] := .inl (.inl upd_same)
      generalize (upd H4 T (.tup [.int (js[i] : Nat), .int m])) = H5 at x5 q5 ⊢
      have x25 : Ext [b] H2 H5 := (x3.trans x4).trans (x5.mono (by simp))
      have eD5 := x25.lst eD (by rw [List.mem_singleton]; exact nb)
      have el5 := x25.lst el2 (by rw [List.mem_singleton]; exact nlb)
      have xs : Ext [D] H5 (upd H5 D (.lst (us ++ [.ref T]))) := .set (by simp) eD5
      have lus : us.length = i := by rw [Paired.length pr, lr]
      refine ⟨us, eD5, small1000 (by omega), us ++ [.ref T], rows ++ [(js[i], m)], (x2.trans x25).own hD0 eD5, hb.upd (b4.ext x5) hD0, by rw [upd_ne nl.symm]; exact el5, upd_same, pr_snoc (L2.Paired.mapP pr fun _ _ k => (k.ext x25).ext xs) ⟨T, rfl, xs.sqT q5⟩, by rw [List.length_append, lr]; rfl, fun z hz => ?_, nb, nl⟩
      rcases List.mem_append.mp hz with hz | hz
      · exact br z hz
      · rw [List.mem_singleton.mp hz]
        exact ⟨by dsimp only; omega, bv⟩
    · obtain ⟨us, rows, x2, b2, el2, eD, pr, lr, br, nb, nl⟩ := h2
      have ln : (natV js).length = js.length := List.length_map _
      rw [ln] at lr
      refine ⟨_, rfl, _, rfl, np, D, ms, rs, us, rows, rfl, hn.ext x2, SqL.of eD, pr, fun z hz => (br z hz).1, fun p H6 x6 hp => ?_⟩
      exact q p rows H6 ⟨by omega, br⟩ (x2.trans (x6.mono (by simp))) (b2.ext x6) hp
/-! ### _law_net -/
abbrev nNet : List Str := ["box", "most_marks", "most_extra", "many", "pairs", "net"]
theorem scNet : FnScope nNet ["box", "most_marks", "most_extra"] (defScope sNet) := ⟨rfl, rfl, rfl, by decide +kernel, rfl, by decide +kernel, by decide +kernel⟩
/-- what a drawn net is made of -/
structure Made (mm me : Nat) (hs : List Int) (ps : List Pr2) (rows : List (Nat × Int)) : Prop where
  lo : 2 ≤ hs.length
  hi : hs.length ≤ mm
  z : hs.getD 0 0 = 0
  bd : ∀ x ∈ hs, -20 ≤ x ∧ x ≤ 20
  pl : hs.length - 1 ≤ ps.length
  pu : ps.length ≤ hs.length - 1 + me
  gd : GoodP hs.length ps
  lk : LinkP ps hs.length
  rw_ : RowsOk ps.length 4 rows
def spNet (K : PySem.W.Frag) : Sp := fun vs H Q _ => ∃ (b d : Addr) (mm me : Nat), vs = [.ref b, .int (mm : Nat), .int (me : Nat)] ∧ Box H b d ∧ 2 ≤ mm ∧ mm ≤ 16 ∧ me ≤ 50 ∧
  ∀ (p : Addr) (hs : List Int) (ps : List Pr2) (rows : List (Nat × Int)) (H' : Hp), Made mm me hs ps rows → Ext [b] H H' → Box H' b d → NetV K H' p (nmsN hs.length) (chg (ps.map (keptR hs)) rows) → Q (.ref p) H'
structure FamB (K : PySem.W.Frag) (mg : Str → Option Value) : Prop where
  len : mg "len" = none
  int : mg "int" = none
  range : mg "range" = none
  min : mg "min" = none
  sorted : mg "sorted" = none
  list : mg "list" = none
  tuple : mg "tuple" = none
theorem ok_net {f fD fP fPa fH fN fK fS fC fL : Addr} {fd fdD fdP fdPa fdH fdN fdK fdS fdC fdL : FuncData} (B : FamB K mg) (F : Fun K "_law_net" "_law_net" sNet f fd)
    (FD : Fun K "_law_draw" "_law_draw" sDraw fD fdD) (bD : Binds K fdD ["box", "many"] []) (gD : mg "_law_draw" = some (.ref fD))
    (FP : Fun K "_law_pick" "_law_pick" sPick fP fdP) (bP : Binds K fdP ["box", "things"] []) (gP : mg "_law_pick" = some (.ref fP))
    (FPa : Fun K "_law_pairs" "_law_pairs" sPairs fPa fdPa) (bPa : Binds K fdPa ["box", "many", "extra"] []) (gPa : mg "_law_pairs" = some (.ref fPa))
    (FH : Fun K "_law_heights" "_law_heights" sHeights fH fdH) (bH : Binds K fdH ["box", "many"] []) (gH : mg "_law_heights" = some (.ref fH))
    (FN : Fun K "_law_names" "_law_names" sNames fN fdN) (bN : Binds K fdN ["many"] []) (gN : mg "_law_names" = some (.ref fN))
    (FK : Fun K "_law_kept_net" "_law_kept_net" sKept fK fdK) (bK : Binds K fdK ["pairs", "heights"] []) (gK : mg "_law_kept_net" = some (.ref fK))
    (FS : Fun K "_law_some" "_law_some" sSome fS fdS) (bS : Binds K fdS ["box", "many", "most"] []) (gS : mg "_law_some" = some (.ref fS))
    (FC : Fun K "_law_changed" "_law_changed" sChanged fC fdC) (bC : Binds K fdC ["net", "rows"] []) (gC : mg "_law_changed" = some (.ref fC))
    (FL : Fun K "_law_lied" "_law_lied" sLied fL fdL) (bL : Binds K fdL ["box", "net", "most"] []) (gL : mg "_law_lied" = some (.ref fL)) : FnOk P w K mg base CX0 4 f fd ["box", "most_marks", "most_extra"] (spNet K) := by
  have nd := scNet.nd
  have GD : FnOk P w K mg base CX0 1 fD fdD ["box", "many"] spDraw := ok_draw B.len B.int FD
  have GPa : FnOk P w K mg base CX0 3 fPa fdPa ["box", "many", "extra"] (spPairs K) := ok_pairs B.len B.int B.range FPa FD bD gD FP bP gP
  have GH : FnOk P w K mg base CX0 2 fH fdH ["box", "many"] (spHeights K) := ok_heights B.len B.int B.range B.tuple FH FD bD gD
  have GK : FnOk P w K mg base CX0 2 fK fdK ["pairs", "heights"] (spKept K) := ok_kept B.len B.range B.tuple FK FN bN gN
  have GL : FnOk P w K mg base CX0 3 fL fdL ["box", "net", "most"] (spLied K) := ok_lied B.len B.int B.range B.min B.sorted B.list B.tuple FL FD bD gD FS bS gS FC bC gC
  refine F.ok scNet (fun vs H Q E h => ?_) (fun cdv A outer s H vs Q E hr h => ?_)
  · obtain ⟨_, _, _, _, rfl, _⟩ := h
    rfl
  · obtain ⟨b, d, mm, me, rfl, hb, m2, m16, me50, q⟩ := h
    have hr1 : Room 1 (A.deeper (envOfC "_law_net" (defScope sNet) s.heap.objs.size f cdv)) := hr.mono (by decide)
    have hr2 : Room 2 (A.deeper (envOfC "_law_net" (defScope sNet) s.heap.objs.size f cdv)) := hr.mono (by decide)
    refine ⟨_, pss_cons (ps_set (i := 3) nd rfl (.inl rfl) (pe_op op_add pe_int (pe_call GD hr1 (by rfl) gD FD.kp bD .nil pass0 (pa_cons (pv 0) (pa_cons (pe_op op_sub (pv 1) pe_int) pa_nil)))))
      (pss_cons (ps_set (i := 4) nd rfl (.inl rfl) (pe_call GPa hr (by rfl) gPa FPa.kp bPa .nil pass0 (pa_cons (pv 0) (pa_cons (pv 3) (pa_cons (pe_call GD hr1 (by rfl) gD FD.kp bD .nil pass0 (pa_cons (pv 0) (pa_cons (pe_op op_add (pv 2) pe_int) pa_nil))) pa_nil)))))
      (pss_cons (ps_set (i := 5) nd rfl (.inl rfl) (pe_call GK hr2 (by rfl) gK FK.kp bK .nil pass0 (pa_cons (pv 4) (pa_cons (pe_call GH hr2 (by rfl) gH FH.kp bH .nil pass0 (pa_cons (pv 0) (pa_cons (pv 3) pa_nil))) pa_nil))))
      (pss_one (ps_ret (pe_call GL hr (by rfl) gL FL.kp bL .nil pass0 (pa_cons (pv 0) (pa_cons (pv 5) (pa_cons (pe_call GD hr1 (by rfl) gD FD.kp bD .nil pass0 (pa_cons (pv 0) (pa_cons pe_int pa_nil))) pa_nil)))))))), ?_⟩
    refine ⟨_, rfl, _, rfl, _, _, rfl, rfl, b, d, _, rfl, hb, by omega, fun r1 H1 g0 g1 x1 b1 => ⟨_, _, rfl, rfl, ?_⟩⟩
    obtain ⟨n, hn⟩ : ∃ n : Nat, (2 : Int) + r1 = (n : Int) := nat_of (by omega)
    dsimp only
    rw [hn]
    have n2 : 2 ≤ n := by omega
    have nm : n ≤ mm := by omega
    refine ⟨_, rfl, _, rfl, _, rfl, _, rfl, _, _, rfl, rfl, b, d, _, rfl, b1, by omega, fun r2 H2 g2 g3 x2 b2 => ?_⟩
    obtain ⟨ex, rfl⟩ := nat_of g2
    refine ⟨b, d, n, ex, rfl, b2, by omega, by omega, by omega, .inr n2, fun l us ps H3 lp gp lk x3 b3 hl nlb el pr => ?_⟩
    refine ⟨_, rfl, _, rfl, _, rfl, b, d, n, rfl, b3, by omega, by omega, fun hq hs H4 hl4 hz hbd x4 b4 eh => ?_⟩
    have el4 := x4.lst el (by rw [List.mem_singleton]; exact nlb)
    refine ⟨l, hq, us, ps, hs, rfl, SqL.of el4, L2.Paired.mapP pr fun _ _ k => k.ext x4, by rw [hl4]; exact gp, eh, by omega, by omega, fun p H5 x5 hp => ?_⟩
    have b5 := b4.ext x5
    refine ⟨_, rfl, _, rfl, _, rfl, b, d, 5, rfl, b5, by decide, fun r3 H6 g4 g5 x6 b6 => ?_⟩
    obtain ⟨mo, rfl⟩ := nat_of g4
    refine ⟨b, d, p, nmsN hs.length, ps.map (keptR hs), mo, rfl, b6, hp.ext x6, by omega, by rw [List.length_map]; omega, fun pp rows H7 ro x7 b7 h7 => ?_⟩
    rw [List.length_map] at ro
    exact q pp hs ps rows H7 ⟨by omega, by omega, hz, hbd, by omega, by omega, by rw [hl4]; exact gp, by rw [hl4]; exact lk, ⟨by have := ro.1; omega, ro.2⟩⟩ ((((((x1.trans x2).trans x3).trans x4).trans (x5.mono (by simp))).trans x6).trans x7) b7 h7
/-! ### _law_any_net -/
abbrev nAny : List Str := ["box", "most_marks", "most_extra"]
theorem scAny : FnScope nAny ["box", "most_marks", "most_extra"] (defScope sAnyNet) := ⟨rfl, rfl, rfl, by decide +kernel, rfl, by decide +kernel, by decide +kernel⟩
def spAny (K : PySem.W.Frag) : Sp := fun vs H Q _ => ∃ (b d : Addr) (mm me : Nat), vs = [.ref b, .int (mm : Nat), .int (me : Nat)] ∧ Box H b d ∧ 2 ≤ mm ∧ mm ≤ 16 ∧ me ≤ 50 ∧
  (∀ (p : Addr) (hs : List Int) (ps : List Pr2) (rows : List (Nat × Int)) (H' : Hp), Made mm me hs ps rows → Ext [b] H H' → Box H' b d → NetV K H' p (nmsN hs.length) (chg (ps.map (keptR hs)) rows) → Q (.ref p) H') ∧
  ∀ (p : Addr) (H' : Hp), Ext [b] H H' → Box H' b d → NetV K H' p ["lone"] [] → Q (.ref p) H'
theorem ok_any {f fD fN : Addr} {fd fdD fdN : FuncData} (B : FamB K mg) (F : Fun K "_law_any_net" "_law_any_net" sAnyNet f fd)
    (FD : Fun K "_law_draw" "_law_draw" sDraw fD fdD) (bD : Binds K fdD ["box", "many"] []) (gD : mg "_law_draw" = some (.ref fD))
    (GN : FnOk P w K mg base CX0 4 fN fdN ["box", "most_marks", "most_extra"] (spNet K)) (kN : PySem.W.keepIn K (.ref fN) = true) (bN : Binds K fdN ["box", "most_marks", "most_extra"] []) (gN : mg "_law_net" = some (.ref fN)) :
    FnOk P w K mg base CX0 5 f fd ["box", "most_marks", "most_extra"] (spAny K) := by
  have nd := scAny.nd
  have GD : FnOk P w K mg base CX0 1 fD fdD ["box", "many"] spDraw := ok_draw B.len B.int FD
  refine F.ok scAny (fun vs H Q E h => ?_) (fun cdv A outer s H vs Q E hr h => ?_)
  · obtain ⟨_, _, _, _, rfl, _⟩ := h
    rfl
  · obtain ⟨b, d, mm, me, rfl, hb, m2, m16, me50, q1, q2⟩ := h
    have hr1 : Room 1 (A.deeper (envOfC "_law_any_net" (defScope sAnyNet) s.heap.objs.size f cdv)) := hr.mono (by decide)
    refine ⟨_, pss_cons (ps_if (pt_cmpR op_eq (pe_call GD hr1 (by rfl) gD FD.kp bD .nil pass0 (pa_cons (pv 0) (pa_cons pe_int pa_nil))) pe_int (nomark _)) (pss_one (ps_ret (pe_tup (pa_cons pe_str (pa_cons (pe_tup (pa_cons pe_str pa_nil)) (pa_cons (pe_tup pa_nil) pa_nil)))))) pss_nil)
      (pss_one (ps_ret (pe_call GN hr (by rfl) gN kN bN .nil pass0 (pa_cons (pv 0) (pa_cons (pv 1) (pa_cons (pv 2) pa_nil)))))), ?_⟩
    refine ⟨_, rfl, b, d, 12, rfl, hb, by decide, fun r1 H1 g0 g1 x1 b1 => ⟨rfl, _, rfl, ite2 (fun c => ?_) (fun c => ?_)⟩⟩
    · refine ⟨by show 1 ≤ sizeLine; decide, fun t1 ht1 => ?_⟩
      have x2 : Ext [] H1 (upd H1 t1 (.tup [V.str "lone"])) := .new ht1
      have q2' : SqT K (upd H1 t1 (.tup [V.str "lone"])) t1 [V.str "lone"] := .inl (.inl upd_same)
      generalize (upd H1 t1 (.tup [V.str "lone"])) = H2 at x2 q2' ⊢
      refine ⟨by show 0 ≤ sizeLine; decide, fun t2 ht2 => ?_⟩
      have x3 : Ext [] H2 (upd H2 t2 (.tup [])) := .new ht2
      have q3 : SqT K (upd H2 t2 (.tup [])) t2 [] := .inl (.inl upd_same)
      generalize (upd H2 t2 (.tup [])) = H3 at x3 q3 ⊢
      refine ⟨by show 3 ≤ sizeLine; decide, fun p hp => ?_⟩
      have x4 : Ext [] H3 (upd H3 p (.tup [V.str "net", V.ref t1, V.ref t2])) := .new hp
      exact q2 p _ (x1.trans (((x2.trans x3).trans x4).mono (by simp))) (((b1.ext x2).ext x3).ext x4) ⟨t1, t2, [], .inl (.inl upd_same), (x3.trans x4).sqT q2', x4.sqT q3, .nil⟩
    · refine ⟨_, rfl, _, rfl, _, rfl, b, d, mm, me, rfl, b1, m2, m16, me50, fun p hs ps rows H2 hm x2 b2 hp => q1 p hs ps rows H2 hm (x1.trans x2) b2 hp⟩
end
end K35
set_option Elab.async false
set_option linter.all false
set_option maxRecDepth 100000
set_option maxHeartbeats 4000000
namespace Gx
open PySem PySem.Spec PyProof.Rows L2 RZ TL PySem.StrLaws
/-! ### texts, sign by sign -/
def startsL (c : Nat) (l : List Nat) : Bool := l.head? == some c
theorem sw_one (x : Str) (c : Nat) : Txt.startswith x ⟨#[c]⟩ = startsL c (tl x) := by
  have hy : tl (⟨#[c]⟩ : Str) ≠ [] := by simp [tl]
  have h := at_iff (x := x) hy 0
  rw [List.drop_zero] at h
  have h1 : (Txt.startswith x ⟨#[c]⟩ = true) ↔ At x ⟨#[c]⟩ x.length 0 := by
    unfold Txt.startswith
    rw [Bool.and_eq_true, decide_eq_true_eq]
    exact Iff.rfl
  have h2 : pre (tl (⟨#[c]⟩ : Str)) (tl x) = startsL c (tl x) := by
    show ((tl x).take 1 == [c]) = startsL c (tl x)
    unfold startsL
    cases tl x with
    | nil => rfl
    | cons a r => 
      show ([a] == [c]) = (some a == some c)
      simp
  rw [← h2]
  cases e : Txt.startswith x ⟨#[c]⟩ with
  | true => exact (h.mp (h1.mp e)).symm
  | false =>
    cases e2 : pre (tl (⟨#[c]⟩ : Str)) (tl x) with
    | false => rfl
    | true => rw [h1.mpr (h.mpr e2)] at e; cases e
theorem tl_cut_from (x : Str) (j : Nat) (h : j ≤ x.length) : tl (cutS x (some (j : Int)) none) = (tl x).drop j := by
  unfold cutS
  rw [HT.sIx_nat, HT.sIx_none, Nat.min_eq_left h]
  show (((tl x).drop j).take (x.length - j)) = _
  rw [List.take_of_length_le (by rw [List.length_drop, tl_len]; omega)]
theorem tl_cut_to (x : Str) (j : Nat) (h : j ≤ x.length) : tl (cutS x none (some (j : Int))) = (tl x).take j := by
  unfold cutS
  rw [HT.sIx_nat, HT.sIx_none, Nat.min_eq_left h, Nat.sub_zero]
  show (((tl x).drop 0).take j) = _
  rw [List.drop_zero]
def isDigit (c : Nat) : Bool := decide (48 ≤ c ∧ c ≤ 57)
def bodyL (l : List Nat) : List Nat := if startsL 45 l = true then l.drop 1 else l
/-- 0, or digits, at most so many, without zeros ahead, perhaps behind a minus sign -/
def isNum (most : Nat) (w : Str) : Bool :=
  decide (w = "0") || (decide (1 ≤ (bodyL (tl w)).length ∧ (bodyL (tl w)).length ≤ most) && (!startsL 48 (bodyL (tl w)) && (bodyL (tl w)).all isDigit))
theorem sign_ltA {a b : Nat} : (!decide (([a] : List Nat) < [b])) = decide (b ≤ a) := by
  by_cases h : b ≤ a
  · rw [decide_eq_true h]
    simp [List.cons_lt_cons_iff]
    omega
  · rw [decide_eq_false h]
    simp [List.cons_lt_cons_iff]
    omega
end Gx
set_option Elab.async false
set_option linter.all false
set_option maxRecDepth 100000
set_option maxHeartbeats 4000000
namespace K35
open PySem PySem.Spec PyProof.Rows L2 Gx RZ TL
section
variable {P : Program} {w : World} {K : PySem.W.Frag} {mg : Str → Option Value} {base : Heap}
/-! ### is_number -/
abbrev nIsNumber : List Str := ["word", "most", "digits", "sign"]
theorem scIsNumber : FnScope nIsNumber ["word", "most"] (defScope sIsNumber) := ⟨rfl, rfl, rfl, by decide +kernel, rfl, by decide +kernel, by decide +kernel⟩
def spIsNumber (K : PySem.W.Frag) (T : Addr) : Sp := fun vs H Q _ => ∃ (x : Str) (most : Nat), vs = [.str x, .int (most : Nat)] ∧ x.length ≤ 100000 ∧ GxR.TabG H T ∧ ∀ H', Ext [] H H' → Q (.bl (isNum most x)) H'
theorem ok_isNumber {f c T : Addr} {fd : FuncData} (ml : mg "len" = none) (mal : mg "all" = none) (F : FunT K "is_number" "is_number" sIsNumber f fd c) (TB : GxR.TabB base mg c T) :
    FnOk P w K mg base CX0 8 f fd ["word", "most"] (spIsNumber K T) := by
  have nd := scIsNumber.nd
  refine F.ok scIsNumber (fun vs H Q E h => ?_) (fun A outer s H vs Q E hr h => ?_)
  · obtain ⟨_, _, rfl, _⟩ := h
    rfl
  · obtain ⟨x, most, rfl, hx, hT, q⟩ := h
    refine ⟨_, pss_cons (ps_if (pt_cmpR op_eq (pv 0) pe_str (nomark _)) (pss_one (ps_ret pe_bl)) pss_nil)
      (pss_cons (ps_set (i := 2) nd rfl (.inl rfl) (pe_ifExp (pt_val (pe_m1 PySem.F.slot_str_startswith PySem.F.type_str_startswith mt_startswith (pv 0) pe_str)) (pe_slice sl_str (pv 0) (po_some pe_int) po_none) (pv 0)))
      (pss_cons (ps_if (PW.pt (pw_or (pt_not (pt_chain op_le op_le pe_int (pe_callB call_len_str (by rfl) ml PySem.boot_len (pa_cons (pv 2) pa_nil)) (pv 1))) (pw_or1 (pt_val (pe_m1 PySem.F.slot_str_startswith PySem.F.type_str_startswith mt_startswith (pv 2) pe_str))))) (pss_one (ps_ret pe_bl)) pss_nil)
      (pss_one (ps_ret (pe_all (k := 2) (psrc (k := 1) (own := [("sign", 3)]) (hr.mono (by decide)) rfl nd TB rfl (pi_str (pv 2)) (blkOk_by (N := nIsNumber) (sc := defScope sIsNumber) (by decide +kernel)) (by decide +kernel) rfl rfl
        (fun _ _ _ _ _ _ _ _ => pg_name (i := 3) nd rfl (.inl rfl)) (fun _ _ _ _ _ _ _ _ _ => pts_nil) (fun _ _ _ _ _ _ _ _ _ => pe_chain op_le_str op_le_str pe_str (pv 3) pe_str)) (hr.mono (by decide)) rfl mal))))), ?_⟩
    refine ⟨_, rfl, rfl, _, rfl, ite2 (fun c0 => ?_) (fun c0 => ?_)⟩
    · have e0 : x = "0" := V.str.inj (of_decide_eq_true c0)
      have : isNum most x = true := by
        unfold isNum
        rw [decide_eq_true e0]
        rfl
      rw [this] at q
      exact q H .refl
    have e0 : ¬ x = "0" := fun z => by rw [z] at c0; exact c0 (decide_eq_true rfl)
    have eN : isNum most x = (decide (1 ≤ (bodyL (tl x)).length ∧ (bodyL (tl x)).length ≤ most) && (!startsL 48 (bodyL (tl x)) && (bodyL (tl x)).all isDigit)) := by
      unfold isNum
      rw [decide_eq_false e0, Bool.false_or]
    rw [eN] at q
    -- the digits
    refine ⟨_, rfl, ⟨_, rfl⟩, _, _, rfl, rfl, _, rfl, ?_⟩
    rw [show Txt.startswith x (Str.ofString "-") = startsL 45 (tl x) from sw_one x 45]
    cases hs : startsL 45 (tl x) with
    | true =>
      refine iteT ?_
      have hb : bodyL (tl x) = (tl x).drop 1 := by unfold bodyL; rw [if_pos hs]
      have hl : 1 ≤ x.length := by
        rw [← tl_len]
        cases e : tl x with
        | nil => rw [e] at hs; cases hs
        | cons a r => rw [List.length_cons]; omega
      refine ⟨_, rfl, 1, rfl, x, rfl, by show _ ≤ 2 ^ 24; omega, ?_⟩
      have ey : tl (cutS x (some 1) none) = bodyL (tl x) := by rw [hb]; exact tl_cut_from x 1 hl
      generalize cutS x (some 1) none = dg at ey ⊢
      have hy : dg.length ≤ 100000 := by rw [← tl_len, ey, hb, List.length_drop, tl_len]; omega
      have ly : dg.length = (bodyL (tl x)).length := by rw [← ey, tl_len]
      have bad : ¬ (1 ≤ dg.length ∧ dg.length ≤ most) → Q (.bl false) H := fun hb => by
        rw [ly] at hb
        rw [decide_eq_false hb, Bool.false_and] at q
        exact q H .refl
      refine ⟨_, rfl, dg, rfl, by show _ ≤ 2 ^ 24; omega, _, _, rfl, rfl, _, rfl, ?_⟩
      refine ite2 (fun c1 => ?_) (fun c1 => ?_)
      rotate_left
      · refine ⟨_, rfl, iteT (bad fun z => c1 (decide_eq_true (by omega)))⟩
      refine ⟨_, rfl, _, _, rfl, rfl, _, rfl, ite2 (fun c2 => ?_) (fun c2 => ?_)⟩
      · exact bad fun z => by
          rw [decide_eq_true (show ((dg.length : Nat) : Int) ≤ (most : Int) by omega)] at c2
          cases c2
      have hb2 : 1 ≤ dg.length ∧ dg.length ≤ most := by
        have h1 := of_decide_eq_true c1
        have h2 : ((dg.length : Nat) : Int) ≤ (most : Int) := by
          apply Classical.byContradiction
          intro z
          rw [decide_eq_false z] at c2
          exact c2 rfl
        omega
      rw [← ly, decide_eq_true hb2, Bool.true_and] at q
      refine ⟨_, rfl, ⟨_, rfl⟩, _, _, rfl, rfl, _, rfl, ?_⟩
      rw [show Txt.startswith dg (Str.ofString "0") = startsL 48 (tl dg) from sw_one dg 48, ey]
      cases hz : startsL 48 (bodyL (tl x)) with
      | true =>
        refine iteT ?_
        rw [hz] at q
        exact q H .refl
      | false =>
        refine iteF ?_
        rw [hz, Bool.not_false, Bool.true_and, ← ey] at q
        refine ⟨_, rfl, dg, rfl, hT, fun H2 tb => ?_⟩
        have x2 : Ext [] H H2 := .tabbed hT tb
        refine by_n dg.cps.size (fun i ys H3 => Ext [] H H3 ∧ ys = (dg.cps.toList.take i).map fun c => V.bl (isDigit c)) ⟨x2, rfl⟩ (fun i ys H3 hi _ => hi) (fun ys H3 _ => Nat.le_refl _) (fun i ys H3 y H4 hi h3 hy => ?_) (fun ys H3 h3 => ?_)
        · obtain ⟨x3, rfl⟩ := h3
          obtain ⟨rfl, c, hc, rfl⟩ := hy
          have hil : i < dg.cps.toList.length := by simpa using hi
          have ec : dg.cps.toList[i] = c := by
            rw [Array.getElem_toList]
            exact (Array.getElem?_eq_some_iff.mp hc).2
          refine ⟨rfl, _, rfl, _, _, rfl, rfl, _, rfl, ?_⟩
          have done : ∀ b : Bool, b = isDigit c → (kAll fun v H' => Q v H').mid ((dg.cps.toList.take i).map fun c => V.bl (isDigit c)) (.bl b) H4 ∧ ((kAll fun v H' => Q v H').go (.bl b) → Ext [] H H4 ∧ (List.map (fun c => V.bl (isDigit c)) (dg.cps.toList.take i)) ++ [V.bl b] = (dg.cps.toList.take (i + 1)).map fun c => V.bl (isDigit c)) := fun b hb => by
            subst hb
            refine ⟨⟨_, rfl, fun hf _ => ?_⟩, fun _ => ⟨x3, ?_⟩⟩
            · have : ((tl dg).all isDigit) = false := by
                rw [List.all_eq_false]
                exact ⟨_, List.getElem_mem hil, by rw [ec, hf]; decide⟩
              rw [this] at q
              exact q _ x3
            · rw [← snoc (fun c => V.bl (isDigit c)) dg.cps.toList hil, ec]
          have e1 : (!decide ((⟨#[c]⟩ : Str).cps.toList < ("0" : Str).cps.toList)) = decide (48 ≤ c) := sign_ltA
          have e2 : (!decide (("9" : Str).cps.toList < (⟨#[c]⟩ : Str).cps.toList)) = decide (c ≤ 57) := sign_ltA
          refine ite2 (fun k1 => ?_) (fun k1 => ?_)
          · rw [e1] at k1
            have h1 := of_decide_eq_true k1
            refine ⟨_, _, rfl, rfl, done _ ?_⟩
            rw [e2]
            exact decide_eq_decide.mpr ⟨fun h => ⟨h1, h⟩, fun h => h.2⟩
          · rw [e1] at k1
            exact done false (decide_eq_false fun h => k1 (decide_eq_true h.1)).symm
        · obtain ⟨x3, rfl⟩ := h3
          intro hall
          have : ((tl dg).all isDigit) = true := by
            rw [List.all_eq_true]
            intro c hc
            have lx : dg.cps.size = dg.cps.toList.length := by simp
            rw [lx, List.take_length] at hall
            have := hall _ (List.mem_map.mpr ⟨c, hc, rfl⟩)
            exact V.bl.inj this
          rw [this] at q
          exact q _ x3
    | false =>
      refine iteF ?_
      have hb : bodyL (tl x) = tl x := by unfold bodyL; rw [hs]; rfl
      have ey : tl x = bodyL (tl x) := hb.symm
      refine ⟨_, rfl, ?_⟩
      have ly : x.length = (bodyL (tl x)).length := by rw [← ey, tl_len]
      have bad : ¬ (1 ≤ x.length ∧ x.length ≤ most) → Q (.bl false) H := fun hb => by
        rw [ly] at hb
        rw [decide_eq_false hb, Bool.false_and] at q
        exact q H .refl
      refine ⟨_, rfl, x, rfl, by show _ ≤ 2 ^ 24; omega, _, _, rfl, rfl, _, rfl, ?_⟩
      refine ite2 (fun c1 => ?_) (fun c1 => ?_)
      rotate_left
      · refine ⟨_, rfl, iteT (bad fun z => c1 (decide_eq_true (by omega)))⟩
      refine ⟨_, rfl, _, _, rfl, rfl, _, rfl, ite2 (fun c2 => ?_) (fun c2 => ?_)⟩
      · exact bad fun z => by
          rw [decide_eq_true (show ((x.length : Nat) : Int) ≤ (most : Int) by omega)] at c2
          cases c2
      have hb2 : 1 ≤ x.length ∧ x.length ≤ most := by
        have h1 := of_decide_eq_true c1
        have h2 : ((x.length : Nat) : Int) ≤ (most : Int) := by
          apply Classical.byContradiction
          intro z
          rw [decide_eq_false z] at c2
          exact c2 rfl
        omega
      rw [← ly, decide_eq_true hb2, Bool.true_and] at q
      refine ⟨_, rfl, ⟨_, rfl⟩, _, _, rfl, rfl, _, rfl, ?_⟩
      rw [show Txt.startswith x (Str.ofString "0") = startsL 48 (tl x) from sw_one x 48, ey]
      cases hz : startsL 48 (bodyL (tl x)) with
      | true =>
        refine iteT ?_
        rw [hz] at q
        exact q H .refl
      | false =>
        refine iteF ?_
        rw [hz, Bool.not_false, Bool.true_and, ← ey] at q
        refine ⟨_, rfl, x, rfl, hT, fun H2 tb => ?_⟩
        have x2 : Ext [] H H2 := .tabbed hT tb
        refine by_n x.cps.size (fun i ys H3 => Ext [] H H3 ∧ ys = (x.cps.toList.take i).map fun c => V.bl (isDigit c)) ⟨x2, rfl⟩ (fun i ys H3 hi _ => hi) (fun ys H3 _ => Nat.le_refl _) (fun i ys H3 y H4 hi h3 hy => ?_) (fun ys H3 h3 => ?_)
        · obtain ⟨x3, rfl⟩ := h3
          obtain ⟨rfl, c, hc, rfl⟩ := hy
          have hil : i < x.cps.toList.length := by simpa using hi
          have ec : x.cps.toList[i] = c := by
            rw [Array.getElem_toList]
            exact (Array.getElem?_eq_some_iff.mp hc).2
          refine ⟨rfl, _, rfl, _, _, rfl, rfl, _, rfl, ?_⟩
          have done : ∀ b : Bool, b = isDigit c → (kAll fun v H' => Q v H').mid ((x.cps.toList.take i).map fun c => V.bl (isDigit c)) (.bl b) H4 ∧ ((kAll fun v H' => Q v H').go (.bl b) → Ext [] H H4 ∧ (List.map (fun c => V.bl (isDigit c)) (x.cps.toList.take i)) ++ [V.bl b] = (x.cps.toList.take (i + 1)).map fun c => V.bl (isDigit c)) := fun b hb => by
            subst hb
            refine ⟨⟨_, rfl, fun hf _ => ?_⟩, fun _ => ⟨x3, ?_⟩⟩
            · have : ((tl x).all isDigit) = false := by
                rw [List.all_eq_false]
                exact ⟨_, List.getElem_mem hil, by rw [ec, hf]; decide⟩
              rw [this] at q
              exact q _ x3
            · rw [← snoc (fun c => V.bl (isDigit c)) x.cps.toList hil, ec]
          have e1 : (!decide ((⟨#[c]⟩ : Str).cps.toList < ("0" : Str).cps.toList)) = decide (48 ≤ c) := sign_ltA
          have e2 : (!decide (("9" : Str).cps.toList < (⟨#[c]⟩ : Str).cps.toList)) = decide (c ≤ 57) := sign_ltA
          refine ite2 (fun k1 => ?_) (fun k1 => ?_)
          · rw [e1] at k1
            have h1 := of_decide_eq_true k1
            refine ⟨_, _, rfl, rfl, done _ ?_⟩
            rw [e2]
            exact decide_eq_decide.mpr ⟨fun h => ⟨h1, h⟩, fun h => h.2⟩
          · rw [e1] at k1
            exact done false (decide_eq_false fun h => k1 (decide_eq_true h.1)).symm
        · obtain ⟨x3, rfl⟩ := h3
          intro hall
          have : ((tl x).all isDigit) = true := by
            rw [List.all_eq_true]
            intro c hc
            have lx : x.cps.size = x.cps.toList.length := by simp
            rw [lx, List.take_length] at hall
            have := hall _ (List.mem_map.mpr ⟨c, hc, rfl⟩)
            exact V.bl.inj this
          rw [this] at q
          exact q _ x3
end
end K35
set_option Elab.async false
set_option linter.all false
set_option maxRecDepth 100000
set_option maxHeartbeats 4000000
namespace Gx
open PySem PySem.Spec PyProof.Rows L2 RZ
/-! ### isinstance(e, c) in an except suite, e with a dict -/
def rIsX (K : PySem.W.Frag) (D a : Addr) (cls : Value) (d : Option Addr) : List V → Hp → VK → Prop := fun xs H Q => cls = .ref D ∧ ∃ (dd : Addr) (c : V) (cv : Value) (b : Bool) (fs : List (Str × V)), d = some dd ∧ xs = [.ref a, c] ∧ (∀ u, RelV c u → u = cv) ∧ PySem.W.kitOne K (.ref D) cv = some b ∧ H dd = some (.xd fs) ∧ Q (.bl b) H
theorem call_isX {X : Cx} {a D : Addr} {cls : Value} {d : Option Addr} {oe : Obj} {pn : List (Addr × Obj)} (C : ExcC X.K D) (hz : Zc cls d oe) (hf : ∃ vs, oe.data = .fields vs) : CallR (X.suite a ((a, oe) :: pn)) (.builtin "isinstance") (rIsX X.K D a cls d) := by
  intro pins s σ H xs us Q I r h
  obtain ⟨rfl, dd, c, cv, b, fs, rfl, rfl, hcv, e, hd, q⟩ := h
  obtain ⟨u1, u2, rfl, r1, r2⟩ := vals2 r
  obtain rfl : u1 = Value.ref a := r1
  obtain rfl := hcv _ r2
  obtain ⟨ha, _⟩ := I.pin (a, oe) (List.mem_append_left _ List.mem_cons_self)
  obtain ⟨vs, hv⟩ := hf
  have hx : ObjOk X.prog X.w H s.heap dd (.xd fs) := I.hok dd _ hd
  obtain ⟨mA, hns, _⟩ := hx
  obtain ⟨od, ho, _⟩ := lookIn_ns hns
  have J : PySem.W.InstAt s.heap a oe D (some od) := ⟨ha, hz.1, by unfold PySem.W.notCls; rw [hv] <;> rfl, by rw [hz.2]; exact ho⟩
  have hcl : (PySem.W.clsIn X.K D).isSome = true := by
    obtain ⟨cd, hc, _⟩ := PySem.W.any_some C.hd
    rw [hc]
    rfl
  exact PySem.W.kia_one (PySem.W.kitx_exc (od := some od) hcl C.hg C.hk C.hs C.ha C.hn C.ht C.hm) I.kIn J e (fun z => nomatch z) fun tk => ⟨.bl b, H, I.kept (t' := tk) fun _ _ z => z, rfl, q⟩
/-- the heap behind a raise -/
theorem ext_two {H H1 : Hp} {a d : Addr} {o : HO} (ha : H a = none) (hd : H d = none) (h : ∀ b, b ≠ a → b ≠ d → H1 b = H b) (hd1 : H1 d = some o) : Ext [] H H1 := by
  have k : ∀ {b : Addr} {u : HO}, H b = some u → H1 b = some u := fun {b u} e => by
    rw [h b (fun z => by rw [z, ha] at e; cases e) (fun z => by rw [z, hd] at e; cases e)]
    exact e
  refine ⟨fun b u e _ _ => k e, fun b u e => k e, fun b u o e => k e, fun P ⟨ps, e, t⟩ => ⟨ps, k e, t⟩, fun b e => ?_⟩
  by_cases h1 : b = a
  · rw [h1]; exact ha
  · by_cases h2 : b = d
    · rw [h2, hd1] at e; cases e
    · rw [← h b h1 h2]; exact e
end Gx
set_option Elab.async false
set_option linter.all false
set_option maxRecDepth 100000
set_option maxHeartbeats 4000000
namespace Gx
open PySem PySem.Spec PyProof.Rows L2 RZ TL PySem.StrLaws
theorem FunT.okX {P : Program} {w : World} {K : PySem.W.Frag} {mg : Str → Option Value} {base : Heap} {x qual : Str} {st : Stmt} {f c : Addr} {fd : FuncData} {N ps : List Str} {k : Nat} {sp : Sp} (F : FunT K x qual st f fd c) (S : FnScope N ps (defScope st)) (len : ∀ vs H Q E, sp vs H Q E → vs.length = ps.length)
    (hbody : ∀ (A : Around) (outer : List Env) (s : Shared) (H : Hp) (vs : List V) (Q : VK) (E : XK), Room k (A.deeper (envOfC qual (defScope st) s.heap.objs.size f (.ref c))) → sp vs H Q E →
      ∃ t, PSs (cxOf (CX P w) P w K mg base N qual (defScope st) f (.ref c) A outer s H E) (defBody st) t ∧ t { nx := fun _ H' => Q .non H', rt := Q } (start N vs) H) : FnOk P w K mg base (CX P w) (k + 1) f fd ps sp := by
  obtain ⟨oc, od, kV, doc, pm, an, ct, osl, rfl, lk, hcd⟩ := F.ex
  exact fn_of lk hcd S len fun A outer s H vs Q E hr hsp => hbody A outer s H vs Q E hr hsp
/-! ### splitting: how many parts, how long -/
theorem spl_bound {S : List Nat} {B : Nat} : ∀ (k : Nat) (acc l : List Nat), acc.length + l.length ≤ B → (spl S k acc l).length ≤ l.length + 1 ∧ (∀ p ∈ spl S k acc l, p.length ≤ B) ∧ spl S k acc l ≠ []
  | k, acc, [], h => by
    rw [spl_nil]
    exact ⟨Nat.le_refl _, fun p hp => by rw [List.mem_singleton.mp hp]; simpa using h, by simp⟩
  | 0, acc, c :: r, h => by
    rw [List.length_cons] at h
    cases e : pre S (c :: r) with
    | true =>
      rw [spl_hit e]
      obtain ⟨h1, h2, h3⟩ := spl_bound (S := S) (B := B) (S.length - 1) [] r (by simp; omega)
      refine ⟨by rw [List.length_cons, List.length_cons]; omega, fun p hp => ?_, by simp⟩
      rcases List.mem_cons.mp hp with rfl | hp
      · omega
      · exact h2 p hp
    | false =>
      rw [spl_miss e]
      obtain ⟨h1, h2, h3⟩ := spl_bound (S := S) (B := B) 0 (acc ++ [c]) r (by rw [List.length_append]; simp; omega)
      exact ⟨by rw [List.length_cons]; omega, h2, h3⟩
  | k + 1, acc, c :: r, h => by
    rw [List.length_cons] at h
    obtain ⟨h1, h2, h3⟩ := spl_bound (S := S) (B := B) k acc r (by omega)
    show (spl S k acc r).length ≤ _ ∧ (∀ p ∈ spl S k acc r, p.length ≤ B) ∧ spl S k acc r ≠ []
    exact ⟨by rw [List.length_cons]; omega, h2, h3⟩
theorem split_bound (x : Str) (c : Nat) (hc : c < 256) : (Txt.split x ⟨#[c]⟩).length ≤ x.length + 1 ∧ (∀ p ∈ Txt.split x ⟨#[c]⟩, p.length ≤ x.length) ∧ Txt.split x ⟨#[c]⟩ ≠ [] := by
  have e := split_spl x ⟨#[c]⟩ (by simp [tl]) (kind_ok (by simp [hc]))
  obtain ⟨h1, h2, h3⟩ := spl_bound (S := tl (⟨#[c]⟩ : Str)) (B := x.length) 0 [] (tl x) (by rw [tl_len]; simp)
  rw [← e, tl_len] at h1
  rw [← e] at h2 h3
  refine ⟨by simpa using h1, fun p hp => ?_, fun z => h3 (by rw [z]; rfl)⟩
  rw [← tl_len]
  exact h2 _ (List.mem_map.mpr ⟨p, hp, rfl⟩)
/-! ### numbers -/
def wordNum (w : Str) : Int := (PySem.intText? w).getD 0
theorem num_ok {most : Nat} {w : Str} (hm : most ≤ 100) (h : isNum most w = true) : PySem.intText? w = some (wordNum w) ∧ w.length ≤ 640 := by
  unfold isNum at h
  rw [Bool.or_eq_true] at h
  rcases h with h | h
  · rw [of_decide_eq_true h]
    decide +kernel
  · rw [Bool.and_eq_true, Bool.and_eq_true] at h
    obtain ⟨h1, h2, h3⟩ := h
    obtain ⟨l1, l2⟩ := of_decide_eq_true h1
    have dg : NumText.AllDigits (bodyL (tl w)) := fun c hc => of_decide_eq_true (List.all_eq_true.mp h3 c hc)
    have ne : bodyL (tl w) ≠ [] := fun z => by rw [z] at l1; simp at l1
    unfold bodyL at l1 l2 dg ne
    cases hs : startsL 45 (tl w) with
    | true =>
      rw [hs] at l1 l2 dg ne
      simp only [if_true] at l1 l2 dg ne
      obtain ⟨r, hr⟩ : ∃ r, tl w = 45 :: r := by
        cases e : tl w with
        | nil => rw [e] at hs; cases hs
        | cons a r =>
          rw [e] at hs
          unfold startsL at hs
          have : a = 45 := by simpa using hs
          exact ⟨r, by rw [this]⟩
      rw [hr] at l1 l2 dg ne
      simp only [List.drop_succ_cons, List.drop_zero] at l1 l2 dg ne
      have lw : w.length = r.length + 1 := by rw [← tl_len, hr, List.length_cons]
      have e := intText_neg (x := w) hr dg ne (by omega)
      unfold wordNum
      rw [e]
      exact ⟨rfl, by omega⟩
    | false =>
      rw [hs] at l1 l2 dg ne
      simp only [Bool.false_eq_true, if_false] at l1 l2 dg ne
      rw [tl_len] at l1 l2
      have e := intText_digits (x := w) dg ne (by omega)
      unfold wordNum
      rw [e]
      exact ⟨rfl, by omega⟩
end Gx
set_option Elab.async false
set_option linter.all false
set_option maxRecDepth 100000
set_option maxHeartbeats 4000000
namespace K35
open PySem PySem.Spec PyProof.Rows L2 Gx RZ TL
section
variable {P : Program} {w : World} {K : PySem.W.Frag} {mg : Str → Option Value} {base : Heap}
/-! ### BadNet.__init__ -/
def sInit : Stmt := match topS 2 with
  | .ClassDef (body := b) .. => b.getD 0 (.Pass ⟨0, 0, 0, 0⟩)
  | _ => .Pass ⟨0, 0, 0, 0⟩
/-- what the written part says of BadNet -/
structure BadC (K : PySem.W.Frag) (C : Addr) : Prop where
  o : OexC K C
  fl : PySem.W.findIn K (.ref C) "line" = some none
  fr : PySem.W.findIn K (.ref C) "reason" = some none
def spInit (K : PySem.W.Frag) (C : Addr) : Sp := fun vs H Q _ => ∃ (a : Addr) (x y : V), vs = [.ref a, x, y] ∧ BadC K C ∧ H a = some (exo a C none) ∧
  ∀ dx, H dx = none → dx ≠ a → Q .non (upd (upd (upd H dx (exd dx [("line", x)])) a (exo a C (some dx))) dx (exd dx [("reason", y), ("line", x)]))
theorem scInit : FnScope ["self", "line", "reason"] ["self", "line", "reason"] (defScope sInit) := ⟨rfl, rfl, rfl, by decide +kernel, rfl, by decide +kernel, by decide +kernel⟩
theorem ok_init {f C : Addr} {fd : FuncData} (F : Fun K "__init__" "BadNet.__init__" sInit f fd) : FnOk P w K mg base CX0 1 f fd ["self", "line", "reason"] (spInit K C) := by
  refine F.ok scInit (fun vs H Q E h => ?_) (fun cdv A outer s H vs Q E hr h => ?_)
  · obtain ⟨_, _, _, rfl, _⟩ := h
    rfl
  · obtain ⟨a, x, y, rfl, B, ha, q⟩ := h
    refine ⟨_, pss_cons (ps_ost (pv 0) (pv 1)) (pss_one (ps_ost (pv 0) (pv 2))), ?_⟩
    refine ⟨_, rfl, _, rfl, a, C, rfl, B.o, B.fl, .inl ⟨ha, fun dx h1 h2 => ?_⟩⟩
    exact ⟨_, rfl, _, rfl, a, C, rfl, B.o, B.fr, .inr ⟨dx, [("line", x)], upd_same, by rw [upd_ne h2]; exact upd_same, by show 1 ≤ 900; decide, q dx h1 h2⟩⟩

theorem made {K : PySem.W.Frag} {C : Addr} (BC : BadC K C) {x y : V} {H1 : Hp} {EE : XK} (hE : ∀ H' dd, Ext [] H1 H' → H' dd = some (.xd [("reason", y), ("line", x)]) → EE (.ref C) (some dd) H') :
    ∀ a, H1 a = none → spInit K C [.ref a, x, y] (upd H1 a (exo a C none)) (fun v H2 => v = .non ∧ ∃ (d : Addr) (fs : List (Str × V)), H2 a = some (exo a C (some d)) ∧ H2 d = some (exd d fs) ∧ H1 d = none ∧ EE (.ref C) (some d) (upd (del H2 a) d (.xd fs))) (fun _ _ _ => False) := fun a ha => by
  refine ⟨a, x, y, rfl, BC, upd_same, fun dx h1 h2 => ⟨rfl, dx, _, by rw [upd_ne h2.symm]; exact upd_same, upd_same, by rw [upd_ne h2] at h1; exact h1, ?_⟩⟩
  have hd1 : H1 dx = none := by rw [upd_ne h2] at h1; exact h1
  refine hE _ dx (ext_two ha hd1 (fun b hb1 hb2 => ?_) upd_same) upd_same
  rw [upd_ne hb2, del_ne hb1, upd_ne hb2, upd_ne hb1, upd_ne hb2, upd_ne hb1]
/-! ### what is read -/
def rowRes (line word : Str) (many : Nat) : Except Str (List Int) :=
  if (Txt.split line " ").getD 0 Str.empty ≠ word then .error (word ++ " expected")
  else if (Txt.split line " ").length ≠ many + 1 then .error "wrong number of words"
  else if ((Txt.split line " ").drop 1).all (isNum 12) = false then .error "not a number"
  else .ok (((Txt.split line " ").drop 1).map wordNum)
/-! ### parsed_numbers -/
abbrev nParsed : List Str := ["line", "place", "word", "many", "words", "told"]
theorem scParsed : FnScope nParsed ["line", "place", "word", "many"] (defScope sParsed) := ⟨rfl, rfl, rfl, by decide +kernel, rfl, by decide +kernel, by decide +kernel⟩
def spParsed (K : PySem.W.Frag) (C T T2 : Addr) : Sp := fun vs H Q E => ∃ (line word : Str) (place many : Nat), vs = [.str line, .int (place : Nat), .str word, .int (many : Nat)] ∧ line.length ≤ 50000 ∧ word.length ≤ 100 ∧ GxR.TabG H T ∧ GxR.TabG H T2 ∧ BadC K C ∧
  (∀ r, rowRes line word many = .error r → ∀ H' dd, Ext [] H H' → H' dd = some (.xd [("reason", .str r), ("line", .int (place : Nat))]) → E (.ref C) (some dd) H') ∧
  (∀ ns, rowRes line word many = .ok ns → ∀ q H', Ext [] H H' → SqT K H' q (ns.map V.int) → Q (.ref q) H')
theorem ok_parsed {f c T T2 fN fI C : Addr} {fd fdN fdI : FuncData} {tk : Tok} (ml : mg "len" = none) (mal : mg "all" = none) (mt : mg "tuple" = none) (mi : mg "int" = none) (mv : mg "MOST_DIGITS_IN_PAPERS" = some (.int 12 tk)) (F : FunT K "parsed_numbers" "parsed_numbers" sParsed f fd c) (TB : GxR.TabB base mg c T)
    (GN : FnOk P w K mg base CX0 8 fN fdN ["word", "most"] (spIsNumber K T2)) (kN : PySem.W.keepIn K (.ref fN) = true) (bN : Binds K fdN ["word", "most"] []) (gN : mg "is_number" = some (.ref fN))
    (FI : Fun K "__init__" "BadNet.__init__" sInit fI fdI) (bI : Binds K fdI ["self", "line", "reason"] []) (iC : PySem.W.findIn K (.ref C) "__init__" = some (some (.ref fI))) (tI : PySem.W.typeIn K (.ref fI) = some (.type "function")) (gC : mg "BadNet" = some (.ref C)) (BC : BadC K C) :
    FnOk P w K mg base (CX P w) 13 f fd ["line", "place", "word", "many"] (spParsed K C T T2) := by
  have nd := scParsed.nd
  have GI : FnOk P w K mg base CX0 1 fI fdI ["self", "line", "reason"] (spInit K C) := ok_init FI
  refine F.okX scParsed (fun vs H Q E h => ?_) (fun A outer s H vs Q E hr h => ?_)
  · obtain ⟨_, _, _, _, rfl, _⟩ := h
    rfl
  · obtain ⟨line, word, place, many, rfl, hl, hw, hT, hT2, BC, qe, qo⟩ := h
    refine ⟨_, pss_cons (ps_set (i := 4) nd rfl (.inl rfl) (pe_split (pv 0) pe_str))
      (pss_cons (ps_if (pt_cmpR op_ne (pe_ix ix_list (pv 4) pe_int (fun _ _ => rfl)) (pv 2) (nomark _)) (pss_one (ps_raise rfl (takes_of rfl rfl rfl rfl) (pmk_oex BC.o iC tI GI (hr.mono (by decide)) bI .nil pass0 (by rfl) gC (pa_cons (pv 1) (pa_cons (pe_joined (PJ.cons (pe_fmt (pv 2)) (PJ.cons pe_str PJ.nil))) pa_nil))))) pss_nil)
      (pss_cons (ps_if (pt_cmpR op_ne (pe_callB call_len_seq (by rfl) ml PySem.boot_len (pa_cons (pv 4) pa_nil)) (pe_op op_add (pv 3) pe_int) (nomark _)) (pss_one (ps_raise rfl (takes_of rfl rfl rfl rfl) (pmk_oex BC.o iC tI GI (hr.mono (by decide)) bI .nil pass0 (by rfl) gC (pa_cons (pv 1) (pa_cons pe_str pa_nil))))) pss_nil)
      (pss_cons (ps_if (pt_not (pt_val (pe_all (k := 9) (psrc (k := 8) (own := [("told", 5)]) (hr.mono (by decide)) rfl nd TB rfl (pi_list (pe_slice sl_list (pv 4) (po_some pe_int) po_none)) (blkOk_by (N := nParsed) (sc := defScope sParsed) (by decide +kernel)) (by decide +kernel) rfl rfl
          (fun _ _ _ _ _ _ _ _ => pg_name (i := 5) nd rfl (.inl rfl)) (fun _ _ _ _ _ _ _ _ _ => pts_nil) (fun _ _ _ _ _ _ _ _ hr' => pe_call GN (hr'.mono (by decide)) (by rfl) gN kN bN .nil pass0 (pa_cons (pv 5) (pa_cons (pe_glob (v := .int 12) rfl mv ⟨_, rfl⟩) pa_nil)))) (hr.mono (by decide)) rfl mal))) (pss_one (ps_raise rfl (takes_of rfl rfl rfl rfl) (pmk_oex BC.o iC tI GI (hr.mono (by decide)) bI .nil pass0 (by rfl) gC (pa_cons (pv 1) (pa_cons pe_str pa_nil))))) pss_nil)
      (pss_one (ps_ret (pe_tupG (k := 2) (psrc (k := 1) (own := [("told", 5)]) (hr.mono (by decide)) rfl nd TB rfl (pi_list (pe_slice sl_list (pv 4) (po_some pe_int) po_none)) (blkOk_by (N := nParsed) (sc := defScope sParsed) (by decide +kernel)) (by decide +kernel) rfl rfl
          (fun _ _ _ _ _ _ _ _ => pg_name (i := 5) nd rfl (.inl rfl)) (fun _ _ _ _ _ _ _ _ _ => pts_nil) (fun _ _ _ _ _ _ _ _ _ => pe_callTy call_int_str (by rfl) mi PyProof.Rows.boot_int (pa_cons (pv 5) pa_nil))) (hr.mono (by decide)) rfl mt PyProof.Rows.boot_tuple)))))), ?_⟩
    obtain ⟨wl, wp, wne⟩ := split_bound line 32 (by decide)
    refine ⟨_, rfl, ⟨_, rfl⟩, _, _, rfl, rfl, by decide, by show _ ≤ 2 ^ 24; omega, fun p hp => ?_⟩
    have x1 : Ext [] H (upd H p (.lst ((Txt.split line " ").map V.str))) := .new hp
    have e1 : (upd H p (.lst ((Txt.split line " ").map V.str))) p = some (.lst ((Txt.split line " ").map V.str)) := upd_same
    have hws : rowRes line word many = (if (Txt.split line " ").getD 0 Str.empty ≠ word then .error (word ++ " expected")
      else if (Txt.split line " ").length ≠ many + 1 then .error "wrong number of words"
      else if ((Txt.split line " ").drop 1).all (isNum 12) = false then .error "not a number"
      else .ok (((Txt.split line " ").drop 1).map wordNum)) := rfl
    have wl' : (Txt.split line " ").length ≤ line.length + 1 := wl
    have wp' : ∀ p ∈ Txt.split line " ", p.length ≤ line.length := wp
    have wne' : Txt.split line " " ≠ [] := wne
    clear wl wp wne
    generalize (upd H p (.lst ((Txt.split line " ").map V.str))) = H1 at x1 e1 ⊢
    generalize rowRes line word many = res at hws qe qo
    generalize Txt.split line " " = ws at e1 hws wl' wp' wne' ⊢
    have l0 : 0 < ws.length := List.length_pos_iff.mpr wne'
    have i0 : (ws.map V.str)[0]? = some (.str (ws.getD 0 Str.empty)) := by
      rw [List.getElem?_map, List.getD_eq_getElem?_getD, List.getElem?_eq_getElem l0]
      rfl
    refine ⟨_, rfl, p, _, _, _, rfl, rfl, SqL.of e1, atI_nat (j := 0) i0, _, rfl, rfl, _, rfl, ?_⟩
    have emp : ∀ z : Str, Str.empty ++ z = z := fun z => tl_inj (by rw [tl_append]; rfl)
    by_cases c1 : ws.getD 0 Str.empty = word
    rotate_left
    · rw [if_pos c1] at hws
      refine ite2 (fun z => ?_) (fun z => absurd (by rw [decide_eq_false (fun e => c1 (V.str.inj e))]; rfl) z)
      have lz : (" expected" : Str).length = 9 := by decide
      refine ⟨_, rfl, _, rfl, .inl ⟨_, rfl, by show _ ≤ 2 ^ 24; omega, _, rfl, by rw [emp]; show _ ≤ 2 ^ 24; omega, _, rfl, ?_, by show 2 ≤ 1000; decide, made BC fun H' dd x e => qe _ hws H' dd (x1.trans x) (by rw [e, emp])⟩⟩
      rw [emp, ← tl_len, tl_append, List.length_append, tl_len, tl_len, lz]
      show _ ≤ 2 ^ 24
      omega
    rw [if_neg (by simpa using c1)] at hws
    refine ite2 (fun z => by rw [c1, decide_eq_true rfl] at z; cases z) (fun _ => ?_)
    refine ⟨_, rfl, p, _, rfl, .inl (SqL.of e1), _, rfl, _, _, rfl, rfl, rfl, _, rfl, ?_⟩
    by_cases c2 : ws.length = many + 1
    rotate_left
    · rw [if_pos c2] at hws
      refine ite2 (fun z => ?_) (fun z => absurd (by rw [decide_eq_false (fun e => c2 (by have := V.int.inj e; rw [List.length_map] at this; omega))]; rfl) z)
      exact ⟨_, rfl, by show 2 ≤ 1000; decide, made BC fun H' dd x e => qe _ hws H' dd (x1.trans x) e⟩
    rw [if_neg (by simpa using c2)] at hws
    refine ite2 (fun z => by rw [decide_eq_true (by rw [List.length_map, c2]; rfl)] at z; cases z) (fun _ => ?_)
    have cc : cutV (ws.map V.str) (some 1) none = (ws.drop 1).map V.str := by
      have := cut_hi (xs := ws.map V.str) (j := 1) (by rw [List.length_map]; omega)
      rw [← List.map_drop] at this
      exact this
    refine ⟨_, rfl, _, rfl, p, _, rfl, SqL.of e1, fun p2 hp2 => ?_⟩
    have x2 : Ext [] H1 (upd H1 p2 (.lst (cutV (ws.map V.str) (some 1) none))) := .new hp2
    have e2 : (upd H1 p2 (.lst (cutV (ws.map V.str) (some 1) none))) p2 = some (.lst ((ws.drop 1).map V.str)) := by rw [upd_same, cc]
    generalize (upd H1 p2 (.lst (cutV (ws.map V.str) (some 1) none))) = H2 at x2 e2 ⊢
    refine ⟨p2, rfl, ⟨_, SqL.of e2⟩, (x1.trans x2).tab _ hT, fun H3 tb => ?_⟩
    have x3 : Ext [] H H3 := (x1.trans x2).trans (.tabbed ((x1.trans x2).tab _ hT) tb)
    have e3 : SqL K H3 p2 ((ws.drop 1).map V.str) := (Ext.tabbed (c := []) ((x1.trans x2).tab _ hT) tb).sqL (SqL.of e2) (by simp)
    have ep3 : H3 p = some (.lst (ws.map V.str)) := (Ext.tabbed (c := []) ((x1.trans x2).tab _ hT) tb).lst (x2.lst e1 (by simp)) (by simp)
    have wd : ∀ z ∈ ws.drop 1, z.length ≤ line.length := fun z hz => wp' z (List.mem_of_mem_drop hz)
    refine by_list (a := p2) (xs := (ws.drop 1).map V.str) (fun i ys H4 => Ext [] H3 H4 ∧ ys = ((ws.drop 1).take i).map fun z => V.bl (isNum 12 z)) ⟨.refl, rfl⟩ (fun i ys H4 h4 => h4.1.sqL e3 (by simp)) (fun i y ys H4 hy h4 => ?_) (fun ys H4 h4 => ?_)
    · obtain ⟨x4, rfl⟩ := h4
      rw [List.getElem?_map] at hy
      obtain ⟨z, hz, rfl⟩ := Option.map_eq_some_iff.mp hy
      obtain ⟨hi, ei⟩ := List.getElem?_eq_some_iff.mp hz
      have lz := wd z (List.mem_of_getElem? hz)
      refine ⟨rfl, _, rfl, z, 12, rfl, by omega, (x3.trans x4).tab _ hT2, fun H5 x5 => ⟨⟨_, rfl, fun hf _ => ?_⟩, fun _ => ⟨x4.trans x5, ?_⟩⟩⟩
      · have : ((ws.drop 1).all (isNum 12)) = false := by
          rw [List.all_eq_false]
          exact ⟨z, List.mem_of_getElem? hz, by rw [hf]; decide⟩
        rw [if_pos this] at hws
        refine ⟨_, rfl, iteT ?_⟩
        exact ⟨_, rfl, by show 2 ≤ 1000; decide, made BC fun H' dd x e => qe _ hws H' dd (((x3.trans x4).trans x5).trans x) e⟩
      · rw [← snoc (fun z => V.bl (isNum 12 z)) (ws.drop 1) hi, ei]
    · obtain ⟨x4, rfl⟩ := h4
      intro hall
      have hal : ((ws.drop 1).all (isNum 12)) = true := by
        rw [List.all_eq_true]
        intro z hz
        rw [List.length_map, List.take_length] at hall
        exact V.bl.inj (hall _ (List.mem_map.mpr ⟨z, hz, rfl⟩))
      rw [if_neg (by rw [hal]; decide)] at hws
      refine ⟨_, rfl, iteF ?_⟩
      have ep4 := x4.lst ep3 (by simp)
      refine ⟨_, rfl, _, rfl, p, _, rfl, SqL.of ep4, fun p5 hp5 => ?_⟩
      have x5 : Ext [] H4 (upd H4 p5 (.lst (cutV (ws.map V.str) (some 1) none))) := .new hp5
      have e5 : (upd H4 p5 (.lst (cutV (ws.map V.str) (some 1) none))) p5 = some (.lst ((ws.drop 1).map V.str)) := by rw [upd_same, cc]
      generalize (upd H4 p5 (.lst (cutV (ws.map V.str) (some 1) none))) = H5 at x5 e5 ⊢
      have x35 := (x3.trans x4).trans x5
      refine ⟨p5, rfl, ⟨_, SqL.of e5⟩, x35.tab _ hT, fun H6 tb6 => ?_⟩
      have x6 : Ext [] H5 H6 := .tabbed (x35.tab _ hT) tb6
      have e6 : SqL K H6 p5 ((ws.drop 1).map V.str) := x6.sqL (SqL.of e5) (by simp)
      refine by_list (a := p5) (xs := (ws.drop 1).map V.str) (fun i ys H7 => Ext [] H6 H7 ∧ ys = (((ws.drop 1).take i).map wordNum).map V.int) ⟨.refl, rfl⟩ (fun i ys H7 h7 => h7.1.sqL e6 (by simp)) (fun i y ys H7 hy h7 => ?_) (fun ys H7 h7 => ?_)
      · obtain ⟨x7, rfl⟩ := h7
        rw [List.getElem?_map] at hy
        obtain ⟨z, hz, rfl⟩ := Option.map_eq_some_iff.mp hy
        obtain ⟨hi, ei⟩ := List.getElem?_eq_some_iff.mp hz
        obtain ⟨n1, n2⟩ := num_ok (most := 12) (by decide) (List.all_eq_true.mp hal z (List.mem_of_getElem? hz))
        refine ⟨rfl, _, rfl, z, _, rfl, n1, n2, ?_, fun _ => ⟨x7, ?_⟩⟩
        · show (List.map V.int _).length < sizeLine
          rw [List.length_map, List.length_map, List.length_take, List.length_drop]
          show _ < 2 ^ 24
          omega
        · rw [← ints_snoc wordNum (ws.drop 1) hi, ei]
      · obtain ⟨x7, rfl⟩ := h7
        rw [List.length_map, List.take_length]
        refine ⟨?_, fun y hy => qo _ hws y _ (((x35.trans x6).trans x7).trans (.new hy)) (.inl (.inl upd_same))⟩
        rw [List.length_map, List.length_map, List.length_drop]
        show _ ≤ 2 ^ 24
        omega
end
end K35
set_option Elab.async false
set_option linter.all false
set_option maxRecDepth 100000
set_option maxHeartbeats 4000000
namespace K35
open PySem PySem.Spec PyProof.Rows L2 Gx RZ TL
theorem emp (z : Str) : Str.empty ++ z = z := tl_inj (by rw [tl_append]; rfl)
def isFirst (w : Str) : Bool := decide (w = "best") || decide (w = "weighted")
def partsRes (n m : Nat) (ls : List Str) : Except (Nat × Str) (Str × List Int × List Int) :=
  if isFirst (ls.getD 0 Str.empty) = false then .error (1, "unknown line")
  else if ls.length ≠ 4 ∨ ls.getD 3 Str.empty ≠ "" then .error (ls.length, "three lines expected")
  else match rowRes (ls.getD 1 Str.empty) "heights" n with
    | .error r => .error (2, r)
    | .ok h => match rowRes (ls.getD 2 Str.empty) "flow" m with
      | .error r => .error (3, r)
      | .ok f => .ok (ls.getD 0 Str.empty, h, f)
def parseRes (n m : Nat) (text : Str) : Except (Nat × Str) (Str × List Int × List Int) := partsRes n m (Txt.split text "\n")
section
variable {P : Program} {w : World} {K : PySem.W.Frag} {mg : Str → Option Value} {base : Heap}
abbrev nParse : List Str := ["net", "text", "lines", "_", "marks", "readings", "heights", "flow"]
theorem scParse : FnScope nParse ["net", "text"] (defScope sParse) := ⟨rfl, rfl, rfl, by decide +kernel, rfl, by decide +kernel, by decide +kernel⟩
/-- the bounds of a text and a net that are read -/
structure RdIn (K : PySem.W.Frag) (H : Hp) (np : Addr) (xs ys : List V) (text : Str) : Prop where
  net : ∃ v0 mp rp, SqT K H np [v0, .ref mp, .ref rp] ∧ SqT K H mp xs ∧ SqT K H rp ys
  tx : text.length ≤ 40000
  l1 : xs.length ≤ 1000
  l2 : ys.length ≤ 1000
def spParse (K : PySem.W.Frag) (C T T2 : Addr) : Sp := fun vs H Q E => ∃ (np : Addr) (xs ys : List V) (text : Str), vs = [.ref np, .str text] ∧ RdIn K H np xs ys text ∧ GxR.TabG H T ∧ GxR.TabG H T2 ∧ BadC K C ∧
  (∀ pl r, parseRes xs.length ys.length text = .error (pl, r) → ∀ H' dd, Ext [] H H' → H' dd = some (.xd [("reason", .str r), ("line", .int (pl : Nat))]) → E (.ref C) (some dd) H') ∧
  (∀ wd hs fl, parseRes xs.length ys.length text = .ok (wd, hs, fl) → ∀ q a b H', Ext [] H H' → SqT K H' q [.str wd, .ref a, .ref b] → SqT K H' a (hs.map V.int) → SqT K H' b (fl.map V.int) → Q (.ref q) H')
theorem str_at {ls : List Str} {j : Nat} (h : j < ls.length) : (ls.map V.str)[j]? = some (.str (ls.getD j Str.empty)) := by
  rw [List.getElem?_map, List.getD_eq_getElem?_getD, List.getElem?_eq_getElem h]
  rfl
theorem getD_memS {ls : List Str} {j : Nat} (h : j < ls.length) : ls.getD j Str.empty ∈ ls := by
  rw [List.getD_eq_getElem?_getD, List.getElem?_eq_getElem h]
  exact List.getElem_mem h
theorem in_first (x : Str) : inV (.str x) [.str "best", .str "weighted"] = isFirst x := by
  have h : ∀ a b : Str, (a == b) = decide (b = a) := fun a b => by
    by_cases e : a = b
    · rw [e, beq_self_eq_true, decide_eq_true rfl]
    · rw [decide_eq_false fun z => e z.symm]
      exact beq_eq_false_iff_ne.mpr e
  show ((("best" : Str) == x) || ((("weighted" : Str) == x) || false)) = (decide (x = "best") || decide (x = "weighted"))
  rw [h, h, Bool.or_false]
theorem ok_parse {f fP fI C T T2 : Addr} {fd fdP fdI : FuncData} (ml : mg "len" = none) (F : Fun K "parse_paper" "parse_paper" sParse f fd)
    (GP : FnOk P w K mg base (CX P w) 13 fP fdP ["line", "place", "word", "many"] (spParsed K C T T2)) (kP : PySem.W.keepIn K (.ref fP) = true) (bP : Binds K fdP ["line", "place", "word", "many"] []) (gP : mg "parsed_numbers" = some (.ref fP))
    (FI : Fun K "__init__" "BadNet.__init__" sInit fI fdI) (bI : Binds K fdI ["self", "line", "reason"] []) (iC : PySem.W.findIn K (.ref C) "__init__" = some (some (.ref fI))) (tI : PySem.W.typeIn K (.ref fI) = some (.type "function")) (gC : mg "BadNet" = some (.ref C)) (BC : BadC K C) :
    FnOk P w K mg base (CX P w) 14 f fd ["net", "text"] (spParse K C T T2) := by
  have nd := scParse.nd
  have GI : FnOk P w K mg base CX0 1 fI fdI ["self", "line", "reason"] (spInit K C) := ok_init FI
  refine F.okX scParse (fun vs H Q E h => ?_) (fun cdv A outer s H vs Q E hr h => ?_)
  · obtain ⟨_, _, _, _, rfl, _⟩ := h
    rfl
  · obtain ⟨np, xs, ys, text, rfl, ⟨⟨v0, mp, rp, s1, s2, s3⟩, htx, hl1, hl2⟩, hT, hT2, BC, qe, qo⟩ := h
    refine ⟨_, pss_cons (ps_set (i := 2) nd rfl (.inl rfl) (pe_split (pv 1) pe_str))
      (pss_cons (ps_if (pt_cmpR (r := rIn K true) op_notIn_seq (pe_ix ix_list (pv 2) pe_int (fun _ _ => rfl)) (pe_tup (pa_cons pe_str (pa_cons pe_str pa_nil))) (by rfl)) (pss_one (ps_raise rfl (takes_of rfl rfl rfl rfl) (pmk_oex BC.o iC tI GI (hr.mono (by decide)) bI .nil pass0 (by rfl) gC (pa_cons pe_int (pa_cons pe_str pa_nil))))) pss_nil)
      (pss_cons (ps_if (PW.pt (pw_or (pt_cmpR op_ne (pe_callB call_len_seq (by rfl) ml PySem.boot_len (pa_cons (pv 2) pa_nil)) pe_int (nomark _)) (pw_or1 (pt_cmpR op_ne (pe_ix ix_list (pv 2) pe_int (fun _ _ => rfl)) pe_str (nomark _))))) (pss_one (ps_raise rfl (takes_of rfl rfl rfl rfl) (pmk_oex BC.o iC tI GI (hr.mono (by decide)) bI .nil pass0 (by rfl) gC (pa_cons (pe_callB call_len_seq (by rfl) ml PySem.boot_len (pa_cons (pv 2) pa_nil)) (pa_cons pe_str pa_nil))))) pss_nil)
      (pss_cons (ps_asg (pv 0) (pg_tup rfl (pgs_cons (pg_name (i := 3) nd rfl (.inl rfl)) (pgs_cons (pg_name (i := 4) nd rfl (.inl rfl)) (pgs_cons (pg_name (i := 5) nd rfl (.inl rfl)) pgs_nil)))))
      (pss_cons (ps_set (i := 6) nd rfl (.inl rfl) (pe_call GP hr (by rfl) gP kP bP .nil (passes_call (takes_of rfl rfl rfl rfl) (fun _ _ _ _ h => h)) (pa_cons (pe_ix ix_list (pv 2) pe_int (fun _ _ => rfl)) (pa_cons pe_int (pa_cons pe_str (pa_cons (pe_callB call_len_seq (by rfl) ml PySem.boot_len (pa_cons (pv 4) pa_nil)) pa_nil))))))
      (pss_cons (ps_set (i := 7) nd rfl (.inl rfl) (pe_call GP hr (by rfl) gP kP bP .nil (passes_call (takes_of rfl rfl rfl rfl) (fun _ _ _ _ h => h)) (pa_cons (pe_ix ix_list (pv 2) pe_int (fun _ _ => rfl)) (pa_cons pe_int (pa_cons pe_str (pa_cons (pe_callB call_len_seq (by rfl) ml PySem.boot_len (pa_cons (pv 5) pa_nil)) pa_nil))))))
      (pss_one (ps_ret (pe_tup (pa_cons (pe_ix ix_list (pv 2) pe_int (fun _ _ => rfl)) (pa_cons (pv 6) (pa_cons (pv 7) pa_nil)))))))))))
      , ?_⟩
    obtain ⟨wl, wp, wne⟩ := split_bound text 10 (by decide)
    have hres : parseRes xs.length ys.length text = partsRes xs.length ys.length (Txt.split text "\n") := rfl
    rw [hres] at qe qo
    refine ⟨_, rfl, ⟨_, rfl⟩, _, _, rfl, rfl, by decide, by show _ ≤ 2 ^ 24; omega, fun p hp => ?_⟩
    have x1 : Ext [] H (upd H p (.lst ((Txt.split text "\n").map V.str))) := .new hp
    have e1 : (upd H p (.lst ((Txt.split text "\n").map V.str))) p = some (.lst ((Txt.split text "\n").map V.str)) := upd_same
    have wp' : ∀ z ∈ Txt.split text "\n", z.length ≤ text.length := wp
    have wne' : Txt.split text "\n" ≠ [] := wne
    clear wl wp wne hres
    generalize (upd H p (.lst ((Txt.split text "\n").map V.str))) = H1 at x1 e1 ⊢
    generalize Txt.split text "\n" = ls at e1 wp' wne' qe qo ⊢
    have l0 : 0 < ls.length := List.length_pos_iff.mpr wne'
    refine ⟨_, rfl, p, _, _, _, rfl, rfl, SqL.of e1, atI_nat (j := 0) (str_at l0), by show 2 ≤ sizeLine; decide, fun t ht => ?_⟩
    have x2 : Ext [] H1 (upd H1 t (.tup [V.str "best", V.str "weighted"])) := .new ht
    have q2 : SqT K (upd H1 t (.tup [V.str "best", V.str "weighted"])) t [V.str "best", V.str "weighted"] := .inl (.inl upd_same)
    generalize (upd H1 t (.tup [V.str "best", V.str "weighted"])) = H2 at x2 q2 ⊢
    have x12 := x1.trans x2
    have e2 := x2.lst e1 (by simp)
    refine ⟨t, _, rfl, .inr q2, rfl, rfl, _, rfl, ?_⟩
    rw [show (if true = true then !inV (.str (ls.getD 0 Str.empty)) [V.str (Str.ofString "best"), V.str (Str.ofString "weighted")] else inV (.str (ls.getD 0 Str.empty)) [V.str (Str.ofString "best"), V.str (Str.ofString "weighted")]) = !isFirst (ls.getD 0 Str.empty) from congrArg Bool.not (in_first _)]
    unfold partsRes at qe qo
    cases hF : isFirst (ls.getD 0 Str.empty) with
    | false =>
      rw [hF, if_pos rfl] at qe
      exact iteT ⟨by show 2 ≤ 1000; decide, made BC fun H' dd x e => qe 1 _ rfl H' dd (x12.trans x) e⟩
    | true =>
      rw [hF, if_neg (by decide)] at qe qo
      refine iteF ?_
      have bad : ∀ (c : ls.length ≠ 4 ∨ ls.getD 3 Str.empty ≠ ""), ∀ H' dd, Ext [] H2 H' → H' dd = some (.xd [("reason", .str "three lines expected"), ("line", .int (ls.length : Nat))]) → E (.ref C) (some dd) H' := fun c H' dd x e => by
        rw [if_pos c] at qe
        exact qe _ _ rfl H' dd (x12.trans x) e
      refine ⟨_, rfl, p, _, rfl, .inl (SqL.of e2), rfl, _, rfl, ?_⟩
      rw [List.length_map]
      by_cases c4 : ls.length = 4
      rotate_left
      · refine ite2 (fun z => ?_) (fun z => absurd (by rw [decide_eq_false (fun e => c4 (by have := V.int.inj e; omega))]; rfl) z)
        refine ⟨_, rfl, p, _, rfl, .inl (SqL.of e2), by show 2 ≤ 1000; decide, made BC ?_⟩
        rw [List.length_map]
        exact bad (.inl c4)
      refine ite2 (fun z => absurd z (by rw [c4]; decide)) (fun _ => ?_)
      refine ⟨_, rfl, p, _, _, _, rfl, rfl, SqL.of e2, atI_nat (j := 3) (str_at (by omega)), rfl, _, rfl, ?_⟩
      by_cases c5 : ls.getD 3 Str.empty = ""
      rotate_left
      · refine ite2 (fun z => ?_) (fun z => absurd (by rw [decide_eq_false (fun e => c5 (V.str.inj e))]; rfl) z)
        refine ⟨_, rfl, p, _, rfl, .inl (SqL.of e2), by show 2 ≤ 1000; decide, made BC ?_⟩
        rw [List.length_map]
        exact bad (.inr c5)
      refine ite2 (fun z => by rw [c5, decide_eq_true rfl] at z; cases z) (fun _ => ?_)
      rw [if_neg (by rintro (h | h); exact h c4; exact h c5)] at qe qo
      have sN := x12.sqT s1
      refine ⟨_, rfl, np, _, rfl, sN, rfl, _, _, rfl, _, _, rfl, _, _, rfl, rfl, ?_⟩
      have w1 := wp' _ (getD_memS (ls := ls) (j := 1) (by omega))
      have w2 := wp' _ (getD_memS (ls := ls) (j := 2) (by omega))
      refine ⟨_, rfl, p, _, _, _, rfl, rfl, SqL.of e2, atI_nat (j := 1) (str_at (by omega)), _, rfl, mp, _, rfl, .inr (x12.sqT s2), ?_⟩
      refine ⟨ls.getD 1 Str.empty, "heights", 2, xs.length, rfl, by omega, by decide, x12.tab _ hT, x12.tab _ hT2, BC, fun r hr1 H' dd x e => ?_, fun h1 hr1 a H3 x3 ea => ?_⟩
      · rw [hr1] at qe
        exact qe 2 r rfl H' dd (x12.trans x) e
      rw [hr1] at qe qo
      have x13 := x12.trans x3
      have e3 := x3.lst e2 (by simp)
      refine ⟨_, rfl, p, _, _, _, rfl, rfl, SqL.of e3, atI_nat (j := 2) (str_at (by omega)), _, rfl, rp, _, rfl, .inr (x13.sqT s3), ?_⟩
      refine ⟨ls.getD 2 Str.empty, "flow", 3, ys.length, rfl, by omega, by decide, x13.tab _ hT, x13.tab _ hT2, BC, fun r hr2 H' dd x e => ?_, fun f1 hr2 b H4 x4 eb => ?_⟩
      · dsimp only at qe
        rw [hr2] at qe
        exact qe 3 r rfl H' dd (x13.trans x) e
      dsimp only at qo
      rw [hr2] at qo
      have e4 := x4.lst e3 (by simp)
      refine ⟨_, rfl, p, _, _, _, rfl, rfl, SqL.of e4, atI_nat (j := 0) (str_at l0), _, rfl, _, rfl, by show 3 ≤ sizeLine; decide, fun q hq => ?_⟩
      have x5 : Ext [] H4 (upd H4 q (.tup [.str (ls.getD 0 Str.empty), .ref a, .ref b])) := .new hq
      exact qo _ _ _ rfl q a b _ ((x13.trans x4).trans x5) (.inl (.inl upd_same)) ((x4.trans x5).sqT ea) (x5.sqT eb)
end
end K35
set_option Elab.async false
set_option linter.all false
set_option maxRecDepth 100000
set_option maxHeartbeats 4000000
namespace Gx
open PySem PySem.Spec PyProof.Rows L2 RZ
/-! ### what repr writes -/
theorem weight_ints : ∀ ns : List Int, (∀ n ∈ ns, n.natAbs < 10 ^ 12) → PyData.weightAll (ns.map .int) ≤ 42 * ns.length
  | [], _ => Nat.le_refl _
  | n :: r, h => by
    have ih := weight_ints r fun m hm => h m (List.mem_cons_of_mem _ hm)
    have h1 : n.natAbs.log2 < 40 := PySem.Flt.log2_lt_of (by decide) (Nat.lt_trans (h n List.mem_cons_self) (by decide))
    rw [List.map_cons, PyData.weightAll, List.length_cons]
    simp only [PyData.weight]
    split <;> omega
theorem leaves_ints : ∀ ns : List Int, (∀ n ∈ ns, n.natAbs < 10 ^ 12) → PyData.leavesShortAll 13 (ns.map .int) = true
  | [], _ => rfl
  | n :: r, h => by
    rw [List.map_cons, PyData.leavesShortAll, Bool.and_eq_true]
    exact ⟨by simp only [PyData.leavesShort, decide_eq_true_eq]; exact PyData.shown_int_le (h n List.mem_cons_self), leaves_ints r fun m hm => h m (List.mem_cons_of_mem _ hm)⟩
theorem showable_ints : ∀ ns : List Int, (∀ n ∈ ns, n.natAbs < 10 ^ 12) → PyData.showableAll (ns.map .int) = true
  | [], _ => rfl
  | n :: r, h => by
    rw [List.map_cons, PyData.showableAll, Bool.and_eq_true]
    refine ⟨?_, showable_ints r fun m hm => h m (List.mem_cons_of_mem _ hm)⟩
    have h1 := h n List.mem_cons_self
    simp only [PyData.showable, decide_eq_true_eq]
    exact Nat.lt_trans (PySem.Flt.log2_lt_of (k := 40) (by decide) (Nat.lt_trans h1 (by decide))) (by decide)
theorem nodict_ints : ∀ ns : List Int, PyData.hasDictAll (ns.map .int) = false
  | [] => rfl
  | n :: r => by rw [List.map_cons, PyData.hasDictAll, nodict_ints r]; rfl
theorem depth_ints : ∀ ns : List Int, PyData.depthAll (ns.map .int) = 0
  | [] => rfl
  | n :: r => by rw [List.map_cons, PyData.depthAll, depth_ints r]; rfl
theorem log_small {n : Int} (h : n.natAbs < 10 ^ 12) : n.natAbs.log2 < 1920 := Nat.lt_trans (PySem.Flt.log2_lt_of (k := 40) (by decide) (Nat.lt_trans h (by decide))) (by decide)
theorem shows_tupI {ns : List Int} (h : ∀ n ∈ ns, n.natAbs < 10 ^ 12) (hl : ns.length ≤ 1000) : Shows (.tuple (ns.map .int)) := by
  refine ⟨by simp only [PyData.showable]; exact showable_ints ns h, by simp only [PyData.hasDict]; exact nodict_ints ns, by simp only [PyData.depth, depth_ints]; decide, ?_, fun i e => (by cases e), fun x e => (by cases e)⟩
  have e := PyData.shown_le 13 (by decide) (.tuple (ns.map .int)) (by simp only [PyData.leavesShort]; exact leaves_ints ns h)
  have e2 := weight_ints ns h
  simp only [PyData.weight] at e
  show _ ≤ 2 ^ 24
  omega
theorem shows_int {n : Int} (h : n.natAbs < 10 ^ 12) : Shows (.int n) :=
  ⟨by simp only [PyData.showable, decide_eq_true_eq]; exact log_small h, rfl, Nat.zero_le _, Nat.le_trans (PyData.shown_int_le h) (by decide), fun i e => by cases e; exact log_small h, fun x e => by cases e⟩
theorem shows_bl (b : Bool) : Shows (.bool b) := ⟨rfl, rfl, Nat.zero_le _, by cases b <;> decide, fun i e => (by cases e), fun x e => (by cases e)⟩
theorem dp_ints {K : PySem.W.Frag} {H : Hp} : ∀ ns : List Int, DpAll K H (ns.map V.int) (ns.map .int)
  | [] => .nil
  | n :: r => .cons (.int n) (dp_ints r)
theorem dp_tupI {K : PySem.W.Frag} {H : Hp} {a : Addr} {ns : List Int} (h : SqT K H a (ns.map V.int)) : Dp K H (.ref a) (.tuple (ns.map .int)) := .tup h (dp_ints ns)
theorem dp_lstI {K : PySem.W.Frag} {H : Hp} {a : Addr} {ns : List Int} (h : SqL K H a (ns.map V.int)) : Dp K H (.ref a) (.list (ns.map .int)) := .lst h (dp_ints ns)
end Gx
set_option Elab.async false
set_option linter.all false
set_option maxRecDepth 100000
set_option maxHeartbeats 4000000
namespace Gx
open PySem PySem.Spec PyProof.Rows L2 RZ TL
def numS (i : Int) : Str := Str.ofString (toString i)
theorem foldl_dig : ∀ (l : List Nat) (acc j : Nat), NumText.AllDigits l → acc < 10 ^ j → l.foldl (fun acc c => acc * 10 + (c - 48)) acc < 10 ^ (j + l.length)
  | [], acc, j, _, h => by simpa using h
  | c :: r, acc, j, hd, h => by
    have hc := hd c List.mem_cons_self
    have ih := foldl_dig r (acc * 10 + (c - 48)) (j + 1) (fun d hd' => hd d (List.mem_cons_of_mem _ hd')) (by rw [Nat.pow_succ]; omega)
    rw [List.foldl_cons, List.length_cons]
    rw [show j + (r.length + 1) = j + 1 + r.length by omega]
    exact ih
theorem digits_lt {l : List Nat} (h : NumText.AllDigits l) : NumText.digitsVal l < 10 ^ l.length := by
  have := foldl_dig l 0 0 h (by decide)
  rwa [Nat.zero_add] at this
theorem pow_le {a b : Nat} (h : a ≤ b) : 10 ^ a ≤ 10 ^ b := Nat.pow_le_pow_right (by decide) h
theorem wordNum_lt {w : Str} (h : isNum 12 w = true) : (wordNum w).natAbs < 10 ^ 12 := by
  unfold isNum at h
  rw [Bool.or_eq_true] at h
  rcases h with h | h
  · rw [of_decide_eq_true h]
    decide +kernel
  · rw [Bool.and_eq_true, Bool.and_eq_true] at h
    obtain ⟨h1, h2, h3⟩ := h
    obtain ⟨l1, l2⟩ := of_decide_eq_true h1
    have dg : NumText.AllDigits (bodyL (tl w)) := fun c hc => of_decide_eq_true (List.all_eq_true.mp h3 c hc)
    have ne : bodyL (tl w) ≠ [] := fun z => by rw [z] at l1; simp at l1
    have dl := Nat.lt_of_lt_of_le (digits_lt dg) (pow_le l2)
    unfold bodyL at l1 l2 dg ne dl
    cases hs : startsL 45 (tl w) with
    | true =>
      rw [hs] at l1 l2 dg ne dl
      simp only [if_true] at l1 l2 dg ne dl
      obtain ⟨r, hr⟩ : ∃ r, tl w = 45 :: r := by
        cases e : tl w with
        | nil => rw [e] at hs; cases hs
        | cons a r =>
          rw [e] at hs
          unfold startsL at hs
          have : a = 45 := by simpa using hs
          exact ⟨r, by rw [this]⟩
      rw [hr] at l1 l2 dg ne dl
      simp only [List.drop_succ_cons, List.drop_zero] at l1 l2 dg ne dl
      have lw : w.length = r.length + 1 := by rw [← tl_len, hr, List.length_cons]
      have e := intText_neg (x := w) hr dg ne (by omega)
      unfold wordNum
      rw [e]
      show (-((NumText.digitsVal r : Nat) : Int)).natAbs < _
      rw [Int.natAbs_neg, Int.natAbs_natCast]
      exact dl
    | false =>
      rw [hs] at l1 l2 dg ne dl
      simp only [Bool.false_eq_true, if_false] at l1 l2 dg ne dl
      rw [tl_len] at l1 l2
      have e := intText_digits (x := w) dg ne (by omega)
      unfold wordNum
      rw [e]
      show ((NumText.digitsVal (tl w) : Nat) : Int).natAbs < _
      rw [Int.natAbs_natCast]
      exact dl
/-! ### written numbers -/
theorem num_pos (n : Nat) : tl (numS (n : Int)) = numL n := tl_num n
theorem num_neg {n : Nat} (h : 0 < n) : tl (numS (-(n : Int))) = 45 :: numL n := by
  cases n with
  | zero => cases h
  | succ m =>
    have e : (toString (-((m + 1 : Nat) : Int))) = "-" ++ toString (m + 1) := by
      rfl
    unfold numS
    rw [e, tl_ofString, String.toList_append, List.map_append]
    have e2 : tl (Str.ofString (toString ((m + 1 : Nat) : Int))) = numL (m + 1) := tl_num (m + 1)
    rw [tl_ofString] at e2
    have e3 : (toString (((m + 1 : Nat) : Int))) = toString (m + 1) := rfl
    rw [e3] at e2
    rw [e2]
    rfl
theorem numL_head {n : Nat} (h : 0 < n) : startsL 48 (numL n) = false := by
  induction n using Nat.strongRecOn with
  | _ n ih =>
    by_cases h10 : n < 10
    · rw [numL_lt h10]
      unfold startsL
      simp
      omega
    · rw [numL_step (by omega)]
      have := ih (n / 10) (by omega) (by omega)
      have ne := numL_ne (n / 10)
      cases e : numL (n / 10) with
      | nil => exact absurd e ne
      | cons a r =>
        rw [e] at this
        simpa [startsL] using this
theorem isDigit_num (n : Nat) : (numL n).all isDigit = true := by
  rw [List.all_eq_true]
  intro c hc
  exact decide_eq_true (numL_digits n c hc)
theorem numL_pos (n : Nat) : 1 ≤ (numL n).length := List.length_pos_iff.mpr (numL_ne n)
theorem not45 {n : Nat} : startsL 45 (numL n) = false := by
  cases e : numL n with
  | nil => rfl
  | cons a r =>
    have := numL_digits n a (by rw [e]; exact List.mem_cons_self)
    unfold startsL
    simp
    omega
/-- a written number is a number, and reads as itself -/
theorem num_reads_back {i : Int} (h : i.natAbs < 10 ^ 12) : isNum 12 (numS i) = true ∧ wordNum (numS i) = i := by
  obtain ⟨n, rfl | ⟨rfl, hn⟩⟩ : ∃ n : Nat, i = (n : Int) ∨ (i = -(n : Int) ∧ 0 < n) := by
    by_cases c : 0 ≤ i
    · exact ⟨i.toNat, .inl (Int.toNat_of_nonneg c).symm⟩
    · exact ⟨(-i).toNat, .inr ⟨by omega, by omega⟩⟩
  · have hl : (numL n).length ≤ 12 := numL_len (by decide) (by simpa using h)
    have e0 := num_pos n
    refine ⟨?_, ?_⟩
    · unfold isNum
      by_cases z : n = 0
      · subst z
        decide +kernel
      · have hb : bodyL (tl (numS (n : Int))) = numL n := by
          unfold bodyL
          rw [e0, not45]
          rfl
        rw [hb, decide_eq_true (show 1 ≤ (numL n).length ∧ (numL n).length ≤ 12 from ⟨numL_pos n, hl⟩), numL_head (by omega), isDigit_num]
        simp
    · unfold wordNum
      have : intText? (numS (n : Int)) = some (n : Int) := int_num (by omega)
      rw [this]
      rfl
  · rw [Int.natAbs_neg, Int.natAbs_natCast] at h
    have hl : (numL n).length ≤ 12 := numL_len (by decide) h
    have e0 := num_neg hn
    refine ⟨?_, ?_⟩
    · unfold isNum
      have hb : bodyL (tl (numS (-(n : Int)))) = numL n := by
        unfold bodyL
        rw [e0]
        rfl
      rw [hb, decide_eq_true (show 1 ≤ (numL n).length ∧ (numL n).length ≤ 12 from ⟨numL_pos n, hl⟩), numL_head hn, isDigit_num]
      simp
    · unfold wordNum
      have ll : (numS (-(n : Int))).length ≤ 4300 := by
        rw [← tl_len, e0, List.length_cons]
        omega
      rw [intText_neg (x := numS (-(n : Int))) e0 (numL_digits n) (numL_ne n) ll, numL_val]
      rfl
theorem num_small {i : Int} (h : i.natAbs < 10 ^ 12) : (numS i).length ≤ 13 := by
  obtain ⟨n, rfl | ⟨rfl, hn⟩⟩ : ∃ n : Nat, i = (n : Int) ∨ (i = -(n : Int) ∧ 0 < n) := by
    by_cases c : 0 ≤ i
    · exact ⟨i.toNat, .inl (Int.toNat_of_nonneg c).symm⟩
    · exact ⟨(-i).toNat, .inr ⟨by omega, by omega⟩⟩
  · have hl : (numL n).length ≤ 12 := numL_len (by decide) (by simpa using h)
    rw [← tl_len, num_pos]
    omega
  · rw [Int.natAbs_neg, Int.natAbs_natCast] at h
    have hl : (numL n).length ≤ 12 := numL_len (by decide) h
    rw [← tl_len, num_neg hn, List.length_cons]
    omega
/-- no such sign in a written number -/
theorem num_free {i : Int} {s : Nat} (h : s < 45) : s ∉ tl (numS i) := by
  obtain ⟨n, rfl | ⟨rfl, hn⟩⟩ : ∃ n : Nat, i = (n : Int) ∨ (i = -(n : Int) ∧ 0 < n) := by
    by_cases c : 0 ≤ i
    · exact ⟨i.toNat, .inl (Int.toNat_of_nonneg c).symm⟩
    · exact ⟨(-i).toNat, .inr ⟨by omega, by omega⟩⟩
  · rw [num_pos]
    exact numL_free (.inl (by omega))
  · rw [num_neg hn]
    intro z
    rcases List.mem_cons.mp z with z | z
    · omega
    · exact numL_free (.inl (by omega)) z
end Gx
set_option Elab.async false
set_option linter.all false
set_option maxRecDepth 100000
set_option maxHeartbeats 4000000
namespace K35
open PySem PySem.Spec PyProof.Rows L2 Gx RZ TL
theorem map_item {α : Type} {f : α → V} {xs : List α} {i : Nat} {x : V} (h : (xs.map f)[i]? = some x) : ∃ hi : i < xs.length, x = f xs[i] := by
  rw [List.getElem?_map] at h
  cases e : xs[i]? with
  | none => rw [e] at h; cases h
  | some y =>
    rw [e] at h
    obtain ⟨h1, h2⟩ := List.getElem?_eq_some_iff.mp e
    exact ⟨h1, by rw [h2]; exact (Option.some.inj h).symm⟩
theorem sum_leS {B : Nat} : ∀ (l : List Str), (∀ y ∈ l, y.length ≤ B) → (l.map (·.length)).sum ≤ l.length * B
  | [], _ => Nat.zero_le _
  | y :: l, h => by
    have ih := sum_leS l fun z hz => h z (List.mem_cons_of_mem _ hz)
    have h1 := h y List.mem_cons_self
    rw [List.map_cons, List.sum_cons, List.length_cons, Nat.succ_mul]
    omega
def lineW (word : Str) (ns : List Int) : Str := Txt.join " " (word :: ns.map numS)
def textL (wd : Str) (hs fl : List Int) : List Nat := tl wd ++ ([10] ++ (tl (lineW "heights" hs) ++ ([10] ++ (tl (lineW "flow" fl) ++ [10]))))
def textW (wd : Str) (hs fl : List Int) : Str := ⟨(textL wd hs fl).toArray⟩
theorem tl_lineW (word : Str) (ns : List Int) : tl (lineW word ns) = joinL [32] (tl word :: (ns.map numS).map tl) := by
  unfold lineW
  rw [join_eq, tl_join, List.map_cons]
  rfl
theorem free_join {s : Nat} {S : List Nat} (hS : s ∉ S) : ∀ (ps : List (List Nat)), (∀ p ∈ ps, s ∉ p) → s ∉ joinL S ps
  | [], _ => by simp [joinL]
  | p :: ps, h => by
    rw [joinL_flat]
    intro z
    rcases List.mem_append.mp z with z | z
    · exact h p List.mem_cons_self z
    · obtain ⟨l, hl, hz⟩ := List.mem_flatten.mp z
      obtain ⟨q, hq, rfl⟩ := List.mem_map.mp hl
      rcases List.mem_append.mp hz with hz | hz
      · exact hS hz
      · exact h q (List.mem_cons_of_mem _ hq) hz
theorem free_line {s : Nat} (h1 : s < 45) (h2 : s ≠ 32) {word : Str} (hw : s ∉ tl word) (ns : List Int) : s ∉ tl (lineW word ns) := by
  rw [tl_lineW]
  refine free_join (by simpa using h2) _ fun p hp => ?_
  rcases List.mem_cons.mp hp with rfl | hp
  · exact hw
  · obtain ⟨z, hz, rfl⟩ := List.mem_map.mp hp
    obtain ⟨i, _, rfl⟩ := List.mem_map.mp hz
    exact num_free h1
theorem split_line {word : Str} (hw : 32 ∉ tl word) (ns : List Int) : Txt.split (lineW word ns) " " = word :: ns.map numS := by
  refine split_join (y := " ") (s := 32) (S := []) rfl (by decide +kernel) (by simp) fun p hp => ?_
  rcases List.mem_cons.mp hp with rfl | hp
  · exact hw
  · obtain ⟨i, _, rfl⟩ := List.mem_map.mp hp
    exact num_free (by decide)
theorem row_line {word : Str} (hw : 32 ∉ tl word) {ns : List Int} (hn : ∀ n ∈ ns, n.natAbs < 10 ^ 12) : rowRes (lineW word ns) word ns.length = .ok ns := by
  unfold rowRes
  rw [split_line hw]
  have e1 : (word :: ns.map numS).getD 0 Str.empty = word := rfl
  have e2 : (word :: ns.map numS).length = ns.length + 1 := by rw [List.length_cons, List.length_map]
  have e3 : (word :: ns.map numS).drop 1 = ns.map numS := rfl
  rw [e1, if_neg (by simp), e2, if_neg (by simp), e3]
  have e4 : (ns.map numS).all (isNum 12) = true := by
    rw [List.all_eq_true]
    intro z hz
    obtain ⟨i, hi, rfl⟩ := List.mem_map.mp hz
    exact (num_reads_back (hn i hi)).1
  rw [e4, if_neg (by decide)]
  congr 1
  rw [List.map_map]
  have : ∀ l : List Int, (∀ n ∈ l, n.natAbs < 10 ^ 12) → l.map (wordNum ∘ numS) = l := fun l => by
    induction l with
    | nil => intro _; rfl
    | cons a r ih =>
      intro h
      rw [List.map_cons, ih fun n hn => h n (List.mem_cons_of_mem _ hn)]
      show wordNum (numS a) :: r = _
      rw [(num_reads_back (h a List.mem_cons_self)).2]
  exact this ns hn
theorem text_join (wd : Str) (hs fl : List Int) : textW wd hs fl = Txt.join "\n" [wd, lineW "heights" hs, lineW "flow" fl, ""] := by
  refine tl_inj ?_
  rw [join_eq, tl_join]
  show textL wd hs fl = tl wd ++ ([10] ++ (tl (lineW "heights" hs) ++ ([10] ++ (tl (lineW "flow" fl) ++ ([10] ++ [])))))
  rfl
theorem parse_back {wd : Str} {hs fl : List Int} (hf : isFirst wd = true) (h1 : ∀ n ∈ hs, n.natAbs < 10 ^ 12) (h2 : ∀ n ∈ fl, n.natAbs < 10 ^ 12) : parseRes hs.length fl.length (textW wd hs fl) = .ok (wd, hs, fl) := by
  have hw : 10 ∉ tl wd := by
    unfold isFirst at hf
    rw [Bool.or_eq_true, decide_eq_true_eq, decide_eq_true_eq] at hf
    rcases hf with rfl | rfl <;> decide
  have e : Txt.split (textW wd hs fl) "\n" = [wd, lineW "heights" hs, lineW "flow" fl, ""] := by
    rw [text_join]
    refine split_join (y := "\n") (s := 10) (S := []) rfl (by decide +kernel) (by simp) fun p hp => ?_
    simp only [List.mem_cons, List.not_mem_nil, or_false] at hp
    rcases hp with rfl | rfl | rfl | rfl
    · exact hw
    · exact free_line (by decide) (by decide) (by decide) hs
    · exact free_line (by decide) (by decide) (by decide) fl
    · decide
  unfold parseRes partsRes
  rw [e, if_neg (by show ¬ (isFirst wd = false); rw [hf]; decide), if_neg (by show ¬ (4 ≠ 4 ∨ ("" : Str) ≠ ""); simp)]
  show (match rowRes (lineW "heights" hs) "heights" hs.length with
    | Except.error r => Except.error (2, r)
    | Except.ok h => match rowRes (lineW "flow" fl) "flow" fl.length with
      | Except.error r => Except.error (3, r)
      | Except.ok f => Except.ok (wd, h, f)) = Except.ok (wd, hs, fl)
  rw [row_line (by decide) h1, row_line (by decide) h2]
def spWords (K : PySem.W.Frag) : Sp := fun vs H Q _ => ∃ (word : Str) (p : Addr) (ns : List Int), vs = [.str word, .ref p] ∧ SqT K H p (ns.map V.int) ∧ (∀ n ∈ ns, n.natAbs < 10 ^ 12) ∧ ns.length ≤ 1000 ∧ word.length ≤ 100 ∧ ∀ H', Ext [] H H' → Q (.str (lineW word ns)) H'
theorem lineW_len {word : Str} {ns : List Int} (hn : ∀ n ∈ ns, n.natAbs < 10 ^ 12) : (lineW word ns).length ≤ word.length + 14 * ns.length := by
  rw [← tl_len, tl_lineW, joinL_flat, List.length_append, tl_len]
  have : ∀ l : List Int, (∀ n ∈ l, n.natAbs < 10 ^ 12) → ((((l.map numS).map tl).map fun q => [32] ++ q).flatten).length ≤ 14 * l.length := fun l => by
    induction l with
    | nil => intro _; exact Nat.le_refl _
    | cons a r ih =>
      intro h
      have h1 := num_small (h a List.mem_cons_self)
      have h2 := ih fun n hn => h n (List.mem_cons_of_mem _ hn)
      rw [List.map_cons, List.map_cons, List.map_cons, List.flatten_cons, List.length_append, List.length_append, tl_len, List.length_cons]
      have h3 : ([] : List Nat).length = 0 := rfl
      have h4 : (a :: r).length = r.length + 1 := rfl
      omega
  have := this ns hn
  omega
section
variable {P : Program} {w : World} {K : PySem.W.Frag} {mg : Str → Option Value} {base : Heap}
/-! ### numbers_line, _law_words -/
abbrev nNumLine : List Str := ["word", "numbers", "number"]
theorem scNumLine : FnScope nNumLine ["word", "numbers"] (defScope sNumLine) := ⟨rfl, rfl, rfl, by decide +kernel, rfl, by decide +kernel, by decide +kernel⟩
theorem ok_numLine {f : Addr} {fd : FuncData} (mst : mg "str" = none) (F : Fun K "numbers_line" "numbers_line" sNumLine f fd) : FnOk P w K mg base CX0 1 f fd ["word", "numbers"] (spWords K) := by
  have nd := scNumLine.nd
  refine F.ok scNumLine (fun vs H Q E h => ?_) (fun cdv A outer s H vs Q E hr h => ?_)
  · obtain ⟨_, _, _, rfl, _⟩ := h
    rfl
  · obtain ⟨word, p, ns, rfl, hs, hn, hl, hw, q⟩ := h
    refine ⟨_, pss_one (ps_ret (pe_join pe_str (pe_op op_cat (pe_lst (pa_cons (pv 0) pa_nil)) (pe_lc (own := [("number", 2)]) (g := gName 2) (tt := tYes) rfl nd (pi_tup (pv 1)) (blkOk_by (N := nNumLine) (sc := defScope sNumLine) (by decide +kernel))
        (fun _ _ _ _ _ => pg_name (i := 2) nd rfl (.inl rfl)) (fun _ _ _ _ _ => pts_nil) (fun _ _ _ _ _ => pe_callTy call_str_int (by rfl) mst PyProof.Rows.boot_str (pa_cons (pv 2) pa_nil)))))), ?_⟩
    refine ⟨⟨_, rfl⟩, _, rfl, by show 1 ≤ sizeLine; decide, fun l1 hl1 => ?_⟩
    have x1 : Ext [] H (upd H l1 (.lst [V.str word])) := .new hl1
    have e1 : (upd H l1 (.lst [V.str word])) l1 = some (.lst [V.str word]) := upd_same
    generalize (upd H l1 (.lst [V.str word])) = H1 at x1 e1 ⊢
    refine ⟨_, rfl, p, rfl, ⟨_, x1.sqT hs⟩, fun D hD => ?_⟩
    refine lc_tup (K := K) (a := p) (xs := ns.map V.int) (fun i H2 => Ext [] H1 H2 ∧ H2 l1 = some (.lst [V.str word]) ∧ H2 D = some (.lst (((ns.take i).map numS).map V.str)) ∧ D ≠ l1 ∧ H1 D = none) ⟨.new hD, by rw [upd_ne (ne_of_none e1 hD)]; exact e1, upd_same, (ne_of_none e1 hD).symm, hD⟩ (fun i H2 _ h2 => h2.1.sqT (x1.sqT hs)) (fun i x H2 hx h2 => ?_) (fun H2 h2 => ?_)
    · obtain ⟨x2, f1, e2, nD, nH⟩ := h2
      obtain ⟨hi, rfl⟩ := map_item hx
      have hb := hn ns[i] (List.getElem_mem hi)
      refine ⟨rfl, _, rfl, _, rfl, log_small hb, _, e2, ?_, x2.own nH e2, by rw [upd_ne nD.symm]; exact f1, ?_, nD, nH⟩
      · rw [List.length_map, List.length_map, List.length_take]
        exact small1000 (by omega)
      · rw [upd_same, ← snoc numS ns hi, List.map_append]
        rfl
    · obtain ⟨x2, f1, e2, nD, nH⟩ := h2
      rw [List.length_map, List.take_length] at e2
      refine ⟨l1, D, _, _, rfl, rfl, f1, e2, by rw [List.length_map, List.length_map]; show 1 + _ ≤ 2 ^ 24; omega, fun r hr2 => ?_⟩
      refine ⟨_, r, word :: ns.map numS, rfl, rfl, .inl (SqL.of (by rw [upd_same]; rfl)), ?_, ?_⟩
      · have := sum_leS (B := 100) (word :: ns.map numS) fun y hy => by
          rcases List.mem_cons.mp hy with rfl | hy
          · exact hw
          · obtain ⟨z, hz, rfl⟩ := List.mem_map.mp hy
            have := num_small (hn z hz)
            omega
        rw [List.length_cons, List.length_map] at this ⊢
        have z : (" " : Str).length = 1 := rfl
        rw [z]
        have h3 : (ns.length + 1) * 100 ≤ 1001 * 100 := Nat.mul_le_mul (by omega) (Nat.le_refl _)
        omega
      · exact q _ ((x1.trans x2).trans (.new hr2))

abbrev nWords : List Str := ["word", "numbers", "number"]
theorem scWords : FnScope nWords ["word", "numbers"] (defScope sWords) := ⟨rfl, rfl, rfl, by decide +kernel, rfl, by decide +kernel, by decide +kernel⟩
theorem ok_words {f : Addr} {fd : FuncData} (mst : mg "str" = none) (F : Fun K "_law_words" "_law_words" sWords f fd) : FnOk P w K mg base CX0 1 f fd ["word", "numbers"] (spWords K) := by
  have nd := scWords.nd
  refine F.ok scWords (fun vs H Q E h => ?_) (fun cdv A outer s H vs Q E hr h => ?_)
  · obtain ⟨_, _, _, rfl, _⟩ := h
    rfl
  · obtain ⟨word, p, ns, rfl, hs, hn, hl, hw, q⟩ := h
    refine ⟨_, pss_one (ps_ret (pe_join pe_str (pe_op op_cat (pe_lst (pa_cons (pv 0) pa_nil)) (pe_lc (own := [("number", 2)]) (g := gName 2) (tt := tYes) rfl nd (pi_tup (pv 1)) (blkOk_by (N := nWords) (sc := defScope sWords) (by decide +kernel))
        (fun _ _ _ _ _ => pg_name (i := 2) nd rfl (.inl rfl)) (fun _ _ _ _ _ => pts_nil) (fun _ _ _ _ _ => pe_callTy call_str_int (by rfl) mst PyProof.Rows.boot_str (pa_cons (pv 2) pa_nil)))))), ?_⟩
    refine ⟨⟨_, rfl⟩, _, rfl, by show 1 ≤ sizeLine; decide, fun l1 hl1 => ?_⟩
    have x1 : Ext [] H (upd H l1 (.lst [V.str word])) := .new hl1
    have e1 : (upd H l1 (.lst [V.str word])) l1 = some (.lst [V.str word]) := upd_same
    generalize (upd H l1 (.lst [V.str word])) = H1 at x1 e1 ⊢
    refine ⟨_, rfl, p, rfl, ⟨_, x1.sqT hs⟩, fun D hD => ?_⟩
    refine lc_tup (K := K) (a := p) (xs := ns.map V.int) (fun i H2 => Ext [] H1 H2 ∧ H2 l1 = some (.lst [V.str word]) ∧ H2 D = some (.lst (((ns.take i).map numS).map V.str)) ∧ D ≠ l1 ∧ H1 D = none) ⟨.new hD, by rw [upd_ne (ne_of_none e1 hD)]; exact e1, upd_same, (ne_of_none e1 hD).symm, hD⟩ (fun i H2 _ h2 => h2.1.sqT (x1.sqT hs)) (fun i x H2 hx h2 => ?_) (fun H2 h2 => ?_)
    · obtain ⟨x2, f1, e2, nD, nH⟩ := h2
      obtain ⟨hi, rfl⟩ := map_item hx
      have hb := hn ns[i] (List.getElem_mem hi)
      refine ⟨rfl, _, rfl, _, rfl, log_small hb, _, e2, ?_, x2.own nH e2, by rw [upd_ne nD.symm]; exact f1, ?_, nD, nH⟩
      · rw [List.length_map, List.length_map, List.length_take]
        exact small1000 (by omega)
      · rw [upd_same, ← snoc numS ns hi, List.map_append]
        rfl
    · obtain ⟨x2, f1, e2, nD, nH⟩ := h2
      rw [List.length_map, List.take_length] at e2
      refine ⟨l1, D, _, _, rfl, rfl, f1, e2, by rw [List.length_map, List.length_map]; show 1 + _ ≤ 2 ^ 24; omega, fun r hr2 => ?_⟩
      refine ⟨_, r, word :: ns.map numS, rfl, rfl, .inl (SqL.of (by rw [upd_same]; rfl)), ?_, ?_⟩
      · have := sum_leS (B := 100) (word :: ns.map numS) fun y hy => by
          rcases List.mem_cons.mp hy with rfl | hy
          · exact hw
          · obtain ⟨z, hz, rfl⟩ := List.mem_map.mp hy
            have := num_small (hn z hz)
            omega
        rw [List.length_cons, List.length_map] at this ⊢
        have z : (" " : Str).length = 1 := rfl
        rw [z]
        have h3 : (ns.length + 1) * 100 ≤ 1001 * 100 := Nat.mul_le_mul (by omega) (Nat.le_refl _)
        omega
      · exact q _ ((x1.trans x2).trans (.new hr2))
end
end K35
set_option Elab.async false
set_option linter.all false
set_option maxRecDepth 100000
set_option maxHeartbeats 4000000
namespace K35
open PySem PySem.Spec PyProof.Rows L2 Gx RZ TL
section
variable {P : Program} {w : World} {K : PySem.W.Frag} {mg : Str → Option Value} {base : Heap}
/-! ### shown_paper -/
abbrev nShown : List Str := ["paper", "word", "heights", "flow", "lines", "line"]
theorem scShown : FnScope nShown ["paper"] (defScope sShown) := ⟨rfl, rfl, rfl, by decide +kernel, rfl, by decide +kernel, by decide +kernel⟩
def spShown (K : PySem.W.Frag) : Sp := fun vs H Q _ => ∃ (pp hp fp : Addr) (wd : Str) (hs fl : List Int), vs = [.ref pp] ∧ SqT K H pp [.str wd, .ref hp, .ref fp] ∧ SqT K H hp (hs.map V.int) ∧ SqT K H fp (fl.map V.int) ∧ (∀ n ∈ hs, n.natAbs < 10 ^ 12) ∧ (∀ n ∈ fl, n.natAbs < 10 ^ 12) ∧ hs.length ≤ 1000 ∧ fl.length ≤ 1000 ∧ wd.length ≤ 100 ∧
  ∀ H', Ext [] H H' → Q (.str (textW wd hs fl)) H'
theorem shown_join (wd : Str) (hs fl : List Int) : Txt.join "" [wd ++ ("\n" : Str), lineW "heights" hs ++ ("\n" : Str), lineW "flow" fl ++ ("\n" : Str)] = textW wd hs fl := by
  refine tl_inj ?_
  rw [join_eq, tl_join]
  show joinL [] _ = textL wd hs fl
  rw [joinL_nil]
  simp only [List.map_cons, List.map_nil, List.flatten_cons, List.flatten_nil, tl_append]
  unfold textL
  simp only [List.append_assoc, List.append_nil]
  rfl
theorem ok_shown {f fN : Addr} {fd fdN : FuncData} (F : Fun K "shown_paper" "shown_paper" sShown f fd)
    (GN : FnOk P w K mg base CX0 1 fN fdN ["word", "numbers"] (spWords K)) (kN : PySem.W.keepIn K (.ref fN) = true) (bN : Binds K fdN ["word", "numbers"] []) (gN : mg "numbers_line" = some (.ref fN)) : FnOk P w K mg base CX0 2 f fd ["paper"] (spShown K) := by
  have nd := scShown.nd
  refine F.ok scShown (fun vs H Q E h => ?_) (fun cdv A outer s H vs Q E hr h => ?_)
  · obtain ⟨_, _, _, _, _, _, rfl, _⟩ := h
    rfl
  · obtain ⟨pp, hp, fp, wd, hs, fl, rfl, sp, sh, sf, h1, h2, l1, l2, lw, q⟩ := h
    refine ⟨_, pss_cons (ps_asg (pv 0) (pg_tup rfl (pgs_cons (pg_name (i := 1) nd rfl (.inl rfl)) (pgs_cons (pg_name (i := 2) nd rfl (.inl rfl)) (pgs_cons (pg_name (i := 3) nd rfl (.inl rfl)) pgs_nil)))))
      (pss_cons (ps_set (i := 4) nd rfl (.inl rfl) (pe_lst (pa_cons (pv 1) (pa_cons (pe_call GN hr (by rfl) gN kN bN .nil pass0 (pa_cons pe_str (pa_cons (pv 2) pa_nil))) (pa_cons (pe_call GN hr (by rfl) gN kN bN .nil pass0 (pa_cons pe_str (pa_cons (pv 3) pa_nil))) pa_nil)))))
      (pss_one (ps_ret (pe_join pe_str (pe_lc (own := [("line", 5)]) (g := gName 5) (tt := tYes) rfl nd (pi_list (pv 4)) (blkOk_by (N := nShown) (sc := defScope sShown) (by decide +kernel))
        (fun _ _ _ _ _ => pg_name (i := 5) nd rfl (.inl rfl)) (fun _ _ _ _ _ => pts_nil) (fun _ _ _ _ _ => pe_op op_add_str (pv 5) pe_str)))))), ?_⟩
    refine ⟨_, rfl, pp, _, rfl, sp, rfl, _, _, rfl, _, _, rfl, _, _, rfl, rfl, ?_⟩
    refine ⟨_, rfl, _, rfl, "heights", hp, hs, rfl, sh, h1, l1, by decide, fun H1 x1 => ?_⟩
    refine ⟨_, rfl, "flow", fp, fl, rfl, x1.sqT sf, h2, l2, by decide, fun H2 x2 => ?_⟩
    refine ⟨by show 3 ≤ sizeLine; decide, fun L hL => ?_⟩
    have a1 := lineW_len (word := "heights") h1
    have a2 := lineW_len (word := "flow") h2
    have z1 : ("heights" : Str).length = 7 := by decide
    have z2 : ("flow" : Str).length = 4 := by decide
    generalize hls : [wd, lineW "heights" hs, lineW "flow" fl] = ls
    have els : ([V.str wd, V.str (lineW "heights" hs), V.str (lineW "flow" fl)] : List V) = ls.map V.str := by rw [← hls]; rfl
    have bl : ∀ y ∈ ls, y.length ≤ 20000 := fun y hy => by
      rw [← hls] at hy
      simp only [List.mem_cons, List.not_mem_nil, or_false] at hy
      rcases hy with rfl | rfl | rfl <;> omega
    have ll : ls.length = 3 := by rw [← hls]; rfl
    rw [els]
    have x3 : Ext [] H2 (upd H2 L (.lst (ls.map V.str))) := .new hL
    have e3 : (upd H2 L (.lst (ls.map V.str))) L = some (.lst (ls.map V.str)) := upd_same
    generalize (upd H2 L (.lst (ls.map V.str))) = H3 at x3 e3 ⊢
    refine ⟨⟨_, rfl⟩, _, rfl, L, rfl, ⟨_, SqL.of e3⟩, fun D hD => ?_⟩
    refine lc_list (K := K) (a := L) (xs := ls.map V.str) (fun i H4 => Ext [] H3 H4 ∧ H4 D = some (.lst (((ls.take i).map (· ++ ("\n" : Str))).map V.str))) ⟨.new hD, upd_same⟩ (fun i H4 _ h4 => h4.1.sqL (SqL.of e3) (by simp)) (fun i x H4 hx h4 => ?_) (fun H4 h4 => ?_)
    · obtain ⟨x4, e4⟩ := h4
      obtain ⟨hi, rfl⟩ := map_item hx
      have := bl _ (List.getElem_mem hi)
      refine ⟨rfl, _, rfl, _, _, rfl, rfl, ?_, _, e4, ?_, x4.own hD e4, ?_⟩
      · show ls[i].length + 1 ≤ 2 ^ 24
        omega
      · rw [List.length_map, List.length_map, List.length_take]
        exact small1000 (by omega)
      · rw [upd_same, ← snoc (· ++ ("\n" : Str)) ls hi, List.map_append]
        rfl
    · obtain ⟨x4, e4⟩ := h4
      rw [List.length_map, List.take_length] at e4
      refine ⟨_, D, ls.map (· ++ ("\n" : Str)), rfl, rfl, .inl (SqL.of e4), ?_, ?_⟩
      · have := sum_leS (B := 20001) (ls.map (· ++ ("\n" : Str))) fun y hy => by
          obtain ⟨z, hz, rfl⟩ := List.mem_map.mp hy
          have := bl z hz
          rw [← tl_len, tl_append, List.length_append, tl_len]
          have h1 : (tl ("\n" : Str)).length = 1 := by decide
          omega
        rw [List.length_map, ll] at this ⊢
        have z : (Str.ofString "").length = 0 := rfl
        rw [z]
        omega
      · have er : Txt.join (Str.ofString "") (ls.map (· ++ ("\n" : Str))) = textW wd hs fl := by
          rw [← hls]
          exact shown_join wd hs fl
        rw [er]
        exact q _ (((x1.trans x2).trans x3).trans x4)
/-! ### _law_is_number -/
abbrev nLawNum : List Str := ["word", "digits", "sign"]
theorem scLawNum : FnScope nLawNum ["word"] (defScope sLawNum) := ⟨rfl, rfl, rfl, by decide +kernel, rfl, by decide +kernel, by decide +kernel⟩
def spLawNum : Sp := fun vs H Q _ => ∃ x : Str, vs = [.str x] ∧ x.length ≤ 100000 ∧ Q (.bl (isNum 12 x)) H
theorem for_strN {x : Str} {g : TG} {tb : TS} {D : Ends} {σ : L2.St} {H : Hp} (Pv : Nat → L2.St → Hp → Prop) (h0 : Pv 0 σ H)
    (hs : ∀ i c σ H, x.cps[i]? = some c → Pv i σ H → g (.str ⟨#[c]⟩) σ H fun σ2 H2 => tb { D with nx := Pv (i + 1), ct := Pv (i + 1), bk := D.nx } σ2 H2) (hd : ∀ σ H, Pv x.cps.size σ H → D.nx σ H) :
    ∃ W : Nat → Nat → L2.St → Hp → Prop, (∃ m, W 0 m σ H) ∧ ∀ i m σ H, W i m σ H →
      ((Its x).stop i H ∧ D.nx σ H) ∨ ((Its x).go i H ∧ ∃ N : L2.St → Hp → Prop, (∀ σ' H', N σ' H' → ∃ m', m' < m ∧ W (i + 1) m' σ' H') ∧ ∀ v H', (Its x).yld i H v H' → g v σ H' fun σ2 H2 => tb { D with nx := N, ct := N, bk := D.nx } σ2 H2) := by
  refine ⟨fun i m σ H => m = x.cps.size - i ∧ i ≤ x.cps.size ∧ Pv i σ H, ⟨x.cps.size, rfl, Nat.zero_le _, h0⟩, ?_⟩
  rintro i m σ H ⟨rfl, hi, p⟩
  by_cases hlt : i < x.cps.size
  · refine .inr ⟨hlt, Pv (i + 1), fun σ' H' p' => ⟨x.cps.size - (i + 1), by omega, rfl, hlt, p'⟩, fun v H' y => ?_⟩
    obtain ⟨rfl, c, hc, rfl⟩ := y
    exact hs i c σ _ hc p
  · have e : i = x.cps.size := by omega
    subst e
    exact .inl ⟨Nat.le_refl _, hd σ H p⟩
theorem dig_mem (c : Nat) : decide (c ∈ ("0123456789" : Str).cps.toList) = isDigit c := by
  have e : ("0123456789" : Str).cps.toList = [48, 49, 50, 51, 52, 53, 54, 55, 56, 57] := by decide +kernel
  rw [e]
  unfold isDigit
  refine decide_eq_decide.mpr ⟨fun h => ?_, fun h => ?_⟩
  · simp at h
    omega
  · simp
    omega
theorem one_ne {c : Nat} (h : c ≠ 48) : decide (V.str ⟨#[c]⟩ = V.str "0") = false := decide_eq_false fun e => by
  have h1 := congrArg tl (V.str.inj e)
  have h2 : tl (⟨#[c]⟩ : Str) = [c] := rfl
  have h3 : tl ("0" : Str) = [48] := by decide
  rw [h2, h3] at h1
  exact h (by simpa using h1)
theorem ok_lawNum {f : Addr} {fd : FuncData} (ml : mg "len" = none) (F : Fun K "_law_is_number" "_law_is_number" sLawNum f fd) : FnOk P w K mg base CX0 1 f fd ["word"] spLawNum := by
  have nd := scLawNum.nd
  refine F.ok scLawNum (fun vs H Q E h => ?_) (fun cdv A outer s H vs Q E hr h => ?_)
  · obtain ⟨_, rfl, _⟩ := h
    rfl
  · obtain ⟨x, rfl, hx, q⟩ := h
    refine ⟨_, pss_cons (ps_set (i := 1) nd rfl (.inl rfl) (pe_ifExp (pt_cmpR op_eq (pe_slice sl_str (pv 0) po_none (po_some pe_int)) pe_str (nomark _)) (pe_slice sl_str (pv 0) (po_some pe_int) po_none) (pv 0)))
      (pss_cons (ps_if (pt_not (pt_chain op_le op_le pe_int (pe_callB call_len_str (by rfl) ml PySem.boot_len (pa_cons (pv 1) pa_nil)) pe_int)) (pss_one (ps_ret pe_bl)) pss_nil)
      (pss_cons (ps_for PassesOwn.never rfl (pi_str (pv 1)) (pg_name (i := 2) nd rfl (.inl rfl)) (pss_one (ps_if (pt_cmpR op_notIn_sign (pv 2) pe_str (by rfl)) (pss_one (ps_ret pe_bl)) pss_nil)))
      (pss_one (ps_ret (pe_or (pe_cmpR op_ne (pe_ix ix_str (pv 1) pe_int (fun _ _ => rfl)) pe_str (nomark _)) (pe_one (pe_cmpR op_eq (pv 0) pe_str (nomark _)))))))), ?_⟩
    have tk : tl (cutS x none (some 1)) = (tl x).take 1 := by
      by_cases h : 1 ≤ x.length
      · exact tl_cut_to x 1 h
      · have z : tl x = [] := List.length_eq_zero_iff.mp (by rw [tl_len]; omega)
        unfold cutS
        show ((((tl x).drop _).take _).toArray).toList = _
        rw [z]
        simp
    have hc : (cutS x none (some 1) = "-") ↔ startsL 45 (tl x) = true := by
      constructor
      · intro h
        have := congrArg tl h
        rw [tk] at this
        have e2 : tl ("-" : Str) = [45] := by decide
        rw [e2] at this
        cases e : tl x with
        | nil => rw [e] at this; cases this
        | cons a r =>
          rw [e] at this
          have : a = 45 := by simpa using this
          subst this
          rfl
      · intro h
        refine tl_inj ?_
        rw [tk]
        cases e : tl x with
        | nil => rw [e] at h; cases h
        | cons a r =>
          rw [e] at h
          have : a = 45 := by simpa [startsL] using h
          subst this
          show [45] = tl ("-" : Str)
          decide
    refine ⟨_, rfl, 1, rfl, x, rfl, by show _ ≤ 2 ^ 24; omega, rfl, _, rfl, ite2 (fun cz => ?_) (fun cz => ?_)⟩
    · have hs := hc.mp (V.str.inj (of_decide_eq_true cz))
      have hb : bodyL (tl x) = (tl x).drop 1 := by unfold bodyL; rw [if_pos hs]
      have hl : 1 ≤ x.length := by
        rw [← tl_len]
        cases e : tl x with
        | nil => rw [e] at hs; cases hs
        | cons a r => rw [List.length_cons]; omega
      refine ⟨_, rfl, 1, rfl, x, rfl, by show _ ≤ 2 ^ 24; omega, ?_⟩
      have ey : tl (cutS x (some 1) none) = bodyL (tl x) := by rw [hb]; exact tl_cut_from x 1 hl
      generalize cutS x (some 1) none = dg at ey ⊢
      have hy : dg.length ≤ 100000 := by rw [← tl_len, ey, hb, List.length_drop, tl_len]; omega
      have ly : dg.length = (bodyL (tl x)).length := by rw [← ey, tl_len]
      have bad : ¬ (1 ≤ dg.length ∧ dg.length ≤ 12) → Q (.bl false) H := fun hb => by
        rw [ly] at hb
        have h0 : ¬ x = "0" := fun z => by subst z; exact hb (by decide)
        have : isNum 12 x = false := by
          unfold isNum
          rw [decide_eq_false h0, decide_eq_false hb]
          rfl
        rw [this] at q
        exact q
      refine ⟨_, rfl, dg, rfl, by show _ ≤ 2 ^ 24; omega, _, _, rfl, rfl, _, rfl, ?_⟩
      refine ite2 (fun c1 => ?_) (fun c1 => ?_)
      rotate_left
      · refine ⟨_, rfl, iteT (bad fun z => c1 (decide_eq_true (by omega)))⟩
      refine ⟨_, _, rfl, rfl, _, rfl, ite2 (fun c2 => ?_) (fun c2 => ?_)⟩
      · exact bad fun z => by
          rw [decide_eq_true (show ((dg.length : Nat) : Int) ≤ 12 by omega)] at c2
          cases c2
      have hb2 : 1 ≤ dg.length ∧ dg.length ≤ 12 := by
        have h1 := of_decide_eq_true c1
        have h2 : ((dg.length : Nat) : Int) ≤ 12 := by
          apply Classical.byContradiction
          intro z
          rw [decide_eq_false z] at c2
          exact c2 rfl
        omega
      have eN : isNum 12 x = (decide (x = "0") || (!startsL 48 (tl dg) && (tl dg).all isDigit)) := by
        unfold isNum
        rw [← ey, tl_len, decide_eq_true hb2, Bool.true_and]
      rw [eN] at q
      have nb : (tl dg).all isDigit = false → Q (.bl false) H := fun h => by
        have h0 : ¬ x = "0" := fun z => by subst z; rw [ey] at h; revert h; decide
        rw [h, decide_eq_false h0, Bool.and_false, Bool.or_false] at q
        exact q
      refine ⟨_, rfl, dg, rfl, ?_⟩
      refine for_strN (x := dg) (fun i σ H3 => H3 = H ∧ (∃ y2, σ = [some (.str x), some (.str dg), y2]) ∧ ((tl dg).take i).all isDigit = true) ⟨rfl, ⟨_, rfl⟩, rfl⟩ (fun i c σ H3 hc h3 => ?_) (fun σ H3 h3 => ?_)
      · obtain ⟨rfl, ⟨y2, rfl⟩, ha⟩ := h3
        have hil : i < (tl dg).length := by rw [tl_len]; exact (Array.getElem?_eq_some_iff.mp hc).1
        have ec : (tl dg)[i] = c := by
          have h1 : dg.cps.toList[i]? = some c := by rw [Array.getElem?_toList]; exact hc
          exact (List.getElem?_eq_some_iff.mp h1).2
        refine ⟨_, rfl, c, _, rfl, rfl, _, rfl, ?_⟩
        rw [show (!decide (c ∈ (Str.ofString "0123456789").cps.toList)) = !isDigit c from congrArg Bool.not (dig_mem c)]
        cases hd : isDigit c with
        | false =>
          refine iteT (nb ?_)
          rw [List.all_eq_false]
          exact ⟨c, by rw [← ec]; exact List.getElem_mem hil, by rw [hd]; decide⟩
        | true =>
          refine iteF ⟨rfl, ⟨_, rfl⟩, ?_⟩
          rw [List.take_add_one, List.getElem?_eq_getElem hil, List.all_append, ha, ec]
          show (true && (isDigit c && true)) = true
          rw [hd]
          rfl
      · obtain ⟨rfl, ⟨y2, rfl⟩, ha⟩ := h3
        have hsz : dg.cps.size = (tl dg).length := (tl_len dg).symm
        rw [hsz, List.take_length] at ha
        rw [ha, Bool.and_true] at q
        obtain ⟨c0, r0, e0⟩ : ∃ c r, tl dg = c :: r := by
          cases e : tl dg with
          | nil => rw [← tl_len, e] at hb2; simp at hb2
          | cons a r => exact ⟨a, r, rfl⟩
        have hat : dg.cps.toList[0]? = some c0 := by
          show (tl dg)[0]? = some c0
          rw [e0]
          rfl
        refine ⟨_, rfl, _, _, _, rfl, rfl, by show _ ≤ 2 ^ 24; omega, atI_nat (j := 0) hat, rfl, _, rfl, ?_⟩
        rw [e0] at q
        by_cases c48 : c0 = 48
        · subst c48
          rw [show (!startsL 48 (48 :: r0)) = false from rfl, Bool.or_false] at q
          refine iteF ?_
          refine ⟨_, rfl, rfl, ?_⟩
          rw [show decide (V.str x = V.str (Str.ofString "0")) = decide (x = "0") from decide_eq_decide.mpr ⟨V.str.inj, congrArg V.str⟩]
          exact q
        · have s0 : startsL 48 (c0 :: r0) = false := by
            unfold startsL
            simp
            exact c48
          rw [s0, Bool.not_false, Bool.or_true] at q
          refine ite2 (fun _ => q) (fun z => absurd ?_ z)
          rw [one_ne c48]
          rfl
    · have hs : startsL 45 (tl x) = false := by
        cases e : startsL 45 (tl x) with
        | false => rfl
        | true => exact absurd (decide_eq_true (congrArg V.str (hc.mpr e))) cz
      have hb : bodyL (tl x) = tl x := by unfold bodyL; rw [hs]; rfl
      have ey : tl x = bodyL (tl x) := hb.symm
      refine ⟨_, rfl, ?_⟩
      have ly : x.length = (bodyL (tl x)).length := by rw [← ey, tl_len]
      have bad : ¬ (1 ≤ x.length ∧ x.length ≤ 12) → Q (.bl false) H := fun hb => by
        rw [ly] at hb
        have h0 : ¬ x = "0" := fun z => by subst z; exact hb (by decide)
        have : isNum 12 x = false := by
          unfold isNum
          rw [decide_eq_false h0, decide_eq_false hb]
          rfl
        rw [this] at q
        exact q
      refine ⟨_, rfl, x, rfl, by show _ ≤ 2 ^ 24; omega, _, _, rfl, rfl, _, rfl, ?_⟩
      refine ite2 (fun c1 => ?_) (fun c1 => ?_)
      rotate_left
      · refine ⟨_, rfl, iteT (bad fun z => c1 (decide_eq_true (by omega)))⟩
      refine ⟨_, _, rfl, rfl, _, rfl, ite2 (fun c2 => ?_) (fun c2 => ?_)⟩
      · exact bad fun z => by
          rw [decide_eq_true (show ((x.length : Nat) : Int) ≤ 12 by omega)] at c2
          cases c2
      have hb2 : 1 ≤ x.length ∧ x.length ≤ 12 := by
        have h1 := of_decide_eq_true c1
        have h2 : ((x.length : Nat) : Int) ≤ 12 := by
          apply Classical.byContradiction
          intro z
          rw [decide_eq_false z] at c2
          exact c2 rfl
        omega
      have eN : isNum 12 x = (decide (x = "0") || (!startsL 48 (tl x) && (tl x).all isDigit)) := by
        unfold isNum
        rw [← ey, tl_len, decide_eq_true hb2, Bool.true_and]
      rw [eN] at q
      have nb : (tl x).all isDigit = false → Q (.bl false) H := fun h => by
        have h0 : ¬ x = "0" := fun z => by subst z; rw [ey] at h; revert h; decide
        rw [h, decide_eq_false h0, Bool.and_false, Bool.or_false] at q
        exact q
      refine ⟨_, rfl, x, rfl, ?_⟩
      refine for_strN (x := x) (fun i σ H3 => H3 = H ∧ (∃ y2, σ = [some (.str x), some (.str x), y2]) ∧ ((tl x).take i).all isDigit = true) ⟨rfl, ⟨_, rfl⟩, rfl⟩ (fun i c σ H3 hc h3 => ?_) (fun σ H3 h3 => ?_)
      · obtain ⟨rfl, ⟨y2, rfl⟩, ha⟩ := h3
        have hil : i < (tl x).length := by rw [tl_len]; exact (Array.getElem?_eq_some_iff.mp hc).1
        have ec : (tl x)[i] = c := by
          have h1 : x.cps.toList[i]? = some c := by rw [Array.getElem?_toList]; exact hc
          exact (List.getElem?_eq_some_iff.mp h1).2
        refine ⟨_, rfl, c, _, rfl, rfl, _, rfl, ?_⟩
        rw [show (!decide (c ∈ (Str.ofString "0123456789").cps.toList)) = !isDigit c from congrArg Bool.not (dig_mem c)]
        cases hd : isDigit c with
        | false =>
          refine iteT (nb ?_)
          rw [List.all_eq_false]
          exact ⟨c, by rw [← ec]; exact List.getElem_mem hil, by rw [hd]; decide⟩
        | true =>
          refine iteF ⟨rfl, ⟨_, rfl⟩, ?_⟩
          rw [List.take_add_one, List.getElem?_eq_getElem hil, List.all_append, ha, ec]
          show (true && (isDigit c && true)) = true
          rw [hd]
          rfl
      · obtain ⟨rfl, ⟨y2, rfl⟩, ha⟩ := h3
        have hsz : x.cps.size = (tl x).length := (tl_len x).symm
        rw [hsz, List.take_length] at ha
        rw [ha, Bool.and_true] at q
        obtain ⟨c0, r0, e0⟩ : ∃ c r, tl x = c :: r := by
          cases e : tl x with
          | nil => rw [← tl_len, e] at hb2; simp at hb2
          | cons a r => exact ⟨a, r, rfl⟩
        have hat : x.cps.toList[0]? = some c0 := by
          show (tl x)[0]? = some c0
          rw [e0]
          rfl
        refine ⟨_, rfl, _, _, _, rfl, rfl, by show _ ≤ 2 ^ 24; omega, atI_nat (j := 0) hat, rfl, _, rfl, ?_⟩
        rw [e0] at q
        by_cases c48 : c0 = 48
        · subst c48
          rw [show (!startsL 48 (48 :: r0)) = false from rfl, Bool.or_false] at q
          refine iteF ?_
          refine ⟨_, rfl, rfl, ?_⟩
          rw [show decide (V.str x = V.str (Str.ofString "0")) = decide (x = "0") from decide_eq_decide.mpr ⟨V.str.inj, congrArg V.str⟩]
          exact q
        · have s0 : startsL 48 (c0 :: r0) = false := by
            unfold startsL
            simp
            exact c48
          rw [s0, Bool.not_false, Bool.or_true] at q
          refine ite2 (fun _ => q) (fun z => absurd ?_ z)
          rw [one_ne c48]
          rfl
end
end K35
set_option Elab.async false
set_option linter.all false
set_option maxRecDepth 100000
set_option maxHeartbeats 4000000
namespace K35
open PySem PySem.Spec PyProof.Rows L2 Gx RZ TL
section
variable {P : Program} {w : World} {K : PySem.W.Frag} {mg : Str → Option Value} {base : Heap}
/-! ### _law_row -/
abbrev nRow : List Str := ["line", "text", "word", "many", "words", "one"]
theorem scRow : FnScope nRow ["line", "text", "word", "many"] (defScope sRow) := ⟨rfl, rfl, rfl, by decide +kernel, rfl, by decide +kernel, by decide +kernel⟩
def spRow (K : PySem.W.Frag) : Sp := fun vs H Q _ => ∃ (pl : Nat) (line word : Str) (many : Nat), vs = [.int (pl : Nat), .str line, .str word, .int (many : Nat)] ∧ line.length ≤ 50000 ∧ word.length ≤ 100 ∧
  (∀ r, rowRes line word many = .error r → ∀ q H', Ext [] H H' → H' q = some (.tup [.int (pl : Nat), .str r]) → Q (.ref q) H') ∧
  (∀ ns, rowRes line word many = .ok ns → ∀ q H', Ext [] H H' → H' q = some (.lst (ns.map V.int)) → Q (.ref q) H')
theorem ok_row {f fN : Addr} {fd fdN : FuncData} (ml : mg "len" = none) (mi : mg "int" = none) (F : Fun K "_law_row" "_law_row" sRow f fd)
    (GN : FnOk P w K mg base CX0 1 fN fdN ["word"] spLawNum) (kN : PySem.W.keepIn K (.ref fN) = true) (bN : Binds K fdN ["word"] []) (gN : mg "_law_is_number" = some (.ref fN)) : FnOk P w K mg base CX0 2 f fd ["line", "text", "word", "many"] (spRow K) := by
  have nd := scRow.nd
  refine F.ok scRow (fun vs H Q E h => ?_) (fun cdv A outer s H vs Q E hr h => ?_)
  · obtain ⟨_, _, _, _, rfl, _⟩ := h
    rfl
  · obtain ⟨pl, line, word, many, rfl, hl, hw, qe, qo⟩ := h
    refine ⟨_, pss_cons (ps_set (i := 4) nd rfl (.inl rfl) (pe_split (pv 1) pe_str))
      (pss_cons (ps_if (pt_cmpR op_ne (pe_ix ix_list (pv 4) pe_int (fun _ _ => rfl)) (pv 2) (nomark _)) (pss_one (ps_ret (pe_tup (pa_cons (pv 0) (pa_cons (pe_op op_add_str (pv 2) pe_str) pa_nil))))) pss_nil)
      (pss_cons (ps_if (pt_cmpR op_ne (pe_callB call_len_seq (by rfl) ml PySem.boot_len (pa_cons (pv 4) pa_nil)) (pe_op op_add (pv 3) pe_int) (nomark _)) (pss_one (ps_ret (pe_tup (pa_cons (pv 0) (pa_cons pe_str pa_nil))))) pss_nil)
      (pss_cons (ps_for PassesOwn.never rfl (pi_list (pe_slice sl_list (pv 4) (po_some pe_int) po_none)) (pg_name (i := 5) nd rfl (.inl rfl)) (pss_one (ps_if (pt_not (pt_val (pe_call GN hr (by rfl) gN kN bN .nil pass0 (pa_cons (pv 5) pa_nil)))) (pss_one (ps_ret (pe_tup (pa_cons (pv 0) (pa_cons pe_str pa_nil))))) pss_nil)))
      (pss_one (ps_ret (pe_lc (own := [("one", 5)]) (g := gName 5) (tt := tYes) rfl nd (pi_list (pe_slice sl_list (pv 4) (po_some pe_int) po_none)) (blkOk_by (N := nRow) (sc := defScope sRow) (by decide +kernel))
        (fun _ _ _ _ _ => pg_name (i := 5) nd rfl (.inl rfl)) (fun _ _ _ _ _ => pts_nil) (fun _ _ _ _ _ => pe_callTy call_int_str (by rfl) mi PyProof.Rows.boot_int (pa_cons (pv 5) pa_nil)))))))), ?_⟩
    obtain ⟨wl, wp, wne⟩ := split_bound line 32 (by decide)
    refine ⟨_, rfl, ⟨_, rfl⟩, _, _, rfl, rfl, by decide, by show _ ≤ 2 ^ 24; omega, fun p hp => ?_⟩
    have x1 : Ext [] H (upd H p (.lst ((Txt.split line " ").map V.str))) := .new hp
    have e1 : (upd H p (.lst ((Txt.split line " ").map V.str))) p = some (.lst ((Txt.split line " ").map V.str)) := upd_same
    have hws : rowRes line word many = (if (Txt.split line " ").getD 0 Str.empty ≠ word then .error (word ++ " expected")
      else if (Txt.split line " ").length ≠ many + 1 then .error "wrong number of words"
      else if ((Txt.split line " ").drop 1).all (isNum 12) = false then .error "not a number"
      else .ok (((Txt.split line " ").drop 1).map wordNum)) := rfl
    have wl' : (Txt.split line " ").length ≤ line.length + 1 := wl
    have wp' : ∀ p ∈ Txt.split line " ", p.length ≤ line.length := wp
    have wne' : Txt.split line " " ≠ [] := wne
    clear wl wp wne
    generalize (upd H p (.lst ((Txt.split line " ").map V.str))) = H1 at x1 e1 ⊢
    generalize rowRes line word many = res at hws qe qo
    generalize Txt.split line " " = ws at e1 hws wl' wp' wne' ⊢
    have l0 : 0 < ws.length := List.length_pos_iff.mpr wne'
    refine ⟨_, rfl, p, _, _, _, rfl, rfl, SqL.of e1, atI_nat (j := 0) (str_at l0), _, rfl, rfl, _, rfl, ?_⟩
    have tup : ∀ (r : Str), res = .error r → ∀ H2, Ext [] H1 H2 → 2 ≤ sizeLine ∧ ∀ q, H2 q = none → Q (.ref q) (upd H2 q (.tup [.int (pl : Nat), .str r])) := fun r hres H2 x2 =>
      ⟨by decide, fun q hq => qe r hres q _ ((x1.trans x2).trans (.new hq)) upd_same⟩
    by_cases c1 : ws.getD 0 Str.empty = word
    rotate_left
    · rw [if_pos c1] at hws
      refine ite2 (fun z => ?_) (fun z => absurd (by rw [decide_eq_false (fun e => c1 (V.str.inj e))]; rfl) z)
      have lz : (" expected" : Str).length = 9 := by decide
      exact ⟨_, rfl, _, rfl, _, _, rfl, rfl, by rw [lz]; show _ ≤ 2 ^ 24; omega, tup _ hws H1 .refl⟩
    rw [if_neg (by simpa using c1)] at hws
    refine ite2 (fun z => by rw [c1, decide_eq_true rfl] at z; cases z) (fun _ => ?_)
    refine ⟨_, rfl, p, _, rfl, .inl (SqL.of e1), _, rfl, _, _, rfl, rfl, rfl, _, rfl, ?_⟩
    by_cases c2 : ws.length = many + 1
    rotate_left
    · rw [if_pos c2] at hws
      refine ite2 (fun z => ?_) (fun z => absurd (by rw [decide_eq_false (fun e => c2 (by have := V.int.inj e; rw [List.length_map] at this; omega))]; rfl) z)
      exact ⟨_, rfl, tup _ hws H1 .refl⟩
    rw [if_neg (by simpa using c2)] at hws
    refine ite2 (fun z => by rw [decide_eq_true (by rw [List.length_map, c2]; rfl)] at z; cases z) (fun _ => ?_)
    have cc : cutV (ws.map V.str) (some 1) none = (ws.drop 1).map V.str := by
      have := cut_hi (xs := ws.map V.str) (j := 1) (by rw [List.length_map]; omega)
      rw [← List.map_drop] at this
      exact this
    refine ⟨_, rfl, _, rfl, p, _, rfl, SqL.of e1, fun p2 hp2 => ?_⟩
    have x2 : Ext [] H1 (upd H1 p2 (.lst (cutV (ws.map V.str) (some 1) none))) := .new hp2
    have e2 : (upd H1 p2 (.lst (cutV (ws.map V.str) (some 1) none))) p2 = some (.lst ((ws.drop 1).map V.str)) := by rw [upd_same, cc]
    generalize (upd H1 p2 (.lst (cutV (ws.map V.str) (some 1) none))) = H2 at x2 e2 ⊢
    have ep2 := x2.lst e1 (by simp)
    have wd : ∀ z ∈ ws.drop 1, z.length ≤ line.length := fun z hz => wp' z (List.mem_of_mem_drop hz)
    refine ⟨p2, rfl, ⟨_, SqL.of e2⟩, ?_⟩
    refine for_list (K := K) (a := p2) (xs := (ws.drop 1).map V.str) (fun i σ H4 => H4 = H2 ∧ (∃ y5, σ = [some (.int (pl : Nat)), some (.str line), some (.str word), some (.int (many : Nat)), some (.ref p), y5]) ∧ ((ws.drop 1).take i).all (isNum 12) = true) ⟨rfl, ⟨_, rfl⟩, rfl⟩ (fun i σ H4 _ h4 => by rw [h4.1]; exact SqL.of e2) (fun i y σ H4 hy h4 => ?_) (fun σ H4 h4 => ?_)
    · obtain ⟨rfl, ⟨y5, rfl⟩, ha⟩ := h4
      obtain ⟨hi, rfl⟩ := map_item hy
      have lz := wd _ (List.getElem_mem hi)
      refine ⟨_, rfl, _, rfl, by omega, _, rfl, ?_⟩
      cases hn : isNum 12 (ws.drop 1)[i] with
      | false =>
        refine iteT ⟨_, rfl, ?_⟩
        have : ((ws.drop 1).all (isNum 12)) = false := by
          rw [List.all_eq_false]
          exact ⟨_, List.getElem_mem hi, by rw [hn]; decide⟩
        rw [if_pos this] at hws
        exact tup _ hws _ x2
      | true =>
        refine iteF ⟨rfl, ⟨_, rfl⟩, ?_⟩
        rw [List.take_add_one, List.getElem?_eq_getElem hi, List.all_append, ha]
        show (true && (isNum 12 (ws.drop 1)[i] && true)) = true
        rw [hn]
        rfl
    · obtain ⟨rfl, ⟨y5, rfl⟩, hal⟩ := h4
      rw [List.length_map, List.take_length] at hal
      rw [if_neg (by rw [hal]; decide)] at hws
      refine ⟨_, rfl, _, rfl, p, _, rfl, SqL.of ep2, fun p5 hp5 => ?_⟩
      have x5 : Ext [] H4 (upd H4 p5 (.lst (cutV (ws.map V.str) (some 1) none))) := .new hp5
      have e5 : (upd H4 p5 (.lst (cutV (ws.map V.str) (some 1) none))) p5 = some (.lst ((ws.drop 1).map V.str)) := by rw [upd_same, cc]
      generalize (upd H4 p5 (.lst (cutV (ws.map V.str) (some 1) none))) = H5 at x5 e5 ⊢
      refine ⟨p5, rfl, ⟨_, SqL.of e5⟩, fun D hD => ?_⟩
      refine lc_list (K := K) (a := p5) (xs := (ws.drop 1).map V.str) (fun i H7 => Ext [] H5 H7 ∧ H7 D = some (.lst ((((ws.drop 1).take i).map wordNum).map V.int))) ⟨.new hD, upd_same⟩ (fun i H7 _ h7 => h7.1.sqL (SqL.of e5) (by simp)) (fun i y H7 hy h7 => ?_) (fun H7 h7 => ?_)
      · obtain ⟨x7, e7⟩ := h7
        obtain ⟨hi, rfl⟩ := map_item hy
        obtain ⟨n1, n2⟩ := num_ok (most := 12) (by decide) (List.all_eq_true.mp hal _ (List.getElem_mem hi))
        refine ⟨rfl, _, rfl, _, _, rfl, n1, n2, _, e7, ?_, x7.own hD e7, ?_⟩
        · rw [List.length_map, List.length_map, List.length_take, List.length_drop]
          show _ < 2 ^ 24
          omega
        · rw [upd_same, ← ints_snoc wordNum (ws.drop 1) hi]
      · obtain ⟨x7, e7⟩ := h7
        rw [List.length_map, List.take_length] at e7
        exact qo _ hws D H7 (((x1.trans x2).trans x5).trans x7) e7
end
end K35
set_option Elab.async false
set_option linter.all false
set_option maxRecDepth 100000
set_option maxHeartbeats 4000000
namespace K35
open PySem PySem.Spec PyProof.Rows L2 Gx RZ TL
section
variable {P : Program} {w : World} {K : PySem.W.Frag} {mg : Str → Option Value} {base : Heap}
/-! ### _law_due -/
abbrev nDue : List Str := ["net", "text", "lines", "heights", "flow"]
theorem scDue : FnScope nDue ["net", "text"] (defScope sDue) := ⟨rfl, rfl, rfl, by decide +kernel, rfl, by decide +kernel, by decide +kernel⟩
/-- the answer at q that stands for what is read -/
def AnsAt (K : PySem.W.Frag) (H : Hp) (q : Addr) (r : Except (Nat × Str) (Str × List Int × List Int)) : Prop :=
  match r with
  | .error (pl, s) => H q = some (.tup [.int (pl : Nat), .str s])
  | .ok (wd, hs, fl) => ∃ a b, SqT K H q [.str wd, .ref a, .ref b] ∧ SqT K H a (hs.map V.int) ∧ SqT K H b (fl.map V.int)
def spDue (K : PySem.W.Frag) : Sp := fun vs H Q _ => ∃ (np : Addr) (xs ys : List V) (text : Str), vs = [.ref np, .str text] ∧ RdIn K H np xs ys text ∧
  (∀ q H', Ext [] H H' → AnsAt K H' q (parseRes xs.length ys.length text) → Q (.ref q) H')
theorem in_firstL (x : Str) : inV (.str x) [.str "best", .str "weighted"] = isFirst x := in_first x
theorem ok_due {f fR : Addr} {fd fdR : FuncData} (ml : mg "len" = none) (mii : mg "isinstance" = none) (mt : mg "tuple" = none) (F : Fun K "_law_due" "_law_due" sDue f fd)
    (GR : FnOk P w K mg base CX0 2 fR fdR ["line", "text", "word", "many"] (spRow K)) (kR : PySem.W.keepIn K (.ref fR) = true) (bR : Binds K fdR ["line", "text", "word", "many"] []) (gR : mg "_law_row" = some (.ref fR)) : FnOk P w K mg base CX0 3 f fd ["net", "text"] (spDue K) := by
  have nd := scDue.nd
  refine F.ok scDue (fun vs H Q E h => ?_) (fun cdv A outer s H vs Q E hr h => ?_)
  · obtain ⟨_, _, _, _, rfl, _⟩ := h
    rfl
  · obtain ⟨np, xs, ys, text, rfl, ⟨⟨v0, mp, rp, s1, s2, s3⟩, htx, hl1, hl2⟩, q⟩ := h
    refine ⟨_, pss_cons (ps_set (i := 2) nd rfl (.inl rfl) (pe_split (pv 1) pe_str))
      (pss_cons (ps_if (pt_cmpR (r := rIn K true) op_notIn_seq (pe_ix ix_list (pv 2) pe_int (fun _ _ => rfl)) (pe_lst (pa_cons pe_str (pa_cons pe_str pa_nil))) (by rfl)) (pss_one (ps_ret (pe_tup (pa_cons pe_int (pa_cons pe_str pa_nil))))) pss_nil)
      (pss_cons (ps_if (PW.pt (pw_or (pt_cmpR op_ne (pe_callB call_len_seq (by rfl) ml PySem.boot_len (pa_cons (pv 2) pa_nil)) pe_int (nomark _)) (pw_or1 (pt_cmpR op_ne (pe_ix ix_list (pv 2) pe_int (fun _ _ => rfl)) pe_str (nomark _))))) (pss_one (ps_ret (pe_tup (pa_cons (pe_callB call_len_seq (by rfl) ml PySem.boot_len (pa_cons (pv 2) pa_nil)) (pa_cons pe_str pa_nil))))) pss_nil)
      (pss_cons (ps_set (i := 3) nd rfl (.inl rfl) (pe_call GR hr (by rfl) gR kR bR .nil pass0 (pa_cons pe_int (pa_cons (pe_ix ix_list (pv 2) pe_int (fun _ _ => rfl)) (pa_cons pe_str (pa_cons (pe_callB call_len_seq (by rfl) ml PySem.boot_len (pa_cons (pe_ix ix_tup (pv 0) pe_int (fun _ _ => rfl)) pa_nil)) pa_nil))))))
      (pss_cons (ps_if (pt_val (pe_callB call_isi (by rfl) mii PyProof.Rows.boot_isinstance (pa_cons (pv 3) (pa_cons (pe_bltn (v := .ty "tuple") (u := .type "tuple") (by rfl) mt (by decide +kernel) rfl) pa_nil)))) (pss_one (ps_ret (pv 3))) pss_nil)
      (pss_cons (ps_set (i := 4) nd rfl (.inl rfl) (pe_call GR hr (by rfl) gR kR bR .nil pass0 (pa_cons pe_int (pa_cons (pe_ix ix_list (pv 2) pe_int (fun _ _ => rfl)) (pa_cons pe_str (pa_cons (pe_callB call_len_seq (by rfl) ml PySem.boot_len (pa_cons (pe_ix ix_tup (pv 0) pe_int (fun _ _ => rfl)) pa_nil)) pa_nil))))))
      (pss_cons (ps_if (pt_val (pe_callB call_isi (by rfl) mii PyProof.Rows.boot_isinstance (pa_cons (pv 4) (pa_cons (pe_bltn (v := .ty "tuple") (u := .type "tuple") (by rfl) mt (by decide +kernel) rfl) pa_nil)))) (pss_one (ps_ret (pv 4))) pss_nil)
      (pss_one (ps_ret (pe_tup (pa_cons (pe_ix ix_list (pv 2) pe_int (fun _ _ => rfl)) (pa_cons (pe_callTy call_tuple_of (by rfl) mt PyProof.Rows.boot_tuple (pa_cons (pv 3) pa_nil)) (pa_cons (pe_callTy call_tuple_of (by rfl) mt PyProof.Rows.boot_tuple (pa_cons (pv 4) pa_nil)) pa_nil))))))))))))
      , ?_⟩
    obtain ⟨wl, wp, wne⟩ := split_bound text 10 (by decide)
    have hres : parseRes xs.length ys.length text = partsRes xs.length ys.length (Txt.split text "\n") := rfl
    rw [hres] at q
    refine ⟨_, rfl, ⟨_, rfl⟩, _, _, rfl, rfl, by decide, by show _ ≤ 2 ^ 24; omega, fun p hp => ?_⟩
    have x1 : Ext [] H (upd H p (.lst ((Txt.split text "\n").map V.str))) := .new hp
    have e1 : (upd H p (.lst ((Txt.split text "\n").map V.str))) p = some (.lst ((Txt.split text "\n").map V.str)) := upd_same
    have wp' : ∀ z ∈ Txt.split text "\n", z.length ≤ text.length := wp
    have wne' : Txt.split text "\n" ≠ [] := wne
    clear wl wp wne hres
    generalize (upd H p (.lst ((Txt.split text "\n").map V.str))) = H1 at x1 e1 ⊢
    generalize Txt.split text "\n" = ls at e1 wp' wne' q ⊢
    have l0 : 0 < ls.length := List.length_pos_iff.mpr wne'
    refine ⟨_, rfl, p, _, _, _, rfl, rfl, SqL.of e1, atI_nat (j := 0) (str_at l0), by show 2 ≤ sizeLine; decide, fun t ht => ?_⟩
    have x2 : Ext [] H1 (upd H1 t (.lst [V.str "best", V.str "weighted"])) := .new ht
    have q2 : SqL K (upd H1 t (.lst [V.str "best", V.str "weighted"])) t [V.str "best", V.str "weighted"] := SqL.of upd_same
    generalize (upd H1 t (.lst [V.str "best", V.str "weighted"])) = H2 at x2 q2 ⊢
    have x12 := x1.trans x2
    have e2 := x2.lst e1 (by simp)
    refine ⟨t, _, rfl, .inl q2, rfl, rfl, _, rfl, ?_⟩
    rw [show (if true = true then !inV (.str (ls.getD 0 Str.empty)) [V.str (Str.ofString "best"), V.str (Str.ofString "weighted")] else inV (.str (ls.getD 0 Str.empty)) [V.str (Str.ofString "best"), V.str (Str.ofString "weighted")]) = !isFirst (ls.getD 0 Str.empty) from congrArg Bool.not (in_first _)]
    unfold partsRes at q
    cases hF : isFirst (ls.getD 0 Str.empty) with
    | false =>
      rw [hF, if_pos rfl] at q
      exact iteT ⟨by show 2 ≤ sizeLine; decide, fun r hr2 => q r _ (x12.trans (.new hr2)) upd_same⟩
    | true =>
      rw [hF, if_neg (by decide)] at q
      refine iteF ?_
      have bad : ∀ (c : ls.length ≠ 4 ∨ ls.getD 3 Str.empty ≠ ""), 2 ≤ sizeLine ∧ ∀ r, H2 r = none → Q (.ref r) (upd H2 r (.tup [.int (ls.length : Nat), .str "three lines expected"])) := fun c => ⟨by decide, fun r hr2 => by
        rw [if_pos c] at q
        exact q r _ (x12.trans (.new hr2)) upd_same⟩
      refine ⟨_, rfl, p, _, rfl, .inl (SqL.of e2), rfl, _, rfl, ?_⟩
      rw [List.length_map]
      by_cases c4 : ls.length = 4
      rotate_left
      · refine ite2 (fun z => ?_) (fun z => absurd (by rw [decide_eq_false (fun e => c4 (by have := V.int.inj e; omega))]; rfl) z)
        refine ⟨_, rfl, p, _, rfl, .inl (SqL.of e2), ?_⟩
        rw [List.length_map]
        exact bad (.inl c4)
      refine ite2 (fun z => absurd z (by rw [c4]; decide)) (fun _ => ?_)
      refine ⟨_, rfl, p, _, _, _, rfl, rfl, SqL.of e2, atI_nat (j := 3) (str_at (by omega)), rfl, _, rfl, ?_⟩
      by_cases c5 : ls.getD 3 Str.empty = ""
      rotate_left
      · refine ite2 (fun z => ?_) (fun z => absurd (by rw [decide_eq_false (fun e => c5 (V.str.inj e))]; rfl) z)
        refine ⟨_, rfl, p, _, rfl, .inl (SqL.of e2), ?_⟩
        rw [List.length_map]
        exact bad (.inr c5)
      refine ite2 (fun z => by rw [c5, decide_eq_true rfl] at z; cases z) (fun _ => ?_)
      rw [if_neg (by rintro (h | h); exact h c4; exact h c5)] at q
      have w1 := wp' _ (getD_memS (ls := ls) (j := 1) (by omega))
      have w2 := wp' _ (getD_memS (ls := ls) (j := 2) (by omega))
      refine ⟨_, rfl, p, _, _, _, rfl, rfl, SqL.of e2, atI_nat (j := 1) (str_at (by omega)), _, rfl, np, _, _, _, rfl, rfl, x12.sqT s1, atI_nat (j := 1) rfl, mp, _, rfl, .inr (x12.sqT s2), ?_⟩
      refine ⟨2, ls.getD 1 Str.empty, "heights", xs.length, rfl, by omega, by decide, fun r hr1 a H3 x3 ea => ?_, fun h1 hr1 a H3 x3 ea => ?_⟩
      · rw [hr1] at q
        refine ⟨_, rfl, .ref a, .ty "tuple", _, _, _, rfl, .ty "tuple", .base (.tup ea), kit_ty (by decide +kernel), _, rfl, iteT ?_⟩
        exact ⟨_, rfl, q a H3 (x12.trans x3) ea⟩
      rw [hr1] at q
      dsimp only at q
      refine ⟨_, rfl, .ref a, .ty "tuple", _, _, _, rfl, .ty "tuple", .base (.lst ea), kit_ty (by decide +kernel), _, rfl, iteF ?_⟩
      have x13 := x12.trans x3
      have e3 := x3.lst e2 (by simp)
      refine ⟨_, rfl, p, _, _, _, rfl, rfl, SqL.of e3, atI_nat (j := 2) (str_at (by omega)), _, rfl, np, _, _, _, rfl, rfl, x13.sqT s1, atI_nat (j := 2) rfl, rp, _, rfl, .inr (x13.sqT s3), ?_⟩
      refine ⟨3, ls.getD 2 Str.empty, "flow", ys.length, rfl, by omega, by decide, fun r hr2 b H4 x4 eb => ?_, fun f1 hr2 b H4 x4 eb => ?_⟩
      · rw [hr2] at q
        refine ⟨_, rfl, .ref b, .ty "tuple", _, _, _, rfl, .ty "tuple", .base (.tup eb), kit_ty (by decide +kernel), _, rfl, iteT ?_⟩
        exact ⟨_, rfl, q b H4 (x13.trans x4) eb⟩
      rw [hr2] at q
      dsimp only at q
      refine ⟨_, rfl, .ref b, .ty "tuple", _, _, _, rfl, .ty "tuple", .base (.lst eb), kit_ty (by decide +kernel), _, rfl, iteF ?_⟩
      have e4 := x4.lst e3 (by simp)
      have ea4 := x4.lst ea (by simp)
      refine ⟨_, rfl, p, _, _, _, rfl, rfl, SqL.of e4, atI_nat (j := 0) (str_at l0), ?_⟩
      refine ⟨_, rfl, a, _, rfl, .inl ⟨SqL.of ea4, fun ta hta => ?_⟩⟩
      have x5 : Ext [] H4 (upd H4 ta (.tup (h1.map V.int))) := .new hta
      have q5 : SqT K (upd H4 ta (.tup (h1.map V.int))) ta (h1.map V.int) := .inl (.inl upd_same)
      generalize (upd H4 ta (.tup (h1.map V.int))) = H5 at x5 q5 ⊢
      have eb5 := x5.lst eb (by simp)
      refine ⟨_, rfl, b, _, rfl, .inl ⟨SqL.of eb5, fun tb htb => ?_⟩⟩
      have x6 : Ext [] H5 (upd H5 tb (.tup (f1.map V.int))) := .new htb
      have q6 : SqT K (upd H5 tb (.tup (f1.map V.int))) tb (f1.map V.int) := .inl (.inl upd_same)
      generalize (upd H5 tb (.tup (f1.map V.int))) = H6 at x6 q6 ⊢
      refine ⟨by show 3 ≤ sizeLine; decide, fun r hr3 => ?_⟩
      have x7 : Ext [] H6 (upd H6 r (.tup [.str (ls.getD 0 Str.empty), .ref ta, .ref tb])) := .new hr3
      exact q r _ ((((x13.trans x4).trans x5).trans x6).trans x7) ⟨ta, tb, .inl (.inl upd_same), (x6.trans x7).sqT q5, x7.sqT q6⟩
/-! ### _law_told -/
structure Errs (K : PySem.W.Frag) (mg : Str → Option Value) (C L : Addr) : Prop where
  bc : BadC K C
  xc : ExcC K C
  xf : XfC K C
  gL : mg "LevelError" = some (.ref L)
  gC : mg "BadNet" = some (.ref C)
  gV : mg "ValueError" = none
  ex : PySem.W.exmOne K (.ref C) (.ref L) = some true
  kC : PySem.W.kitOne K (.ref C) (.ref C) = some true
  kV : PySem.W.kitOne K (.ref C) (.type "ValueError") = some true
def spTold (K : PySem.W.Frag) (T T2 : Addr) : Sp := fun vs H Q _ => ∃ (np : Addr) (xs ys : List V) (text : Str), vs = [.ref np, .str text] ∧ RdIn K H np xs ys text ∧ GxR.TabG H T ∧ GxR.TabG H T2 ∧
  (∀ q H', Ext [] H H' → AnsAt K H' q (parseRes xs.length ys.length text) → Q (.ref q) H')
theorem scTold : FnScope ["net", "text", "e"] ["net", "text"] (defScope sTold) := ⟨rfl, rfl, rfl, by decide +kernel, rfl, by decide +kernel, by decide +kernel⟩
theorem ok_told {f fC C L T T2 : Addr} {fd fdC : FuncData} (mii : mg "isinstance" = none) (F : Fun K "_law_told" "_law_told" sTold f fd) (X : Errs K mg C L)
    (GC : FnOk P w K mg base (CX P w) 14 fC fdC ["net", "text"] (spParse K C T T2)) (kC : PySem.W.keepIn K (.ref fC) = true) (bC : Binds K fdC ["net", "text"] []) (gC : mg "parse_paper" = some (.ref fC)) : FnOk P w K mg base CX0 15 f fd ["net", "text"] (spTold K T T2) := by
  have nd := scTold.nd
  refine F.ok scTold (fun vs H Q E h => ?_) (fun cdv A outer s H vs Q EE hr h => ?_)
  · obtain ⟨_, _, _, _, rfl, _⟩ := h
    rfl
  · obtain ⟨np, xs, ys, text, rfl, hin, hT, hT2, q⟩ := h
    refine ⟨_, pss_one (ps_try_as (i := 2) rfl rfl nd rfl rfl ⟨rfl, by decide, .inl X.gL⟩ takes0 (fun W pn xe tk _ => pss_one (ps_ret (pe_callS GC hr rfl gC kC bC (fun σ => passAt tk σ) (pa_cons (pv 0) (pa_cons (pv 1) pa_nil)))))
        (fun a oe cls dd pn hz hf => pss_cons (ps_if (PW.pt (pw_and (pt_val (pe_callB (call_isX X.xc hz hf) (by rfl) mii PyProof.Rows.boot_isinstance (pa_cons (pv 2) (pa_cons (pe_glob (v := .ref C) rfl X.gC rfl) pa_nil))))
            (pw_and1 (pt_val (pe_callB (call_isX X.xc hz hf) (by rfl) mii PyProof.Rows.boot_isinstance (pa_cons (pv 2) (pa_cons (pe_bltn (v := .ty "ValueError") (u := .type "ValueError") (by rfl) X.gV (by decide +kernel) rfl) pa_nil))))))) (pss_one (ps_ret (pe_tup (pa_cons (pe_xf X.xf X.bc.fl hz hf (pv 2)) (pa_cons (pe_xf X.xf X.bc.fr hz hf (pv 2)) pa_nil))))) pss_nil)
          (pss_one (ps_ret pe_non)))), ?_⟩
    refine ⟨_, rfl, _, rfl, np, xs, ys, text, rfl, hin, hT, hT2, X.bc, fun pl r hres H1 dd x1 e1 => ?_, fun wd hs fl hres p a b H1 x1 ep ea eb => ?_⟩
    · refine ⟨true, X.ex, fun _ a ha => ?_, fun z => nomatch z⟩
      refine ⟨_, rfl, rfl, dd, _, _, _, _, rfl, rfl, (fun u r => r), X.kC, e1, _, rfl, iteT ?_⟩
      refine ⟨_, rfl, rfl, dd, _, _, _, _, rfl, rfl, (fun u r => r), X.kV, e1, _, rfl, iteT ?_⟩
      refine ⟨_, rfl, rfl, rfl, dd, _, _, rfl, e1, rfl, _, rfl, rfl, rfl, dd, _, _, rfl, e1, rfl, by show 2 ≤ sizeLine; decide, fun t ht' => ?_⟩
      refine q t _ (x1.trans (.new ht')) ?_
      rw [hres]
      exact upd_same
    · refine q p H1 x1 ?_
      rw [hres]
      exact ⟨a, b, ep, ea, eb⟩
end
end K35
set_option Elab.async false
set_option linter.all false
set_option maxRecDepth 100000
set_option maxHeartbeats 4000000
namespace K35
open PySem PySem.Spec PyProof.Rows L2 Gx RZ TL
/-! ### how long -/
def wt (ps : List Str) : Nat := (ps.map (·.length)).sum + ps.length
def wtL (ps : List (List Nat)) : Nat := (ps.map (·.length)).sum + ps.length
theorem wtL_cons (p : List Nat) (ps : List (List Nat)) : wtL (p :: ps) = p.length + 1 + wtL ps := by
  unfold wtL
  rw [List.map_cons, List.sum_cons, List.length_cons]
  omega
theorem spl_wt (c : Nat) : ∀ (l acc : List Nat), wtL (spl [c] 0 acc l) = acc.length + l.length + 1
  | [], acc => by
    rw [spl_nil]
    unfold wtL
    simp
  | a :: r, acc => by
    cases e : pre [c] (a :: r) with
    | true =>
      rw [spl_hit e, wtL_cons]
      have ih := spl_wt c r []
      show acc.length + 1 + wtL (spl [c] 0 [] r) = _
      rw [ih, List.length_cons]
      have : ([] : List Nat).length = 0 := rfl
      omega
    | false =>
      rw [spl_miss e, spl_wt c r (acc ++ [a]), List.length_append, List.length_cons]
      simp
      omega
theorem wt_split (x : Str) (c : Nat) (hc : c < 256) : wt (Txt.split x ⟨#[c]⟩) = x.length + 1 := by
  have e := split_spl x ⟨#[c]⟩ (by simp [tl]) (kind_ok (by simp [hc]))
  have h : wt (Txt.split x ⟨#[c]⟩) = wtL ((Txt.split x ⟨#[c]⟩).map tl) := by
    unfold wt wtL
    rw [List.map_map, List.length_map]
    congr 2
  rw [h, e]
  have := spl_wt c (tl x) []
  rw [tl_len] at this
  simpa using this
theorem wt_cons (p : Str) (ps : List Str) : wt (p :: ps) = p.length + 1 + wt ps := by
  unfold wt
  rw [List.map_cons, List.sum_cons, List.length_cons]
  omega
theorem wt_append (a b : List Str) : wt (a ++ b) = wt a + wt b := by
  unfold wt
  rw [List.map_append, List.sum_append, List.length_append]
  omega
theorem join_wt (c : Nat) : ∀ ps : List Str, (Txt.join ⟨#[c]⟩ ps).length ≤ wt ps
  | [] => by rw [← tl_len, join_eq, tl_join]; exact Nat.le_refl _
  | p :: ps => by
    rw [← tl_len, join_eq, tl_join, List.map_cons, joinL_flat, List.length_append, tl_len, wt_cons]
    have : ∀ l : List Str, (((l.map tl).map fun q => tl (⟨#[c]⟩ : Str) ++ q).flatten).length ≤ wt l := fun l => by
      induction l with
      | nil => exact Nat.le_refl _
      | cons a r ih =>
        rw [List.map_cons, List.map_cons, List.flatten_cons, List.length_append, List.length_append, tl_len, tl_len, wt_cons]
        have h1 : (⟨#[c]⟩ : Str).length = 1 := rfl
        omega
    have := this ps
    omega
theorem join_fit (c : Nat) (ps : List Str) (h : wt ps ≤ 1000000) : (ps.map (·.length)).sum + ps.length * (⟨#[c]⟩ : Str).length ≤ 16777216 := by
  have h1 : (⟨#[c]⟩ : Str).length = 1 := rfl
  rw [h1, Nat.mul_one]
  unfold wt at h
  omega
theorem wt_take (ps : List Str) (i : Nat) : wt (ps.take i) ≤ wt ps := by
  have := wt_append (ps.take i) (ps.drop i)
  rw [List.take_append_drop] at this
  omega
theorem wt_drop (ps : List Str) (i : Nat) : wt (ps.drop i) ≤ wt ps := by
  have := wt_append (ps.take i) (ps.drop i)
  rw [List.take_append_drop] at this
  omega
theorem wt_set (ps : List Str) (i : Nat) (z : Str) (h : i < ps.length) : wt (ps.set i z) + (ps[i]).length = wt ps + z.length := by
  induction ps generalizing i with
  | nil => cases h
  | cons a r ih =>
    cases i with
    | zero =>
      show wt (z :: r) + a.length = _
      rw [wt_cons, wt_cons]
      omega
    | succ i =>
      show wt (a :: r.set i z) + (r[i]'(by simpa using h)).length = _
      rw [wt_cons, wt_cons]
      have := ih i (by simpa using h)
      omega
theorem cut_len (x : Str) (lo hi : Option Int) : (cutS x lo hi).length ≤ x.length := by
  rw [← tl_len]
  show (((((tl x).drop _).take _).toArray).toList).length ≤ _
  rw [List.length_take, List.length_drop, tl_len]
  omega
theorem pick_str {zs : List Str} {j : Nat} {v : V} (h : (zs.map V.str)[j]? = some v) (hl : (zs.all fun z => decide (z.length ≤ 14)) = true) : ∃ z : Str, v = .str z ∧ z.length ≤ 14 := by
  obtain ⟨z, hz, rfl⟩ := List.mem_map.mp (List.mem_of_getElem? h)
  exact ⟨z, rfl, of_decide_eq_true (List.all_eq_true.mp hl z hz)⟩
section
variable {P : Program} {w : World} {K : PySem.W.Frag} {mg : Str → Option Value} {base : Heap}
/-! ### _law_other_line -/
abbrev nOL : List Str := ["box", "line", "words", "at", "kind"]
theorem scOL : FnScope nOL ["box", "line"] (defScope sOtherLine) := ⟨rfl, rfl, rfl, by decide +kernel, rfl, by decide +kernel, by decide +kernel⟩
def spOL (K : PySem.W.Frag) : Sp := fun vs H Q _ => ∃ (b d : Addr) (line : Str), vs = [.ref b, .str line] ∧ Box H b d ∧ line.length ≤ 30000 ∧ ∀ (z : Str) (H' : Hp), z.length ≤ line.length + 20 → Ext [b] H H' → Box H' b d → Q (.str z) H'
theorem ok_OL {f fD fP : Addr} {fd fdD fdP : FuncData} (ml : mg "len" = none) (mi : mg "int" = none) (F : Fun K "_law_other_line" "_law_other_line" sOtherLine f fd)
    (FD : Fun K "_law_draw" "_law_draw" sDraw fD fdD) (bD : Binds K fdD ["box", "many"] []) (gD : mg "_law_draw" = some (.ref fD))
    (FP : Fun K "_law_pick" "_law_pick" sPick fP fdP) (bP : Binds K fdP ["box", "things"] []) (gP : mg "_law_pick" = some (.ref fP)) : FnOk P w K mg base CX0 3 f fd ["box", "line"] (spOL K) := by
  have nd := scOL.nd
  have GD : FnOk P w K mg base CX0 1 fD fdD ["box", "many"] spDraw := ok_draw ml mi FD
  have GP : FnOk P w K mg base CX0 2 fP fdP ["box", "things"] (spPick K) := ok_pick ml mi FP FD bD gD
  refine F.ok scOL (fun vs H Q E h => ?_) (fun cdv A outer s H vs Q E hr h => ?_)
  · obtain ⟨_, _, _, rfl, _⟩ := h
    rfl
  · obtain ⟨b, d, line, rfl, hb, hl, q⟩ := h
    have hr1 : Room 1 (A.deeper (envOfC "_law_other_line" (defScope sOtherLine) s.heap.objs.size f cdv)) := hr.mono (by decide)
    refine ⟨_, pss_cons (ps_set (i := 2) nd rfl (.inl rfl) (pe_split (pv 1) pe_str))
      (pss_cons (ps_set (i := 3) nd rfl (.inl rfl) (pe_op op_mod (pe_callTy call_int1 (by rfl) mi PyProof.Rows.boot_int (pa_cons (pe_call GD hr1 (by rfl) gD FD.kp bD .nil pass0 (pa_cons (pv 0) (pa_cons pe_int pa_nil))) pa_nil)) (pe_callB call_len_seq (by rfl) ml PySem.boot_len (pa_cons (pv 2) pa_nil))))
      (pss_cons (ps_set (i := 4) nd rfl (.inl rfl) (pe_call GD hr1 (by rfl) gD FD.kp bD .nil pass0 (pa_cons (pv 0) (pa_cons pe_int pa_nil))))
      (pss_cons (ps_if (pt_cmpR op_eq (pv 4) pe_int (nomark _)) (pss_one (ps_asg (pe_call GP hr (by rfl) gP FP.kp bP .nil pass0 (pa_cons (pv 0) (pa_cons (pe_lst (pa_cons pe_str (pa_cons pe_str (pa_cons pe_str (pa_cons pe_str (pa_cons pe_str (pa_cons pe_str pa_nil))))))) pa_nil))) (pg_sub (pv 2) pe_int set_list)))
        (pss_one (ps_if (PW.pt (pw_and (pt_cmpR op_eq (pv 4) pe_int (nomark _)) (pw_and1 (pt_cmpR op_gt (pe_callB call_len_seq (by rfl) ml PySem.boot_len (pa_cons (pv 2) pa_nil)) pe_int (nomark _))))) (pss_one (ps_expr (pe_bm0 PySem.F.plainAttrs_list PySem.F.slot_list_pop PySem.F.type_list_pop mt_pop (pv 2))))
        (pss_one (ps_if (pt_cmpR op_eq (pv 4) pe_int (nomark _)) (pss_one (ps_expr (pe_bm PySem.F.plainAttrs_list PySem.F.slot_list_append PySem.F.type_list_append mt_append (pv 2) (pa_cons (pe_call GP hr (by rfl) gP FP.kp bP .nil pass0 (pa_cons (pv 0) (pa_cons (pe_lst (pa_cons pe_str (pa_cons pe_str (pa_cons pe_str (pa_cons pe_str pa_nil))))) pa_nil))) pa_nil))))
        (pss_one (ps_if (pt_cmpR op_gt (pv 3) pe_int (nomark _)) (pss_one (ps_asg (pe_call GP hr (by rfl) gP FP.kp bP .nil pass0 (pa_cons (pv 0) (pa_cons (pe_lst (pa_cons pe_str (pa_cons pe_str (pa_cons pe_str (pa_cons pe_str (pa_cons pe_str (pa_cons pe_str (pa_cons pe_str (pa_cons pe_str (pa_cons pe_str (pa_cons pe_str (pa_cons pe_str (pa_cons pe_str (pa_cons pe_str pa_nil)))))))))))))) pa_nil))) (pg_sub (pv 2) (pv 3) set_list))) pss_nil)))))))
      (pss_one (ps_ret (pe_join pe_str (pv 2)))))))
      , ?_⟩
    have hw0 := wt_split line 32 (by decide)
    obtain ⟨_, _, wne⟩ := split_bound line 32 (by decide)
    refine ⟨_, rfl, ⟨_, rfl⟩, _, _, rfl, rfl, by decide, by show _ ≤ 2 ^ 24; omega, fun p hp => ?_⟩
    have x1 : Ext [b] H (upd H p (.lst ((Txt.split line " ").map V.str))) := .new hp
    have b1 : Box (L2.upd H p (.lst ((Txt.split line " ").map V.str))) b d := hb.ext (.new hp)
    have e1 : (upd H p (.lst ((Txt.split line " ").map V.str))) p = some (.lst ((Txt.split line " ").map V.str)) := upd_same
    have hw : wt (Txt.split line " ") = line.length + 1 := hw0
    have wne' : Txt.split line " " ≠ [] := wne
    clear hw0 wne
    generalize (upd H p (.lst ((Txt.split line " ").map V.str))) = H1 at x1 e1 b1 ⊢
    generalize Txt.split line " " = ws at e1 hw wne' ⊢
    have npb := hb.new hp
    have l0 : 0 < ws.length := List.length_pos_iff.mpr wne'
    have lw : ws.length ≤ line.length + 1 := by unfold wt at hw; omega
    have hlI : (0 : Int) < ((ws.map V.str).length : Nat) := by rw [List.length_map]; omega
    refine ⟨_, rfl, b, d, 900, rfl, b1, by decide, fun r1 H2 g0 g1 x2 b2 => .inl ⟨_, rfl, ?_⟩⟩
    have e2 := x2.lst e1 (by rw [List.mem_singleton]; exact npb)
    refine ⟨_, rfl, p, _, rfl, .inl (SqL.of e2), _, _, rfl, rfl, hlI, ?_⟩
    have k0 := Int.emod_nonneg r1 (Int.ne_of_gt hlI)
    have k1 := Int.emod_lt_of_pos r1 hlI
    obtain ⟨at_, hat⟩ := nat_of k0
    rw [hat] at k1
    rw [List.length_map] at k1
    dsimp only
    rw [hat]
    have hat2 : at_ < ws.length := by omega
    refine ⟨_, rfl, b, d, 5, rfl, b2, by decide, fun r2 H3 g2 g3 x3 b3 => ?_⟩
    have e3 := x3.lst e2 (by rw [List.mem_singleton]; exact npb)
    have x13 := (x1.trans x2).trans x3
    obtain ⟨_, eb3⟩ := b3.here
    refine ⟨_, rfl, rfl, _, rfl, ite2 (fun c0 => ?_) (fun c0 => ?_)⟩
    · refine ⟨_, rfl, by show 6 ≤ sizeLine; decide, fun t ht => ?_⟩
      refine ⟨b, d, t, _, rfl, b3.ext (.new ht), upd_same, (ne_of_none eb3 ht).symm, by decide, fun j v hv H4 x4 b4 => ?_⟩
      obtain ⟨z, rfl, hz⟩ := pick_str (zs := ["heights", "flow", "Heights", "flows", "best", "0"]) hv (by decide +kernel)
      have x34 : Ext [b] H3 H4 := (Ext.new ht).trans x4
      have e4 := x34.lst e3 (by rw [List.mem_singleton]; exact npb)
      refine ⟨_, rfl, p, _, _, 0, rfl, rfl, e4, ixN_nat (by rw [List.length_map]; exact l0), ?_⟩
      have e5 : (upd H4 p (.lst ((ws.map V.str).set 0 (.str z)))) p = some (.lst ((ws.set 0 z).map V.str)) := by rw [upd_same, List.map_set]
      have hw2 := wt_set ws 0 z l0
      exact ⟨⟨_, rfl⟩, _, rfl, _, p, ws.set 0 z, rfl, rfl, .inl (SqL.of e5), join_fit 32 _ (by omega), q _ _ (by have := join_wt 32 (ws.set 0 z); show (Txt.join ⟨#[32]⟩ _).length ≤ _; omega) ((x13.trans x34).own hp e4) (hb.upd b4 hp)⟩
    · refine ⟨_, rfl, rfl, _, rfl, ite2 (fun c1 => ?_) (fun c1 => ?_)⟩
      rotate_left
      · refine ⟨_, rfl, rfl, _, rfl, ite2 (fun c2 => ?_) (fun c2 => ?_)⟩
        · refine ⟨_, rfl, .inl ⟨rfl, _, SqL.of e3⟩, _, rfl, by show 4 ≤ sizeLine; decide, fun t ht => ?_⟩
          refine ⟨b, d, t, _, rfl, b3.ext (.new ht), upd_same, (ne_of_none eb3 ht).symm, by decide, fun j v hv H4 x4 b4 => ?_⟩
          obtain ⟨z, rfl, hz⟩ := pick_str (zs := ["0", "7", "-3", "x"]) hv (by decide +kernel)
          have x34 : Ext [b] H3 H4 := (Ext.new ht).trans x4
          have e4 := x34.lst e3 (by rw [List.mem_singleton]; exact npb)
          refine ⟨p, _, _, rfl, rfl, e4, by rw [List.length_map]; show _ < 2 ^ 24; omega, ?_⟩
          have e5 : (upd H4 p (.lst (ws.map V.str ++ [V.str z]))) p = some (.lst ((ws ++ [z]).map V.str)) := by rw [upd_same, List.map_append]; rfl
          have hw2 : wt (ws ++ [z]) = wt ws + (z.length + 1) := by rw [wt_append, wt_cons]; rfl
          exact ⟨⟨_, rfl⟩, _, rfl, _, p, ws ++ [z], rfl, rfl, .inl (SqL.of e5), join_fit 32 _ (by omega), q _ _ (by have := join_wt 32 (ws ++ [z]); show (Txt.join ⟨#[32]⟩ _).length ≤ _; omega) ((x13.trans x34).own hp e4) (hb.upd b4 hp)⟩
        · refine ⟨_, rfl, _, _, rfl, rfl, _, rfl, ite2 (fun c3 => ?_) (fun c3 => ?_)⟩
          · refine ⟨_, rfl, by show 13 ≤ sizeLine; decide, fun t ht => ?_⟩
            refine ⟨b, d, t, _, rfl, b3.ext (.new ht), upd_same, (ne_of_none eb3 ht).symm, by decide, fun j v hv H4 x4 b4 => ?_⟩
            obtain ⟨z, rfl, hz⟩ := pick_str (zs := ["00", "07", "-05", "+1", "1.5", "-", "x", "--1", "999999999999", "1000000000000", "-999999999999", "12a", "0"]) hv (by decide +kernel)
            have x34 : Ext [b] H3 H4 := (Ext.new ht).trans x4
            have e4 := x34.lst e3 (by rw [List.mem_singleton]; exact npb)
            refine ⟨_, rfl, _, rfl, p, _, _, at_, rfl, rfl, e4, ixN_nat (by rw [List.length_map]; exact hat2), ?_⟩
            have e5 : (upd H4 p (.lst ((ws.map V.str).set at_ (.str z)))) p = some (.lst ((ws.set at_ z).map V.str)) := by rw [upd_same, List.map_set]
            have hw2 := wt_set ws at_ z hat2
            exact ⟨⟨_, rfl⟩, _, rfl, _, p, ws.set at_ z, rfl, rfl, .inl (SqL.of e5), join_fit 32 _ (by omega), q _ _ (by have := join_wt 32 (ws.set at_ z); show (Txt.join ⟨#[32]⟩ _).length ≤ _; omega) ((x13.trans x34).own hp e4) (hb.upd b4 hp)⟩
          · exact ⟨⟨_, rfl⟩, _, rfl, _, p, ws, rfl, rfl, .inl (SqL.of e3), join_fit 32 _ (by omega), q _ _ (by have := join_wt 32 (ws); show (Txt.join ⟨#[32]⟩ _).length ≤ _; omega) x13 b3⟩
      · refine ⟨_, rfl, p, _, rfl, .inl (SqL.of e3), _, _, rfl, rfl, _, rfl, ite2 (fun c5 => ?_) (fun c5 => ?_)⟩
        rotate_left
        · refine ⟨_, rfl, rfl, _, rfl, ite2 (fun c2 => ?_) (fun c2 => ?_)⟩
          · refine ⟨_, rfl, .inl ⟨rfl, _, SqL.of e3⟩, _, rfl, by show 4 ≤ sizeLine; decide, fun t ht => ?_⟩
            refine ⟨b, d, t, _, rfl, b3.ext (.new ht), upd_same, (ne_of_none eb3 ht).symm, by decide, fun j v hv H4 x4 b4 => ?_⟩
            obtain ⟨z, rfl, hz⟩ := pick_str (zs := ["0", "7", "-3", "x"]) hv (by decide +kernel)
            have x34 : Ext [b] H3 H4 := (Ext.new ht).trans x4
            have e4 := x34.lst e3 (by rw [List.mem_singleton]; exact npb)
            refine ⟨p, _, _, rfl, rfl, e4, by rw [List.length_map]; show _ < 2 ^ 24; omega, ?_⟩
            have e5 : (upd H4 p (.lst (ws.map V.str ++ [V.str z]))) p = some (.lst ((ws ++ [z]).map V.str)) := by rw [upd_same, List.map_append]; rfl
            have hw2 : wt (ws ++ [z]) = wt ws + (z.length + 1) := by rw [wt_append, wt_cons]; rfl
            exact ⟨⟨_, rfl⟩, _, rfl, _, p, ws ++ [z], rfl, rfl, .inl (SqL.of e5), join_fit 32 _ (by omega), q _ _ (by have := join_wt 32 (ws ++ [z]); show (Txt.join ⟨#[32]⟩ _).length ≤ _; omega) ((x13.trans x34).own hp e4) (hb.upd b4 hp)⟩
          · refine ⟨_, rfl, _, _, rfl, rfl, _, rfl, ite2 (fun c3 => ?_) (fun c3 => ?_)⟩
            · refine ⟨_, rfl, by show 13 ≤ sizeLine; decide, fun t ht => ?_⟩
              refine ⟨b, d, t, _, rfl, b3.ext (.new ht), upd_same, (ne_of_none eb3 ht).symm, by decide, fun j v hv H4 x4 b4 => ?_⟩
              obtain ⟨z, rfl, hz⟩ := pick_str (zs := ["00", "07", "-05", "+1", "1.5", "-", "x", "--1", "999999999999", "1000000000000", "-999999999999", "12a", "0"]) hv (by decide +kernel)
              have x34 : Ext [b] H3 H4 := (Ext.new ht).trans x4
              have e4 := x34.lst e3 (by rw [List.mem_singleton]; exact npb)
              refine ⟨_, rfl, _, rfl, p, _, _, at_, rfl, rfl, e4, ixN_nat (by rw [List.length_map]; exact hat2), ?_⟩
              have e5 : (upd H4 p (.lst ((ws.map V.str).set at_ (.str z)))) p = some (.lst ((ws.set at_ z).map V.str)) := by rw [upd_same, List.map_set]
              have hw2 := wt_set ws at_ z hat2
              exact ⟨⟨_, rfl⟩, _, rfl, _, p, ws.set at_ z, rfl, rfl, .inl (SqL.of e5), join_fit 32 _ (by omega), q _ _ (by have := join_wt 32 (ws.set at_ z); show (Txt.join ⟨#[32]⟩ _).length ≤ _; omega) ((x13.trans x34).own hp e4) (hb.upd b4 hp)⟩
            · exact ⟨⟨_, rfl⟩, _, rfl, _, p, ws, rfl, rfl, .inl (SqL.of e3), join_fit 32 _ (by omega), q _ _ (by have := join_wt 32 (ws); show (Txt.join ⟨#[32]⟩ _).length ≤ _; omega) x13 b3⟩
        · have hl2 : 1 ≤ (ws.map V.str).length := by rw [List.length_map]; exact l0
          have hla : (ws.map V.str)[(ws.map V.str).length - 1]? = some ((ws.map V.str)[(ws.map V.str).length - 1]'(by omega)) := List.getElem?_eq_getElem (by omega)
          refine ⟨_, rfl, .inl ⟨rfl, _, SqL.of e3⟩, p, _, _, rfl, rfl, e3, hla, ?_⟩
          have e5 : (upd H3 p (.lst (ws.map V.str).dropLast)) p = some (.lst (ws.dropLast.map V.str)) := by rw [upd_same, List.map_dropLast]
          have hw2 : wt ws.dropLast ≤ wt ws := by rw [List.dropLast_eq_take]; exact wt_take ws _
          exact ⟨⟨_, rfl⟩, _, rfl, _, p, ws.dropLast, rfl, rfl, .inl (SqL.of e5), join_fit 32 _ (by omega), q _ _ (by have := join_wt 32 (ws.dropLast); show (Txt.join ⟨#[32]⟩ _).length ≤ _; omega) (x13.own hp e3) (hb.upd b3 hp)⟩
end
end K35
set_option Elab.async false
set_option linter.all false
set_option maxRecDepth 100000
set_option maxHeartbeats 4000000
namespace K35
open PySem PySem.Spec PyProof.Rows L2 Gx RZ TL
section
variable {P : Program} {w : World} {K : PySem.W.Frag} {mg : Str → Option Value} {base : Heap}
/-! ### _law_other -/
abbrev nO : List Str := ["box", "text", "lines", "at", "kind"]
theorem scO : FnScope nO ["box", "text"] (defScope sOther) := ⟨rfl, rfl, rfl, by decide +kernel, rfl, by decide +kernel, by decide +kernel⟩
def spO (K : PySem.W.Frag) : Sp := fun vs H Q _ => ∃ (b d : Addr) (text : Str), vs = [.ref b, .str text] ∧ Box H b d ∧ text.length ≤ 14000 ∧ ∀ (z : Str) (H' : Hp), z.length ≤ 2 * text.length + 40 → Ext [b] H H' → Box H' b d → Q (.str z) H'
theorem ok_O {f fD fP fL : Addr} {fd fdD fdP fdL : FuncData} (ml : mg "len" = none) (mi : mg "int" = none) (F : Fun K "_law_other" "_law_other" sOther f fd)
    (FD : Fun K "_law_draw" "_law_draw" sDraw fD fdD) (bD : Binds K fdD ["box", "many"] []) (gD : mg "_law_draw" = some (.ref fD))
    (FP : Fun K "_law_pick" "_law_pick" sPick fP fdP) (bP : Binds K fdP ["box", "things"] []) (gP : mg "_law_pick" = some (.ref fP))
    (FL : Fun K "_law_other_line" "_law_other_line" sOtherLine fL fdL) (bL : Binds K fdL ["box", "line"] []) (gL : mg "_law_other_line" = some (.ref fL)) : FnOk P w K mg base CX0 4 f fd ["box", "text"] (spO K) := by
  have nd := scO.nd
  have GD : FnOk P w K mg base CX0 1 fD fdD ["box", "many"] spDraw := ok_draw ml mi FD
  have GP : FnOk P w K mg base CX0 2 fP fdP ["box", "things"] (spPick K) := ok_pick ml mi FP FD bD gD
  have GL : FnOk P w K mg base CX0 3 fL fdL ["box", "line"] (spOL K) := ok_OL ml mi FL FD bD gD FP bP gP
  refine F.ok scO (fun vs H Q E h => ?_) (fun cdv A outer s H vs Q E hr h => ?_)
  · obtain ⟨_, _, _, rfl, _⟩ := h
    rfl
  · obtain ⟨b, d, text, rfl, hb, hl, q⟩ := h
    have hr1 : Room 1 (A.deeper (envOfC "_law_other" (defScope sOther) s.heap.objs.size f cdv)) := hr.mono (by decide)
    have hr2 : Room 2 (A.deeper (envOfC "_law_other" (defScope sOther) s.heap.objs.size f cdv)) := hr.mono (by decide)
    apply Exists.intro
    refine And.intro ?hb ?hc
    case hb =>
      apply pss_cons
      · exact ps_set (i := 2) nd rfl (.inl rfl) (pe_split (pv 1) pe_str)
      apply pss_cons
      · exact ps_set (i := 3) nd rfl (.inl rfl) (pe_op op_mod (pe_callTy call_int1 (by rfl) mi PyProof.Rows.boot_int (pa_cons (pe_call GD hr1 (by rfl) gD FD.kp bD .nil pass0 (pa_cons (pv 0) (pa_cons pe_int pa_nil))) pa_nil)) (pe_callB call_len_seq (by rfl) ml PySem.boot_len (pa_cons (pv 2) pa_nil)))
      apply pss_cons
      · exact ps_set (i := 4) nd rfl (.inl rfl) (pe_call GD hr1 (by rfl) gD FD.kp bD .nil pass0 (pa_cons (pv 0) (pa_cons pe_int pa_nil)))
      apply pss_cons
      · apply ps_if (pt_cmpR op_eq (pv 4) pe_int (nomark _))
        · exact pss_one (ps_asg (pe_call GP hr2 (by rfl) gP FP.kp bP .nil pass0 (pa_cons (pv 0) (pa_cons (pe_lst (pa_cons pe_str (pa_cons pe_str (pa_cons pe_str (pa_cons pe_str (pa_cons pe_str (pa_cons pe_str (pa_cons pe_str pa_nil)))))))) pa_nil))) (pg_sub (pv 2) pe_int set_list))
        apply pss_one
        apply ps_if (pt_cmpR op_eq (pv 4) pe_int (nomark _))
        · exact pss_one (ps_ret (pe_slice sl_str (pv 1) po_none (po_some (pe_un un_neg pe_int))))
        apply pss_one
        apply ps_if (pt_cmpR op_eq (pv 4) pe_int (nomark _))
        · exact pss_one (ps_ret (pe_op op_add_str (pv 1) (pe_call GP hr2 (by rfl) gP FP.kp bP .nil pass0 (pa_cons (pv 0) (pa_cons (pe_lst (pa_cons pe_str (pa_cons pe_str (pa_cons pe_str (pa_cons pe_str pa_nil))))) pa_nil)))))
        apply pss_one
        apply ps_if (pt_cmpR op_eq (pv 4) pe_int (nomark _))
        · exact pss_one (ps_set (i := 2) nd rfl (.inl rfl) (pe_op op_cat (pe_slice sl_list (pv 2) po_none (po_some (pv 3))) (pe_slice sl_list (pv 2) (po_some (pe_op op_add (pv 3) pe_int)) po_none)))
        apply pss_one
        apply ps_if (pt_cmpR op_eq (pv 4) pe_int (nomark _))
        · exact pss_one (ps_set (i := 2) nd rfl (.inl rfl) (pe_op op_cat (pe_slice sl_list (pv 2) po_none (po_some (pe_op op_add (pv 3) pe_int))) (pe_slice sl_list (pv 2) (po_some (pv 3)) po_none)))
        exact pss_one (ps_asg (pe_call GL hr (by rfl) gL FL.kp bL .nil pass0 (pa_cons (pv 0) (pa_cons (pe_ix ix_list (pv 2) (pv 3) (fun _ _ => rfl)) pa_nil))) (pg_sub (pv 2) (pv 3) set_list))
      exact pss_one (ps_ret (pe_join pe_str (pv 2)))
    case hc =>
      have hw0 := wt_split text 10 (by decide)
      obtain ⟨_, wp0, wne⟩ := split_bound text 10 (by decide)
      refine ⟨_, rfl, ⟨_, rfl⟩, _, _, rfl, rfl, by decide, by show _ ≤ 2 ^ 24; omega, fun p hp => ?_⟩
      have x1 : Ext [b] H (upd H p (.lst ((Txt.split text "\n").map V.str))) := .new hp
      have b1 : Box (L2.upd H p (.lst ((Txt.split text "\n").map V.str))) b d := hb.ext (.new hp)
      have e1 : (upd H p (.lst ((Txt.split text "\n").map V.str))) p = some (.lst ((Txt.split text "\n").map V.str)) := upd_same
      have hw : wt (Txt.split text "\n") = text.length + 1 := hw0
      have wp : ∀ z ∈ Txt.split text "\n", z.length ≤ text.length := wp0
      have wne' : Txt.split text "\n" ≠ [] := wne
      clear hw0 wne wp0
      generalize (upd H p (.lst ((Txt.split text "\n").map V.str))) = H1 at x1 e1 b1 ⊢
      generalize Txt.split text "\n" = ws at e1 hw wne' wp ⊢
      have npb := hb.new hp
      have l0 : 0 < ws.length := List.length_pos_iff.mpr wne'
      have lw : ws.length ≤ text.length + 1 := by unfold wt at hw; omega
      have hlI : (0 : Int) < ((ws.map V.str).length : Nat) := by rw [List.length_map]; omega
      refine ⟨_, rfl, b, d, 900, rfl, b1, by decide, fun r1 H2 g0 g1 x2 b2 => .inl ⟨_, rfl, ?_⟩⟩
      have e2 := x2.lst e1 (by rw [List.mem_singleton]; exact npb)
      refine ⟨_, rfl, p, _, rfl, .inl (SqL.of e2), _, _, rfl, rfl, hlI, ?_⟩
      have k0 := Int.emod_nonneg r1 (Int.ne_of_gt hlI)
      have k1 := Int.emod_lt_of_pos r1 hlI
      obtain ⟨at_, hat⟩ := nat_of k0
      rw [hat] at k1
      rw [List.length_map] at k1
      dsimp only
      rw [hat]
      have hat2 : at_ < ws.length := by omega
      refine ⟨_, rfl, b, d, 8, rfl, b2, by decide, fun r2 H3 g2 g3 x3 b3 => ?_⟩
      have e3 := x3.lst e2 (by rw [List.mem_singleton]; exact npb)
      have x13 := (x1.trans x2).trans x3
      obtain ⟨_, eb3⟩ := b3.here
      have cutlo : ∀ j : Nat, j ≤ ws.length → cutV (ws.map V.str) none (some (j : Int)) = (ws.take j).map V.str := fun j hj => by
        rw [cut_lo (by rw [List.length_map]; exact hj), List.map_take]
      have cuthi : ∀ j : Nat, j ≤ ws.length → cutV (ws.map V.str) (some (j : Int)) none = (ws.drop j).map V.str := fun j hj => by
        rw [cut_hi (by rw [List.length_map]; exact hj), List.map_drop]
      refine ⟨_, rfl, rfl, _, rfl, ite2 (fun c0 => ?_) (fun c0 => ?_)⟩
      · refine ⟨_, rfl, by show 7 ≤ sizeLine; decide, fun t ht => ?_⟩
        refine ⟨b, d, t, _, rfl, b3.ext (.new ht), upd_same, (ne_of_none eb3 ht).symm, by decide, fun j v hv H4 x4 b4 => ?_⟩
        obtain ⟨z, rfl, hz⟩ := pick_str (zs := ["Best", "", "best ", "paper", "weighted", "best", " best"]) hv (by decide +kernel)
        have x34 : Ext [b] H3 H4 := (Ext.new ht).trans x4
        have e4 := x34.lst e3 (by rw [List.mem_singleton]; exact npb)
        refine ⟨_, rfl, p, _, _, 0, rfl, rfl, e4, ixN_nat (by rw [List.length_map]; exact l0), ?_⟩
        have e5 : (upd H4 p (.lst ((ws.map V.str).set 0 (.str z)))) p = some (.lst ((ws.set 0 z).map V.str)) := by rw [upd_same, List.map_set]
        have hw2 := wt_set ws 0 z l0
        exact ⟨⟨_, rfl⟩, _, rfl, _, p, ws.set 0 z, rfl, rfl, .inl (SqL.of e5), join_fit 10 _ (by omega), q _ _ (by have := join_wt 10 (ws.set 0 z); show (Txt.join ⟨#[10]⟩ _).length ≤ _; omega) ((x13.trans x34).own hp e4) (hb.upd b4 hp)⟩
      refine ⟨_, rfl, rfl, _, rfl, ite2 (fun c1 => ?_) (fun c1 => ?_)⟩
      · exact ⟨_, rfl, _, rfl, _, rfl, text, rfl, by show _ ≤ 2 ^ 24; omega, q _ H3 (by have := cut_len text none (some (-1)); show (cutS text none (some (-1))).length ≤ _; omega) x13 b3⟩
      refine ⟨_, rfl, rfl, _, rfl, ite2 (fun c2 => ?_) (fun c2 => ?_)⟩
      · refine ⟨_, rfl, _, rfl, by show 4 ≤ sizeLine; decide, fun t ht => ?_⟩
        refine ⟨b, d, t, _, rfl, b3.ext (.new ht), upd_same, (ne_of_none eb3 ht).symm, by decide, fun j v hv H4 x4 b4 => ?_⟩
        obtain ⟨z, rfl, hz⟩ := pick_str (zs := ["\n", "more", "\n\n", " "]) hv (by decide +kernel)
        refine ⟨_, _, rfl, rfl, by show _ ≤ 2 ^ 24; omega, q _ _ ?_ (x13.trans ((Ext.new ht).trans x4)) b4⟩
        rw [← tl_len, tl_append, List.length_append, tl_len, tl_len]
        omega
      refine ⟨_, rfl, rfl, _, rfl, ite2 (fun c3 => ?_) (fun c3 => ?_)⟩
      · refine ⟨_, rfl, _, rfl, _, rfl, p, _, rfl, SqL.of e3, fun pa hpa => ?_⟩
        have xa : Ext [] H3 (upd H3 pa (.lst (cutV (ws.map V.str) none (some ((at_ : Int)))))) := .new hpa
        have ea : (upd H3 pa (.lst (cutV (ws.map V.str) none (some ((at_ : Int)))))) pa = some (.lst ((ws.take at_).map V.str)) := by
          rw [upd_same]
          exact congrArg some (congrArg HO.lst (cutlo at_ (by omega)))
        generalize (upd H3 pa (.lst (cutV (ws.map V.str) none (some ((at_ : Int)))))) = H4 at xa ea ⊢
        have e4 := xa.lst e3 (by simp)
        refine ⟨_, rfl, _, rfl, _, _, rfl, rfl, _, rfl, p, _, rfl, SqL.of e4, fun pb hpb => ?_⟩
        have xb : Ext [] H4 (upd H4 pb (.lst (cutV (ws.map V.str) (some ((at_ : Int) + 1)) none))) := .new hpb
        have eb : (upd H4 pb (.lst (cutV (ws.map V.str) (some ((at_ : Int) + 1)) none))) pb = some (.lst ((ws.drop (at_ + 1)).map V.str)) := by
          rw [upd_same]
          exact congrArg some (congrArg HO.lst (cuthi (at_ + 1) (by omega)))
        generalize (upd H4 pb (.lst (cutV (ws.map V.str) (some ((at_ : Int) + 1)) none))) = H5 at xb eb ⊢
        have ea5 := xb.lst ea (by simp)
        have hwl : wt (ws.take at_ ++ ws.drop (at_ + 1)) ≤ 2 * wt ws := by
          rw [wt_append]
          have h1 := wt_take ws at_
          have h2 := wt_drop ws (at_ + 1)
          omega
        have hln : (ws.take at_ ++ ws.drop (at_ + 1)).length ≤ 2 * (text.length + 1) := by
          have : (ws.take at_ ++ ws.drop (at_ + 1)).length ≤ wt (ws.take at_ ++ ws.drop (at_ + 1)) := by unfold wt; omega
          omega
        refine ⟨pa, pb, _, _, rfl, rfl, ea5, eb, ?_, fun r hr3 => ?_⟩
        · rw [List.length_append] at hln
          rw [List.length_map, List.length_map]
          show _ ≤ 2 ^ 24
          omega
        · have e6 : (upd H5 r (.lst ((ws.take at_).map V.str ++ (ws.drop (at_ + 1)).map V.str))) r = some (.lst ((ws.take at_ ++ ws.drop (at_ + 1)).map V.str)) := by rw [upd_same, List.map_append]
          exact ⟨⟨_, rfl⟩, _, rfl, _, r, ws.take at_ ++ ws.drop (at_ + 1), rfl, rfl, .inl (SqL.of e6), join_fit 10 _ (by omega), q _ _ (by have := join_wt 10 (ws.take at_ ++ ws.drop (at_ + 1)); show (Txt.join ⟨#[10]⟩ _).length ≤ _; omega) (x13.trans (((xa.trans xb).trans (.new hr3)).mono (by simp))) (((b3.ext xa).ext xb).ext (.new hr3))⟩
      refine ⟨_, rfl, rfl, _, rfl, ite2 (fun c4 => ?_) (fun c4 => ?_)⟩
      · refine ⟨_, rfl, _, rfl, _, _, rfl, rfl, _, rfl, p, _, rfl, SqL.of e3, fun pa hpa => ?_⟩
        have xa : Ext [] H3 (upd H3 pa (.lst (cutV (ws.map V.str) none (some ((at_ : Int) + 1))))) := .new hpa
        have ea : (upd H3 pa (.lst (cutV (ws.map V.str) none (some ((at_ : Int) + 1))))) pa = some (.lst ((ws.take (at_ + 1)).map V.str)) := by
          rw [upd_same]
          exact congrArg some (congrArg HO.lst (cutlo (at_ + 1) (by omega)))
        generalize (upd H3 pa (.lst (cutV (ws.map V.str) none (some ((at_ : Int) + 1))))) = H4 at xa ea ⊢
        have e4 := xa.lst e3 (by simp)
        refine ⟨_, rfl, _, rfl, _, rfl, p, _, rfl, SqL.of e4, fun pb hpb => ?_⟩
        have xb : Ext [] H4 (upd H4 pb (.lst (cutV (ws.map V.str) (some ((at_ : Int))) none))) := .new hpb
        have eb : (upd H4 pb (.lst (cutV (ws.map V.str) (some ((at_ : Int))) none))) pb = some (.lst ((ws.drop at_).map V.str)) := by
          rw [upd_same]
          exact congrArg some (congrArg HO.lst (cuthi at_ (by omega)))
        generalize (upd H4 pb (.lst (cutV (ws.map V.str) (some ((at_ : Int))) none))) = H5 at xb eb ⊢
        have ea5 := xb.lst ea (by simp)
        have hwl : wt (ws.take (at_ + 1) ++ ws.drop at_) ≤ 2 * wt ws := by
          rw [wt_append]
          have h1 := wt_take ws (at_ + 1)
          have h2 := wt_drop ws at_
          omega
        have hln : (ws.take (at_ + 1) ++ ws.drop at_).length ≤ 2 * (text.length + 1) := by
          have : (ws.take (at_ + 1) ++ ws.drop at_).length ≤ wt (ws.take (at_ + 1) ++ ws.drop at_) := by unfold wt; omega
          omega
        refine ⟨pa, pb, _, _, rfl, rfl, ea5, eb, ?_, fun r hr3 => ?_⟩
        · rw [List.length_append] at hln
          rw [List.length_map, List.length_map]
          show _ ≤ 2 ^ 24
          omega
        · have e6 : (upd H5 r (.lst ((ws.take (at_ + 1)).map V.str ++ (ws.drop at_).map V.str))) r = some (.lst ((ws.take (at_ + 1) ++ ws.drop at_).map V.str)) := by rw [upd_same, List.map_append]
          exact ⟨⟨_, rfl⟩, _, rfl, _, r, ws.take (at_ + 1) ++ ws.drop at_, rfl, rfl, .inl (SqL.of e6), join_fit 10 _ (by omega), q _ _ (by have := join_wt 10 (ws.take (at_ + 1) ++ ws.drop at_); show (Txt.join ⟨#[10]⟩ _).length ≤ _; omega) (x13.trans (((xa.trans xb).trans (.new hr3)).mono (by simp))) (((b3.ext xa).ext xb).ext (.new hr3))⟩
      refine ⟨_, rfl, _, rfl, _, rfl, p, _, _, _, rfl, rfl, SqL.of e3, atI_nat (j := at_) (str_at hat2), ?_⟩
      have wa := wp _ (getD_memS hat2)
      refine ⟨b, d, ws.getD at_ Str.empty, rfl, b3, by omega, fun z H4 hz x4 b4 => ?_⟩
      have e4 := x4.lst e3 (by rw [List.mem_singleton]; exact npb)
      refine ⟨_, rfl, _, rfl, p, _, _, at_, rfl, rfl, e4, ixN_nat (by rw [List.length_map]; exact hat2), ?_⟩
      have e5 : (upd H4 p (.lst ((ws.map V.str).set at_ (.str z)))) p = some (.lst ((ws.set at_ z).map V.str)) := by rw [upd_same, List.map_set]
      have hw2 := wt_set ws at_ z hat2
      have eg : ws.getD at_ Str.empty = ws[at_] := by rw [List.getD_eq_getElem?_getD, List.getElem?_eq_getElem hat2]; rfl
      rw [eg] at hz
      exact ⟨⟨_, rfl⟩, _, rfl, _, p, ws.set at_ z, rfl, rfl, .inl (SqL.of e5), join_fit 10 _ (by omega), q _ _ (by have := join_wt 10 (ws.set at_ z); show (Txt.join ⟨#[10]⟩ _).length ≤ _; omega) ((x13.trans x4).own hp e4) (hb.upd b4 hp)⟩
end
end K35
set_option Elab.async false
set_option linter.all false
set_option maxRecDepth 100000
set_option maxHeartbeats 4000000
namespace K35
open PySem PySem.Spec PyProof.Rows L2 Gx RZ TL
abbrev Res := Except (Nat × Str) (Str × List Int × List Int)
def dataOf : Res → PyData
  | .error (pl, s) => .tuple [.int (pl : Nat), .str s]
  | .ok (wd, hs, fl) => .tuple [.str wd, .tuple (hs.map .int), .tuple (fl.map .int)]
theorem ansAt_dp {K : PySem.W.Frag} {H : Hp} {q : Addr} : ∀ {r : Res}, AnsAt K H q r → Dp K H (.ref q) (dataOf r)
  | .error (pl, s), h => .tup (.inl (.inl h)) (.cons (.int _) (.cons (.str _) .nil))
  | .ok (wd, hs, fl), h => by
    obtain ⟨a, b, e, ea, eb⟩ := h
    exact .tup e (.cons (.str _) (.cons (dp_tupI ea) (.cons (dp_tupI eb) .nil)))
def reasons : List Str := ["unknown line", "three lines expected", ("heights" : Str) ++ " expected", ("flow" : Str) ++ " expected", "wrong number of words", "not a number"]
def Tame : Res → Prop
  | .error (pl, s) => pl < 10 ^ 12 ∧ s ∈ reasons
  | .ok (wd, hs, fl) => isFirst wd = true ∧ (∀ n ∈ hs, n.natAbs < 10 ^ 12) ∧ (∀ n ∈ fl, n.natAbs < 10 ^ 12) ∧ hs.length ≤ 1000 ∧ fl.length ≤ 1000
theorem isFirst_of {wd : Str} (h : isFirst wd = true) : wd = "best" ∨ wd = "weighted" := by
  unfold isFirst at h
  rw [Bool.or_eq_true, decide_eq_true_eq, decide_eq_true_eq] at h
  exact h
def strOk (s : Str) : Bool := decide (s.cps.size ≤ 100) && s.cps.toList.all fun c => decide (c < 16 ^ 8)
theorem strOk_first {wd : Str} (h : isFirst wd = true) : strOk wd = true := by
  rcases isFirst_of h with rfl | rfl <;> decide +kernel
theorem strOk_reason {s : Str} (h : s ∈ reasons) : strOk s = true := by
  have : (reasons.all strOk) = true := by decide +kernel
  exact List.all_eq_true.mp this s h
theorem shows_err {pl : Nat} {s : Str} (hp : pl < 10 ^ 12) (hs : strOk s = true) : Shows (.tuple [.int (pl : Nat), .str s]) := by
  unfold strOk at hs
  rw [Bool.and_eq_true, decide_eq_true_eq] at hs
  obtain ⟨s1, s2⟩ := hs
  have hn : ((pl : Int)).natAbs < 10 ^ 12 := by omega
  refine ⟨?_, ?_, ?_, ?_, fun i e => (by cases e), fun x e => (by cases e)⟩
  · simp only [PyData.showable, PyData.showableAll, Bool.and_true, decide_eq_true_eq]
    exact log_small hn
  · simp only [PyData.hasDict, PyData.hasDictAll, Bool.or_self]
  · simp only [PyData.depth, PyData.depthAll]
    decide
  · have hl : (PyData.tuple [.int (pl : Nat), .str s]).leavesShort 13 = true := by
      simp only [PyData.leavesShort, PyData.leavesShortAll, Bool.and_true, Bool.and_eq_true, decide_eq_true_eq]
      exact ⟨PyData.shown_int_le hn, s2⟩
    have e := PyData.shown_le 13 (by decide) _ hl
    have h1 : ((pl : Int)).natAbs.log2 < 40 := PySem.Flt.log2_lt_of (by decide) (Nat.lt_trans hn (by decide))
    have hw : PyData.weight (.tuple [.int (pl : Nat), .str s]) ≤ 200 := by
      simp only [PyData.weight, PyData.weightAll]
      split <;> omega
    show _ ≤ 2 ^ 24
    omega
theorem shows_ok {wd : Str} {hs fl : List Int} (hw : strOk wd = true) (h1 : ∀ n ∈ hs, n.natAbs < 10 ^ 12) (h2 : ∀ n ∈ fl, n.natAbs < 10 ^ 12) (l1 : hs.length ≤ 1000) (l2 : fl.length ≤ 1000) : Shows (.tuple [.str wd, .tuple (hs.map .int), .tuple (fl.map .int)]) := by
  unfold strOk at hw
  rw [Bool.and_eq_true, decide_eq_true_eq] at hw
  obtain ⟨s1, s2⟩ := hw
  refine ⟨?_, ?_, ?_, ?_, fun i e => (by cases e), fun x e => (by cases e)⟩
  · simp only [PyData.showable, PyData.showableAll, Bool.and_true, Bool.true_and, showable_ints hs h1, showable_ints fl h2]
  · simp only [PyData.hasDict, PyData.hasDictAll, Bool.or_self, nodict_ints]
  · simp only [PyData.depth, PyData.depthAll, depth_ints]
    decide
  · have hl : (PyData.tuple [.str wd, .tuple (hs.map .int), .tuple (fl.map .int)]).leavesShort 13 = true := by
      simp only [PyData.leavesShort, PyData.leavesShortAll, Bool.and_true, Bool.and_eq_true, leaves_ints hs h1, leaves_ints fl h2]
      exact s2
    have e := PyData.shown_le 13 (by decide) _ hl
    have e1 := weight_ints hs h1
    have e2 := weight_ints fl h2
    have hw : PyData.weight (.tuple [.str wd, .tuple (hs.map .int), .tuple (fl.map .int)]) ≤ 90000 := by
      simp only [PyData.weight, PyData.weightAll]
      omega
    show _ ≤ 2 ^ 24
    omega
theorem tame_shows : ∀ {r : Res}, Tame r → Shows (dataOf r)
  | .error (_, _), h => shows_err h.1 (strOk_reason h.2)
  | .ok (_, _, _), h => shows_ok (strOk_first h.1) h.2.1 h.2.2.1 h.2.2.2.1 h.2.2.2.2
theorem tame_row {line word : Str} {many : Nat} (hm : many ≤ 1000) (hw : word = "heights" ∨ word = "flow") : match rowRes line word many with
    | .error s => s ∈ reasons
    | .ok ns => (∀ n ∈ ns, n.natAbs < 10 ^ 12) ∧ ns.length ≤ 1000 := by
  unfold rowRes
  split
  · next s h =>
    split at h
    · cases h
      rcases hw with rfl | rfl <;> decide +kernel
    · split at h
      · cases h
        decide +kernel
      · split at h
        · cases h
          decide +kernel
        · cases h
  · next ns h =>
    split at h
    · cases h
    · split at h
      · cases h
      · next c2 =>
        split at h
        · cases h
        · next c3 =>
          cases h
          refine ⟨fun n hn => ?_, ?_⟩
          · obtain ⟨z, hz, rfl⟩ := List.mem_map.mp hn
            have : ((Txt.split line " ").drop 1).all (isNum 12) = true := by
              cases hb : ((Txt.split line " ").drop 1).all (isNum 12) with
              | true => rfl
              | false => exact absurd hb c3
            exact wordNum_lt (List.all_eq_true.mp this z hz)
          · rw [List.length_map, List.length_drop]
            omega
theorem tame_parse {n m : Nat} {text : Str} (hn : n ≤ 1000) (hm : m ≤ 1000) (ht : text.length ≤ 40000) : Tame (parseRes n m text) := by
  obtain ⟨wl, _, _⟩ := split_bound text 10 (by decide)
  have wl' : (Txt.split text "\n").length ≤ text.length + 1 := wl
  clear wl
  unfold parseRes partsRes
  generalize Txt.split text "\n" = ls at wl' ⊢
  by_cases c1 : isFirst (ls.getD 0 Str.empty) = false
  · rw [if_pos c1]
    exact ⟨by decide, by decide +kernel⟩
  rw [if_neg c1]
  by_cases c2 : ls.length ≠ 4 ∨ ls.getD 3 Str.empty ≠ ""
  · rw [if_pos c2]
    exact ⟨by omega, by decide +kernel⟩
  rw [if_neg c2]
  have t1 := tame_row (line := ls.getD 1 Str.empty) hn (.inl rfl)
  cases e1 : rowRes (ls.getD 1 Str.empty) "heights" n with
  | error r =>
    rw [e1] at t1
    exact ⟨by decide, t1⟩
  | ok h =>
    rw [e1] at t1
    have t2 := tame_row (line := ls.getD 2 Str.empty) hm (.inr rfl)
    cases e2 : rowRes (ls.getD 2 Str.empty) "flow" m with
    | error r =>
      rw [e2] at t2
      exact ⟨by decide, t2⟩
    | ok f =>
      rw [e2] at t2
      refine ⟨?_, t1.1, t2.1, t1.2, t2.2⟩
      cases hb : isFirst (ls.getD 0 Str.empty) with
      | true => rfl
      | false => exact absurd hb c1
/-- the program's own text of a paper is textW -/
theorem text_cat (wd : Str) (hs fl : List Int) : wd ++ ("\n" : Str) ++ lineW "heights" hs ++ ("\n" : Str) ++ lineW "flow" fl ++ ("\n" : Str) = textW wd hs fl := by
  refine tl_inj ?_
  simp only [tl_append]
  show _ = textL wd hs fl
  unfold textL
  have e : tl ("\n" : Str) = [10] := rfl
  rw [e]
  simp only [List.append_assoc]
theorem textW_len {wd : Str} {hs fl : List Int} (hw : isFirst wd = true) (h1 : ∀ n ∈ hs, n.natAbs < 10 ^ 12) (h2 : ∀ n ∈ fl, n.natAbs < 10 ^ 12) : (textW wd hs fl).length ≤ 30 + 14 * hs.length + 14 * fl.length := by
  have a1 := lineW_len (word := "heights") h1
  have a2 := lineW_len (word := "flow") h2
  have a3 : wd.length ≤ 8 := by rcases isFirst_of hw with rfl | rfl <;> decide
  have z1 : ("heights" : Str).length = 7 := rfl
  have z2 : ("flow" : Str).length = 4 := rfl
  rw [← tl_len]
  show (textL wd hs fl).length ≤ _
  unfold textL
  simp only [List.length_append, tl_len, List.length_cons, List.length_nil]
  omega
end K35
set_option Elab.async false
set_option linter.all false
set_option maxRecDepth 100000
set_option maxHeartbeats 8000000
namespace K35
open PySem PySem.Spec PyProof.Rows L2 Gx RZ TL
abbrev nLaw : List Str := ["script", "box", "net", "turn", "most", "heights", "flow", "paper", "text", "again", "k", "row"]
theorem scLaw : FnScope nLaw ["script"] (defScope sLaw) := ⟨rfl, rfl, rfl, by decide +kernel, rfl, by decide +kernel, by decide +kernel⟩
/-- a def that the law calls: its promise at its level, how it is bound -/
structure Cd (P : Program) (w : World) (K : PySem.W.Frag) (mg : Str → Option Value) (base : Heap) (k : Nat) (x : Str) (ps : List Str) (sp : Sp) (f : Addr) (fd : FuncData) : Prop where
  ok : FnOk P w K mg base CX0 k f fd ps sp
  kp : PySem.W.keepIn K (.ref f) = true
  bi : Binds K fd ps []
  gl : mg x = some (.ref f)
structure Mods (mg : Str → Option Value) : Prop where
  len : mg "len" = none
  range : mg "range" = none
  tuple : mg "tuple" = none
  repr : mg "repr" = none
theorem most_of {j : Nat} {v : V} (h : [V.int 2, V.int 101, V.int 1000][j]? = some v) : ∃ u : Int, v = .int u ∧ 2 ≤ u ∧ u ≤ 1000 := by
  have := List.mem_of_getElem? h
  simp at this
  rcases this with rfl | rfl | rfl
  · exact ⟨_, rfl, by decide, by decide⟩
  · exact ⟨_, rfl, by decide, by decide⟩
  · exact ⟨_, rfl, by decide, by decide⟩
theorem first_of {j : Nat} {v : V} (h : [V.str "best", V.str "weighted"][j]? = some v) : ∃ u : Str, v = .str u ∧ isFirst u = true := by
  have := List.mem_of_getElem? h
  simp at this
  rcases this with rfl | rfl
  · exact ⟨_, rfl, by decide +kernel⟩
  · exact ⟨_, rfl, by decide +kernel⟩
theorem cat_len (a b : Str) : (a ++ b).length = a.length + b.length := by rw [← tl_len, tl_append, List.length_append, tl_len, tl_len]
section
variable {P : Program} {w : World} {K : PySem.W.Frag} {mg : Str → Option Value} {base : Heap}
def spAny1 (K : PySem.W.Frag) : Sp := fun vs H Q _ => ∃ (b d : Addr), vs = [.ref b, .int 4, .int 4] ∧ Box H b d ∧ ∀ (p : Addr) (ms : List Str) (rs : List Rd3) (H' : Hp), 1 ≤ ms.length → ms.length ≤ 4 → rs.length ≤ 50 → Ext [b] H H' → Box H' b d → NetV K H' p ms rs → Q (.ref p) H'
theorem any_one {vs : List V} {H : Hp} {Q : VK} {E : XK} (h : spAny1 K vs H Q E) : spAny K vs H Q E :=
  let ⟨b, d, e, hb, q⟩ := h
  ⟨b, d, 4, 4, e, hb, by decide, by decide, by decide, fun p hs ps rows H' m x bx hn => q p _ _ H' (by rw [nmsN_length]; have := m.lo; omega) (by rw [nmsN_length]; exact m.hi) (by have h1 := m.pu; have h2 := m.hi; rw [chg_length, List.length_map]; omega) x bx hn,
   fun p H' x bx hn => q p _ _ H' (by decide) (by decide) (by decide) x bx hn⟩
def spLaw (K : PySem.W.Frag) (T T2 : Addr) : Sp := fun vs H Q _ => ∃ (a : Addr) (xs : List Int), vs = [.ref a] ∧ SqL K H a (xs.map V.int) ∧ GxR.TabG H T ∧ GxR.TabG H T2 ∧ ∀ H', Q (.bl true) H'
theorem ok_law {fL fDg fD fP fA fW fS fT fO fU T T2 : Addr} {dL dDg dD dP dA dW dS dT dO dU : FuncData} (B : Mods mg) (F : Fun K "law" "law" sLaw fL dL)
    (DDg : Cd P w K mg base 2 "_law_digits" ["script", "first", "last"] (spDigits K) fDg dDg) (DD : Cd P w K mg base 1 "_law_draw" ["box", "many"] spDraw fD dD) (DP : Cd P w K mg base 2 "_law_pick" ["box", "things"] (spPick K) fP dP)
    (DA : Cd P w K mg base 5 "_law_any_net" ["box", "most_marks", "most_extra"] (spAny1 K) fA dA) (DW : Cd P w K mg base 1 "_law_words" ["word", "numbers"] (spWords K) fW dW) (DS : Cd P w K mg base 2 "shown_paper" ["paper"] (spShown K) fS dS)
    (DT : Cd P w K mg base 15 "_law_told" ["net", "text"] (spTold K T T2) fT dT) (DO : Cd P w K mg base 4 "_law_other" ["box", "text"] (spO K) fO dO) (DU : Cd P w K mg base 3 "_law_due" ["net", "text"] (spDue K) fU dU) :
    FnG P w K mg base 16 fL dL ["script"] (spLaw K T T2) := by
  have nd := scLaw.nd
  refine okG F scLaw (fun vs H Q E h => ?_) (fun cdv A outer s H vs Q E hgd hr h => ?_)
  · obtain ⟨_, _, rfl, _⟩ := h
    rfl
  · obtain ⟨a, xs, rfl, hs, hT, hT2, q⟩ := h
    generalize hA : A.deeper (envOfC "law" (defScope sLaw) s.heap.objs.size fL cdv) = A9 at hr
    have hgd9 : A9.guards = some [] := by rw [← hA]; exact hgd
    subst hA
    have hu : (A.deeper (envOfC "law" (defScope sLaw) s.heap.objs.size fL cdv)).units + 65 < cLine := by
      have := hr.un
      omega
    have r1 := hr.mono (show 1 ≤ 15 by decide)
    have r2 := hr.mono (show 2 ≤ 15 by decide)
    have r3 := hr.mono (show 3 ≤ 15 by decide)
    have r4 := hr.mono (show 4 ≤ 15 by decide)
    have r5 := hr.mono (show 5 ≤ 15 by decide)
    apply Exists.intro
    refine And.intro ?hb ?hc
    case hb =>
      apply pss_cons
      · exact ps_set (i := 1) nd rfl (.inr rfl) (pe_lst (pa_cons (pe_call DDg.ok r2 (by rfl) DDg.gl DDg.kp DDg.bi .nil pass0 (pa_cons (pv 0) (pa_cons pe_int (pa_cons pe_int pa_nil)))) (pa_cons pe_int pa_nil)))
      apply pss_cons
      · exact ps_set (i := 2) nd rfl (.inl rfl) (pe_call DA.ok r5 (by rfl) DA.gl DA.kp DA.bi .nil pass0 (pa_cons (pv 1) (pa_cons pe_int (pa_cons pe_int pa_nil))))
      apply pss_cons
      · apply ps_for PassesOwn.never rfl (pi_range1 (by rfl) B.range (pa_cons pe_int pa_nil)) (pg_name (i := 3) nd rfl (.inl rfl))
        apply pss_cons
        · exact ps_set (i := 4) nd rfl (.inr rfl) (pe_call DP.ok r2 (by rfl) DP.gl DP.kp DP.bi .nil pass0 (pa_cons (pv 1) (pa_cons (pe_lst (pa_cons pe_int (pa_cons pe_int (pa_cons pe_int pa_nil)))) pa_nil)))
        apply pss_cons
        · exact ps_set (i := 5) nd rfl (.inl rfl) (pe_callTy call_tuple_of (by rfl) B.tuple PyProof.Rows.boot_tuple (pa_cons (pe_op op_cat (pe_lst (pa_cons pe_int pa_nil)) (pe_lc (own := [("k", 10)]) (g := gName 10) (tt := tYes) rfl nd (pi_range1 (by rfl) B.range (pa_cons (pe_op op_sub (pe_callB call_len_seq (by rfl) B.len PySem.boot_len (pa_cons (pe_ix ix_tup (pv 2) pe_int (fun _ _ => rfl)) pa_nil)) pe_int) pa_nil)) (blkOk_by (N := nLaw) (sc := defScope sLaw) (by decide +kernel))
            (fun _ _ _ _ _ => pg_name (i := 10) nd rfl (.inl rfl)) (fun _ _ _ _ _ => pts_nil) (fun _ _ _ _ _ => pe_op op_mul (pe_op op_sub (pe_call DD.ok r1 (by rfl) DD.gl DD.kp DD.bi .nil pass0 (pa_cons (pv 1) (pa_cons pe_int pa_nil))) pe_int) (pv 4)))) pa_nil))
        apply pss_cons
        · exact ps_set (i := 6) nd rfl (.inl rfl) (pe_callTy call_tuple_of (by rfl) B.tuple PyProof.Rows.boot_tuple (pa_cons (pe_lc (own := [("row", 11)]) (g := gName 11) (tt := tYes) rfl nd (pi_tup (pe_ix ix_tup (pv 2) pe_int (fun _ _ => rfl))) (blkOk_by (N := nLaw) (sc := defScope sLaw) (by decide +kernel))
            (fun _ _ _ _ _ => pg_name (i := 11) nd rfl (.inl rfl)) (fun _ _ _ _ _ => pts_nil) (fun _ _ _ _ _ => pe_op op_mul (pe_call DD.ok r1 (by rfl) DD.gl DD.kp DD.bi .nil pass0 (pa_cons (pv 1) (pa_cons (pv 4) pa_nil))) (pe_op op_sub (pe_op op_mul pe_int (pe_call DD.ok r1 (by rfl) DD.gl DD.kp DD.bi .nil pass0 (pa_cons (pv 1) (pa_cons pe_int pa_nil)))) pe_int))) pa_nil))
        apply pss_cons
        · exact ps_set (i := 7) nd rfl (.inl rfl) (pe_tup (pa_cons (pe_call DP.ok r2 (by rfl) DP.gl DP.kp DP.bi .nil pass0 (pa_cons (pv 1) (pa_cons (pe_lst (pa_cons pe_str (pa_cons pe_str pa_nil))) pa_nil))) (pa_cons (pv 5) (pa_cons (pv 6) pa_nil))))
        apply pss_cons
        · exact ps_set (i := 8) nd rfl (.inl rfl) (pe_op op_add_str (pe_op op_add_str (pe_op op_add_str (pe_op op_add_str (pe_op op_add_str (pe_ix ix_tup (pv 7) pe_int (fun _ _ => rfl)) pe_str) (pe_call DW.ok r1 (by rfl) DW.gl DW.kp DW.bi .nil pass0 (pa_cons pe_str (pa_cons (pv 5) pa_nil)))) pe_str) (pe_call DW.ok r1 (by rfl) DW.gl DW.kp DW.bi .nil pass0 (pa_cons pe_str (pa_cons (pv 6) pa_nil)))) pe_str)
        apply pss_cons
        · exact ps_if (PW.pt (pw_or (pt_cmpR op_ne (pe_call DS.ok r2 (by rfl) DS.gl DS.kp DS.bi .nil pass0 (pa_cons (pv 7) pa_nil)) (pv 8) (nomark _))
            (pw_or1 (pt_cmpR op_ne (pe_callB (call_repr hgd9 hu) (by rfl) B.repr PyProof.Rows.boot_repr (pa_cons (pe_call DT.ok hr (by rfl) DT.gl DT.kp DT.bi .nil pass0 (pa_cons (pv 2) (pa_cons (pv 8) pa_nil))) pa_nil)) (pe_callB (call_repr hgd9 hu) (by rfl) B.repr PyProof.Rows.boot_repr (pa_cons (pv 7) pa_nil)) (nomark _))))) (pss_one (ps_ret pe_bl)) pss_nil
        apply pss_cons
        · exact ps_for PassesOwn.never rfl (pi_range1 (by rfl) B.range (pa_cons (pe_op op_add pe_int (pe_call DD.ok r1 (by rfl) DD.gl DD.kp DD.bi .nil pass0 (pa_cons (pv 1) (pa_cons pe_int pa_nil)))) pa_nil)) (pg_name (i := 9) nd rfl (.inl rfl))
            (pss_one (ps_set (i := 8) nd rfl (.inl rfl) (pe_call DO.ok r4 (by rfl) DO.gl DO.kp DO.bi .nil pass0 (pa_cons (pv 1) (pa_cons (pv 8) pa_nil)))))
        exact pss_one (ps_if (pt_cmpR op_ne (pe_callB (call_repr hgd9 hu) (by rfl) B.repr PyProof.Rows.boot_repr (pa_cons (pe_call DT.ok hr (by rfl) DT.gl DT.kp DT.bi .nil pass0 (pa_cons (pv 2) (pa_cons (pv 8) pa_nil))) pa_nil)) (pe_callB (call_repr hgd9 hu) (by rfl) B.repr PyProof.Rows.boot_repr (pa_cons (pe_call DU.ok r3 (by rfl) DU.gl DU.kp DU.bi .nil pass0 (pa_cons (pv 2) (pa_cons (pv 8) pa_nil))) pa_nil)) (nomark _)) (pss_one (ps_ret pe_bl)) pss_nil)
      exact pss_one (ps_ret pe_bl)
    case hc =>
      refine ⟨_, rfl, a, xs, rfl, hs, fun d ds H1 x1 hd0 ed => ⟨by show 2 ≤ sizeLine; decide, fun b hb => ?_⟩⟩
      have x2 : Ext [] H (upd H1 b (.lst [.ref d, .int 0])) := x1.trans (.new hb)
      have bx : Box (upd H1 b (.lst [.ref d, .int 0])) b d := ⟨ds, 0, upd_same, by rw [upd_ne (ne_of_none ed hb)]; exact ed⟩
      refine ⟨_, rfl, b, d, rfl, bx, fun p ms rs Hn hm1 hm4 hrl x3 bn hnet => ?_⟩
      have hTn := x3.tab _ (x2.tab _ hT)
      have hTn2 := x3.tab _ (x2.tab _ hT2)
      clear x1 x2 x3 bx hb ed hd0 hT hT2 hs
      obtain ⟨mp, rp, vr, n1, n2, n3, n4⟩ := id hnet
      have lvr : vr.length = rs.length := Paired.length n4
      refine ⟨_, rfl, by decide, by decide, for_range (n := 4)
        (fun i σ H3 => ∃ y3 y4 y5 y6 y7 y8 y9 y10 y11, σ = [some (.ref a), some (.ref b), some (.ref p), y3, y4, y5, y6, y7, y8, y9, y10, y11] ∧ Ext [b] Hn H3 ∧ Box H3 b d) ⟨_, _, _, _, _, _, _, _, _, rfl, .refl, bn⟩ (fun i σ H3 hi h3 => ?_) (fun σ H3 h3 => ?_)⟩
      · obtain ⟨y3, y4, y5, y6, y7, y8, y9, y10, y11, rfl, x3, b3⟩ := h3
        -- most
        refine ⟨_, rfl, by show 3 ≤ sizeLine; decide, fun t ht => ?_⟩
        obtain ⟨_, _, eb3, ed3⟩ := id b3
        refine ⟨b, d, t, _, rfl, b3.ext (.new ht), upd_same, (ne_of_none eb3 ht).symm, by decide, fun j v hv H4 x4' b4 => ?_⟩
        obtain ⟨u, rfl, u0, u1⟩ := most_of hv
        have x4 : Ext [b] Hn H4 := x3.trans ((Ext.new ht).trans x4')
        clear x4' hv ht eb3 ed3 b3 x3
        -- heights
        refine ⟨by show 1 ≤ sizeLine; decide, fun l1 hl1 => ?_⟩
        have x5 : Ext [b] Hn (upd H4 l1 (.lst [V.int 0])) := x4.trans (.new hl1)
        have b5 : Box (L2.upd H4 l1 (.lst [V.int 0])) b d := b4.ext (.new hl1)
        have e5 : (upd H4 l1 (.lst [V.int 0])) l1 = some (.lst [V.int 0]) := upd_same
        have nl1 : l1 ≠ b := b4.new hl1
        generalize (upd H4 l1 (.lst [V.int 0])) = H5 at x5 b5 e5 ⊢
        refine ⟨_, rfl, p, _, _, _, rfl, rfl, x5.sqT n1, atI_nat (j := 1) rfl, mp, _, rfl, .inr (x5.sqT n2), _, _, rfl, rfl, _, rfl, ?_⟩
        rw [List.length_map]
        refine ⟨by omega, by omega, fun D hD => ?_⟩
        refine lc_range (fun i H7 => ∃ hs : List Int, hs.length = i ∧ (∀ x ∈ hs, x.natAbs < 10 ^ 12) ∧ Ext [b] H5 H7 ∧ Box H7 b d ∧ H7 D = some (.lst (hs.map V.int)))
          ⟨[], rfl, (fun _ h => by cases h), .new hD, b5.ext (.new hD), upd_same⟩ (fun i H7 hi h7 => ?_) (fun H7 h7 => ?_)
        · obtain ⟨hs, e1, e2, x7, b7, eD⟩ := h7
          refine ⟨rfl, _, rfl, b, d, 2001, rfl, b7, by decide, fun r4 H8 g4 g5 x8 b8 => ⟨_, _, rfl, rfl, _, rfl, _, _, rfl, rfl, .inl ⟨by omega, by omega⟩, ?_⟩⟩
          have eD8 : H8 D = some (.lst (hs.map V.int)) := x8.lst eD (by rw [List.mem_singleton]; exact b7.ne eD)
          refine ⟨_, eD8, by rw [List.length_map, e1]; exact small1000 (by omega), hs ++ [(r4 - 1000) * u], by rw [List.length_append, e1]; rfl, fun x hx => ?_, (x7.trans x8).own hD eD8, b5.upd b8 hD, by rw [upd_same, List.map_append]; rfl⟩
          rcases List.mem_append.mp hx with hx | hx
          · exact e2 x hx
          · rw [List.mem_singleton.mp hx]
            have m1 : (r4 - 1000).natAbs ≤ 1000 := by omega
            have m2 : u.natAbs ≤ 1000 := by omega
            rw [Int.natAbs_mul]
            have := Nat.mul_le_mul m1 m2
            omega
        obtain ⟨hs0, f1, f2, x7, b7, eD⟩ := h7
        have f1' : hs0.length = ms.length - 1 := by omega
        have e7 := x7.lst e5 (by rw [List.mem_singleton]; exact nl1)
        refine ⟨l1, D, _, _, rfl, rfl, e7, eD, by rw [List.length_map]; show 1 + _ ≤ 2 ^ 24; omega, fun r hr2 => ?_⟩
        have x8 : Ext [b] Hn (upd H7 r (.lst ([V.int 0] ++ hs0.map V.int))) := (x5.trans x7).trans (.new hr2)
        have b8 : Box (L2.upd H7 r (.lst ([V.int 0] ++ hs0.map V.int))) b d := b7.ext (.new hr2)
        generalize hhs : (0 : Int) :: hs0 = hs at *
        have ehs : [V.int 0] ++ hs0.map V.int = hs.map V.int := by rw [← hhs]; rfl
        have lhs : hs.length = ms.length := by rw [← hhs, List.length_cons, f1']; omega
        have bhs : ∀ x ∈ hs, x.natAbs < 10 ^ 12 := fun x hx => by
          rw [← hhs] at hx
          rcases List.mem_cons.mp hx with rfl | hx
          · decide
          · exact f2 x hx
        rw [ehs] at x8 b8 ⊢
        have e8 : (upd H7 r (.lst (hs.map V.int))) r = some (.lst (hs.map V.int)) := upd_same
        generalize (upd H7 r (.lst (hs.map V.int))) = H8 at x8 b8 e8 ⊢
        refine ⟨r, _, rfl, .inl ⟨SqL.of e8, fun hp hhp => ?_⟩⟩
        have x9 : Ext [b] Hn (upd H8 hp (.tup (hs.map V.int))) := x8.trans (.new hhp)
        have b9 : Box (L2.upd H8 hp (.tup (hs.map V.int))) b d := b8.ext (.new hhp)
        have eh : SqT K (upd H8 hp (.tup (hs.map V.int))) hp (hs.map V.int) := .inl (.inl upd_same)
        generalize (upd H8 hp (.tup (hs.map V.int))) = H9 at x9 b9 eh ⊢
        clear hhp x8 b8 e8 hr2 eD e7 x7 b7 hD hhs ehs f1 f1' f2 x5 b5 e5 nl1 hl1 x4 b4
        -- flow
        refine ⟨_, rfl, p, _, _, _, rfl, rfl, x9.sqT n1, atI_nat (j := 2) rfl, rp, rfl, ⟨_, x9.sqT n3⟩, fun D hD => ?_⟩
        refine lc_tup (K := K) (a := rp) (xs := vr) (fun i H7 => ∃ fl : List Int, fl.length = i ∧ (∀ x ∈ fl, x.natAbs < 10 ^ 12) ∧ Ext [b] H9 H7 ∧ Box H7 b d ∧ H7 D = some (.lst (fl.map V.int)))
          ⟨[], rfl, (fun _ h => by cases h), .new hD, b9.ext (.new hD), upd_same⟩ (fun i H7 _ h7 => let ⟨_, _, _, x, _⟩ := h7; x.sqT (x9.sqT n3)) (fun i v H7 hv h7 => ?_) (fun H7 h7 => ?_)
        · obtain ⟨fl, e1, e2, x7, b7, eD⟩ := h7
          have hi : i < vr.length := (List.getElem?_eq_some_iff.mp hv).1
          refine ⟨rfl, _, rfl, _, rfl, b, d, u.toNat, ?_, b7, by omega, fun r4 H8 g4 g5 x8 b8 => ?_⟩
          · rw [Int.toNat_of_nonneg (by omega)]
            rfl
          refine ⟨_, rfl, b, d, 2, rfl, b8, by decide, fun r5 H10 g6 g7 x10 b10 => ⟨_, _, rfl, rfl, .inl (by decide), _, _, rfl, rfl, _, _, rfl, rfl, .inl ⟨by omega, by omega⟩, ?_⟩⟩
          have eD8 : H10 D = some (.lst (fl.map V.int)) := (x8.trans x10).lst eD (by rw [List.mem_singleton]; exact b7.ne eD)
          refine ⟨_, eD8, by rw [List.length_map, e1]; exact small1000 (by omega), fl ++ [r4 * (2 * r5 - 1)], by rw [List.length_append, e1]; rfl, fun x hx => ?_, (x7.trans (x8.trans x10)).own hD eD8, b9.upd b10 hD, by rw [upd_same, List.map_append]; rfl⟩
          rcases List.mem_append.mp hx with hx | hx
          · exact e2 x hx
          · rw [List.mem_singleton.mp hx]
            have m1 : r4.natAbs ≤ 1000 := by omega
            have m2 : (2 * r5 - 1).natAbs ≤ 1 := by omega
            rw [Int.natAbs_mul]
            have := Nat.mul_le_mul m1 m2
            omega
        obtain ⟨fl, lfl, bfl, x7, b7, eD⟩ := h7
        refine ⟨D, _, rfl, .inl ⟨SqL.of eD, fun fp hfp => ?_⟩⟩
        have x10 : Ext [b] Hn (upd H7 fp (.tup (fl.map V.int))) := (x9.trans x7).trans (.new hfp)
        have b10 : Box (L2.upd H7 fp (.tup (fl.map V.int))) b d := b7.ext (.new hfp)
        have ef : SqT K (upd H7 fp (.tup (fl.map V.int))) fp (fl.map V.int) := .inl (.inl upd_same)
        have eh10 : SqT K (upd H7 fp (.tup (fl.map V.int))) hp (hs.map V.int) := (x7.trans (.new hfp)).sqT eh
        generalize (upd H7 fp (.tup (fl.map V.int))) = H10 at x10 b10 ef eh10 ⊢
        clear hfp eD x7 b7 hD eh x9 b9
        -- paper
        refine ⟨_, rfl, by show 2 ≤ sizeLine; decide, fun t ht => ?_⟩
        obtain ⟨_, _, eb3, ed3⟩ := id b10
        refine ⟨b, d, t, _, rfl, b10.ext (.new ht), upd_same, (ne_of_none eb3 ht).symm, by decide, fun j v hv H11 x11' b11 => ?_⟩
        obtain ⟨wd, rfl, hwd⟩ := first_of hv
        have x1011 : Ext [b] H10 H11 := (Ext.new ht).trans x11'
        refine ⟨_, rfl, _, rfl, by show 3 ≤ sizeLine; decide, fun pp hpp => ?_⟩
        have x12 : Ext [b] Hn (upd H11 pp (.tup [V.str wd, V.ref hp, V.ref fp])) := (x10.trans x1011).trans (.new hpp)
        have x1012 : Ext [b] H10 (upd H11 pp (.tup [V.str wd, V.ref hp, V.ref fp])) := x1011.trans (.new hpp)
        have b12 : Box (L2.upd H11 pp (.tup [V.str wd, V.ref hp, V.ref fp])) b d := b11.ext (.new hpp)
        have ep : SqT K (upd H11 pp (.tup [V.str wd, V.ref hp, V.ref fp])) pp [V.str wd, V.ref hp, V.ref fp] := .inl (.inl upd_same)
        have eh12 := x1012.sqT eh10
        have ef12 := x1012.sqT ef
        generalize (upd H11 pp (.tup [V.str wd, V.ref hp, V.ref fp])) = H12 at x12 b12 ep eh12 ef12 ⊢
        clear hpp x1012 x1011 b11 x11' hv ht eb3 ed3 ef eh10 b10 x10
        have wl : wd.length ≤ 8 := by rcases isFirst_of hwd with rfl | rfl <;> decide
        -- text
        have wl1 := lineW_len (word := "heights") bhs
        have wl2 := lineW_len (word := "flow") bfl
        have z1 : ("heights" : Str).length = 7 := rfl
        have z2 : ("flow" : Str).length = 4 := rfl
        have z3 : ("\n" : Str).length = 1 := rfl
        rw [z1] at wl1
        rw [z2] at wl2
        have sz : ∀ n : Nat, n ≤ 10000 → n ≤ sizeLine := fun n h => Nat.le_trans h (by show 10000 ≤ 2 ^ 24; decide)
        refine ⟨_, rfl, pp, _, _, _, rfl, rfl, ep, atI_nat (j := 0) rfl, _, _, rfl, rfl, sz _ (by omega), ?_⟩
        refine ⟨_, rfl, _, hp, hs, rfl, eh12, bhs, by omega, by decide, fun H13 x13 => ⟨_, _, rfl, rfl, sz _ (by simp only [cat_len]; omega), _, _, rfl, rfl, sz _ (by simp only [cat_len]; omega), ?_⟩⟩
        refine ⟨_, rfl, _, fp, fl, rfl, x13.sqT ef12, bfl, by omega, by decide, fun H14 x14 => ⟨_, _, rfl, rfl, sz _ (by simp only [cat_len]; omega), _, _, rfl, rfl, sz _ (by simp only [cat_len]; omega), ?_⟩⟩
        rw [text_cat]
        have hlen := textW_len hwd bhs bfl
        have x15 : Ext [] H12 H14 := x13.trans x14
        have ep14 := x15.sqT ep
        have eh14 := x15.sqT eh12
        have ef14 := x15.sqT ef12
        have y14 : Ext [b] Hn H14 := x12.trans x15.more
        have b14 := b12.ext x15
        have hback : parseRes hs.length fl.length (textW wd hs fl) = .ok (wd, hs, fl) := parse_back hwd bhs bfl
        have hl1 : (ms.map V.str).length = ms.length := List.length_map _
        have hres : parseRes (ms.map V.str).length vr.length (textW wd hs fl) = .ok (wd, hs, fl) := by rw [hl1, ← lhs, ← lfl]; exact hback
        have hin : ∀ {H' : Hp} {tx : Str}, Ext [b] Hn H' → tx.length ≤ 40000 → RdIn K H' p (ms.map V.str) vr tx := fun {H' tx} x h => ⟨⟨_, mp, rp, x.sqT n1, x.sqT n2, x.sqT n3⟩, h, by rw [hl1]; omega, by omega⟩
        refine ⟨_, rfl, pp, hp, fp, wd, hs, fl, rfl, ep14, eh14, ef14, bhs, bfl, by omega, by omega, by omega, fun H15 x15' => ⟨_, rfl, rfl, _, rfl, iteNS rfl ?_⟩⟩
        have y15 := y14.trans x15'.more
        refine ⟨_, rfl, _, rfl, p, _, _, _, rfl, hin y15 (by omega), y15.tab _ hTn, y15.tab _ hTn2, fun q1 H16 x16 an => ?_⟩
        rw [hres] at an
        have tm : Tame (.ok (wd, hs, fl)) := ⟨hwd, bhs, bfl, by omega, by omega⟩
        have x1416 := x15'.trans x16
        refine ⟨_, _, rfl, ansAt_dp an, tame_shows tm, _, rfl, _, _, rfl, ansAt_dp (r := .ok (wd, hs, fl)) ⟨hp, fp, x1416.sqT ep14, x1416.sqT eh14, x1416.sqT ef14⟩, tame_shows tm, rfl, _, rfl, iteNS rfl ?_⟩
        have y16 := y15.trans x16.more
        have b16 := (b14.ext x15').ext x16
        generalize textW wd hs fl = txt at hlen
        clear x1416 tm an x16 y15 x15' hres hback b14 y14 ef14 eh14 ep14 x15
        -- other texts
        refine ⟨_, rfl, b, d, 2, rfl, b16, by decide, fun r H17 g0 g1 x17 b17 => ?_⟩
        obtain ⟨k, hk⟩ := nat_of (show (0 : Int) ≤ 1 + r by omega)
        have k2 : k ≤ 2 := by omega
        refine ⟨_, _, rfl, rfl, (k : Int), by rw [← hk], by omega, by omega, ?_⟩
        rw [Int.toNat_natCast]
        have y17 := y16.trans x17
        have hL0 : txt.length + 40 ≤ 2 ^ 0 * 900 := by omega
        refine for_range (n := k) (fun i σ H18 => ∃ z3 z4 z5 z6 z7 z9 z10 z11 tx, σ = [some (.ref a), some (.ref b), some (.ref p), z3, z4, z5, z6, z7, some (.str tx), z9, z10, z11] ∧ tx.length + 40 ≤ 2 ^ i * 900 ∧ Ext [b] Hn H18 ∧ Box H18 b d)
          ⟨_, _, _, _, _, _, _, _, txt, rfl, hL0, y17, b17⟩ (fun i σ H18 hi h18 => ?_) (fun σ H18 h18 => ?_)
        · obtain ⟨z3, z4, z5, z6, z7, z9, z10, z11, tx, rfl, hl, y18, b18⟩ := h18
          have hp2 : 2 ^ i ≤ 2 := by
            have : i = 0 ∨ i = 1 := by omega
            rcases this with rfl | rfl <;> decide
          have htl : tx.length ≤ 14000 := by
            have := Nat.mul_le_mul hp2 (Nat.le_refl 900)
            omega
          refine ⟨_, rfl, _, rfl, b, d, tx, rfl, b18, htl, fun z H19 hz x19 b19 => ?_⟩
          refine ⟨_, _, _, _, _, _, _, _, z, rfl, ?_, y18.trans x19, b19⟩
          rw [Nat.pow_succ]
          omega
        · obtain ⟨z3, z4, z5, z6, z7, z9, z10, z11, tx, rfl, hl, y18, b18⟩ := h18
          have hp2 : 2 ^ k ≤ 4 := by
            have : k = 0 ∨ k = 1 ∨ k = 2 := by omega
            rcases this with rfl | rfl | rfl <;> decide
          have htl : tx.length ≤ 40000 := by
            have := Nat.mul_le_mul hp2 (Nat.le_refl 900)
            omega
          refine ⟨_, rfl, _, rfl, p, _, _, _, rfl, hin y18 htl, y18.tab _ hTn, y18.tab _ hTn2, fun q1 H19 x19 an => ?_⟩
          have y19 := y18.trans x19.more
          have tm : Tame (parseRes (ms.map V.str).length vr.length tx) := tame_parse (by rw [hl1]; omega) (by omega) htl
          refine ⟨_, _, rfl, ansAt_dp an, tame_shows tm, _, rfl, _, rfl, p, _, _, _, rfl, hin y19 htl, fun q2 H20 x20 an2 => ?_⟩
          refine ⟨_, _, rfl, ansAt_dp an2, tame_shows tm, rfl, _, rfl, iteNS rfl ?_⟩
          exact ⟨_, _, _, _, _, _, _, _, _, rfl, y19.trans x20.more, (b18.ext x19).ext x20⟩
      · obtain ⟨y3, y4, y5, y6, y7, y8, y9, y10, y11, rfl, x3, b3⟩ := h3
        exact q H3
end
end K35
set_option Elab.async false
set_option linter.all false
set_option maxRecDepth 100000
set_option maxHeartbeats 4000000
namespace K35
open PySem PySem.Spec PyProof.Rows L2 Gx RZ
theorem tabIn_of {K : PySem.W.Frag} {x qual : Str} {f c P : Addr} {oc : Value} {od an : Option Addr} {osl : Array (Option Value)} {kV doc pm ct : Value} {st : Stmt} {e : Value} {dd : Option Addr} {vs : Array Value} {sl : Array (Option Value)}
    (a : PySem.W.nsIn K mainGlobals x = some (some (.ref f))) (l : K.lookup f = some ⟨oc, od, .func (PySem.W.fnOf x qual (defArgs st) (defBody st) (defScope st) .none kV doc pm an (.ref c) ct), osl⟩) (lc : K.lookup c = some ⟨e, dd, .fields vs, sl⟩) (v : vs[11]? = some (.ref P)) :
    PySem.W.tabIn K x = some (c, P) := by
  unfold PySem.W.tabIn
  rw [a]
  simp only [l, lc, v, PySem.W.fnOf]
theorem lawK {l : PySem.W.OpenLaw} {q : Program} {w : World} {K : PySem.W.Frag} {mg : Str → Option Value} {fa : Addr} {h : Heap} (KX : K.In h) (G : h.Ns mainGlobals mg) (hmg : mg "law" = some (.ref fa))
   (HT : ∀ (d' : DefRec) (y : Str) (c P : Addr), (recsOf q).find? (fun e => e.name == y) = some d' → PySem.W.tabIn K y = some (c, P) → PySem.W.CodeHd h c P ∧ h.get? P = some Gx.tab0)
    {odL anL : Option Addr} {slL : Array (Option Value)} {ocL kVL dcL pmL ctL : Value} {fL : Addr} {cdL : Value}
    (aL : PySem.W.nsIn K mainGlobals "law" = some (some (.ref fL))) (lL : K.lookup fL = some ⟨ocL, odL, .func (PySem.W.fnOf "law" "law" (defArgs sLaw) (defBody sLaw) (defScope sLaw) .none kVL dcL pmL anL cdL ctL), slL⟩) (hL : PySem.W.codeIn K cdL "law" = true) (kL : PySem.W.keepIn K (.ref fL) = true)
    {odDg anDg : Option Addr} {slDg : Array (Option Value)} {ocDg kVDg dcDg pmDg ctDg : Value} {fDg : Addr} {cdDg : Value}
    (aDg : PySem.W.nsIn K mainGlobals "_law_digits" = some (some (.ref fDg))) (lDg : K.lookup fDg = some ⟨ocDg, odDg, .func (PySem.W.fnOf "_law_digits" "_law_digits" (defArgs sDigits) (defBody sDigits) (defScope sDigits) .none kVDg dcDg pmDg anDg cdDg ctDg), slDg⟩) (hDg : PySem.W.codeIn K cdDg "_law_digits" = true) (kDg : PySem.W.keepIn K (.ref fDg) = true)
    {odC anC : Option Addr} {slC : Array (Option Value)} {ocC kVC dcC pmC ctC : Value} {fC : Addr} {cdC : Value}
    (aC : PySem.W.nsIn K mainGlobals "_law_cell" = some (some (.ref fC))) (lC : K.lookup fC = some ⟨ocC, odC, .func (PySem.W.fnOf "_law_cell" "_law_cell" (defArgs sCell) (defBody sCell) (defScope sCell) .none kVC dcC pmC anC cdC ctC), slC⟩) (hC : PySem.W.codeIn K cdC "_law_cell" = true) (kC : PySem.W.keepIn K (.ref fC) = true)
    {odD anD : Option Addr} {slD : Array (Option Value)} {ocD kVD dcD pmD ctD : Value} {fD : Addr} {cdD : Value}
    (aD : PySem.W.nsIn K mainGlobals "_law_draw" = some (some (.ref fD))) (lD : K.lookup fD = some ⟨ocD, odD, .func (PySem.W.fnOf "_law_draw" "_law_draw" (defArgs sDraw) (defBody sDraw) (defScope sDraw) .none kVD dcD pmD anD cdD ctD), slD⟩) (hD : PySem.W.codeIn K cdD "_law_draw" = true) (kD : PySem.W.keepIn K (.ref fD) = true)
    {odP anP : Option Addr} {slP : Array (Option Value)} {ocP kVP dcP pmP ctP : Value} {fP : Addr} {cdP : Value}
    (aP : PySem.W.nsIn K mainGlobals "_law_pick" = some (some (.ref fP))) (lP : K.lookup fP = some ⟨ocP, odP, .func (PySem.W.fnOf "_law_pick" "_law_pick" (defArgs sPick) (defBody sPick) (defScope sPick) .none kVP dcP pmP anP cdP ctP), slP⟩) (hP : PySem.W.codeIn K cdP "_law_pick" = true) (kP : PySem.W.keepIn K (.ref fP) = true)
    {odPa anPa : Option Addr} {slPa : Array (Option Value)} {ocPa kVPa dcPa pmPa ctPa : Value} {fPa : Addr} {cdPa : Value}
    (aPa : PySem.W.nsIn K mainGlobals "_law_pairs" = some (some (.ref fPa))) (lPa : K.lookup fPa = some ⟨ocPa, odPa, .func (PySem.W.fnOf "_law_pairs" "_law_pairs" (defArgs sPairs) (defBody sPairs) (defScope sPairs) .none kVPa dcPa pmPa anPa cdPa ctPa), slPa⟩) (hPa : PySem.W.codeIn K cdPa "_law_pairs" = true) (kPa : PySem.W.keepIn K (.ref fPa) = true)
    {odH anH : Option Addr} {slH : Array (Option Value)} {ocH kVH dcH pmH ctH : Value} {fH : Addr} {cdH : Value}
    (aH : PySem.W.nsIn K mainGlobals "_law_heights" = some (some (.ref fH))) (lH : K.lookup fH = some ⟨ocH, odH, .func (PySem.W.fnOf "_law_heights" "_law_heights" (defArgs sHeights) (defBody sHeights) (defScope sHeights) .none kVH dcH pmH anH cdH ctH), slH⟩) (hH : PySem.W.codeIn K cdH "_law_heights" = true) (kH : PySem.W.keepIn K (.ref fH) = true)
    {odNm anNm : Option Addr} {slNm : Array (Option Value)} {ocNm kVNm dcNm pmNm ctNm : Value} {fNm : Addr} {cdNm : Value}
    (aNm : PySem.W.nsIn K mainGlobals "_law_names" = some (some (.ref fNm))) (lNm : K.lookup fNm = some ⟨ocNm, odNm, .func (PySem.W.fnOf "_law_names" "_law_names" (defArgs sNames) (defBody sNames) (defScope sNames) .none kVNm dcNm pmNm anNm cdNm ctNm), slNm⟩) (hNm : PySem.W.codeIn K cdNm "_law_names" = true) (kNm : PySem.W.keepIn K (.ref fNm) = true)
    {odKp anKp : Option Addr} {slKp : Array (Option Value)} {ocKp kVKp dcKp pmKp ctKp : Value} {fKp : Addr} {cdKp : Value}
    (aKp : PySem.W.nsIn K mainGlobals "_law_kept_net" = some (some (.ref fKp))) (lKp : K.lookup fKp = some ⟨ocKp, odKp, .func (PySem.W.fnOf "_law_kept_net" "_law_kept_net" (defArgs sKept) (defBody sKept) (defScope sKept) .none kVKp dcKp pmKp anKp cdKp ctKp), slKp⟩) (hKp : PySem.W.codeIn K cdKp "_law_kept_net" = true) (kKp : PySem.W.keepIn K (.ref fKp) = true)
    {odCg anCg : Option Addr} {slCg : Array (Option Value)} {ocCg kVCg dcCg pmCg ctCg : Value} {fCg : Addr} {cdCg : Value}
    (aCg : PySem.W.nsIn K mainGlobals "_law_changed" = some (some (.ref fCg))) (lCg : K.lookup fCg = some ⟨ocCg, odCg, .func (PySem.W.fnOf "_law_changed" "_law_changed" (defArgs sChanged) (defBody sChanged) (defScope sChanged) .none kVCg dcCg pmCg anCg cdCg ctCg), slCg⟩) (hCg : PySem.W.codeIn K cdCg "_law_changed" = true) (kCg : PySem.W.keepIn K (.ref fCg) = true)
    {odSo anSo : Option Addr} {slSo : Array (Option Value)} {ocSo kVSo dcSo pmSo ctSo : Value} {fSo : Addr} {cdSo : Value}
    (aSo : PySem.W.nsIn K mainGlobals "_law_some" = some (some (.ref fSo))) (lSo : K.lookup fSo = some ⟨ocSo, odSo, .func (PySem.W.fnOf "_law_some" "_law_some" (defArgs sSome) (defBody sSome) (defScope sSome) .none kVSo dcSo pmSo anSo cdSo ctSo), slSo⟩) (hSo : PySem.W.codeIn K cdSo "_law_some" = true) (kSo : PySem.W.keepIn K (.ref fSo) = true)
    {odLi anLi : Option Addr} {slLi : Array (Option Value)} {ocLi kVLi dcLi pmLi ctLi : Value} {fLi : Addr} {cdLi : Value}
    (aLi : PySem.W.nsIn K mainGlobals "_law_lied" = some (some (.ref fLi))) (lLi : K.lookup fLi = some ⟨ocLi, odLi, .func (PySem.W.fnOf "_law_lied" "_law_lied" (defArgs sLied) (defBody sLied) (defScope sLied) .none kVLi dcLi pmLi anLi cdLi ctLi), slLi⟩) (hLi : PySem.W.codeIn K cdLi "_law_lied" = true) (kLi : PySem.W.keepIn K (.ref fLi) = true)
    {odNt anNt : Option Addr} {slNt : Array (Option Value)} {ocNt kVNt dcNt pmNt ctNt : Value} {fNt : Addr} {cdNt : Value}
    (aNt : PySem.W.nsIn K mainGlobals "_law_net" = some (some (.ref fNt))) (lNt : K.lookup fNt = some ⟨ocNt, odNt, .func (PySem.W.fnOf "_law_net" "_law_net" (defArgs sNet) (defBody sNet) (defScope sNet) .none kVNt dcNt pmNt anNt cdNt ctNt), slNt⟩) (hNt : PySem.W.codeIn K cdNt "_law_net" = true) (kNt : PySem.W.keepIn K (.ref fNt) = true)
    {odAn anAn : Option Addr} {slAn : Array (Option Value)} {ocAn kVAn dcAn pmAn ctAn : Value} {fAn : Addr} {cdAn : Value}
    (aAn : PySem.W.nsIn K mainGlobals "_law_any_net" = some (some (.ref fAn))) (lAn : K.lookup fAn = some ⟨ocAn, odAn, .func (PySem.W.fnOf "_law_any_net" "_law_any_net" (defArgs sAnyNet) (defBody sAnyNet) (defScope sAnyNet) .none kVAn dcAn pmAn anAn cdAn ctAn), slAn⟩) (hAn : PySem.W.codeIn K cdAn "_law_any_net" = true) (kAn : PySem.W.keepIn K (.ref fAn) = true)
    {odWd anWd : Option Addr} {slWd : Array (Option Value)} {ocWd kVWd dcWd pmWd ctWd : Value} {fWd : Addr} {cdWd : Value}
    (aWd : PySem.W.nsIn K mainGlobals "_law_words" = some (some (.ref fWd))) (lWd : K.lookup fWd = some ⟨ocWd, odWd, .func (PySem.W.fnOf "_law_words" "_law_words" (defArgs sWords) (defBody sWords) (defScope sWords) .none kVWd dcWd pmWd anWd cdWd ctWd), slWd⟩) (hWd : PySem.W.codeIn K cdWd "_law_words" = true) (kWd : PySem.W.keepIn K (.ref fWd) = true)
    {odLn anLn : Option Addr} {slLn : Array (Option Value)} {ocLn kVLn dcLn pmLn ctLn : Value} {fLn : Addr} {cdLn : Value}
    (aLn : PySem.W.nsIn K mainGlobals "_law_is_number" = some (some (.ref fLn))) (lLn : K.lookup fLn = some ⟨ocLn, odLn, .func (PySem.W.fnOf "_law_is_number" "_law_is_number" (defArgs sLawNum) (defBody sLawNum) (defScope sLawNum) .none kVLn dcLn pmLn anLn cdLn ctLn), slLn⟩) (hLn : PySem.W.codeIn K cdLn "_law_is_number" = true) (kLn : PySem.W.keepIn K (.ref fLn) = true)
    {odRw anRw : Option Addr} {slRw : Array (Option Value)} {ocRw kVRw dcRw pmRw ctRw : Value} {fRw : Addr} {cdRw : Value}
    (aRw : PySem.W.nsIn K mainGlobals "_law_row" = some (some (.ref fRw))) (lRw : K.lookup fRw = some ⟨ocRw, odRw, .func (PySem.W.fnOf "_law_row" "_law_row" (defArgs sRow) (defBody sRow) (defScope sRow) .none kVRw dcRw pmRw anRw cdRw ctRw), slRw⟩) (hRw : PySem.W.codeIn K cdRw "_law_row" = true) (kRw : PySem.W.keepIn K (.ref fRw) = true)
    {odDu anDu : Option Addr} {slDu : Array (Option Value)} {ocDu kVDu dcDu pmDu ctDu : Value} {fDu : Addr} {cdDu : Value}
    (aDu : PySem.W.nsIn K mainGlobals "_law_due" = some (some (.ref fDu))) (lDu : K.lookup fDu = some ⟨ocDu, odDu, .func (PySem.W.fnOf "_law_due" "_law_due" (defArgs sDue) (defBody sDue) (defScope sDue) .none kVDu dcDu pmDu anDu cdDu ctDu), slDu⟩) (hDu : PySem.W.codeIn K cdDu "_law_due" = true) (kDu : PySem.W.keepIn K (.ref fDu) = true)
    {odTo anTo : Option Addr} {slTo : Array (Option Value)} {ocTo kVTo dcTo pmTo ctTo : Value} {fTo : Addr} {cdTo : Value}
    (aTo : PySem.W.nsIn K mainGlobals "_law_told" = some (some (.ref fTo))) (lTo : K.lookup fTo = some ⟨ocTo, odTo, .func (PySem.W.fnOf "_law_told" "_law_told" (defArgs sTold) (defBody sTold) (defScope sTold) .none kVTo dcTo pmTo anTo cdTo ctTo), slTo⟩) (hTo : PySem.W.codeIn K cdTo "_law_told" = true) (kTo : PySem.W.keepIn K (.ref fTo) = true)
    {odOl anOl : Option Addr} {slOl : Array (Option Value)} {ocOl kVOl dcOl pmOl ctOl : Value} {fOl : Addr} {cdOl : Value}
    (aOl : PySem.W.nsIn K mainGlobals "_law_other_line" = some (some (.ref fOl))) (lOl : K.lookup fOl = some ⟨ocOl, odOl, .func (PySem.W.fnOf "_law_other_line" "_law_other_line" (defArgs sOtherLine) (defBody sOtherLine) (defScope sOtherLine) .none kVOl dcOl pmOl anOl cdOl ctOl), slOl⟩) (hOl : PySem.W.codeIn K cdOl "_law_other_line" = true) (kOl : PySem.W.keepIn K (.ref fOl) = true)
    {odOt anOt : Option Addr} {slOt : Array (Option Value)} {ocOt kVOt dcOt pmOt ctOt : Value} {fOt : Addr} {cdOt : Value}
    (aOt : PySem.W.nsIn K mainGlobals "_law_other" = some (some (.ref fOt))) (lOt : K.lookup fOt = some ⟨ocOt, odOt, .func (PySem.W.fnOf "_law_other" "_law_other" (defArgs sOther) (defBody sOther) (defScope sOther) .none kVOt dcOt pmOt anOt cdOt ctOt), slOt⟩) (hOt : PySem.W.codeIn K cdOt "_law_other" = true) (kOt : PySem.W.keepIn K (.ref fOt) = true)
    {odSh anSh : Option Addr} {slSh : Array (Option Value)} {ocSh kVSh dcSh pmSh ctSh : Value} {fSh : Addr} {cdSh : Value}
    (aSh : PySem.W.nsIn K mainGlobals "shown_paper" = some (some (.ref fSh))) (lSh : K.lookup fSh = some ⟨ocSh, odSh, .func (PySem.W.fnOf "shown_paper" "shown_paper" (defArgs sShown) (defBody sShown) (defScope sShown) .none kVSh dcSh pmSh anSh cdSh ctSh), slSh⟩) (hSh : PySem.W.codeIn K cdSh "shown_paper" = true) (kSh : PySem.W.keepIn K (.ref fSh) = true)
    {odNl anNl : Option Addr} {slNl : Array (Option Value)} {ocNl kVNl dcNl pmNl ctNl : Value} {fNl : Addr} {cdNl : Value}
    (aNl : PySem.W.nsIn K mainGlobals "numbers_line" = some (some (.ref fNl))) (lNl : K.lookup fNl = some ⟨ocNl, odNl, .func (PySem.W.fnOf "numbers_line" "numbers_line" (defArgs sNumLine) (defBody sNumLine) (defScope sNumLine) .none kVNl dcNl pmNl anNl cdNl ctNl), slNl⟩) (hNl : PySem.W.codeIn K cdNl "numbers_line" = true) (kNl : PySem.W.keepIn K (.ref fNl) = true)
    {odPp anPp : Option Addr} {slPp : Array (Option Value)} {ocPp kVPp dcPp pmPp ctPp : Value} {fPp : Addr} {cdPp : Value}
    (aPp : PySem.W.nsIn K mainGlobals "parse_paper" = some (some (.ref fPp))) (lPp : K.lookup fPp = some ⟨ocPp, odPp, .func (PySem.W.fnOf "parse_paper" "parse_paper" (defArgs sParse) (defBody sParse) (defScope sParse) .none kVPp dcPp pmPp anPp cdPp ctPp), slPp⟩) (hPp : PySem.W.codeIn K cdPp "parse_paper" = true) (kPp : PySem.W.keepIn K (.ref fPp) = true)
    {odPn anPn : Option Addr} {slPn : Array (Option Value)} {ocPn kVPn dcPn pmPn ctPn : Value} {fPn : Addr} {cPn PPn : Addr} {dPn : DefRec} {ePn : Value} {ddPn : Option Addr} {vsPn : Array Value} {scPn : Array (Option Value)}
    (aPn : PySem.W.nsIn K mainGlobals "parsed_numbers" = some (some (.ref fPn))) (lPn : K.lookup fPn = some ⟨ocPn, odPn, .func (PySem.W.fnOf "parsed_numbers" "parsed_numbers" (defArgs sParsed) (defBody sParsed) (defScope sParsed) .none kVPn dcPn pmPn anPn (.ref cPn) ctPn), slPn⟩) (hPn : PySem.W.codeIn K (.ref cPn) "parsed_numbers" = true) (kPn : PySem.W.keepIn K (.ref fPn) = true)
    (qPn : (recsOf q).find? (fun e => e.name == ("parsed_numbers" : Str)) = some dPn) (lcPn : K.lookup cPn = some ⟨ePn, ddPn, .fields vsPn, scPn⟩) (vPn : vsPn[11]? = some (.ref PPn)) (nPn : K.lookup PPn = none)
    {odIn anIn : Option Addr} {slIn : Array (Option Value)} {ocIn kVIn dcIn pmIn ctIn : Value} {fIn : Addr} {cIn PIn : Addr} {dIn : DefRec} {eIn : Value} {ddIn : Option Addr} {vsIn : Array Value} {scIn : Array (Option Value)}
    (aIn : PySem.W.nsIn K mainGlobals "is_number" = some (some (.ref fIn))) (lIn : K.lookup fIn = some ⟨ocIn, odIn, .func (PySem.W.fnOf "is_number" "is_number" (defArgs sIsNumber) (defBody sIsNumber) (defScope sIsNumber) .none kVIn dcIn pmIn anIn (.ref cIn) ctIn), slIn⟩) (hIn : PySem.W.codeIn K (.ref cIn) "is_number" = true) (kIn : PySem.W.keepIn K (.ref fIn) = true)
    (qIn : (recsOf q).find? (fun e => e.name == ("is_number" : Str)) = some dIn) (lcIn : K.lookup cIn = some ⟨eIn, ddIn, .fields vsIn, scIn⟩) (vIn : vsIn[11]? = some (.ref PIn)) (nIn : K.lookup PIn = none)
    (z_len : PySem.W.nsIn K mainGlobals "len" = some none)
    (z_int : PySem.W.nsIn K mainGlobals "int" = some none)
    (z_range : PySem.W.nsIn K mainGlobals "range" = some none)
    (z_tuple : PySem.W.nsIn K mainGlobals "tuple" = some none)
    (z_list : PySem.W.nsIn K mainGlobals "list" = some none)
    (z_min : PySem.W.nsIn K mainGlobals "min" = some none)
    (z_sorted : PySem.W.nsIn K mainGlobals "sorted" = some none)
    (z_all : PySem.W.nsIn K mainGlobals "all" = some none)
    (z_str : PySem.W.nsIn K mainGlobals "str" = some none)
    (z_isinstance : PySem.W.nsIn K mainGlobals "isinstance" = some none)
    (z_repr : PySem.W.nsIn K mainGlobals "repr" = some none)
    (z_ValueError : PySem.W.nsIn K mainGlobals "ValueError" = some none)
    {tkMOST_DIGITS_IN_PAPERS : Tok} (i_MOST_DIGITS_IN_PAPERS : PySem.W.nsIn K mainGlobals "MOST_DIGITS_IN_PAPERS" = some (some (.int 12 tkMOST_DIGITS_IN_PAPERS)))
    {Cn Le : Addr} (yC : PySem.W.nsIn K mainGlobals "BadNet" = some (some (.ref Cn))) (yL : PySem.W.nsIn K mainGlobals "LevelError" = some (some (.ref Le)))
    {fI : Addr} {odI anI : Option Addr} {slI : Array (Option Value)} {ocI kVI dcI pmI ctI cdI : Value} (iC : PySem.W.findIn K (.ref Cn) "__init__" = some (some (.ref fI))) (tI : PySem.W.typeIn K (.ref fI) = some (.type "function")) (lI : K.lookup fI = some ⟨ocI, odI, .func (PySem.W.fnOf "__init__" "BadNet.__init__" (defArgs sInit) (defBody sInit) (defScope sInit) .none kVI dcI pmI anI cdI ctI), slI⟩) (hI : PySem.W.codeIn K cdI "BadNet.__init__" = true) (kI : PySem.W.keepIn K (.ref fI) = true)
    {nm q' N bs bm sn sub ab col dd k0 k1 k2 k3 k5} (o1 : K.lookup Cn = some (excClassObj nm q' Cn N bs bm true sn sub ab col dd k0 k1 k2 k3 k5 "ValueError.__new__")) (o2 : PySem.HandSPX.refsVE bm = true) (o3 : PySem.W.findIn K (.ref Cn) "__setattr__" = some (some (.builtin "object.__setattr__"))) (o4 : PySem.W.subIn K (.ref Cn) (.type "BaseException") = some true) (o5 : PySem.W.typeIn K (.ref Cn) = some (.type "type")) (o8 : PySem.W.keepIn K (.ref Cn) = true)
    (o6 : PySem.W.findIn K (.ref Cn) "line" = some none) (o7 : PySem.W.findIn K (.ref Cn) "reason" = some none) (xc : ExcC K Cn) (xf : XfC K Cn)
    (eX : PySem.W.exmOne K (.ref Cn) (.ref Le) = some true) (kC_ : PySem.W.kitOne K (.ref Cn) (.ref Cn) = some true) (kV_ : PySem.W.kitOne K (.ref Cn) (.type "ValueError") = some true)
    : Gx.LawG l w K 16 63 "script" mg fa h := by
  have e := hmg.symm.trans (PySem.W.mg_of KX G aL)
  cases e
  have FL := fun_mk (st := sLaw) lL hL kL
  have FDg := fun_mk (st := sDigits) lDg hDg kDg
  have FC := fun_mk (st := sCell) lC hC kC
  have FD := fun_mk (st := sDraw) lD hD kD
  have FP := fun_mk (st := sPick) lP hP kP
  have FPa := fun_mk (st := sPairs) lPa hPa kPa
  have FH := fun_mk (st := sHeights) lH hH kH
  have FNm := fun_mk (st := sNames) lNm hNm kNm
  have FKp := fun_mk (st := sKept) lKp hKp kKp
  have FCg := fun_mk (st := sChanged) lCg hCg kCg
  have FSo := fun_mk (st := sSome) lSo hSo kSo
  have FLi := fun_mk (st := sLied) lLi hLi kLi
  have FNt := fun_mk (st := sNet) lNt hNt kNt
  have FAn := fun_mk (st := sAnyNet) lAn hAn kAn
  have FWd := fun_mk (st := sWords) lWd hWd kWd
  have FLn := fun_mk (st := sLawNum) lLn hLn kLn
  have FRw := fun_mk (st := sRow) lRw hRw kRw
  have FDu := fun_mk (st := sDue) lDu hDu kDu
  have FTo := fun_mk (st := sTold) lTo hTo kTo
  have FOl := fun_mk (st := sOtherLine) lOl hOl kOl
  have FOt := fun_mk (st := sOther) lOt hOt kOt
  have FSh := fun_mk (st := sShown) lSh hSh kSh
  have FNl := fun_mk (st := sNumLine) lNl hNl kNl
  have FPp := fun_mk (st := sParse) lPp hPp kPp
  have FPn := funT_mk (st := sParsed) lPn hPn kPn
  have TPn := HT dPn "parsed_numbers" cPn PPn qPn (tabIn_of aPn lPn lcPn vPn)
  have FIn := funT_mk (st := sIsNumber) lIn hIn kIn
  have TIn := HT dIn "is_number" cIn PIn qIn (tabIn_of aIn lIn lcIn vIn)
  have bDg := FDg.binds (ps := ["script", "first", "last"]) fun _ _ _ _ _ _ us hl => match us, hl with | [_, _, _], _ => rfl
  have gDg := PySem.W.mg_of KX G aDg
  have bC := FC.binds (ps := ["script", "k"]) fun _ _ _ _ _ _ us hl => match us, hl with | [_, _], _ => rfl
  have gC := PySem.W.mg_of KX G aC
  have bD := FD.binds (ps := ["box", "many"]) fun _ _ _ _ _ _ us hl => match us, hl with | [_, _], _ => rfl
  have gD := PySem.W.mg_of KX G aD
  have bP := FP.binds (ps := ["box", "things"]) fun _ _ _ _ _ _ us hl => match us, hl with | [_, _], _ => rfl
  have gP := PySem.W.mg_of KX G aP
  have bPa := FPa.binds (ps := ["box", "many", "extra"]) fun _ _ _ _ _ _ us hl => match us, hl with | [_, _, _], _ => rfl
  have gPa := PySem.W.mg_of KX G aPa
  have bH := FH.binds (ps := ["box", "many"]) fun _ _ _ _ _ _ us hl => match us, hl with | [_, _], _ => rfl
  have gH := PySem.W.mg_of KX G aH
  have bNm := FNm.binds (ps := ["many"]) fun _ _ _ _ _ _ us hl => match us, hl with | [_], _ => rfl
  have gNm := PySem.W.mg_of KX G aNm
  have bKp := FKp.binds (ps := ["pairs", "heights"]) fun _ _ _ _ _ _ us hl => match us, hl with | [_, _], _ => rfl
  have gKp := PySem.W.mg_of KX G aKp
  have bCg := FCg.binds (ps := ["net", "rows"]) fun _ _ _ _ _ _ us hl => match us, hl with | [_, _], _ => rfl
  have gCg := PySem.W.mg_of KX G aCg
  have bSo := FSo.binds (ps := ["box", "many", "most"]) fun _ _ _ _ _ _ us hl => match us, hl with | [_, _, _], _ => rfl
  have gSo := PySem.W.mg_of KX G aSo
  have bLi := FLi.binds (ps := ["box", "net", "most"]) fun _ _ _ _ _ _ us hl => match us, hl with | [_, _, _], _ => rfl
  have gLi := PySem.W.mg_of KX G aLi
  have bNt := FNt.binds (ps := ["box", "most_marks", "most_extra"]) fun _ _ _ _ _ _ us hl => match us, hl with | [_, _, _], _ => rfl
  have gNt := PySem.W.mg_of KX G aNt
  have bAn := FAn.binds (ps := ["box", "most_marks", "most_extra"]) fun _ _ _ _ _ _ us hl => match us, hl with | [_, _, _], _ => rfl
  have gAn := PySem.W.mg_of KX G aAn
  have bWd := FWd.binds (ps := ["word", "numbers"]) fun _ _ _ _ _ _ us hl => match us, hl with | [_, _], _ => rfl
  have gWd := PySem.W.mg_of KX G aWd
  have bLn := FLn.binds (ps := ["word"]) fun _ _ _ _ _ _ us hl => match us, hl with | [_], _ => rfl
  have gLn := PySem.W.mg_of KX G aLn
  have bRw := FRw.binds (ps := ["line", "text", "word", "many"]) fun _ _ _ _ _ _ us hl => match us, hl with | [_, _, _, _], _ => rfl
  have gRw := PySem.W.mg_of KX G aRw
  have bDu := FDu.binds (ps := ["net", "text"]) fun _ _ _ _ _ _ us hl => match us, hl with | [_, _], _ => rfl
  have gDu := PySem.W.mg_of KX G aDu
  have bTo := FTo.binds (ps := ["net", "text"]) fun _ _ _ _ _ _ us hl => match us, hl with | [_, _], _ => rfl
  have gTo := PySem.W.mg_of KX G aTo
  have bOl := FOl.binds (ps := ["box", "line"]) fun _ _ _ _ _ _ us hl => match us, hl with | [_, _], _ => rfl
  have gOl := PySem.W.mg_of KX G aOl
  have bOt := FOt.binds (ps := ["box", "text"]) fun _ _ _ _ _ _ us hl => match us, hl with | [_, _], _ => rfl
  have gOt := PySem.W.mg_of KX G aOt
  have bSh := FSh.binds (ps := ["paper"]) fun _ _ _ _ _ _ us hl => match us, hl with | [_], _ => rfl
  have gSh := PySem.W.mg_of KX G aSh
  have bNl := FNl.binds (ps := ["word", "numbers"]) fun _ _ _ _ _ _ us hl => match us, hl with | [_, _], _ => rfl
  have gNl := PySem.W.mg_of KX G aNl
  have bPp := FPp.binds (ps := ["net", "text"]) fun _ _ _ _ _ _ us hl => match us, hl with | [_, _], _ => rfl
  have gPp := PySem.W.mg_of KX G aPp
  have bPn := FPn.toFun.binds (ps := ["line", "place", "word", "many"]) fun _ _ _ _ _ _ us hl => match us, hl with | [_, _, _, _], _ => rfl
  have gPn := PySem.W.mg_of KX G aPn
  have bIn := FIn.toFun.binds (ps := ["word", "most"]) fun _ _ _ _ _ _ us hl => match us, hl with | [_, _], _ => rfl
  have gIn := PySem.W.mg_of KX G aIn
  have m_len := PySem.W.mg_none_of KX G z_len
  have m_int := PySem.W.mg_none_of KX G z_int
  have m_range := PySem.W.mg_none_of KX G z_range
  have m_tuple := PySem.W.mg_none_of KX G z_tuple
  have m_list := PySem.W.mg_none_of KX G z_list
  have m_min := PySem.W.mg_none_of KX G z_min
  have m_sorted := PySem.W.mg_none_of KX G z_sorted
  have m_all := PySem.W.mg_none_of KX G z_all
  have m_str := PySem.W.mg_none_of KX G z_str
  have m_isinstance := PySem.W.mg_none_of KX G z_isinstance
  have m_repr := PySem.W.mg_none_of KX G z_repr
  have m_ValueError := PySem.W.mg_none_of KX G z_ValueError
  have j_MOST_DIGITS_IN_PAPERS := PySem.W.mg_of KX G i_MOST_DIGITS_IN_PAPERS
  have FI := fun_mk (st := sInit) lI hI kI
  have bI := FI.binds (ps := ["self", "line", "reason"]) fun _ _ _ _ _ _ us hl => match us, hl with | [_, _, _], _ => rfl
  have gCn := PySem.W.mg_of KX G yC
  have BC : BadC K Cn := ⟨⟨⟨_, _, _, _, _, _, _, _, _, _, _, _, _, _, _, o1, o2⟩, o3, o4, o5, o8⟩, o6, o7⟩
  have X : Errs K mg Cn Le := ⟨BC, xc, xf, PySem.W.mg_of KX G yL, gCn, m_ValueError, eX, kC_, kV_⟩
  refine ⟨PySem.W.fnOf "law" "law" (defArgs sLaw) (defBody sLaw) (defScope sLaw) .none kVL dcL pmL anL cdL ctL, [(cPn, PPn), (cIn, PIn)], spLaw K PPn PIn, fun p hp => ?_, fun s v => .of_eq rfl, fun H a ns _ _ hH hS => ⟨a, ns, rfl, hS, hH (cPn, PPn) (by simp), hH (cIn, PIn) (by simp), fun _ => rfl⟩, fun base _ _ hB => ?_⟩
  · simp only [List.mem_cons, List.not_mem_nil, or_false] at hp
    rcases hp with rfl | rfl
    · exact ⟨TPn.2, nPn, TPn.1⟩
    · exact ⟨TIn.2, nIn, TIn.1⟩
  · skip
    have tPn := hB (cPn, PPn) (by simp)
    have tIn := hB (cIn, PIn) (by simp)
    have B : FamB K mg := ⟨m_len, m_int, m_range, m_min, m_sorted, m_list, m_tuple⟩
    have Ont := ok_net (P := l.prog) (w := w) (base := base) B FNt FD bD gD FP bP gP FPa bPa gPa FH bH gH FNm bNm gNm FKp bKp gKp FSo bSo gSo FCg bCg gCg FLi bLi gLi
    have Oan := (ok_any B FAn FD bD gD Ont kNt bNt gNt).imp fun vs H Q E h => any_one h
    have Oin := ok_isNumber (P := l.prog) (w := w) m_len m_all FIn tIn
    have Opn := ok_parsed m_len m_all m_tuple m_int j_MOST_DIGITS_IN_PAPERS FPn tPn Oin kIn bIn gIn FI bI iC tI gCn BC
    have Opp := ok_parse m_len FPp Opn kPn bPn gPn FI bI iC tI gCn BC
    have Oto := ok_told m_isinstance FTo X Opp kPp bPp gPp
    have Orw := ok_row (P := l.prog) (w := w) (base := base) m_len m_int FRw (ok_lawNum m_len FLn) kLn bLn gLn
    have Odu := ok_due m_len m_isinstance m_tuple FDu Orw kRw bRw gRw
    exact ok_law ⟨m_len, m_range, m_tuple, m_repr⟩ FL ⟨ok_digits m_len m_range m_int FDg FC bC gC, kDg, bDg, gDg⟩ ⟨ok_draw m_len m_int FD, kD, bD, gD⟩ ⟨ok_pick m_len m_int FP FD bD gD, kP, bP, gP⟩ ⟨Oan, kAn, bAn, gAn⟩ ⟨ok_words m_str FWd, kWd, bWd, gWd⟩ ⟨ok_shown FSh (ok_numLine m_str FNl) kNl bNl gNl, kSh, bSh, gSh⟩
      ⟨Oto, kTo, bTo, gTo⟩ ⟨ok_O m_len m_int FOt FD bD gD FP bP gP FOl bOl gOl, kOt, bOt, gOt⟩ ⟨Odu, kDu, bDu, gDu⟩
end K35
open PySem PySem.W PyProof.Rows
set_option maxHeartbeats 0 in
theorem PySem.Challenge.cw_truelevels_k35_papers_are_read_holds : PySem.Challenge.rw_truelevels_k35_papers_are_read.Holds := by
  w_on; o_law; k_head; (case hw => w_witness2)
  k_fill
  refine Gx.walkG (l := PySem.Challenge.rw_truelevels_k35_papers_are_read) (n := 63) (k := 16) (x := "script") rfl (by decide) rfl ⟨rfl, by decide, by decide⟩ (fun w h Y => PySem.W.kIn_of Y) ?F
  case F =>
    intro w mg fa h KX G hmg HT
    refine' K35.lawK KX G hmg HT ?aL ?lL ?hL ?kL ?aDg ?lDg ?hDg ?kDg ?aC ?lC ?hC ?kC ?aD ?lD ?hD ?kD ?aP ?lP ?hP ?kP ?aPa ?lPa ?hPa ?kPa ?aH ?lH ?hH ?kH ?aNm ?lNm ?hNm ?kNm ?aKp ?lKp ?hKp ?kKp ?aCg ?lCg ?hCg ?kCg ?aSo ?lSo ?hSo ?kSo ?aLi ?lLi ?hLi ?kLi ?aNt ?lNt ?hNt ?kNt ?aAn ?lAn ?hAn ?kAn ?aWd ?lWd ?hWd ?kWd ?aLn ?lLn ?hLn ?kLn ?aRw ?lRw ?hRw ?kRw ?aDu ?lDu ?hDu ?kDu ?aTo ?lTo ?hTo ?kTo ?aOl ?lOl ?hOl ?kOl ?aOt ?lOt ?hOt ?kOt ?aSh ?lSh ?hSh ?kSh ?aNl ?lNl ?hNl ?kNl ?aPp ?lPp ?hPp ?kPp ?aPn ?lPn ?hPn ?kPn ?qPn ?lcPn ?vPn ?nPn ?aIn ?lIn ?hIn ?kIn ?qIn ?lcIn ?vIn ?nIn ?z_len ?z_int ?z_range ?z_tuple ?z_list ?z_min ?z_sorted ?z_all ?z_str ?z_isinstance ?z_repr ?z_ValueError ?i_MOST_DIGITS_IN_PAPERS ?yC ?yL ?iC ?tI ?lI ?hI ?kI ?o1 ?o2 ?o3 ?o4 ?o5 ?o8 ?o6 ?o7 ?xc ?xf ?eX ?kC_ ?kV_
    (case aL => k_is)
    (case lL => k_is)
    (case hL => k_is)
    (case kL => k_is)
    (case aDg => k_is)
    (case lDg => k_is)
    (case hDg => k_is)
    (case kDg => k_is)
    (case aC => k_is)
    (case lC => k_is)
    (case hC => k_is)
    (case kC => k_is)
    (case aD => k_is)
    (case lD => k_is)
    (case hD => k_is)
    (case kD => k_is)
    (case aP => k_is)
    (case lP => k_is)
    (case hP => k_is)
    (case kP => k_is)
    (case aPa => k_is)
    (case lPa => k_is)
    (case hPa => k_is)
    (case kPa => k_is)
    (case aH => k_is)
    (case lH => k_is)
    (case hH => k_is)
    (case kH => k_is)
    (case aNm => k_is)
    (case lNm => k_is)
    (case hNm => k_is)
    (case kNm => k_is)
    (case aKp => k_is)
    (case lKp => k_is)
    (case hKp => k_is)
    (case kKp => k_is)
    (case aCg => k_is)
    (case lCg => k_is)
    (case hCg => k_is)
    (case kCg => k_is)
    (case aSo => k_is)
    (case lSo => k_is)
    (case hSo => k_is)
    (case kSo => k_is)
    (case aLi => k_is)
    (case lLi => k_is)
    (case hLi => k_is)
    (case kLi => k_is)
    (case aNt => k_is)
    (case lNt => k_is)
    (case hNt => k_is)
    (case kNt => k_is)
    (case aAn => k_is)
    (case lAn => k_is)
    (case hAn => k_is)
    (case kAn => k_is)
    (case aWd => k_is)
    (case lWd => k_is)
    (case hWd => k_is)
    (case kWd => k_is)
    (case aLn => k_is)
    (case lLn => k_is)
    (case hLn => k_is)
    (case kLn => k_is)
    (case aRw => k_is)
    (case lRw => k_is)
    (case hRw => k_is)
    (case kRw => k_is)
    (case aDu => k_is)
    (case lDu => k_is)
    (case hDu => k_is)
    (case kDu => k_is)
    (case aTo => k_is)
    (case lTo => k_is)
    (case hTo => k_is)
    (case kTo => k_is)
    (case aOl => k_is)
    (case lOl => k_is)
    (case hOl => k_is)
    (case kOl => k_is)
    (case aOt => k_is)
    (case lOt => k_is)
    (case hOt => k_is)
    (case kOt => k_is)
    (case aSh => k_is)
    (case lSh => k_is)
    (case hSh => k_is)
    (case kSh => k_is)
    (case aNl => k_is)
    (case lNl => k_is)
    (case hNl => k_is)
    (case kNl => k_is)
    (case aPp => k_is)
    (case lPp => k_is)
    (case hPp => k_is)
    (case kPp => k_is)
    (case aPn => k_is)
    (case lPn => k_is)
    (case hPn => k_is)
    (case kPn => k_is)
    (case qPn => rfl)
    (case lcPn => k_is)
    (case vPn => rfl)
    (case nPn => rfl)
    (case aIn => k_is)
    (case lIn => k_is)
    (case hIn => k_is)
    (case kIn => k_is)
    (case qIn => rfl)
    (case lcIn => k_is)
    (case vIn => rfl)
    (case nIn => rfl)
    (case z_len => k_is)
    (case z_int => k_is)
    (case z_range => k_is)
    (case z_tuple => k_is)
    (case z_list => k_is)
    (case z_min => k_is)
    (case z_sorted => k_is)
    (case z_all => k_is)
    (case z_str => k_is)
    (case z_isinstance => k_is)
    (case z_repr => k_is)
    (case z_ValueError => k_is)
    (case i_MOST_DIGITS_IN_PAPERS => k_is)
    (case yC => k_is)
    (case yL => k_is)
    (case iC => k_is)
    (case tI => k_is)
    (case lI => k_is)
    (case hI => k_is)
    (case kI => k_is)
    (case o1 => k_is)
    (case o2 => decide +kernel)
    (case o3 => k_is)
    (case o4 => k_is)
    (case o5 => k_is)
    (case o8 => k_is)
    (case o6 => k_is)
    (case o7 => k_is)
    (case xc => (constructor <;> k_is))
    (case xf => (constructor <;> k_is))
    (case eX => kts_exm)
    (case kC_ => kit_is)
    (case kV_ => kit_is)
