import PyProof.Rows.All
import Wide.All
import OpenK.AllK
import Wide.FinOn
import PyProof.EqAt
import PyProof.EqKinds
import PyProof.TupleCall
import PyProof.TupleOfGen
import HandS.ForMost
import HandS.GenList
import HandS.AnyAll
import HandS.Exc
import HandS.ExcOwn
import HandS.ExcInit
import HandS.ExcField
import HandS.TryMany
import HandS.TupAny
import HandS.Wide
import HandS.Defaults
import KE.GoesEnum
import HandS.Iter
import HandS.Zip
import HandS.TupMul
import HandS.Text
import HandS.Style
import HandS.IsInst
import KE.KTupSum
import HandS.EndTab
import HandS.Words
import HandS.Head2
import HandS.HeadHook1
import HandS.HeadHook2
import KE.KNestM
import PySem.Challenge.RW_assentwhole_k03_whole_least_common_count
set_option Elab.async false
set_option linter.all false
set_option maxRecDepth 100000
set_option maxHeartbeats 4000000
namespace Gx
open PySem PySem.Spec PyProof.Rows L2 GenW GxR

/-- a consumer of a generator: its own objects, and how they stand when ys are out -/
structure Con where
  C : List Addr
  at_ : List V → List (Addr × Obj) → Prop
  ids : ∀ ys ps, at_ ys ps → ps.map (·.1) = C
  nc : ∀ ys ps, at_ ys ps → ∀ p ∈ ps, ∀ v, p.2.data ≠ .cell v

/-- while the generator sleeps its consumer takes x in; all else is kept -/
structure Slp (k : Con) (ys : List V) (x : V) (s s' : Shared) : Prop where
  os : s'.os = s.os
  bare : AllBare s'.gens
  keep : ∀ b o, b ∉ k.C → s.heap.get? b = some o → s'.heap.get? b = some o
  own : ∃ ps, k.at_ (ys ++ [x]) ps ∧ ∀ p ∈ ps, s'.heap.get? p.1 = some p.2

def GIx (X : Cx) (k : Con) (ip : List (Addr × Obj)) (ys : List V) (σ : L2.St) (H : Hp) (s : Shared) : Prop :=
  ∃ ps, k.at_ ys ps ∧ Inv X (ps ++ ip) σ H s

def ApartX (X : Cx) (k : Con) : Prop := ∀ S ∈ k.C, X.s_0.heap.objs.size ≤ S ∧ S ≠ X.env.locals ∧ ∀ x c, X.env.cells.lookup x = some c → c ≠ S

theorem Con.mem {k : Con} {ys : List V} {ps : List (Addr × Obj)} (h : k.at_ ys ps) {S : Addr} (hS : S ∈ k.C) : ∃ o, (S, o) ∈ ps := by
  rw [← k.ids ys ps h] at hS
  obtain ⟨p, hp, e⟩ := List.mem_map.mp hS
  exact ⟨p.2, by rw [← e]; exact hp⟩
theorem Con.of {k : Con} {ys : List V} {ps : List (Addr × Obj)} (h : k.at_ ys ps) {p : Addr × Obj} (hp : p ∈ ps) : p.1 ∈ k.C := by
  rw [← k.ids ys ps h]
  exact List.mem_map.mpr ⟨p, hp, rfl⟩

theorem GIx.at {X : Cx} {k : Con} {ip : List (Addr × Obj)} {ys : List V} {σ : L2.St} {H : Hp} {s : Shared} (h : GIx X k ip ys σ H s) :
    ∃ ps, k.at_ ys ps ∧ (∀ p ∈ ps, s.heap.get? p.1 = some p.2) ∧ ∀ S ∈ k.C, H S = none ∧ S ≠ X.env.locals ∧ S ∉ X.fs := by
  obtain ⟨ps, ha, I⟩ := h
  refine ⟨ps, ha, fun p hp => (I.pin p (List.mem_append_right _ (List.mem_append_left _ hp))).1, fun S hS => ?_⟩
  obtain ⟨o, ho⟩ := k.mem ha hS
  obtain ⟨_, h2, h3, h4, _⟩ := I.pin (S, o) (List.mem_append_right _ (List.mem_append_left _ ho))
  exact ⟨h2, h3, h4⟩

theorem GIx.woken {X : Cx} {k : Con} {ip : List (Addr × Obj)} {ys : List V} {x : V} {σ : L2.St} {H : Hp} {s s' : Shared} (hpn : ∀ p ∈ X.pn, p.1 ∉ k.C) (hip : ∀ p ∈ ip, p.1 ∉ k.C) (hA : ApartX X k) (h : GIx X k ip ys σ H s) (z : Slp k ys x s s') :
    GIx X k ip (ys ++ [x]) σ H s' := by
  obtain ⟨_, _, _, hC⟩ := h.at
  obtain ⟨ps, ha, I⟩ := h
  have I0 : Inv X ip σ H s := I.pins_of fun p hp => I.pin p (List.mem_append_right _ (List.mem_append_right _ hp))
  have nt : ∀ b u, H b = some u → b ∉ k.C := fun b u q hb => by rw [(hC b hb).1] at q; cases q
  obtain ⟨z1, z2, z3, ps', z4, z5⟩ := z
  obtain ⟨hh, g, d, t, o⟩ := s'
  have ho : o = s.os := z1
  subst ho
  have J : Inv X ip σ H { s with heap := hh, gens := g, drawn := d, toks := t } := by
    refine I0.step (g' := g) (t' := t) (d' := d) (ch := k.C) (fun b hb => ?_)
      (fun b ob _ _ hc q _ => z3 b ob hc q) (fun b ob _ _ hc q _ => ⟨ob.slots, z3 b ob hc q⟩) (fun _ _ _ _ n => n) (fun b ob hc q => ⟨ob, z3 b ob hc q⟩)
      (fun _ _ q => q) (fun _ _ _ q => q) (fun b ps q => ⟨#[], by rw [q]; simp⟩) (fun m hm => ?_) (fun b u q => ?_) z2
    · refine ⟨.inr (hA b hb).1, (hA b hb).2.1, (hA b hb).2.2, fun p hp => ?_⟩
      rcases List.mem_append.mp hp with hp | hp
      · exact fun e => hpn p hp (e ▸ hb)
      · exact fun e => hip p hp (e ▸ hb)
    · obtain ⟨ob, es, ep, ho, r⟩ := hm
      exact ⟨ob, es, ep, z3 _ ob (fun hb => (hA _ hb).2.1 rfl) ho, r⟩
    · refine (I0.hok b u q).stay (fun c v hc y => z3 c v ?_ y) (fun _ y => y) fun _ _ y => y
      rcases hc with y | y
      · rw [y]; exact nt b u q
      · exact nt c _ y
  refine ⟨ps', z4, J.pins_of fun p hp => ?_⟩
  rcases List.mem_append.mp hp with hp | hp
  · obtain ⟨y1, y2, y3⟩ := hC p.1 (k.of z4 hp)
    exact ⟨z5 p hp, y1, y2, y3, k.nc _ _ z4 p hp⟩
  · exact J.pin p (List.mem_append_right _ hp)

/-- the context of a generator expression's block: X where it stands, (s, H) its making, A where it is woken -/
abbrev gcx (X : Cx) (s : Shared) (H : Hp) (cenv : Env) (scope : Scope) (A : Around) (fp : List Addr) (pn : List (Addr × Obj)) : Cx :=
  { X with A := A.deeper cenv, s_0 := s, H_0 := H, env := cenv, outer := X.stack, stack := cenv :: X.stack, ex := fp, fn := fun x => scope.names.lookup x == some .cell, calm := true, pn := pn, xe := fun _ _ => False }

theorem over_compStart {A : Around} {elt : Expr} {gens : List Comprehension} {scope : Scope} {pos : Pos} {it acc : Value} {env : Env} : A.over (.compStart (.GeneratorExp elt gens scope pos) 0 it acc env) [] = A.deeper env := by
  first
    | rfl
    | (obtain ⟨hd, d, fr, gs, u⟩ := A; simp [Around.over, Around.deeper, marksOver, frameCount, unitsOf, envsOf, guardsOf, pushEnvs, pushGuards, Code.envs, Code.env?, Code.isFrame, Code.guards, Code.isGuard, Code.weight, Code.frames, Code.isCreation, Code.isCaller, Code.cUnits])
theorem over_compLoop {A : Around} {elt : Expr} {gens : List Comprehension} {scope : Scope} {pos : Pos} {it acc : Value} {env : Env} : A.over (.compLoop (.GeneratorExp elt gens scope pos) 0 it acc env) [] = A.deeper env := by
  first
    | rfl
    | (obtain ⟨hd, d, fr, gs, u⟩ := A; simp [Around.over, Around.deeper, marksOver, frameCount, unitsOf, envsOf, guardsOf, pushEnvs, pushGuards, Code.envs, Code.env?, Code.isFrame, Code.guards, Code.isGuard, Code.weight, Code.frames, Code.isCreation, Code.isCaller, Code.cUnits])
end Gx
namespace Gx
open PySem PySem.Spec PyProof.Rows L2 GenW GxR
def YX (X : Cx) (k : Con) (cont : V → Bool) (yld : List V → V → Hp → Prop) : Protocol := fun n s₀ v s kap =>
  ∃ ys x ip σ H, n + 1 + ys.length = sizeLine ∧ RelV x v ∧ GIx X k ip ys σ H s ∧ yld ys x H ∧ (cont x = true → ∀ s', Slp k ys x s s' → kap (.send .none) s')
def RX (X : Cx) (k : Con) (fin : List V → Hp → Prop) : GenEnd := fun n s₀ r s => r = .ok .next ∧ ∃ ys ip σ H, n + ys.length = sizeLine ∧ GIx X k ip ys σ H s ∧ fin ys H

theorem gx_loop {X : Cx} {s3 : Shared} {H3 : Hp} {ce : Env} {scope : Scope} {A : Around} {fp : List Addr} {pn : List (Addr × Obj)} {k : Con} {elt tg iter : Expr} {ifs : List Expr} {pos : Pos} {J : It} {it : Addr} {tn : Nat → Heap → Prop}
    {g : TG} {tt : TT} {te : TE} {σ : L2.St} {vs : List Nat} {cont : V → Bool} {fin : List V → Hp → Prop} {yld : List V → V → Hp → Prop} {W : Nat → Nat → List V → Hp → Prop}
    (T : Turn X.prog X.w X.K tg J fp it tn) (hco : ce.scope.isCoroutine = false)
    (pg : PG (gcx X s3 H3 ce scope A fp pn) tg g) (pt : PTs (gcx X s3 H3 ce scope A fp pn) ifs tt) (pe : PE (gcx X s3 H3 ce scope A fp pn) elt te)
    (hpn : ∀ p ∈ pn, p.1 ∉ k.C) (hA : ApartX (gcx X s3 H3 ce scope A fp pn) k) (hfC : ∀ b ∈ fp, b ∉ k.C) (hfpn : ∀ p ∈ pn, ∀ b ∈ fp, p.1 ≠ b)
    (turn : ∀ i m ys H, W i m ys H → (J.stop i H ∧ fin ys H) ∨ (J.go i H ∧ ys.length < sizeLine ∧ ∃ Nx : List V → Hp → Prop, (∀ ys' H', Nx ys' H' → ∃ m', m' < m ∧ W (i + 1) m' ys' H') ∧
      ∀ x H', J.yld i H x H' → g x (wipe σ vs) H' fun σ2 H2 => wipe σ2 vs = wipe σ vs ∧ tt σ2 H2 fun b H3 => if b = true then te σ2 H3 fun y H4 => yld ys y H4 ∧ (cont y = true → Nx (ys ++ [y]) H4) else Nx ys H3)) :
    ∀ (m i n : Nat) (ys : List V) (s₀ s : Shared) (H : Hp), n + ys.length = sizeLine → W i m ys H → GIx (gcx X s3 H3 ce scope A fp pn) k [] ys (wipe σ vs) H s → tn i s.heap → (∀ b ∈ fp, H b = none) →
      Seg (model X.prog X.w) A (RX (gcx X s3 H3 ce scope A fp pn) k fin) (YX (gcx X s3 H3 ce scope A fp pn) k cont yld) n s₀
        (.compLoop (.GeneratorExp elt [⟨tg, iter, ifs, 0⟩] scope pos) 0 (.ref it) .none ce)
        ((model X.prog X.w).den (.compLoop (.GeneratorExp elt [⟨tg, iter, ifs, 0⟩] scope pos) 0 (.ref it) .none ce)) [] s := by
  intro m
  induction m using Nat.strongRecOn with
  | ind m ih =>
    intro i n ys s₀ s H hn hw hI hst hfr
    have stat : ∀ {ps : List (Addr × Obj)} {ys' : List V} {σ' : L2.St} {H' : Hp} {s' : Shared}, k.at_ ys' ps → Inv (gcx X s3 H3 ce scope A fp pn) (ps ++ []) σ' H' s' → (∀ b ∈ fp, H' b = none) → ∀ b ∈ fp, FpOk (gcx X s3 H3 ce scope A fp pn) (ps ++ []) H' b := fun {ps ys' σ' H' s'} ha I' hn' b hb =>
      ⟨hn' b hb, (I'.ok.exf b hb).1, I'.ok.exfs b hb, .inl hb, fun x c e => (I'.ok.exf b hb).2 x c e, fun p hp => by
        rcases List.mem_append.mp hp with hp | hp
        · exact hfpn p hp b hb
        · rw [List.append_nil] at hp
          exact fun e => hfC b hb (e ▸ k.of ha hp)⟩
    show Seg _ A _ _ _ s₀ _ ((compTurn (.GeneratorExp elt [⟨tg, iter, ifs, 0⟩] scope pos) 0 (.ref it) .none ce).onRaise (leaving ce)) [] s
    rw [compTurn_gen, Sem.onRaise_eq_wrap]
    refine seg_bind_wrap (wpAny_standAt ?_)
    obtain ⟨ps, ha, I⟩ := hI
    rcases turn i m ys H hw with ⟨stop, hfin⟩ | ⟨go, hlt, Nx, hNx, step⟩
    · refine seg_bind_wrap ?_
      rw [over_compLoop]
      refine wpAny_mono (T.done (gcx X s3 H3 ce scope A fp pn) rfl rfl rfl rfl i _ s _ H (fun _ _ => False) I (stat ha I hfr) hst stop) (fun r s1 ⟨hr, I1⟩ => ?_) fun _ _ e => e.elim
      subst hr
      exact seg_end (.ok .next) ⟨rfl, ys, [], _, H, hn, ⟨ps, ha, I1⟩, hfin⟩
    · refine seg_bind_wrap ?_
      rw [over_compLoop]
      refine wpAny_mono (T.item (gcx X s3 H3 ce scope A fp pn) rfl rfl rfl rfl i _ s _ H (fun _ _ => False) I (stat ha I hfr) hst go) (fun r s1 ⟨u, hr, h1⟩ => ?_) fun _ _ e => e.elim
      subst hr
      refine seg_bind_wrap ?_
      rw [over_compLoop]
      refine wpAny_mono h1 (fun _ s2 ⟨x, H2, I2, r2, y2, st2, fr2⟩ => ?_) fun _ _ e => e.elim
      have I2' := I2.pinned (stat ha I2 fr2) (T.obj _ _ st2)
      refine seg_bind_wrap ?_
      rw [over_compLoop]
      refine wpAny_mono (pg.run _ s2 _ H2 x u _ I2' r2 (step x H2 y2)) (fun _ s4 ⟨σ4, H4, I4, hw4, q4⟩ => ?_) fun _ _ e => e.elim
      refine seg_bind_wrap ?_
      rw [over_compLoop]
      refine wpAny_mono (pt.run _ s4 σ4 H4 _ I4 q4) (fun b s5 ⟨H5, I5, q5⟩ => ?_) fun _ _ e => e.elim
      have back : ∀ {ys' : List V} {ps' : List (Addr × Obj)} {s' : Shared} {H' : Hp}, k.at_ ys' ps' → Inv (gcx X s3 H3 ce scope A fp pn) (ps' ++ pinsAt fp s2.heap) σ4 H' s' → GIx (gcx X s3 H3 ce scope A fp pn) k [] ys' (wipe σ vs) H' s' ∧ tn (i + 1) s'.heap ∧ ∀ b ∈ fp, H' b = none := fun {ys' ps' s' H'} ha' I' => by
        have pin' : ∀ b ∈ fp, ∀ o, s2.heap.get? b = some o → s'.heap.get? b = some o ∧ H' b = none := fun b hb o e =>
          let z := I'.pin (b, o) (List.mem_append_right _ (List.mem_append_right _ (mem_pinsAt hb e)))
          ⟨z.1, z.2.1⟩
        have hl : (wipe σ vs).length = σ4.length := by rw [← hw4, wipe_length]
        refine ⟨⟨ps', ha', (Inv.weak (I'.pins_of fun p hp => I'.pin p ?_) hl fun j v e => ?_)⟩, T.keep _ _ _ st2 fun b hb o e => (pin' b hb o e).1, fun b hb => ?_⟩
        · rw [List.append_nil] at hp
          exact List.mem_append_right _ (List.mem_append_left _ hp)
        · rw [← hw4] at e
          exact (wipe_some e).1
        · obtain ⟨o, e, _⟩ := T.obj _ _ st2 b hb
          exact (pin' b hb o e).2
      cases b with
      | false =>
        simp only [Bool.false_eq_true, if_false] at q5 ⊢
        obtain ⟨m', hm, w'⟩ := hNx ys H5 q5
        rw [List.append_nil] at I5
        obtain ⟨z1, z2, z3⟩ := back ha I5
        exact seg_again rfl (ih m' hm (i + 1) n ys s₀ s5 H5 hn w' z1 z2 z3)
      | true =>
        simp only [if_true] at q5 ⊢
        have hy : ∀ v, yieldOut ce v = yieldValue v := fun v => by simp only [yieldOut, hco, Bool.false_eq_true, if_false]
        simp only [hy]
        obtain ⟨n, rfl⟩ : ∃ m, n = m + 1 := ⟨n - 1, by omega⟩
        rw [Sem.bind_eq_wrap', Sem.bind_eq_wrap', Sem.wrap_wrap, Sem.wrap_wrap]
        refine seg_wrap ?_
        rw [over_compLoop]
        rw [List.append_nil] at I5
        refine wpAny_mono (pe.run _ s5 σ4 H5 _ I5 q5) (fun z s6 ⟨y, H6, I6, r6, hy6, hN6⟩ => ?_) fun _ _ e => e.elim
        refine seg_at (seg_yield rfl rfl rfl ⟨ys, y, pinsAt fp s2.heap, σ4, H6, by omega, r6, ⟨ps, ha, I6⟩, hy6, fun hc s7 hs => ?_⟩)
        have hip : ∀ p ∈ pinsAt fp s2.heap, p.1 ∉ k.C := fun p hp => hfC _ (of_pinsAt hp).1
        obtain ⟨m', hm, w'⟩ := hNx _ H6 (hN6 hc)
        obtain ⟨ps7, ha7, I7⟩ := GIx.woken hpn hip hA (⟨ps, ha, I6⟩ : GIx (gcx X s3 H3 ce scope A fp pn) k (pinsAt fp s2.heap) ys σ4 H6 s6) hs
        obtain ⟨z1, z2, z3⟩ := back ha7 I7
        exact seg_again rfl (ih m' hm (i + 1) n (ys ++ [y]) s7 s7 H6 (by rw [List.length_append, List.length_singleton]; omega) w' z1 z2 z3)
end Gx
namespace Gx
open PySem PySem.Spec PyProof.Rows L2 GenW GxR
section
variable {X : Cx} {pins : List (Addr × Obj)} {σ : L2.St} {H : Hp} {s : Shared}
/-- the block's frame is new: where it stands -/
theorem gx_inv {scope : Scope} {own : List (Str × Nat)} {fp : List Addr} {code it : Value} {A : Around} {s5 : Shared} (I : Inv X pins σ H s) (ok : BlkOk X.N X.env.scope scope own) (hN : X.N.Nodup) (hfp : ∀ b ∈ fp, FpOk X pins H b ∧ b < s.heap.objs.size)
    (hcell : ∀ y ∈ scope.names, y.2 ≠ .cell) (hh : A.handled = none) (hfr : A.frames = some X.stack)
    (kp : ∀ b o, s.heap.get? b = some o → s5.heap.get? b = some o) (hns : s5.heap.Ns s.heap.objs.size (fun y => if y = ".0" then some it else none)) (hos : s5.os = s.os) (hba : AllBare s5.gens) :
    Inv (gcx X s H (genEnv scope (cloFrom X.env.cells scope.names []) s.heap.objs.size code builtinsNs X.env) scope A fp []) [] (wipe σ (own.map (·.2))) H s5 := by
  have hfree : ∀ y ∈ scope.names, y.2 = .free → ∃ c, X.env.cells.lookup y.1 = some c := fun y hy e => by
    rcases ok.free y hy e with k | k
    · exact I.ok.has _ (.inl k)
    · exact I.ok.has _ (.inr k)
  generalize hcenv : genEnv scope (cloFrom X.env.cells scope.names []) s.heap.objs.size code builtinsNs X.env = cenv
  have hL : cenv.locals = s.heap.objs.size := by rw [← hcenv]; rfl
  have hcl : cenv.cells = cloFrom X.env.cells scope.names [] := by rw [← hcenv]; rfl
  have hsc : cenv.scope = scope := by rw [← hcenv]; rfl
  have cm : ∀ {y c}, cenv.cells.lookup y = some c → X.env.cells.lookup y = some c ∧ c < s.heap.objs.size := fun {y c} hm => by
    rw [hcl] at hm
    rcases cloFrom_mem (PySem.mem_of_lookup hm) with hm | ⟨h1, rfl⟩
    · cases hm
    · obtain ⟨c, hc⟩ := hfree _ h1 rfl
      rw [hc]
      obtain ⟨w, z⟩ := I.cell _ _ hc
      exact ⟨rfl, z.lt⟩
  have look : ∀ {y}, scope.names.lookup y = some .free → ∃ c, cenv.cells.lookup y = some c ∧ X.env.cells.lookup y = some c := fun {y} hl => by
    have hy : (y, NameKind.free) ∈ scope.names := PySem.mem_of_lookup hl
    obtain ⟨c', e'⟩ := mem_lookup (cloFrom_has (cells := X.env.cells) (acc := []) hy)
    rw [← hcl] at e'
    exact ⟨c', e', (cm e').1⟩
  have nocell : ∀ y, scope.names.lookup y ≠ some .cell := fun y e => hcell _ (PySem.mem_of_lookup e) rfl
  have okB : (gcx X s H cenv scope A fp []).Ok := by
    refine ⟨I.ok.mod, by show cenv.scope.kind = _; rw [hsc]; exact ok.kind, by show cenv.globals = _; rw [← hcenv]; exact I.ok.glob, by show cenv.builtins = _; rw [← hcenv]; rfl, by show s.heap.objs.size ≤ cenv.locals; rw [hL]; exact Nat.le_refl _,
      fun y z c e1 e2 => I.ok.inj y z c (cm e1).1 (cm e2).1, fun y hy => ?_, fun y c z e => ?_, fun _ => hh, Around.frames_deeper hfr, .inr ⟨rfl, by show cenv.frame = some cenv.locals; rw [← hcenv]; rfl⟩, fun b hb => ⟨?_, fun y c e z => ?_⟩, I.bs, Nat.le_trans I.ok.bsz I.sz, fun b o e hb => ?_, fun b hb z => ?_, I.stack, I.stkFree⟩
    · show ∃ c, cenv.cells.lookup y = some c
      have hy : cenv.scope.names.lookup y = some .cell ∨ cenv.scope.names.lookup y = some .free := hy
      rw [hsc] at hy
      rcases hy with hy | hy
      · exact absurd hy (nocell y)
      · obtain ⟨c, h1, _⟩ := look hy
        exact ⟨c, h1⟩
    · have z : (scope.names.lookup y == some NameKind.cell) = true := z
      exact absurd (by simpa using z) (nocell y)
    · show b ≠ cenv.locals
      rw [hL]; exact Nat.ne_of_lt (hfp b hb).2
    · exact (hfp b hb).1.2.2.2.2.1 y c (cm e).1 z
    · rcases (hfp b hb).1.2.2.2.1 with z | z
      · exact I.ok.noex b o e z
      · exact absurd (Nat.lt_of_lt_of_le (Heap.lt_size e) (Nat.le_trans I.ok.bsz z)) (Nat.lt_irrefl _)
    · rcases List.mem_cons.mp (I.stkSub b z) with z | z
      · exact (hfp b hb).1.2.1 z
      · exact (hfp b hb).1.2.2.1 z
  refine ⟨okB, hos, hba, Un.kept kp, ⟨_, by show Heap.Ns _ cenv.locals _; rw [hL]; exact hns, fun i y av e1 e2 e3 => ?_⟩, fun y c e => ?_, ?_, fun y c e => ?_, fun p hp => ?_, I.hok.kept kp, by rw [wipe_length]; exact I.len⟩
  · obtain ⟨e2, hne⟩ := wipe_some e2
    have e3 : Vis cenv.scope y := e3
    rw [hsc] at e3
    have no : ∀ k, scope.names.lookup y = some k → ¬ (k = .local ∨ k = .cell) := fun k e hh => by
      rcases ok.own _ (PySem.mem_of_lookup e) hh with e' | e'
      · obtain ⟨p, hp, hpy⟩ := List.mem_map.mp e'
        have e3 := ok.ix p hp
        have : p.1 = y := hpy
        rw [this] at e3
        exact hne (List.mem_map.mpr ⟨p, hp, nodup_ix hN e3 e1⟩)
      · exact e' (List.mem_of_getElem? e1)
    have hfr : scope.names.lookup y = some .free := by
      rcases e3 with e3 | e3 | e3
      · exact absurd (.inl rfl) (no _ e3)
      · exact absurd (.inr rfl) (no _ e3)
      · exact e3
    obtain ⟨m, hn, hl⟩ := I.loc
    have hvis : Vis X.env.scope y := (ok.free _ (PySem.mem_of_lookup hfr) rfl).elim (fun k => .inr (.inl k)) (fun k => .inr (.inr k))
    obtain ⟨w, r, q⟩ := hl i y av e1 e2 hvis
    have hk : cenv.kindOf y = some .free := by show cenv.scope.names.lookup y = _; rw [hsc]; exact hfr
    refine ⟨w, r, .inr ⟨.inr hk, ?_⟩⟩
    obtain ⟨c, h1, h2⟩ := look hfr
    rcases q with ⟨k, _⟩ | ⟨_, c', e', z⟩
    · have k : X.env.scope.names.lookup y = some .local := k
      rcases ok.free _ (PySem.mem_of_lookup hfr) rfl with k' | k' <;> rw [show X.env.scope.names.lookup y = _ from k'] at k <;> cases k
    · rw [h2] at e'; cases e'
      exact ⟨c, h1, z.keeps kp⟩
  · obtain ⟨w, z⟩ := I.cell y c (cm e).1
    exact ⟨w, z.keeps kp⟩
  · show H cenv.locals = none
    rw [hL]; exact I.hok.fresh (Nat.le_refl _)
  · exact I.freeC y c (cm e).1
  · exact absurd (show p ∈ ([] : List (Addr × Obj)) ++ [] from hp) (by simp)

/-- at the end: all that is out -/
def FG (X : Cx) (k : Con) (H : Hp) (s : Shared) (fp : List Addr) (fin : List V → Hp → Prop) (s1 : Shared) : Prop :=
  ∃ H' ys ps, s1.os = s.os ∧ AllBare s1.gens ∧ Un (frs X.stack) fp H H' s.heap s1.heap ∧ HOk X.prog X.w H' s1.heap ∧ (∀ b ∈ k.C, H' b = none) ∧ k.at_ ys ps ∧ (∀ p ∈ ps, s1.heap.get? p.1 = some p.2) ∧ ys.length ≤ sizeLine ∧ fin ys H'
def RG (X : Cx) (k : Con) (H : Hp) (s : Shared) (fp : List Addr) (fin : List V → Hp → Prop) : GenEnd := fun _ _ r s1 =>
  ((r = .ok (.ret .none) ∨ r = .ok .next) ∧ FG X k H s fp fin s1) ∨ ∃ e, r = .error e ∧ False
/-- at an item -/
def YG (X : Cx) (k : Con) (H : Hp) (s : Shared) (fp : List Addr) (cont : V → Bool) (yld : List V → V → Hp → Prop) (a : Addr) (g : Nat) : Protocol := fun n _ v s1 kap =>
  s1.os = s.os ∧ AllBare s1.gens ∧ s1.heap.NoLimit ∧ s1.heap.IsGen a g ∧ ∃ H' ys x ps, Un (frs X.stack) fp H H' s.heap s1.heap ∧ HOk X.prog X.w H' s1.heap ∧ (∀ b ∈ k.C, H' b = none) ∧ k.at_ ys ps ∧ (∀ p ∈ ps, s1.heap.get? p.1 = some p.2) ∧ n + 1 + ys.length = sizeLine ∧ RelV x v ∧ yld ys x H' ∧
    (cont x = true → ∀ s'', Slp k ys x s1 s'' → kap (.send .none) s'')
/-- a generator expression that has not begun -/
def GMx (X : Cx) (kr : Nat) (H : Hp) (s : Shared) (fp : List Addr) (cont : V → Bool) (fin : List V → Hp → Prop) (yld : List V → V → Hp → Prop) (u : Value) (s' : Shared) : Prop :=
  ∃ (a : Addr) (g : Nat) (c : Code), u = .ref a ∧ s.heap.objs.size ≤ a ∧ a < s'.heap.objs.size ∧ s'.heap.IsGen a g ∧ s'.gens[g]? = some (.fresh c) ∧ s'.os = s.os ∧ AllBare s'.gens ∧ s'.heap.NoLimit ∧ (∀ b o, s.heap.get? b = some o → s'.heap.get? b = some o) ∧
    ∀ (A : Around) (k : Con) (s2 : Shared), Room kr A → A.frames = some X.stack → (∀ b ∈ k.C, s'.heap.objs.size ≤ b) → (∀ b o, s'.heap.get? b = some o → s2.heap.get? b = some o) → (∃ ps, k.at_ [] ps ∧ ∀ p ∈ ps, s2.heap.get? p.1 = some p.2) → s2.os = s.os → AllBare s2.gens →
      Seg (model X.prog X.w) A (RG X k H s fp fin) (YG X k H s fp cont yld a g) sizeLine s2 c ((model X.prog X.w).den c) [] s2

theorem gx_start {X : Cx} {ce : Env} {scope : Scope} {A : Around} {fp : List Addr} {elt tg iter : Expr} {ifs : List Expr} {pos : Pos} {J : It} {it : Addr} {tn : Nat → Heap → Prop}
    {R : GenEnd} {Y : Protocol} {n : Nat} {s₀ s : Shared}
    (T : Turn X.prog X.w X.K tg J fp it tn) (st : tn 0 s.heap)
    (loop : Seg (model X.prog X.w) A R Y n s₀
        (.compLoop (.GeneratorExp elt [⟨tg, iter, ifs, 0⟩] scope pos) 0 (.ref it) .none ce)
        ((model X.prog X.w).den (.compLoop (.GeneratorExp elt [⟨tg, iter, ifs, 0⟩] scope pos) 0 (.ref it) .none ce)) [] s) :
    Seg (model X.prog X.w) A R Y n s₀
        (.compStart (.GeneratorExp elt [⟨tg, iter, ifs, 0⟩] scope pos) 0 (.ref it) .none ce)
        ((model X.prog X.w).den (.compStart (.GeneratorExp elt [⟨tg, iter, ifs, 0⟩] scope pos) 0 (.ref it) .none ce)) [] s := by
  show Seg _ A _ _ _ s₀ _ ((compStart (.GeneratorExp elt [⟨tg, iter, ifs, 0⟩] scope pos) 0 (.ref it) .none ce).onRaise (leaving ce)) [] s
  unfold compStart
  rw [Sem.onRaise_eq_wrap]
  show Seg _ A _ _ _ s₀ _ ((ask >>= _).wrap _ _ _ _) [] s
  refine seg_bind_wrap (wpAny_askSetting ?_)
  split
  · exact seg_again rfl loop
  · first
      | exact seg_bind_wrap (wpAny_rule (seg_bind_wrap (wpAny_standAt (seg_bind_wrap (T.self _ 0 s _ _ st (seg_again rfl loop))))))
      | (refine seg_bind_wrap (wpAny_rule ?_); show Seg _ A _ _ _ s₀ _ ((standAt iter.pos >>= _).wrap _ _ _ _) [] s; exact seg_bind_wrap (wpAny_standAt (seg_bind_wrap (T.self _ 0 s _ _ st (seg_again rfl loop)))))
end
end Gx
namespace Gx
open PySem PySem.Spec PyProof.Rows L2 GenW GxR
/-- the reading of a generator expression: P the def's table; fin: at the end, all that is out; yld: at an item; cont: is the consumer to go on behind it -/
def tGx (P : Addr) (wi : TI) (g : TG) (tt : TT) (te : TE) (vs : List Nat) (cont : V → Bool) (σ : L2.St) (H : Hp) (fin : List V → Hp → Prop) (yld : List V → V → Hp → Prop) : Prop :=
  wi σ H fun J H1 => TabG H1 P ∧ ∀ H2, Tabbed P H1 H2 → ∃ W : Nat → Nat → List V → Hp → Prop, (∃ m, W 0 m [] H2) ∧ ∀ i m ys H, W i m ys H →
    (J.stop i H ∧ fin ys H) ∨ (J.go i H ∧ ys.length < sizeLine ∧ ∃ Nx : List V → Hp → Prop, (∀ ys' H', Nx ys' H' → ∃ m', m' < m ∧ W (i + 1) m' ys' H') ∧
      ∀ x H', J.yld i H x H' → g x (wipe σ vs) H' fun σ2 H2 => wipe σ2 vs = wipe σ vs ∧ tt σ2 H2 fun b H3 => if b = true then te σ2 H3 fun y H4 => yld ys y H4 ∧ (cont y = true → Nx (ys ++ [y]) H4) else Nx ys H3)
section
variable {X : Cx} {pins : List (Addr × Obj)} {σ : L2.St} {H : Hp} {s : Shared}
theorem gx_pins {H' : Hp} {ce : Env} {scope : Scope} {A : Around} {fp : List Addr} {pn pins' : List (Addr × Obj)} {s' : Shared} {s3 : Shared} {H3 : Hp}
    (I : Inv (gcx X s3 H3 ce scope A fp []) [] σ H' s') (h : ∀ p ∈ pn ++ pins', s'.heap.get? p.1 = some p.2 ∧ H' p.1 = none ∧ p.1 ≠ ce.locals ∧ p.1 ∉ frs X.stack ∧ ∀ v, p.2.data ≠ .cell v) :
    Inv (gcx X s3 H3 ce scope A fp pn) pins' σ H' s' :=
  ⟨⟨I.ok.mod, I.ok.kind, I.ok.glob, I.ok.blt, I.ok.above, I.ok.inj, I.ok.has, I.ok.cab, I.ok.hd, I.ok.frames, I.ok.stk, I.ok.exf, I.ok.bs, I.ok.bsz, I.ok.noex, I.ok.exfs, I.ok.funs, I.ok.frf⟩, I.os, I.bare, I.base, I.loc, I.cell, I.free, I.freeC, h, I.hok, I.len⟩

theorem gx_make {c P : Addr} {kr : Nat} {elt tg iter : Expr} {ifs : List Expr} {scope : Scope} {own : List (Str × Nat)} {gpos : Pos} {wi : TI} {g : TG} {tt : TT} {te : TE} {cont : V → Bool} {fin : List V → Hp → Prop} {yld : List V → V → Hp → Prop}
    (hroom : X.A.depth < recursionLimit) (TB : TabB X.base X.mg c P) (hcode : X.env.code = .ref c) (hN : X.N.Nodup) (hco : scope.isCoroutine = false) (h0 : scope.names.lookup (".0" : Str) = some NameKind.local) (hcell : ∀ y ∈ scope.names, y.2 ≠ .cell)
    (ok : BlkOk X.N X.env.scope scope own) (hi : PI X tg iter wi)
    (hg : ∀ (s : Shared) (H : Hp) (C : Addr) (cl : List (Str × Addr)) (code : Value) (A : Around) (fp : List Addr) (pn : List (Addr × Obj)), Room kr (A.deeper (genEnv scope cl C code builtinsNs X.env)) → PG (gcx X s H (genEnv scope cl C code builtinsNs X.env) scope A fp pn) tg g)
    (ht : ∀ (s : Shared) (H : Hp) (C : Addr) (cl : List (Str × Addr)) (code : Value) (A : Around) (fp : List Addr) (pn : List (Addr × Obj)), Room kr (A.deeper (genEnv scope cl C code builtinsNs X.env)) → PTs (gcx X s H (genEnv scope cl C code builtinsNs X.env) scope A fp pn) ifs tt)
    (he : ∀ (s : Shared) (H : Hp) (C : Addr) (cl : List (Str × Addr)) (code : Value) (A : Around) (fp : List Addr) (pn : List (Addr × Obj)), Room kr (A.deeper (genEnv scope cl C code builtinsNs X.env)) → PE (gcx X s H (genEnv scope cl C code builtinsNs X.env) scope A fp pn) elt te)
    (hs : ∀ v, genFold iter X.env v = pure v) (I : Inv X pins σ H s) (h : tGx P wi g tt te (own.map (·.2)) cont σ H fin yld) :
    wpAny (model X.prog X.w) X.A (eval (.GeneratorExp elt [⟨tg, iter, ifs, 0⟩] scope gpos) X.env)
      (fun u s' => ∃ H3 s3 fp, Inv X pins σ H3 s3 ∧ (∀ b ∈ fp, FpOk X pins H3 b ∧ b < s3.heap.objs.size) ∧ GMx X (kr + 1) H3 s3 fp cont fin yld u s') X.xe s := by
  have hfree : ∀ y ∈ scope.names, y.2 = .free → ∃ c, X.env.cells.lookup y.1 = some c := fun y hy e => by
    rcases ok.free y hy e with k | k
    · exact I.ok.has _ (.inl k)
    · exact I.ok.has _ (.inr k)
  refine wpAny_GeneratorExp_make hco (closure_ok hfree) hcell h0 ok.kind hroom ?_ hs
  refine thn (hi.run pins s σ H _ I h) fun xv s1 hx => thn hx fun itv s2 h2 => ?_
  obtain ⟨it, fp, tn, J, H2, e, I2, T, st2, f2, ⟨ps, hP, htr⟩, q⟩ := h2
  subst e
  have lim2 := I2.nolimit
  refine ⟨lim2, ?_⟩
  have hPs : s2.heap.get? P = some { cls := .none, data := .fields ps } := I2.hok P _ hP
  have cd : PySem.W.CodeHd s2.heap c P := TB.code.keeps fun b u e => I2.bk b u e
  have sz : ∀ b ∈ fp, b < s2.heap.objs.size := fun b hb => by
    obtain ⟨o, e, _⟩ := T.obj _ _ st2 b hb
    exact Heap.lt_size e
  have nP : ∀ b ∈ fp, b ≠ P := fun b hb e => by
    have := (f2 b hb).1
    rw [e, hP] at this; cases this
  have main : ∀ (code : Value) (h3 : Heap) (tk : Nat) (ps' : Array Value), Heap.ExtBut P s2.heap h3 → s2.heap.objs.size ≤ h3.objs.size → h3.get? P = some { cls := .none, data := .fields ps' } → (∃ more, ps' = ps ++ more) → TriplesOk ps'.toList →
      wpAny (model X.prog X.w) X.A (builtinsFor X.env.globals X.env.builtins) (fun bi s₄ =>
        ∀ h', h'.Ns s₄.heap.objs.size (fun y => if y = ".0" then some (.ref it) else none) → Heap.SameBut s₄.heap.objs.size (s₄.heap.push { cls := .type "frame", data := .dict #[] }) h' →
          ∃ H3 s3 fp, Inv X pins σ H3 s3 ∧ (∀ b ∈ fp, FpOk X pins H3 b ∧ b < s3.heap.objs.size) ∧ GMx X (kr + 1) H3 s3 fp cont fin yld (.ref h'.objs.size) { s₄ with
            gens := s₄.gens.push (.fresh (.compStart (.GeneratorExp elt [⟨tg, iter, ifs, 0⟩] scope gpos) 0 (.ref it) .none (genEnv scope (cloFrom X.env.cells scope.names []) s₄.heap.objs.size code bi X.env))),
            toks := s₄.toks + 1 + 1 + 1,
            heap := h'.push { cls := .type "generator", data := .fields #[.int s₄.gens.size 0, .str "<genexpr>" (s₄.toks + 1), .str (X.env.qual ++ "<genexpr>") (s₄.toks + 1 + 1)] } }) X.xe { s2 with heap := h3, toks := tk } := by
    intro code h3 tk ps' hx hsz hP3 hmore ht3
    obtain ⟨bm, ob, e1, e2, e3, e4, e5, e6, e7, e8⟩ := TB.bm
    have keep3 : ∀ b u, b ≠ P → s2.heap.get? b = some u → h3.get? b = some u := fun b u hb e => hx b u hb e
    refine wpAny_builtinsFor (m := X.mg) (by rw [I2.ok.glob]; exact (I2.mod.glob.keeps I2.bk).extBut hx TB.gP) e1 e2 (keep3 _ _ e4 (I2.bk _ _ e5)) e6 e7 e8 ?_
    obtain ⟨more, em⟩ := hmore
    have I3 : Inv X pins σ (upd H2 P (.tbl (ps ++ more))) { s2 with heap := h3, toks := tk } :=
      inv_tab (more := more) (h' := h3) (g' := s2.gens) (d' := s2.drawn) (t' := tk) I2 hP keep3 (by rw [← em]; exact hP3) I2.bare
    generalize hs4 : ({ s2 with heap := h3, toks := tk } : Shared) = s4 at I3
    have h4 : s4.heap = h3 := by rw [← hs4]
    have g4 : s4.gens = s2.gens := by rw [← hs4]
    intro h' hn' hs'
    have szh : h'.objs.size = s4.heap.objs.size + 1 := by rw [hs'.1, Heap.size_push]
    have kp' : ∀ b o, s4.heap.get? b = some o → h'.get? b = some o := fun b o e => hs'.extBut b o (Nat.ne_of_lt (Heap.lt_size e)) (Heap.get?_push_of_some _ e)
    have f3 : ∀ b ∈ fp, FpOk X pins (upd H2 P (.tbl (ps ++ more))) b ∧ b < s4.heap.objs.size := fun b hb => by
      refine ⟨⟨?_, (f2 b hb).2⟩, ?_⟩
      · rw [upd_ne (nP b hb)]; exact (f2 b hb).1
      · rw [h4]; exact Nat.lt_of_lt_of_le (sz b hb) hsz
    have hT2 : Tabbed P H2 (upd H2 P (.tbl (ps ++ more))) := ⟨⟨ps ++ more, upd_same, by rw [← em]; exact ht3⟩, fun b hb => upd_ne hb⟩
    obtain ⟨W, ⟨m0, w0⟩, turn⟩ := q _ hT2
    generalize upd H2 P (.tbl (ps ++ more)) = H3 at I3 f3 w0
    refine ⟨H3, s4, fp, I3, f3, ?_⟩
    have fin_ : ∀ (go : Obj) (nm qn : Value) (tk2 : Nat), go.cls = .type "generator" → go.data = .fields #[.int s4.gens.size 0, nm, qn] → go.slots = #[] → (∀ h : Heap, (h.push go).get? h.objs.size = some go) →
        GMx X (kr + 1) H3 s4 fp cont fin yld (.ref h'.objs.size) { s4 with gens := s4.gens.push (.fresh (.compStart (.GeneratorExp elt [⟨tg, iter, ifs, 0⟩] scope gpos) 0 (.ref it) .none (genEnv scope (cloFrom X.env.cells scope.names []) s4.heap.objs.size code builtinsNs X.env))), toks := tk2, heap := h'.push go } := by
      intro go nm qn tk2 hgc hgd0 hgs hgp
      have hgen : ∀ h : Heap, h.get? h'.objs.size = some go → h.IsGen h'.objs.size s4.gens.size := fun h e => ⟨go, nm, qn, e, hgc, hgd0, hgs⟩
      have hpushed : (h'.push go).get? h'.objs.size = some go := hgp _
      have lim' : (h'.push go).NoLimit := I3.nolimit.keeps fun b o e => Heap.get?_push_of_some _ (kp' b o e)
      refine ⟨h'.objs.size, s4.gens.size, _, rfl, by rw [szh]; exact Nat.le_succ _, ?_, hgen _ hpushed, Array.getElem?_push_size .., rfl, AllBare.push I3.bare rfl, lim', fun b o e => Heap.get?_push_of_some _ (kp' b o e), ?_⟩
      · show _ < (h'.push go).objs.size
        rw [Heap.size_push]; exact Nat.lt_succ_self _
      intro Aw k s6 hrw hfrw hkC hk6 hps hos6 hba6
      have kp6 : ∀ b o, s4.heap.get? b = some o → s6.heap.get? b = some o := fun b o e => hk6 b o (Heap.get?_push_of_some _ (kp' b o e))
      have hns6 : s6.heap.Ns s4.heap.objs.size (fun y => if y = ".0" then some (.ref it) else none) := hn'.keeps fun b o e => hk6 b o (Heap.get?_push_of_some _ e)
      have I6 := gx_inv (code := code) (A := Aw) I3 ok hN f3 hcell hrw.hd hfrw kp6 hns6 hos6 hba6
      have hkC' : ∀ b ∈ k.C, h'.objs.size < b := fun b hb => by
        have q := hkC b hb
        have q' : (h'.push go).objs.size ≤ b := q
        rw [Heap.size_push] at q'; exact q'
      have young : ∀ b, s4.heap.objs.size < b → H3 b = none ∧ b ≠ s4.heap.objs.size ∧ b ∉ frs X.stack ∧ s4.heap.objs.size ≤ b ∧ ∀ y c, X.env.cells.lookup y = some c → c ≠ b := fun b hb => by
        have hb' : s4.heap.objs.size ≤ b := Nat.le_of_lt hb
        refine ⟨I3.hok.fresh hb', Nat.ne_of_gt hb, fun z => ?_, hb', fun y c e z => ?_⟩
        · rcases List.mem_cons.mp (I3.stkSub b z) with z | z
          · have := I3.lt
            rw [← z] at this
            exact absurd (Nat.lt_trans this hb) (Nat.lt_irrefl _)
          · exact I3.nofs hb' z
        · obtain ⟨v, ob, ho, _⟩ := I3.cell y c e
          have := Heap.lt_size ho
          rw [z] at this
          exact absurd (Nat.lt_trans this hb) (Nat.lt_irrefl _)
      have cellOf : ∀ {y : Str} {c : Addr}, (cloFrom X.env.cells scope.names []).lookup y = some c → X.env.cells.lookup y = some c := fun {y c} hm => by
        rcases cloFrom_mem (PySem.mem_of_lookup hm) with hm | ⟨h1, rfl⟩
        · cases hm
        · obtain ⟨c, hc⟩ := hfree _ h1 rfl
          rw [hc]; rfl
      have hea : s6.heap.get? h'.objs.size = some go := hk6 h'.objs.size go hpushed
      have hgd : ∀ v, go.data ≠ .cell v := fun v q => by rw [hgd0] at q; cases q
      obtain ⟨ps6, ha6, hg6⟩ := hps
      have aLt : s4.heap.objs.size < h'.objs.size := by rw [szh]; exact Nat.lt_succ_self _
      have I7 : Inv (gcx X s4 H3 (genEnv scope (cloFrom X.env.cells scope.names []) s4.heap.objs.size code builtinsNs X.env) scope Aw fp [(h'.objs.size, go)]) (ps6 ++ []) (wipe σ (own.map (·.2))) H3 s6 := by
        refine gx_pins I6 fun p hp => ?_
        rcases List.mem_append.mp hp with hp | hp
        · rw [List.mem_singleton.mp hp]
          obtain ⟨y1, y2, y3, _, _⟩ := young h'.objs.size aLt
          exact ⟨hea, y1, y2, y3, hgd⟩
        · rw [List.append_nil] at hp
          obtain ⟨y1, y2, y3, _, _⟩ := young p.1 (Nat.lt_trans aLt (hkC' p.1 (k.of ha6 hp)))
          exact ⟨hg6 p hp, y1, y2, y3, k.nc _ _ ha6 p hp⟩
      have hG : GIx (gcx X s4 H3 (genEnv scope (cloFrom X.env.cells scope.names []) s4.heap.objs.size code builtinsNs X.env) scope Aw fp [(h'.objs.size, go)]) k [] [] (wipe σ (own.map (·.2))) H3 s6 := ⟨ps6, ha6, I7⟩
      have hA : ApartX (gcx X s4 H3 (genEnv scope (cloFrom X.env.cells scope.names []) s4.heap.objs.size code builtinsNs X.env) scope Aw fp [(h'.objs.size, go)]) k := fun S hS => by
        obtain ⟨_, y2, _, y4, y5⟩ := young S (Nat.lt_trans aLt (hkC' S hS))
        exact ⟨y4, y2, fun x c e => y5 x c (cellOf e)⟩
      have hpn : ∀ p ∈ [(h'.objs.size, go)], p.1 ∉ k.C := fun p hp hz => by
        rw [List.mem_singleton.mp hp] at hz
        exact Nat.lt_irrefl _ (hkC' _ hz)
      have hfC : ∀ b ∈ fp, b ∉ k.C := fun b hb hz => Nat.lt_irrefl _ (Nat.lt_trans (Nat.lt_trans (f3 b hb).2 aLt) (hkC' b hz))
      have hfpn : ∀ p ∈ [(h'.objs.size, go)], ∀ b ∈ fp, p.1 ≠ b := fun p hp b hb e => by
        rw [List.mem_singleton.mp hp] at e
        have := (f3 b hb).2
        rw [← e] at this
        exact Nat.lt_irrefl _ (Nat.lt_trans this aLt)
      have hrd : Room kr (Aw.deeper (genEnv scope (cloFrom X.env.cells scope.names []) s4.heap.objs.size code builtinsNs X.env)) := hrw.deeper _
      have st6 : tn 0 s6.heap := T.keep _ _ _ st2 fun b hb o e => kp6 b o (by rw [h4]; exact keep3 b o (nP b hb) e)
      have pinned : ∀ {ip : List (Addr × Obj)} {ys : List V} {s' : Shared} {σ' : L2.St} {H' : Hp}, GIx (gcx X s4 H3 (genEnv scope (cloFrom X.env.cells scope.names []) s4.heap.objs.size code builtinsNs X.env) scope Aw fp [(h'.objs.size, go)]) k ip ys σ' H' s' → s'.heap.IsGen h'.objs.size s4.gens.size := fun {ip ys s' σ' H'} hI => by
        obtain ⟨_, _, J⟩ := hI
        exact hgen _ (J.pin (h'.objs.size, go) (List.mem_append_left _ (List.mem_singleton.mpr rfl))).1
      have L := gx_loop (elt := elt) (iter := iter) (pos := gpos) (cont := cont) (yld := yld) (fin := fin) (W := W) (σ := σ) (vs := own.map (·.2)) (k := k) T (show scope.isCoroutine = false from hco)
        (hg s4 H3 s4.heap.objs.size (cloFrom X.env.cells scope.names []) code Aw fp [(h'.objs.size, go)] hrd) (ht s4 H3 s4.heap.objs.size (cloFrom X.env.cells scope.names []) code Aw fp [(h'.objs.size, go)] hrd) (he s4 H3 s4.heap.objs.size (cloFrom X.env.cells scope.names []) code Aw fp [(h'.objs.size, go)] hrd)
        hpn hA hfC hfpn turn m0 0 sizeLine [] s6 s6 H3 (Nat.add_zero _) w0 hG st6 (fun b hb => (f3 b hb).1.1)
      refine seg_imp (fun n s₀ r s1' hR => ?_) (fun n s₀ v s1' kap kap' hkk hY => ?_) sizeLine (gx_start T st6 L)
      · obtain ⟨hr, ys, ip, σ', H', hn, hI, hf⟩ := hR
        obtain ⟨psE, haE, hgE, hCE⟩ := hI.at
        obtain ⟨_, _, J⟩ := hI
        exact .inl ⟨.inr hr, H', ys, psE, J.os, J.bare, J.base, J.hok, fun b hb => (hCE b hb).1, haE, hgE, by omega, hf⟩
      · obtain ⟨ys, xx, ip, σ', H', hn, h2, hI, hy, h3⟩ := hY
        obtain ⟨psE, haE, hgE, hCE⟩ := hI.at
        have hg := pinned hI
        obtain ⟨_, _, J⟩ := hI
        exact ⟨J.os, J.bare, J.nolimit, hg, H', ys, xx, psE, J.base, J.hok, fun b hb => (hCE b hb).1, haE, hgE, hn, h2, hy, fun hc s'' z => hkk _ _ (h3 hc s'' z)⟩
    exact fin_ _ _ _ _ rfl rfl rfl fun h => Heap.get?_push_size _ rfl
  cases hf : codeAmong gpos ps.toList with
  | none =>
    refine wpAny_genexprCodeX hcode (cd.code hPs htr) (cd.tab hPs) hf fun c' h' tk hx hge hlt hco' _ htab' _ => ?_
    obtain ⟨o1, vs, f1, tf, fl, tg, inF, tx, tt, op, _, _, _, _, _, _, _, _, _, htr', _⟩ := hco'
    exact main _ h' tk _ hx (Nat.le_trans hge (Nat.le_of_lt hlt)) htab'.2 ⟨_, rfl⟩ htr'
  | some cv =>
    refine wpAny_genexprCode_hit hcode (cd.code hPs htr) hf ?_
    exact main cv s2.heap s2.toks ps (Heap.ExtBut.refl _ _) (Nat.le_refl _) hPs ⟨#[], by simp⟩ htr
end
end Gx
namespace Gx
open PySem PySem.Spec PyProof.Rows L2 GenW GxR
theorem typ_gen {a : Addr} {g : Nat} {s : Shared} (h : s.heap.IsGen a g) : s.TypeIs (.ref a) "generator" := Heap.IsGen.typeIs h
/-- the consumer that fills a list -/
def conL (S : Addr) : Con where
  C := [S]
  at_ ys ps := ∃ acc c, ps = [(S, lstObj acc c)] ∧ Vals ys acc.toList
  ids ys ps h := by obtain ⟨acc, c, rfl, _⟩ := h; rfl
  nc ys ps h p hp v e := by
    obtain ⟨acc, c, rfl, _⟩ := h
    rw [List.mem_singleton.mp hp] at e; cases e

theorem slpL {S : Addr} {ys : List V} {x : V} {v : Value} {s : Shared} {acc : Array Value} {c : Nat} {G : Array GenState} (hS : s.heap.get? S = some (lstObj acc c)) (r : Vals ys acc.toList) (rv : RelV x v) (hG : AllBare G) :
    Slp (conL S) ys x s { s with gens := G, heap := s.heap.update S (Obj.mapSeq (·.push v)) } := by
  obtain ⟨c', e⟩ : ∃ c', (s.heap.update S (Obj.mapSeq (·.push v))).get? S = some (lstObj (acc.push v) c') := ⟨_, Heap.get?_update_self _ hS rfl⟩
  refine ⟨rfl, hG, fun b o hb q => (Heap.get?_update_other _ _ (fun z => hb (by rw [← z]; exact List.mem_singleton.mpr rfl))).trans q, [(S, lstObj (acc.push v) c')], ⟨acc.push v, c', rfl, by rw [Array.toList_push]; exact r.append (.cons rv .nil)⟩, fun p hp => ?_⟩
  rw [List.mem_singleton.mp hp]
  exact e

theorem drainL {X : Cx} {H : Hp} {sc : Shared} {fp : List Addr} {fin : List V → Hp → Prop} {yld : List V → V → Hp → Prop} {A : Around} {R : Result → Shared → Prop} {S a : Addr} {g : Nat} {res : Value}
    (hh : A.handled = none) (hd : A.depth < recursionLimit) (hSa : S ≠ a) (hSc : S ≠ cStatics)
    (hend : ∀ s' acc c H' ys, s'.heap.get? S = some (lstObj acc c) → Vals ys acc.toList → ys.length ≤ sizeLine → s'.os = sc.os → AllBare s'.gens → Un (frs X.stack) fp H H' sc.heap s'.heap → HOk X.prog X.w H' s'.heap → H' S = none → fin ys H' → R (.ok (.ret res)) s') :
    ∀ (m : Nat) (s : Shared), s.heap.IsGen a g → s.heap.NoLimit →
      (∃ gs, s.gens[g]? = some gs ∧ gs.Goes (model X.prog X.w) A.in1.in1 (RG X (conL S) H sc fp fin) (YG X (conL S) H sc fp (fun _ => true) yld a g) m (.send .none) (s.setGen g .running)) →
      codeAny (model X.prog X.w) A (.builtin "list.extend.loop" ⟨[.ref S, .ref a, res], []⟩) R s := by
  intro m
  induction m with
  | zero =>
    intro s hg hl ⟨gs, hgs, hgo⟩
    refine codeAny_builtin F.entry_extend_loop ?_
    rw [Around.under_plainId F.plain_extend_loop _]
    show wpAny _ A.in1 (pyNext (.ref a) >>= _) _ _ s
    refine wpAny_bind (next_genG (A := A.in1) (F := fun _ _ s1 => FG X (conL S) H sc fp fin s1) (Er := fun _ _ => False) hh hl hd hg hgs hgo (fun v s₁ gs' hbare hv => ?_) (fun s₁ hp h' hk => ?_) fun e s₁ he => he.elim)
    · obtain ⟨_, hb1, _, _, H', ys, x, ps, _, _, _, ha, hps, _, rv, _, hk⟩ := hv
      obtain ⟨acc, c, rfl, r⟩ := ha
      have hS1 : s₁.heap.get? S = some (lstObj acc c) := hps (S, lstObj acc c) (List.mem_singleton.mpr rfl)
      exact False.elim (hk rfl _ (slpL (G := s₁.gens) hS1 r rv hb1))
    · obtain ⟨H', ys, ps, os1, hb1, un, hok, hSn, ha, hps, hle, hQ⟩ := hp
      obtain ⟨acc, c, rfl, r⟩ := ha
      exact wpAny_pure (hend _ acc c H' ys (hk _ _ (hps (S, lstObj acc c) (List.mem_singleton.mpr rfl))) r hle os1 (allBare_setGen hb1 rfl) (un.trans (Un.kept hk)) (hok.kept hk) (hSn S (List.mem_singleton.mpr rfl)) hQ)
  | succ m ih =>
    intro s hg hl ⟨gs, hgs, hgo⟩
    have hgl : g < s.gens.size := (Array.getElem?_eq_some_iff.mp hgs).1
    refine codeAny_builtin F.entry_extend_loop ?_
    rw [Around.under_plainId F.plain_extend_loop _]
    show wpAny _ A.in1 (pyNext (.ref a) >>= _) _ _ s
    refine wpAny_bind (wpAny_gsz (n := g + 1) hgl (next_genG (A := A.in1) (F := fun _ _ s1 => FG X (conL S) H sc fp fin s1) (Er := fun _ _ => False) hh hl hd hg hgs hgo (fun v s₁ gs' hbare hv => ?_) (fun s₁ hp h' hk => ?_) fun e s₁ he => he.elim))
    · intro hsz
      obtain ⟨os1, hb1, hl1, hg1, H', ys, x, ps, _, _, _, ha, hps, hn, rv, _, hk⟩ := hv
      obtain ⟨acc, c, rfl, r⟩ := ha
      have hS1 : s₁.heap.get? S = some (lstObj acc c) := hps (S, lstObj acc c) (List.mem_singleton.mpr rfl)
      have hlen := r.length
      have hasz : acc.size = ys.length := by
        have e2 : acc.toList.length = acc.size := by simp
        omega
      have hasz' : acc.size < sizeLine := by omega
      show wpAny _ A.in1 (updateSeq S (·.push v) >>= _) _ _ _
      refine wpAny_bind ?_
      refine wpAny_updateSeq hS1 rfl (wpAny_pure ⟨plainId_quiet F.plain_extend_loop _, ?_⟩) (Nat.le_of_lt hasz') (by show (acc.push v).size ≤ sizeLine + 1; rw [Array.size_push]; omega)
      have keep3 : ∀ b o, b ≠ S → s₁.heap.get? b = some o → (s₁.heap.update S (Obj.mapSeq (·.push v))).get? b = some o := fun b o hbS e => (Heap.get?_update_other _ _ (Ne.symm hbS)).trans e
      have hsz1 : g < s₁.gens.size := by
        have q : (s₁.setGen g gs').gens.size = s₁.gens.size := setGen_size _ _ _
        have hsz' : g + 1 ≤ (s₁.setGen g gs').gens.size := hsz
        omega
      refine ih { s₁.setGen g gs' with heap := s₁.heap.update S (Obj.mapSeq (·.push v)) } ?_ ?_ ⟨gs', setGen_at hsz1, ?_⟩
      · obtain ⟨o, nm, qn, ho, r⟩ := hg1
        exact ⟨o, nm, qn, keep3 a o (Ne.symm hSa) ho, r⟩
      · obtain ⟨mc, hns, hnn⟩ := hl1
        exact ⟨mc, hns.at' fun o e => keep3 _ o (Ne.symm hSc) e, hnn⟩
      · exact hk rfl _ (slpL hS1 r rv (allBare_setGen (s := s₁.setGen g gs') (allBare_setGen hb1 hbare) rfl))
    · intro hsz
      obtain ⟨H', ys, ps, os1, hb1, un, hok, hSn, ha, hps, hle, hQ⟩ := hp
      obtain ⟨acc, c, rfl, r⟩ := ha
      exact wpAny_pure (hend _ acc c H' ys (hk _ _ (hps (S, lstObj acc c) (List.mem_singleton.mpr rfl))) r hle os1 (allBare_setGen hb1 rfl) (un.trans (Un.kept hk)) (hok.kept hk) (hSn S (List.mem_singleton.mpr rfl)) hQ)
end Gx
namespace Gx
open PySem PySem.Spec PyProof.Rows L2 GenW GxR
theorem room_in1 {k : Nat} {A : Around} (h : Room (k + 1) A) : Room k A.in1 := h.in1
theorem frames_in1 {A : Around} {l : List Env} (h : A.frames = some l) : A.in1.frames = some l := h

theorem collect_gx {X : Cx} {kr : Nat} {H : Hp} {sc s : Shared} {fp : List Addr} {fin : List V → Hp → Prop} {yld : List V → V → Hp → Prop} {u : Value} {A : Around} {Q : List Value → Shared → Prop} {E : Value → Shared → Prop}
    (G : GMx X kr H sc fp (fun _ => true) fin yld u s) (hr : Room (kr + 2) A) (hfr : A.frames = some X.stack)
    (hQ : ∀ (s' : Shared) (acc : List Value) (H' : Hp) (ys : List V), Vals ys acc → ys.length ≤ sizeLine → s'.os = sc.os → AllBare s'.gens → Un (frs X.stack) fp H H' sc.heap s'.heap → HOk X.prog X.w H' s'.heap → fin ys H' → Q acc s') :
    wpAny (model X.prog X.w) A (collect u) Q E s := by
  obtain ⟨a, g, c, rfl, ha1, ha2, hg, hgs, hos, hb, hl, hkp, wake⟩ := G
  have hSI : s.heap.objs.size ≠ a := Nat.ne_of_gt ha2
  have hcl : cStatics < s.heap.objs.size := let ⟨_, hn, _⟩ := hl; hn.lt
  have hSc : s.heap.objs.size ≠ cStatics := Nat.ne_of_gt hcl
  unfold collect
  refine wpAny_bind (wpAny_runValue (codeAny_builtin F.entry_proto_collect ?_))
  rw [Around.under_plainId F.plain_proto_collect _]
  show wpAny _ A.in1 (newList [] >>= fun l => again (.builtin "list.__iadd__" ⟨[l, .ref a], []⟩)) _ _ s
  refine wpAny_bind (wpAny_newObj_type ?_)
  refine wpAny_pure ⟨plainId_quiet F.plain_list_iadd _, codeAny_builtin F.entry_list_iadd ?_⟩
  rw [Around.under_plainId F.plain_list_iadd _]
  have k1 : ∀ b o, s.heap.get? b = some o → (s.heap.push { cls := .type "list", data := .seq ([] : List Value).toArray }).get? b = some o := fun b o e => Heap.get?_push_of_some _ e
  have hS₁ : (s.heap.push { cls := .type "list", data := .seq ([] : List Value).toArray }).get? s.heap.objs.size = some { cls := .type "list", data := .seq ([] : List Value).toArray } := Heap.get?_push_size _ rfl
  have up : ∀ (h : Heap) (f : Obj → Obj), (∀ b o, s.heap.get? b = some o → h.get? b = some o) → ∀ b o, s.heap.get? b = some o → (h.update s.heap.objs.size f).get? b = some o := fun h f q b o e =>
    (Heap.get?_update_other _ _ (Ne.symm (Nat.ne_of_lt (Heap.lt_size e)))).trans (q b o e)
  have gty : ∀ {h : Heap}, (∀ b o, s.heap.get? b = some o → h.get? b = some o) → h.IsGen a g := fun {h} q => hg.keeps q
  show wpAny _ A.in1 (Builtin.List.listExtendWith (.ref s.heap.objs.size) (.ref a) (.ref s.heap.objs.size)) _ _ _
  unfold Builtin.List.listExtendWith
  refine wpAny_bind (wpAny_typeOf (Heap.IsGen.typeIs (s := { s with heap := _ }) (gty k1)) ?_)
  have h1 : Builtin.List.listSameRef (.ref s.heap.objs.size) (.ref a) = false := by simp [Builtin.List.listSameRef, hSI]
  have h2 : (Value.type "generator" == Value.type "list") = false := by decide
  have h3 : (Value.type "generator" == Value.type "tuple") = false := by decide
  simp only [h1, h2, h3, Bool.or_false, Bool.false_eq_true, if_false]
  refine wpAny_bind (wpAny_pyIter_gen (s := { s with heap := _ }) (gty k1) ?_)
  refine wpAny_bind (wpAny_holding ?_)
  unfold Builtin.List.listLengthHint
  refine wpAny_bind (wpAny_specialOf (Heap.IsGen.typeIs (s := { s with heap := _ }) (gty k1)) F.gen_no_len ?_)
  show wpAny _ A.in1 (specialOf (Value.ref a) (Str.ofString "__length_hint__") >>= _) _ _ _
  refine wpAny_bind (wpAny_specialOf (Heap.IsGen.typeIs (s := { s with heap := _ }) (gty k1)) F.gen_no_hint ?_)
  refine wpAny_pure ?_
  show wpAny _ A.in1 (rule "list.extend.makes-room" >>= fun _ => Builtin.List.listTouch (.ref s.heap.objs.size) >>= fun _ =>
    again (.builtin "list.extend.loop" ⟨[.ref s.heap.objs.size, .ref a, .ref s.heap.objs.size], []⟩)) _ _ _
  refine wpAny_bind (wpAny_rule ?_)
  refine wpAny_bind ?_
  show wpAny _ A.in1 (updateSeq s.heap.objs.size (·.push .none) >>= fun _ => updateSeq s.heap.objs.size (·.pop)) _ _ _
  refine wpAny_bind (wpAny_updateSeq hS₁ rfl ?_)
  have hS₂ := Heap.get?_update_self (Obj.mapSeq (·.push Value.none)) hS₁ rfl
  refine wpAny_updateSeq (hz := by seq_fits) hS₂ rfl ?_
  have hS₃ := Heap.get?_update_self (Obj.mapSeq (·.pop)) hS₂ rfl
  have k3 := up _ (Obj.mapSeq (·.pop)) (up _ (Obj.mapSeq (·.push Value.none)) k1)
  refine wpAny_pure ⟨plainId_quiet F.plain_extend_loop _, ?_⟩
  refine drainL (X := X) (H := H) (sc := sc) (fp := fp) (fin := fin) (yld := yld) (A := A) (g := g) hr.hd (by have := hr.dp; omega) hSI hSc
    (fun s' acc c H' ys q1 q2 q3 q4 q5 q6 q7 q8 q9 => ?_) sizeLine _ (gty k3) (hl.keeps k3) ⟨_, hgs, rfl, ?_⟩
  · show wpAny _ A (load s.heap.objs.size >>= _) _ _ s'
    refine wpAny_bind (wpAny_load q1 ?_)
    exact wpAny_pure (hQ s' acc.toList H' ys q2 q3 q4 q5 q6 q7 q9)
  · exact wake _ (conL s.heap.objs.size) _ hr.in1.in1 hfr (fun b hb => by rw [List.mem_singleton.mp hb]; exact Nat.le_refl _) k3
      ⟨[(s.heap.objs.size, _)], ⟨_, _, rfl, .nil⟩, fun p hp => by rw [List.mem_singleton.mp hp]; exact hS₃⟩ hos (allBare_setGen (s := { s with heap := _ }) hb rfl)

theorem code_tuple_new_gx {X : Cx} {kr : Nat} {H : Hp} {sc s : Shared} {fp : List Addr} {fin : List V → Hp → Prop} {yld : List V → V → Hp → Prop} {u : Value} {A : Around} {Q₁ : Value → Shared → Prop} {E : Value → Shared → Prop}
    (G : GMx X kr H sc fp (fun _ => true) fin yld u s) (hr : Room (kr + 4) A) (hfr : A.frames = some X.stack)
    (h : ∀ (s' : Shared) (acc : List Value) (H' : Hp) (ys : List V), Vals ys acc → ys.length ≤ sizeLine → s'.os = sc.os → AllBare s'.gens → Un (frs X.stack) fp H H' sc.heap s'.heap → HOk X.prog X.w H' s'.heap → fin ys H' →
      Q₁ (.ref s'.heap.objs.size) { s' with heap := s'.heap.push { cls := .type "tuple", data := .seq acc.toArray } }) :
    codeAny (model X.prog X.w) A (.call (.builtin "tuple.__new__") ⟨[.type "tuple", u], []⟩) (wants Q₁ E) s := by
  obtain ⟨a, g, c, e, ha1, ha2, hg, hgs⟩ := id G
  subst e
  refine codeAny_of_tree ?_
  show wpAny _ A.in1 (do checkBuiltinCall "tuple.__new__" ⟨[.type "tuple", .ref a], []⟩; again (.builtin "tuple.__new__" ⟨[.type "tuple", .ref a], []⟩)) _ _ s
  refine wpAny_bind (wpAny_of_eq (F.newCall_tuple_1 _) (wpAny_pure ⟨plainId_quiet F.plain_tuple_new _, codeAny_builtin F.entry_tuple_new ?_⟩))
  rw [Around.under_plainId F.plain_tuple_new _]
  have hsub := sub_tuple_self
  have hinit := init_tuple_lookup
  have hmh := madeHere_tuple
  have hTI := typ_gen (s := s) hg
  wp_walk using wpAny_typeOf hTI, collect_gx G (A := A.in1) (hr.in1.mono (by omega)) hfr
  intro s' acc H' ys q1 q2 q3 q4 q5 q6 q7
  show wpAny _ _ (Builtin.Tuple.tupleExact acc.toArray >>= fun v => ret v) _ _ _
  unfold Builtin.Tuple.tupleExact
  have hl := q1.length
  refine wpAny_bind (wpAny_newObj_type ?_ (by show acc.toArray.size ≤ sizeLine; rw [List.size_toArray]; omega))
  exact wpAny_pure (h s' acc H' ys q1 q2 q3 q4 q5 q6 q7)
end Gx
namespace Gx
open PySem PySem.Spec PyProof.Rows L2 GenW GxR
theorem call_tuple_gx {X : Cx} {kr : Nat} {H : Hp} {sc s : Shared} {fp : List Addr} {fin : List V → Hp → Prop} {yld : List V → V → Hp → Prop} {u : Value} {A : Around} {Q : Value → Shared → Prop} {E : Value → Shared → Prop}
    (G : GMx X kr H sc fp (fun _ => true) fin yld u s) (hr : Room (kr + 5) A) (hfr : A.frames = some X.stack)
    (h : ∀ (s' : Shared) (acc : List Value) (H' : Hp) (ys : List V), Vals ys acc → ys.length ≤ sizeLine → s'.os = sc.os → AllBare s'.gens → Un (frs X.stack) fp H H' sc.heap s'.heap → HOk X.prog X.w H' s'.heap → fin ys H' →
      Q (.ref s'.heap.objs.size) { s' with heap := s'.heap.push { cls := .type "tuple", data := .seq acc.toArray } }) :
    wpAny (model X.prog X.w) A (call (.type "tuple") [u]) Q E s := by
  obtain ⟨a, g, c, e, _⟩ := id G
  subst e
  refine callType_codes (Q₁ := fun obj s₁ => s₁.TypeIs obj "tuple" ∧ Q obj s₁) F.called_tuple (F.typeCall_tuple_1 _) F.entry_object_init
    (code_tuple_new_gx G hr.in1 hfr fun s' acc H' ys q1 q2 q3 q4 q5 q6 q7 => ⟨⟨_, Heap.get?_push_size _ rfl, rfl⟩, h s' acc H' ys q1 q2 q3 q4 q5 q6 q7⟩) fun obj s₁ h₁ => ?_
  exact ⟨h₁.1, F.args_object_init_2 obj _, object_init_meets F.called_tuple.init.lookup F.called_tuple.made (by decide) X.prog X.w A.in1 _ s₁ ⟨h₁.1, rfl, h₁.2⟩⟩

/-- a reading of a generator expression -/
abbrev TGt := (V → Bool) → L2.St → Hp → (List V → Hp → Prop) → (List V → V → Hp → Prop) → Prop
structure GX (X : Cx) (kr : Nat) (e : Expr) (t : TGt) : Prop where
  run : ∀ (pins : List (Addr × Obj)) (s : Shared) (σ : L2.St) (H : Hp) (cont : V → Bool) (fin : List V → Hp → Prop) (yld : List V → V → Hp → Prop), Inv X pins σ H s → t cont σ H fin yld →
    wpAny (model X.prog X.w) X.A (eval e X.env) (fun u s' => ∃ H3 s3 fp, Inv X pins σ H3 s3 ∧ (∀ b ∈ fp, FpOk X pins H3 b ∧ b < s3.heap.objs.size) ∧ GMx X kr H3 s3 fp cont fin yld u s') X.xe s
section
variable {X : Cx}
theorem gx_ge {c P : Addr} {kr : Nat} {elt tg iter : Expr} {ifs : List Expr} {scope : Scope} {own : List (Str × Nat)} {gpos : Pos} {wi : TI} {g : TG} {tt : TT} {te : TE}
    (hroom : X.A.depth < recursionLimit) (TB : TabB X.base X.mg c P) (hcode : X.env.code = .ref c) (hN : X.N.Nodup) (hco : scope.isCoroutine = false) (h0 : scope.names.lookup (".0" : Str) = some NameKind.local) (hcell : ∀ y ∈ scope.names, y.2 ≠ .cell)
    (ok : BlkOk X.N X.env.scope scope own) (hi : PI X tg iter wi)
    (hg : ∀ (s : Shared) (H : Hp) (C : Addr) (cl : List (Str × Addr)) (code : Value) (A : Around) (fp : List Addr) (pn : List (Addr × Obj)), Room kr (A.deeper (genEnv scope cl C code builtinsNs X.env)) → PG (gcx X s H (genEnv scope cl C code builtinsNs X.env) scope A fp pn) tg g)
    (ht : ∀ (s : Shared) (H : Hp) (C : Addr) (cl : List (Str × Addr)) (code : Value) (A : Around) (fp : List Addr) (pn : List (Addr × Obj)), Room kr (A.deeper (genEnv scope cl C code builtinsNs X.env)) → PTs (gcx X s H (genEnv scope cl C code builtinsNs X.env) scope A fp pn) ifs tt)
    (he : ∀ (s : Shared) (H : Hp) (C : Addr) (cl : List (Str × Addr)) (code : Value) (A : Around) (fp : List Addr) (pn : List (Addr × Obj)), Room kr (A.deeper (genEnv scope cl C code builtinsNs X.env)) → PE (gcx X s H (genEnv scope cl C code builtinsNs X.env) scope A fp pn) elt te)
    (hs : ∀ v, genFold iter X.env v = pure v := by intro _; rfl) :
    GX X (kr + 1) (.GeneratorExp elt [⟨tg, iter, ifs, 0⟩] scope gpos) (fun cont σ H fin yld => tGx P wi g tt te (own.map (·.2)) cont σ H fin yld) :=
  ⟨fun pins s σ H cont fin yld I h => gx_make hroom TB hcode hN hco h0 hcell ok hi hg ht he hs I h⟩

theorem back_gx {pins : List (Addr × Obj)} {σ : L2.St} {H H' : Hp} {s3 s' : Shared} {fp : List Addr} (I : Inv X pins σ H s3) (hf : ∀ b ∈ fp, FpOk X pins H b ∧ b < s3.heap.objs.size) (os : s'.os = s3.os) (hb : AllBare s'.gens) (un : Un (frs X.stack) fp H H' s3.heap s'.heap) (hok : HOk X.prog X.w H' s'.heap) :
    Inv X pins σ H' s' :=
  I.call' (ch := fp) os un hok hb fun b hb => ⟨(hf b hb).1.2.2.2.1, (hf b hb).1.2.1, (hf b hb).1.2.2.2.2.1, (hf b hb).1.2.2.2.2.2⟩

/-- tuple(elt for ..) -/
def tTupG (t : TGt) : TE := fun σ H Q => t (fun _ => true) σ H (fun ys H' => ∀ p, H' p = none → Q (.ref p) (upd H' p (.tup ys))) (fun _ _ _ => True)
theorem pe_tupG {e : Expr} {t : TGt} {kr : Nat} {p pos : Pos} (h : GX X kr e t) (hr : Room (kr + 5) X.A) (hg : Gl X "tuple") (hm : X.mg "tuple" = none)
    (he : starEach [e] X.env = (false, eval e X.env) :: starEach [] X.env := by rfl) : PE X (.Call (.Name "tuple" p) [e] [] pos) (tTupG t) := by
  refine ⟨fun pins s σ H Q I hq => ?_⟩
  refine wpAny_Call_Name_kw (ld_blt I hg hm (show bootBuiltins ("tuple" : Str) = some (.type "tuple") by decide +kernel) ?_)
  refine PyProof.Rows.callWith_type1 ?_ he rfl
  rw [he]
  show wpAny _ _ (spliced ((false, eval e X.env) :: backTo pos (starEach [] X.env))) _ _ s
  refine Calls.spliced_cons (thn (h.run pins s σ H _ _ _ I hq) fun u s1 ⟨H3, s3, fp, I3, hf, hG⟩ => ?_)
  refine Calls.spliced_nil ?_
  refine call_tuple_gx hG hr I3.ok.frames fun s' acc H' ys q1 q2 q3 q4 q5 q6 q7 => ?_
  have I5 := back_gx I3 hf q3 q4 q5 q6
  have hn : H' s'.heap.objs.size = none := I5.hok.fresh (Nat.le_refl _)
  refine ⟨.ref s'.heap.objs.size, upd H' s'.heap.objs.size (.tup ys), I5.laid (t' := s'.toks) (fun b u e => Heap.get?_push_of_some _ e) (Nat.le_refl _) ?_, rfl, q7 _ hn⟩
  exact ⟨q2, acc, q1, ⟨_, Heap.get?_push_size _ rfl, rfl, _, rfl⟩⟩

/-- the consumer without objects -/
def con0 : Con where
  C := []
  at_ _ ps := ps = []
  ids ys ps h := by subst h; rfl
  nc ys ps h p hp := by subst h; cases hp
theorem slp0 {ys : List V} {x : V} {s s' : Shared} (ho : s'.os = s.os) (hb : AllBare s'.gens) (k : ∀ b o, s.heap.get? b = some o → s'.heap.get? b = some o) : Slp con0 ys x s s' :=
  ⟨ho, hb, fun b o _ e => k b o e, [], rfl, fun p hp => by cases hp⟩
theorem un_kept {X : Cx} {fp : List Addr} {H H' : Hp} {h h1 h2 : Heap} (u : Un (frs X.stack) fp H H' h h1) (k : ∀ b o, h1.get? b = some o → h2.get? b = some o) : Un (frs X.stack) fp H H' h h2 := u.trans (Un.kept k)
end
/-- any(..) over a generator expression: stop is the item at which it stops -/
theorem drain_any {X : Cx} {H : Hp} {sc : Shared} {fp : List Addr} {fin : List V → Hp → Prop} {yld : List V → V → Hp → Prop} {A : Around} {R : Result → Shared → Prop} {a : Addr} {g : Nat}
    (hh : A.handled = none) (hd : A.depth < recursionLimit)
    (hy : ∀ ys y H', yld ys y H' → ∃ b, y = .bl b)
    (hend : ∀ s' H' ys, s'.os = sc.os → AllBare s'.gens → Un (frs X.stack) fp H H' sc.heap s'.heap → HOk X.prog X.w H' s'.heap → fin ys H' → R (.ok (.ret (.bool false))) s')
    (hstop : ∀ s' H' ys, s'.os = sc.os → AllBare s'.gens → Un (frs X.stack) fp H H' sc.heap s'.heap → HOk X.prog X.w H' s'.heap → yld ys (.bl true) H' → R (.ok (.ret (.bool true))) s') :
    ∀ (m : Nat) (s : Shared), s.heap.IsGen a g → s.heap.NoLimit →
      (∃ gs, s.gens[g]? = some gs ∧ gs.Goes (model X.prog X.w) A.in1.in1 (RG X con0 H sc fp fin) (YG X con0 H sc fp (fun v => decide (v ≠ .bl true)) yld a g) m (.send .none) (s.setGen g .running)) →
      codeAny (model X.prog X.w) A (.builtin "any.loop" ⟨[.ref a], []⟩) R s := by
  intro m
  induction m with
  | zero =>
    intro s hg hl ⟨gs, hgs, hgo⟩
    refine codeAny_builtin F.entry_any_loop ?_
    rw [Around.under_plainId F.plain_any_loop _]
    show wpAny _ A.in1 (pyNext (.ref a) >>= _) _ _ s
    refine wpAny_bind (next_genG (A := A.in1) (F := fun _ _ s1 => FG X con0 H sc fp fin s1) (Er := fun _ _ => False) hh hl hd hg hgs hgo (fun v s₁ gs' hbare hv => ?_) (fun s₁ hp h' hk => ?_) fun e s₁ he => he.elim)
    · obtain ⟨os1, hb1, _, _, H', ys, x, ps, un, hok, _, ha, hps, _, rv, hyl, hk⟩ := hv
      obtain ⟨b, rfl⟩ := hy _ _ _ hyl
      cases b with
      | false => exact False.elim (hk (by decide) s₁ (slp0 rfl hb1 fun b o e => e))
      | true =>
        obtain rfl : v = Value.bool true := rv
        refine wpAny_bind (wpAny_holding (wpAny_truthy_bool ?_))
        refine wpAny_bind (wpAny_letGo ?_)
        rw [if_pos rfl]
        exact wpAny_bind (wpAny_rule (wpAny_pure (hstop (s₁.setGen g gs') H' ys os1 (allBare_setGen hb1 hbare) un hok hyl)))
    · obtain ⟨H', ys, ps, os1, hb1, un, hok, hSn, ha, hps, hle, hQ⟩ := hp
      exact wpAny_bind (wpAny_rule (wpAny_pure (hend _ H' ys os1 (allBare_setGen hb1 rfl) (un.trans (Un.kept hk)) (hok.kept hk) hQ)))
  | succ m ih =>
    intro s hg hl ⟨gs, hgs, hgo⟩
    have hgl : g < s.gens.size := (Array.getElem?_eq_some_iff.mp hgs).1
    refine codeAny_builtin F.entry_any_loop ?_
    rw [Around.under_plainId F.plain_any_loop _]
    show wpAny _ A.in1 (pyNext (.ref a) >>= _) _ _ s
    refine wpAny_bind (wpAny_gsz (n := g + 1) hgl (next_genG (A := A.in1) (F := fun _ _ s1 => FG X con0 H sc fp fin s1) (Er := fun _ _ => False) hh hl hd hg hgs hgo (fun v s₁ gs' hbare hv => ?_) (fun s₁ hp h' hk => ?_) fun e s₁ he => he.elim))
    · intro hsz
      obtain ⟨os1, hb1, hl1, hg1, H', ys, x, ps, un, hok, _, ha, hps, hn, rv, hyl, hk⟩ := hv
      obtain ⟨b, rfl⟩ := hy _ _ _ hyl
      obtain rfl : v = Value.bool b := rv
      refine wpAny_bind (wpAny_holding (wpAny_truthy_bool ?_))
      refine wpAny_bind (wpAny_letGo ?_)
      cases b with
      | true =>
        rw [if_pos rfl]
        exact wpAny_bind (wpAny_rule (wpAny_pure (hstop (s₁.setGen g gs') H' ys os1 (allBare_setGen hb1 hbare) un hok hyl)))
      | false =>
        rw [if_neg Bool.false_ne_true]
        have hsz1 : g < s₁.gens.size := by
          have q : (s₁.setGen g gs').gens.size = s₁.gens.size := setGen_size _ _ _
          have hsz' : g + 1 ≤ (s₁.setGen g gs').gens.size := hsz
          omega
        refine wpAny_pure ⟨plainId_quiet F.plain_any_loop _, ih (s₁.setGen g gs') hg1 hl1 ⟨gs', setGen_at hsz1, ?_⟩⟩
        exact hk (by decide) _ (slp0 rfl (allBare_setGen (s := s₁.setGen g gs') (allBare_setGen hb1 hbare) rfl) fun b o e => e)
    · intro hsz
      obtain ⟨H', ys, ps, os1, hb1, un, hok, hSn, ha, hps, hle, hQ⟩ := hp
      exact wpAny_bind (wpAny_rule (wpAny_pure (hend _ H' ys os1 (allBare_setGen hb1 rfl) (un.trans (Un.kept hk)) (hok.kept hk) hQ)))
/-- all(..) over a generator expression: stop is the item at which it stops -/
theorem drain_all {X : Cx} {H : Hp} {sc : Shared} {fp : List Addr} {fin : List V → Hp → Prop} {yld : List V → V → Hp → Prop} {A : Around} {R : Result → Shared → Prop} {a : Addr} {g : Nat}
    (hh : A.handled = none) (hd : A.depth < recursionLimit)
    (hy : ∀ ys y H', yld ys y H' → ∃ b, y = .bl b)
    (hend : ∀ s' H' ys, s'.os = sc.os → AllBare s'.gens → Un (frs X.stack) fp H H' sc.heap s'.heap → HOk X.prog X.w H' s'.heap → fin ys H' → R (.ok (.ret (.bool true))) s')
    (hstop : ∀ s' H' ys, s'.os = sc.os → AllBare s'.gens → Un (frs X.stack) fp H H' sc.heap s'.heap → HOk X.prog X.w H' s'.heap → yld ys (.bl false) H' → R (.ok (.ret (.bool false))) s') :
    ∀ (m : Nat) (s : Shared), s.heap.IsGen a g → s.heap.NoLimit →
      (∃ gs, s.gens[g]? = some gs ∧ gs.Goes (model X.prog X.w) A.in1.in1 (RG X con0 H sc fp fin) (YG X con0 H sc fp (fun v => decide (v ≠ .bl false)) yld a g) m (.send .none) (s.setGen g .running)) →
      codeAny (model X.prog X.w) A (.builtin "all.loop" ⟨[.ref a], []⟩) R s := by
  intro m
  induction m with
  | zero =>
    intro s hg hl ⟨gs, hgs, hgo⟩
    refine codeAny_builtin F.entry_all_loop ?_
    rw [Around.under_plainId F.plain_all_loop _]
    show wpAny _ A.in1 (pyNext (.ref a) >>= _) _ _ s
    refine wpAny_bind (next_genG (A := A.in1) (F := fun _ _ s1 => FG X con0 H sc fp fin s1) (Er := fun _ _ => False) hh hl hd hg hgs hgo (fun v s₁ gs' hbare hv => ?_) (fun s₁ hp h' hk => ?_) fun e s₁ he => he.elim)
    · obtain ⟨os1, hb1, _, _, H', ys, x, ps, un, hok, _, ha, hps, _, rv, hyl, hk⟩ := hv
      obtain ⟨b, rfl⟩ := hy _ _ _ hyl
      cases b with
      | true => exact False.elim (hk (by decide) s₁ (slp0 rfl hb1 fun b o e => e))
      | false =>
        obtain rfl : v = Value.bool false := rv
        refine wpAny_bind (wpAny_holding (wpAny_truthy_bool ?_))
        refine wpAny_bind (wpAny_letGo ?_)
        rw [if_neg Bool.false_ne_true]
        exact wpAny_bind (wpAny_rule (wpAny_pure (hstop (s₁.setGen g gs') H' ys os1 (allBare_setGen hb1 hbare) un hok hyl)))
    · obtain ⟨H', ys, ps, os1, hb1, un, hok, hSn, ha, hps, hle, hQ⟩ := hp
      exact wpAny_bind (wpAny_rule (wpAny_pure (hend _ H' ys os1 (allBare_setGen hb1 rfl) (un.trans (Un.kept hk)) (hok.kept hk) hQ)))
  | succ m ih =>
    intro s hg hl ⟨gs, hgs, hgo⟩
    have hgl : g < s.gens.size := (Array.getElem?_eq_some_iff.mp hgs).1
    refine codeAny_builtin F.entry_all_loop ?_
    rw [Around.under_plainId F.plain_all_loop _]
    show wpAny _ A.in1 (pyNext (.ref a) >>= _) _ _ s
    refine wpAny_bind (wpAny_gsz (n := g + 1) hgl (next_genG (A := A.in1) (F := fun _ _ s1 => FG X con0 H sc fp fin s1) (Er := fun _ _ => False) hh hl hd hg hgs hgo (fun v s₁ gs' hbare hv => ?_) (fun s₁ hp h' hk => ?_) fun e s₁ he => he.elim))
    · intro hsz
      obtain ⟨os1, hb1, hl1, hg1, H', ys, x, ps, un, hok, _, ha, hps, hn, rv, hyl, hk⟩ := hv
      obtain ⟨b, rfl⟩ := hy _ _ _ hyl
      obtain rfl : v = Value.bool b := rv
      refine wpAny_bind (wpAny_holding (wpAny_truthy_bool ?_))
      refine wpAny_bind (wpAny_letGo ?_)
      cases b with
      | false =>
        rw [if_neg Bool.false_ne_true]
        exact wpAny_bind (wpAny_rule (wpAny_pure (hstop (s₁.setGen g gs') H' ys os1 (allBare_setGen hb1 hbare) un hok hyl)))
      | true =>
        rw [if_pos rfl]
        have hsz1 : g < s₁.gens.size := by
          have q : (s₁.setGen g gs').gens.size = s₁.gens.size := setGen_size _ _ _
          have hsz' : g + 1 ≤ (s₁.setGen g gs').gens.size := hsz
          omega
        refine wpAny_pure ⟨plainId_quiet F.plain_all_loop _, ih (s₁.setGen g gs') hg1 hl1 ⟨gs', setGen_at hsz1, ?_⟩⟩
        exact hk (by decide) _ (slp0 rfl (allBare_setGen (s := s₁.setGen g gs') (allBare_setGen hb1 hbare) rfl) fun b o e => e)
    · intro hsz
      obtain ⟨H', ys, ps, os1, hb1, un, hok, hSn, ha, hps, hle, hQ⟩ := hp
      exact wpAny_bind (wpAny_rule (wpAny_pure (hend _ H' ys os1 (allBare_setGen hb1 rfl) (un.trans (Un.kept hk)) (hok.kept hk) hQ)))

section
variable {X : Cx}
/-- any(elt for ..) -/
def tAnyG (t : TGt) : TE := fun σ H Q => t (fun v => decide (v ≠ .bl true)) σ H (fun ys H' => Q (.bl false) H') (fun _ y H' => ∃ b, y = .bl b ∧ (b = true → Q (.bl true) H'))
def tAllG (t : TGt) : TE := fun σ H Q => t (fun v => decide (v ≠ .bl false)) σ H (fun ys H' => Q (.bl true) H') (fun _ y H' => ∃ b, y = .bl b ∧ (b = false → Q (.bl false) H'))
theorem pe_anyG {e : Expr} {t : TGt} {kr : Nat} {p pos : Pos} (h : GX X kr e t) (hr : Room (kr + 3) X.A) (hg : Gl X "any") (hm : X.mg "any" = none)
    (he : starEach [e] X.env = (false, eval e X.env) :: starEach [] X.env := by rfl) : PE X (.Call (.Name "any" p) [e] [] pos) (tAnyG t) := by
  refine ⟨fun pins s σ H Q I hq => ?_⟩
  refine wpAny_Call_Name_kw (ld_blt I hg hm (show bootBuiltins ("any" : Str) = some (.builtin "any") by decide +kernel) ?_)
  refine PyProof.Rows.callWith_builtin1 ?_ he (by rfl)
  rw [he]
  show wpAny _ _ (spliced ((false, eval e X.env) :: backTo pos (starEach [] X.env))) _ _ s
  refine Calls.spliced_cons (thn (h.run pins s σ H _ _ _ I hq) fun u s1 ⟨H3, s3, fp, I3, hf, hG⟩ => ?_)
  refine Calls.spliced_nil ?_
  obtain ⟨a, g, c, rfl, ha1, ha2, hgn, hgs, hos, hb, hl, hkp, wake⟩ := hG
  refine call_function_tree F.kind_any F.plain_any F.entry_any (F.args_any1 _) ?_
  unfold Builtin.«any»
  refine wpAny_bind (m := oneArg "any" _) (wpAny_pure ?_)
  refine wpAny_bind (wpAny_pyIter_gen hgn ?_)
  refine wpAny_pure ⟨plainId_quiet F.plain_any_loop _, drain_any (X := X) (H := H3) (sc := s3) (fp := fp) (A := X.A) (g := g) hr.hd (by have := hr.dp; omega) (fun ys y H' (q : ∃ b, y = V.bl b ∧ (b = true → Q (V.bl true) H')) => let ⟨b, e, _⟩ := q; ⟨b, e⟩)
    (fun s' H' ys q1 q2 q3 q4 q5 => ⟨.bl false, H', back_gx I3 hf q1 q2 q3 q4, rfl, q5⟩) (fun s' H' ys q1 q2 q3 q4 q5 => ?_) sizeLine _ hgn hl ⟨_, hgs, rfl, ?_⟩⟩
  · obtain ⟨b, e, q⟩ := q5
    cases e
    exact ⟨.bl true, H', back_gx I3 hf q1 q2 q3 q4, rfl, q rfl⟩
  · exact wake _ con0 _ (hr.in1.in1.mono (by omega)) I3.ok.frames (fun b hb => by cases hb) (fun b o e => e) ⟨[], rfl, fun p hp => by cases hp⟩ hos (allBare_setGen hb rfl)
theorem pe_allG {e : Expr} {t : TGt} {kr : Nat} {p pos : Pos} (h : GX X kr e t) (hr : Room (kr + 3) X.A) (hg : Gl X "all") (hm : X.mg "all" = none)
    (he : starEach [e] X.env = (false, eval e X.env) :: starEach [] X.env := by rfl) : PE X (.Call (.Name "all" p) [e] [] pos) (tAllG t) := by
  refine ⟨fun pins s σ H Q I hq => ?_⟩
  refine wpAny_Call_Name_kw (ld_blt I hg hm (show bootBuiltins ("all" : Str) = some (.builtin "all") by decide +kernel) ?_)
  refine PyProof.Rows.callWith_builtin1 ?_ he (by rfl)
  rw [he]
  show wpAny _ _ (spliced ((false, eval e X.env) :: backTo pos (starEach [] X.env))) _ _ s
  refine Calls.spliced_cons (thn (h.run pins s σ H _ _ _ I hq) fun u s1 ⟨H3, s3, fp, I3, hf, hG⟩ => ?_)
  refine Calls.spliced_nil ?_
  obtain ⟨a, g, c, rfl, ha1, ha2, hgn, hgs, hos, hb, hl, hkp, wake⟩ := hG
  refine call_function_tree F.kind_all F.plain_all F.entry_all (F.args_all1 _) ?_
  unfold Builtin.«all»
  refine wpAny_bind (m := oneArg "all" _) (wpAny_pure ?_)
  refine wpAny_bind (wpAny_pyIter_gen hgn ?_)
  refine wpAny_pure ⟨plainId_quiet F.plain_all_loop _, drain_all (X := X) (H := H3) (sc := s3) (fp := fp) (A := X.A) (g := g) hr.hd (by have := hr.dp; omega) (fun ys y H' (q : ∃ b, y = V.bl b ∧ (b = false → Q (V.bl false) H')) => let ⟨b, e, _⟩ := q; ⟨b, e⟩)
    (fun s' H' ys q1 q2 q3 q4 q5 => ⟨.bl true, H', back_gx I3 hf q1 q2 q3 q4, rfl, q5⟩) (fun s' H' ys q1 q2 q3 q4 q5 => ?_) sizeLine _ hgn hl ⟨_, hgs, rfl, ?_⟩⟩
  · obtain ⟨b, e, q⟩ := q5
    cases e
    exact ⟨.bl false, H', back_gx I3 hf q1 q2 q3 q4, rfl, q rfl⟩
  · exact wake _ con0 _ (hr.in1.in1.mono (by omega)) I3.ok.frames (fun b hb => by cases hb) (fun b o e => e) ⟨[], rfl, fun p hp => by cases hp⟩ hos (allBare_setGen hb rfl)
end
end Gx

set_option Elab.async false
set_option linter.all false
set_option maxRecDepth 100000
set_option maxHeartbeats 4000000
/-! MP1: values by data, the store, what the abstract heap holds of them. -/
namespace MP
open PySem PySem.Spec PyProof.Rows L2 GxR

/-- a list of the written part -/
def KLst (K : PySem.W.Frag) (a : Addr) (xs : List V) : Prop := ∃ (o : Obj) (its : Array Value) (n : Nat), K.lookup a = some o ∧ o.cls = .type "list" ∧ o.dict = none ∧ o.data = .seq its n ∧ its.size ≤ sizeLine ∧ Vals xs its.toList
/-- a value as data: tuples by what they hold; obj n: the n-th object of the store; exc a d c n: an exception that a clause holds, at a, its dict d at place n, of class c; kl: a list of the written part -/
inductive W where
  | non | bl (b : Bool) | int (i : Int) | str (x : Str) | tup (l : List W) | obj (n : Nat) | exc (a d : Addr) (c : Str) (n : Nat) | kl (l : List W)
/-- an object of the store -/
inductive SO where
  | lst (l : List W) | ro (l : List W) | dct (l : List (Key × W)) | xd (fs : List (Str × W))
abbrev Sto := List SO

mutual
inductive VR (K : PySem.W.Frag) (m : List Addr) (H : Hp) : V → W → Prop
  | non : VR K m H .non .non
  | bl (b : Bool) : VR K m H (.bl b) (.bl b)
  | int (i : Int) : VR K m H (.int i) (.int i)
  | str (x : Str) : VR K m H (.str x) (.str x)
  | tup (a : Addr) (xs : List V) (l : List W) : SqT K H a xs → VRs K m H xs l → VR K m H (.ref a) (.tup l)
  | obj (n : Nat) (a : Addr) : m[n]? = some a → VR K m H (.ref a) (.obj n)
  | exc (a d : Addr) (c : Str) (n : Nat) : m[n]? = some d → VR K m H (.ref a) (.exc a d c n)
  | kl (a : Addr) (xs : List V) (l : List W) : KLst K a xs → VRs K m H xs l → VR K m H (.ref a) (.kl l)
inductive VRs (K : PySem.W.Frag) (m : List Addr) (H : Hp) : List V → List W → Prop
  | nil : VRs K m H [] []
  | cons (v : V) (w : W) (vs : List V) (ws : List W) : VR K m H v w → VRs K m H vs ws → VRs K m H (v :: vs) (w :: ws)
end

/-- H', m' hold all of H, m -/
def Xt (K : PySem.W.Frag) (m : List Addr) (H : Hp) (m' : List Addr) (H' : Hp) : Prop := (∃ k, m' = m ++ k) ∧ ∀ a xs, Rd H a (.tup xs) → Rd H' a (.tup xs)
section
variable {K : PySem.W.Frag} {m m' m'' : List Addr} {H H' H'' : Hp}
theorem Xt.refl : Xt K m H m H := ⟨⟨[], by simp⟩, fun _ _ h => h⟩
theorem Xt.trans (a : Xt K m H m' H') (b : Xt K m' H' m'' H'') : Xt K m H m'' H'' := by
  obtain ⟨⟨k, rfl⟩, h1⟩ := a
  obtain ⟨⟨j, rfl⟩, h2⟩ := b
  exact ⟨⟨k ++ j, by simp⟩, fun a xs h => h2 a xs (h1 a xs h)⟩
theorem Xt.sqT (a : Xt K m H m' H') {p : Addr} {xs : List V} (h : SqT K H p xs) : SqT K H' p xs := by
  rcases h with h | h
  · exact .inl (a.2 _ _ h)
  · exact .inr h
theorem Xt.get (a : Xt K m H m' H') {n : Nat} {p : Addr} (h : m[n]? = some p) : m'[n]? = some p := by
  obtain ⟨⟨k, rfl⟩, _⟩ := a
  rw [List.getElem?_append_left (List.getElem?_eq_some_iff.mp h).1]
  exact h
mutual
theorem VR.mono (e : Xt K m H m' H') {v : V} {w : W} : VR K m H v w → VR K m' H' v w
  | .non => .non
  | .bl b => .bl b
  | .int i => .int i
  | .str x => .str x
  | .tup a xs l h hs => .tup a xs l (e.sqT h) (VRs.mono e hs)
  | .obj n a h => .obj n a (e.get h)
  | .exc a d c n h => .exc a d c n (e.get h)
  | .kl a xs l h hs => .kl a xs l h (VRs.mono e hs)
theorem VRs.mono (e : Xt K m H m' H') {vs : List V} {ws : List W} : VRs K m H vs ws → VRs K m' H' vs ws
  | .nil => .nil
  | .cons v w vs ws h hs => .cons v w vs ws (VR.mono e h) (VRs.mono e hs)
end
theorem VRs.length : ∀ {vs : List V} {ws : List W}, VRs K m H vs ws → vs.length = ws.length
  | _, _, .nil => rfl
  | _, _, .cons _ _ _ _ _ hs => by rw [List.length_cons, List.length_cons, VRs.length hs]
theorem VRs.get : ∀ {vs : List V} {ws : List W} {i : Nat} {w : W}, VRs K m H vs ws → ws[i]? = some w → ∃ v, vs[i]? = some v ∧ VR K m H v w
  | _, _, i, w, .nil, h => by simp at h
  | _, _, 0, w, .cons v _ _ _ h _, e => by simp at e; subst e; exact ⟨v, rfl, h⟩
  | _, _, i + 1, w, .cons _ _ _ _ _ hs, e => by
    obtain ⟨v, h1, h2⟩ := VRs.get (i := i) (w := w) hs (by simpa using e)
    exact ⟨v, by simpa using h1, h2⟩
theorem VRs.get' : ∀ {vs : List V} {ws : List W} {i : Nat} {v : V}, VRs K m H vs ws → vs[i]? = some v → ∃ w, ws[i]? = some w ∧ VR K m H v w
  | _, _, i, w, .nil, h => by simp at h
  | _, _, 0, w, .cons _ x _ _ h _, e => by simp at e; subst e; exact ⟨x, rfl, h⟩
  | _, _, i + 1, w, .cons _ _ _ _ _ hs, e => by
    obtain ⟨v, h1, h2⟩ := VRs.get' (i := i) (v := w) hs (by simpa using e)
    exact ⟨v, by simpa using h1, h2⟩
theorem VRs.app : ∀ {vs us : List V} {ws zs : List W}, VRs K m H vs ws → VRs K m H us zs → VRs K m H (vs ++ us) (ws ++ zs)
  | _, _, _, _, .nil, g => g
  | _, _, _, _, .cons v w vs ws h hs, g => .cons v w _ _ h (VRs.app hs g)
theorem VRs.take : ∀ {vs : List V} {ws : List W} (n : Nat), VRs K m H vs ws → VRs K m H (vs.take n) (ws.take n)
  | _, _, 0, _ => by simp only [List.take_zero]; exact .nil
  | _, _, n + 1, .nil => .nil
  | _, _, n + 1, .cons v w vs ws h hs => .cons v w _ _ h (VRs.take n hs)
theorem VRs.drop : ∀ {vs : List V} {ws : List W} (n : Nat), VRs K m H vs ws → VRs K m H (vs.drop n) (ws.drop n)
  | _, _, 0, h => h
  | _, _, n + 1, .nil => .nil
  | _, _, n + 1, .cons v w vs ws h hs => VRs.drop n hs
theorem VRs.one {v : V} {w : W} (h : VR K m H v w) : VRs K m H [v] [w] := .cons _ _ _ _ h .nil
theorem VRs.set : ∀ {vs : List V} {ws : List W} (i : Nat) {v : V} {w : W}, VRs K m H vs ws → VR K m H v w → VRs K m H (vs.set i v) (ws.set i w)
  | _, _, _, _, _, .nil, _ => .nil
  | _, _, 0, v, w, .cons _ _ vs ws _ hs, g => .cons v w _ _ g hs
  | _, _, i + 1, v, w, .cons v' w' _ _ h hs, g => .cons v' w' _ _ h (VRs.set i hs g)
theorem VRs.rev {vs : List V} {ws : List W} (h : VRs K m H vs ws) : VRs K m H vs.reverse ws.reverse := by
  have go : ∀ {vs : List V} {ws : List W}, VRs K m H vs ws → VRs K m H vs.reverse ws.reverse := by
    intro vs
    induction vs with
    | nil => intro ws h; cases h; exact .nil
    | cons v vs ih => intro ws h; cases h with
      | cons _ w _ ws h hs => rw [List.reverse_cons, List.reverse_cons]; exact (ih hs).app (.one h)
  exact go h
end

/-- fields -/
def FR (K : PySem.W.Frag) (m : List Addr) (H : Hp) (fs : List (Str × V)) (gs : List (Str × W)) : Prop := ∀ f w, gs.lookup f = some w → ∃ v, fs.lookup f = some v ∧ VR K m H v w
/-- pairs of a dict -/
def KR (K : PySem.W.Frag) (m : List Addr) (H : Hp) (l : List (Key × V)) (g : List (Key × W)) : Prop := l.map (·.1) = g.map (·.1) ∧ VRs K m H (l.map (·.2)) (g.map (·.2))
def OR (K : PySem.W.Frag) (m : List Addr) (H : Hp) (a : Addr) : SO → Prop
  | .lst l => ∃ xs, H a = some (.lst xs) ∧ VRs K m H xs l
  | .ro l => ∃ xs, Rd H a (.lst xs) ∧ VRs K m H xs l
  | .dct l => ∃ kvs, H a = some (.dK kvs) ∧ KR K m H kvs l
  | .xd gs => ∃ fs, H a = some (.xd fs) ∧ FR K m H fs gs
/-- the store is held; T: the tables of code objects -/
structure Rel (K : PySem.W.Frag) (T : List Addr) (m : List Addr) (H : Hp) (S : Sto) : Prop where
  len : m.length = S.length
  nd : m.Nodup
  obj : ∀ (n : Nat) (o : SO), S[n]? = some o → ∃ a, m[n]? = some a ∧ OR K m H a o
  tab : ∀ P ∈ T, TabG H P
abbrev En := List (Option W)
structure EnvR (K : PySem.W.Frag) (L : Nat) (m : List Addr) (H : Hp) (σ : L2.St) (ρ : En) : Prop where
  len : σ.length = L
  len' : ρ.length = L
  get : ∀ (i : Nat) (w : W), ρ[i]? = some (some w) → ∃ v, σ[i]? = some (some v) ∧ VR K m H v w

section
variable {K : PySem.W.Frag} {T : List Addr} {m m' : List Addr} {H H' : Hp} {S : Sto} {σ : L2.St} {ρ : En} {L : Nat}
theorem EnvR.mono (e : Xt K m H m' H') (h : EnvR K L m H σ ρ)   : EnvR K L m' H' σ ρ := ⟨h.len, h.len', fun i w q => let ⟨v, h1, h2⟩ := h.get i w q; ⟨v, h1, h2.mono e⟩⟩
theorem EnvR.set {i : Nat} {v : V} {w : W} (h : EnvR K L m H σ ρ) (r : VR K m H v w) : EnvR K L m H (σ.set i (some v)) (ρ.set i (some w)) := by
  refine ⟨by simpa using h.len, by simpa using h.len', fun j u q => ?_⟩
  by_cases e : j = i
  · subst e
    have hlt : j < (ρ.set j (some w)).length := (List.getElem?_eq_some_iff.mp q).1
    rw [List.length_set] at hlt
    rw [List.getElem?_set_self hlt] at q
    cases q
    exact ⟨v, List.getElem?_set_self (by rw [h.len, ← h.len']; exact hlt), r⟩
  · rw [List.getElem?_set_ne (Ne.symm e)] at q ⊢
    exact h.get j u q
theorem EnvR.unset {i : Nat} (h : EnvR K L m H σ ρ) : EnvR K L m H (σ.set i none) (ρ.set i none) := by
  refine ⟨by simpa using h.len, by simpa using h.len', fun j u q => ?_⟩
  by_cases e : j = i
  · subst e
    have hlt : j < (ρ.set j none).length := (List.getElem?_eq_some_iff.mp q).1
    rw [List.length_set] at hlt
    rw [List.getElem?_set_self hlt] at q
    cases q
  · rw [List.getElem?_set_ne (Ne.symm e)] at q ⊢
    exact h.get j u q
/-- the slots of a block's own names forgotten -/
def wipeW (ρ : En) : List Nat → En
  | [] => ρ
  | v :: vs => (wipeW ρ vs).set v none
theorem EnvR.wipe (h : EnvR K L m H σ ρ) : ∀ vs : List Nat, EnvR K L m H (wipe σ vs) (wipeW ρ vs)
  | [] => h
  | v :: vs => (EnvR.wipe h vs).unset

theorem OR.mono {a : Addr} {o : SO} (h : OR K m H a o) (e : Xt K m H m' H') (ha : ∀ u, H a = some u → H' a = some u) : OR K m' H' a o := by
  cases o with
  | lst l => obtain ⟨xs, h1, h2⟩ := h; exact ⟨xs, ha _ h1, h2.mono e⟩
  | ro l =>
    obtain ⟨xs, h1, h2⟩ := h
    refine ⟨xs, ?_, h2.mono e⟩
    rcases h1 with h1 | ⟨o, h1⟩
    · exact .inl (ha _ h1)
    · exact .inr ⟨o, ha _ h1⟩
  | dct l => obtain ⟨xs, h1, h2⟩ := h; exact ⟨xs, ha _ h1, h2.1, h2.2.mono e⟩
  | xd l => obtain ⟨xs, h1, h2⟩ := h; exact ⟨xs, ha _ h1, fun f w q => let ⟨v, a, b⟩ := h2 f w q; ⟨v, a, b.mono e⟩⟩
theorem rd_new {p : Addr} {u : HO} (hp : H p = none) {a : Addr} {o : HO} (h : Rd H a o) : Rd (upd H p u) a o := by
  rcases h with h | ⟨ob, h⟩
  · exact .inl (by rw [upd_ne (ne_of_none h hp)]; exact h)
  · exact .inr ⟨ob, by rw [upd_ne (ne_of_none h hp)]; exact h⟩
theorem xt_new {p : Addr} {u : HO} {k : List Addr} (hp : H p = none) : Xt K m H (m ++ k) (upd H p u) := ⟨⟨k, rfl⟩, fun _ _ h => rd_new hp h⟩
theorem xt_new0 {p : Addr} {u : HO} (hp : H p = none) : Xt K m H m (upd H p u) := ⟨⟨[], by simp⟩, fun _ _ h => rd_new hp h⟩
theorem tab_new {p P : Addr} {u : HO} (hp : H p = none) (h : TabG H P) : TabG (upd H p u) P := by
  obtain ⟨ps, h1, h2⟩ := h
  exact ⟨ps, by rw [upd_ne (ne_of_none h1 hp)]; exact h1, h2⟩
theorem upd_keep {p : Addr} {u : HO} (hp : H p = none) : ∀ {a : Addr} {o : HO}, H a = some o → upd H p u a = some o := fun {a o} h => by rw [upd_ne (ne_of_none h hp)]; exact h
/-- something new that is none of the store's -/
theorem Rel.new0 {p : Addr} {u : HO} (R : Rel K T m H S) (hp : H p = none) : Rel K T m (upd H p u) S :=
  ⟨R.len, R.nd, fun n o h => let ⟨a, h1, h2⟩ := R.obj n o h; ⟨a, h1, h2.mono (xt_new0 hp) fun _ q => upd_keep hp q⟩, fun P hP => tab_new hp (R.tab P hP)⟩
/-- what the store's addresses hold -/
theorem Rel.fresh {p : Addr} {S : Sto} (R : Rel K T m H S) (hp : H p = none) : p ∉ m := fun hm => by
  obtain ⟨n, hn⟩ := List.mem_iff_getElem?.mp hm
  have hlt : n < S.length := by rw [← R.len]; exact (List.getElem?_eq_some_iff.mp hn).1
  obtain ⟨a, h1, h2⟩ := R.obj n S[n] (List.getElem?_eq_getElem hlt)
  rw [hn] at h1
  cases h1
  cases e : S[n] with
  | lst l => rw [e] at h2; obtain ⟨xs, q, _⟩ := h2; rw [hp] at q; cases q
  | dct l => rw [e] at h2; obtain ⟨xs, q, _⟩ := h2; rw [hp] at q; cases q
  | xd l => rw [e] at h2; obtain ⟨xs, q, _⟩ := h2; rw [hp] at q; cases q
  | ro l =>
    rw [e] at h2
    obtain ⟨xs, q | ⟨o, q⟩, _⟩ := h2
    · rw [hp] at q; cases q
    · rw [hp] at q; cases q
/-- a new object of the store -/
theorem Rel.new {p : Addr} {u : HO} {o : SO} (R : Rel K T m H S) (hp : H p = none) (ho : OR K (m ++ [p]) (upd H p u) p o) : Rel K T (m ++ [p]) (upd H p u) (S ++ [o]) := by
  have e : Xt K m H (m ++ [p]) (upd H p u) := xt_new hp
  refine ⟨by simp [R.len], ?_, fun n o' h => ?_, fun P hP => tab_new hp (R.tab P hP)⟩
  · rw [List.nodup_append]
    exact ⟨R.nd, by simp, fun a ha b hb => by rw [List.mem_singleton.mp hb]; exact fun z => R.fresh hp (z ▸ ha)⟩
  · by_cases hn : n < S.length
    · rw [List.getElem?_append_left hn] at h
      obtain ⟨a, h1, h2⟩ := R.obj n o' h
      exact ⟨a, e.get h1, h2.mono e fun _ q => upd_keep hp q⟩
    · rw [List.getElem?_append_right (by omega)] at h
      have hz : n - S.length = 0 := by
        have := (List.getElem?_eq_some_iff.mp h).1
        simp at this
        omega
      rw [hz] at h
      have h' : o = o' := by simpa using h
      subst h'
      have hn' : n = m.length := by rw [R.len]; omega
      exact ⟨p, by rw [hn', List.getElem?_append_right (Nat.le_refl _)]; simp, ho⟩
/-- an object of the store is changed -/
theorem xt_put {a : Addr} {o u : HO} (ha : H a = some o) (ho : ∀ xs, o ≠ .tup xs) (hf : ∀ ob xs, o ≠ .frz ob (.tup xs)) : Xt K m H m (upd H a u) := by
  refine ⟨⟨[], by simp⟩, fun b xs h => ?_⟩
  rcases h with h | ⟨ob, h⟩
  · refine .inl ?_
    rw [upd_ne (fun z => ho xs (Option.some.inj (by rw [← ha, ← z]; exact h)))]
    exact h
  · refine .inr ⟨ob, ?_⟩
    rw [upd_ne (fun z => hf ob xs (Option.some.inj (by rw [← ha, ← z]; exact h)))]
    exact h
theorem Rel.put {a : Addr} {n : Nat} {o u : HO} {so : SO} (R : Rel K T m H S) (hn : m[n]? = some a) (ha : H a = some o) (ho : ∀ xs, o ≠ .tup xs) (hf : ∀ ob xs, o ≠ .frz ob (.tup xs)) (ht : ∀ ps, o ≠ .tbl ps) (new : OR K m (upd H a u) a so) :
    Rel K T m (upd H a u) (S.set n so) := by
  have e : Xt K m H m (upd H a u) := xt_put ha ho hf
  refine ⟨by simp [R.len], R.nd, fun i o' h => ?_, fun P hP => ?_⟩
  · by_cases hi : i = n
    · subst hi
      have hlt : i < (S.set i so).length := (List.getElem?_eq_some_iff.mp h).1
      rw [List.length_set] at hlt
      rw [List.getElem?_set_self hlt] at h
      cases h
      exact ⟨a, hn, new⟩
    · rw [List.getElem?_set_ne (Ne.symm hi)] at h
      obtain ⟨b, h1, h2⟩ := R.obj i o' h
      have hb : b ≠ a := fun z => by
        subst z
        obtain ⟨l1, e1⟩ := List.getElem?_eq_some_iff.mp h1
        obtain ⟨l2, e2⟩ := List.getElem?_eq_some_iff.mp hn
        exact hi ((List.getElem_inj R.nd).mp (e1.trans e2.symm))
      exact ⟨b, h1, h2.mono e fun _ q => by rw [upd_ne hb]; exact q⟩
  · obtain ⟨ps, h1, h2⟩ := R.tab P hP
    refine ⟨ps, ?_, h2⟩
    rw [upd_ne (fun z => ht ps (Option.some.inj (by rw [← ha, ← z]; exact h1)))]
    exact h1
/-- a table has grown -/
theorem xt_tab {P : Addr} (h : TabG H P) (hT : Tabbed P H H') : Xt K m H m H' := by
  obtain ⟨ps, h1, h2⟩ := h
  refine ⟨⟨[], by simp⟩, fun b xs q => ?_⟩
  rcases q with q | ⟨ob, q⟩
  · exact .inl (by rw [hT.2 b (fun z => by rw [z, h1] at q; cases q)]; exact q)
  · exact .inr ⟨ob, by rw [hT.2 b (fun z => by rw [z, h1] at q; cases q)]; exact q⟩
theorem Rel.tabbed {P : Addr} (R : Rel K T m H S) (h : TabG H P) (hT : Tabbed P H H') : Rel K T m H' S := by
  have e : Xt K m H m H' := xt_tab h hT
  obtain ⟨ps, h1, h2⟩ := h
  refine ⟨R.len, R.nd, fun n o q => ?_, fun Q hQ => ?_⟩
  · obtain ⟨a, q1, q2⟩ := R.obj n o q
    by_cases ha : a = P
    · subst ha
      cases o with
      | lst l => obtain ⟨xs, z, _⟩ := q2; rw [h1] at z; cases z
      | dct l => obtain ⟨xs, z, _⟩ := q2; rw [h1] at z; cases z
      | xd l => obtain ⟨xs, z, _⟩ := q2; rw [h1] at z; cases z
      | ro l =>
        obtain ⟨xs, z | ⟨_, z⟩, _⟩ := q2
        · rw [h1] at z; cases z
        · rw [h1] at z; cases z
    · exact ⟨a, q1, q2.mono e fun _ z => by rw [hT.2 a ha]; exact z⟩
  · by_cases hq : Q = P
    · rw [hq]; exact hT.1
    · obtain ⟨ps', z1, z2⟩ := R.tab Q hQ
      exact ⟨ps', by rw [hT.2 Q hq]; exact z1, z2⟩
theorem Rel.nil (h : ∀ P ∈ T, TabG H P) : Rel K T [] H [] := ⟨rfl, List.nodup_nil, fun n o q => by simp at q, h⟩
end
end MP

set_option Elab.async false
set_option linter.all false
set_option maxRecDepth 100000
set_option maxHeartbeats 4000000
/-! MP2: what an expression means: a function of the names' values and the store; the rules. -/
namespace MP
open PySem PySem.Spec PyProof.Rows L2 GxR Gx

/-- an outcome: stuck (nothing is said), a value, an exception (its class's name, the place of its fields in the store) -/
inductive R (α : Type) where
  | stuck | ok (a : α) (S : Sto) | exn (c : Str) (n : Nat) (S : Sto)
abbrev M (α : Type) := Sto → R α
def R.post {α : Type} (r : R α) (k : α → Sto → Prop) (x : Str → Nat → Sto → Prop) : Prop := match r with
  | .stuck => False
  | .ok a S => k a S
  | .exn c n S => x c n S
def bd {α β : Type} (a : M α) (f : α → M β) : M β := fun S => match a S with
  | .stuck => .stuck
  | .ok x S' => f x S'
  | .exn c n S' => .exn c n S'
def rt {α : Type} (a : α) : M α := fun S => .ok a S
def stuck {α : Type} : M α := fun _ => .stuck
theorem post_bd {α β : Type} {a : M α} {f : α → M β} {S : Sto} {k : β → Sto → Prop} {x : Str → Nat → Sto → Prop} : (bd a f S).post k x ↔ (a S).post (fun y S' => (f y S').post k x) x := by
  unfold bd
  cases a S <;> exact Iff.rfl
theorem post_imp {α : Type} {r : R α} {k k' : α → Sto → Prop} {x x' : Str → Nat → Sto → Prop} (h : r.post k x) (hk : ∀ a S, k a S → k' a S) (hx : ∀ c n S, x c n S → x' c n S) : r.post k' x' := by
  cases r with
  | stuck => exact h.elim
  | ok a S => exact hk a S h
  | exn c n S => exact hx c n S h
abbrev DE := En → M W
abbrev DT := En → M Bool
abbrev DA := En → M (List W)

section
variable (K : PySem.W.Frag) (T : List Addr) (ET : Str → Option Addr) (Wx : WX)
def okV (m : List Addr) (H : Hp) (Q : VK) : W → Sto → Prop := fun w S' => ∀ v m' H', Xt K m H m' H' → Rel K T m' H' S' → VR K m' H' v w → Q v H'
def okB (m : List Addr) (H : Hp) (Q : Bool → Hp → Prop) : Bool → Sto → Prop := fun b S' => ∀ m' H', Xt K m H m' H' → Rel K T m' H' S' → Q b H'
def okA (m : List Addr) (H : Hp) (Q : List V → Hp → Prop) : List W → Sto → Prop := fun ws S' => ∀ vs m' H', Xt K m H m' H' → Rel K T m' H' S' → VRs K m' H' vs ws → Q vs H'
def exX (σ : L2.St) (m : List Addr) (H : Hp) : Str → Nat → Sto → Prop := fun c n S' => ∀ C d m' H', Xt K m H m' H' → Rel K T m' H' S' → ET c = some C → m'[n]? = some d → Wx (.ref C) (some d) σ H'
structure IE (te : TE) (d : DE) : Prop where
  run : ∀ {L : Nat} (σ : L2.St) (ρ : En) (m : List Addr) (H : Hp) (S : Sto) (Q : VK), EnvR K L m H σ ρ → Rel K T m H S → (d ρ S).post (okV K T m H Q) (exX K T ET Wx σ m H) → te σ H Q
structure IT (tt : TT) (d : DT) : Prop where
  run : ∀ {L : Nat} (σ : L2.St) (ρ : En) (m : List Addr) (H : Hp) (S : Sto) (Q : Bool → Hp → Prop), EnvR K L m H σ ρ → Rel K T m H S → (d ρ S).post (okB K T m H Q) (exX K T ET Wx σ m H) → tt σ H Q
structure IA (ta : TA) (d : DA) : Prop where
  run : ∀ {L : Nat} (σ : L2.St) (ρ : En) (m : List Addr) (H : Hp) (S : Sto) (Q : List V → Hp → Prop), EnvR K L m H σ ρ → Rel K T m H S → (d ρ S).post (okA K T m H Q) (exX K T ET Wx σ m H) → ta σ H Q
end
section
variable {K : PySem.W.Frag} {T : List Addr} {ET : Str → Option Addr} {Wx : WX} {m m' : List Addr} {H H' : Hp} {σ : L2.St}
theorem exX.mono {c : Str} {n : Nat} {S : Sto} (e : Xt K m H m' H') (h : exX K T ET Wx σ m H c n S) : exX K T ET Wx σ m' H' c n S := fun C d m2 H2 e2 => h C d m2 H2 (e.trans e2)
end
/-- an expression of X means d -/
def PD (X : Cx) (T : List Addr) (ET : Str → Option Addr) (Wx : WX) (e : Expr) (d : DE) : Prop := ∃ te, PE X e te ∧ IE X.K T ET Wx te d
def PDT (X : Cx) (T : List Addr) (ET : Str → Option Addr) (Wx : WX) (e : Expr) (d : DT) : Prop := ∃ tt, PT X e tt ∧ IT X.K T ET Wx tt d
def PDA (X : Cx) (T : List Addr) (ET : Str → Option Addr) (Wx : WX) (es : List Expr) (d : DA) : Prop := ∃ ta, PA X es ta ∧ IA X.K T ET Wx ta d

/-! ### the meanings -/
def dVar (i : Nat) : DE := fun ρ => match ρ[i]? with
  | some (some w) => rt w
  | _ => stuck
def dC (w : W) : DE := fun _ => rt w
def dOp (f : W → W → M W) (a b : DE) : DE := fun ρ => bd (a ρ) fun x => bd (b ρ) fun y => f x y
def dUn (f : W → M W) (a : DE) : DE := fun ρ => bd (a ρ) fun x => f x
def dIf (t : DT) (a b : DE) : DE := fun ρ => bd (t ρ) fun c => if c = true then a ρ else b ρ
def dNil : DA := fun _ => rt []
def dCons (a : DE) (r : DA) : DA := fun ρ => bd (a ρ) fun x => bd (r ρ) fun xs => rt (x :: xs)
def dTup (a : DA) : DE := fun ρ => bd (a ρ) fun xs => if xs.length ≤ 100000 then rt (.tup xs) else stuck
/-- a new object -/
def mk (o : SO) : M W := fun S => .ok (.obj S.length) (S ++ [o])
def dLst (a : DA) : DE := fun ρ => bd (a ρ) fun xs => if xs.length ≤ 100000 then mk (.lst xs) else stuck
def dCB (f : List W → M W) (a : DA) : DE := fun ρ => bd (a ρ) fun xs => f xs
/-- tests -/
def wB : W → M Bool
  | .bl b => rt b
  | _ => stuck
def dB (a : DE) : DT := fun ρ => bd (a ρ) wB
def dAnd (a b : DT) : DT := fun ρ => bd (a ρ) fun c => if c = true then b ρ else rt false
def dOr (a b : DT) : DT := fun ρ => bd (a ρ) fun c => if c = true then rt true else b ρ
def dNot (a : DT) : DT := fun ρ => bd (a ρ) fun c => rt (!c)
/-- and, or, not as values -/
def dAndV (a b : DE) : DE := fun ρ => bd (bd (a ρ) wB) fun c => if c = true then b ρ else rt (.bl false)
def dOrV (a b : DE) : DE := fun ρ => bd (bd (a ρ) wB) fun c => if c = true then rt (.bl true) else b ρ
def dNotV (a : DE) : DE := fun ρ => bd (bd (a ρ) wB) fun c => rt (.bl (!c))
/-- truth -/
def wTru : W → M Bool
  | .non => rt false
  | .bl b => rt b
  | .int i => rt (i != 0)
  | .str y => if y.length ≤ 100000 then rt ((y.length : Int) != 0) else stuck
  | .tup l => rt (!l.isEmpty)
  | .obj n => fun S => match S[n]? with
    | some (.lst l) => .ok (!l.isEmpty) S
    | some (.ro l) => .ok (!l.isEmpty) S
    | some (.dct l) => .ok (!l.isEmpty) S
    | _ => .stuck
  | _ => stuck
def dTru (a : DE) : DT := fun ρ => bd (a ρ) wTru
def dChain (f g : W → W → M W) (a b c : DE) : DE := fun ρ => bd (a ρ) fun x => bd (b ρ) fun y => bd (bd (f x y) wB) fun k => if k = true then bd (c ρ) fun z => g y z else rt (.bl false)

/-! ### operations by values -/
def IOp (K : PySem.W.Frag) (T : List Addr) (r : R2) (f : W → W → M W) : Prop := ∀ (m : List Addr) (H : Hp) (S : Sto) (x y : V) (a b : W) (Q : VK) (ex : Str → Nat → Sto → Prop), Rel K T m H S → VR K m H x a → VR K m H y b → (f a b S).post (okV K T m H Q) ex → r x y H Q
def IUn (K : PySem.W.Frag) (T : List Addr) (r : V → Hp → VK → Prop) (f : W → M W) : Prop := ∀ (m : List Addr) (H : Hp) (S : Sto) (x : V) (a : W) (Q : VK) (ex : Str → Nat → Sto → Prop), Rel K T m H S → VR K m H x a → (f a S).post (okV K T m H Q) ex → r x H Q
def ICa (K : PySem.W.Frag) (T : List Addr) (r : List V → Hp → VK → Prop) (f : List W → M W) : Prop := ∀ (m : List Addr) (H : Hp) (S : Sto) (xs : List V) (as : List W) (Q : VK) (ex : Str → Nat → Sto → Prop), Rel K T m H S → VRs K m H xs as → (f as S).post (okV K T m H Q) ex → r xs H Q

section
variable {X : Cx} {T : List Addr} {ET : Str → Option Addr} {Wx : WX} {e e1 e2 e3 a b c : Expr} {es : List Expr} {d d1 d2 d3 : DE} {t t1 t2 : DT} {da : DA} {x : Str} {pos p : Pos}
theorem ie_var {K : PySem.W.Frag} {i : Nat} : IE K T ET Wx (tVar i) (dVar i) := by
  refine ⟨fun {L} σ ρ m H S Q E R h => ?_⟩
  unfold dVar at h
  cases q : ρ[i]? with
  | none => rw [q] at h; exact h.elim
  | some o =>
    cases o with
    | none => rw [q] at h; exact h.elim
    | some w =>
      rw [q] at h
      obtain ⟨v, h1, h2⟩ := E.get i w q
      exact ⟨v, h1, h v m H Xt.refl R h2⟩
theorem pd_var {i : Nat} (hN : X.N[i]? = some x) (hv : Vis X.env.scope x) (hd : (x == ("__debug__" : Str)) = false := by decide) (hcd : (x == ("__classdict__" : Str)) = false := by decide) : PD X T ET Wx (.Name x pos) (dVar i) :=
  ⟨_, pe_var hN hv hd hcd, ie_var⟩
theorem ie_c {K : PySem.W.Frag} {v : V} {w : W} (hv : ∀ m H, VR K m H v w) : IE K T ET Wx (tC v) (dC w) := ⟨fun {L} σ ρ m H S Q E R h => h v m H Xt.refl R (hv m H)⟩
theorem pd_int {i : Int} {j : Nat} : PD X T ET Wx (.Constant (.int i) j pos) (dC (.int i)) := ⟨_, pe_int, ie_c fun _ _ => .int i⟩
theorem pd_bl {i : Bool} {j : Nat} : PD X T ET Wx (.Constant (.bool i) j pos) (dC (.bl i)) := ⟨_, pe_bl, ie_c fun _ _ => .bl i⟩
theorem pd_non {j : Nat} : PD X T ET Wx (.Constant .none j pos) (dC .non) := ⟨_, pe_non, ie_c fun _ _ => .non⟩
theorem pd_str {z : Str} {j : Nat} : PD X T ET Wx (.Constant (.str z) j pos) (dC (.str z)) := ⟨_, pe_str, ie_c fun _ _ => .str z⟩
theorem pd_glob {v : V} {u : Value} {w : W} (hg : Gl X x) (hm : X.mg x = some u) (r : RelV v u) (hv : ∀ m H, VR X.K m H v w) (hd : (x == ("__debug__" : Str)) = false := by decide) : PD X T ET Wx (.Name x pos) (dC w) := ⟨_, pe_glob hg hm r hd, ie_c hv⟩

theorem pd_op {op : Operator} {r : R2} {f : W → W → M W} (ho : OpR X (binaryOp op) r) (io : IOp X.K T r f) (h1 : PD X T ET Wx a d1) (h2 : PD X T ET Wx b d2) : PD X T ET Wx (.BinOp a op b pos) (dOp f d1 d2) := by
  obtain ⟨ta, pa, ia⟩ := h1
  obtain ⟨tb, pb, ib⟩ := h2
  refine ⟨_, pe_op ho pa pb, ⟨fun {L} σ ρ m H S Q E R h => ia.run σ ρ m H S _ E R (post_imp (post_bd.mp h) (fun w1 S1 h1 v1 m1 H1 e1 R1 r1 => ?_) fun _ _ _ z => z)⟩⟩
  refine ib.run σ ρ m1 H1 S1 _ (E.mono e1) R1 (post_imp (post_bd.mp h1) (fun w2 S2 h2 v2 m2 H2 e2 R2 r2 => ?_) fun _ _ _ z => z.mono e1)
  exact io m2 H2 S2 v1 v2 w1 w2 Q _ R2 (r1.mono e2) r2 (post_imp h2 (fun w S' z v m' H' e => z v m' H' ((e1.trans e2).trans e)) fun _ _ _ z => z)
theorem pd_cmp {op : CmpOp} {r : R2} {f : W → W → M W} (ho : OpR X (compareOp op) r) (io : IOp X.K T r f) (h1 : PD X T ET Wx a d1) (h2 : PD X T ET Wx b d2) (hm : behindInMarks op b = false) : PD X T ET Wx (.Compare a [op] [b] pos) (dOp f d1 d2) := by
  obtain ⟨ta, pa, ia⟩ := h1
  obtain ⟨tb, pb, ib⟩ := h2
  refine ⟨_, pe_cmpR ho pa pb hm, ⟨fun {L} σ ρ m H S Q E R h => ia.run σ ρ m H S _ E R (post_imp (post_bd.mp h) (fun w1 S1 h1 v1 m1 H1 e1 R1 r1 => ?_) fun _ _ _ z => z)⟩⟩
  refine ib.run σ ρ m1 H1 S1 _ (E.mono e1) R1 (post_imp (post_bd.mp h1) (fun w2 S2 h2 v2 m2 H2 e2 R2 r2 => ?_) fun _ _ _ z => z.mono e1)
  exact io m2 H2 S2 v1 v2 w1 w2 Q _ R2 (r1.mono e2) r2 (post_imp h2 (fun w S' z v m' H' e => z v m' H' ((e1.trans e2).trans e)) fun _ _ _ z => z)
theorem pd_un {op : UnaryOp} {r : V → Hp → VK → Prop} {f : W → M W} (ho : UnR X (unaryOp op) r) (io : IUn X.K T r f) (h1 : PD X T ET Wx a d1) : PD X T ET Wx (.UnaryOp op a pos) (dUn f d1) := by
  obtain ⟨ta, pa, ia⟩ := h1
  refine ⟨_, pe_un ho pa, ⟨fun {L} σ ρ m H S Q E R h => ia.run σ ρ m H S _ E R (post_imp (post_bd.mp h) (fun w1 S1 h1 v1 m1 H1 e1 R1 r1 => ?_) fun _ _ _ z => z)⟩⟩
  exact io m1 H1 S1 v1 w1 Q _ R1 r1 (post_imp h1 (fun w S' z v m' H' e => z v m' H' (e1.trans e)) fun _ _ _ z => z)
theorem wB_post {w : W} {S : Sto} {k : Bool → Sto → Prop} {x : Str → Nat → Sto → Prop} (h : (wB w S).post k x) : ∃ b, w = .bl b ∧ k b S := by
  cases w <;> first | exact ⟨_, rfl, h⟩ | exact h.elim
theorem pd_chain {op op' : CmpOp} {r r' : R2} {f g : W → W → M W} (ho : OpR X (compareOp op) r) (ho' : OpR X (compareOp op') r') (io : IOp X.K T r f) (io' : IOp X.K T r' g) (h1 : PD X T ET Wx a d1) (h2 : PD X T ET Wx b d2) (h3 : PD X T ET Wx c d3)
    (hm : lastMarks [op, op'] [b, c] = false := by with_unfolding_all rfl) : PD X T ET Wx (.Compare a [op, op'] [b, c] pos) (dChain f g d1 d2 d3) := by
  obtain ⟨ta, pa, ia⟩ := h1
  obtain ⟨tb, pb, ib⟩ := h2
  obtain ⟨tc, pc, ic⟩ := h3
  refine ⟨_, pe_chain ho ho' pa pb pc hm, ⟨fun {L} σ ρ m H S Q E R h => ia.run σ ρ m H S _ E R (post_imp (post_bd.mp h) (fun w1 S1 h1 v1 m1 H1 e1 R1 r1 => ?_) fun _ _ _ z => z)⟩⟩
  refine ib.run σ ρ m1 H1 S1 _ (E.mono e1) R1 (post_imp (post_bd.mp h1) (fun w2 S2 h2 v2 m2 H2 e2 R2 r2 => ?_) fun _ _ _ z => z.mono e1)
  refine io m2 H2 S2 v1 v2 w1 w2 _ _ R2 (r1.mono e2) r2 (post_imp (post_bd.mp (post_bd.mp h2)) (fun w S3 h3 v m3 H3 e3 R3 r3 => ?_) fun _ _ _ z => z)
  obtain ⟨k, rfl, h4⟩ := wB_post h3
  cases r3
  refine ⟨k, rfl, ?_⟩
  cases k with
  | false => exact h4 (.bl false) m3 H3 ((e1.trans e2).trans e3) R3 (.bl false)
  | true =>
    refine ic.run σ ρ m3 H3 S3 _ (((E.mono e1).mono e2).mono e3) R3 (post_imp (post_bd.mp (show (bd (d3 ρ) (fun z => g w2 z) S3).post _ _ from h4)) (fun w4 S4 h4 v4 m4 H4 e4 R4 r4 => ?_) fun _ _ _ z => ((z.mono e1).mono e2).mono e3)
    exact io' m4 H4 S4 v2 v4 w2 w4 Q _ R4 ((r2.mono e3).mono e4) r4 (post_imp h4 (fun w S' z v m' H' e => z v m' H' ((((e1.trans e2).trans e3).trans e4).trans e)) fun _ _ _ z => z)
/-! tests -/
theorem pdt_val (h1 : PD X T ET Wx e d) (he : ∀ whole, isTrue e X.env whole = (do let v ← whole; standAt e.pos; holding [v] (truthy v)) := by intro _; rfl) : PDT X T ET Wx e (dB d) := by
  obtain ⟨ta, pa, ia⟩ := h1
  refine ⟨_, pt_val pa he, ⟨fun {L} σ ρ m H S Q E R h => ia.run σ ρ m H S _ E R (post_imp (post_bd.mp h) (fun w1 S1 h1 v1 m1 H1 e1 R1 r1 => ?_) fun _ _ _ z => z)⟩⟩
  obtain ⟨b, rfl, h2⟩ := wB_post h1
  cases r1
  exact ⟨b, rfl, h2 m1 H1 e1 R1⟩
theorem pdt_cmp {op : CmpOp} {r : R2} {f : W → W → M W} (ho : OpR X (compareOp op) r) (io : IOp X.K T r f) (h1 : PD X T ET Wx a d1) (h2 : PD X T ET Wx b d2) (hm : behindInMarks op b = false) : PDT X T ET Wx (.Compare a [op] [b] pos) (dB (dOp f d1 d2)) := by
  obtain ⟨ta, pa, ia⟩ := h1
  obtain ⟨tb, pb, ib⟩ := h2
  refine ⟨_, pt_cmpR ho pa pb hm, ⟨fun {L} σ ρ m H S Q E R h => ia.run σ ρ m H S _ E R (post_imp (post_bd.mp (post_bd.mp h)) (fun w1 S1 h1 v1 m1 H1 e1 R1 r1 => ?_) fun _ _ _ z => z)⟩⟩
  refine ib.run σ ρ m1 H1 S1 _ (E.mono e1) R1 (post_imp (post_bd.mp h1) (fun w2 S2 h2 v2 m2 H2 e2 R2 r2 => ?_) fun _ _ _ z => z.mono e1)
  refine io m2 H2 S2 v1 v2 w1 w2 _ _ R2 (r1.mono e2) r2 (post_imp h2 (fun w S3 h3 v m3 H3 e3 R3 r3 => ?_) fun _ _ _ z => z)
  obtain ⟨k, rfl, h4⟩ := wB_post h3
  cases r3
  exact ⟨k, rfl, h4 m3 H3 ((e1.trans e2).trans e3) R3⟩
theorem pdt_chain {op op' : CmpOp} {r r' : R2} {f g : W → W → M W} (ho : OpR X (compareOp op) r) (ho' : OpR X (compareOp op') r') (io : IOp X.K T r f) (io' : IOp X.K T r' g) (h1 : PD X T ET Wx a d1) (h2 : PD X T ET Wx b d2) (h3 : PD X T ET Wx c d3)
    (hm : lastMarks [op, op'] [b, c] = false := by with_unfolding_all rfl) : PDT X T ET Wx (.Compare a [op, op'] [b, c] pos) (dB (dChain f g d1 d2 d3)) := by
  obtain ⟨ta, pa, ia⟩ := h1
  obtain ⟨tb, pb, ib⟩ := h2
  obtain ⟨tc, pc, ic⟩ := h3
  refine ⟨_, pt_chain ho ho' pa pb pc hm, ⟨fun {L} σ ρ m H S Q E R h => ia.run σ ρ m H S _ E R (post_imp (post_bd.mp (post_bd.mp h)) (fun w1 S1 h1 v1 m1 H1 e1 R1 r1 => ?_) fun _ _ _ z => z)⟩⟩
  refine ib.run σ ρ m1 H1 S1 _ (E.mono e1) R1 (post_imp (post_bd.mp h1) (fun w2 S2 h2 v2 m2 H2 e2 R2 r2 => ?_) fun _ _ _ z => z.mono e1)
  refine io m2 H2 S2 v1 v2 w1 w2 _ _ R2 (r1.mono e2) r2 (post_imp (post_bd.mp (post_bd.mp h2)) (fun w S3 h3 v m3 H3 e3 R3 r3 => ?_) fun _ _ _ z => z)
  obtain ⟨k, rfl, h4⟩ := wB_post h3
  cases r3
  refine ⟨k, rfl, ?_⟩
  cases k with
  | false => exact ⟨false, rfl, h4 m3 H3 ((e1.trans e2).trans e3) R3⟩
  | true =>
    refine ic.run σ ρ m3 H3 S3 _ (((E.mono e1).mono e2).mono e3) R3 (post_imp (post_bd.mp (show (bd (d3 ρ) (fun z => g w2 z) S3).post _ _ from h4)) (fun w4 S4 h4 v4 m4 H4 e4 R4 r4 => ?_) fun _ _ _ z => ((z.mono e1).mono e2).mono e3)
    refine io' m4 H4 S4 v2 v4 w2 w4 _ _ R4 ((r2.mono e3).mono e4) r4 (post_imp h4 (fun w S5 h5 v m5 H5 e5 R5 r5 => ?_) fun _ _ _ z => z)
    obtain ⟨k, rfl, h6⟩ := wB_post h5
    cases r5
    exact ⟨k, rfl, h6 m5 H5 ((((e1.trans e2).trans e3).trans e4).trans e5) R5⟩
theorem pdt_not (h1 : PDT X T ET Wx a t) : PDT X T ET Wx (.UnaryOp .Not a pos) (dNot t) := by
  obtain ⟨ta, pa, ia⟩ := h1
  refine ⟨_, pt_not pa, ⟨fun {L} σ ρ m H S Q E R h => ia.run σ ρ m H S _ E R (post_imp (post_bd.mp h) (fun b1 S1 h1 m1 H1 e1 R1 => ?_) fun _ _ _ z => z)⟩⟩
  exact h1 m1 H1 e1 R1
theorem VRs.empty {K : PySem.W.Frag} {m : List Addr} {H : Hp} {xs : List V} {l : List W} (h : VRs K m H xs l) : xs.isEmpty = l.isEmpty := by cases h <;> rfl
theorem sz100 {n : Nat} (h : n ≤ 100000) : n ≤ sizeLine := Nat.le_trans h (by decide)
theorem tru_ok {K : PySem.W.Frag} {m : List Addr} {H : Hp} {v : V} {w : W} {S : Sto} {k : Bool → Sto → Prop} {x : Str → Nat → Sto → Prop} (R : Rel K T m H S) (r : VR K m H v w) (h : (wTru w S).post k x) : ∃ b, TruV K v H b ∧ k b S := by
  cases r with
  | non => exact ⟨false, rfl, h⟩
  | bl b => exact ⟨b, rfl, h⟩
  | int i => exact ⟨i != 0, rfl, h⟩
  | str y =>
    unfold wTru at h
    by_cases hy : y.length ≤ 100000
    · simp only [if_pos hy] at h
      exact ⟨_, ⟨sz100 hy, rfl⟩, h⟩
    · simp only [if_neg hy] at h
      exact h.elim
  | tup a xs l h1 h2 => exact ⟨!l.isEmpty, .inr (.inl ⟨xs, h1, by rw [h2.empty]⟩), h⟩
  | obj n a h1 =>
    unfold wTru at h
    cases q : S[n]? with
    | none => simp only [q] at h; exact h.elim
    | some o =>
      obtain ⟨a', h2, h3⟩ := R.obj n o q
      rw [h1] at h2
      cases h2
      cases o with
      | lst l => simp only [q] at h; obtain ⟨xs, z1, z2⟩ := h3; exact ⟨_, .inl ⟨xs, SqL.of z1, by rw [z2.empty]⟩, h⟩
      | ro l => simp only [q] at h; obtain ⟨xs, z1, z2⟩ := h3; exact ⟨_, .inl ⟨xs, .inl z1, by rw [z2.empty]⟩, h⟩
      | dct l =>
        simp only [q] at h
        obtain ⟨xs, z1, z2⟩ := h3
        have e : xs.isEmpty = l.isEmpty := by
          have e1 := congrArg List.length z2.1
          rw [List.length_map, List.length_map] at e1
          cases xs <;> cases l <;> simp_all
        exact ⟨_, .inr (.inr ⟨xs, z1, by rw [e]⟩), h⟩
      | xd l => simp only [q] at h; exact h.elim
  | exc a d c n h1 => exact h.elim
  | kl a xs l h1 h2 => exact h.elim
theorem pdt_tru (h1 : PD X T ET Wx e d) (he : ∀ whole, isTrue e X.env whole = (do let v ← whole; standAt e.pos; holding [v] (truthy v)) := by intro _; rfl) : PDT X T ET Wx e (dTru d) := by
  obtain ⟨ta, pa, ia⟩ := h1
  refine ⟨_, pt_truth pa he, ⟨fun {L} σ ρ m H S Q E R h => ia.run σ ρ m H S _ E R (post_imp (post_bd.mp h) (fun w1 S1 h1 v1 m1 H1 e1 R1 r1 => ?_) fun _ _ _ z => z)⟩⟩
  obtain ⟨b, h2, h3⟩ := tru_ok R1 r1 h1
  exact ⟨b, h2, h3 m1 H1 e1 R1⟩
end
end MP
namespace MP
open PySem PySem.Spec PyProof.Rows L2 GxR Gx
def PDW (X : Cx) (T : List Addr) (ET : Str → Option Addr) (Wx : WX) (e : Expr) (d : DT) : Prop := ∃ tt, PW X e tt ∧ IT X.K T ET Wx tt d
section
variable {X : Cx} {T : List Addr} {ET : Str → Option Addr} {Wx : WX} {e e1 e2 e3 a b c : Expr} {es rest : List Expr} {d d1 d2 d3 : DE} {t t1 t2 : DT} {da : DA} {x : Str} {pos p : Pos}
theorem pdt_w (h : PDW X T ET Wx e t) : PDT X T ET Wx e t := let ⟨tt, h1, h2⟩ := h; ⟨tt, h1.pt, h2⟩
theorem pdw_and1 (h : PDT X T ET Wx a t) : PDW X T ET Wx (.BoolOp .And [a] pos) t := let ⟨tt, h1, h2⟩ := h; ⟨tt, pw_and1 h1, h2⟩
theorem pdw_or1 (h : PDT X T ET Wx a t) : PDW X T ET Wx (.BoolOp .Or [a] pos) t := let ⟨tt, h1, h2⟩ := h; ⟨tt, pw_or1 h1, h2⟩
theorem pdw_and (h1 : PDT X T ET Wx a t1) (h2 : PDW X T ET Wx (.BoolOp .And (b :: rest) pos) t2) : PDW X T ET Wx (.BoolOp .And (a :: b :: rest) pos) (dAnd t1 t2) := by
  obtain ⟨ta, pa, ia⟩ := h1
  obtain ⟨tb, pb, ib⟩ := h2
  refine ⟨_, pw_and pa pb, ⟨fun {L} σ ρ m H S Q E R h => ia.run σ ρ m H S _ E R (post_imp (post_bd.mp h) (fun b1 S1 h1 m1 H1 e1 R1 => ?_) fun _ _ _ z => z)⟩⟩
  cases b1 with
  | false => exact h1 m1 H1 e1 R1
  | true => exact ib.run σ ρ m1 H1 S1 Q (E.mono e1) R1 (post_imp (show (t2 ρ S1).post _ _ from h1) (fun b2 S2 h2 m2 H2 e2 => h2 m2 H2 (e1.trans e2)) fun _ _ _ z => z.mono e1)
theorem pdw_or (h1 : PDT X T ET Wx a t1) (h2 : PDW X T ET Wx (.BoolOp .Or (b :: rest) pos) t2) : PDW X T ET Wx (.BoolOp .Or (a :: b :: rest) pos) (dOr t1 t2) := by
  obtain ⟨ta, pa, ia⟩ := h1
  obtain ⟨tb, pb, ib⟩ := h2
  refine ⟨_, pw_or pa pb, ⟨fun {L} σ ρ m H S Q E R h => ia.run σ ρ m H S _ E R (post_imp (post_bd.mp h) (fun b1 S1 h1 m1 H1 e1 R1 => ?_) fun _ _ _ z => z)⟩⟩
  cases b1 with
  | true => exact h1 m1 H1 e1 R1
  | false => exact ib.run σ ρ m1 H1 S1 Q (E.mono e1) R1 (post_imp (show (t2 ρ S1).post _ _ from h1) (fun b2 S2 h2 m2 H2 e2 => h2 m2 H2 (e1.trans e2)) fun _ _ _ z => z.mono e1)
theorem pd_one {op : BoolOp} (h : PD X T ET Wx a d) : PD X T ET Wx (.BoolOp op [a] pos) d := let ⟨tt, h1, h2⟩ := h; ⟨tt, pe_one h1, h2⟩
theorem pd_and (h1 : PD X T ET Wx a d1) (h2 : PD X T ET Wx (.BoolOp .And (b :: rest) pos) d2) : PD X T ET Wx (.BoolOp .And (a :: b :: rest) pos) (dAndV d1 d2) := by
  obtain ⟨ta, pa, ia⟩ := h1
  obtain ⟨tb, pb, ib⟩ := h2
  refine ⟨_, pe_and pa pb, ⟨fun {L} σ ρ m H S Q E R h => ia.run σ ρ m H S _ E R (post_imp (post_bd.mp (post_bd.mp h)) (fun w1 S1 h1 v1 m1 H1 e1 R1 r1 => ?_) fun _ _ _ z => z)⟩⟩
  obtain ⟨k, rfl, h2⟩ := wB_post h1
  cases r1
  refine ⟨k, rfl, ?_⟩
  cases k with
  | false => exact h2 (.bl false) m1 H1 e1 R1 (.bl false)
  | true => exact ib.run σ ρ m1 H1 S1 Q (E.mono e1) R1 (post_imp (show (d2 ρ S1).post _ _ from h2) (fun b2 S2 h2 v2 m2 H2 e2 => h2 v2 m2 H2 (e1.trans e2)) fun _ _ _ z => z.mono e1)
theorem pd_or (h1 : PD X T ET Wx a d1) (h2 : PD X T ET Wx (.BoolOp .Or (b :: rest) pos) d2) : PD X T ET Wx (.BoolOp .Or (a :: b :: rest) pos) (dOrV d1 d2) := by
  obtain ⟨ta, pa, ia⟩ := h1
  obtain ⟨tb, pb, ib⟩ := h2
  refine ⟨_, pe_or pa pb, ⟨fun {L} σ ρ m H S Q E R h => ia.run σ ρ m H S _ E R (post_imp (post_bd.mp (post_bd.mp h)) (fun w1 S1 h1 v1 m1 H1 e1 R1 r1 => ?_) fun _ _ _ z => z)⟩⟩
  obtain ⟨k, rfl, h2⟩ := wB_post h1
  cases r1
  refine ⟨k, rfl, ?_⟩
  cases k with
  | true => exact h2 (.bl true) m1 H1 e1 R1 (.bl true)
  | false => exact ib.run σ ρ m1 H1 S1 Q (E.mono e1) R1 (post_imp (show (d2 ρ S1).post _ _ from h2) (fun b2 S2 h2 v2 m2 H2 e2 => h2 v2 m2 H2 (e1.trans e2)) fun _ _ _ z => z.mono e1)
theorem pd_not (h1 : PD X T ET Wx a d1) : PD X T ET Wx (.UnaryOp .Not a pos) (dNotV d1) := by
  obtain ⟨ta, pa, ia⟩ := h1
  refine ⟨_, pe_not pa, ⟨fun {L} σ ρ m H S Q E R h => ia.run σ ρ m H S _ E R (post_imp (post_bd.mp (post_bd.mp h)) (fun w1 S1 h1 v1 m1 H1 e1 R1 r1 => ?_) fun _ _ _ z => z)⟩⟩
  obtain ⟨k, rfl, h2⟩ := wB_post h1
  cases r1
  exact ⟨k, rfl, h2 (.bl (!k)) m1 H1 e1 R1 (.bl _)⟩
theorem pd_ife (h0 : PDT X T ET Wx c t) (h1 : PD X T ET Wx a d1) (h2 : PD X T ET Wx b d2) : PD X T ET Wx (.IfExp c a b pos) (dIf t d1 d2) := by
  obtain ⟨tc, pc, ic⟩ := h0
  obtain ⟨ta, pa, ia⟩ := h1
  obtain ⟨tb, pb, ib⟩ := h2
  refine ⟨_, pe_ifExp pc pa pb, ⟨fun {L} σ ρ m H S Q E R h => ic.run σ ρ m H S _ E R (post_imp (post_bd.mp h) (fun k S1 h1 m1 H1 e1 R1 => ?_) fun _ _ _ z => z)⟩⟩
  cases k with
  | true => exact ia.run σ ρ m1 H1 S1 Q (E.mono e1) R1 (post_imp (show (d1 ρ S1).post _ _ from h1) (fun b2 S2 h2 v2 m2 H2 e2 => h2 v2 m2 H2 (e1.trans e2)) fun _ _ _ z => z.mono e1)
  | false => exact ib.run σ ρ m1 H1 S1 Q (E.mono e1) R1 (post_imp (show (d2 ρ S1).post _ _ from h1) (fun b2 S2 h2 v2 m2 H2 e2 => h2 v2 m2 H2 (e1.trans e2)) fun _ _ _ z => z.mono e1)
/-! argument lists, displays -/
theorem pda_nil : PDA X T ET Wx [] dNil := ⟨_, pa_nil, ⟨fun {L} σ ρ m H S Q E R h => h [] m H Xt.refl R .nil⟩⟩
theorem pda_cons (h1 : PD X T ET Wx e d) (h2 : PDA X T ET Wx es da) (hs : starEach (e :: es) X.env = (false, eval e X.env) :: starEach es X.env := by rfl) : PDA X T ET Wx (e :: es) (dCons d da) := by
  obtain ⟨ta, pa, ia⟩ := h1
  obtain ⟨tb, pb, ib⟩ := h2
  refine ⟨_, pa_cons pa pb hs, ⟨fun {L} σ ρ m H S Q E R h => ia.run σ ρ m H S _ E R (post_imp (post_bd.mp h) (fun w1 S1 h1 v1 m1 H1 e1 R1 r1 => ?_) fun _ _ _ z => z)⟩⟩
  refine ib.run σ ρ m1 H1 S1 _ (E.mono e1) R1 (post_imp (post_bd.mp h1) (fun w2 S2 h2 v2 m2 H2 e2 R2 r2 => ?_) fun _ _ _ z => z.mono e1)
  exact h2 (v1 :: v2) m2 H2 (e1.trans e2) R2 (.cons _ _ _ _ (r1.mono e2) r2)
theorem pd_tup {x1} (h1 : PDA X T ET Wx es da) : PD X T ET Wx (.Tuple es x1 pos) (dTup da) := by
  obtain ⟨ta, pa, ia⟩ := h1
  refine ⟨_, pe_tup pa, ⟨fun {L} σ ρ m H S Q E R h => ia.run σ ρ m H S _ E R (post_imp (post_bd.mp h) (fun ws S1 h1 vs m1 H1 e1 R1 r1 => ?_) fun _ _ _ z => z)⟩⟩
  by_cases hl : ws.length ≤ 100000
  · rw [if_pos hl] at h1
    refine ⟨by rw [r1.length]; exact sz100 hl, fun p hp => ?_⟩
    have e2 : Xt X.K m1 H1 m1 (upd H1 p (.tup vs)) := xt_new0 hp
    exact h1 (.ref p) m1 _ (e1.trans e2) (R1.new0 hp) (.tup p vs ws (SqT.of upd_same) (r1.mono e2))
  · rw [if_neg hl] at h1
    exact h1.elim
theorem mk_new {K : PySem.W.Frag} {m : List Addr} {H : Hp} {S : Sto} {p : Addr} {u : HO} {o : SO} (R : Rel K T m H S) (hp : H p = none) (ho : OR K (m ++ [p]) (upd H p u) p o) :
    Xt K m H (m ++ [p]) (upd H p u) ∧ Rel K T (m ++ [p]) (upd H p u) (S ++ [o]) ∧ VR K (m ++ [p]) (upd H p u) (.ref p) (.obj S.length) :=
  ⟨xt_new hp, R.new hp ho, .obj _ _ (by rw [← R.len, List.getElem?_append_right (Nat.le_refl _)]; simp)⟩
theorem pd_lst (h1 : PDA X T ET Wx es da) : PD X T ET Wx (.List es pos) (dLst da) := by
  obtain ⟨ta, pa, ia⟩ := h1
  refine ⟨_, pe_lst pa, ⟨fun {L} σ ρ m H S Q E R h => ia.run σ ρ m H S _ E R (post_imp (post_bd.mp h) (fun ws S1 h1 vs m1 H1 e1 R1 r1 => ?_) fun _ _ _ z => z)⟩⟩
  by_cases hl : ws.length ≤ 100000
  · rw [if_pos hl] at h1
    refine ⟨by rw [r1.length]; exact sz100 hl, fun p hp => ?_⟩
    obtain ⟨e2, R2, r2⟩ := mk_new (o := .lst ws) R1 hp ⟨vs, upd_same, r1.mono (xt_new hp)⟩
    exact h1 (.ref p) _ _ (e1.trans e2) R2 r2
  · rw [if_neg hl] at h1
    exact h1.elim
theorem pd_dict0 : PD X T ET Wx (.Dict [] [] pos) (fun _ => mk (.dct [])) := by
  refine ⟨_, pe_dnewK, ⟨fun {L} σ ρ m H S Q E R h p hp => ?_⟩⟩
  obtain ⟨e2, R2, r2⟩ := mk_new (o := .dct []) R hp ⟨[], upd_same, rfl, .nil⟩
  exact h (.ref p) _ _ e2 R2 r2
/-! calls -/
theorem pd_cb {id : String} {r : List V → Hp → VK → Prop} {f : List W → M W} (hc : CallR X (.builtin id) r) (ic : ICa X.K T r f) (hg : Gl X x) (hm : X.mg x = none) (hv : bootBuiltins x = some (.builtin id)) (h1 : PDA X T ET Wx (e :: es) da) (hn : x ≠ "__name__" := by decide) (hdb : (x == ("__debug__" : Str)) = false := by decide)
    (he : starEach (e :: es) X.env = (false, eval e X.env) :: starEach es X.env := by rfl) (hpl : (backTo pos (starEach es X.env)).any (·.1) = false := by rfl) : PD X T ET Wx (.Call (.Name x p) (e :: es) [] pos) (dCB f da) := by
  obtain ⟨ta, pa, ia⟩ := h1
  refine ⟨_, pe_callB hc hg hm hv pa hn hdb he hpl, ⟨fun {L} σ ρ m H S Q E R h => ia.run σ ρ m H S _ E R (post_imp (post_bd.mp h) (fun ws S1 h1 vs m1 H1 e1 R1 r1 => ?_) fun _ _ _ z => z)⟩⟩
  exact ic m1 H1 S1 vs ws Q _ R1 r1 (post_imp h1 (fun w S' z v m' H' e => z v m' H' (e1.trans e)) fun _ _ _ z => z)
theorem pd_ct {id : String} {r : List V → Hp → VK → Prop} {f : List W → M W} (hc : CallR X (.type id) r) (ic : ICa X.K T r f) (hg : Gl X x) (hm : X.mg x = none) (hv : bootBuiltins x = some (.type id)) (h1 : PDA X T ET Wx (e :: es) da) (hn : x ≠ "__name__" := by decide) (hdb : (x == ("__debug__" : Str)) = false := by decide)
    (he : starEach (e :: es) X.env = (false, eval e X.env) :: starEach es X.env := by rfl) (hpl : (backTo pos (starEach es X.env)).any (·.1) = false := by rfl) : PD X T ET Wx (.Call (.Name x p) (e :: es) [] pos) (dCB f da) := by
  obtain ⟨ta, pa, ia⟩ := h1
  refine ⟨_, pe_callTy hc hg hm hv pa hn hdb he hpl, ⟨fun {L} σ ρ m H S Q E R h => ia.run σ ρ m H S _ E R (post_imp (post_bd.mp h) (fun ws S1 h1 vs m1 H1 e1 R1 r1 => ?_) fun _ _ _ z => z)⟩⟩
  exact ic m1 H1 S1 vs ws Q _ R1 r1 (post_imp h1 (fun w S' z v m' H' e => z v m' H' (e1.trans e)) fun _ _ _ z => z)
/-! subscripts -/
theorem pd_ix {r : R2} {f : W → W → M W} (hr : IxR X r) (io : IOp X.K T r f) (h1 : PD X T ET Wx a d1) (h2 : PD X T ET Wx b d2) (hs : PlainIx b := by intro _ _; rfl) : PD X T ET Wx (.Subscript a b pos) (dOp f d1 d2) := by
  obtain ⟨ta, pa, ia⟩ := h1
  obtain ⟨tb, pb, ib⟩ := h2
  refine ⟨_, pe_ix hr pa pb hs, ⟨fun {L} σ ρ m H S Q E R h => ia.run σ ρ m H S _ E R (post_imp (post_bd.mp h) (fun w1 S1 h1 v1 m1 H1 e1 R1 r1 => ?_) fun _ _ _ z => z)⟩⟩
  refine ib.run σ ρ m1 H1 S1 _ (E.mono e1) R1 (post_imp (post_bd.mp h1) (fun w2 S2 h2 v2 m2 H2 e2 R2 r2 => ?_) fun _ _ _ z => z.mono e1)
  exact io m2 H2 S2 v1 v2 w1 w2 Q _ R2 (r1.mono e2) r2 (post_imp h2 (fun w S' z v m' H' e => z v m' H' ((e1.trans e2).trans e)) fun _ _ _ z => z)
end
end MP

set_option Elab.async false
set_option linter.all false
set_option maxRecDepth 100000
set_option maxHeartbeats 4000000
/-! MP3: slices, methods, calls, statements, loops, defs. -/
namespace MP
open PySem PySem.Spec PyProof.Rows L2 GxR Gx
/-! ### slices -/
abbrev DO := En → M (Option Int)
def okO (K : PySem.W.Frag) (T : List Addr) (m : List Addr) (H : Hp) (Q : Option Int → Hp → Prop) : Option Int → Sto → Prop := fun b S' => ∀ m' H', Xt K m H m' H' → Rel K T m' H' S' → Q b H'
structure IO (K : PySem.W.Frag) (T : List Addr) (ET : Str → Option Addr) (Wx : WX) (to : TO) (d : DO) : Prop where
  run : ∀ {L : Nat} (σ : L2.St) (ρ : En) (m : List Addr) (H : Hp) (S : Sto) (Q : Option Int → Hp → Prop), EnvR K L m H σ ρ → Rel K T m H S → (d ρ S).post (okO K T m H Q) (exX K T ET Wx σ m H) → to σ H Q
def PDO (X : Cx) (T : List Addr) (ET : Str → Option Addr) (Wx : WX) (e : Option Expr) (d : DO) : Prop := ∃ to, PO X e to ∧ IO X.K T ET Wx to d
def wI : W → M Int
  | .int i => rt i
  | _ => stuck
def dNoPart : DO := fun _ => rt none
def dPart (d : DE) : DO := fun ρ => bd (d ρ) fun w => bd (wI w) fun i => rt (some i)
def dSl (f : W → Option Int → Option Int → M W) (d : DE) (lo hi : DO) : DE := fun ρ => bd (d ρ) fun x => bd (lo ρ) fun l => bd (hi ρ) fun h => f x l h
def ISl (K : PySem.W.Frag) (T : List Addr) (r : V → Option Int → Option Int → Hp → VK → Prop) (f : W → Option Int → Option Int → M W) : Prop := ∀ (m : List Addr) (H : Hp) (S : Sto) (x : V) (a : W) (lo hi : Option Int) (Q : VK) (ex : Str → Nat → Sto → Prop), Rel K T m H S → VR K m H x a → (f a lo hi S).post (okV K T m H Q) ex → r x lo hi H Q
section
variable {X : Cx} {T : List Addr} {ET : Str → Option Addr} {Wx : WX} {e o a b c : Expr} {es rest : List Expr} {d d1 d2 d3 : DE} {t t1 t2 : DT} {da : DA} {lo hi : DO} {elo ehi : Option Expr} {x : Str} {pos p apos : Pos}
theorem wI_post {w : W} {S : Sto} {k : Int → Sto → Prop} {x : Str → Nat → Sto → Prop} (h : (wI w S).post k x) : ∃ b, w = .int b ∧ k b S := by
  cases w <;> first | exact ⟨_, rfl, h⟩ | exact h.elim
theorem pdo_none : PDO X T ET Wx none dNoPart := ⟨_, po_none, ⟨fun {L} σ ρ m H S Q E R h => h m H Xt.refl R⟩⟩
theorem pdo_some (h1 : PD X T ET Wx e d) : PDO X T ET Wx (some e) (dPart d) := by
  obtain ⟨ta, pa, ia⟩ := h1
  refine ⟨_, po_some pa, ⟨fun {L} σ ρ m H S Q E R h => ia.run σ ρ m H S _ E R (post_imp (post_bd.mp h) (fun w1 S1 h1 v1 m1 H1 e1 R1 r1 => ?_) fun _ _ _ z => z)⟩⟩
  obtain ⟨i, rfl, h2⟩ := wI_post (post_bd.mp h1)
  cases r1
  exact ⟨i, rfl, h2 m1 H1 e1 R1⟩
theorem pd_slice {r : V → Option Int → Option Int → Hp → VK → Prop} {f : W → Option Int → Option Int → M W} (hr : SlR X r) (is : ISl X.K T r f) (h1 : PD X T ET Wx e d) (h2 : PDO X T ET Wx elo lo) (h3 : PDO X T ET Wx ehi hi) {p2 : Pos} : PD X T ET Wx (.Subscript e (.Slice elo ehi none p2) pos) (dSl f d lo hi) := by
  obtain ⟨ta, pa, ia⟩ := h1
  obtain ⟨tb, pb, ib⟩ := h2
  obtain ⟨tc, pc, ic⟩ := h3
  refine ⟨_, pe_slice hr pa pb pc, ⟨fun {L} σ ρ m H S Q E R h => ia.run σ ρ m H S _ E R (post_imp (post_bd.mp h) (fun w1 S1 h1 v1 m1 H1 e1 R1 r1 => ?_) fun _ _ _ z => z)⟩⟩
  refine ib.run σ ρ m1 H1 S1 _ (E.mono e1) R1 (post_imp (post_bd.mp h1) (fun l S2 h2 m2 H2 e2 R2 => ?_) fun _ _ _ z => z.mono e1)
  refine ic.run σ ρ m2 H2 S2 _ ((E.mono e1).mono e2) R2 (post_imp (post_bd.mp h2) (fun u S3 h3 m3 H3 e3 R3 => ?_) fun _ _ _ z => (z.mono e1).mono e2)
  exact is m3 H3 S3 v1 w1 l u Q _ R3 ((r1.mono e2).mono e3) (post_imp h3 (fun w S' z v m' H' e => z v m' H' (((e1.trans e2).trans e3).trans e)) fun _ _ _ z => z)

/-! ### methods of the built-in list (and others) -/
def tyW (ty : W → M Unit) (f : W → List W → M W) (d : DE) (da : DA) : DE := fun ρ => bd (d ρ) fun x => bd (ty x) fun _ => bd (da ρ) fun xs => f x xs
def IMt (K : PySem.W.Frag) (T : List Addr) (r : V → List V → Hp → VK → Prop) (f : W → List W → M W) : Prop := ∀ (m : List Addr) (H : Hp) (S : Sto) (x : V) (a : W) (xs : List V) (as : List W) (Q : VK) (ex : Str → Nat → Sto → Prop), Rel K T m H S → VR K m H x a → VRs K m H xs as → (f a as S).post (okV K T m H Q) ex → r x xs H Q
def ITy (K : PySem.W.Frag) (T : List Addr) (N : String) (ty : W → M Unit) : Prop := ∀ (m : List Addr) (H : Hp) (S : Sto) (x : V) (a : W) (k : Unit → Sto → Prop) (ex : Str → Nat → Sto → Prop), Rel K T m H S → VR K m H x a → (ty a S).post k ex → tyV K N x H ∧ k () S
theorem pd_bm {N id : String} {name : Str} {r : V → List V → Hp → VK → Prop} {ty : W → M Unit} {f : W → List W → M W} (pa : PlainAttrs N) (slot : Slot N name id) (hty : typeOf (.builtin id) = pure (.type "method_descriptor")) (hm : MtR X id r) (it : ITy X.K T N ty) (im : IMt X.K T r f)
    (h1 : PD X T ET Wx o d) (h2 : PDA X T ET Wx (e :: es) da) (hbase : attributeBase o name X.env (eval o X.env) = eval o X.env := by rfl)
    (hfew : ((backTo pos (starEach (e :: es) X.env)).all (fun x => !x.1) && (backToKw pos (keywordEach [] X.env)).all (fun x => x.1.isSome)
      && decide ((e :: es).length + ([] : List Keyword).length + (if ([] : List Keyword).isEmpty then 0 else 1) < 30)) = true := by rfl)
    (hline : (apos.endLine == pos.line) = true := by rfl) (hs : starEach (e :: es) X.env = (false, eval e X.env) :: starEach es X.env := by rfl) (hplain : (backTo pos (starEach es X.env)).any (·.1) = false := by rfl) :
    PD X T ET Wx (.Call (.Attribute o name apos) (e :: es) [] pos) (tyW ty f d da) := by
  obtain ⟨ta, pa', ia⟩ := h1
  obtain ⟨tb, pb, ib⟩ := h2
  refine ⟨_, pe_bm pa slot hty hm pa' pb hbase hfew hline hs hplain, ⟨fun {L} σ ρ m H S Q E R h => ia.run σ ρ m H S _ E R (post_imp (post_bd.mp h) (fun w1 S1 h1 v1 m1 H1 e1 R1 r1 => ?_) fun _ _ _ z => z)⟩⟩
  obtain ⟨q1, q2⟩ := it m1 H1 S1 v1 w1 _ _ R1 r1 (post_bd.mp h1)
  refine ⟨q1, ib.run σ ρ m1 H1 S1 _ (E.mono e1) R1 (post_imp (post_bd.mp q2) (fun ws S2 h2 vs m2 H2 e2 R2 r2 => ?_) fun _ _ _ z => z.mono e1)⟩
  exact im m2 H2 S2 v1 w1 vs ws Q _ R2 (r1.mono e2) r2 (post_imp h2 (fun w S' z v m' H' e => z v m' H' ((e1.trans e2).trans e)) fun _ _ _ z => z)
theorem pd_bm0 {N id : String} {name : Str} {r : V → List V → Hp → VK → Prop} {ty : W → M Unit} {f : W → List W → M W} (pa : PlainAttrs N) (slot : Slot N name id) (hty : typeOf (.builtin id) = pure (.type "method_descriptor")) (hm : MtR X id r) (it : ITy X.K T N ty) (im : IMt X.K T r f)
    (h1 : PD X T ET Wx o d) (hbase : attributeBase o name X.env (eval o X.env) = eval o X.env := by rfl) (hline : (apos.endLine == pos.line) = true := by rfl) :
    PD X T ET Wx (.Call (.Attribute o name apos) [] [] pos) (tyW ty f d dNil) := by
  obtain ⟨ta, pa', ia⟩ := h1
  refine ⟨_, pe_bm0 pa slot hty hm pa' hbase hline, ⟨fun {L} σ ρ m H S Q E R h => ia.run σ ρ m H S _ E R (post_imp (post_bd.mp h) (fun w1 S1 h1 v1 m1 H1 e1 R1 r1 => ?_) fun _ _ _ z => z)⟩⟩
  obtain ⟨q1, q2⟩ := it m1 H1 S1 v1 w1 _ _ R1 r1 (post_bd.mp h1)
  have h2 : (f w1 [] S1).post _ _ := q2
  exact ⟨q1, im m1 H1 S1 v1 w1 [] [] Q _ R1 r1 .nil (post_imp h2 (fun w S' z v m' H' e => z v m' H' (e1.trans e)) fun _ _ _ z => z)⟩

/-! ### own defs -/
abbrev Fn := List W → M W
/-- what a def promises: n arguments, F -/
def spF (K : PySem.W.Frag) (T : List Addr) (ET : Str → Option Addr) (n : Nat) (F : Fn) : Sp := fun vs H Q E => vs.length = n ∧ ∃ ws m S, VRs K m H vs ws ∧ Rel K T m H S ∧
  (F ws S).post (okV K T m H Q) (fun c j S' => ∀ C d m' H', Xt K m H m' H' → Rel K T m' H' S' → ET c = some C → m'[j]? = some d → E (.ref C) (some d) H')
def dCall (n : Nat) (F : Fn) (da : DA) : DE := fun ρ => bd (da ρ) fun ws => if ws.length = n then F ws else stuck
theorem pd_call {k n : Nat} {f : Addr} {fd : FuncData} {ps : List Str} {F : Fn} (G : FnOk X.prog X.w X.K X.mg X.base (L2.CX X.prog X.w) k f fd ps (spF X.K T ET n F)) (tk : Takes X Wx) (hr : Room k X.A) (hg : Gl X x) (hm : X.mg x = some (.ref f)) (hk : PySem.W.keepIn X.K (.ref f) = true) (hb : Binds X.K fd ps [])
    (h1 : PDA X T ET Wx (e :: es) da) (hdb : (x == ("__debug__" : Str)) = false := by decide) (he : starEach (e :: es) X.env = (false, eval e X.env) :: starEach es X.env := by rfl) (hpl : (backTo pos (starEach es X.env)).any (·.1) = false := by rfl) :
    PD X T ET Wx (.Call (.Name x p) (e :: es) [] pos) (dCall n F da) := by
  obtain ⟨ta, pa, ia⟩ := h1
  refine ⟨_, pe_callS (E := WE Wx) G hr hg hm hk hb (fun σ => passAt tk σ) pa hdb he hpl, ⟨fun {L} σ ρ m H S Q E R h => ia.run σ ρ m H S _ E R (post_imp (post_bd.mp h) (fun ws S1 h1 vs m1 H1 e1 R1 r1 => ?_) fun _ _ _ z => z)⟩⟩
  by_cases hn : ws.length = n
  · rw [if_pos hn] at h1
    exact ⟨by rw [r1.length]; exact hn, ws, m1, S1, r1, R1, post_imp h1 (fun w S' z v m' H' e => z v m' H' (e1.trans e)) fun c j S' z C d m' H' e => z C d m' H' (e1.trans e)⟩
  · rw [if_neg hn] at h1
    exact h1.elim
end

/-! ### statements -/
inductive Fl where
  | nx (ρ : En) | rtn (w : W) | bk (ρ : En) | ct (ρ : En)
abbrev DS := En → M Fl
section
variable (K : PySem.W.Frag) (T : List Addr) (ET : Str → Option Addr) (Wx : WX) (L : Nat)
def okF (m : List Addr) (H : Hp) (D : Ends) : Fl → Sto → Prop
  | .nx ρ, S' => ∀ σ' m' H', Xt K m H m' H' → Rel K T m' H' S' → EnvR K L m' H' σ' ρ → D.nx σ' H'
  | .bk ρ, S' => ∀ σ' m' H', Xt K m H m' H' → Rel K T m' H' S' → EnvR K L m' H' σ' ρ → D.bk σ' H'
  | .ct ρ, S' => ∀ σ' m' H', Xt K m H m' H' → Rel K T m' H' S' → EnvR K L m' H' σ' ρ → D.ct σ' H'
  | .rtn w, S' => ∀ v m' H', Xt K m H m' H' → Rel K T m' H' S' → VR K m' H' v w → D.rt v H'
def exS (m : List Addr) (H : Hp) : Str → Nat → Sto → Prop := fun c n S' => ∀ (σ' : L2.St) C d m' H', σ'.length = L → Xt K m H m' H' → Rel K T m' H' S' → ET c = some C → m'[n]? = some d → Wx (.ref C) (some d) σ' H'
structure IS (ts : TS) (d : DS) : Prop where
  run : ∀ (σ : L2.St) (ρ : En) (m : List Addr) (H : Hp) (S : Sto) (D : Ends), EnvR K L m H σ ρ → Rel K T m H S → (d ρ S).post (okF K T L m H D) (exS K T ET Wx L m H) → ts D σ H
/-- a target -/
structure IG (tg : TG) (d : W → En → M En) : Prop where
  run : ∀ (v : V) (w : W) (σ : L2.St) (ρ : En) (m : List Addr) (H : Hp) (S : Sto) (Q : L2.St → Hp → Prop) (ex : Str → Nat → Sto → Prop), EnvR K L m H σ ρ → Rel K T m H S → VR K m H v w →
    (d w ρ S).post (fun ρ' S' => ∀ σ' m' H', Xt K m H m' H' → Rel K T m' H' S' → EnvR K L m' H' σ' ρ' → Q σ' H') ex → tg v σ H Q
structure IGs (tg : TGs) (d : List W → En → M En) : Prop where
  run : ∀ (vs : List V) (ws : List W) (σ : L2.St) (ρ : En) (m : List Addr) (H : Hp) (S : Sto) (Q : L2.St → Hp → Prop) (ex : Str → Nat → Sto → Prop), EnvR K L m H σ ρ → Rel K T m H S → VRs K m H vs ws →
    (d ws ρ S).post (fun ρ' S' => ∀ σ' m' H', Xt K m H m' H' → Rel K T m' H' S' → EnvR K L m' H' σ' ρ' → Q σ' H') ex → tg vs σ H Q
end
def PDS (X : Cx) (T : List Addr) (ET : Str → Option Addr) (Wx : WX) (st : Stmt) (d : DS) : Prop := ∃ ts, PS X st ts ∧ IS X.K T ET Wx X.N.length ts d
def PDSs (X : Cx) (T : List Addr) (ET : Str → Option Addr) (Wx : WX) (st : List Stmt) (d : DS) : Prop := ∃ ts, PSs X st ts ∧ IS X.K T ET Wx X.N.length ts d
def PDG (X : Cx) (T : List Addr) (e : Expr) (d : W → En → M En) : Prop := ∃ tg, PG X e tg ∧ IG X.K T X.N.length tg d
def PDGs (X : Cx) (T : List Addr) (e : List Expr) (d : List W → En → M En) : Prop := ∃ tg, PGs X e tg ∧ IGs X.K T X.N.length tg d
section
variable {K : PySem.W.Frag} {T : List Addr} {ET : Str → Option Addr} {Wx : WX} {m m' : List Addr} {H H' : Hp} {σ : L2.St} {L : Nat} {D : Ends}
theorem exS.mono {c : Str} {n : Nat} {S : Sto} (e : Xt K m H m' H') (h : exS K T ET Wx L m H c n S) : exS K T ET Wx L m' H' c n S := fun σ' C d m2 H2 hl e2 => h σ' C d m2 H2 hl (e.trans e2)
theorem exS.x {c : Str} {n : Nat} {S : Sto} (hl : σ.length = L) (h : exS K T ET Wx L m H c n S) : exX K T ET Wx σ m H c n S := fun C d m2 H2 e2 => h σ C d m2 H2 hl e2
theorem okF.mono {f : Fl} {S : Sto} (e : Xt K m H m' H') (h : okF K T L m H D f S) : okF K T L m' H' D f S := by
  cases f with
  | nx ρ => exact fun σ' m2 H2 e2 => h σ' m2 H2 (e.trans e2)
  | bk ρ => exact fun σ' m2 H2 e2 => h σ' m2 H2 (e.trans e2)
  | ct ρ => exact fun σ' m2 H2 e2 => h σ' m2 H2 (e.trans e2)
  | rtn w => exact fun v m2 H2 e2 => h v m2 H2 (e.trans e2)
end
/-! the meanings -/
def dNext : DS := fun ρ => rt (.nx ρ)
def dSeq (a b : DS) : DS := fun ρ => bd (a ρ) fun f => match f with
  | .nx ρ' => b ρ'
  | f => rt f
def dAsg (d : DE) (g : W → En → M En) : DS := fun ρ => bd (d ρ) fun w => bd (g w ρ) fun ρ' => rt (.nx ρ')
def dEx (d : DE) : DS := fun ρ => bd (d ρ) fun _ => rt (.nx ρ)
def dRet (d : DE) : DS := fun ρ => bd (d ρ) fun w => rt (.rtn w)
def dRetN : DS := fun _ => rt (.rtn .non)
def dIfS (t : DT) (a b : DS) : DS := fun ρ => bd (t ρ) fun c => if c = true then a ρ else b ρ
def dBrk : DS := fun ρ => rt (.bk ρ)
def dCnt : DS := fun ρ => rt (.ct ρ)
def gN (i : Nat) : W → En → M En := fun w ρ => rt (ρ.set i (some w))
def gNil' : List W → En → M En := fun ws ρ => match ws with
  | [] => rt ρ
  | _ => stuck
def gCons' (g : W → En → M En) (r : List W → En → M En) : List W → En → M En := fun ws ρ => match ws with
  | w :: ws => bd (g w ρ) fun ρ' => r ws ρ'
  | [] => stuck
def gT (n : Nat) (r : List W → En → M En) : W → En → M En := fun w ρ => match w with
  | .tup ws => if ws.length = n then r ws ρ else stuck
  | _ => stuck
section
variable {X : Cx} {T : List Addr} {ET : Str → Option Addr} {Wx : WX} {e o a b c : Expr} {es : List Expr} {d d1 d2 d3 : DE} {t t1 t2 : DT} {da : DA} {x : Str} {pos p apos : Pos} {st : Stmt} {rest body orelse : List Stmt} {s s1 s2 : DS} {g : W → En → M En} {gs : List W → En → M En} {L : Nat} {K : PySem.W.Frag}
theorem is_next : IS K T ET Wx L tNext dNext := ⟨fun σ ρ m H S D E R h => h σ m H Xt.refl R E⟩
theorem pdss_nil : PDSs X T ET Wx [] dNext := ⟨_, pss_nil, is_next⟩
theorem pdss_one (h : PDS X T ET Wx st s) : PDSs X T ET Wx [st] s := let ⟨ts, h1, h2⟩ := h; ⟨ts, pss_one h1, h2⟩
theorem pdss_cons (h1 : PDS X T ET Wx st s1) (h2 : PDSs X T ET Wx rest s2) : PDSs X T ET Wx (st :: rest) (dSeq s1 s2) := by
  obtain ⟨ta, pa, ia⟩ := h1
  obtain ⟨tb, pb, ib⟩ := h2
  refine ⟨_, pss_cons pa pb, ⟨fun σ ρ m H S D E R h => ia.run σ ρ m H S _ E R (post_imp (post_bd.mp h) (fun f S1 h1 => ?_) fun _ _ _ z => z)⟩⟩
  cases f with
  | nx ρ1 => exact fun σ1 m1 H1 e1 R1 E1 => ib.run σ1 ρ1 m1 H1 S1 D E1 R1 (post_imp (show (s2 ρ1 S1).post _ _ from h1) (fun f S2 z => okF.mono e1 z) fun _ _ _ z => z.mono e1)
  | bk ρ1 => exact h1
  | ct ρ1 => exact h1
  | rtn w => exact h1
theorem pds_ret (h1 : PD X T ET Wx e d) : PDS X T ET Wx (.Return (some e) pos) (dRet d) := by
  obtain ⟨ta, pa, ia⟩ := h1
  exact ⟨_, ps_ret pa, ⟨fun σ ρ m H S D E R h => ia.run σ ρ m H S _ E R (post_imp (post_bd.mp h) (fun w S1 h1 v1 m1 H1 e1 R1 r1 => h1 v1 m1 H1 e1 R1 r1) fun _ _ _ z => z.x E.len)⟩⟩
theorem pds_retN : PDS X T ET Wx (.Return none pos) dRetN := ⟨_, ps_retN, ⟨fun σ ρ m H S D E R h => h .non m H Xt.refl R .non⟩⟩
theorem pds_ex (h1 : PD X T ET Wx e d) (hs : swapsWith e none pos.line X.env = pure false := by rfl) : PDS X T ET Wx (.Expr e pos) (dEx d) := by
  obtain ⟨ta, pa, ia⟩ := h1
  exact ⟨_, ps_expr pa hs, ⟨fun σ ρ m H S D E R h => ia.run σ ρ m H S _ E R (post_imp (post_bd.mp h) (fun w S1 h1 v1 m1 H1 e1 R1 r1 => h1 σ m1 H1 e1 R1 (E.mono e1)) fun _ _ _ z => z.x E.len)⟩⟩
theorem pds_if (h0 : PDT X T ET Wx c t) (h1 : PDSs X T ET Wx body s1) (h2 : PDSs X T ET Wx orelse s2) : PDS X T ET Wx (.If c body orelse pos) (dIfS t s1 s2) := by
  obtain ⟨tc, pc, ic⟩ := h0
  obtain ⟨ta, pa, ia⟩ := h1
  obtain ⟨tb, pb, ib⟩ := h2
  refine ⟨_, ps_if pc pa pb, ⟨fun σ ρ m H S D E R h => ic.run σ ρ m H S _ E R (post_imp (post_bd.mp h) (fun k S1 h1 m1 H1 e1 R1 => ?_) fun _ _ _ z => z.x E.len)⟩⟩
  cases k with
  | true => exact ia.run σ ρ m1 H1 S1 D (E.mono e1) R1 (post_imp (show (s1 ρ S1).post _ _ from h1) (fun f S2 z => okF.mono e1 z) fun _ _ _ z => z.mono e1)
  | false => exact ib.run σ ρ m1 H1 S1 D (E.mono e1) R1 (post_imp (show (s2 ρ S1).post _ _ from h1) (fun f S2 z => okF.mono e1 z) fun _ _ _ z => z.mono e1)
theorem pds_brk : PDS X T ET Wx (.Break pos) dBrk := ⟨_, ps_break, ⟨fun σ ρ m H S D E R h => h σ m H Xt.refl R E⟩⟩
theorem pds_cnt : PDS X T ET Wx (.Continue pos) dCnt := ⟨_, ps_continue, ⟨fun σ ρ m H S D E R h => h σ m H Xt.refl R E⟩⟩
theorem pds_pass : PDS X T ET Wx (.Pass pos) dNext := ⟨_, ps_pass, is_next⟩
/-! targets -/
theorem pdg_name {i : Nat} (hN : X.N.Nodup) (hi : X.N[i]? = some x) (hx : Loc X.env.scope x) (hf : X.fn x = true ∨ X.env.scope.names.lookup x = some .local := by first | exact .inl rfl | exact .inr rfl | assumption) : PDG X T (.Name x pos) (gN i) :=
  ⟨_, pg_name hN hi hx hf, ⟨fun v w σ ρ m H S Q ex E R r h => h _ m H Xt.refl R (E.set r)⟩⟩
theorem pdgs_nil : PDGs X T [] gNil' := ⟨_, pgs_nil, ⟨fun vs ws σ ρ m H S Q ex E R r h => by
  cases r with
  | nil => exact ⟨rfl, h σ m H Xt.refl R E⟩
  | cons _ _ _ _ _ _ => exact h.elim⟩⟩
theorem pdgs_cons (h1 : PDG X T e g) (h2 : PDGs X T es gs) (hs : (assignEach (e :: es) X.env).map (·.2) = assign e X.env :: (assignEach es X.env).map (·.2) := by rfl) : PDGs X T (e :: es) (gCons' g gs) := by
  obtain ⟨ta, pa, ia⟩ := h1
  obtain ⟨tb, pb, ib⟩ := h2
  refine ⟨_, pgs_cons pa pb hs, ⟨fun vs ws σ ρ m H S Q ex E R r h => ?_⟩⟩
  cases r with
  | nil => exact h.elim
  | cons v w vs ws r rs =>
    refine ⟨v, vs, rfl, ia.run v w σ ρ m H S _ ex E R r (post_imp (post_bd.mp h) (fun ρ1 S1 h1 σ1 m1 H1 e1 R1 E1 => ?_) fun _ _ _ z => z)⟩
    exact ib.run vs ws σ1 ρ1 m1 H1 S1 Q ex E1 R1 (rs.mono e1) (post_imp h1 (fun ρ2 S2 h2 σ2 m2 H2 e2 => h2 σ2 m2 H2 (e1.trans e2)) fun _ _ _ z => z)
theorem pdg_tup {k n : Nat} (hc : X.calm = true) (h1 : PDGs X T es gs) (hn : (assignEach es X.env).length = n := by rfl) (hst : (assignEach es X.env).findIdx? (·.1) = none := by rfl) : PDG X T (.Tuple es k pos) (gT n gs) := by
  obtain ⟨ta, pa, ia⟩ := h1
  refine ⟨_, pg_tup hc pa hn hst, ⟨fun v w σ ρ m H S Q ex E R r h => ?_⟩⟩
  cases r with
  | tup a xs l h1 h2 =>
    unfold gT at h
    by_cases hl : l.length = n
    · simp only [if_pos hl] at h
      exact ⟨a, xs, rfl, h1, by rw [h2.length]; exact hl, ia.run xs l σ ρ m H S Q ex E R h2 h⟩
    · simp only [if_neg hl] at h
      exact h.elim
  | non => exact h.elim
  | bl _ => exact h.elim
  | int _ => exact h.elim
  | str _ => exact h.elim
  | obj _ _ _ => exact h.elim
  | exc _ _ _ _ _ => exact h.elim
  | kl _ _ _ _ _ => exact h.elim
theorem pds_asg {tg : Expr} (h1 : PD X T ET Wx e d) (h2 : PDG X T tg g) (hs : swapsWithSole [tg] e pos.line X.env = pure false := by rfl) (hw : swappedStores [tg] e X.env = pure none := by rfl)
    (hh : (assignEach [tg] X.env).map (·.2) = [assign tg X.env] := by rfl) : PDS X T ET Wx (.Assign [tg] e pos) (dAsg d g) := by
  obtain ⟨ta, pa, ia⟩ := h1
  obtain ⟨tb, pb, ib⟩ := h2
  refine ⟨_, ps_asg pa pb hs hw hh, ⟨fun σ ρ m H S D E R h => ia.run σ ρ m H S _ E R (post_imp (post_bd.mp h) (fun w S1 h1 v1 m1 H1 e1 R1 r1 => ?_) fun _ _ _ z => z.x E.len)⟩⟩
  exact ib.run v1 w σ ρ m1 H1 S1 _ _ (E.mono e1) R1 r1 (post_imp (post_bd.mp h1) (fun ρ2 S2 h2 σ2 m2 H2 e2 R2 E2 => h2 σ2 m2 H2 (e1.trans e2) R2 E2) fun _ _ _ z => z)
theorem pds_set {i : Nat} {pos' : Pos} (hN : X.N.Nodup) (hi : X.N[i]? = some x) (hx : Loc X.env.scope x) (h1 : PD X T ET Wx e d) (hs : swapsWith e (some (.Name x pos')) pos.line X.env = pure false := by rfl) (hf : X.fn x = true ∨ X.env.scope.names.lookup x = some .local := by first | exact .inl rfl | exact .inr rfl | assumption) :
    PDS X T ET Wx (.Assign [.Name x pos'] e pos) (dAsg d (gN i)) := by
  obtain ⟨ta, pa, ia⟩ := h1
  refine ⟨_, ps_set hN hi hx pa hs hf, ⟨fun σ ρ m H S D E R h => ia.run σ ρ m H S _ E R (post_imp (post_bd.mp h) (fun w S1 h1 v1 m1 H1 e1 R1 r1 => ?_) fun _ _ _ z => z.x E.len)⟩⟩
  exact h1 _ m1 H1 e1 R1 ((E.mono e1).set r1)
/-! x op= e -/
def dAug (i : Nat) (f : W → W → M W) (d : DE) : DS := fun ρ => bd (dVar i ρ) fun x => bd (d ρ) fun y => bd (f x y) fun z => rt (.nx (ρ.set i (some z)))
theorem pds_aug {i : Nat} {pos' : Pos} {op : Operator} {ti : TIp} {f : W → W → M W} (hN : X.N.Nodup) (hi : X.N[i]? = some x) (hx : Loc X.env.scope x) (h1 : PD X T ET Wx e d) (ho : PIp X op ti) (io : IOp X.K T ti f) (hf : X.fn x = true ∨ X.env.scope.names.lookup x = some .local := by first | exact .inl rfl | exact .inr rfl | assumption) :
    PDS X T ET Wx (.AugAssign (.Name x pos') op e pos) (dAug i f d) := by
  obtain ⟨ta, pa, ia⟩ := h1
  refine ⟨_, ps_aug hN hi hx pa ho hf, ⟨fun σ ρ m H S D E R h => ?_⟩⟩
  have h' := post_bd.mp h
  unfold dVar at h'
  cases q : ρ[i]? with
  | none => rw [q] at h'; exact h'.elim
  | some ow =>
    cases ow with
    | none => rw [q] at h'; exact h'.elim
    | some w0 =>
      rw [q] at h'
      obtain ⟨v0, z1, z2⟩ := E.get i w0 q
      refine ⟨v0, z1, ia.run σ ρ m H S _ E R (post_imp (post_bd.mp (show (bd (d ρ) _ S).post _ _ from h')) (fun w S1 h1 v1 m1 H1 e1 R1 r1 => ?_) fun _ _ _ z => z.x E.len)⟩
      exact io m1 H1 S1 v0 v1 w0 w _ _ R1 (z2.mono e1) r1 (post_imp (post_bd.mp h1) (fun w2 S2 h2 v2 m2 H2 e2 R2 r2 => h2 _ m2 H2 (e1.trans e2) R2 (((E.mono e1).mono e2).set r2)) fun _ _ _ z => z)
end
end MP

set_option Elab.async false
set_option linter.all false
set_option maxRecDepth 100000
set_option maxHeartbeats 4000000
/-! MP4: loops, defs. -/
namespace MP
open PySem PySem.Spec PyProof.Rows L2 GxR Gx
/-! ### what is walked -/
structure Wk (K : PySem.W.Frag) (T : List Addr) (J : It) (items : List W) (gd : Sto → Prop) (m0 : List Addr) (H0 : Hp) : Prop where
  go : ∀ m H S i w, Xt K m0 H0 m H → Rel K T m H S → gd S → items[i]? = some w → J.go i H ∧ ∀ x H', J.yld i H x H' → ∃ m', Xt K m H m' H' ∧ Rel K T m' H' S ∧ VR K m' H' x w
  stop : ∀ m H S i, Xt K m0 H0 m H → Rel K T m H S → gd S → items.length ≤ i → J.stop i H
abbrev DI := En → M (List W × (Sto → Prop))
structure II (K : PySem.W.Frag) (T : List Addr) (ET : Str → Option Addr) (Wx : WX) (wi : TI) (d : DI) : Prop where
  run : ∀ {L : Nat} (σ : L2.St) (ρ : En) (m : List Addr) (H : Hp) (S : Sto) (R' : It → Hp → Prop), EnvR K L m H σ ρ → Rel K T m H S →
    (d ρ S).post (fun p S' => ∀ J m' H', Xt K m H m' H' → Rel K T m' H' S' → Wk K T J p.1 p.2 m' H' → R' J H') (exX K T ET Wx σ m H) → wi σ H R'
def PDI (X : Cx) (T : List Addr) (ET : Str → Option Addr) (Wx : WX) (tg e : Expr) (d : DI) : Prop := ∃ wi, PI X tg e wi ∧ II X.K T ET Wx wi d
open Classical in
noncomputable def forD (tg : W → En → M En) (body : DS) (gd : Sto → Prop) : List W → En → M Fl
  | [], ρ => fun S => if gd S then .ok (.nx ρ) S else .stuck
  | w :: ws, ρ => fun S => if gd S then (bd (tg w ρ) fun ρ1 => bd (body ρ1) fun f => match f with
    | .nx ρ2 => forD tg body gd ws ρ2
    | .ct ρ2 => forD tg body gd ws ρ2
    | .bk ρ2 => rt (.nx ρ2)
    | .rtn w => rt (.rtn w)) S else .stuck
noncomputable def dFor (it : DI) (tg : W → En → M En) (body : DS) : DS := fun ρ => bd (it ρ) fun p => forD tg body p.2 p.1 ρ
def whN (c : DT) (body : DS) : Nat → En → M Fl
  | 0, _ => stuck
  | n + 1, ρ => bd (c ρ) fun b => if b = true then bd (body ρ) fun f => match f with
    | .nx ρ2 => whN c body n ρ2
    | .ct ρ2 => whN c body n ρ2
    | .bk ρ2 => rt (.nx ρ2)
    | .rtn w => rt (.rtn w) else rt (.nx ρ)
open Classical in
noncomputable def dWhile (c : DT) (body : DS) : DS := fun ρ S => if h : ∃ n, whN c body n ρ S ≠ .stuck then whN c body h.choose ρ S else .stuck
section
variable {X : Cx} {T : List Addr} {ET : Str → Option Addr} {Wx : WX} {e c iter tgt : Expr} {d : DE} {t : DT} {x : Str} {pos p : Pos} {st : Stmt} {body : List Stmt} {s : DS} {g : W → En → M En} {di : DI}
theorem pds_for (hp : PassesOwn (model X.prog X.w) X.A X.env X.xe) (hc : X.calm = true) (h1 : PDI X T ET Wx tgt iter di) (h2 : PDG X T tgt g) (h3 : PDSs X T ET Wx body s)
    (hs : ∀ x, foldedSetIterable iter X.env x = pure x := by intro _; rfl) : PDS X T ET Wx (.For tgt iter body [] pos) (dFor di g s) := by
  obtain ⟨wi, pi, ii⟩ := h1
  obtain ⟨tg, pg, ig⟩ := h2
  obtain ⟨tb, pb, ib⟩ := h3
  refine ⟨_, ps_for hp hc pi pg pb hs, ⟨fun σ ρ m H S D E R h => ii.run σ ρ m H S _ E R (post_imp (post_bd.mp h) (fun q S1 h1 J m1 H1 e1 R1 wk => ?_) fun _ _ _ z => z.x E.len)⟩⟩
  obtain ⟨items, gd⟩ := q
  refine ⟨fun i mm σ' H' => ∃ ρ' S' m', mm = items.length - i ∧ EnvR X.K X.N.length m' H' σ' ρ' ∧ Rel X.K T m' H' S' ∧ Xt X.K m1 H1 m' H' ∧ (forD g s gd (items.drop i) ρ' S').post (okF X.K T X.N.length m' H' D) (exS X.K T ET Wx X.N.length m' H'),
    ⟨_, ρ, S1, m1, rfl, E.mono e1, R1, Xt.refl, post_imp (show (forD g s gd (items.drop 0) ρ S1).post _ _ by rw [List.drop_zero]; exact h1) (fun f S2 z => okF.mono e1 z) fun _ _ _ z => exS.mono e1 z⟩, fun i mm σ2 H2 hw => ?_⟩
  obtain ⟨ρ2, S2, m2, rfl, E2, R2, x2, h2⟩ := hw
  by_cases hi : items.length ≤ i
  · rw [List.drop_of_length_le hi] at h2
    unfold forD at h2
    by_cases hg : gd S2
    · rw [if_pos hg] at h2
      exact .inl ⟨wk.stop m2 H2 S2 i x2 R2 hg hi, h2 σ2 m2 H2 Xt.refl R2 E2⟩
    · rw [if_neg hg] at h2
      exact h2.elim
  · have hlt : i < items.length := by omega
    rw [List.drop_eq_getElem_cons hlt] at h2
    unfold forD at h2
    by_cases hg : gd S2
    · rw [if_pos hg] at h2
      obtain ⟨go, yl⟩ := wk.go m2 H2 S2 i items[i] x2 R2 hg (List.getElem?_eq_getElem hlt)
      refine .inr ⟨go, fun σ' H' => ∃ ρ' S' m', EnvR X.K X.N.length m' H' σ' ρ' ∧ Rel X.K T m' H' S' ∧ Xt X.K m1 H1 m' H' ∧ (forD g s gd (items.drop (i + 1)) ρ' S').post (okF X.K T X.N.length m' H' D) (exS X.K T ET Wx X.N.length m' H'),
        fun σ' H' hN => ?_, fun v H3 hy => ?_⟩
      · obtain ⟨ρ', S', m', z1, z2, z3, z4⟩ := hN
        exact ⟨_, by omega, ρ', S', m', rfl, z1, z2, z3, z4⟩
      · obtain ⟨m3, e3, R3, r3⟩ := yl v H3 hy
        refine ig.run v items[i] σ2 ρ2 m3 H3 S2 _ _ (E2.mono e3) R3 r3 (post_imp (post_bd.mp h2) (fun ρ4 S4 h4 σ4 m4 H4 e4 R4 E4 => ?_) fun _ _ _ z => z)
        refine ib.run σ4 ρ4 m4 H4 S4 _ E4 R4 (post_imp (post_bd.mp h4) (fun f S5 h5 => ?_) fun _ _ _ z => (z.mono e3).mono e4)
        have e34 := e3.trans e4
        have again : ∀ {ρ5 : En}, (forD g s gd (items.drop (i + 1)) ρ5 S5).post (okF X.K T X.N.length m2 H2 D) (exS X.K T ET Wx X.N.length m2 H2) → ∀ σ5 m5 H5, Xt X.K m4 H4 m5 H5 → Rel X.K T m5 H5 S5 → EnvR X.K X.N.length m5 H5 σ5 ρ5 →
            ∃ ρ' S' m', EnvR X.K X.N.length m' H5 σ5 ρ' ∧ Rel X.K T m' H5 S' ∧ Xt X.K m1 H1 m' H5 ∧ (forD g s gd (items.drop (i + 1)) ρ' S').post (okF X.K T X.N.length m' H5 D) (exS X.K T ET Wx X.N.length m' H5) := fun {ρ5} z σ5 m5 H5 e5 R5 E5 =>
          ⟨ρ5, S5, m5, E5, R5, (x2.trans e34).trans e5, post_imp z (fun f S z => okF.mono (e34.trans e5) z) fun _ _ _ z => z.mono (e34.trans e5)⟩
        cases f with
        | nx ρ5 => exact again h5
        | ct ρ5 => exact again h5
        | bk ρ5 => exact fun σ5 m5 H5 e5 R5 E5 => h5 σ5 m5 H5 (e34.trans e5) R5 E5
        | rtn w => exact fun v5 m5 H5 e5 R5 r5 => h5 v5 m5 H5 (e34.trans e5) R5 r5
    · rw [if_neg hg] at h2
      exact h2.elim
theorem pds_while (hp : PassesOwn (model X.prog X.w) X.A X.env X.xe) (h1 : PDT X T ET Wx c t) (h3 : PDSs X T ET Wx body s) : PDS X T ET Wx (.While c body [] pos) (dWhile t s) := by
  obtain ⟨tc, pc, ic⟩ := h1
  obtain ⟨tb, pb, ib⟩ := h3
  refine ⟨_, ps_while hp pc pb, ⟨fun σ ρ m H S D E R h => ?_⟩⟩
  obtain ⟨n, h⟩ : ∃ n, (whN t s n ρ S).post (okF X.K T X.N.length m H D) (exS X.K T ET Wx X.N.length m H) := by
    unfold dWhile at h
    split at h
    · exact ⟨_, h⟩
    · exact h.elim
  refine ⟨fun n σ' H' => ∃ ρ' S' m', EnvR X.K X.N.length m' H' σ' ρ' ∧ Rel X.K T m' H' S' ∧ Xt X.K m H m' H' ∧ (whN t s n ρ' S').post (okF X.K T X.N.length m' H' D) (exS X.K T ET Wx X.N.length m' H'), ⟨n, ρ, S, m, E, R, Xt.refl, h⟩, fun n σ2 H2 hw => ?_⟩
  obtain ⟨ρ2, S2, m2, E2, R2, x2, h2⟩ := hw
  cases n with
  | zero => exact h2.elim
  | succ n =>
    unfold whN at h2
    refine ic.run σ2 ρ2 m2 H2 S2 _ E2 R2 (post_imp (post_bd.mp h2) (fun b S3 h3 m3 H3 e3 R3 => ?_) fun _ _ _ z => z.x E2.len)
    cases b with
    | false => exact h3 σ2 m3 H3 e3 R3 (E2.mono e3)
    | true =>
      refine ⟨fun σ' H' => ∃ ρ' S' m', EnvR X.K X.N.length m' H' σ' ρ' ∧ Rel X.K T m' H' S' ∧ Xt X.K m H m' H' ∧ (whN t s n ρ' S').post (okF X.K T X.N.length m' H' D) (exS X.K T ET Wx X.N.length m' H'), fun σ' H' z => ⟨n, Nat.lt_succ_self _, z⟩, ?_⟩
      refine ib.run σ2 ρ2 m3 H3 S3 _ (E2.mono e3) R3 (post_imp (post_bd.mp (show (bd (s ρ2) _ S3).post _ _ from h3)) (fun f S5 h5 => ?_) fun _ _ _ z => z.mono e3)
      have again : ∀ {ρ5 : En}, (whN t s n ρ5 S5).post (okF X.K T X.N.length m2 H2 D) (exS X.K T ET Wx X.N.length m2 H2) → ∀ σ5 m5 H5, Xt X.K m3 H3 m5 H5 → Rel X.K T m5 H5 S5 → EnvR X.K X.N.length m5 H5 σ5 ρ5 →
          ∃ ρ' S' m', EnvR X.K X.N.length m' H5 σ5 ρ' ∧ Rel X.K T m' H5 S' ∧ Xt X.K m H m' H5 ∧ (whN t s n ρ' S').post (okF X.K T X.N.length m' H5 D) (exS X.K T ET Wx X.N.length m' H5) := fun {ρ5} z σ5 m5 H5 e5 R5 E5 =>
        ⟨ρ5, S5, m5, E5, R5, (x2.trans e3).trans e5, post_imp z (fun f S z => okF.mono (e3.trans e5) z) fun _ _ _ z => z.mono (e3.trans e5)⟩
      cases f with
      | nx ρ5 => exact again h5
      | ct ρ5 => exact again h5
      | bk ρ5 => exact fun σ5 m5 H5 e5 R5 E5 => h5 σ5 m5 H5 (e3.trans e5) R5 E5
      | rtn w => exact fun v5 m5 H5 e5 R5 r5 => h5 v5 m5 H5 (e3.trans e5) R5 r5
end

/-! ### defs -/
def startW (L : Nat) (ws : List W) : En := ws.map some ++ List.replicate (L - ws.length) none
def runF (L : Nat) (d : DS) : Fn := fun ws => bd (d (startW L ws)) fun f => match f with
  | .nx _ => rt .non
  | .rtn w => rt w
  | _ => stuck
theorem startR {K : PySem.W.Frag} {m : List Addr} {H : Hp} {N : List Str} {vs : List V} {ws : List W} (r : VRs K m H vs ws) (hl : vs.length ≤ N.length) : EnvR K N.length m H (L2.start N vs) (startW N.length ws) := by
  have hw := r.length
  refine ⟨by unfold L2.start; simp; omega, by unfold startW; simp; omega, fun i w q => ?_⟩
  unfold startW at q
  by_cases hi : i < ws.length
  · rw [List.getElem?_append_left (by simpa using hi), List.getElem?_map] at q
    cases z : ws[i]? with
    | none => rw [z] at q; cases q
    | some w' =>
      rw [z] at q
      cases q
      obtain ⟨v, z1, z2⟩ := r.get z
      refine ⟨v, ?_, z2⟩
      unfold L2.start
      rw [List.getElem?_append_left (by simp; omega), List.getElem?_map, z1]
      rfl
  · rw [List.getElem?_append_right (by simp; omega), List.getElem?_replicate] at q
    split at q <;> cases q
section
variable {P : Program} {w : World} {K : PySem.W.Frag} {mg : Str → Option Value} {base : Heap} {T : List Addr} {ET : Str → Option Addr}
/-- a def keeps the promise of its body's meaning -/
theorem fn_mp {k : Nat} {f : Addr} {name qual : Str} {params : Arguments} {body : List Stmt} {scope : Scope} {dV kV doc pm cdv ct oc : Value} {an od : Option Addr} {osl : Array (Option Value)} {N ps : List Str} {d : DS}
    (lk : K.lookup f = some ⟨oc, od, .func (PySem.W.fnOf name qual params body scope dV kV doc pm an cdv ct), osl⟩) (hcd : PySem.W.codeIn K cdv qual = true) (S : FnScope N ps scope) (hN : ps.length ≤ N.length)
    (hb : ∀ (A : Around) (outer : List Env) (s : Shared) (H : Hp) (E : XK), Room k (A.deeper (envOfC qual scope s.heap.objs.size f cdv)) →
      PDSs (cxOf (L2.CX P w) P w K mg base N qual scope f cdv A outer s H E) T ET (fun cls d _ H' => E cls d H') body d) :
    FnOk P w K mg base (L2.CX P w) (k + 1) f (PySem.W.fnOf name qual params body scope dV kV doc pm an cdv ct) ps (spF K T ET ps.length (runF N.length d)) := by
  refine fn_of lk hcd S (fun vs H Q E h => h.1) fun A outer s H vs Q E hr h => ?_
  obtain ⟨hl, ws, m, St, r, R, hp⟩ := h
  obtain ⟨ts, pt, it⟩ := hb A outer s H E hr
  refine ⟨ts, pt, it.run (L2.start N vs) (startW N.length ws) m H St _ (startR r (show vs.length ≤ N.length by omega)) R (post_imp (post_bd.mp hp) (fun f S1 h1 => ?_) fun c n S' z σ' C d m' H' _ => z C d m' H')⟩
  cases f with
  | nx ρ => exact fun σ' m' H' e R' _ => h1 .non m' H' e R' .non
  | bk ρ => exact h1.elim
  | ct ρ => exact h1.elim
  | rtn w => exact h1
theorem fn_stuck {k n : Nat} {f : Addr} {fd : FuncData} {ps : List Str} (hn : ps.length = n) : FnOk P w K mg base (L2.CX P w) k f fd ps (spF K T ET n fun _ => stuck) :=
  ⟨fun vs H Q E h => by rw [hn]; exact h.1, fun A outer s H args us vs Q E hr he hb hv hs => by obtain ⟨_, ws, m, St, _, _, z⟩ := hs; exact z.elim⟩
theorem owns_mp {N : List Str} {qual : Str} {scope : Scope} {f : Addr} {cd : Value} {A : Around} {outer : List Env} {s : Shared} {H : Hp} {E : XK} :
    PassesOwn (model P w) (cxOf (L2.CX P w) P w K mg base N qual scope f cd A outer s H E).A (cxOf (L2.CX P w) P w K mg base N qual scope f cd A outer s H E).env (cxOf (L2.CX P w) P w K mg base N qual scope f cd A outer s H E).xe :=
  passes_of (X := cxOf (L2.CX P w) P w K mg base N qual scope f cd A outer s H E) rfl
theorem takes_mp {N : List Str} {qual : Str} {scope : Scope} {f : Addr} {cd : Value} {A : Around} {outer : List Env} {s : Shared} {H : Hp} {E : XK} :
    Takes (cxOf (L2.CX P w) P w K mg base N qual scope f cd A outer s H E) (fun cls d _ H' => E cls d H') := takes_of rfl rfl rfl rfl
end
end MP

set_option Elab.async false
set_option linter.all false
set_option maxRecDepth 100000
set_option maxHeartbeats 4000000
/-! MP5: raise, try with several named clauses, fields of a caught exception. -/
namespace MP
open PySem PySem.Spec PyProof.Rows L2 GxR Gx
/-! ### raise -/
theorem zip_lookup {K : PySem.W.Frag} {m : List Addr} {H : Hp} : ∀ {l1 : List (Str × V)} {l2 : List (Str × W)}, l1.map (·.1) = l2.map (·.1) → VRs K m H (l1.map (·.2)) (l2.map (·.2)) → FR K m H l1 l2
  | [], [], _, _ => fun f w q => by cases q
  | [], _ :: _, h, _ => by cases h
  | _ :: _, [], h, _ => by cases h
  | (f1, v) :: l1, (f2, w) :: l2, h, r => fun f x q => by
    simp only [List.map_cons, List.cons.injEq] at h
    obtain ⟨rfl, h⟩ := h
    cases r with
    | cons _ _ _ _ r rs =>
      rw [List.lookup_cons] at q ⊢
      cases e : f == f1 with
      | true => rw [e] at q; cases q; exact ⟨v, rfl, r⟩
      | false => rw [e] at q; exact zip_lookup h rs f x q
theorem zip_fr {K : PySem.W.Frag} {m : List Addr} {H : Hp} {fs : List Str} {vs : List V} {ws : List W} (hl : ws.length = fs.length) (r : VRs K m H vs ws) : FR K m H (fs.zip vs).reverse (fs.zip ws).reverse := by
  have hv := r.length
  refine zip_lookup ?_ ?_
  · rw [List.map_reverse, List.map_reverse, List.map_fst_zip (by omega), List.map_fst_zip (by omega)]
  · rw [List.map_reverse, List.map_reverse, List.map_snd_zip (by omega), List.map_snd_zip (by omega)]
    exact r.rev
/-- what an __init__ that keeps its parameters does -/
def spI (C : Addr) (fs : List Str) : Sp := fun vs H Q E => ∃ a ws, vs = .ref a :: ws ∧ ws.length = fs.length ∧ H a = some (exo a C none) ∧ ∀ d, H d = none → d ≠ a → Q .non (upd (upd H a (exo a C (some d))) d (exd d (fs.zip ws).reverse))
def dRaise (c : Str) (fs : List Str) (da : DA) : DS := fun ρ => bd (da ρ) fun ws => if ws.length = fs.length then (fun S => .exn c S.length (S ++ [.xd (fs.zip ws).reverse])) else stuck
section
variable {P : Program} {w : World} {K : PySem.W.Frag} {mg : Str → Option Value} {base : Heap}
variable {k : Nat} {f C : Addr} {name qual : Str} {params : Arguments} {body : List Stmt} {scope : Scope} {dV kV doc pm cdv ct oc : Value} {an od : Option Addr} {osl : Array (Option Value)} {N ps : List Str}
theorem fn_init1 {f1 : Str} (lk : K.lookup f = some ⟨oc, od, .func (PySem.W.fnOf name qual params body scope dV kV doc pm an cdv ct), osl⟩) (hcd : PySem.W.codeIn K cdv qual = true) (S : FnScope N ps scope) (hp : ps.length = 2) (T : OexC K C) (n1 : PySem.W.findIn K (.ref C) f1 = some none)
    (hb : ∀ (A : Around) (outer : List Env) (s : Shared) (H : Hp) (E : XK), PSs (cxOf (L2.CX P w) P w K mg base N qual scope f cdv A outer s H E) body (tOst K f1 (tVar 0) (tVar 1))) :
    FnOk P w K mg base (L2.CX P w) (k + 1) f (PySem.W.fnOf name qual params body scope dV kV doc pm an cdv ct) ps (spI C [f1]) := by
  refine fn_of lk hcd S (fun vs H Q E h => ?_) fun A outer s H vs Q E hr h => ?_
  · obtain ⟨a, ws, rfl, hl, _⟩ := h
    simp at hl ⊢
    omega
  · obtain ⟨a, ws, rfl, hl, ha, q⟩ := h
    obtain ⟨y, rfl⟩ : ∃ y, ws = [y] := by
      match ws, hl with
      | [y], _ => exact ⟨y, rfl⟩
    refine ⟨_, hb A outer s H E, y, rfl, .ref a, rfl, a, C, rfl, T, n1, .inl ⟨ha, fun dx hd hne => ?_⟩⟩
    have e : upd (upd H dx (exd dx [(f1, y)])) a (exo a C (some dx)) = upd (upd H a (exo a C (some dx))) dx (exd dx [(f1, y)]) := by
      funext b
      by_cases h1 : b = a
      · subst h1; rw [upd_same, upd_ne (Ne.symm hne), upd_same]
      · by_cases h2 : b = dx
        · subst h2; rw [upd_ne h1, upd_same, upd_same]
        · rw [upd_ne h1, upd_ne h2, upd_ne h2, upd_ne h1]
    show Q .non (upd (upd H dx (exd dx [(f1, y)])) a (exo a C (some dx)))
    rw [e]
    exact q dx hd hne
theorem fn_init2 {f1 f2 : Str} (lk : K.lookup f = some ⟨oc, od, .func (PySem.W.fnOf name qual params body scope dV kV doc pm an cdv ct), osl⟩) (hcd : PySem.W.codeIn K cdv qual = true) (S : FnScope N ps scope) (hp : ps.length = 3) (T : OexC K C) (n1 : PySem.W.findIn K (.ref C) f1 = some none) (n2 : PySem.W.findIn K (.ref C) f2 = some none)
    (hb : ∀ (A : Around) (outer : List Env) (s : Shared) (H : Hp) (E : XK), PSs (cxOf (L2.CX P w) P w K mg base N qual scope f cdv A outer s H E) body (tSeq (tOst K f1 (tVar 0) (tVar 1)) (tOst K f2 (tVar 0) (tVar 2)))) :
    FnOk P w K mg base (L2.CX P w) (k + 1) f (PySem.W.fnOf name qual params body scope dV kV doc pm an cdv ct) ps (spI C [f1, f2]) := by
  refine fn_of lk hcd S (fun vs H Q E h => ?_) fun A outer s H vs Q E hr h => ?_
  · obtain ⟨a, ws, rfl, hl, _⟩ := h
    simp at hl ⊢
    omega
  · obtain ⟨a, ws, rfl, hl, ha, q⟩ := h
    obtain ⟨y, z, rfl⟩ : ∃ y z, ws = [y, z] := by
      match ws, hl with
      | [y, z], _ => exact ⟨y, z, rfl⟩
    refine ⟨_, hb A outer s H E, y, rfl, .ref a, rfl, a, C, rfl, T, n1, .inl ⟨ha, fun dx hd hne => ?_⟩⟩
    refine ⟨z, rfl, .ref a, rfl, a, C, rfl, T, n2, .inr ⟨dx, [(f1, y)], upd_same, by rw [upd_ne hne, upd_same], by simp, ?_⟩⟩
    have e : upd (upd (upd H dx (exd dx [(f1, y)])) a (exo a C (some dx))) dx (exd dx [(f2, z), (f1, y)]) = upd (upd H a (exo a C (some dx))) dx (exd dx [(f2, z), (f1, y)]) := by
      funext b
      by_cases h2 : b = dx
      · subst h2; rw [upd_same, upd_same]
      · rw [upd_ne h2, upd_ne h2]
        by_cases h1 : b = a
        · subst h1; rw [upd_same, upd_same]
        · rw [upd_ne h1, upd_ne h2, upd_ne h1]
    show Q .non (upd (upd (upd H dx (exd dx [(f1, y)])) a (exo a C (some dx))) dx (exd dx [(f2, z), (f1, y)]))
    rw [e]
    exact q dx hd hne
end
section
variable {X : Cx} {T : List Addr} {ET : Str → Option Addr} {Wx : WX} {e : Expr} {es : List Expr} {da : DA} {x : Str} {pos pos' p : Pos}
theorem pds_raise {c : Str} {C fI : Addr} {k : Nat} {fd : FuncData} {ps fs : List Str} (TC : OexC X.K C) (iC : PySem.W.findIn X.K (.ref C) "__init__" = some (some (.ref fI))) (tI : PySem.W.typeIn X.K (.ref fI) = some (.type "function")) (hET : ET c = some C)
    (F1 : FnOk X.prog X.w X.K X.mg X.base (L2.CX X.prog X.w) k fI fd ps (spI C fs)) (hr : Room (k + 1) X.A) (hb : Binds X.K fd ps []) (hx : Passes (L2.CX X.prog X.w) X (fun _ _ _ => False)) (hc : X.calm = true) (tk : Takes X Wx) (hg : Gl X x) (hm : X.mg x = some (.ref C)) (hf : fs.length ≤ 900)
    (h1 : PDA X T ET Wx (e :: es) da) (hdb : (x == ("__debug__" : Str)) = false := by decide) (he : starEach (e :: es) X.env = (false, eval e X.env) :: starEach es X.env := by rfl) (hpl : (backTo pos (starEach es X.env)).any (·.1) = false := by rfl) :
    PDS X T ET Wx (.Raise (some (.Call (.Name x p) (e :: es) [] pos)) none pos') (dRaise c fs da) := by
  obtain ⟨ta, pa, ia⟩ := h1
  refine ⟨_, ps_raise hc tk (pmk_oex (dvs := []) TC iC tI F1 hr hb .nil hx hg hm pa hdb he hpl), ⟨fun σ ρ m H S D E R h => ia.run σ ρ m H S _ E R (post_imp (post_bd.mp h) (fun ws S1 h1 vs m1 H1 e1 R1 r1 => ?_) fun _ _ _ z => z.x E.len)⟩⟩
  by_cases hl : ws.length = fs.length
  · rw [if_pos hl] at h1
    have hv := r1.length
    refine ⟨by omega, fun a ha => ⟨a, vs, by simp, by omega, upd_same, fun d hd hne => ⟨rfl, d, (fs.zip vs).reverse, by rw [upd_ne (Ne.symm hne), upd_same], upd_same, by rw [upd_ne hne] at hd; exact hd, ?_⟩⟩⟩
    rw [upd_ne hne] at hd
    have eq : upd (del (upd (upd (upd H1 a (exo a C none)) a (exo a C (some d))) d (exd d (fs.zip vs).reverse)) a) d (.xd (fs.zip vs).reverse) = upd H1 d (.xd (fs.zip vs).reverse) := by
      funext b
      by_cases h2 : b = d
      · subst h2; rw [upd_same, upd_same]
      · rw [upd_ne h2, upd_ne h2]
        by_cases h1 : b = a
        · subst h1; rw [del_same, ha]
        · rw [del_ne h1, upd_ne h2, upd_ne h1, upd_ne h1]
    rw [eq]
    have R2 := R1.new (u := .xd (fs.zip vs).reverse) (o := .xd (fs.zip ws).reverse) hd ⟨_, upd_same, zip_fr hl (r1.mono (xt_new hd))⟩
    exact h1 σ C d (m1 ++ [d]) _ E.len (e1.trans (xt_new hd)) R2 hET (by rw [← R1.len, List.getElem?_append_right (Nat.le_refl _)]; simp)
  · rw [if_neg hl] at h1
    exact h1.elim
end
end MP

set_option Elab.async false
set_option linter.all false
set_option maxRecDepth 100000
set_option maxHeartbeats 4000000
/-! MP6: try with several clauses, named or not. -/
namespace MP
open PySem PySem.Spec PyProof.Rows L2 GxR Gx
abbrev Suit := Addr → Value → Option Addr → TS
/-- where a suite whose exception has the slot i goes on -/
def Ends.drop (D : Ends) (i : Nat) : Ends := { nx := fun σ' H' => D.nx (σ'.set i none) H', rt := D.rt, bk := fun σ' H' => D.bk (σ'.set i none) H', ct := fun σ' H' => D.ct (σ'.set i none) H' }
def enter (o : Option Nat) (ts : Suit) (D : Ends) (a : Addr) (cls : Value) (d : Option Addr) (σ : L2.St) (H : Hp) : Prop := match o with
  | none => ts a cls d D σ H
  | some i => ts a cls d (Ends.drop D i) (σ.set i (some (.ref a))) H
def wCls (K : PySem.W.Frag) (Wout : WX) (D : Ends) : List (Value × Option Nat × Suit) → WX
  | [] => Wout
  | c :: r => fun cls d σ H => ∃ b, PySem.W.exmOne K cls c.1 = some b ∧ (b = true → ∀ a, H a = none → enter c.2.1 c.2.2 D a cls d σ H) ∧ (b = false → wCls K Wout D r cls d σ H)
inductive Clauses (X : Cx) : List ExceptHandler → List (Value × Option Nat × Suit) → Prop
  | nil : Clauses X [] []
  | bare {x : Str} {c : Value} {ts : Suit} {b₀ : Stmt} {su : List Stmt} {np p0 : Pos} {hds : List ExceptHandler} {l : List (Value × Option Nat × Suit)} (hc : Names X x c)
      (hsu : ∀ (a : Addr) (oe : Obj) (cls : Value) (d : Option Addr) (pn : List (Addr × Obj)), Zc cls d oe → (∃ vs, oe.data = .fields vs) → PSs (X.suite a ((a, oe) :: pn)) (b₀ :: su) (ts a cls d)) (r : Clauses X hds l) :
      Clauses X (.ExceptHandler (some (.Name x np)) none (b₀ :: su) p0 :: hds) ((c, none, ts) :: l)
  | named {x n : Str} {i : Nat} {c : Value} {ts : Suit} {b₀ : Stmt} {su : List Stmt} {np p0 : Pos} {hds : List ExceptHandler} {l : List (Value × Option Nat × Suit)} (hc : Names X x c) (hN : X.N.Nodup) (hi : X.N[i]? = some n) (hln : X.env.kindOf n = some .local)
      (hsu : ∀ (a : Addr) (oe : Obj) (cls : Value) (d : Option Addr) (pn : List (Addr × Obj)), Zc cls d oe → (∃ vs, oe.data = .fields vs) → PSs (X.suite a ((a, oe) :: pn)) (b₀ :: su) (ts a cls d)) (r : Clauses X hds l) :
      Clauses X (.ExceptHandler (some (.Name x np)) (some n) (b₀ :: su) p0 :: hds) ((c, some i, ts) :: l)
section
variable {X : Cx} {body : List Stmt} {h₀ : ExceptHandler} {hds : List ExceptHandler} {l : List (Value × Option Nat × Suit)} {pos : Pos} {tb : WX → TS} {Wout : WX}
theorem ps_tryC (hst : X.stack = X.env :: X.outer) (hfm : X.env.frame = some X.env.locals) (tk : Takes X Wout)
    (hb : ∀ (W : WX) (pn : List (Addr × Obj)) (xe : Value → Shared → Prop), Takes (X.tr pn xe) W → PassesOwn (model X.prog X.w) X.A X.env xe → PSs (X.tr pn xe) body (tb W))
    (hcl : Clauses X (h₀ :: hds) l) : PS X (.Try body (h₀ :: hds) [] [] pos) (fun D σ H => tb (wCls X.K Wout D l) D σ H) := by
  constructor
  intro pins s σ H D I h
  have okX := I.ok
  have frA : X.A.frames = some (X.env :: X.outer) := by rw [okX.frames, hst]
  apply wpAny_Try_except
  refine wpAny_mono ((hb (wCls X.K Wout D l) (X.pn ++ pins)
    (fun e1 t1 => wpAny (model X.prog X.w) X.A (noteFrame e1 X.env) (fun _ t2 => wpAny (model X.prog X.w) X.A (setFlight e1 none) (fun _ t3 => wpAny (model X.prog X.w) X.A (handleBy e1 X.env (h₀ :: hds)) (SP X pins D) X.xe t3) X.xe t2) X.xe t1)
    (fun u t0 xx => ?_) PassesOwn.looking).run [] s σ H D (I.toTry _) h) (fun fl t0 done => ?_) (fun _ _ out => out)
  · obtain ⟨a, G, sI, pinsA, σA, HA, cls, d, rfl, JA, gnd, upA, skA, naA, osA, agA, wA⟩ := xx
    have J : Inv X pins σA HA sI := JA.ofTry okX
    have sk : Sky G (X.env :: X.outer) a (Zc cls d) X.env.locals t0.heap := by rw [← hst]; exact skA
    show wpAny (model X.prog X.w) X.A (noteFrame (.ref a) X.env) _ _ _
    refine Sky.land Zc.steady frA hfm sk fun hL flL upL => ?_
    have JL : Inv X pins σA HA { t0 with heap := hL } := J.landed gnd flL.1 (upA.trans upL) osA agA
    obtain ⟨oL, vL, heL, hzL, hdL⟩ := flL.there
    have far : a ∉ frs (X.env :: X.outer) := fun mem => by
      obtain ⟨_, ob, eo, no⟩ := flL.2.2.1.mem mem
      rw [heL] at eo
      cases eo
      exact no _ hdL
    have farL : a ≠ X.env.locals := fun z => far (List.mem_filterMap.mpr ⟨X.env, List.mem_cons_self, by rw [hfm, z]⟩)
    have farF : a ∉ X.fs := fun mem => by
      obtain ⟨ev, hev, q⟩ := List.mem_filterMap.mp mem
      exact far (List.mem_filterMap.mpr ⟨ev, List.mem_cons_of_mem _ hev, q⟩)
    have SL := JL.suite heL hdL naA farL farF
    have LT : PySem.W.Looks (model X.prog X.w) hL (typeOf (.ref a)) cls := fun A Q E s k q => wpAny_typeOf_ref (k _ _ heL) (by rw [hzL.1]; exact q)
    have ask : ∀ {x : Str} {c : Value} {np : Pos} {Q E : Value → Shared → Prop}, Names X x c → Q c { t0 with heap := hL } → wpAny (model X.prog X.w) (X.A.mark (some (.ref a))) (eval (.Name x np) X.env) Q E { t0 with heap := hL } := fun {x c np Q E} nm q => by
      obtain ⟨hg, hdb, hm | ⟨hm, hv, hnn⟩⟩ := nm
      · exact ld_glob (X := X.suite a ((a, oL) :: (X.pn ++ pins))) SL hg hm q hdb
      · exact ld_blt (X := X.suite a ((a, oL) :: (X.pn ++ pins))) SL hg hm hv q hnn hdb
    have walk : ∀ {hs2 : List ExceptHandler} {l2 : List (Value × Option Nat × Suit)}, Clauses X hs2 l2 → wCls X.K Wout D l2 cls d σA HA → wpAny (model X.prog X.w) X.A (handleBy (.ref a) X.env hs2) (SP X pins D) X.xe { t0 with heap := hL } := by
      intro hs2 l2 hk
      induction hk with
      | nil =>
        intro wO
        apply wpAny_handleBy_nil
        obtain ⟨_, _, _, ob, vs, T, oT, tv, he, hz, hd, h1, hr⟩ := id flL
        unfold PySem.passOn
        refine wpAny_bind (wpAny_field he hd h1 ?_)
        rw [if_neg (show ¬ ((Value.ref T == Value.none) = true) from by simp)]
        have fin : wpAny (model X.prog X.w) X.A (setFlight (.ref a) X.env.frame) (fun _ s4 => wpAny (model X.prog X.w) X.A (throw (.ref a) : Sem Flow) (SP X pins D) X.xe s4) X.xe { t0 with heap := hL } := by
          rw [hfm]
          exact HandSPX.setFlight_upZ flL fun h4 held up4 => wpAny_throw (tk _ _ ⟨a, G, sI, pins, σA, HA, cls, d, rfl, J, gnd, (upA.trans upL).trans up4, .inr (.inr (by rw [hst]; exact held)), naA, osA, agA, wO⟩)
        first
          | exact wpAny_bind (wpAny_pure (wpAny_bind fin))
          | exact wpAny_bind fin
      | @bare x c ts b₀ su np p0 hs3 l3 hc hsu r ih =>
        intro ww
        obtain ⟨b, eb, yes, no⟩ := ww
        refine wpAny_handleBy_cons (codeAny_handlers_test (ask hc ((PySem.W.exm_one (M := model X.prog X.w) JL.kIn LT eb).here ?_))) (by intro q; cases q)
        cases b with
        | false => exact ih (no rfl)
        | true =>
          refine codeAny_handlers_suite (HandSPX.lands_againZ flL fun h4 fl4 up4 => ?_)
          have J4 : Inv X pins σA HA { t0 with heap := h4 } := J.landed gnd fl4.1 ((upA.trans upL).trans up4) osA agA
          obtain ⟨o4, v4, he4, hz4, hd4⟩ := fl4.there
          have S4 := J4.suite he4 hd4 naA farL farF
          refine wpAny_mono ((hsu a o4 cls d (X.pn ++ pins) hz4 ⟨_, hd4⟩).run [] _ _ HA _ S4 (yes rfl a naA)) (fun fl t6 done => ?_) (fun _ _ z => False.elim z)
          cases fl with
          | ret u => obtain ⟨v6, σ6, H6, S6, r6, q6⟩ := done; exact ⟨_, _, _, S6.unsuite okX, r6, q6⟩
          | next => obtain ⟨σ6, H6, S6, q6⟩ := done; exact ⟨_, _, S6.unsuite okX, q6⟩
          | brk => obtain ⟨σ6, H6, S6, q6⟩ := done; exact ⟨_, _, S6.unsuite okX, q6⟩
          | cont => obtain ⟨σ6, H6, S6, q6⟩ := done; exact ⟨_, _, S6.unsuite okX, q6⟩
      | @named x n i c ts b₀ su np p0 hs3 l3 hc hN hi hln hsu r ih =>
        intro ww
        obtain ⟨b, eb, yes, no⟩ := ww
        refine wpAny_handleBy_cons (codeAny_handlers_test (ask hc ((PySem.W.exm_one (M := model X.prog X.w) JL.kIn LT eb).here ?_))) (by intro q; cases q)
        cases b with
        | false => exact ih (no rfl)
        | true =>
          refine codeAny_handlers_suite_as (HandSPX.lands_againZ flL fun h4 fl4 up4 => ?_)
          have J4 : Inv X pins σA HA { t0 with heap := h4 } := J.landed gnd fl4.1 ((upA.trans upL).trans up4) osA agA
          obtain ⟨o4, v4, he4, hz4, hd4⟩ := fl4.there
          have S4 := J4.suite he4 hd4 naA farL farF
          refine store_ok (X := X.suite a ((a, o4) :: (X.pn ++ pins))) (v := .ref a) S4 hN hi (.inl hln) rfl (fun s5 S5 => ?_) (.inr hln)
          have bye : ∀ {σ6 : L2.St} {H6 : Hp} {t6 : Shared} {Q : Shared → Prop}, Inv (X.suite a ((a, o4) :: (X.pn ++ pins))) [] σ6 H6 t6 → (∀ t7, Inv X pins (σ6.set i none) H6 t7 → Q t7) →
              wpAny (model X.prog X.w) X.A (do bindName X.env n .none; unbindBehindTheSuite X.env n p0) (fun _ t7 => Q t7) X.xe t6 := fun {σ6 H6 t6 Q} S6 hq => gone_ok (S6.unsuite okX) hN hi hln hq
          refine wpAny_mono ((hsu a o4 cls d (X.pn ++ pins) hz4 ⟨_, hd4⟩).run [] s5 _ HA _ S5 (yes rfl a naA)) (fun fl t6 done => ?_) (fun _ _ z => False.elim z)
          cases fl with
          | ret u => obtain ⟨v6, σ6, H6, S6, r6, q6⟩ := done; exact bye S6 fun t7 J7 => ⟨_, _, _, J7, r6, q6⟩
          | next => obtain ⟨σ6, H6, S6, q6⟩ := done; exact bye S6 fun t7 J7 => ⟨_, _, J7, q6⟩
          | brk => obtain ⟨σ6, H6, S6, q6⟩ := done; exact bye S6 fun t7 J7 => ⟨_, _, J7, q6⟩
          | cont => obtain ⟨σ6, H6, S6, q6⟩ := done; exact bye S6 fun t7 J7 => ⟨_, _, J7, q6⟩
    exact walk hcl wA
  · cases fl with
    | ret u => obtain ⟨v, σ', H', J', r, q⟩ := done; exact ⟨v, σ', H', J'.ofTry okX, r, q⟩
    | next => obtain ⟨σ', H', J', q⟩ := done; exact wpAny_execs_nil ⟨σ', H', J'.ofTry okX, q⟩
    | brk => obtain ⟨σ', H', J', q⟩ := done; exact ⟨σ', H', J'.ofTry okX, q⟩
    | cont => obtain ⟨σ', H', J', q⟩ := done; exact ⟨σ', H', J'.ofTry okX, q⟩
end
end MP

set_option Elab.async false
set_option linter.all false
set_option maxRecDepth 100000
set_option maxHeartbeats 4000000
/-! MP7: the meaning itself as a reading; try; fields of a caught exception. -/
namespace MP
open PySem PySem.Spec PyProof.Rows L2 GxR Gx
section
variable (K : PySem.W.Frag) (T : List Addr) (ET : Str → Option Addr) (Wx : WX)
def tsOf (L : Nat) (d : DS) : TS := fun D σ H => ∃ ρ m S, EnvR K L m H σ ρ ∧ Rel K T m H S ∧ (d ρ S).post (okF K T L m H D) (exS K T ET Wx L m H)
def teOf (d : DE) : TE := fun σ H Q => ∃ L ρ m S, EnvR K L m H σ ρ ∧ Rel K T m H S ∧ (d ρ S).post (okV K T m H Q) (exX K T ET Wx σ m H)
def ttOf (d : DT) : TT := fun σ H Q => ∃ L ρ m S, EnvR K L m H σ ρ ∧ Rel K T m H S ∧ (d ρ S).post (okB K T m H Q) (exX K T ET Wx σ m H)
def tgOf (L : Nat) (d : W → En → M En) : TG := fun v σ H Q => ∃ w ρ m S, VR K m H v w ∧ EnvR K L m H σ ρ ∧ Rel K T m H S ∧ (d w ρ S).post (fun ρ' S' => ∀ σ' m' H', Xt K m H m' H' → Rel K T m' H' S' → EnvR K L m' H' σ' ρ' → Q σ' H') fun _ _ _ => True
end
section
variable {X : Cx} {T : List Addr} {ET : Str → Option Addr} {Wx : WX} {e : Expr} {st : Stmt} {sts : List Stmt} {d : DE} {t : DT} {s : DS} {g : W → En → M En} {pos p : Pos}
theorem pss_of (h : PDSs X T ET Wx sts s) : PSs X sts (tsOf X.K T ET Wx X.N.length s) := by
  obtain ⟨ts, p, i⟩ := h
  exact ⟨fun pins sh σ H D I ⟨ρ, m, S, E, R, q⟩ => p.run pins sh σ H D I (i.run σ ρ m H S D E R q)⟩
theorem pe_of (h : PD X T ET Wx e d) : PE X e (teOf X.K T ET Wx d) := by
  obtain ⟨ts, p, i⟩ := h
  exact ⟨fun pins sh σ H Q I ⟨L, ρ, m, S, E, R, q⟩ => p.run pins sh σ H Q I (i.run σ ρ m H S Q E R q)⟩
theorem pt_of (h : PDT X T ET Wx e t) : PT X e (ttOf X.K T ET Wx t) := by
  obtain ⟨ts, p, i⟩ := h
  exact ⟨fun pins sh σ H Q I ⟨L, ρ, m, S, E, R, q⟩ => p.run pins sh σ H Q I (i.run σ ρ m H S Q E R q)⟩
end
/-! ### e.f in a suite -/
def fldOf (n : Nat) (f : Str) : M W := fun S => match S[n]? with
  | some (.xd gs) => match gs.lookup f with
    | some w => .ok w S
    | none => .stuck
  | _ => .stuck
open Classical in
noncomputable def dXf (i : Nat) (a d : Addr) (c : Str) (n : Nat) (f : Str) : DE := fun ρ => if ρ[i]? = some (some (.exc a d c n)) then fldOf n f else stuck
theorem dXf_at {i : Nat} {a d : Addr} {c : Str} {n : Nat} {f : Str} {ρ : En} (h : ρ[i]? = some (some (.exc a d c n))) : dXf i a d c n f ρ = fldOf n f := if_pos h
section
variable {X : Cx} {T : List Addr} {ET : Str → Option Addr} {Wx : WX} {x f : Str} {pos p : Pos}
theorem pd_xf {i : Nat} {a d C : Addr} {c : Str} {n : Nat} {oe : Obj} {pn : List (Addr × Obj)} (hET : ET c = some C) (TC : XfC X.K C) (hno : PySem.W.findIn X.K (.ref C) f = some none) (hz : Zc (.ref C) (some d) oe) (hf : ∃ vs, oe.data = .fields vs)
    (hN : X.N[i]? = some x) (hv : Vis X.env.scope x) (hd : (x == ("__debug__" : Str)) = false := by decide) (hcd : (x == ("__classdict__" : Str)) = false := by decide) (hb : attributeBase (.Name x p) f X.env (eval (.Name x p) X.env) = eval (.Name x p) X.env := by rfl) :
    PD (X.suite a ((a, oe) :: pn)) T ET Wx (.Attribute (.Name x p) f pos) (dXf i a d c n f) := by
  refine ⟨_, pe_xf TC hno hz hf (pe_var (X := X.suite a ((a, oe) :: pn)) hN hv hd hcd) hb, ⟨fun {L} σ ρ m H S Q E R h => ?_⟩⟩
  unfold dXf at h
  by_cases q : ρ[i]? = some (some (.exc a d c n))
  · rw [if_pos q] at h
    obtain ⟨v, z1, z2⟩ := E.get i _ q
    cases z2 with
    | exc _ _ _ _ z3 =>
      refine ⟨.ref a, z1, rfl, rfl, d, ?_⟩
      unfold fldOf at h
      cases q1 : S[n]? with
      | none => rw [q1] at h; exact h.elim
      | some o =>
        obtain ⟨a', h2, h3⟩ := R.obj n o q1
        rw [z3] at h2
        cases h2
        rw [q1] at h
        cases o with
        | xd gs =>
          obtain ⟨fs, k1, k2⟩ := h3
          cases q2 : gs.lookup f with
          | none => simp only [q2] at h; exact h.elim
          | some w =>
            simp only [q2] at h
            obtain ⟨v, k3, k4⟩ := k2 f w q2
            exact ⟨fs, v, rfl, k1, k3, h v m H Xt.refl R k4⟩
        | lst _ => exact h.elim
        | ro _ => exact h.elim
        | dct _ => exact h.elim
  · rw [if_neg q] at h
    exact h.elim
end
/-! ### try -/
def noEx {α : Type} : R α → R α
  | .ok a S => .ok a S
  | _ => .stuck
def dropFl (i : Nat) : Fl → Fl
  | .nx ρ => .nx (ρ.set i none)
  | .bk ρ => .bk (ρ.set i none)
  | .ct ρ => .ct (ρ.set i none)
  | .rtn w => .rtn w
/-- a clause: which classes it takes, its slot, what its suite does -/
structure Cl where
  mt : Str → Option Bool
  dr : Str → Nat → M Fl
def handle (c : Str) (n : Nat) (S : Sto) : List Cl → R Fl
  | [] => .exn c n S
  | k :: r => match k.mt c with
    | some true => noEx (k.dr c n S)
    | some false => handle c n S r
    | none => .stuck
def dTry (b : DS) (cl : List Cl) : DS := fun ρ S => match b ρ S with
  | .exn c n S' => handle c n S' cl
  | r => r
def noW : WX := fun _ _ _ _ => False
/-- ρ of a suite -/
def ρS (L i : Nat) (a d : Addr) (c : Str) (n : Nat) : En := (List.replicate L none).set i (some (.exc a d c n))
inductive DCl (X : Cx) (T : List Addr) (ET : Str → Option Addr) : List ExceptHandler → List Cl → Prop
  | nil : DCl X T ET [] []
  | bare {x : Str} {cv : Value} {mt : Str → Option Bool} {ds : DS} {b₀ : Stmt} {su : List Stmt} {np p0 : Pos} {hds : List ExceptHandler} {l : List Cl} (hc : Names X x cv) (hmt : ∀ c C b, ET c = some C → mt c = some b → PySem.W.exmOne X.K (.ref C) cv = some b)
      (hsu : ∀ (a : Addr) (oe : Obj) (pn : List (Addr × Obj)), PDSs (X.suite a ((a, oe) :: pn)) T ET noW (b₀ :: su) ds) (r : DCl X T ET hds l) :
      DCl X T ET (.ExceptHandler (some (.Name x np)) none (b₀ :: su) p0 :: hds) (⟨mt, fun _ _ => ds (List.replicate X.N.length none)⟩ :: l)
  | named {x y : Str} {i : Nat} {cv : Value} {mt : Str → Option Bool} {ds : Addr → Addr → Str → Nat → DS} {dr : Str → Nat → M Fl} {b₀ : Stmt} {su : List Stmt} {np p0 : Pos} {hds : List ExceptHandler} {l : List Cl} (hc : Names X x cv)
      (hmt : ∀ c C b, ET c = some C → mt c = some b → PySem.W.exmOne X.K (.ref C) cv = some b) (hN : X.N.Nodup) (hi : X.N[i]? = some y) (hln : X.env.kindOf y = some .local)
      (hsu : ∀ (a d C : Addr) (c : Str) (n : Nat) (oe : Obj) (pn : List (Addr × Obj)), ET c = some C → mt c = some true → Zc (.ref C) (some d) oe → (∃ vs, oe.data = .fields vs) → PDSs (X.suite a ((a, oe) :: pn)) T ET noW (b₀ :: su) (ds a d c n))
      (hdr : ∀ a d c n ρ, ρ[i]? = some (some (.exc a d c n)) → ds a d c n ρ = dr c n) (r : DCl X T ET hds l) :
      DCl X T ET (.ExceptHandler (some (.Name x np)) (some y) (b₀ :: su) p0 :: hds) (⟨mt, fun c n S => match dr c n S with | .ok f S' => .ok (dropFl i f) S' | r => r⟩ :: l)
theorem env0 {K : PySem.W.Frag} {m : List Addr} {H : Hp} {L : Nat} {σ : L2.St} (h : σ.length = L) : EnvR K L m H σ (List.replicate L none) :=
  ⟨h, by simp, fun i w q => by
    rw [List.getElem?_replicate] at q
    split at q <;> cases q⟩
section
variable {X : Cx} {T : List Addr} {ET : Str → Option Addr} {Wx : WX} {body : List Stmt} {h₀ : ExceptHandler} {hds : List ExceptHandler} {cl : List Cl} {pos : Pos} {db : DS}
theorem dcl_clauses (h : DCl X T ET hds cl) : ∃ l, Clauses X hds l ∧ ∀ (D : Ends) (c : Str) (n : Nat) (S : Sto) (σ : L2.St) (C d : Addr) (m : List Addr) (H : Hp), σ.length = X.N.length → Rel X.K T m H S → ET c = some C → m[n]? = some d →
    (handle c n S cl).post (okF X.K T X.N.length m H D) (exS X.K T ET Wx X.N.length m H) → wCls X.K Wx D l (.ref C) (some d) σ H := by
  induction h with
  | nil => exact ⟨[], .nil, fun D c n S σ C d m H hl R hC hm q => (show exS X.K T ET Wx X.N.length m H c n S from q) σ C d m H hl Xt.refl R hC hm⟩
  | @bare x cv mt ds b₀ su np p0 hds l hc hmt hsu r ih =>
    obtain ⟨l', cl', ih⟩ := ih
    refine ⟨(cv, none, fun _ _ _ => tsOf X.K T ET noW X.N.length ds) :: l', .bare hc (fun a oe cls d pn _ _ => pss_of (hsu a oe pn)) cl', fun D c n S σ C d m H hl R hC hm q => ?_⟩
    unfold handle at q
    cases e : mt c with
    | none => simp only [e] at q; exact q.elim
    | some b =>
      simp only [e] at q
      refine ⟨b, hmt c C b hC e, fun hb a ha => ?_, fun hb => ?_⟩
      · subst hb
        refine ⟨_, m, S, env0 hl, R, ?_⟩
        have q' : (noEx (ds (List.replicate X.N.length none) S)).post (okF X.K T X.N.length m H D) (exS X.K T ET Wx X.N.length m H) := q
        cases z : ds (List.replicate X.N.length none) S with
        | ok f S' => rw [z] at q'; exact q'
        | stuck => rw [z] at q'; exact q'.elim
        | exn _ _ _ => rw [z] at q'; exact q'.elim
      · subst hb
        exact ih D c n S σ C d m H hl R hC hm q
  | @named x y i cv mt ds dr b₀ su np p0 hds l hc hmt hN hi hln hsu hdr r ih =>
    obtain ⟨l', cl', ih⟩ := ih
    refine ⟨(cv, some i, fun a cls d D σ H => ∃ C dd c n, cls = .ref C ∧ d = some dd ∧ ET c = some C ∧ mt c = some true ∧ tsOf X.K T ET noW X.N.length (ds a dd c n) D σ H) :: l', .named hc hN hi hln (fun a oe cls d pn hz hf => ?_) cl', fun D c n S σ C d m H hl R hC hm q => ?_⟩
    · exact ⟨fun pins sh σ H D I ⟨C, dd, c, n, e1, e2, e3, e4, q⟩ => by
        subst e1
        subst e2
        exact (pss_of (hsu a dd C c n oe pn e3 e4 hz hf)).run pins sh σ H D I q⟩
    · unfold handle at q
      cases e : mt c with
      | none => simp only [e] at q; exact q.elim
      | some b =>
        simp only [e] at q
        refine ⟨b, hmt c C b hC e, fun hb a ha => ?_, fun hb => ?_⟩
        · subst hb
          refine ⟨C, d, c, n, rfl, rfl, hC, e, ρS X.N.length i a d c n, m, S, (env0 hl).set (.exc a d c n hm), R, ?_⟩
          have hlt : i < X.N.length := (List.getElem?_eq_some_iff.mp hi).1
          rw [hdr a d c n (ρS X.N.length i a d c n) (by unfold ρS; rw [List.getElem?_set_self (by simpa using hlt)])]
          cases z : dr c n S with
          | ok f S' =>
            have q' : okF X.K T X.N.length m H D (dropFl i f) S' := by
              simp only [z] at q
              exact q
            cases f with
            | nx ρ => exact fun σ' m' H' e' R' E' => q' _ m' H' e' R' E'.unset
            | bk ρ => exact fun σ' m' H' e' R' E' => q' _ m' H' e' R' E'.unset
            | ct ρ => exact fun σ' m' H' e' R' E' => q' _ m' H' e' R' E'.unset
            | rtn w => exact q'
          | stuck => simp only [z] at q; exact q.elim
          | exn _ _ _ => simp only [z] at q; exact q.elim
        · subst hb
          exact ih D c n S σ C d m H hl R hC hm q
theorem pds_try (hst : X.stack = X.env :: X.outer) (hfm : X.env.frame = some X.env.locals) (tk : Takes X Wx)
    (hb : ∀ (W : WX) (pn : List (Addr × Obj)) (xe : Value → Shared → Prop), Takes (X.tr pn xe) W → PassesOwn (model X.prog X.w) X.A X.env xe → PDSs (X.tr pn xe) T ET W body db) (hcl : DCl X T ET (h₀ :: hds) cl) :
    PDS X T ET Wx (.Try body (h₀ :: hds) [] [] pos) (dTry db cl) := by
  obtain ⟨l, k1, k2⟩ := dcl_clauses (Wx := Wx) hcl
  refine ⟨_, ps_tryC (tb := fun W => tsOf X.K T ET W X.N.length db) hst hfm tk (fun W pn xe t o => pss_of (hb W pn xe t o)) k1, ⟨fun σ ρ m H S D E R h => ⟨ρ, m, S, E, R, ?_⟩⟩⟩
  unfold dTry at h
  cases z : db ρ S with
  | ok f S' => simp only [z] at h; exact h
  | stuck => simp only [z] at h; exact h.elim
  | exn c n S' =>
    simp only [z] at h
    exact fun σ' C d m' H' hl e R' hC hm => k2 D c n S' σ' C d m' H' hl R' hC hm (post_imp h (fun f S2 z => okF.mono e z) fun _ _ _ z => exS.mono e z)
end
end MP

set_option Elab.async false
set_option linter.all false
set_option maxRecDepth 100000
set_option maxHeartbeats 4000000
/-! MP8: comprehensions, generator expressions. -/
namespace MP
open PySem PySem.Spec PyProof.Rows L2 GxR Gx
theorem wipe_get (σ : L2.St) (i : Nat) : ∀ vs : List Nat, (wipe σ vs)[i]? = if i ∈ vs then (if i < σ.length then some none else none) else σ[i]?
  | [] => by simp [wipe]
  | v :: vs => by
    unfold wipe
    by_cases h : i = v
    · subst h
      rw [if_pos List.mem_cons_self]
      by_cases hl : i < σ.length
      · rw [if_pos hl, List.getElem?_set_self (by rw [wipe_length]; exact hl)]
      · rw [if_neg hl, List.getElem?_eq_none (by rw [List.length_set, wipe_length]; omega)]
    · rw [List.getElem?_set_ne (Ne.symm h), wipe_get σ i vs]
      by_cases hm : i ∈ vs
      · rw [if_pos hm, if_pos (List.mem_cons_of_mem _ hm)]
      · rw [if_neg hm, if_neg (by simp [h, hm])]
theorem wipe_eq {σ σ' : L2.St} {vs : List Nat} (hl : σ.length = σ'.length) (h : ∀ i, i ∉ vs → σ[i]? = σ'[i]?) : wipe σ vs = wipe σ' vs := by
  refine List.ext_getElem? fun i => ?_
  rw [wipe_get, wipe_get, hl]
  by_cases hm : i ∈ vs
  · rw [if_pos hm, if_pos hm]
  · rw [if_neg hm, if_neg hm, h i hm]
theorem wipe2 (σ : L2.St) (vs : List Nat) : wipe (wipe σ vs) vs = wipe σ vs := wipe_eq (wipe_length σ vs) fun i hi => by rw [wipe_get, if_neg hi]
theorem wipe_put {σ : L2.St} {vs : List Nat} {i : Nat} {v : Option V} (hi : i ∈ vs) : wipe (σ.set i v) vs = wipe σ vs := wipe_eq (by simp) fun j hj => List.getElem?_set_ne fun e => hj (by rw [← e]; exact hi)
/-! ### targets that keep to their own slots -/
def OwnG (vs : List Nat) (tg : TG) : Prop := ∀ v σ H (Q Q' : L2.St → Hp → Prop), tg v σ H Q → (∀ σ' H', wipe σ' vs = wipe σ vs → Q σ' H' → Q' σ' H') → tg v σ H Q'
def OwnGs (vs : List Nat) (tg : TGs) : Prop := ∀ v σ H (Q Q' : L2.St → Hp → Prop), tg v σ H Q → (∀ σ' H', wipe σ' vs = wipe σ vs → Q σ' H' → Q' σ' H') → tg v σ H Q'
def PDGO (X : Cx) (T : List Addr) (vs : List Nat) (e : Expr) (d : W → En → M En) : Prop := ∃ tg, PG X e tg ∧ (∀ L, IG X.K T L tg d) ∧ OwnG vs tg
def PDGOs (X : Cx) (T : List Addr) (vs : List Nat) (e : List Expr) (d : List W → En → M En) : Prop := ∃ tg, PGs X e tg ∧ (∀ L, IGs X.K T L tg d) ∧ OwnGs vs tg
section
variable {X : Cx} {T : List Addr} {ET : Str → Option Addr} {Wx : WX} {e c : Expr} {es : List Expr} {d : DE} {t : DT} {g : W → En → M En} {gs : List W → En → M En} {x : Str} {pos p : Pos} {vs : List Nat}
theorem pdgo_name {i : Nat} (hN : X.N.Nodup) (hi : X.N[i]? = some x) (hx : Loc X.env.scope x) (hv : i ∈ vs) (hf : X.fn x = true ∨ X.env.scope.names.lookup x = some .local := by first | exact .inl rfl | exact .inr rfl | assumption) : PDGO X T vs (.Name x pos) (gN i) :=
  ⟨_, pg_name hN hi hx hf, fun L => ⟨fun v w σ ρ m H S Q ex E R r h => h _ m H Xt.refl R (E.set r)⟩, fun v σ H Q Q' h k => k _ _ (wipe_put hv) h⟩
theorem pdgos_nil : PDGOs X T vs [] gNil' := ⟨_, pgs_nil, fun L => ⟨fun vs ws σ ρ m H S Q ex E R r h => by
  cases r with
  | nil => exact ⟨rfl, h σ m H Xt.refl R E⟩
  | cons _ _ _ _ _ _ => exact h.elim⟩, fun v σ H Q Q' h k => ⟨h.1, k _ _ rfl h.2⟩⟩
theorem pdgos_cons (h1 : PDGO X T vs e g) (h2 : PDGOs X T vs es gs) (hs : (assignEach (e :: es) X.env).map (·.2) = assign e X.env :: (assignEach es X.env).map (·.2) := by rfl) : PDGOs X T vs (e :: es) (gCons' g gs) := by
  obtain ⟨ta, pa, ia, oa⟩ := h1
  obtain ⟨tb, pb, ib, ob⟩ := h2
  refine ⟨_, pgs_cons pa pb hs, fun L => ⟨fun vs ws σ ρ m H S Q ex E R r h => ?_⟩, fun v σ H Q Q' h => ?_⟩
  · cases r with
    | nil => exact h.elim
    | cons v w vs ws r rs =>
      refine ⟨v, vs, rfl, (ia L).run v w σ ρ m H S _ ex E R r (post_imp (post_bd.mp h) (fun ρ1 S1 h1 σ1 m1 H1 e1 R1 E1 => ?_) fun _ _ _ z => z)⟩
      exact (ib L).run vs ws σ1 ρ1 m1 H1 S1 Q ex E1 R1 (rs.mono e1) (post_imp h1 (fun ρ2 S2 h2 σ2 m2 H2 e2 => h2 σ2 m2 H2 (e1.trans e2)) fun _ _ _ z => z)
  · intro k
    obtain ⟨x, xs, rfl, h⟩ := h
    exact ⟨x, xs, rfl, oa x σ H _ _ h fun σ1 H1 w1 h1 => ob xs σ1 H1 _ _ h1 fun σ2 H2 w2 h2 => k σ2 H2 (w2.trans w1) h2⟩
theorem pdgo_tup {k n : Nat} (hc : X.calm = true) (h1 : PDGOs X T vs es gs) (hn : (assignEach es X.env).length = n := by rfl) (hst : (assignEach es X.env).findIdx? (·.1) = none := by rfl) : PDGO X T vs (.Tuple es k pos) (gT n gs) := by
  obtain ⟨ta, pa, ia, oa⟩ := h1
  refine ⟨_, pg_tup hc pa hn hst, fun L => ⟨fun v w σ ρ m H S Q ex E R r h => ?_⟩, fun v σ H Q Q' h k => ?_⟩
  · cases r with
    | tup a xs l h1 h2 =>
      unfold gT at h
      by_cases hl : l.length = n
      · simp only [if_pos hl] at h
        exact ⟨a, xs, rfl, h1, by rw [h2.length]; exact hl, (ia L).run xs l σ ρ m H S Q ex E R h2 h⟩
      · simp only [if_neg hl] at h
        exact h.elim
    | non => exact h.elim
    | bl _ => exact h.elim
    | int _ => exact h.elim
    | str _ => exact h.elim
    | obj _ _ _ => exact h.elim
    | exc _ _ _ _ _ => exact h.elim
    | kl _ _ _ _ _ => exact h.elim
  · obtain ⟨a, xs, rfl, q1, q2, q3⟩ := h
    exact ⟨a, xs, rfl, q1, q2, oa xs σ H _ _ q3 k⟩
end
section
variable (K : PySem.W.Frag) (T : List Addr)
def tgO (vs : List Nat) (d : W → En → M En) : TG := fun v σ H Q => ∃ L w ρ m S, VR K m H v w ∧ EnvR K L m H σ ρ ∧ Rel K T m H S ∧
  (d w ρ S).post (fun ρ' S' => ∀ σ' m' H', wipe σ' vs = wipe σ vs → Xt K m H m' H' → Rel K T m' H' S' → EnvR K L m' H' σ' ρ' → Q σ' H') fun _ _ _ => False
end
theorem pgo_of {X : Cx} {T : List Addr} {vs : List Nat} {e : Expr} {g : W → En → M En} (h : PDGO X T vs e g) : PG X e (tgO X.K T vs g) := by
  obtain ⟨tg, p, i, o⟩ := h
  refine ⟨fun pins sh σ H v u Q I r ⟨L, w, ρ, m, S, r1, E, R, q⟩ => p.run pins sh σ H v u Q I r (o v σ H (fun σ' H' => wipe σ' vs = wipe σ vs → Q σ' H') Q ?_ fun σ' H' w k => k w)⟩
  exact (i L).run v w σ ρ m H S _ _ E R r1 (post_imp q (fun ρ' S' k σ' m' H' e R' E' z => k σ' m' H' z e R' E') fun _ _ _ z => z)
/-! ### the tests of a clause -/
def dYes : DT := fun _ => rt true
def PDTs (X : Cx) (T : List Addr) (ET : Str → Option Addr) (Wx : WX) (ifs : List Expr) (t : DT) : Prop := ∃ tt, PTs X ifs tt ∧ IT X.K T ET Wx tt t
section
variable {X : Cx} {T : List Addr} {ET : Str → Option Addr} {Wx : WX} {c : Expr} {t : DT}
theorem pdts_nil : PDTs X T ET Wx [] dYes := ⟨_, pts_nil, ⟨fun {L} σ ρ m H S Q E R h => h m H Xt.refl R⟩⟩
theorem pdts_one (h : PDT X T ET Wx c t) : PDTs X T ET Wx [c] t := let ⟨tt, p, i⟩ := h; ⟨tt, pts_one p, i⟩
theorem pts_of {ifs : List Expr} (h : PDTs X T ET Wx ifs t) : PTs X ifs (ttOf X.K T ET Wx t) := by
  obtain ⟨ts, p, i⟩ := h
  exact ⟨fun pins sh σ H Q I ⟨L, ρ, m, S, E, R, q⟩ => p.run pins sh σ H Q I (i.run σ ρ m H S Q E R q)⟩
end
/-! ### the loops -/
def noX {α : Type} (m : M α) : M α := fun S => noEx (m S)
theorem noX_post {α : Type} {m : M α} {S : Sto} {k : α → Sto → Prop} {x x' : Str → Nat → Sto → Prop} (h : (noX m S).post k x) : (m S).post k x' := by
  unfold noX at h
  cases e : m S with
  | ok a S' => rw [e] at h; exact h
  | stuck => rw [e] at h; exact h.elim
  | exn _ _ _ => rw [e] at h; exact h.elim
/-- a step's value, none where the tests say no -/
def stepD (tg : W → En → M En) (tt : DT) (te : DE) (ρ : En) (w : W) : M (Option W) := bd (noX (tg w ρ)) fun ρ1 => bd (noX (tt ρ1)) fun b => if b = true then bd (noX (te ρ1)) fun y => rt (some y) else rt none
def push (n : Nat) (y : W) : M Unit := fun S => match S[n]? with
  | some (.lst l) => if l.length < 100000 then .ok () (S.set n (.lst (l ++ [y]))) else .stuck
  | _ => .stuck
open Classical in
noncomputable def lcD (st : W → M (Option W)) (gd : Sto → Prop) (n : Nat) : List W → M W
  | [] => fun S => if gd S then .ok (.obj n) S else .stuck
  | w :: ws => fun S => if gd S then (bd (st w) fun o => match o with
    | some y => bd (push n y) fun _ => lcD st gd n ws
    | none => lcD st gd n ws) S else .stuck
noncomputable def dLc (it : DI) (tg : W → En → M En) (tt : DT) (te : DE) (vs : List Nat) : DE := fun ρ => bd (it ρ) fun p => fun S => lcD (stepD tg tt te (wipeW ρ vs)) p.2 S.length p.1 (S ++ [.lst []])
section
variable {X : Cx} {T : List Addr} {ET : Str → Option Addr} {Wx : WX} {elt tg iter : Expr} {ifs : List Expr} {scope : Scope} {own : List (Str × Nat)} {pos : Pos} {di : DI} {g : W → En → M En} {t : DT} {d : DE}
theorem ie_lc {K : PySem.W.Frag} {wi : TI} {vs : List Nat} (ii : II K T ET Wx wi di) : IE K T ET Wx (tLc wi (tgO K T vs g) (ttOf K T ET noW t) (teOf K T ET noW d) vs) (dLc di g t d vs) := by
  refine ⟨fun {L} σ ρ m H S Q E R h => ii.run σ ρ m H S _ E R (post_imp (post_bd.mp h) (fun q S1 h1 J m1 H1 e1 R1 wk D hD => ?_) fun _ _ _ z => z)⟩
  obtain ⟨items, gd⟩ := q
  obtain ⟨e2, R2, r2⟩ := mk_new (o := .lst []) R1 hD ⟨[], upd_same, .nil⟩
  have hD2 : (m1 ++ [D])[S1.length]? = some D := by cases r2; assumption
  have e2' : Xt K m1 H1 (m1 ++ [D]) (upd H1 D (.lst [])) := e2
  refine ⟨fun i mm H' => ∃ S' m', mm = items.length - i ∧ Rel K T m' H' S' ∧ Xt K (m1 ++ [D]) (upd H1 D (.lst [])) m' H' ∧ (lcD (stepD g t d (wipeW ρ vs)) gd S1.length (items.drop i) S').post (okV K T m' H' Q) (exX K T ET Wx σ m' H'),
    ⟨_, _, _, rfl, R2, Xt.refl, ?_⟩, fun i mm H2 hw => ?_⟩
  · rw [List.drop_zero]
    exact post_imp h1 (fun w S2 z v m' H' e => z v m' H' ((e1.trans e2).trans e)) fun _ _ _ z => (z.mono e1).mono e2
  obtain ⟨S2, m2, rfl, R3, x2, h2⟩ := hw
  by_cases hi : items.length ≤ i
  · rw [List.drop_of_length_le hi] at h2
    unfold lcD at h2
    by_cases hg : gd S2
    · rw [if_pos hg] at h2
      exact .inl ⟨wk.stop m2 H2 S2 i (e2'.trans x2) R3 hg hi, h2 _ m2 H2 Xt.refl R3 (.obj _ _ (x2.get hD2))⟩
    · rw [if_neg hg] at h2
      exact h2.elim
  · have hlt : i < items.length := by omega
    rw [List.drop_eq_getElem_cons hlt] at h2
    unfold lcD at h2
    by_cases hg : gd S2
    · rw [if_pos hg] at h2
      obtain ⟨go, yl⟩ := wk.go m2 H2 S2 i items[i] (e2'.trans x2) R3 hg (List.getElem?_eq_getElem hlt)
      refine .inr ⟨go, fun H' => ∃ S' m', Rel K T m' H' S' ∧ Xt K (m1 ++ [D]) (upd H1 D (.lst [])) m' H' ∧ (lcD (stepD g t d (wipeW ρ vs)) gd S1.length (items.drop (i + 1)) S').post (okV K T m' H' Q) (exX K T ET Wx σ m' H'), fun H' hN => ?_, fun v H3 hy => ?_⟩
      · obtain ⟨S', m', z1, z2, z3⟩ := hN
        exact ⟨_, by omega, S', m', rfl, z1, z2, z3⟩
      · obtain ⟨m3, e3, R3, r3⟩ := yl v H3 hy
        have E3 : EnvR K L m3 H3 (wipe σ vs) (wipeW ρ vs) := (((E.mono e1).mono (e2'.trans x2)).mono e3).wipe _
        refine ⟨L, items[i], _, m3, S2, r3, E3, R3, ?_⟩
        refine post_imp (noX_post (post_bd.mp (post_bd.mp h2))) (fun ρ4 S4 h4 σ4 m4 H4 w4 e4 R4 E4 => ⟨w4.trans (wipe2 _ _), L, ρ4, m4, S4, E4, R4, ?_⟩) fun _ _ _ z => z
        refine post_imp (noX_post (post_bd.mp h4)) (fun b S5 h5 m5 H5 e5 R5 => ?_) fun _ _ _ z => z
        have e35 := (e3.trans e4).trans e5
        cases b with
        | false =>
          exact ⟨S5, m5, R5, x2.trans e35, post_imp (show (lcD _ gd S1.length (items.drop (i + 1)) S5).post _ _ from h5) (fun w S z v m' H' e => z v m' H' (e35.trans e)) fun _ _ _ z => z.mono e35⟩
        | true =>
          refine ⟨L, ρ4, m5, S5, E4.mono e5, R5, ?_⟩
          refine post_imp (noX_post (post_bd.mp (show (bd (noX (d ρ4)) (fun y => rt (some y)) S5).post _ _ from h5))) (fun y S6 h6 v6 m6 H6 e6 R6 r6 => ?_) fun _ _ _ z => z
          have e36 := e35.trans e6
          have hm6 : m6[S1.length]? = some D := (x2.trans e36).get hD2
          have h7 : (bd (push S1.length y) (fun _ => lcD (stepD g t d (wipeW ρ vs)) gd S1.length (items.drop (i + 1))) S6).post (okV K T m2 H2 Q) (exX K T ET Wx σ m2 H2) := h6
          have h8 := post_bd.mp h7
          unfold push at h8
          cases q1 : S6[S1.length]? with
          | none => rw [q1] at h8; exact h8.elim
          | some o =>
            rw [q1] at h8
            cases o with
            | lst l =>
              by_cases hl : l.length < 100000
              · simp only [if_pos hl] at h8
                obtain ⟨a', z1, acc, z2, z3⟩ := R6.obj _ _ q1
                rw [hm6] at z1
                cases z1
                have sz : acc.length < sizeLine := by rw [z3.length]; exact Nat.lt_of_lt_of_le hl (by decide)
                have xp : Xt K m6 H6 m6 (upd H6 D (.lst (acc ++ [v6]))) := xt_put z2 (fun xs z => by cases z) fun ob xs z => by cases z
                have R7 := R6.put (u := .lst (acc ++ [v6])) (so := .lst (l ++ [y])) hm6 z2 (fun xs z => by cases z) (fun ob xs z => by cases z) (fun ps z => by cases z) ⟨_, upd_same, (z3.mono xp).app (.one (r6.mono xp))⟩
                exact ⟨acc, z2, sz, _, m6, R7, (x2.trans e36).trans xp, post_imp h8 (fun w S z v m' H' e => z v m' H' ((e36.trans xp).trans e)) fun _ _ _ z => (z.mono e36).mono xp⟩
              · simp only [if_neg hl] at h8
                exact h8.elim
            | ro _ => exact h8.elim
            | dct _ => exact h8.elim
            | xd _ => exact h8.elim
    · rw [if_neg hg] at h2
      exact h2.elim
theorem pd_lc (hc : X.calm = true) (hN : X.N.Nodup) (hi : PDI X T ET Wx tg iter di) (ok : BlkOk X.N X.env.scope scope own)
    (hg : ∀ (s : Shared) (H : Hp) (C : Addr) (cl : List (Str × Addr)) (fp : List Addr), PDGO (X.blk s H scope (compEnvC scope cl C X.env) fp) T (own.map (·.2)) tg g)
    (ht : ∀ (s : Shared) (H : Hp) (C : Addr) (cl : List (Str × Addr)) (fp : List Addr), PDTs (X.blk s H scope (compEnvC scope cl C X.env) fp) T ET noW ifs t)
    (he : ∀ (s : Shared) (H : Hp) (C : Addr) (cl : List (Str × Addr)) (fp : List Addr), PD (X.blk s H scope (compEnvC scope cl C X.env) fp) T ET noW elt d)
    (hs : ∀ x, foldedSetIterable iter X.env x = pure x := by intro _; rfl) : PD X T ET Wx (.ListComp elt [⟨tg, iter, ifs, 0⟩] scope pos) (dLc di g t d (own.map (·.2))) := by
  obtain ⟨wi, pi, ii⟩ := hi
  exact ⟨_, pe_lc (g := tgO X.K T (own.map (·.2)) g) (tt := ttOf X.K T ET noW t) (te := teOf X.K T ET noW d) hc hN pi ok (fun s H C cl fp => pgo_of (hg s H C cl fp)) (fun s H C cl fp => pts_of (ht s H C cl fp)) (fun s H C cl fp => pe_of (he s H C cl fp)) hs, ie_lc ii⟩
/-- name = [..] on one line, the name a local -/
theorem pds_setLc {i : Nat} {y : Str} {py spos : Pos} (hy : X.N[i]? = some y) (hyl : X.env.scope.names.lookup y = some .local) (hk : X.env.scope.kind = .function) (hl : (py.line == pos.line) = true) (ha : (scope.names.any fun (n, k) => n == y && (k == .local || k == .cell)) = false) (hc : X.calm = true) (hN : X.N.Nodup) (hi : PDI X T ET Wx tg iter di) (ok : BlkOk X.N X.env.scope scope own)
    (hg : ∀ (s : Shared) (H : Hp) (C : Addr) (cl : List (Str × Addr)) (fp : List Addr), PDGO (X.blk s H scope (compEnvC scope cl C X.env) fp) T (own.map (·.2)) tg g)
    (ht : ∀ (s : Shared) (H : Hp) (C : Addr) (cl : List (Str × Addr)) (fp : List Addr), PDTs (X.blk s H scope (compEnvC scope cl C X.env) fp) T ET noW ifs t)
    (he : ∀ (s : Shared) (H : Hp) (C : Addr) (cl : List (Str × Addr)) (fp : List Addr), PD (X.blk s H scope (compEnvC scope cl C X.env) fp) T ET noW elt d)
    (hs : ∀ x, foldedSetIterable iter X.env x = pure x := by intro _; rfl) : PDS X T ET Wx (.Assign [.Name y py] (.ListComp elt [⟨tg, iter, ifs, 0⟩] scope pos) spos) (dAsg (dLc di g t d (own.map (·.2))) (gN i)) := by
  obtain ⟨wi, pi, ii⟩ := hi
  refine ⟨_, ps_setLc (g := tgO X.K T (own.map (·.2)) g) (tt := ttOf X.K T ET noW t) (te := teOf X.K T ET noW d) hc hN hy hyl (sw_true hk hyl hl ha) pi ok (fun s H C cl fp => pgo_of (hg s H C cl fp)) (fun s H C cl fp => pts_of (ht s H C cl fp)) (fun s H C cl fp => pe_of (he s H C cl fp)) hs, ⟨fun σ ρ m H S D E R h => ?_⟩⟩
  exact (ie_lc ii).run σ ρ m H S _ E R (post_imp (post_bd.mp h) (fun w S1 h1 v1 m1 H1 e1 R1 r1 => h1 _ m1 H1 e1 R1 ((E.mono e1).set r1)) fun _ _ _ z => z.x E.len)
end
end MP

set_option Elab.async false
set_option linter.all false
set_option maxRecDepth 100000
set_option maxHeartbeats 4000000
/-! MP9: generator expressions in tuple, any, all. -/
namespace MP
open PySem PySem.Spec PyProof.Rows L2 GxR Gx
open Classical in
noncomputable def gxU (okY hit : W → Bool) (st : W → M (Option W)) (gd : Sto → Prop) : List W → List W → M (List W × Bool)
  | acc, [] => fun S => if gd S then .ok (acc, false) S else .stuck
  | acc, w :: ws => fun S => if gd S ∧ acc.length < 100000 then (bd (st w) fun o => match o with
    | some y => if okY y = true then (if hit y = true then rt (acc ++ [y], true) else gxU okY hit st gd (acc ++ [y]) ws) else stuck
    | none => gxU okY hit st gd acc ws) S else .stuck
def isB : W → Bool
  | .bl _ => true
  | _ => false
def isT : W → Bool
  | .bl b => b
  | _ => false
def isF : W → Bool
  | .bl b => !b
  | _ => false
noncomputable def dTupG (it : DI) (tg : W → En → M En) (tt : DT) (te : DE) (vs : List Nat) : DE := fun ρ => bd (it ρ) fun p => bd (gxU (fun _ => true) (fun _ => false) (stepD tg tt te (wipeW ρ vs)) p.2 [] p.1) fun q => rt (.tup q.1)
noncomputable def dAnyG (it : DI) (tg : W → En → M En) (tt : DT) (te : DE) (vs : List Nat) : DE := fun ρ => bd (it ρ) fun p => bd (gxU isB isT (stepD tg tt te (wipeW ρ vs)) p.2 [] p.1) fun q => rt (.bl q.2)
noncomputable def dAllG (it : DI) (tg : W → En → M En) (tt : DT) (te : DE) (vs : List Nat) : DE := fun ρ => bd (it ρ) fun p => bd (gxU isB isF (stepD tg tt te (wipeW ρ vs)) p.2 [] p.1) fun q => rt (.bl (!q.2))
section
variable {K : PySem.W.Frag} {T : List Addr} {ET : Str → Option Addr} {Wx : WX} {wi : TI} {di : DI} {g : W → En → M En} {t : DT} {d : DE} {vs : List Nat} {P : Addr}
theorem tgx_run {okY hit : W → Bool} {cont : V → Bool} {fin : List V → Hp → Prop} {yld : List V → V → Hp → Prop} {L : Nat} {σ : L2.St} {ρ : En} {m : List Addr} {H : Hp} {S : Sto} (hP : P ∈ T) (ii : II K T ET Wx wi di)
    (hc : ∀ v w m H, VR K m H v w → okY w = true → cont v = true → hit w = false) (hy : ∀ ys v w m H, VR K m H v w → okY w = true → hit w = false → yld ys v H) (E : EnvR K L m H σ ρ) (R : Rel K T m H S)
    (h : (bd (di ρ) (fun p => gxU okY hit (stepD g t d (wipeW ρ vs)) p.2 [] p.1) S).post
      (fun q S' => ∀ us m' H', Xt K m H m' H' → Rel K T m' H' S' → VRs K m' H' us q.1 → if q.2 = true then ∀ ini v, us = ini ++ [v] → (∃ w, okY w = true ∧ hit w = true ∧ VR K m' H' v w) → yld ini v H' else fin us H') (exX K T ET Wx σ m H)) :
    tGx P wi (tgO K T vs g) (ttOf K T ET noW t) (teOf K T ET noW d) vs cont σ H fin yld := by
  refine ii.run σ ρ m H S _ E R (post_imp (post_bd.mp h) (fun q S1 h1 J m1 H1 e1 R1 wk => ⟨R1.tab P hP, fun H1' hT => ?_⟩) fun _ _ _ z => z)
  obtain ⟨items, gd⟩ := q
  have eT : Xt K m1 H1 m1 H1' := xt_tab (R1.tab P hP) hT
  have RT := R1.tabbed (R1.tab P hP) hT
  refine ⟨fun i mm ys H' => ∃ S' m' acc, mm = items.length - i ∧ Rel K T m' H' S' ∧ Xt K m1 H1' m' H' ∧ VRs K m' H' ys acc ∧ (gxU okY hit (stepD g t d (wipeW ρ vs)) gd acc (items.drop i) S').post
      (fun q S' => ∀ us m2 H2, Xt K m' H' m2 H2 → Rel K T m2 H2 S' → VRs K m2 H2 us q.1 → if q.2 = true then ∀ ini v, us = ini ++ [v] → (∃ w, okY w = true ∧ hit w = true ∧ VR K m2 H2 v w) → yld ini v H2 else fin us H2) (fun _ _ _ => True), ⟨_, S1, m1, [], rfl, RT, Xt.refl, .nil, ?_⟩, fun i mm ys H2 hw => ?_⟩
  · rw [List.drop_zero]
    exact post_imp h1 (fun q S' k us m2 H2 e2 => k us m2 H2 ((e1.trans eT).trans e2)) fun _ _ _ _ => trivial
  obtain ⟨S2, m2, acc, rfl, R3, x2, rs, h2⟩ := hw
  by_cases hi : items.length ≤ i
  · rw [List.drop_of_length_le hi] at h2
    unfold gxU at h2
    by_cases hg : gd S2
    · rw [if_pos hg] at h2
      have k := h2 ys m2 H2 Xt.refl R3 rs
      exact .inl ⟨wk.stop m2 H2 S2 i (eT.trans x2) R3 hg hi, k⟩
    · rw [if_neg hg] at h2
      exact h2.elim
  · have hlt : i < items.length := by omega
    rw [List.drop_eq_getElem_cons hlt] at h2
    unfold gxU at h2
    by_cases hg : gd S2 ∧ acc.length < 100000
    · rw [if_pos hg] at h2
      obtain ⟨go, yl⟩ := wk.go m2 H2 S2 i items[i] (eT.trans x2) R3 hg.1 (List.getElem?_eq_getElem hlt)
      refine .inr ⟨go, by rw [rs.length]; exact Nat.lt_of_lt_of_le hg.2 (by decide), fun ys' H' => ∃ S' m' acc, Rel K T m' H' S' ∧ Xt K m1 H1' m' H' ∧ VRs K m' H' ys' acc ∧ (gxU okY hit (stepD g t d (wipeW ρ vs)) gd acc (items.drop (i + 1)) S').post
        (fun q S' => ∀ us m2 H2, Xt K m' H' m2 H2 → Rel K T m2 H2 S' → VRs K m2 H2 us q.1 → if q.2 = true then ∀ ini v, us = ini ++ [v] → (∃ w, okY w = true ∧ hit w = true ∧ VR K m2 H2 v w) → yld ini v H2 else fin us H2) (fun _ _ _ => True), fun ys' H' hN => ?_, fun v H3 hy' => ?_⟩
      · obtain ⟨S', m', acc', z1, z2, z3, z4⟩ := hN
        exact ⟨_, by omega, S', m', acc', rfl, z1, z2, z3, z4⟩
      · obtain ⟨m3, e3, R3', r3⟩ := yl v H3 hy'
        have E3 : EnvR K L m3 H3 (wipe σ vs) (wipeW ρ vs) := (((E.mono e1).mono (eT.trans x2)).mono e3).wipe _
        refine ⟨L, items[i], _, m3, S2, r3, E3, R3', ?_⟩
        refine post_imp (noX_post (post_bd.mp (post_bd.mp h2))) (fun ρ4 S4 h4 σ4 m4 H4 w4 e4 R4 E4 => ⟨w4.trans (wipe2 _ _), L, ρ4, m4, S4, E4, R4, ?_⟩) fun _ _ _ z => z
        refine post_imp (noX_post (post_bd.mp h4)) (fun b S5 h5 m5 H5 e5 R5 => ?_) fun _ _ _ z => z
        have e35 := (e3.trans e4).trans e5
        cases b with
        | false =>
          exact ⟨S5, m5, acc, R5, x2.trans e35, rs.mono e35, post_imp (show (gxU okY hit _ gd acc (items.drop (i + 1)) S5).post _ _ from h5) (fun q S' k us m' H' e => k us m' H' (e35.trans e)) fun _ _ _ z => z⟩
        | true =>
          refine ⟨L, ρ4, m5, S5, E4.mono e5, R5, ?_⟩
          refine post_imp (noX_post (post_bd.mp (show (bd (noX (d ρ4)) (fun y => rt (some y)) S5).post _ _ from h5))) (fun y S6 h6 v6 m6 H6 e6 R6 r6 => ?_) fun _ _ _ z => z
          have e36 := e35.trans e6
          have h7 : ((if okY y = true then (if hit y = true then rt (acc ++ [y], true) else gxU okY hit (stepD g t d (wipeW ρ vs)) gd (acc ++ [y]) (items.drop (i + 1))) else stuck : M (List W × Bool)) S6).post _ _ := h6
          by_cases ho : okY y = true
          · rw [if_pos ho] at h7
            have rs6 : VRs K m6 H6 (ys ++ [v6]) (acc ++ [y]) := (rs.mono e36).app (.one r6)
            by_cases hh : hit y = true
            · rw [if_pos hh] at h7
              have k := h7 (ys ++ [v6]) m6 H6 e36 R6 rs6
              have k' : ∀ ini v, ys ++ [v6] = ini ++ [v] → (∃ w, okY w = true ∧ hit w = true ∧ VR K m6 H6 v w) → yld ini v H6 := k
              exact ⟨k' ys v6 rfl ⟨y, ho, hh, r6⟩, fun hcv => by rw [hc v6 y m6 H6 r6 ho hcv] at hh; cases hh⟩
            · rw [if_neg hh] at h7
              have hh' : hit y = false := by simpa using hh
              exact ⟨hy ys v6 y m6 H6 r6 ho hh', fun _ => ⟨S6, m6, acc ++ [y], R6, x2.trans e36, rs6, post_imp h7 (fun q S' k us m' H' e => k us m' H' (e36.trans e)) fun _ _ _ z => z⟩⟩
          · rw [if_neg ho] at h7
            exact h7.elim
    · rw [if_neg hg] at h2
      exact h2.elim
end
section
variable {X : Cx} {T : List Addr} {ET : Str → Option Addr} {Wx : WX} {elt tg iter : Expr} {ifs : List Expr} {scope : Scope} {own : List (Str × Nat)} {pos p gpos : Pos} {di : DI} {g : W → En → M En} {t : DT} {d : DE}
/-- what a generator expression is made of -/
structure DG (X : Cx) (T : List Addr) (ET : Str → Option Addr) (Wx : WX) (kr : Nat) (P : Addr) (e : Expr) (di : DI) (g : W → En → M En) (t : DT) (d : DE) (vs : List Nat) : Prop where
  mem : P ∈ T
  gx : ∃ wi, II X.K T ET Wx wi di ∧ GX X (kr + 1) e (fun cont σ H fin yld => tGx P wi (tgO X.K T vs g) (ttOf X.K T ET noW t) (teOf X.K T ET noW d) vs cont σ H fin yld)
theorem dg_of {c P : Addr} {kr : Nat} (hP : P ∈ T) (hroom : X.A.depth < recursionLimit) (TB : TabB X.base X.mg c P) (hcode : X.env.code = .ref c) (hN : X.N.Nodup) (hco : scope.isCoroutine = false) (h0 : scope.names.lookup (".0" : Str) = some NameKind.local) (hcell : ∀ y ∈ scope.names, y.2 ≠ .cell)
    (ok : BlkOk X.N X.env.scope scope own) (hi : PDI X T ET Wx tg iter di)
    (hg : ∀ (s : Shared) (H : Hp) (C : Addr) (cl : List (Str × Addr)) (code : Value) (A : Around) (fp : List Addr) (pn : List (Addr × Obj)), Room kr (A.deeper (genEnv scope cl C code builtinsNs X.env)) → PDGO (gcx X s H (genEnv scope cl C code builtinsNs X.env) scope A fp pn) T (own.map (·.2)) tg g)
    (ht : ∀ (s : Shared) (H : Hp) (C : Addr) (cl : List (Str × Addr)) (code : Value) (A : Around) (fp : List Addr) (pn : List (Addr × Obj)), Room kr (A.deeper (genEnv scope cl C code builtinsNs X.env)) → PDTs (gcx X s H (genEnv scope cl C code builtinsNs X.env) scope A fp pn) T ET noW ifs t)
    (he : ∀ (s : Shared) (H : Hp) (C : Addr) (cl : List (Str × Addr)) (code : Value) (A : Around) (fp : List Addr) (pn : List (Addr × Obj)), Room kr (A.deeper (genEnv scope cl C code builtinsNs X.env)) → PD (gcx X s H (genEnv scope cl C code builtinsNs X.env) scope A fp pn) T ET noW elt d)
    (hs : ∀ v, genFold iter X.env v = pure v := by intro _; rfl) : DG X T ET Wx kr P (.GeneratorExp elt [⟨tg, iter, ifs, 0⟩] scope gpos) di g t d (own.map (·.2)) := by
  obtain ⟨wi, pi, ii⟩ := hi
  exact ⟨hP, wi, ii, gx_ge hroom TB hcode hN hco h0 hcell ok pi (fun s H C cl code A fp pn r => pgo_of (hg s H C cl code A fp pn r)) (fun s H C cl code A fp pn r => pts_of (ht s H C cl code A fp pn r)) (fun s H C cl code A fp pn r => pe_of (he s H C cl code A fp pn r)) hs⟩
theorem pd_tupG {kr : Nat} {P : Addr} {e : Expr} {vs : List Nat} (h : DG X T ET Wx kr P e di g t d vs) (hr : Room (kr + 6) X.A) (hg : Gl X "tuple") (hm : X.mg "tuple" = none)
    (he : starEach [e] X.env = (false, eval e X.env) :: starEach [] X.env := by rfl) : PD X T ET Wx (.Call (.Name "tuple" p) [e] [] pos) (dTupG di g t d vs) := by
  obtain ⟨hP, wi, ii, gx⟩ := h
  refine ⟨_, pe_tupG gx hr hg hm he, ⟨fun {L} σ ρ m H S Q E R h => ?_⟩⟩
  refine tgx_run hP ii (okY := fun _ => true) (hit := fun _ => false) (fun _ _ _ _ _ _ _ => rfl) (fun _ _ _ _ _ _ _ _ => trivial) E R ?_
  refine post_bd.mpr (post_imp (post_bd.mp h) (fun q S1 h1 => post_imp (post_bd.mp h1) (fun l S2 h2 us m2 H2 e2 R2 r2 => ?_) fun _ _ _ z => z) fun _ _ _ z => z)
  cases hl : l.2 with
  | true => rw [if_pos rfl]; exact fun _ _ _ _ => trivial
  | false =>
    rw [if_neg (by simp)]
    intro p hp
    have e3 : Xt X.K m2 H2 m2 (upd H2 p (.tup us)) := xt_new0 hp
    exact h2 (.ref p) m2 _ (e2.trans e3) (R2.new0 hp) (.tup p us l.1 (SqT.of upd_same) (r2.mono e3))
theorem vr_isT {K : PySem.W.Frag} {m : List Addr} {H : Hp} {v : V} {w : W} (r : VR K m H v w) (h : isB w = true) : ∃ b, v = .bl b ∧ w = .bl b := by
  cases r <;> first | exact ⟨_, rfl, rfl⟩ | cases h
theorem pd_anyG {kr : Nat} {P : Addr} {e : Expr} {vs : List Nat} (h : DG X T ET Wx kr P e di g t d vs) (hr : Room (kr + 4) X.A) (hg : Gl X "any") (hm : X.mg "any" = none)
    (he : starEach [e] X.env = (false, eval e X.env) :: starEach [] X.env := by rfl) : PD X T ET Wx (.Call (.Name "any" p) [e] [] pos) (dAnyG di g t d vs) := by
  obtain ⟨hP, wi, ii, gx⟩ := h
  refine ⟨_, pe_anyG gx hr hg hm he, ⟨fun {L} σ ρ m H S Q E R h => ?_⟩⟩
  refine tgx_run hP ii (okY := isB) (hit := isT) (fun v w m H r ho hc => ?_) (fun ys v w m H r ho hh => ?_) E R ?_
  · obtain ⟨b, rfl, rfl⟩ := vr_isT r ho
    cases b
    · rfl
    · simp at hc
  · obtain ⟨b, rfl, rfl⟩ := vr_isT r ho
    exact ⟨b, rfl, fun z => by subst z; cases hh⟩
  refine post_bd.mpr (post_imp (post_bd.mp h) (fun q S1 h1 => post_imp (post_bd.mp h1) (fun l S2 h2 us m2 H2 e2 R2 r2 => ?_) fun _ _ _ z => z) fun _ _ _ z => z)
  have k : (okV X.K T m H Q) (.bl l.2) S2 := h2
  cases hl : l.2 with
  | true =>
    rw [if_pos rfl]
    rintro ini v hv ⟨w, ho, hh, r⟩
    obtain ⟨b, rfl, rfl⟩ := vr_isT r ho
    rw [hl] at k
    exact ⟨b, rfl, fun _ => k (.bl true) m2 H2 e2 R2 (.bl true)⟩
  | false =>
    rw [if_neg (by simp)]
    rw [hl] at k
    exact k (.bl false) m2 H2 e2 R2 (.bl false)
theorem pd_allG {kr : Nat} {P : Addr} {e : Expr} {vs : List Nat} (h : DG X T ET Wx kr P e di g t d vs) (hr : Room (kr + 4) X.A) (hg : Gl X "all") (hm : X.mg "all" = none)
    (he : starEach [e] X.env = (false, eval e X.env) :: starEach [] X.env := by rfl) : PD X T ET Wx (.Call (.Name "all" p) [e] [] pos) (dAllG di g t d vs) := by
  obtain ⟨hP, wi, ii, gx⟩ := h
  refine ⟨_, pe_allG gx hr hg hm he, ⟨fun {L} σ ρ m H S Q E R h => ?_⟩⟩
  refine tgx_run hP ii (okY := isB) (hit := isF) (fun v w m H r ho hc => ?_) (fun ys v w m H r ho hh => ?_) E R ?_
  · obtain ⟨b, rfl, rfl⟩ := vr_isT r ho
    cases b
    · simp at hc
    · rfl
  · obtain ⟨b, rfl, rfl⟩ := vr_isT r ho
    exact ⟨b, rfl, fun z => by subst z; cases hh⟩
  refine post_bd.mpr (post_imp (post_bd.mp h) (fun q S1 h1 => post_imp (post_bd.mp h1) (fun l S2 h2 us m2 H2 e2 R2 r2 => ?_) fun _ _ _ z => z) fun _ _ _ z => z)
  have k : (okV X.K T m H Q) (.bl (!l.2)) S2 := h2
  cases hl : l.2 with
  | true =>
    rw [if_pos rfl]
    rintro ini v hv ⟨w, ho, hh, r⟩
    obtain ⟨b, rfl, rfl⟩ := vr_isT r ho
    rw [hl] at k
    exact ⟨b, rfl, fun _ => k (.bl false) m2 H2 e2 R2 (.bl false)⟩
  | false =>
    rw [if_neg (by simp)]
    rw [hl] at k
    exact k (.bl true) m2 H2 e2 R2 (.bl true)
end
end MP

set_option Elab.async false
set_option linter.all false
set_option maxRecDepth 100000
set_option maxHeartbeats 4000000
/-! MP10: what is walked: tuples, lists, texts, range, enumerate, zip. -/
namespace PySem
open Sem (wp)
theorem enumB_new {v : Value} {o : Obj} {H : Heap → Prop} (B : Begins v o H) :
    Meets (Builtin.«enumerate.__new__» ⟨[.type "enumerate", v], []⟩) (fun _ R s => H s.heap ∧ R (.ok (.ret (.ref (s.heap.push o).objs.size)))
      { s with heap := (s.heap.push o).push { cls := .type "enumerate", data := .fields #[.none, .bool false, .ref s.heap.objs.size, rawInt 0, .none, .none] } }) := by
  refine .of_wp fun prog w A R s h => ?_
  obtain ⟨hp, g, d, tk, os⟩ := s
  obtain ⟨h1, h2⟩ := h
  have sub0 := sub_enumerate
  have beg : ∀ {A' : Around} {E : Value → Shared → Prop} {Q : Value → Shared → Prop}, Q (.ref hp.objs.size) ⟨hp.push o, g, d, tk, os⟩ → wpAny (model prog w) A' (pyIter v) Q E ⟨hp, g, d, tk, os⟩ :=
    fun q => B.iter prog w _ _ ⟨hp, g, d, tk, os⟩ _ h1 q
  wp_walk using beg
  refine wpAny_stack_any fun _ => wpAny_pure ?_
  split
  · rename_i cc _ _ _ _ _
    cases (cc == Value.type "enumerate") <;>
    · wp_walk using beg
      exact ⟨_, rfl, h2⟩
  · wp_walk using beg
    exact ⟨_, rfl, h2⟩
section
variable {prog : Program} {w : World} {A : Around} {E : Value → Shared → Prop} {s : Shared}
theorem enumB_call {v : Value} {o : Obj} {H : Heap → Prop} {Q : Value → Shared → Prop} (B : Begins v o H) (h1 : H s.heap)
    (h : ∀ h', IsEnum h' (s.heap.objs.size + 1) s.heap.objs.size 0 .none → h'.get? s.heap.objs.size = some o → h'.objs.size = s.heap.objs.size + 2 → (∀ b u, s.heap.get? b = some u → h'.get? b = some u) → Q (.ref (s.heap.objs.size + 1)) { s with heap := h' }) :
    wpAny (model prog w) A (call (.type "enumerate") [v]) Q E s := by
  refine callType_new F.called_enumerate (by decide) (F.typeCall_enumerate_1 _) (F.newCall_enumerate_1 _) (fun obj => F.args_object_init_2 obj _) F.entry_enumerate_new (enumB_new B) ⟨h1, ?_⟩
  have z : (s.heap.push o).objs.size = s.heap.objs.size + 1 := Heap.size_push ..
  show _ ∧ _
  rw [z]
  have en : IsEnum ((s.heap.push o).push { cls := .type "enumerate", data := .fields #[.none, .bool false, .ref s.heap.objs.size, rawInt 0, .none, .none] }) (s.heap.objs.size + 1) s.heap.objs.size 0 .none := by
    have y := Heap.get?_push_size (s.heap.push o) (o := { cls := .type "enumerate", data := .fields #[.none, .bool false, .ref s.heap.objs.size, rawInt 0, .none, .none] }) rfl
    rw [z] at y
    exact y
  exact ⟨⟨_, en, rfl⟩, h _ en (Heap.get?_push_of_some _ (Heap.get?_push_size _ B.free)) (by rw [Heap.size_push, z]) fun b u x => Heap.get?_push_of_some _ (Heap.get?_push_of_some _ x)⟩
end
end PySem
namespace MP
open PySem PySem.Spec PyProof.Rows L2 GxR Gx
/-! ### enumerate of a tuple -/
def IteT (K : PySem.W.Frag) (a : Addr) : It :=
  ⟨fun i H => ∃ (xs : List V) (x : V), SqT K H a xs ∧ xs[i]? = some x, fun i H v H' => ∃ N x, v = .ref N ∧ H N = none ∧ H' = upd H N (.tup [.int (i : Nat), x]) ∧ ∀ xs, SqT K H a xs → xs[i]? = some x, fun i H => ∃ xs : List V, SqT K H a xs ∧ xs.length ≤ i⟩
theorem turn_enumT {P : Program} {w : World} {K : PySem.W.Frag} {elts : List Expr} {kk : Nat} {tpos : Pos} (a e it : Addr) (hae : a ≠ it) :
    Turn P w K (.Tuple elts kk tpos) (IteT K a) [e, it] e (fun i h => (∃ old, IsEnum h e it ((i : Nat) : Int) old) ∧ h.IsTupleIter it a i ∧ e ≠ it ∧ e ≠ a) where
  mem := by simp
  obj := fun i h st b hb => by
    obtain ⟨⟨old, he⟩, ⟨o, ho, hc, hd⟩, _⟩ := st
    rcases (by simpa using hb : b = e ∨ b = it) with z | z
    · rw [z]; exact ⟨_, he, fun v q => nomatch q⟩
    · rw [z]; exact ⟨o, ho, fun v q => by rw [hd] at q; cases q⟩
  keep := fun i h h' st k => let ⟨⟨old, he⟩, hi, hne⟩ := st; ⟨⟨old, k e (by simp) _ he⟩, hi.at fun o q => k it (by simp) o q, hne⟩
  item := by
    intro X hP hw hK hc i pins s σ H E I hf st hg
    subst hP hw hK
    obtain ⟨⟨old, he⟩, hit, hne, hea⟩ := st
    obtain ⟨xs, x, hq, hx⟩ := hg
    obtain ⟨its, rv, p, hz⟩ := I.tuple hq
    obtain ⟨u, hu, ru⟩ := rv.get hx
    have hel : e < s.heap.objs.size := Heap.lt_size he
    have hil : it < s.heap.objs.size := by obtain ⟨_, q, _⟩ := hit; exact Heap.lt_size q
    have hlt : i < its.toArray.size := by
      have := (List.getElem?_eq_some_iff.mp hu).1
      simpa using this
    have p' : s.heap.IsTuple a its.toArray := p
    refine wpAny_pyNext_enum_itemC (Draws.tuple (A := X.A.in1) (I.ok.hd hc) it a hae its.toArray) he ⟨hit, p'⟩ hlt hne (by simp [hne, hea]) fun y h' tk hy ho hit' hT hsz hk => ?_
    have hyu : y = u := by
      have q1 : its.toArray[i]? = some u := by simpa using hu
      rw [q1] at hy
      exact (Option.some.inj hy).symm
    subst hyu
    refine ⟨_, rfl, wpAny_letOwnedTupleGo_enum (s := { s with heap := h', toks := tk + 1 }) ho fun h'' he' sb => ?_⟩
    have hT2 : h''.get? s.heap.objs.size = some { cls := .type "tuple", data := .seq #[.int i tk, y] } := (sb.2 _ (Nat.ne_of_gt hel)).trans hT
    have new : ObjOk X.prog X.w (upd H s.heap.objs.size (.tup [.int (i : Nat), x])) h'' s.heap.objs.size (.tup [.int (i : Nat), x]) :=
      ⟨by show 2 ≤ sizeLine; decide, [.int i tk, y], .cons ⟨_, rfl⟩ (.cons ru .nil), ⟨_, hT2, rfl, _, rfl⟩⟩
    have I1 : Inv X pins σ (upd H s.heap.objs.size (.tup [.int (i : Nat), x])) { s with heap := h'', toks := tk + 1 } :=
      I.turnedNew (ch := [e, it]) (fun b ob hb q => (sb.2 b (fun z => hb (by simp [z]))).trans (hk b ob (fun z => hb (by simp [z])) (fun z => hb (by simp [z])) q)) hf (Nat.le_refl _) new
    refine ⟨.ref s.heap.objs.size, _, I1, rfl, ⟨_, x, rfl, I.hok.fresh (Nat.le_refl _), rfl, fun ys hy => by rw [I.tuple_inj hy hq]; exact hx⟩, ⟨⟨y, ?_⟩, hit'.1.at fun o q => (sb.2 it (Ne.symm hne)).trans q, hne, hea⟩, fun b hb => ?_⟩
    · have e1 : ((i + 1 : Nat) : Int) = (i : Int) + 1 := by omega
      rw [e1]
      exact he'
    · have hb' : b < s.heap.objs.size := by
        rcases (by simpa using hb : b = e ∨ b = it) with z | z
        · rw [z]; exact hel
        · rw [z]; exact hil
      rw [upd_ne (Nat.ne_of_lt hb')]
      exact (hf b hb).1
  done := by
    intro X hP hw hK hc i pins s σ H E I hf st hg
    subst hP hw hK
    obtain ⟨⟨old, he⟩, hit, hne, hea⟩ := st
    obtain ⟨xs, hq, hx⟩ := hg
    obtain ⟨its, rv, p, hz⟩ := I.tuple hq
    obtain ⟨f0, f1, f2, f3, f4, f5⟩ := hf it (by simp)
    have p' : s.heap.IsTuple a its.toArray := p
    have hl := rv.length
    have none_i : its.toArray[i]? = none := by simp; omega
    have tyE : s.TypeIs (.ref e) "enumerate" := ⟨_, he, rfl⟩
    unfold pyNext
    have inner : ∀ {Q1 : Value → Shared → Prop} {E1 : Value → Shared → Prop}, (∀ h' x, Heap.ExtBut it s.heap h' → (∃ o, h'.get? x = some o ∧ o.cls = .type "StopIteration") → E1 (.ref x) { s with heap := h' }) →
        wpAny (model X.prog X.w) X.A.in1 (Builtin.«enumerate.__next__» ⟨[.ref e], []⟩) (fun fin s' => ∃ v, fin = .done (.ret v) ∧ Q1 v s') E1 s := fun {Q1 E1} hE => by
      show wpAny _ _ (field (.ref e) 2 >>= _) _ _ _
      exact wpAny_bind (wpAny_field he rfl (x := .ref it) rfl (wpAny_bind (wpAny_nextOf_tuple_end (A := X.A.in1) (I.ok.hd hc) hit p' none_i hE)))
    refine wpAny_bind (wpAny_attempt (wpAny_callSpecial?_slot (name := Str.ofString "__next__") tyE F.slot_enumerate_next (wpAny_call_entry F.slot_enumerate_next tyE F.entry_enumerate_next (inner fun h' x eb hx' => ?_) (F.args_enumerate_next_1 _))))
    obtain ⟨o, ho, hcl⟩ := hx'
    refine wpAny_bind (wpAny_isInstance (T := "StopIteration") (b := true) ⟨o, ho, hcl⟩ isSubtype_stop (wpAny_pure ⟨rfl, ?_⟩))
    exact I.turned (t' := s.toks) (fun b ob hb q => eb b ob hb q) f0 f1 f3 f4 f5
  self := fun A i s Q E st h => let ⟨⟨_, he⟩, _⟩ := st; wpAny_pyIter_enum he h
section
variable {X : Cx} {T : List Addr} {ET : Str → Option Addr} {Wx : WX} {tg e e2 : Expr} {es : List Expr} {d d1 d2 : DE} {da : DA} {x : Str} {p pos tpos : Pos} {elts : List Expr} {kk : Nat}
def iEnumT (K : PySem.W.Frag) (ta : TA) : TI := fun σ H R => ta σ H fun vs H1 => ∃ a xs, vs = [.ref a] ∧ SqT K H1 a xs ∧ R (IteT K a) H1
theorem pi_enumT {ta : TA} (hg : Gl X "enumerate") (hm : X.mg "enumerate" = none) (ha : PA X [e] ta) (hs : starEach [e] X.env = [(false, eval e X.env)] := by rfl) :
    PI X (.Tuple elts kk tpos) (.Call (.Name "enumerate" p) [e] [] pos) (iEnumT X.K ta) := by
  constructor
  intro pins s σ H R I h
  refine Call_ (ld_blt I hg hm boot_enumerate (PyProof.Rows.callWith_type1 (thn (ha.run pos pins s σ H _ I h) fun us s1 hh => ?_) hs rfl))
  obtain ⟨vs, H1, I1, r1, a, xs, ex, hq, q⟩ := hh
  subst ex
  cases r1 with
  | cons r rr =>
    cases rr
    cases r
    obtain ⟨its, rv, p', hz⟩ := I1.tuple hq
    have pT : s1.heap.IsTuple a its.toArray := p'
    have al : a < s1.heap.objs.size := by obtain ⟨o, ho, _⟩ := pT; exact Heap.lt_size ho
    refine enumB_call (begins_tuple a its.toArray) pT fun h' he hit hsz hk => wpAny_pyIter_enum he ?_
    have I2 : Inv X pins σ H1 { s1 with heap := h' } := I1.kept (t' := s1.toks) hk
    refine ⟨s1.heap.objs.size + 1, [s1.heap.objs.size + 1, s1.heap.objs.size], _, _, H1, rfl, I2, turn_enumT a (s1.heap.objs.size + 1) s1.heap.objs.size (Nat.ne_of_lt al), ⟨⟨.none, he⟩, ⟨_, hit, rfl, rfl⟩, Nat.succ_ne_self _, Nat.ne_of_gt (Nat.lt_succ_of_lt al)⟩, fun b hb => ?_, q⟩
    have le : s1.heap.objs.size ≤ b := by
      rcases (by simpa using hb : b = s1.heap.objs.size + 1 ∨ b = s1.heap.objs.size) with z | z
      · rw [z]; exact Nat.le_succ _
      · rw [z]; exact Nat.le_refl _
    exact I1.fpOk le (I1.hok.fresh le)
theorem pi_or {w1 w2 : TI} (h1 : PI X tg e w1) (h2 : PI X tg e w2) : PI X tg e (fun σ H R => w1 σ H R ∨ w2 σ H R) :=
  ⟨fun pins s σ H R I h => h.elim (h1.run pins s σ H R I) (h2.run pins s σ H R I)⟩
/-! ### what an expression's value gives -/
def seqOf : W → M (List W × (Sto → Prop))
  | .tup l => rt (l, fun _ => True)
  | .kl l => rt (l, fun _ => True)
  | .obj n => fun S => match S[n]? with
    | some (.lst l) => .ok (l, fun S' => S'[n]? = some (.lst l)) S
    | some (.ro l) => .ok (l, fun S' => S'[n]? = some (.ro l)) S
    | _ => .stuck
  | _ => stuck
def chars (x : Str) : List W := x.cps.toList.map fun c => .str ⟨#[c]⟩
def seqOrStr : W → M (List W × (Sto → Prop))
  | .str x => rt (chars x, fun _ => True)
  | w => seqOf w
/-- where a value is a sequence: the tuple's or the list's address, its items -/
theorem seq_ok {K : PySem.W.Frag} {m : List Addr} {H : Hp} {S : Sto} {v : V} {w : W} {k : List W × (Sto → Prop) → Sto → Prop} {x : Str → Nat → Sto → Prop} (R : Rel K T m H S) (r : VR K m H v w) (h : (seqOf w S).post k x) :
    ∃ a l gd, v = .ref a ∧ k (l, gd) S ∧ gd S ∧ ((∃ xs, w = .tup l ∧ SqT K H a xs ∧ VRs K m H xs l) ∨
      ((∀ l', w ≠ .tup l') ∧ ∀ m' H' S', Xt K m H m' H' → Rel K T m' H' S' → gd S' → ∃ xs, SqL K H' a xs ∧ VRs K m' H' xs l)) := by
  cases r with
  | tup a xs l h1 h2 => exact ⟨a, l, _, rfl, h, trivial, .inl ⟨xs, rfl, h1, h2⟩⟩
  | kl a xs l h1 h2 => exact ⟨a, l, _, rfl, h, trivial, .inr ⟨fun l' z => (nomatch z), fun m' H' S' e R' _ => ⟨xs, .inr h1, h2.mono e⟩⟩⟩
  | obj n a h1 =>
    unfold seqOf at h
    cases q : S[n]? with
    | none => simp only [q] at h; exact h.elim
    | some o =>
      simp only [q] at h
      cases o with
      | lst l =>
        refine ⟨a, l, _, rfl, h, q, .inr ⟨fun l' z => (nomatch z), fun m' H' S' e R' g => ?_⟩⟩
        obtain ⟨a', z1, xs, z2, z3⟩ := R'.obj n _ g
        rw [e.get h1] at z1
        cases z1
        exact ⟨xs, SqL.of z2, z3⟩
      | ro l =>
        refine ⟨a, l, _, rfl, h, q, .inr ⟨fun l' z => (nomatch z), fun m' H' S' e R' g => ?_⟩⟩
        obtain ⟨a', z1, xs, z2, z3⟩ := R'.obj n _ g
        rw [e.get h1] at z1
        cases z1
        exact ⟨xs, .inl z2, z3⟩
      | dct _ => exact h.elim
      | xd _ => exact h.elim
  | non => exact h.elim
  | bl _ => exact h.elim
  | int _ => exact h.elim
  | str _ => exact h.elim
  | exc _ _ _ _ _ => exact h.elim
theorem wk_tup {K : PySem.W.Frag} {m0 : List Addr} {H0 : Hp} {a : Addr} {xs : List V} {l : List W} {gd : Sto → Prop} (h1 : SqT K H0 a xs) (h2 : VRs K m0 H0 xs l) (inj : ∀ H ys zs, SqT K H a ys → SqT K H a zs → ys = zs) : Wk K T (Itt K a) l gd m0 H0 := by
  refine ⟨fun m H S i w e R g hi => ?_, fun m H S i e R g hi => ⟨xs, e.sqT h1, by rw [h2.length]; exact hi⟩⟩
  obtain ⟨v, z1, z2⟩ := h2.get hi
  refine ⟨⟨xs, v, e.sqT h1, z1⟩, fun x H' hy => ?_⟩
  obtain ⟨rfl, hx⟩ := hy
  have := hx xs (e.sqT h1)
  rw [z1] at this
  cases this
  exact ⟨m, Xt.refl, R, z2.mono e⟩
end
end MP

set_option Elab.async false
set_option linter.all false
set_option maxRecDepth 100000
set_option maxHeartbeats 4000000
/-! MP11: what is walked, as meanings. -/
namespace MP
open PySem PySem.Spec PyProof.Rows L2 GxR Gx
section
variable {K : PySem.W.Frag} {T : List Addr} {m0 : List Addr} {H0 : Hp} {a b : Addr} {xs ys : List V} {l l2 : List W} {gd gd2 : Sto → Prop}
/-- the list at a holds l as long as gd -/
def HoldsL (K : PySem.W.Frag) (T : List Addr) (m0 : List Addr) (H0 : Hp) (a : Addr) (l : List W) (gd : Sto → Prop) : Prop := ∀ m' H' S', Xt K m0 H0 m' H' → Rel K T m' H' S' → gd S' → ∃ xs, SqL K H' a xs ∧ VRs K m' H' xs l
def HoldsT (K : PySem.W.Frag) (m0 : List Addr) (H0 : Hp) (a : Addr) (l : List W) : Prop := ∃ xs, SqT K H0 a xs ∧ VRs K m0 H0 xs l
theorem wk_tup' (h : HoldsT K m0 H0 a l) : Wk K T (Itt K a) l gd m0 H0 := by
  obtain ⟨xs, h1, h2⟩ := h
  refine ⟨fun m H S i w e R g hi => ?_, fun m H S i e R g hi => ⟨xs, e.sqT h1, by rw [h2.length]; exact hi⟩⟩
  obtain ⟨v, z1, z2⟩ := h2.get hi
  refine ⟨⟨xs, v, e.sqT h1, z1⟩, fun x H' hy => ?_⟩
  obtain ⟨rfl, hx⟩ := hy
  have := hx xs (e.sqT h1)
  rw [z1] at this
  cases this
  exact ⟨m, Xt.refl, R, z2.mono e⟩
theorem wk_list (h : HoldsL K T m0 H0 a l gd) : Wk K T (Itl K a) l gd m0 H0 := by
  refine ⟨fun m H S i w e R g hi => ?_, fun m H S i e R g hi => ?_⟩
  · obtain ⟨xs, h1, h2⟩ := h m H S e R g
    obtain ⟨v, z1, z2⟩ := h2.get hi
    refine ⟨⟨xs, v, h1, z1⟩, fun x H' hy => ?_⟩
    obtain ⟨rfl, hx⟩ := hy
    have := hx xs h1
    rw [z1] at this
    cases this
    exact ⟨m, Xt.refl, R, z2⟩
  · obtain ⟨xs, h1, h2⟩ := h m H S e R g
    exact ⟨xs, h1, by rw [h2.length]; exact hi⟩
theorem wk_str {x : Str} : Wk K T (Its x) (chars x) gd m0 H0 := by
  refine ⟨fun m H S i w e R g hi => ?_, fun m H S i e R g hi => ?_⟩
  · unfold chars at hi
    rw [List.getElem?_map] at hi
    cases q : x.cps.toList[i]? with
    | none => rw [q] at hi; cases hi
    | some c =>
      rw [q] at hi
      cases hi
      have q' : x.cps[i]? = some c := by rw [← Array.getElem?_toList]; exact q
      refine ⟨(Array.getElem?_eq_some_iff.mp q').1, fun v H' hy => ?_⟩
      obtain ⟨rfl, c', hc, rfl⟩ := hy
      rw [q'] at hc
      cases hc
      exact ⟨m, Xt.refl, R, .str _⟩
  · show x.cps.size ≤ i
    unfold chars at hi
    simpa using hi
def rngW (lo : Int) (n : Nat) : List W := (List.range n).map fun i : Nat => .int (lo + i)
theorem wk_rng {lo : Int} {n : Nat} : Wk K T (Itr lo n) (rngW lo n) gd m0 H0 := by
  refine ⟨fun m H S i w e R g hi => ?_, fun m H S i e R g hi => ?_⟩
  · unfold rngW at hi
    rw [List.getElem?_map] at hi
    cases q : (List.range n)[i]? with
    | none => rw [q] at hi; cases hi
    | some c =>
      rw [q] at hi
      cases hi
      have hlt : i < n := by simpa using (List.getElem?_eq_some_iff.mp q).1
      have hc : c = i := by
        rw [List.getElem?_range hlt] at q
        exact (Option.some.inj q).symm
      subst hc
      refine ⟨hlt, fun v H' hy => ?_⟩
      obtain ⟨rfl, rfl⟩ := hy
      exact ⟨m, Xt.refl, R, .int _⟩
  · show n ≤ i
    unfold rngW at hi
    simpa using hi
def enumW (l : List W) : List W := l.zipIdx.map fun p => .tup [.int (p.2 : Nat), p.1]
theorem enumW_get {i : Nat} {w : W} (h : (enumW l)[i]? = some w) : ∃ u, l[i]? = some u ∧ w = .tup [.int (i : Nat), u] := by
  unfold enumW at h
  rw [List.getElem?_map, List.getElem?_zipIdx] at h
  cases q : l[i]? with
  | none => rw [q] at h; cases h
  | some u => rw [q] at h; simp at h; exact ⟨u, rfl, h.symm⟩
theorem pair_new {m : List Addr} {H : Hp} {S : Sto} {N : Addr} {x y : V} {u w : W} (R : Rel K T m H S) (hN : H N = none) (r1 : VR K m H x u) (r2 : VR K m H y w) :
    ∃ m', Xt K m H m' (upd H N (.tup [x, y])) ∧ Rel K T m' (upd H N (.tup [x, y])) S ∧ VR K m' (upd H N (.tup [x, y])) (.ref N) (.tup [u, w]) := by
  have e : Xt K m H m (upd H N (.tup [x, y])) := xt_new0 hN
  exact ⟨m, e, R.new0 hN, .tup N _ _ (SqT.of upd_same) (.cons _ _ _ _ (r1.mono e) (.one (r2.mono e)))⟩
theorem wk_enumT (h : HoldsT K m0 H0 a l) : Wk K T (IteT K a) (enumW l) gd m0 H0 := by
  obtain ⟨xs, h1, h2⟩ := h
  refine ⟨fun m H S i w e R g hi => ?_, fun m H S i e R g hi => ⟨xs, e.sqT h1, by rw [h2.length]; unfold enumW at hi; simpa using hi⟩⟩
  obtain ⟨u, q, rfl⟩ := enumW_get hi
  obtain ⟨v, z1, z2⟩ := h2.get q
  refine ⟨⟨xs, v, e.sqT h1, z1⟩, fun x H' hy => ?_⟩
  obtain ⟨N, y, rfl, hN, rfl, hx⟩ := hy
  have := hx xs (e.sqT h1)
  rw [z1] at this
  cases this
  exact pair_new R hN (.int _) (z2.mono e)
theorem wk_enumL (h : HoldsL K T m0 H0 a l gd) : Wk K T (Ite K a) (enumW l) gd m0 H0 := by
  refine ⟨fun m H S i w e R g hi => ?_, fun m H S i e R g hi => ?_⟩
  · obtain ⟨xs, h1, h2⟩ := h m H S e R g
    obtain ⟨u, q, rfl⟩ := enumW_get hi
    obtain ⟨v, z1, z2⟩ := h2.get q
    refine ⟨⟨xs, v, h1, z1⟩, fun x H' hy => ?_⟩
    obtain ⟨N, y, rfl, hN, rfl, hx⟩ := hy
    have := hx xs h1
    rw [z1] at this
    cases this
    exact pair_new R hN (.int _) z2
  · obtain ⟨xs, h1, h2⟩ := h m H S e R g
    exact ⟨xs, h1, by rw [h2.length]; unfold enumW at hi; simpa using hi⟩
def zipW (l l2 : List W) : List W := List.zipWith (fun u w => .tup [u, w]) l l2
theorem zipW_get {i : Nat} {w : W} (h : (zipW l l2)[i]? = some w) : ∃ u u2, l[i]? = some u ∧ l2[i]? = some u2 ∧ w = .tup [u, u2] := by
  unfold zipW at h
  rw [List.getElem?_zipWith] at h
  cases q : l[i]? with
  | none => rw [q] at h; cases h
  | some u =>
    cases q2 : l2[i]? with
    | none => rw [q, q2] at h; cases h
    | some u2 => rw [q, q2] at h; cases h; exact ⟨u, u2, rfl, rfl, rfl⟩
theorem wk_zipT (h : HoldsT K m0 H0 a l) (h' : HoldsT K m0 H0 b l2) : Wk K T (RZ.ItzT K a b) (zipW l l2) gd m0 H0 := by
  obtain ⟨xs, h1, h2⟩ := h
  obtain ⟨ys, k1, k2⟩ := h'
  refine ⟨fun m H S i w e R g hi => ?_, fun m H S i e R g hi => ⟨xs, ys, e.sqT h1, e.sqT k1, ?_⟩⟩
  · obtain ⟨u, u2, q, q2, rfl⟩ := zipW_get hi
    obtain ⟨v, z1, z2⟩ := h2.get q
    obtain ⟨v', y1, y2⟩ := k2.get q2
    refine ⟨⟨xs, ys, v, v', e.sqT h1, e.sqT k1, z1, y1⟩, fun x H' hy => ?_⟩
    obtain ⟨N, x, y, rfl, hN, rfl, hx, hy⟩ := hy
    have t1 := hx xs (e.sqT h1)
    have t2 := hy ys (e.sqT k1)
    rw [z1] at t1
    rw [y1] at t2
    cases t1
    cases t2
    exact pair_new R hN (z2.mono e) (y2.mono e)
  · unfold zipW at hi
    rw [List.length_zipWith] at hi
    rw [h2.length, k2.length]
    omega
theorem wk_zipL (h : HoldsL K T m0 H0 a l gd) (h' : HoldsL K T m0 H0 b l2 gd2) : Wk K T (Itz K a b) (zipW l l2) (fun S => gd S ∧ gd2 S) m0 H0 := by
  refine ⟨fun m H S i w e R g hi => ?_, fun m H S i e R g hi => ?_⟩
  · obtain ⟨xs, h1, h2⟩ := h m H S e R g.1
    obtain ⟨ys, k1, k2⟩ := h' m H S e R g.2
    obtain ⟨u, u2, q, q2, rfl⟩ := zipW_get hi
    obtain ⟨v, z1, z2⟩ := h2.get q
    obtain ⟨v', y1, y2⟩ := k2.get q2
    refine ⟨⟨xs, ys, v, v', h1, k1, z1, y1⟩, fun x H' hy => ?_⟩
    obtain ⟨N, x, y, rfl, hN, rfl, hx, hy⟩ := hy
    have t1 := hx xs h1
    have t2 := hy ys k1
    rw [z1] at t1
    rw [y1] at t2
    cases t1
    cases t2
    exact pair_new R hN z2 y2
  · obtain ⟨xs, h1, h2⟩ := h m H S e R g.1
    obtain ⟨ys, k1, k2⟩ := h' m H S e R g.2
    refine ⟨xs, ys, h1, k1, ?_⟩
    unfold zipW at hi
    rw [List.length_zipWith] at hi
    rw [h2.length, k2.length]
    omega
end
section
variable {K : PySem.W.Frag} {m : List Addr} {H : Hp} {vs : List V}
theorem VRs.sing {a : W} (h : VRs K m H vs [a]) : ∃ x, vs = [x] ∧ VR K m H x a := by
  cases h with
  | cons x _ xs _ h hs => cases hs; exact ⟨x, rfl, h⟩
theorem VRs.two {a b : W} (h : VRs K m H vs [a, b]) : ∃ x y, vs = [x, y] ∧ VR K m H x a ∧ VR K m H y b := by
  cases h with
  | cons x _ xs _ h hs =>
    obtain ⟨y, rfl, g⟩ := VRs.sing hs
    exact ⟨x, y, rfl, h, g⟩
theorem VRs.three {a b c : W} (h : VRs K m H vs [a, b, c]) : ∃ x y z, vs = [x, y, z] ∧ VR K m H x a ∧ VR K m H y b ∧ VR K m H z c := by
  cases h with
  | cons x _ xs _ h hs =>
    obtain ⟨y, z, rfl, g, k⟩ := VRs.two hs
    exact ⟨x, y, z, rfl, h, g, k⟩
end
section
variable {X : Cx} {T : List Addr} {ET : Str → Option Addr} {Wx : WX} {tg e e2 : Expr} {es : List Expr} {d d1 d2 : DE} {da : DA} {x : Str} {p pos tpos : Pos} {elts : List Expr} {kk : Nat}
def dSeqI (d : DE) : DI := fun ρ => bd (d ρ) seqOrStr
theorem pdi_seq (h : PD X T ET Wx e d) : PDI X T ET Wx tg e (dSeqI d) := by
  obtain ⟨te, pe, ie⟩ := h
  refine ⟨_, pi_or (pi_tup pe) (pi_or (pi_list pe) (pi_str pe)), ⟨fun {L} σ ρ m H S Q E R h => ?_⟩⟩
  have h' := post_bd.mp h
  cases hw : d ρ S with
  | stuck => rw [hw] at h'; exact h'.elim
  | exn c n S1 => exact .inl (ie.run σ ρ m H S _ E R (by rw [hw] at h' ⊢; exact h'))
  | ok w S1 =>
    rw [hw] at h'
    have h2 : (seqOrStr w S1).post _ _ := h'
    by_cases hs : ∃ x, w = .str x
    · obtain ⟨x, rfl⟩ := hs
      refine .inr (.inr (ie.run σ ρ m H S _ E R ?_))
      rw [hw]
      intro v m1 H1 e1 R1 r1
      cases r1
      exact ⟨x, rfl, h2 _ m1 H1 e1 R1 wk_str⟩
    · have eq : seqOrStr w = seqOf w := by cases w <;> first | rfl | exact absurd ⟨_, rfl⟩ hs
      rw [eq] at h2
      have h3 := h2
      by_cases ht : ∃ l, w = .tup l
      · obtain ⟨l, rfl⟩ := ht
        refine .inl (ie.run σ ρ m H S _ E R ?_)
        rw [hw]
        intro v m1 H1 e1 R1 r1
        cases r1 with
        | tup a xs _ k1 k2 => exact ⟨a, rfl, ⟨xs, k1⟩, h3 _ m1 H1 e1 R1 (wk_tup' ⟨xs, k1, k2⟩)⟩
      · refine .inr (.inl (ie.run σ ρ m H S _ E R ?_))
        rw [hw]
        intro v m1 H1 e1 R1 r1
        obtain ⟨a, l, gd, rfl, k1, k2, k3 | k3⟩ := seq_ok R1 r1 h3
        · exact absurd ⟨l, k3.choose_spec.1⟩ ht
        · obtain ⟨xs, q1, q2⟩ := k3.2 m1 H1 S1 Xt.refl R1 k2
          exact ⟨a, rfl, ⟨xs, q1⟩, k1 _ m1 H1 e1 R1 (wk_list k3.2)⟩
def dEnumI (da : DA) : DI := fun ρ => bd (da ρ) fun ws => match ws with
  | [w] => bd (seqOf w) fun p => rt (enumW p.1, p.2)
  | _ => stuck
theorem pdi_enum (hg : Gl X "enumerate") (hm : X.mg "enumerate" = none) (h : PDA X T ET Wx [e] da) (hs : starEach [e] X.env = [(false, eval e X.env)] := by rfl) : PDI X T ET Wx (.Tuple elts kk tpos) (.Call (.Name "enumerate" p) [e] [] pos) (dEnumI da) := by
  obtain ⟨ta, pa, ia⟩ := h
  refine ⟨_, pi_or (pi_enumT hg hm pa hs) (pi_enum hg hm pa hs), ⟨fun {L} σ ρ m H S Q E R h => ?_⟩⟩
  have h' := post_bd.mp h
  cases hw : da ρ S with
  | stuck => rw [hw] at h'; exact h'.elim
  | exn c n S1 => exact .inl (ia.run σ ρ m H S _ E R (by rw [hw] at h' ⊢; exact h'))
  | ok ws S1 =>
    rw [hw] at h'
    match ws, h', hw with
    | [w], h', hw =>
      have h3 : (bd (seqOf w) (fun p => rt (enumW p.1, p.2)) S1).post _ _ := h'
      have h4 := post_bd.mp h3
      by_cases ht : ∃ l, w = .tup l
      · obtain ⟨l, rfl⟩ := ht
        refine .inl (ia.run σ ρ m H S _ E R ?_)
        rw [hw]
        intro vs m1 H1 e1 R1 r1
        cases r1 with
        | cons v _ vs _ r1 rs =>
          cases rs
          cases r1 with
          | tup a xs _ k1 k2 => exact ⟨a, xs, rfl, k1, h4 _ m1 H1 e1 R1 (wk_enumT ⟨xs, k1, k2⟩)⟩
      · refine .inr (ia.run σ ρ m H S _ E R ?_)
        rw [hw]
        intro vs m1 H1 e1 R1 r1
        cases r1 with
        | cons v _ vs _ r1 rs =>
          cases rs
          obtain ⟨a, l, gd, rfl, k1, k2, k3 | k3⟩ := seq_ok R1 r1 h4
          · exact absurd ⟨l, k3.choose_spec.1⟩ ht
          · obtain ⟨xs, q1, q2⟩ := k3.2 m1 H1 S1 Xt.refl R1 k2
            exact ⟨a, xs, rfl, q1, k1 _ m1 H1 e1 R1 (wk_enumL k3.2)⟩
    | [], h', _ => exact h'.elim
    | _ :: _ :: _, h', _ => exact h'.elim
def isTup : W → Bool
  | .tup _ => true
  | _ => false
/-- zip of two tuples -/
def dZipI (da : DA) : DI := fun ρ => bd (da ρ) fun ws => match ws with
  | [.tup l, .tup l2] => rt (zipW l l2, fun _ => True)
  | _ => stuck
theorem pdi_zip (hg : Gl X "zip") (hm : X.mg "zip" = none) (h : PDA X T ET Wx [e, e2] da) (hs : starEach [e, e2] X.env = (false, eval e X.env) :: starEach [e2] X.env := by rfl) (hpl : (backTo pos (starEach [e2] X.env)).any (·.1) = false := by rfl) :
    PDI X T ET Wx (.Tuple elts kk tpos) (.Call (.Name "zip" p) [e, e2] [] pos) (dZipI da) := by
  obtain ⟨ta, pa, ia⟩ := h
  refine ⟨_, RZ.pi_zipA hg hm pa hs hpl, ⟨fun {L} σ ρ m H S Q E R h => ia.run σ ρ m H S _ E R (post_imp (post_bd.mp h) (fun ws S1 h1 vs m1 H1 e1 R1 r1 => ?_) fun _ _ _ z => z)⟩⟩
  match ws, h1, r1 with
  | [.tup l, .tup l2], h1, r1 =>
    obtain ⟨v, v2, rfl, r1, r2⟩ := r1.two
    cases r1 with
    | tup a xs _ k1 k2 =>
      cases r2 with
      | tup b ys _ j1 j2 => exact ⟨a, b, xs, ys, rfl, .inr ⟨k1, j1, h1 _ m1 H1 e1 R1 (wk_zipT ⟨xs, k1, k2⟩ ⟨ys, j1, j2⟩)⟩⟩
def dRng1 (da : DA) : DI := fun ρ => bd (da ρ) fun ws => match ws with
  | [.int j] => if -(2 ^ 62) ≤ j ∧ j < 2 ^ 62 then rt (rngW 0 j.toNat, fun _ => True) else stuck
  | _ => stuck
theorem pdi_range1 (hg : Gl X "range") (hm : X.mg "range" = none) (h : PDA X T ET Wx [e] da) (hs : starEach [e] X.env = [(false, eval e X.env)] := by rfl) : PDI X T ET Wx tg (.Call (.Name "range" p) [e] [] pos) (dRng1 da) := by
  obtain ⟨ta, pa, ia⟩ := h
  refine ⟨_, pi_range1 hg hm pa hs, ⟨fun {L} σ ρ m H S Q E R h => ia.run σ ρ m H S _ E R (post_imp (post_bd.mp h) (fun ws S1 h1 vs m1 H1 e1 R1 r1 => ?_) fun _ _ _ z => z)⟩⟩
  match ws, h1, r1 with
  | [.int j], h1, r1 =>
    obtain ⟨v, rfl, rv⟩ := r1.sing
    have hv : v = .int j := by cases rv; rfl
    subst hv
    have h2 : ((if -(2 ^ 62) ≤ j ∧ j < 2 ^ 62 then rt (rngW 0 j.toNat, fun _ => True) else stuck : M (List W × (Sto → Prop))) S1).post _ _ := h1
    by_cases hj : -(2 ^ 62) ≤ j ∧ j < 2 ^ 62
    · rw [if_pos hj] at h2
      exact ⟨j, rfl, hj.1, hj.2, h2 _ m1 H1 e1 R1 wk_rng⟩
    · rw [if_neg hj] at h2
      exact h2.elim
def dRng2 (da : DA) : DI := fun ρ => bd (da ρ) fun ws => match ws with
  | [.int i, .int j] => if (-(2 ^ 62) ≤ i ∧ i < 2 ^ 62) ∧ -(2 ^ 62) ≤ j ∧ j < 2 ^ 62 then rt (rngW i (j - i).toNat, fun _ => True) else stuck
  | _ => stuck
theorem pdi_range2 (hg : Gl X "range") (hm : X.mg "range" = none) (h : PDA X T ET Wx [e, e2] da) (hs : starEach [e, e2] X.env = [(false, eval e X.env), (false, eval e2 X.env)] := by rfl) (hs2 : starEach [e2] X.env = [(false, eval e2 X.env)] := by rfl) : PDI X T ET Wx tg (.Call (.Name "range" p) [e, e2] [] pos) (dRng2 da) := by
  obtain ⟨ta, pa, ia⟩ := h
  refine ⟨_, pi_range2 hg hm pa hs hs2, ⟨fun {L} σ ρ m H S Q E R h => ia.run σ ρ m H S _ E R (post_imp (post_bd.mp h) (fun ws S1 h1 vs m1 H1 e1 R1 r1 => ?_) fun _ _ _ z => z)⟩⟩
  match ws, h1, r1 with
  | [.int i, .int j], h1, r1 =>
    obtain ⟨v, v2, rfl, r1, r2⟩ := r1.two
    cases r1
    cases r2
    have h2 : ((if (-(2 ^ 62) ≤ i ∧ i < 2 ^ 62) ∧ -(2 ^ 62) ≤ j ∧ j < 2 ^ 62 then rt (rngW i (j - i).toNat, fun _ => True) else stuck : M (List W × (Sto → Prop))) S1).post _ _ := h1
    by_cases hj : (-(2 ^ 62) ≤ i ∧ i < 2 ^ 62) ∧ -(2 ^ 62) ≤ j ∧ j < 2 ^ 62
    · rw [if_pos hj] at h2
      exact ⟨i, j, rfl, ⟨hj.1.1, hj.1.2, hj.2.1, hj.2.2⟩, h2 _ m1 H1 e1 R1 wk_rng⟩
    · rw [if_neg hj] at h2
      exact h2.elim
end
end MP

set_option Elab.async false
set_option linter.all false
set_option maxRecDepth 100000
set_option maxHeartbeats 4000000
/-! MP12: operations by values. -/
namespace MP
open PySem PySem.Spec PyProof.Rows L2 GxR Gx
theorem opr_or {X : Cx} {f : Value → Value → Sem Value} {r r' : R2} (h : OpR X f r) (h' : OpR X f r') : OpR X f (fun x y H Q => r x y H Q ∨ r' x y H Q) :=
  fun pins s σ H x y v u Q I rx ry q => q.elim (h pins s σ H x y v u Q I rx ry) (h' pins s σ H x y v u Q I rx ry)
section
variable {X : Cx} {T : List Addr}
theorem vr_int {K : PySem.W.Frag} {m : List Addr} {H : Hp} {v : V} {i : Int} (r : VR K m H v (.int i)) : v = .int i := by cases r; rfl
theorem vr_str {K : PySem.W.Frag} {m : List Addr} {H : Hp} {v : V} {i : Str} (r : VR K m H v (.str i)) : v = .str i := by cases r; rfl
theorem vr_bl {K : PySem.W.Frag} {m : List Addr} {H : Hp} {v : V} {i : Bool} (r : VR K m H v (.bl i)) : v = .bl i := by cases r; rfl
theorem vr_non {K : PySem.W.Frag} {m : List Addr} {H : Hp} {v : V} (r : VR K m H v .non) : v = .non := by cases r; rfl
theorem vr_tup {K : PySem.W.Frag} {m : List Addr} {H : Hp} {v : V} {l : List W} (r : VR K m H v (.tup l)) : ∃ a xs, v = .ref a ∧ SqT K H a xs ∧ VRs K m H xs l := by
  cases r with
  | tup a xs _ h1 h2 => exact ⟨a, xs, rfl, h1, h2⟩
theorem vr_lst {K : PySem.W.Frag} {m : List Addr} {H : Hp} {S : Sto} {v : V} {n : Nat} {l : List W} (R : Rel K T m H S) (r : VR K m H v (.obj n)) (q : S[n]? = some (.lst l)) : ∃ a xs, v = .ref a ∧ m[n]? = some a ∧ H a = some (.lst xs) ∧ VRs K m H xs l := by
  cases r with
  | obj _ a h1 =>
    obtain ⟨a', h2, xs, h3, h4⟩ := R.obj n _ q
    rw [h1] at h2
    cases h2
    exact ⟨a, xs, rfl, h1, h3, h4⟩
/-- an operation on two ints -/
theorem iop_i0 {K : PySem.W.Frag} {g : Int → Int → V} {h : Int → Int → W} (hg : ∀ i j m H, VR K m H (g i j) (h i j)) : IOp K T (rI0 g) (fun a b => match a, b with | .int i, .int j => rt (h i j) | _, _ => stuck) := by
  intro m H S x y a b Q ex R r1 r2 q
  cases a <;> cases b <;> first | exact q.elim | skip
  cases vr_int r1
  cases vr_int r2
  exact ⟨_, _, rfl, rfl, q _ m H Xt.refl R (hg _ _ _ _)⟩
theorem iop_i {K : PySem.W.Frag} {C : Int → Int → Prop} [∀ i j, Decidable (C i j)] {g : Int → Int → V} {h : Int → Int → W} (hg : ∀ i j m H, VR K m H (g i j) (h i j)) : IOp K T (rI C g) (fun a b => match a, b with | .int i, .int j => if C i j then rt (h i j) else stuck | _, _ => stuck) := by
  intro m H S x y a b Q ex R r1 r2 q
  cases a <;> cases b <;> first | exact q.elim | skip
  cases vr_int r1
  cases vr_int r2
  rename_i i j
  have q' : ((if C i j then rt (h i j) else stuck : M W) S).post (okV K T m H Q) ex := q
  by_cases c : C i j
  · rw [if_pos c] at q'
    exact ⟨_, _, rfl, rfl, c, q' _ m H Xt.refl R (hg _ _ _ _)⟩
  · rw [if_neg c] at q'
    exact q'.elim
instance : ∀ i j, Decidable (CMul i j) := fun i j => by unfold CMul; infer_instance
instance : ∀ i j, Decidable (CDivW i j) := fun i j => by unfold CDivW; infer_instance
instance : ∀ i j, Decidable (CPow i j) := fun i j => by unfold CPow; infer_instance
def wSub (a b : W) : M W := match a, b with | .int i, .int j => rt (.int (i - j)) | _, _ => stuck
def wDiv (a b : W) : M W := match a, b with | .int i, .int j => if CDivW i j then rt (.int (i / j)) else stuck | _, _ => stuck
def wMod (a b : W) : M W := match a, b with | .int i, .int j => if 0 < j then rt (.int (i % j)) else stuck | _, _ => stuck
def wPow (a b : W) : M W := match a, b with | .int i, .int j => if CPow i j then rt (.int (i ^ j.toNat)) else stuck | _, _ => stuck
def wBand (a b : W) : M W := match a, b with | .int i, .int j => rt (.int (Builtin.bitAnd i j)) | _, _ => stuck
def wBor (a b : W) : M W := match a, b with | .int i, .int j => rt (.int (Builtin.bitOr i j)) | _, _ => stuck
def wShl (a b : W) : M W := match a, b with | .int i, .int j => if CPow i j then rt (.int (i * 2 ^ j.toNat)) else stuck | _, _ => stuck
def wShr (a b : W) : M W := match a, b with | .int i, .int j => if 0 ≤ j then rt (.int (i / 2 ^ j.toNat)) else stuck | _, _ => stuck
def wLt (a b : W) : M W := match a, b with | .int i, .int j => rt (.bl (decide (i < j))) | _, _ => stuck
def wLe (a b : W) : M W := match a, b with | .int i, .int j => rt (.bl (decide (i ≤ j))) | _, _ => stuck
def wGt (a b : W) : M W := match a, b with | .int i, .int j => rt (.bl (decide (j < i))) | _, _ => stuck
def wGe (a b : W) : M W := match a, b with | .int i, .int j => rt (.bl (decide (j ≤ i))) | _, _ => stuck
theorem io_sub {K : PySem.W.Frag} : IOp K T (rI0 fun i j => .int (i - j)) wSub := iop_i0 (g := fun i j => .int (i - j)) fun _ _ _ _ => .int _
theorem io_div {K : PySem.W.Frag} : IOp K T (rI CDivW fun i j => .int (i / j)) wDiv := iop_i (C := CDivW) (g := fun i j => .int (i / j)) fun _ _ _ _ => .int _
theorem io_mod {K : PySem.W.Frag} : IOp K T (rI (fun _ j => 0 < j) fun i j => .int (i % j)) wMod := iop_i (C := fun _ j => 0 < j) (g := fun i j => .int (i % j)) fun _ _ _ _ => .int _
theorem io_pow {K : PySem.W.Frag} : IOp K T (rI CPow fun i j => .int (i ^ j.toNat)) wPow := iop_i (C := CPow) (g := fun i j => .int (i ^ j.toNat)) fun _ _ _ _ => .int _
theorem io_band {K : PySem.W.Frag} : IOp K T (rI0 fun i j => .int (Builtin.bitAnd i j)) wBand := iop_i0 (g := fun i j => .int (Builtin.bitAnd i j)) fun _ _ _ _ => .int _
theorem io_bor {K : PySem.W.Frag} : IOp K T (rI0 fun i j => .int (Builtin.bitOr i j)) wBor := iop_i0 (g := fun i j => .int (Builtin.bitOr i j)) fun _ _ _ _ => .int _
theorem io_shl {K : PySem.W.Frag} : IOp K T (rI CPow fun i j => .int (i * 2 ^ j.toNat)) wShl := iop_i (C := CPow) (g := fun i j => .int (i * 2 ^ j.toNat)) fun _ _ _ _ => .int _
theorem io_shr {K : PySem.W.Frag} : IOp K T (rI (fun _ j => 0 ≤ j) fun i j => .int (i / 2 ^ j.toNat)) wShr := iop_i (C := fun _ j => 0 ≤ j) (g := fun i j => .int (i / 2 ^ j.toNat)) fun _ _ _ _ => .int _
theorem io_lt {K : PySem.W.Frag} : IOp K T (rI0 fun i j => .bl (decide (i < j))) wLt := iop_i0 (g := fun i j => .bl (decide (i < j))) fun _ _ _ _ => .bl _
theorem io_le {K : PySem.W.Frag} : IOp K T (rI0 fun i j => .bl (decide (i ≤ j))) wLe := iop_i0 (g := fun i j => .bl (decide (i ≤ j))) fun _ _ _ _ => .bl _
theorem io_gt {K : PySem.W.Frag} : IOp K T (rI0 fun i j => .bl (decide (j < i))) wGt := iop_i0 (g := fun i j => .bl (decide (j < i))) fun _ _ _ _ => .bl _
theorem io_ge {K : PySem.W.Frag} : IOp K T (rI0 fun i j => .bl (decide (j ≤ i))) wGe := iop_i0 (g := fun i j => .bl (decide (j ≤ i))) fun _ _ _ _ => .bl _
/-! the expressions -/
variable {ET : Str → Option Addr} {Wx : WX} {a b : Expr} {d1 d2 : DE} {pos : Pos}
theorem pd_sub (h1 : PD X T ET Wx a d1) (h2 : PD X T ET Wx b d2) : PD X T ET Wx (.BinOp a .Sub b pos) (dOp wSub d1 d2) := pd_op op_sub io_sub h1 h2
theorem pd_div (h1 : PD X T ET Wx a d1) (h2 : PD X T ET Wx b d2) : PD X T ET Wx (.BinOp a .FloorDiv b pos) (dOp wDiv d1 d2) := pd_op op_fdivW io_div h1 h2
theorem pd_mod (h1 : PD X T ET Wx a d1) (h2 : PD X T ET Wx b d2) : PD X T ET Wx (.BinOp a .Mod b pos) (dOp wMod d1 d2) := pd_op op_mod io_mod h1 h2
theorem pd_pow (h1 : PD X T ET Wx a d1) (h2 : PD X T ET Wx b d2) : PD X T ET Wx (.BinOp a .Pow b pos) (dOp wPow d1 d2) := pd_op op_pow io_pow h1 h2
theorem pd_band (h1 : PD X T ET Wx a d1) (h2 : PD X T ET Wx b d2) : PD X T ET Wx (.BinOp a .BitAnd b pos) (dOp wBand d1 d2) := pd_op op_and io_band h1 h2
theorem pd_bor (h1 : PD X T ET Wx a d1) (h2 : PD X T ET Wx b d2) : PD X T ET Wx (.BinOp a .BitOr b pos) (dOp wBor d1 d2) := pd_op op_or io_bor h1 h2
theorem pd_shl (h1 : PD X T ET Wx a d1) (h2 : PD X T ET Wx b d2) : PD X T ET Wx (.BinOp a .LShift b pos) (dOp wShl d1 d2) := pd_op op_shl io_shl h1 h2
theorem pd_shr (h1 : PD X T ET Wx a d1) (h2 : PD X T ET Wx b d2) : PD X T ET Wx (.BinOp a .RShift b pos) (dOp wShr d1 d2) := pd_op op_shr io_shr h1 h2
/-! ### + -/
def wAdd (a b : W) : M W := match a, b with
  | .int i, .int j => rt (.int (i + j))
  | .str i, .str j => if i.length + j.length ≤ 100000 then rt (.str (i ++ j)) else stuck
  | .tup i, .tup j => if i.length + j.length ≤ 100000 then rt (.tup (i ++ j)) else stuck
  | .obj i, .obj j => fun S => match S[i]?, S[j]? with
    | some (.lst l), some (.lst k) => if l.length + k.length ≤ 100000 then mk (.lst (l ++ k)) S else .stuck
    | _, _ => .stuck
  | _, _ => stuck
def rAdd (K : PySem.W.Frag) : R2 := fun x y H Q => rI0 (fun i j => .int (i + j)) x y H Q ∨ (∃ i j, x = .str i ∧ y = .str j ∧ i.length + j.length ≤ sizeLine ∧ Q (.str (i ++ j)) H) ∨ rCatA K x y H Q ∨ rCat x y H Q
theorem op_addU : OpR X (binaryOp .Add) (rAdd X.K) := opr_or op_add (opr_or op_add_str (opr_or op_catA op_cat))
theorem io_add {K : PySem.W.Frag} : IOp K T (rAdd K) wAdd := by
  intro m H S x y a b Q ex R r1 r2 q
  cases a with
  | int i =>
    cases b <;> first | exact q.elim | skip
    cases vr_int r1
    cases vr_int r2
    exact .inl ⟨_, _, rfl, rfl, q _ m H Xt.refl R (.int _)⟩
  | str i =>
    cases b <;> first | exact q.elim | skip
    rename_i j
    cases vr_str r1
    cases vr_str r2
    have q' : ((if i.length + j.length ≤ 100000 then rt (.str (i ++ j)) else stuck : M W) S).post (okV K T m H Q) ex := q
    by_cases c : i.length + j.length ≤ 100000
    · rw [if_pos c] at q'
      exact .inr (.inl ⟨_, _, rfl, rfl, sz100 c, q' _ m H Xt.refl R (.str _)⟩)
    · rw [if_neg c] at q'
      exact q'.elim
  | tup i =>
    cases b <;> first | exact q.elim | skip
    rename_i j
    obtain ⟨a1, xs, rfl, h1, h2⟩ := vr_tup r1
    obtain ⟨a2, ys, rfl, h3, h4⟩ := vr_tup r2
    have q' : ((if i.length + j.length ≤ 100000 then rt (.tup (i ++ j)) else stuck : M W) S).post (okV K T m H Q) ex := q
    by_cases c : i.length + j.length ≤ 100000
    · rw [if_pos c] at q'
      have l1 := h2.length
      have l2 := h4.length
      refine .inr (.inr (.inl ⟨a1, a2, xs, ys, rfl, rfl, h1, h3, by rw [l1, l2]; exact sz100 c, fun e => ?_, fun _ e => ?_, fun _ _ p hp => ?_⟩))
      · subst e
        cases h2
        exact q' _ m H Xt.refl R (.tup a2 ys _ h3 h4)
      · subst e
        cases h4
        exact q' _ m H Xt.refl R (.tup a1 xs _ h1 (by rw [List.append_nil]; exact h2))
      · have e3 : Xt K m H m (upd H p (.tup (xs ++ ys))) := xt_new0 hp
        exact q' _ m _ e3 (R.new0 hp) (.tup p _ _ (SqT.of upd_same) ((h2.app h4).mono e3))
    · rw [if_neg c] at q'
      exact q'.elim
  | obj i =>
    cases b <;> first | exact q.elim | skip
    rename_i j
    unfold wAdd at q
    cases q1 : S[i]? with
    | none => simp only [q1] at q; exact q.elim
    | some o1 =>
      cases q2 : S[j]? with
      | none => simp only [q1, q2] at q; cases o1 <;> exact q.elim
      | some o2 =>
        simp only [q1, q2] at q
        cases o1 <;> first | exact q.elim | skip
        cases o2 <;> first | exact q.elim | skip
        rename_i l k
        obtain ⟨a1, xs, rfl, _, h1, h2⟩ := vr_lst R r1 q1
        obtain ⟨a2, ys, rfl, _, h3, h4⟩ := vr_lst R r2 q2
        have q' : ((if l.length + k.length ≤ 100000 then mk (.lst (l ++ k)) S else .stuck : MP.R W)).post (okV K T m H Q) ex := q
        by_cases c : l.length + k.length ≤ 100000
        · rw [if_pos c] at q'
          have l1 := h2.length
          have l2 := h4.length
          refine .inr (.inr (.inr ⟨a1, a2, xs, ys, rfl, rfl, h1, h3, by rw [l1, l2]; exact sz100 c, fun p hp => ?_⟩))
          obtain ⟨e2, R2, r2⟩ := mk_new (o := .lst (l ++ k)) R hp ⟨xs ++ ys, upd_same, (h2.app h4).mono (xt_new hp)⟩
          exact q' _ _ _ e2 R2 r2
        · rw [if_neg c] at q'
          exact q'.elim
  | non => exact q.elim
  | bl _ => exact q.elim
  | exc _ _ _ _ => exact q.elim
  | kl _ => exact q.elim
theorem pd_add (h1 : PD X T ET Wx a d1) (h2 : PD X T ET Wx b d2) : PD X T ET Wx (.BinOp a .Add b pos) (dOp wAdd d1 d2) := pd_op op_addU io_add h1 h2
end
end MP

set_option Elab.async false
set_option linter.all false
set_option maxRecDepth 100000
set_option maxHeartbeats 4000000
/-! MP13: *, ==, is, in, subscripts. -/
namespace PySem
theorem tuple_mul1 (l : Addr) (items : Array Value) (n : Nat) (dd : Option Addr) (sl : Array (Option Value)) (u : Tok) :
    Meets (Builtin.«tuple.__mul__» ⟨[.ref l, .int 1 u], []⟩) (fun _ R s => s.heap.get? l = some { cls := .type "tuple", dict := dd, data := .seq items n, slots := sl } ∧ R (.ok (.ret (Value.ref l))) s) := by
  refine .of_wp fun prog w A R s h => ?_
  obtain ⟨hp, g, d, tk, os⟩ := s
  obtain ⟨hl, h⟩ := h
  have f1 := AutoSeq1.idx_int
  have c0 : (decide ((1 : Int) < -(2 ^ 63)) || decide ((1 : Int) ≥ 2 ^ 63)) = false := by decide
  have c1 : (items.isEmpty || (1 : Int) == 1) = true := by simp
  wp_walk using AutoSeq1.wpAny_loadPart' hl
  repeat (first
    | (refine wpAny_ite_false (decide_eq_false (by rw [c0]; exact Bool.false_ne_true)) ?_; wp_walk using AutoSeq1.wpAny_loadPart' hl)
    | (refine wpAny_ite_true (decide_eq_true c1) ?_; wp_walk using AutoSeq1.wpAny_loadPart' hl))
  exact ⟨_, rfl, h⟩
end PySem
namespace MP
open PySem PySem.Spec PyProof.Rows L2 GxR Gx
section
variable {X : Cx} {T : List Addr}
def rRep1 (K : PySem.W.Frag) : R2 := fun x y H Q => ∃ l xs, x = .ref l ∧ y = .int 1 ∧ SqT K H l xs ∧ Q (.ref l) H
theorem op_rep1 : OpR X (binaryOp .Mult) (rRep1 X.K) := by
  intro pins s σ H x y v u Q I rx ry h
  obtain ⟨l, xs, rfl, rfl, hT, q⟩ := h
  cases rx
  obtain ⟨t, rfl⟩ := ry
  obtain ⟨its, r, ⟨⟨cls, dd, data, sl⟩, ho, hc, n, hd⟩, hs⟩ := I.tuple hT
  simp only at hc hd
  subst hc hd
  refine wpAny_binaryOp_repeat_ref (T := "tuple") (U := "int") (by decide) ⟨_, ho, rfl⟩ (fun s' => typeIs_int s' 1 t) noFill_tuple_mul F.fills_int_mul F.slot_int_rmul repeat_tuple F.slot_int_index.lookup
    (call_meets F.slot_int_rmul (typeIs_int s 1 t) F.entry_int_rmul (F.args_int_rmul_2 _ _) (int_rmul_tuple 1 t l its.toArray n dd sl) ⟨ho, rfl, ⟨_, ho, rfl⟩, ?_⟩)
  exact call_meets F.slot_tuple_mul ⟨_, ho, rfl⟩ F.entry_tuple_mul (F.args_tuple_mul_2 _ _) (tuple_mul1 l its.toArray n dd sl t) ⟨ho, .ref l, H, I, rfl, q⟩
def rMul (K : PySem.W.Frag) : R2 := fun x y H Q => rI CMul (fun i j => .int (i * j)) x y H Q ∨ rRep1 K x y H Q ∨ rRepT K x y H Q ∨ rRep x y H Q
theorem op_mulU : OpR X (binaryOp .Mult) (rMul X.K) := opr_or op_mul (opr_or op_rep1 (opr_or op_repT op_rep))
def wMul (a b : W) : M W := match a, b with
  | .int i, .int j => if CMul i j then rt (.int (i * j)) else stuck
  | .tup l, .int k => if k = 1 then rt (.tup l) else if l ≠ [] ∧ 2 ≤ k ∧ k ≤ 1000 ∧ l.length ≤ 1000 then rt (.tup (List.replicate k.toNat l).flatten) else stuck
  | .obj i, .int k => fun S => match S[i]? with
    | some (.lst l) => if 0 ≤ k ∧ k ≤ 1000 ∧ l.length ≤ 100 then mk (.lst (List.replicate k.toNat l).flatten) S else .stuck
    | _ => .stuck
  | _, _ => stuck
theorem VRs.rep {K : PySem.W.Frag} {m : List Addr} {H : Hp} {xs : List V} {l : List W} (h : VRs K m H xs l) : ∀ n : Nat, VRs K m H (List.replicate n xs).flatten (List.replicate n l).flatten
  | 0 => .nil
  | n + 1 => by
    rw [List.replicate_succ, List.replicate_succ, List.flatten_cons, List.flatten_cons]
    exact h.app (VRs.rep h n)
theorem io_mul {K : PySem.W.Frag} : IOp K T (rMul K) wMul := by
  intro m H S x y a b Q ex R r1 r2 q
  cases a with
  | int i =>
    cases b <;> first | exact q.elim | skip
    rename_i j
    cases vr_int r1
    cases vr_int r2
    have q' : ((if CMul i j then rt (.int (i * j)) else stuck : M W) S).post (okV K T m H Q) ex := q
    by_cases c : CMul i j
    · rw [if_pos c] at q'
      exact .inl ⟨_, _, rfl, rfl, c, q' _ m H Xt.refl R (.int _)⟩
    · rw [if_neg c] at q'
      exact q'.elim
  | tup l =>
    cases b <;> first | exact q.elim | skip
    rename_i k
    obtain ⟨a1, xs, rfl, h1, h2⟩ := vr_tup r1
    cases vr_int r2
    have q' : ((if k = 1 then rt (.tup l) else if l ≠ [] ∧ 2 ≤ k ∧ k ≤ 1000 ∧ l.length ≤ 1000 then rt (.tup (List.replicate k.toNat l).flatten) else stuck : M W) S).post (okV K T m H Q) ex := q
    by_cases c : k = 1
    · rw [if_pos c] at q'
      subst c
      exact .inr (.inl ⟨a1, xs, rfl, rfl, h1, q' _ m H Xt.refl R (.tup a1 xs l h1 h2)⟩)
    · rw [if_neg c] at q'
      by_cases c2 : l ≠ [] ∧ 2 ≤ k ∧ k ≤ 1000 ∧ l.length ≤ 1000
      · rw [if_pos c2] at q'
        obtain ⟨g1, g2, g3, g4⟩ := c2
        refine .inr (.inr (.inl ⟨a1, k, xs, rfl, rfl, h1, fun e => g1 ?_, g2, g3, by rw [h2.length]; exact g4, fun p hp => ?_⟩))
        · subst e; cases h2; rfl
        · have e3 : Xt K m H m (upd H p (.tup (List.replicate k.toNat xs).flatten)) := xt_new0 hp
          exact q' _ m _ e3 (R.new0 hp) (.tup p _ _ (SqT.of upd_same) ((h2.rep _).mono e3))
      · rw [if_neg c2] at q'
        exact q'.elim
  | obj i =>
    cases b <;> first | exact q.elim | skip
    rename_i k
    cases vr_int r2
    unfold wMul at q
    cases q1 : S[i]? with
    | none => simp only [q1] at q; exact q.elim
    | some o1 =>
      simp only [q1] at q
      cases o1 <;> first | exact q.elim | skip
      rename_i l
      obtain ⟨a1, xs, rfl, _, h1, h2⟩ := vr_lst R r1 q1
      have q' : ((if 0 ≤ k ∧ k ≤ 1000 ∧ l.length ≤ 100 then mk (.lst (List.replicate k.toNat l).flatten) S else .stuck : MP.R W)).post (okV K T m H Q) ex := q
      by_cases c : 0 ≤ k ∧ k ≤ 1000 ∧ l.length ≤ 100
      · rw [if_pos c] at q'
        refine .inr (.inr (.inr ⟨a1, k, xs, rfl, rfl, h1, by omega, by omega, ?_, fun p hp => ?_⟩))
        · rw [h2.length]
          exact Nat.le_trans (Nat.mul_le_mul c.2.2 (show k.toNat ≤ 1000 by omega)) (by decide)
        · obtain ⟨e2, R2, r2⟩ := mk_new (o := .lst (List.replicate k.toNat l).flatten) R hp ⟨_, upd_same, (h2.rep _).mono (xt_new hp)⟩
          exact q' _ _ _ e2 R2 r2
      · rw [if_neg c] at q'
        exact q'.elim
  | str _ => exact q.elim
  | non => exact q.elim
  | bl _ => exact q.elim
  | exc _ _ _ _ => exact q.elim
  | kl _ => exact q.elim
variable {ET : Str → Option Addr} {Wx : WX} {a b : Expr} {d d1 d2 : DE} {pos : Pos}
theorem pd_mul (h1 : PD X T ET Wx a d1) (h2 : PD X T ET Wx b d2) : PD X T ET Wx (.BinOp a .Mult b pos) (dOp wMul d1 d2) := pd_op op_mulU io_mul h1 h2
/-! ### == of scalars -/
def wEq2 (neg : Bool) (a b : W) : M W := match a, b with
  | .non, .non => rt (.bl (!neg))
  | .int i, .int j => rt (.bl (decide (i = j) != neg))
  | .bl i, .bl j => rt (.bl (decide (i = j) != neg))
  | .str i, .str j => rt (.bl (decide (i = j) != neg))
  | .non, .int _ => rt (.bl neg)
  | .non, .bl _ => rt (.bl neg)
  | .non, .str _ => rt (.bl neg)
  | .int _, .non => rt (.bl neg)
  | .bl _, .non => rt (.bl neg)
  | .str _, .non => rt (.bl neg)
  | .int _, .str _ => rt (.bl neg)
  | .str _, .int _ => rt (.bl neg)
  | .bl _, .str _ => rt (.bl neg)
  | .str _, .bl _ => rt (.bl neg)
  | _, _ => stuck
def wEq : W → W → M W := wEq2 false
def wNe : W → W → M W := wEq2 true
theorem io_eq2 {K : PySem.W.Frag} {neg : Bool} {m : List Addr} {H : Hp} {S : Sto} {x y : V} {a b : W} {Q : VK} {ex : Str → Nat → Sto → Prop} (R : Rel K T m H S) (r1 : VR K m H x a) (r2 : VR K m H y b) (q : (wEq2 neg a b S).post (okV K T m H Q) ex) :
    scal x y = true ∧ Q (.bl (decide (x = y) != neg)) H := by
  have fin : ∀ k : Bool, okV K T m H Q (.bl k) S → Q (.bl k) H := fun k h => h _ m H Xt.refl R (.bl _)
  cases a with
  | non =>
    cases vr_non r1
    cases b <;> first | exact q.elim | skip
    · cases vr_non r2; exact ⟨rfl, by simpa using fin _ q⟩
    · cases vr_bl r2; exact ⟨rfl, by simpa using fin _ q⟩
    · cases vr_int r2; exact ⟨rfl, by simpa using fin _ q⟩
    · cases vr_str r2; exact ⟨rfl, by simpa using fin _ q⟩
  | bl i =>
    cases vr_bl r1
    cases b <;> first | exact q.elim | skip
    · cases vr_non r2; exact ⟨rfl, by simpa using fin _ q⟩
    · cases vr_bl r2; exact ⟨rfl, by simpa using fin _ q⟩
    · cases vr_str r2; exact ⟨rfl, by simpa using fin _ q⟩
  | int i =>
    cases vr_int r1
    cases b <;> first | exact q.elim | skip
    · cases vr_non r2; exact ⟨rfl, by simpa using fin _ q⟩
    · cases vr_int r2; exact ⟨rfl, by simpa using fin _ q⟩
    · cases vr_str r2; exact ⟨rfl, by simpa using fin _ q⟩
  | str i =>
    cases vr_str r1
    cases b <;> first | exact q.elim | skip
    · cases vr_non r2; exact ⟨rfl, by simpa using fin _ q⟩
    · cases vr_bl r2; exact ⟨rfl, by simpa using fin _ q⟩
    · cases vr_int r2; exact ⟨rfl, by simpa using fin _ q⟩
    · cases vr_str r2; exact ⟨rfl, by simpa using fin _ q⟩
  | tup _ => exact q.elim
  | obj _ => exact q.elim
  | exc _ _ _ _ => exact q.elim
  | kl _ => exact q.elim
theorem io_eq {K : PySem.W.Frag} : IOp K T rEq wEq := fun m H S x y a b Q ex R r1 r2 q => by
  obtain ⟨h1, h2⟩ := io_eq2 R r1 r2 q
  exact ⟨h1, by simpa using h2⟩
theorem io_ne {K : PySem.W.Frag} : IOp K T rNe wNe := fun m H S x y a b Q ex R r1 r2 q => by
  obtain ⟨h1, h2⟩ := io_eq2 R r1 r2 q
  exact ⟨h1, by simpa using h2⟩
/-! ### is None -/
def wIsN (neg : Bool) (a b : W) : M W := match b with
  | .non => rt (.bl ((match a with | .non => true | _ => false) != neg))
  | _ => stuck
theorem io_is {K : PySem.W.Frag} : IOp K T (fun x y H Q => y = .non ∧ Q (.bl (decide (x = .non))) H) (wIsN false) := fun m H S x y a b Q ex R r1 r2 q => by
  cases b <;> first | exact q.elim | skip
  cases vr_non r2
  refine ⟨rfl, ?_⟩
  have k := q _ m H Xt.refl R (.bl _)
  cases r1 <;> simpa using k
theorem io_isnt {K : PySem.W.Frag} : IOp K T (fun x y H Q => y = .non ∧ Q (.bl (!decide (x = .non))) H) (wIsN true) := fun m H S x y a b Q ex R r1 r2 q => by
  cases b <;> first | exact q.elim | skip
  cases vr_non r2
  refine ⟨rfl, ?_⟩
  have k := q _ m H Xt.refl R (.bl _)
  cases r1 <;> simpa using k
end
end MP

set_option Elab.async false
set_option linter.all false
set_option maxRecDepth 100000
set_option maxHeartbeats 4000000
/-! MP14: in, subscripts, slices. -/
namespace MP
open PySem PySem.Spec PyProof.Rows L2 GxR Gx
def fV : W → V
  | .bl b => .bl b
  | .int i => .int i
  | .str x => .str x
  | _ => .non
def flatW : W → Bool
  | .non => true
  | .bl _ => true
  | .int _ => true
  | .str _ => true
  | _ => false
theorem vr_flat {K : PySem.W.Frag} {m : List Addr} {H : Hp} {v : V} {w : W} (r : VR K m H v w) (h : flatW w = true) : v = fV w ∧ flatV v = true := by
  cases r <;> first | exact ⟨rfl, rfl⟩ | cases h
theorem vrs_flat {K : PySem.W.Frag} {m : List Addr} {H : Hp} : ∀ {vs : List V} {l : List W}, VRs K m H vs l → l.all flatW = true → vs = l.map fV ∧ vs.all flatV = true
  | _, _, .nil, _ => ⟨rfl, rfl⟩
  | _, _, .cons v w vs ws r rs, h => by
    rw [List.all_cons, Bool.and_eq_true] at h
    obtain ⟨h1, h2⟩ := vr_flat r h.1
    obtain ⟨h3, h4⟩ := vrs_flat rs h.2
    exact ⟨by rw [List.map_cons, ← h1, ← h3], by rw [List.all_cons, h2, h4]; rfl⟩
def keyW : W → Option Key
  | .int i => some (.inl i)
  | .str x => some (.inr x)
  | _ => none
theorem key_vr {K : PySem.W.Frag} {m : List Addr} {H : Hp} {v : V} {w : W} {k : Key} (r : VR K m H v w) (h : keyW w = some k) : v = kV k := by
  cases r <;> first | cases h; rfl | cases h
def hasK (l : List (Key × W)) (k : Key) : Bool := l.any fun kv => decide (kv.1 = k)
def getK (l : List (Key × W)) (k : Key) : Option W := (l.find? fun kv => decide (kv.1 = k)).map (·.2)
def putW (l : List (Key × W)) (k : Key) (w : W) : List (Key × W) := if hasK l k = true then l.map (fun kv => if kv.1 = k then (kv.1, w) else kv) else l ++ [(k, w)]
theorem kr_get {K : PySem.W.Frag} {m : List Addr} {H : Hp} {k : Key} : ∀ {kvs : List (Key × V)} {l : List (Key × W)}, KR K m H kvs l → (hasK l k = true ↔ (valV kvs k).isSome = true) ∧ ∀ w, getK l k = some w → ∃ v, valV kvs k = some v ∧ VR K m H v w
  | [], [], _ => ⟨by simp [hasK, valV], fun w h => by cases h⟩
  | [], _ :: _, h => by cases h.1
  | _ :: _, [], h => by cases h.1
  | (k1, v) :: kvs, (k2, w) :: l, h => by
    obtain ⟨h1, h2⟩ := h
    simp only [List.map_cons, List.cons.injEq] at h1
    obtain ⟨rfl, h1⟩ := h1
    cases h2 with
    | cons _ _ _ _ r rs =>
      obtain ⟨i1, i2⟩ := kr_get (kvs := kvs) (l := l) ⟨h1, rs⟩
      by_cases e : k1 = k
      · subst e
        exact ⟨by simp [hasK, valV], fun w' q => ⟨v, by simp [valV], by simp [getK] at q; subst q; exact r⟩⟩
      · refine ⟨?_, fun w' q => ?_⟩
        · rw [valV_neg (p := (k1, v)) e, ← i1]
          simp [hasK, e]
        · rw [valV_neg (p := (k1, v)) e]
          exact i2 w' (by simpa [getK, List.find?_cons, e] using q)
theorem kr_put {K : PySem.W.Frag} {m : List Addr} {H : Hp} {k : Key} {v : V} {w : W} {kvs : List (Key × V)} {l : List (Key × W)} (h : KR K m H kvs l) (r : VR K m H v w) : KR K m H (putK kvs k v) (putW l k w) := by
  have hk : (kvs.any fun kv => decide (kv.1 = k)) = hasK l k := by
    have : ∀ {a : List (Key × V)} {b : List (Key × W)}, a.map (·.1) = b.map (·.1) → (a.any fun kv => decide (kv.1 = k)) = b.any fun kv => decide (kv.1 = k) := by
      intro a
      induction a with
      | nil => intro b e; cases b <;> first | rfl | cases e
      | cons p a ih => intro b e; cases b with
        | nil => cases e
        | cons q b => simp only [List.map_cons, List.cons.injEq] at e; rw [List.any_cons, List.any_cons, e.1, ih e.2]
    exact this h.1
  unfold putK putW
  rw [hk]
  by_cases c : hasK l k = true
  · rw [if_pos c, if_pos c]
    have go : ∀ {a : List (Key × V)} {b : List (Key × W)}, KR K m H a b → KR K m H (a.map fun kv => if kv.1 = k then (kv.1, v) else kv) (b.map fun kv => if kv.1 = k then (kv.1, w) else kv) := by
      intro a
      induction a with
      | nil => intro b e; cases b with
        | nil => exact ⟨rfl, .nil⟩
        | cons _ _ => cases e.1
      | cons p a ih => intro b e; cases b with
        | nil => cases e.1
        | cons q b =>
          obtain ⟨e1, e2⟩ := e
          simp only [List.map_cons, List.cons.injEq] at e1
          cases e2 with
          | cons _ _ _ _ r1 rs =>
            obtain ⟨j1, j2⟩ := ih (b := b) ⟨e1.2, rs⟩
            obtain ⟨p1, p2⟩ := p
            obtain ⟨q1, q2⟩ := q
            have e10 : p1 = q1 := e1.1
            subst e10
            by_cases g : p1 = k
            · simp only [List.map_cons, g, if_true]
              exact ⟨by rw [List.map_cons, List.map_cons, j1], .cons _ _ _ _ r j2⟩
            · simp only [List.map_cons, g, if_false]
              exact ⟨by rw [List.map_cons, List.map_cons, j1], .cons _ _ _ _ r1 j2⟩
    exact go h
  · rw [if_neg c, if_neg c]
    exact ⟨by rw [List.map_append, List.map_append, h.1]; rfl, by rw [List.map_append, List.map_append]; exact h.2.app (.one r)⟩
theorem vr_dct {K : PySem.W.Frag} {T : List Addr} {m : List Addr} {H : Hp} {S : Sto} {v : V} {n : Nat} {l : List (Key × W)} (R : Rel K T m H S) (r : VR K m H v (.obj n)) (q : S[n]? = some (.dct l)) : ∃ a xs, v = .ref a ∧ m[n]? = some a ∧ H a = some (.dK xs) ∧ KR K m H xs l := by
  cases r with
  | obj _ a h1 =>
    obtain ⟨a', h2, xs, h3, h4⟩ := R.obj n _ q
    rw [h1] at h2
    cases h2
    exact ⟨a, xs, rfl, h1, h3, h4⟩
section
variable {X : Cx} {T : List Addr} {ET : Str → Option Addr} {Wx : WX} {a b : Expr} {d d1 d2 : DE} {pos : Pos}
/-! ### in -/
def wIn (neg : Bool) (a b : W) : M W := match b with
  | .str z => match a with
    | .str y => match y.cps.toList with
      | [c] => rt (.bl ((decide (c ∈ z.cps.toList)) != neg))
      | _ => stuck
    | _ => stuck
  | .tup l => if flatW a = true ∧ l.all flatW = true then rt (.bl ((inV (fV a) (l.map fV)) != neg)) else stuck
  | .obj n => fun S => match S[n]? with
    | some (.lst l) => if flatW a = true ∧ l.all flatW = true then .ok (.bl ((inV (fV a) (l.map fV)) != neg)) S else .stuck
    | some (.dct l) => match keyW a with
      | some k => .ok (.bl (hasK l k != neg)) S
      | none => .stuck
    | _ => .stuck
  | _ => stuck
def rDin (neg : Bool) : R2 := fun x y H Q => ∃ a ov, y = .ref a ∧ DGet H a x ov ∧ Q (.bl (ov.isSome != neg)) H
def rSgn (neg : Bool) : R2 := fun x y H Q => ∃ (c : Nat) (z : Str), x = .str ⟨#[c]⟩ ∧ y = .str z ∧ Q (.bl ((decide (c ∈ z.cps.toList)) != neg)) H
def rInA (K : PySem.W.Frag) (neg : Bool) : R2 := fun x y H Q => rSgn neg x y H Q ∨ rIn K neg x y H Q ∨ rDin neg x y H Q
theorem op_inA (hu : X.A.units + 1 < cLine) : OpR X (compareOp .In) (rInA X.K false) := by
  refine opr_or (fun pins s σ H x y v u Q I rx ry h => op_in_sign pins s σ H x y v u Q I rx ry ?_) (opr_or op_in_seq fun pins s σ H x y v u Q I rx ry h => ?_)
  · obtain ⟨c, z, h1, h2, q⟩ := h
    exact ⟨c, z, h1, h2, by simpa using q⟩
  · obtain ⟨a, ov, rfl, g, q⟩ := h
    cases ry
    exact d_in hu I g rx fun s3 I3 => ⟨.bl ov.isSome, H, I3, rfl, by simpa using q⟩
theorem op_notInA (hu : X.A.units + 1 < cLine) : OpR X (compareOp .NotIn) (rInA X.K true) := by
  refine opr_or (fun pins s σ H x y v u Q I rx ry h => op_notIn_sign pins s σ H x y v u Q I rx ry ?_) (opr_or op_notIn_seq fun pins s σ H x y v u Q I rx ry h => ?_)
  · obtain ⟨c, z, h1, h2, q⟩ := h
    exact ⟨c, z, h1, h2, by simpa using q⟩
  · obtain ⟨a, ov, rfl, g, q⟩ := h
    cases ry
    exact d_notIn hu I g rx fun s3 I3 => ⟨.bl (!ov.isSome), H, I3, rfl, by simpa using q⟩
theorem io_in {K : PySem.W.Frag} {neg : Bool} : IOp K T (rInA K neg) (wIn neg) := by
  intro m H S x y a b Q ex R r1 r2 q
  cases b with
  | str z =>
    cases a <;> first | exact q.elim | skip
    rename_i y'
    cases vr_str r1
    cases vr_str r2
    unfold wIn at q
    cases hc : y'.cps.toList with
    | nil => simp only [hc] at q; exact q.elim
    | cons c r =>
      cases r with
      | cons _ _ => simp only [hc] at q; exact q.elim
      | nil =>
        simp only [hc] at q
        have ey : y' = ⟨#[c]⟩ := by
          obtain ⟨l⟩ := y'
          congr 1
          apply Array.toList_inj.mp
          simpa using hc
        exact .inl ⟨c, z, by rw [ey], rfl, q _ m H Xt.refl R (.bl _)⟩
  | tup l =>
    have q' : ((if flatW a = true ∧ l.all flatW = true then rt (.bl ((inV (fV a) (l.map fV)) != neg)) else stuck : M W) S).post (okV K T m H Q) ex := q
    by_cases c : flatW a = true ∧ l.all flatW = true
    · rw [if_pos c] at q'
      obtain ⟨a2, xs, rfl, h1, h2⟩ := vr_tup r2
      obtain ⟨e1, f1⟩ := vr_flat r1 c.1
      obtain ⟨e2, f2⟩ := vrs_flat h2 c.2
      refine .inr (.inl ⟨a2, xs, rfl, .inr h1, f1, f2, ?_⟩)
      have k := q' _ m H Xt.refl R (.bl _)
      rw [e1, e2]
      cases neg <;> simpa using k
    · rw [if_neg c] at q'
      exact q'.elim
  | obj n =>
    unfold wIn at q
    cases q1 : S[n]? with
    | none => simp only [q1] at q; exact q.elim
    | some o =>
      simp only [q1] at q
      cases o with
      | lst l =>
        have q' : ((if flatW a = true ∧ l.all flatW = true then .ok (.bl ((inV (fV a) (l.map fV)) != neg)) S else .stuck : MP.R W)).post (okV K T m H Q) ex := q
        by_cases c : flatW a = true ∧ l.all flatW = true
        · rw [if_pos c] at q'
          obtain ⟨a2, xs, rfl, _, h1, h2⟩ := vr_lst R r2 q1
          obtain ⟨e1, f1⟩ := vr_flat r1 c.1
          obtain ⟨e2, f2⟩ := vrs_flat h2 c.2
          refine .inr (.inl ⟨a2, xs, rfl, .inl (SqL.of h1), f1, f2, ?_⟩)
          have k := q' _ m H Xt.refl R (.bl _)
          rw [e1, e2]
          cases neg <;> simpa using k
        · rw [if_neg c] at q'
          exact q'.elim
      | dct l =>
        cases hk : keyW a with
        | none => simp only [hk] at q; exact q.elim
        | some k =>
          simp only [hk] at q
          obtain ⟨a2, xs, rfl, _, h1, h2⟩ := vr_dct R r2 q1
          have ek := key_vr r1 hk
          subst ek
          refine .inr (.inr ⟨a2, valV xs k, rfl, DGet.k h1, ?_⟩)
          have g := (kr_get (k := k) h2).1
          have e : (valV xs k).isSome = hasK l k := by
            rw [Bool.eq_iff_iff]
            exact g.symm
          rw [e]
          exact q _ m H Xt.refl R (.bl _)
      | ro _ => exact q.elim
      | xd _ => exact q.elim
  | int _ => exact q.elim
  | bl _ => exact q.elim
  | non => exact q.elim
  | exc _ _ _ _ => exact q.elim
  | kl _ => exact q.elim
/-! ### subscripts -/
theorem vrs_at {K : PySem.W.Frag} {m : List Addr} {H : Hp} {vs : List V} {l : List W} {i : Int} {w : W} (h : VRs K m H vs l) (e : atI l i = some w) : ∃ v, atI vs i = some v ∧ VR K m H v w := by
  unfold atI at e ⊢
  rw [h.length]
  cases q : ixN l.length i with
  | none => rw [q] at e; cases e
  | some j =>
    rw [q] at e
    exact h.get (by simpa using e)
def wIx (a b : W) : M W := match b with
  | .int i => match a with
    | .tup l => match atI l i with
      | some w => rt w
      | none => stuck
    | .kl l => match atI l i with
      | some w => rt w
      | none => stuck
    | .str z => if z.length ≤ 100000 then (match atI z.cps.toList i with
      | some c => rt (.str ⟨#[c]⟩)
      | none => stuck) else stuck
    | .obj n => fun S => match S[n]? with
      | some (.lst l) => match atI l i with
        | some w => .ok w S
        | none => .stuck
      | some (.ro l) => match atI l i with
        | some w => .ok w S
        | none => .stuck
      | _ => .stuck
    | _ => stuck
  | _ => stuck
theorem io_ix {K : PySem.W.Frag} : IOp K T (fun x y H Q => rIxL K x y H Q ∨ rIxT K x y H Q ∨ rIxS x y H Q) wIx := by
  intro m H S x y a b Q ex R r1 r2 q
  cases b <;> first | exact q.elim | skip
  rename_i i
  cases vr_int r2
  cases a with
  | tup l =>
    unfold wIx at q
    cases e : atI l i with
    | none => simp only [e] at q; exact q.elim
    | some w =>
      simp only [e] at q
      obtain ⟨a1, xs, rfl, h1, h2⟩ := vr_tup r1
      obtain ⟨v, z1, z2⟩ := vrs_at h2 e
      exact .inr (.inl ⟨a1, xs, i, v, rfl, rfl, h1, z1, q v m H Xt.refl R z2⟩)
  | kl l =>
    unfold wIx at q
    cases e : atI l i with
    | none => simp only [e] at q; exact q.elim
    | some w =>
      simp only [e] at q
      cases r1 with
      | kl a1 xs _ h1 h2 =>
        obtain ⟨v, z1, z2⟩ := vrs_at h2 e
        exact .inl ⟨a1, xs, i, v, rfl, rfl, .inr h1, z1, q v m H Xt.refl R z2⟩
  | str z =>
    cases vr_str r1
    unfold wIx at q
    by_cases hz : z.length ≤ 100000
    · simp only [if_pos hz] at q
      cases e : atI z.cps.toList i with
      | none => simp only [e] at q; exact q.elim
      | some c =>
        simp only [e] at q
        exact .inr (.inr ⟨z, i, c, rfl, rfl, sz100 hz, e, q _ m H Xt.refl R (.str _)⟩)
    · simp only [if_neg hz] at q
      exact q.elim
  | obj n =>
    unfold wIx at q
    cases q1 : S[n]? with
    | none => simp only [q1] at q; exact q.elim
    | some o =>
      simp only [q1] at q
      cases o with
      | lst l =>
        cases e : atI l i with
        | none => simp only [e] at q; exact q.elim
        | some w =>
          simp only [e] at q
          obtain ⟨a1, xs, rfl, _, h1, h2⟩ := vr_lst R r1 q1
          obtain ⟨v, z1, z2⟩ := vrs_at h2 e
          exact .inl ⟨a1, xs, i, v, rfl, rfl, SqL.of h1, z1, q v m H Xt.refl R z2⟩
      | ro l =>
        cases e : atI l i with
        | none => simp only [e] at q; exact q.elim
        | some w =>
          simp only [e] at q
          cases r1 with
          | obj _ a1 hm =>
            obtain ⟨a', h0, xs, h1, h2⟩ := R.obj n _ q1
            rw [hm] at h0
            cases h0
            obtain ⟨v, z1, z2⟩ := vrs_at h2 e
            exact .inl ⟨a1, xs, i, v, rfl, rfl, .inl h1, z1, q v m H Xt.refl R z2⟩
      | dct _ => exact q.elim
      | xd _ => exact q.elim
  | int _ => exact q.elim
  | bl _ => exact q.elim
  | non => exact q.elim
  | exc _ _ _ _ => exact q.elim
theorem pd_ixs (h1 : PD X T ET Wx a d1) (h2 : PD X T ET Wx b d2) (hs : PlainIx b := by intro _ _; rfl) : PD X T ET Wx (.Subscript a b pos) (dOp wIx d1 d2) := pd_ix (ix_list.or (ix_tup.or ix_str)) io_ix h1 h2 hs
end
end MP

set_option Elab.async false
set_option linter.all false
set_option maxRecDepth 100000
set_option maxHeartbeats 4000000
/-! MP15: slices, calls of builtins, methods, stores. -/
namespace MP
open PySem PySem.Spec PyProof.Rows L2 GxR Gx
section
variable {X : Cx} {T : List Addr} {ET : Str → Option Addr} {Wx : WX} {e a b : Expr} {d d1 d2 : DE} {lo hi : DO} {elo ehi : Option Expr} {pos p2 : Pos}
/-! ### slices -/
def cutW (xs : List W) (lo hi : Option Int) : List W := (xs.drop (HT.sIx xs.length 0 lo)).take (HT.sIx xs.length xs.length hi - HT.sIx xs.length 0 lo)
theorem vrs_cut {K : PySem.W.Frag} {m : List Addr} {H : Hp} {vs : List V} {l : List W} (h : VRs K m H vs l) (lo hi : Option Int) : VRs K m H (cutV vs lo hi) (cutW l lo hi) := by
  unfold cutV cutW
  rw [h.length]
  exact (h.drop _).take _
theorem cutV_whole {xs : List V} {lo hi : Option Int} (h : HT.sIx xs.length 0 lo = 0 ∧ HT.sIx xs.length xs.length hi = xs.length) : cutV xs lo hi = xs := by
  unfold cutV
  rw [h.1, h.2]
  simp
def wSl (a : W) (lo hi : Option Int) : M W := match a with
  | .tup l => rt (.tup (cutW l lo hi))
  | .str z => if z.length ≤ 100000 then rt (.str (cutS z lo hi)) else stuck
  | .obj n => fun S => match S[n]? with
    | some (.lst l) => mk (.lst (cutW l lo hi)) S
    | some (.ro l) => mk (.lst (cutW l lo hi)) S
    | _ => .stuck
  | .kl l => mk (.lst (cutW l lo hi))
  | _ => stuck
def rSlU (K : PySem.W.Frag) : V → Option Int → Option Int → Hp → VK → Prop := fun x lo hi H Q => rSlA K x lo hi H Q ∨ rSlS x lo hi H Q ∨ rSlL K x lo hi H Q
theorem is_sl {K : PySem.W.Frag} : ISl K T (rSlU K) wSl := by
  intro m H S x a lo hi Q ex R r q
  have lst : ∀ {a1 : Addr} {xs : List V} {l : List W}, SqL K H a1 xs → VRs K m H xs l → (mk (.lst (cutW l lo hi)) S).post (okV K T m H Q) ex → rSlL K (.ref a1) lo hi H Q := fun {a1 xs l} h1 h2 k => ⟨a1, xs, rfl, h1, fun p hp => by
    obtain ⟨e2, R2, r2⟩ := mk_new (o := .lst (cutW l lo hi)) R hp ⟨_, upd_same, (vrs_cut h2 lo hi).mono (xt_new hp)⟩
    exact k _ _ _ e2 R2 r2⟩
  cases a with
  | tup l =>
    obtain ⟨a1, xs, rfl, h1, h2⟩ := vr_tup r
    refine .inl ⟨a1, xs, rfl, h1, fun hw => ?_, fun hw p hp => ?_⟩
    · have c := vrs_cut h2 lo hi
      rw [cutV_whole hw] at c
      exact q _ m H Xt.refl R (.tup a1 xs _ h1 c)
    · have e3 : Xt K m H m (upd H p (.tup (cutV xs lo hi))) := xt_new0 hp
      exact q _ m _ e3 (R.new0 hp) (.tup p _ _ (SqT.of upd_same) ((vrs_cut h2 lo hi).mono e3))
  | str z =>
    cases vr_str r
    have q' : ((if z.length ≤ 100000 then rt (.str (cutS z lo hi)) else stuck : M W) S).post (okV K T m H Q) ex := q
    by_cases c : z.length ≤ 100000
    · rw [if_pos c] at q'
      exact .inr (.inl ⟨z, rfl, sz100 c, q' _ m H Xt.refl R (.str _)⟩)
    · rw [if_neg c] at q'
      exact q'.elim
  | obj n =>
    unfold wSl at q
    cases q1 : S[n]? with
    | none => simp only [q1] at q; exact q.elim
    | some o =>
      simp only [q1] at q
      cases o with
      | lst l =>
        obtain ⟨a1, xs, rfl, _, h1, h2⟩ := vr_lst R r q1
        exact .inr (.inr (lst (SqL.of h1) h2 q))
      | ro l =>
        cases r with
        | obj _ a1 hm =>
          obtain ⟨a', h0, xs, h1, h2⟩ := R.obj n _ q1
          rw [hm] at h0
          cases h0
          exact .inr (.inr (lst (.inl h1) h2 q))
      | dct _ => exact q.elim
      | xd _ => exact q.elim
  | kl l =>
    cases r with
    | kl a1 xs _ h1 h2 => exact .inr (.inr (lst (.inr h1) h2 q))
  | int _ => exact q.elim
  | bl _ => exact q.elim
  | non => exact q.elim
  | exc _ _ _ _ => exact q.elim
theorem pd_sl (h1 : PD X T ET Wx e d) (h2 : PDO X T ET Wx elo lo) (h3 : PDO X T ET Wx ehi hi) : PD X T ET Wx (.Subscript e (.Slice elo ehi none p2) pos) (dSl wSl d lo hi) :=
  pd_slice (sl_tupA.or (sl_str.or sl_list)) is_sl h1 h2 h3
/-- xs[::-1] of a list -/
def wRev : W → M W
  | .obj n => fun S => match S[n]? with
    | some (.lst l) => mk (.lst l.reverse) S
    | _ => .stuck
  | _ => stuck
theorem pd_rev {k : Nat} {q1 q2 q3 : Pos} (h1 : PD X T ET Wx e d) : PD X T ET Wx (.Subscript e (.Slice none none (some (.UnaryOp .USub (.Constant (.int 1) k q1) q2)) q3) pos) (dUn wRev d) := by
  obtain ⟨ta, pa, ia⟩ := h1
  refine ⟨_, pe_revL pa, ⟨fun {L} σ ρ m H S Q E R h => ia.run σ ρ m H S _ E R (post_imp (post_bd.mp h) (fun w1 S1 h1 v1 m1 H1 e1 R1 r1 => ?_) fun _ _ _ z => z)⟩⟩
  cases w1 <;> first | exact h1.elim | skip
  rename_i n
  unfold wRev at h1
  cases q1 : S1[n]? with
  | none => simp only [q1] at h1; exact h1.elim
  | some o =>
    simp only [q1] at h1
    cases o <;> first | exact h1.elim | skip
    rename_i l
    obtain ⟨a1, xs, rfl, _, h3, h4⟩ := vr_lst R1 r1 q1
    refine ⟨a1, xs, rfl, SqL.of h3, fun p hp => ?_⟩
    obtain ⟨e2, R2, r2⟩ := mk_new (o := .lst l.reverse) R1 hp ⟨_, upd_same, (h4.rev).mono (xt_new hp)⟩
    exact h1 _ _ _ (e1.trans e2) R2 r2
/-! ### calls -/
def on1 (f : W → M W) : List W → M W := fun ws => match ws with
  | [w] => f w
  | _ => stuck
def on2 (f : W → W → M W) : List W → M W := fun ws => match ws with
  | [w, u] => f w u
  | _ => stuck
theorem ic_1 {K : PySem.W.Frag} {r : List V → Hp → VK → Prop} {f : W → M W} (h : IUn K T (fun x H Q => r [x] H Q) f) : ICa K T r (on1 f) := by
  intro m H S xs as Q ex R rs q
  cases rs with
  | nil => exact q.elim
  | cons x w xs ws r1 rs =>
    cases rs with
    | nil => exact h m H S x w Q ex R r1 q
    | cons _ _ _ _ _ _ => exact q.elim
theorem ic_2 {K : PySem.W.Frag} {r : List V → Hp → VK → Prop} {f : W → W → M W} (h : IOp K T (fun x y H Q => r [x, y] H Q) f) : ICa K T r (on2 f) := by
  intro m H S xs as Q ex R rs q
  cases rs with
  | nil => exact q.elim
  | cons x w xs ws r1 rs =>
    cases rs with
    | nil => exact q.elim
    | cons y u xs ws r2 rs =>
      cases rs with
      | nil => exact h m H S x y w u Q ex R r1 r2 q
      | cons _ _ _ _ _ _ => exact q.elim
def rLenU (K : PySem.W.Frag) : List V → Hp → VK → Prop := fun xs H Q => ∃ x n, xs = [x] ∧ LenV K x H n ∧ Q (.int n) H
def wLen : W → M W
  | .str z => if z.length ≤ 100000 then rt (.int z.length) else stuck
  | .tup l => rt (.int l.length)
  | .kl l => rt (.int l.length)
  | .obj n => fun S => match S[n]? with
    | some (.lst l) => .ok (.int l.length) S
    | some (.ro l) => .ok (.int l.length) S
    | _ => .stuck
  | _ => stuck
theorem ic_len {K : PySem.W.Frag} : ICa K T (rLenU K) (on1 wLen) := by
  refine ic_1 fun m H S x w Q ex R r q => ?_
  cases w with
  | str z =>
    cases vr_str r
    have q' : ((if z.length ≤ 100000 then rt (.int z.length) else stuck : M W) S).post (okV K T m H Q) ex := q
    by_cases c : z.length ≤ 100000
    · rw [if_pos c] at q'
      exact ⟨_, _, rfl, ⟨sz100 c, rfl⟩, q' _ m H Xt.refl R (.int _)⟩
    · rw [if_neg c] at q'
      exact q'.elim
  | tup l =>
    obtain ⟨a1, xs, rfl, h1, h2⟩ := vr_tup r
    exact ⟨_, l.length, rfl, .inr ⟨xs, h1, h2.length.symm⟩, q _ m H Xt.refl R (.int _)⟩
  | kl l =>
    cases r with
    | kl a1 xs _ h1 h2 => exact ⟨_, l.length, rfl, .inl ⟨xs, .inr h1, h2.length.symm⟩, q _ m H Xt.refl R (.int _)⟩
  | obj n =>
    unfold wLen at q
    cases q1 : S[n]? with
    | none => simp only [q1] at q; exact q.elim
    | some o =>
      simp only [q1] at q
      cases o with
      | lst l =>
        obtain ⟨a1, xs, rfl, _, h1, h2⟩ := vr_lst R r q1
        exact ⟨_, l.length, rfl, .inl ⟨xs, SqL.of h1, h2.length.symm⟩, q _ m H Xt.refl R (.int _)⟩
      | ro l =>
        cases r with
        | obj _ a1 hm =>
          obtain ⟨a', h0, xs, h1, h2⟩ := R.obj n _ q1
          rw [hm] at h0
          cases h0
          exact ⟨_, l.length, rfl, .inl ⟨xs, .inl h1, h2.length.symm⟩, q _ m H Xt.refl R (.int _)⟩
      | dct _ => exact q.elim
      | xd _ => exact q.elim
  | int _ => exact q.elim
  | bl _ => exact q.elim
  | non => exact q.elim
  | exc _ _ _ _ => exact q.elim
def wAbs : W → M W
  | .int i => rt (.int (if i < 0 then -i else i))
  | _ => stuck
theorem ic_abs {K : PySem.W.Frag} : ICa K T (fun xs H Q => ∃ i, xs = [.int i] ∧ Q (.int (if i < 0 then -i else i)) H) (on1 wAbs) := by
  refine ic_1 fun m H S x w Q ex R r q => ?_
  cases w <;> first | exact q.elim | skip
  cases vr_int r
  exact ⟨_, rfl, q _ m H Xt.refl R (.int _)⟩
def wMax2 (a b : W) : M W := match a, b with | .int i, .int j => rt (.int (if j > i then j else i)) | _, _ => stuck
def wMin2 (a b : W) : M W := match a, b with | .int i, .int j => rt (.int (if j < i then j else i)) | _, _ => stuck
theorem ic_max2 {K : PySem.W.Frag} : ICa K T (fun xs H Q => ∃ i j, xs = [.int i, .int j] ∧ Q (.int (if j > i then j else i)) H) (on2 wMax2) := by
  refine ic_2 fun m H S x y a b Q ex R r1 r2 q => ?_
  cases a <;> cases b <;> first | exact q.elim | skip
  cases vr_int r1
  cases vr_int r2
  exact ⟨_, _, rfl, q _ m H Xt.refl R (.int _)⟩
theorem ic_min2 {K : PySem.W.Frag} : ICa K T (fun xs H Q => ∃ i j, xs = [.int i, .int j] ∧ Q (.int (if j < i then j else i)) H) (on2 wMin2) := by
  refine ic_2 fun m H S x y a b Q ex R r1 r2 q => ?_
  cases a <;> cases b <;> first | exact q.elim | skip
  cases vr_int r1
  cases vr_int r2
  exact ⟨_, _, rfl, q _ m H Xt.refl R (.int _)⟩
def wInt : W → M W
  | .int i => rt (.int i)
  | .bl k => rt (.int (if k then 1 else 0))
  | _ => stuck
theorem ic_int {K : PySem.W.Frag} : ICa K T (fun xs H Q => (∃ i, xs = [.int i] ∧ Q (.int i) H) ∨ ∃ k, xs = [.bl k] ∧ Q (.int (if k then 1 else 0)) H) (on1 wInt) := by
  refine ic_1 fun m H S x w Q ex R r q => ?_
  cases w <;> first | exact q.elim | skip
  · cases vr_bl r
    exact .inr ⟨_, rfl, q _ m H Xt.refl R (.int _)⟩
  · cases vr_int r
    exact .inl ⟨_, rfl, q _ m H Xt.refl R (.int _)⟩
def wStr : W → M W
  | .int i => if i.natAbs.log2 < 1920 then rt (.str (toString i)) else stuck
  | _ => stuck
theorem ic_str {K : PySem.W.Frag} : ICa K T (fun xs H Q => ∃ i, xs = [.int i] ∧ i.natAbs.log2 < 1920 ∧ Q (.str (toString i)) H) (on1 wStr) := by
  refine ic_1 fun m H S x w Q ex R r q => ?_
  cases w <;> first | exact q.elim | skip
  rename_i i
  cases vr_int r
  have q' : ((if i.natAbs.log2 < 1920 then rt (.str (toString i)) else stuck : M W) S).post (okV K T m H Q) ex := q
  by_cases c : i.natAbs.log2 < 1920
  · rw [if_pos c] at q'
    exact ⟨_, rfl, c, q' _ m H Xt.refl R (.str _)⟩
  · rw [if_neg c] at q'
    exact q'.elim
/-! ints of a sequence -/
def intsW : List W → Option (List Int)
  | [] => some []
  | .int i :: l => (intsW l).map (i :: ·)
  | _ => none
theorem ints_vr {K : PySem.W.Frag} {m : List Addr} {H : Hp} : ∀ {vs : List V} {l : List W} {ns : List Int}, VRs K m H vs l → intsW l = some ns → vs = ns.map V.int
  | _, _, ns, .nil, h => by cases h; rfl
  | _, _, ns, .cons v w vs ws r rs, h => by
    cases w <;> first | cases h | skip
    rename_i i
    unfold intsW at h
    cases e : intsW ws with
    | none => rw [e] at h; cases h
    | some ms =>
      rw [e] at h
      cases h
      rw [vr_int r, ints_vr rs e]
      rfl
/-- min of a list of ints -/
def wMinL : W → M W
  | .obj n => fun S => match S[n]? with
    | some (.lst l) => match (intsW l).bind List.min? with
      | some i => .ok (.int i) S
      | none => .stuck
    | _ => .stuck
  | _ => stuck
theorem ic_minL {K : PySem.W.Frag} : ICa K T (rMin K) (on1 wMinL) := by
  refine ic_1 fun m H S x w Q ex R r q => ?_
  cases w <;> first | exact q.elim | skip
  rename_i n
  unfold wMinL at q
  cases q1 : S[n]? with
  | none => simp only [q1] at q; exact q.elim
  | some o =>
    simp only [q1] at q
    cases o <;> first | exact q.elim | skip
    rename_i l
    obtain ⟨a1, xs, rfl, _, h1, h2⟩ := vr_lst R r q1
    cases e : intsW l with
    | none => simp only [e] at q; exact q.elim
    | some ns =>
      cases e2 : ns.min? with
      | none => simp only [e, Option.bind_some, e2] at q; exact q.elim
      | some i =>
        simp only [e, Option.bind_some, e2] at q
        have hx := ints_vr h2 e
        subst hx
        have hi := List.min?_eq_some_iff.mp e2
        refine ⟨a1, ns, rfl, SqL.of h1, List.length_pos_of_mem hi.1, fun y hy hle => ?_⟩
        have : y = i := Int.le_antisymm (hle i hi.1) (hi.2 y hy)
        subst this
        exact q _ m H Xt.refl R (.int _)
/-- sum of a tuple of ints -/
def rSumT (K : PySem.W.Frag) : List V → Hp → VK → Prop := fun vs H Q => ∃ (a : Addr) (ns : List Int), vs = [V.ref a] ∧ SqT K H a (ns.map V.int) ∧ Q (.int ns.sum) H
theorem cr_sumT (hc : X.calm = true) : CallR X (.builtin "sum") (rSumT X.K) := by
  intro pins s σ H vs us Q I r h
  obtain ⟨a, ns, rfl, hs, q⟩ := h
  obtain ⟨its, rv, hl, _⟩ := I.tuple hs
  rw [Vals.ref1 r]
  have hi := rv.ints
  obtain ⟨xs, hx⟩ := hi.allInts.items
  have hn : numsOf its.toArray.toList = ns := by rw [show its.toArray.toList = its from rfl, hi.numsOf]
  have hl' : s.heap.IsTuple a its.toArray := hl
  rw [hx] at hl' hn
  rw [nums_intItems] at hn
  refine PySem.W.ktm_sumG (I.ok.hd hc) hl' fun h' tk t' hk => ?_
  rw [preSum_eq, List.take_of_length_le (by simp), hn]
  exact ⟨.int _, H, I.kept hk, ⟨_, rfl⟩, q⟩
def wSum : W → M W
  | .tup l => match intsW l with
    | some ns => rt (.int ns.sum)
    | none => stuck
  | .obj n => fun S => match S[n]? with
    | some (.lst l) => match intsW l with
      | some ns => .ok (.int ns.sum) S
      | none => .stuck
    | _ => .stuck
  | _ => stuck
theorem ic_sum {K : PySem.W.Frag} : ICa K T (fun xs H Q => rSumT K xs H Q ∨ rSum K xs H Q) (on1 wSum) := by
  refine ic_1 fun m H S x w Q ex R r q => ?_
  cases w <;> first | exact q.elim | skip
  · rename_i l
    obtain ⟨a1, xs, rfl, h1, h2⟩ := vr_tup r
    unfold wSum at q
    cases e : intsW l with
    | none => simp only [e] at q; exact q.elim
    | some ns =>
      simp only [e] at q
      have hx := ints_vr h2 e
      subst hx
      exact .inl ⟨a1, ns, rfl, h1, q _ m H Xt.refl R (.int _)⟩
  · rename_i n
    unfold wSum at q
    cases q1 : S[n]? with
    | none => simp only [q1] at q; exact q.elim
    | some o =>
      simp only [q1] at q
      cases o <;> first | exact q.elim | skip
      rename_i l
      obtain ⟨a1, xs, rfl, _, h1, h2⟩ := vr_lst R r q1
      cases e : intsW l with
      | none => simp only [e] at q; exact q.elim
      | some ns =>
        simp only [e] at q
        have hx := ints_vr h2 e
        subst hx
        exact .inr ⟨a1, ns, rfl, SqL.of h1, q _ m H Xt.refl R (.int _)⟩
/-- tuple(xs), list(xs) -/
def wTupOf : W → M W
  | .tup l => rt (.tup l)
  | .kl l => rt (.tup l)
  | .obj n => fun S => match S[n]? with
    | some (.lst l) => .ok (.tup l) S
    | some (.ro l) => .ok (.tup l) S
    | _ => .stuck
  | _ => stuck
def wLstOf : W → M W
  | .tup l => mk (.lst l)
  | .kl l => mk (.lst l)
  | .obj n => fun S => match S[n]? with
    | some (.lst l) => mk (.lst l) S
    | some (.ro l) => mk (.lst l) S
    | _ => .stuck
  | _ => stuck
theorem tup_new {K : PySem.W.Frag} {m : List Addr} {H : Hp} {S : Sto} {Q : VK} {xs : List V} {l : List W} (R : Rel K T m H S) (h : VRs K m H xs l) (q : okV K T m H Q (.tup l) S) : ∀ p, H p = none → Q (.ref p) (upd H p (.tup xs)) := fun p hp => by
  have e3 : Xt K m H m (upd H p (.tup xs)) := xt_new0 hp
  exact q _ m _ e3 (R.new0 hp) (.tup p _ _ (SqT.of upd_same) (h.mono e3))
theorem lst_new {K : PySem.W.Frag} {m : List Addr} {H : Hp} {S : Sto} {Q : VK} {ex : Str → Nat → Sto → Prop} {xs : List V} {l : List W} (R : Rel K T m H S) (h : VRs K m H xs l) (q : (mk (.lst l) S).post (okV K T m H Q) ex) : ∀ p, H p = none → Q (.ref p) (upd H p (.lst xs)) := fun p hp => by
  obtain ⟨e2, R2, r2⟩ := mk_new (o := .lst l) R hp ⟨_, upd_same, h.mono (xt_new hp)⟩
  exact q _ _ _ e2 R2 r2
theorem vr_ro {K : PySem.W.Frag} {m : List Addr} {H : Hp} {S : Sto} {v : V} {n : Nat} {l : List W} (R : Rel K T m H S) (r : VR K m H v (.obj n)) (q : S[n]? = some (.ro l)) : ∃ a xs, v = .ref a ∧ SqL K H a xs ∧ VRs K m H xs l := by
  cases r with
  | obj _ a h1 =>
    obtain ⟨a', h2, xs, h3, h4⟩ := R.obj n _ q
    rw [h1] at h2
    cases h2
    exact ⟨a, xs, rfl, .inl h3, h4⟩
theorem ic_tupOf {K : PySem.W.Frag} : ICa K T (fun xs H Q => ∃ p ys, xs = [.ref p] ∧ ((SqL K H p ys ∧ ∀ l, H l = none → Q (.ref l) (upd H l (.tup ys))) ∨ (SqT K H p ys ∧ Q (.ref p) H))) (on1 wTupOf) := by
  refine ic_1 fun m H S x w Q ex R r q => ?_
  cases w <;> first | exact q.elim | skip
  · rename_i l
    obtain ⟨a1, xs, rfl, h1, h2⟩ := vr_tup r
    exact ⟨a1, xs, rfl, .inr ⟨h1, q _ m H Xt.refl R (.tup a1 xs l h1 h2)⟩⟩
  · rename_i n
    unfold wTupOf at q
    cases q1 : S[n]? with
    | none => simp only [q1] at q; exact q.elim
    | some o =>
      simp only [q1] at q
      cases o <;> first | exact q.elim | skip
      · obtain ⟨a1, xs, rfl, _, h1, h2⟩ := vr_lst R r q1
        exact ⟨a1, xs, rfl, .inl ⟨SqL.of h1, tup_new R h2 q⟩⟩
      · obtain ⟨a1, xs, rfl, h1, h2⟩ := vr_ro R r q1
        exact ⟨a1, xs, rfl, .inl ⟨h1, tup_new R h2 q⟩⟩
  · cases r with
    | kl a1 xs _ h1 h2 => exact ⟨a1, xs, rfl, .inl ⟨.inr h1, tup_new R h2 q⟩⟩
theorem ic_lstOf {K : PySem.W.Frag} : ICa K T (fun xs H Q => ∃ p ys, xs = [.ref p] ∧ (SqL K H p ys ∨ SqT K H p ys) ∧ ∀ l, H l = none → Q (.ref l) (upd H l (.lst ys))) (on1 wLstOf) := by
  refine ic_1 fun m H S x w Q ex R r q => ?_
  cases w <;> first | exact q.elim | skip
  · obtain ⟨a1, xs, rfl, h1, h2⟩ := vr_tup r
    exact ⟨a1, xs, rfl, .inr h1, lst_new R h2 q⟩
  · rename_i n
    unfold wLstOf at q
    cases q1 : S[n]? with
    | none => simp only [q1] at q; exact q.elim
    | some o =>
      simp only [q1] at q
      cases o <;> first | exact q.elim | skip
      · obtain ⟨a1, xs, rfl, _, h1, h2⟩ := vr_lst R r q1
        exact ⟨a1, xs, rfl, .inl (SqL.of h1), lst_new R h2 q⟩
      · obtain ⟨a1, xs, rfl, h1, h2⟩ := vr_ro R r q1
        exact ⟨a1, xs, rfl, .inl h1, lst_new R h2 q⟩
  · cases r with
    | kl a1 xs _ h1 h2 => exact ⟨a1, xs, rfl, .inl (.inr h1), lst_new R h2 q⟩
end
end MP

set_option Elab.async false
set_option linter.all false
set_option maxRecDepth 100000
set_option maxHeartbeats 4000000
/-! MP16: isinstance, methods of lists, stores; the rules by names. -/
namespace MP
open PySem PySem.Spec PyProof.Rows L2 GxR Gx
section
variable {X : Cx} {T : List Addr} {ET : Str → Option Addr} {Wx : WX} {e e2 o a b : Expr} {es : List Expr} {d d1 d2 : DE} {da : DA} {pos p p1 p2 apos : Pos} {x : Str}
/-! ### isinstance(e, T) -/
def tyOf : W → Sto → Option String
  | .non, _ => some "NoneType"
  | .bl _, _ => some "bool"
  | .int _, _ => some "int"
  | .str _, _ => some "str"
  | .tup _, _ => some "tuple"
  | .kl _, _ => some "list"
  | .obj n, S => match S[n]? with
    | some (.lst _) => some "list"
    | some (.ro _) => some "list"
    | some (.dct _) => some "dict"
    | _ => none
  | .exc _ _ _ _, _ => none
theorem ty_vr {K : PySem.W.Frag} {m : List Addr} {H : Hp} {S : Sto} {v : V} {w : W} {t : String} (R : Rel K T m H S) (r : VR K m H v w) (h : tyOf w S = some t) : TyX K H v (.type t) := by
  cases w with
  | non => cases h; cases vr_non r; exact .base .non
  | bl _ => cases h; cases vr_bl r; exact .base (.bl _)
  | int _ => cases h; cases vr_int r; exact .base (.int _)
  | str _ => cases h; cases vr_str r; exact .base (.str _)
  | tup l =>
    cases h
    obtain ⟨a1, xs, rfl, h1, h2⟩ := vr_tup r
    rcases h1 with (h1 | ⟨ob, h1⟩) | ⟨ob, its, n, h1, h2, _⟩
    · exact .base (.tup h1)
    · exact .fTuple h1
    · exact .kTuple h1 h2
  | kl l =>
    cases h
    cases r with
    | kl a1 xs _ h1 h2 =>
      obtain ⟨ob, its, n, h3, h4, _⟩ := h1
      exact .kList h3 h4
  | obj n =>
    unfold tyOf at h
    cases q1 : S[n]? with
    | none => simp only [q1] at h; cases h
    | some so =>
      simp only [q1] at h
      cases so with
      | lst l =>
        cases h
        obtain ⟨a1, xs, rfl, _, h1, h2⟩ := vr_lst R r q1
        exact .base (.lst h1)
      | ro l =>
        cases h
        cases r with
        | obj _ a1 hm =>
          obtain ⟨a', h0, xs, h1, h2⟩ := R.obj n _ q1
          rw [hm] at h0
          cases h0
          rcases h1 with h1 | ⟨ob, h1⟩
          · exact .base (.lst h1)
          · exact .base (.frz h1)
      | dct l =>
        cases h
        obtain ⟨a1, xs, rfl, _, h1, h2⟩ := vr_dct R r q1
        exact .base (.dK h1)
      | xd _ => cases h
  | exc _ _ _ _ => cases h
def wIsi (n : String) (w : W) : M W := fun S => match (tyOf w S).bind fun t => kitB t n with
  | some b => .ok (.bl b) S
  | none => .stuck
theorem pd_isi {n : String} (hg : Gl X "isinstance") (hm : X.mg "isinstance" = none) (hgT : Gl X x) (hmT : X.mg x = none) (hv : bootBuiltins x = some (.type n)) (h1 : PD X T ET Wx e d) (hn : x ≠ "__name__" := by decide) (hdb : (x == ("__debug__" : Str)) = false := by decide)
    (he : starEach [e, .Name x p1] X.env = (false, eval e X.env) :: starEach [.Name x p1] X.env := by rfl) (hpl : (backTo pos (starEach [.Name x p1] X.env)).any (·.1) = false := by rfl)
    (hs1 : starEach [.Name x p1] X.env = (false, eval (.Name x p1) X.env) :: starEach [] X.env := by rfl) :
    PD X T ET Wx (.Call (.Name "isinstance" p) [e, .Name x p1] [] pos) (dUn (wIsi n) d) := by
  obtain ⟨te, pe, ie⟩ := h1
  refine ⟨_, pe_callB call_isi hg hm PyProof.Rows.boot_isinstance (pa_cons pe (pa_cons (pe_bltn (v := .ty n) hgT hmT hv rfl hn hdb) pa_nil hs1) he) (by decide) (by decide) he hpl, ⟨fun {L} σ ρ m H S Q E R h => ie.run σ ρ m H S _ E R (post_imp (post_bd.mp h) (fun w S1 h1 v m1 H1 e1 R1 r1 => ?_) fun _ _ _ z => z)⟩⟩
  unfold wIsi at h1
  cases q : tyOf w S1 with
  | none => simp only [q, Option.bind_none] at h1; exact h1.elim
  | some t =>
    cases q2 : kitB t n with
    | none => simp only [q, Option.bind_some, q2] at h1; exact h1.elim
    | some k =>
      simp only [q, Option.bind_some, q2] at h1
      exact ⟨v, .ty n, .type t, .type n, k, rfl, .ty n, ty_vr R1 r1 q, kit_ty q2, h1 _ m1 H1 e1 R1 (.bl _)⟩
/-! ### methods of a list -/
def isL : W → M Unit
  | .obj n => fun S => match S[n]? with
    | some (.lst _) => .ok () S
    | _ => .stuck
  | _ => stuck
theorem it_list {K : PySem.W.Frag} : ITy K T "list" isL := by
  intro m H S x a k ex R r q
  cases a <;> first | exact q.elim | skip
  rename_i n
  unfold isL at q
  cases q1 : S[n]? with
  | none => simp only [q1] at q; exact q.elim
  | some so =>
    simp only [q1] at q
    cases so <;> first | exact q.elim | skip
    obtain ⟨a1, xs, rfl, _, h1, h2⟩ := vr_lst R r q1
    exact ⟨.inl ⟨rfl, xs, SqL.of h1⟩, q⟩
def wApp (a : W) (ws : List W) : M W := match a, ws with
  | .obj n, [w] => fun S => match S[n]? with
    | some (.lst l) => if l.length < 100000 then .ok .non (S.set n (.lst (l ++ [w]))) else .stuck
    | _ => .stuck
  | _, _ => stuck
theorem lst_put {K : PySem.W.Frag} {m : List Addr} {H : Hp} {S : Sto} {n : Nat} {a1 : Addr} {xs ys : List V} {l : List W} (R : Rel K T m H S) (hm : m[n]? = some a1) (h1 : H a1 = some (.lst xs)) (h2 : VRs K m H ys l) :
    Xt K m H m (upd H a1 (.lst ys)) ∧ Rel K T m (upd H a1 (.lst ys)) (S.set n (.lst l)) := by
  have e : Xt K m H m (upd H a1 (.lst ys)) := xt_put h1 (fun xs z => by cases z) fun ob xs z => by cases z
  exact ⟨e, R.put hm h1 (fun xs z => by cases z) (fun ob xs z => by cases z) (fun ps z => by cases z) ⟨_, upd_same, h2.mono e⟩⟩
theorem im_app {K : PySem.W.Frag} : IMt K T rAppend wApp := by
  intro m H S x a xs as Q ex R r rs q
  cases a <;> first | exact q.elim | skip
  rename_i n
  match as, q, rs with
  | [], q, _ => exact q.elim
  | _ :: _ :: _, q, _ => exact q.elim
  | [w], q, rs =>
    obtain ⟨y, rfl, ry⟩ := rs.sing
    unfold wApp at q
    cases q1 : S[n]? with
    | none => simp only [q1] at q; exact q.elim
    | some so =>
      simp only [q1] at q
      cases so <;> first | exact q.elim | skip
      rename_i l
      obtain ⟨a1, xs, rfl, hm, h1, h2⟩ := vr_lst R r q1
      have q' : ((if l.length < 100000 then .ok .non (S.set n (.lst (l ++ [w]))) else .stuck : MP.R W)).post (okV K T m H Q) ex := q
      by_cases c : l.length < 100000
      · rw [if_pos c] at q'
        obtain ⟨e, R2⟩ := lst_put R hm h1 (h2.app (.one ry))
        exact ⟨a1, xs, y, rfl, rfl, h1, by rw [h2.length]; exact Nat.lt_of_lt_of_le c (by decide), q' _ m _ e R2 .non⟩
      · rw [if_neg c] at q'
        exact q'.elim
def wPop (a : W) (ws : List W) : M W := match a, ws with
  | .obj n, [] => fun S => match S[n]? with
    | some (.lst l) => match l[l.length - 1]? with
      | some w => .ok w (S.set n (.lst l.dropLast))
      | none => .stuck
    | _ => .stuck
  | _, _ => stuck
theorem vrs_dropLast {K : PySem.W.Frag} {m : List Addr} {H : Hp} {vs : List V} {l : List W} (h : VRs K m H vs l) : VRs K m H vs.dropLast l.dropLast := by
  rw [List.dropLast_eq_take, List.dropLast_eq_take, h.length]
  exact h.take _
theorem im_pop {K : PySem.W.Frag} : IMt K T rPop wPop := by
  intro m H S x a xs as Q ex R r rs q
  cases a <;> first | exact q.elim | skip
  rename_i n
  match as, q, rs with
  | _ :: _, q, _ => exact q.elim
  | [], q, rs =>
    cases rs
    unfold wPop at q
    cases q1 : S[n]? with
    | none => simp only [q1] at q; exact q.elim
    | some so =>
      simp only [q1] at q
      cases so <;> first | exact q.elim | skip
      rename_i l
      obtain ⟨a1, xs, rfl, hm, h1, h2⟩ := vr_lst R r q1
      cases q2 : l[l.length - 1]? with
      | none => simp only [q2] at q; exact q.elim
      | some w =>
        simp only [q2] at q
        obtain ⟨v, z1, z2⟩ := h2.get q2
        obtain ⟨e, R2⟩ := lst_put R hm h1 (vrs_dropLast h2)
        exact ⟨a1, xs, v, rfl, rfl, h1, by rw [h2.length]; exact z1, q v m _ e R2 (z2.mono e)⟩
/-! ### o[i] = v -/
def wSet (o i v : W) : M Unit := match o with
  | .obj n => fun S => match S[n]? with
    | some (.lst l) => match i with
      | .int k => match ixN l.length k with
        | some j => .ok () (S.set n (.lst (l.set j v)))
        | none => .stuck
      | _ => .stuck
    | some (.dct l) => match keyW i with
      | some k => if l.length < 100000 then .ok () (S.set n (.dct (putW l k v))) else .stuck
      | none => .stuck
    | _ => .stuck
  | _ => stuck
def rDset : TSet := fun o i v H Q => ∃ a H', o = .ref a ∧ DPut H a i v H' ∧ Q H'
theorem set_both (hu : X.A.units + 1 < cLine) : PSet X (fun o i v H Q => rSetL o i v H Q ∨ rDset o i v H Q) := by
  intro pins s σ H o i v ov iv u Q I ro ri rv h
  rcases h with h | h
  · exact set_list pins s σ H o i v ov iv u Q I ro ri rv h
  · obtain ⟨a1, H', rfl, g, q⟩ := h
    cases ro
    exact d_setItem hu I g ri rv fun s4 I4 => ⟨H', I4, q⟩
def gSubW (d1 d2 : DE) : W → En → M En := fun v ρ => bd (d1 ρ) fun o => bd (d2 ρ) fun i => bd (wSet o i v) fun _ => rt ρ
theorem pdg_sub (hu : X.A.units + 1 < cLine) (h1 : PD X T ET noW o d1) (h2 : PD X T ET noW a d2)
    (ha : ∀ v, assign (.Subscript o a pos) X.env v = (do
      let ov ← holding [v] (eval o X.env)
      let iv ← holding [v, ov] (eval a X.env)
      standAt pos
      holding [v, ov, iv] (setItem ov iv v)
      release [v, ov, iv] []) := by intro _; rfl) : PDG X T (.Subscript o a pos) (fun v ρ S => noEx (gSubW d1 d2 v ρ S)) := by
  obtain ⟨t1, p1, i1⟩ := h1
  obtain ⟨t2, p2, i2⟩ := h2
  refine ⟨_, pg_sub p1 p2 (set_both hu) ha, ⟨fun v w σ ρ m H S Q ex E R r h => ?_⟩⟩
  have h' : (gSubW d1 d2 w ρ S).post _ (exX X.K T ET noW σ m H) := noX_post (m := gSubW d1 d2 w ρ) h
  refine i1.run σ ρ m H S _ E R (post_imp (post_bd.mp h') (fun wo S1 h1 vo m1 H1 e1 R1 r1 => ?_) fun _ _ _ z => z)
  refine i2.run σ ρ m1 H1 S1 _ (E.mono e1) R1 (post_imp (post_bd.mp h1) (fun wi S2 h2 vi m2 H2 e2 R2 r2 => ?_) fun _ _ _ z => z.mono e1)
  have h3 := post_bd.mp h2
  cases wo <;> first | exact h3.elim | skip
  rename_i n
  unfold wSet at h3
  cases q1 : S2[n]? with
  | none => simp only [q1] at h3; exact h3.elim
  | some so =>
    simp only [q1] at h3
    cases so <;> first | exact h3.elim | skip
    · rename_i l
      cases wi <;> first | exact h3.elim | skip
      rename_i k
      cases q2 : ixN l.length k with
      | none => simp only [q2] at h3; exact h3.elim
      | some j =>
        simp only [q2] at h3
        obtain ⟨a1, xs, rfl, hm, g1, g2⟩ := vr_lst R2 (r1.mono e2) q1
        cases vr_int r2
        obtain ⟨e, R3⟩ := lst_put R2 hm g1 (g2.set j (r.mono (e1.trans e2)))
        exact .inl ⟨a1, xs, k, j, rfl, rfl, g1, by rw [g2.length]; exact q2, h3 σ m2 _ ((e1.trans e2).trans e) R3 (E.mono ((e1.trans e2).trans e))⟩
    · rename_i l
      cases q2 : keyW wi with
      | none => simp only [q2] at h3; exact h3.elim
      | some k =>
        simp only [q2] at h3
        by_cases c : l.length < 100000
        · rw [if_pos c] at h3
          obtain ⟨a1, kvs, rfl, hm, g1, g2⟩ := vr_dct R2 (r1.mono e2) q1
          have ek := key_vr r2 q2
          subst ek
          have e : Xt X.K m2 H2 m2 (upd H2 a1 (.dK (putK kvs k v))) := xt_put g1 (fun xs z => by cases z) fun ob xs z => by cases z
          have R3 := R2.put (u := .dK (putK kvs k v)) (so := .dct (putW l k w)) hm g1 (fun xs z => by cases z) (fun ob xs z => by cases z) (fun ps z => by cases z)
            ⟨_, upd_same, let g := kr_put (k := k) g2 (r.mono (e1.trans e2)); ⟨g.1, g.2.mono e⟩⟩
          have hl : kvs.length < sizeLine := by
            have := congrArg List.length g2.1
            rw [List.length_map, List.length_map] at this
            rw [this]
            exact Nat.lt_of_lt_of_le c (by decide)
          exact .inr ⟨a1, _, rfl, DPut.k g1 hl, h3 σ m2 _ ((e1.trans e2).trans e) R3 (E.mono ((e1.trans e2).trans e))⟩
        · rw [if_neg c] at h3
          exact h3.elim
end
end MP

set_option Elab.async false
set_option linter.all false
set_option maxRecDepth 100000
set_option maxHeartbeats 4000000
/-! MP17: what the printed part leans on. -/
namespace MP
open PySem PySem.Spec PyProof.Rows L2 GxR Gx
section
variable {X : Cx} {T : List Addr} {ET : Str → Option Addr} {Wx : WX} {e e1 e2 o a b c : Expr} {es rest : List Expr} {d d1 d2 d3 : DE} {t : DT} {da : DA} {x : Str} {pos p p1 p2 apos : Pos}
theorem pdv (i : Nat) (hN : X.N[i]? = some x := by rfl) (hv : Vis X.env.scope x := by first | exact Or.inl rfl | exact Or.inr (Or.inl rfl) | exact Or.inr (Or.inr rfl)) (hd : (x == ("__debug__" : Str)) = false := by decide) (hcd : (x == ("__classdict__" : Str)) = false := by decide) :
    PD X T ET Wx (.Name x pos) (dVar i) := pd_var hN hv hd hcd
theorem noWT : Takes X noW := fun _ _ ⟨_, _, _, _, _, _, _, _, _, _, _, _, _, _, _, _, w⟩ => w.elim
theorem passF {P : Program} {w : World} : Passes (L2.CX P w) X (fun _ _ _ => False) := fun _ _ _ _ _ _ _ ⟨_, _, _, _, _, _, _, _, _, _, _, _, z⟩ => z.elim
theorem room_lt {k : Nat} {A : Around} (r : Room k A) : A.depth < recursionLimit := by have := r.dp; omega
theorem room_un {k : Nat} {A : Around} (r : Room k A) : A.units + 1 < cLine := by have := r.un; omega
/-- BlkOk, asked of the texts -/
def blkB (N : List Str) (sc scope : Scope) (own : List (Str × Nat)) : Bool := decide (scope.kind = .function) && ((scope.names.all fun y => decide (scope.names.lookup y.1 = some y.2)) && ((own.all fun p => decide (N[p.2]? = some p.1)) &&
  ((scope.names.all fun y => !decide (y.2 = .free) || (decide (sc.names.lookup y.1 = some .cell) || decide (sc.names.lookup y.1 = some .free))) && scope.names.all fun y => !(decide (y.2 = .local) || decide (y.2 = .cell)) || ((own.any fun p => decide (p.1 = y.1)) || !(N.any fun z => decide (z = y.1))))))
theorem blk_ok {N : List Str} {sc scope : Scope} {own : List (Str × Nat)} (h : blkB N sc scope own = true) : BlkOk N sc scope own := by
  unfold blkB at h
  simp only [Bool.and_eq_true, List.all_eq_true, decide_eq_true_eq, Bool.or_eq_true, Bool.not_eq_true', decide_eq_false_iff_not, List.any_eq_true] at h
  obtain ⟨h1, h2, h3, h4, h5⟩ := h
  refine ⟨h1, h2, h3, fun y hy e => ?_, fun y hy e => ?_⟩
  · rcases h4 y hy with z | z
    · exact absurd e z
    · exact z
  · rcases h5 y hy with z | z | z
    · exfalso
      rcases e with e | e <;> simp [e] at z
    · obtain ⟨p, hp, ep⟩ := z
      exact .inl (List.mem_map.mpr ⟨p, hp, ep⟩)
    · refine .inr fun hm => ?_
      have : (N.any fun z => decide (z = y.1)) = true := List.any_eq_true.mpr ⟨y.1, hm, by simp⟩
      rw [this] at z
      cases z
theorem nocell_ok {scope : Scope} (h : (scope.names.all fun y => !decide (y.2 = .cell)) = true) : ∀ y ∈ scope.names, y.2 ≠ .cell := fun y hy e => by
  have := List.all_eq_true.mp h y hy
  rw [e] at this
  cases this
/-! calls of builtins -/
theorem pd_len (hm : X.mg "len" = none) (h : PDA X T ET Wx (e :: es) da) (hg : Gl X "len" := by rfl) (he : starEach (e :: es) X.env = (false, eval e X.env) :: starEach es X.env := by rfl) (hpl : (backTo pos (starEach es X.env)).any (·.1) = false := by rfl) :
    PD X T ET Wx (.Call (.Name "len" p) (e :: es) [] pos) (dCB (on1 wLen) da) := pd_cb call_len ic_len hg hm (by decide +kernel) h (by decide) (by decide) he hpl
theorem pd_abs (hm : X.mg "abs" = none) (h : PDA X T ET Wx (e :: es) da) (hg : Gl X "abs" := by rfl) (he : starEach (e :: es) X.env = (false, eval e X.env) :: starEach es X.env := by rfl) (hpl : (backTo pos (starEach es X.env)).any (·.1) = false := by rfl) :
    PD X T ET Wx (.Call (.Name "abs" p) (e :: es) [] pos) (dCB (on1 wAbs) da) := pd_cb call_abs ic_abs hg hm (by decide +kernel) h (by decide) (by decide) he hpl
theorem pd_max2 (hc : X.calm = true) (hm : X.mg "max" = none) (h : PDA X T ET Wx (e :: es) da) (hg : Gl X "max" := by rfl) (he : starEach (e :: es) X.env = (false, eval e X.env) :: starEach es X.env := by rfl) (hpl : (backTo pos (starEach es X.env)).any (·.1) = false := by rfl) :
    PD X T ET Wx (.Call (.Name "max" p) (e :: es) [] pos) (dCB (on2 wMax2) da) := pd_cb (call_max2 hc) ic_max2 hg hm (by decide +kernel) h (by decide) (by decide) he hpl
theorem pd_min2 (hc : X.calm = true) (hm : X.mg "min" = none) (h : PDA X T ET Wx (e :: es) da) (hg : Gl X "min" := by rfl) (he : starEach (e :: es) X.env = (false, eval e X.env) :: starEach es X.env := by rfl) (hpl : (backTo pos (starEach es X.env)).any (·.1) = false := by rfl) :
    PD X T ET Wx (.Call (.Name "min" p) (e :: es) [] pos) (dCB (on2 wMin2) da) := pd_cb (call_min2 hc) ic_min2 hg hm (by decide +kernel) h (by decide) (by decide) he hpl
theorem pd_minL (hc : X.calm = true) (hm : X.mg "min" = none) (h : PDA X T ET Wx (e :: es) da) (hg : Gl X "min" := by rfl) (he : starEach (e :: es) X.env = (false, eval e X.env) :: starEach es X.env := by rfl) (hpl : (backTo pos (starEach es X.env)).any (·.1) = false := by rfl) :
    PD X T ET Wx (.Call (.Name "min" p) (e :: es) [] pos) (dCB (on1 wMinL) da) := pd_cb (cr_min hc) ic_minL hg hm (by decide +kernel) h (by decide) (by decide) he hpl
theorem pd_sum (hc : X.calm = true) (hm : X.mg "sum" = none) (h : PDA X T ET Wx (e :: es) da) (hg : Gl X "sum" := by rfl) (he : starEach (e :: es) X.env = (false, eval e X.env) :: starEach es X.env := by rfl) (hpl : (backTo pos (starEach es X.env)).any (·.1) = false := by rfl) :
    PD X T ET Wx (.Call (.Name "sum" p) (e :: es) [] pos) (dCB (on1 wSum) da) := pd_cb (CallR.or (cr_sumT hc) (cr_sum hc)) ic_sum hg hm (by decide +kernel) h (by decide) (by decide) he hpl
theorem pd_intC (hm : X.mg "int" = none) (h : PDA X T ET Wx (e :: es) da) (hg : Gl X "int" := by rfl) (he : starEach (e :: es) X.env = (false, eval e X.env) :: starEach es X.env := by rfl) (hpl : (backTo pos (starEach es X.env)).any (·.1) = false := by rfl) :
    PD X T ET Wx (.Call (.Name "int" p) (e :: es) [] pos) (dCB (on1 wInt) da) := pd_ct call_int1 ic_int hg hm (by decide +kernel) h (by decide) (by decide) he hpl
theorem pd_strC (hm : X.mg "str" = none) (h : PDA X T ET Wx (e :: es) da) (hg : Gl X "str" := by rfl) (he : starEach (e :: es) X.env = (false, eval e X.env) :: starEach es X.env := by rfl) (hpl : (backTo pos (starEach es X.env)).any (·.1) = false := by rfl) :
    PD X T ET Wx (.Call (.Name "str" p) (e :: es) [] pos) (dCB (on1 wStr) da) := pd_ct call_str_int ic_str hg hm (by decide +kernel) h (by decide) (by decide) he hpl
theorem pd_tupC (hm : X.mg "tuple" = none) (h : PDA X T ET Wx (e :: es) da) (hg : Gl X "tuple" := by rfl) (he : starEach (e :: es) X.env = (false, eval e X.env) :: starEach es X.env := by rfl) (hpl : (backTo pos (starEach es X.env)).any (·.1) = false := by rfl) :
    PD X T ET Wx (.Call (.Name "tuple" p) (e :: es) [] pos) (dCB (on1 wTupOf) da) := pd_ct call_tuple_of ic_tupOf hg hm (by decide +kernel) h (by decide) (by decide) he hpl
theorem pd_lstC (hm : X.mg "list" = none) (h : PDA X T ET Wx (e :: es) da) (hg : Gl X "list" := by rfl) (he : starEach (e :: es) X.env = (false, eval e X.env) :: starEach es X.env := by rfl) (hpl : (backTo pos (starEach es X.env)).any (·.1) = false := by rfl) :
    PD X T ET Wx (.Call (.Name "list" p) (e :: es) [] pos) (dCB (on1 wLstOf) da) := pd_ct call_list_of ic_lstOf hg hm (by decide +kernel) h (by decide) (by decide) he hpl
/-! comparisons -/
theorem pd_lt (h1 : PD X T ET Wx a d1) (h2 : PD X T ET Wx b d2) : PD X T ET Wx (.Compare a [.Lt] [b] pos) (dOp wLt d1 d2) := pd_cmp op_lt io_lt h1 h2 (nomark _)
theorem pd_le (h1 : PD X T ET Wx a d1) (h2 : PD X T ET Wx b d2) : PD X T ET Wx (.Compare a [.LtE] [b] pos) (dOp wLe d1 d2) := pd_cmp op_le io_le h1 h2 (nomark _)
theorem pd_gt (h1 : PD X T ET Wx a d1) (h2 : PD X T ET Wx b d2) : PD X T ET Wx (.Compare a [.Gt] [b] pos) (dOp wGt d1 d2) := pd_cmp op_gt io_gt h1 h2 (nomark _)
theorem pd_ge (h1 : PD X T ET Wx a d1) (h2 : PD X T ET Wx b d2) : PD X T ET Wx (.Compare a [.GtE] [b] pos) (dOp wGe d1 d2) := pd_cmp op_ge io_ge h1 h2 (nomark _)
theorem pd_eq (h1 : PD X T ET Wx a d1) (h2 : PD X T ET Wx b d2) : PD X T ET Wx (.Compare a [.Eq] [b] pos) (dOp wEq d1 d2) := pd_cmp op_eq io_eq h1 h2 (nomark _)
theorem pd_ne (h1 : PD X T ET Wx a d1) (h2 : PD X T ET Wx b d2) : PD X T ET Wx (.Compare a [.NotEq] [b] pos) (dOp wNe d1 d2) := pd_cmp op_ne io_ne h1 h2 (nomark _)
theorem pd_is (h1 : PD X T ET Wx a d1) (h2 : PD X T ET Wx b d2) : PD X T ET Wx (.Compare a [.Is] [b] pos) (dOp (wIsN false) d1 d2) := pd_cmp op_isN io_is h1 h2 (nomark _)
theorem pd_isnt (h1 : PD X T ET Wx a d1) (h2 : PD X T ET Wx b d2) : PD X T ET Wx (.Compare a [.IsNot] [b] pos) (dOp (wIsN true) d1 d2) := pd_cmp op_notN io_isnt h1 h2 (nomark _)
theorem pd_in (hu : X.A.units + 1 < cLine) (h1 : PD X T ET Wx a d1) (h2 : PD X T ET Wx b d2) (hm : behindInMarks .In b = false := by with_unfolding_all rfl) : PD X T ET Wx (.Compare a [.In] [b] pos) (dOp (wIn false) d1 d2) := pd_cmp (op_inA hu) io_in h1 h2 hm
theorem pd_notIn (hu : X.A.units + 1 < cLine) (h1 : PD X T ET Wx a d1) (h2 : PD X T ET Wx b d2) (hm : behindInMarks .NotIn b = false := by with_unfolding_all rfl) : PD X T ET Wx (.Compare a [.NotIn] [b] pos) (dOp (wIn true) d1 d2) := pd_cmp (op_notInA hu) io_in h1 h2 hm
theorem pdt_lt (h1 : PD X T ET Wx a d1) (h2 : PD X T ET Wx b d2) : PDT X T ET Wx (.Compare a [.Lt] [b] pos) (dB (dOp wLt d1 d2)) := pdt_cmp op_lt io_lt h1 h2 (nomark _)
theorem pdt_le (h1 : PD X T ET Wx a d1) (h2 : PD X T ET Wx b d2) : PDT X T ET Wx (.Compare a [.LtE] [b] pos) (dB (dOp wLe d1 d2)) := pdt_cmp op_le io_le h1 h2 (nomark _)
theorem pdt_gt (h1 : PD X T ET Wx a d1) (h2 : PD X T ET Wx b d2) : PDT X T ET Wx (.Compare a [.Gt] [b] pos) (dB (dOp wGt d1 d2)) := pdt_cmp op_gt io_gt h1 h2 (nomark _)
theorem pdt_ge (h1 : PD X T ET Wx a d1) (h2 : PD X T ET Wx b d2) : PDT X T ET Wx (.Compare a [.GtE] [b] pos) (dB (dOp wGe d1 d2)) := pdt_cmp op_ge io_ge h1 h2 (nomark _)
theorem pdt_eq (h1 : PD X T ET Wx a d1) (h2 : PD X T ET Wx b d2) : PDT X T ET Wx (.Compare a [.Eq] [b] pos) (dB (dOp wEq d1 d2)) := pdt_cmp op_eq io_eq h1 h2 (nomark _)
theorem pdt_ne (h1 : PD X T ET Wx a d1) (h2 : PD X T ET Wx b d2) : PDT X T ET Wx (.Compare a [.NotEq] [b] pos) (dB (dOp wNe d1 d2)) := pdt_cmp op_ne io_ne h1 h2 (nomark _)
theorem pdt_is (h1 : PD X T ET Wx a d1) (h2 : PD X T ET Wx b d2) : PDT X T ET Wx (.Compare a [.Is] [b] pos) (dB (dOp (wIsN false) d1 d2)) := pdt_cmp op_isN io_is h1 h2 (nomark _)
theorem pdt_isnt (h1 : PD X T ET Wx a d1) (h2 : PD X T ET Wx b d2) : PDT X T ET Wx (.Compare a [.IsNot] [b] pos) (dB (dOp (wIsN true) d1 d2)) := pdt_cmp op_notN io_isnt h1 h2 (nomark _)
theorem pdt_in (hu : X.A.units + 1 < cLine) (h1 : PD X T ET Wx a d1) (h2 : PD X T ET Wx b d2) (hm : behindInMarks .In b = false := by with_unfolding_all rfl) : PDT X T ET Wx (.Compare a [.In] [b] pos) (dB (dOp (wIn false) d1 d2)) := pdt_cmp (op_inA hu) io_in h1 h2 hm
theorem pdt_notIn (hu : X.A.units + 1 < cLine) (h1 : PD X T ET Wx a d1) (h2 : PD X T ET Wx b d2) (hm : behindInMarks .NotIn b = false := by with_unfolding_all rfl) : PDT X T ET Wx (.Compare a [.NotIn] [b] pos) (dB (dOp (wIn true) d1 d2)) := pdt_cmp (op_notInA hu) io_in h1 h2 hm
theorem pdt_lele (h1 : PD X T ET Wx a d1) (h2 : PD X T ET Wx b d2) (h3 : PD X T ET Wx c d3) (hm : lastMarks [.LtE, .LtE] [b, c] = false := by with_unfolding_all rfl) : PDT X T ET Wx (.Compare a [.LtE, .LtE] [b, c] pos) (dB (dChain wLe wLe d1 d2 d3)) := pdt_chain op_le op_le io_le io_le h1 h2 h3 hm
/-! unary minus -/
def wNeg : W → M W
  | .int i => rt (.int (-i))
  | _ => stuck
theorem pd_neg (h1 : PD X T ET Wx a d1) : PD X T ET Wx (.UnaryOp .USub a pos) (dUn wNeg d1) := pd_un un_neg (fun m H S x w Q ex R r q => by
  cases w <;> first | exact q.elim | skip
  cases vr_int r
  exact ⟨_, rfl, q _ m H Xt.refl R (.int _)⟩) h1
/-! methods -/
theorem pd_append (h1 : PD X T ET Wx o d) (h2 : PDA X T ET Wx (e :: es) da) (hbase : attributeBase o "append" X.env (eval o X.env) = eval o X.env := by rfl)
    (hfew : ((backTo pos (starEach (e :: es) X.env)).all (fun x => !x.1) && (backToKw pos (keywordEach [] X.env)).all (fun x => x.1.isSome) && decide ((e :: es).length + ([] : List Keyword).length + (if ([] : List Keyword).isEmpty then 0 else 1) < 30)) = true := by rfl)
    (hline : (apos.endLine == pos.line) = true := by rfl) (hs : starEach (e :: es) X.env = (false, eval e X.env) :: starEach es X.env := by rfl) (hplain : (backTo pos (starEach es X.env)).any (·.1) = false := by rfl) :
    PD X T ET Wx (.Call (.Attribute o "append" apos) (e :: es) [] pos) (tyW isL wApp d da) := pd_bm PySem.F.plainAttrs_list PySem.F.slot_list_append PySem.F.type_list_append mt_append it_list im_app h1 h2 hbase hfew hline hs hplain
theorem pd_pop (h1 : PD X T ET Wx o d) (hbase : attributeBase o "pop" X.env (eval o X.env) = eval o X.env := by rfl) (hline : (apos.endLine == pos.line) = true := by rfl) :
    PD X T ET Wx (.Call (.Attribute o "pop" apos) [] [] pos) (tyW isL wPop d dNil) := pd_bm0 PySem.F.plainAttrs_list PySem.F.slot_list_pop PySem.F.type_list_pop mt_pop it_list im_pop h1 hbase hline
/-! x -= e -/
theorem pds_isub {i : Nat} {pos' : Pos} (hN : X.N.Nodup) (hi : X.N[i]? = some x) (hx : Loc X.env.scope x) (h1 : PD X T ET Wx e d) (hf : X.fn x = true ∨ X.env.scope.names.lookup x = some .local := by first | exact .inl rfl | exact .inr rfl | assumption) :
    PDS X T ET Wx (.AugAssign (.Name x pos') .Sub e pos) (dAug i wSub d) := pds_aug hN hi hx h1 ip_sub (iop_i0 (g := fun i j => .int (i - j)) fun _ _ _ _ => .int _) hf
theorem io_addI {K : PySem.W.Frag} : IOp K T (rI0 fun i j => .int (i + j)) (fun a b => match a, b with | .int i, .int j => rt (.int (i + j)) | _, _ => stuck) := iop_i0 (g := fun i j => .int (i + j)) fun _ _ _ _ => .int _
def wAddI (a b : W) : M W := match a, b with | .int i, .int j => rt (.int (i + j)) | _, _ => stuck
theorem pds_iadd {i : Nat} {pos' : Pos} (hN : X.N.Nodup) (hi : X.N[i]? = some x) (hx : Loc X.env.scope x) (h1 : PD X T ET Wx e d) (hf : X.fn x = true ∨ X.env.scope.names.lookup x = some .local := by first | exact .inl rfl | exact .inr rfl | assumption) :
    PDS X T ET Wx (.AugAssign (.Name x pos') .Add e pos) (dAug i wAddI d) := pds_aug hN hi hx h1 ip_add io_addI hf
end
end MP
namespace MP
open PySem PySem.Spec PyProof.Rows L2 GxR Gx He
def clsBody (st : Stmt) (i : Nat) : Stmt := match st with
  | .ClassDef (body := b) .. => b.getD i (.Pass ⟨0, 0, 0, 0⟩)
  | _ => .Pass ⟨0, 0, 0, 0⟩
theorem pd_globE {X : Cx} {T : List Addr} {ET : Str → Option Addr} {Wx : WX} {x : Str} {w : W} {pos : Pos} (hg : Gl X x) (h : ∃ u v, X.mg x = some u ∧ RelV v u ∧ ∀ m H, VR X.K m H v w) (hd : (x == ("__debug__" : Str)) = false := by decide) : PD X T ET Wx (.Name x pos) (dC w) := by
  obtain ⟨u, v, h1, h2, h3⟩ := h
  exact pd_glob hg h1 h2 h3 hd
theorem tab_code {K : PySem.W.Frag} {x : Str} {c P : Addr} {oc : Value} {od : Option Addr} {fd : FuncData} {osl : Array (Option Value)} (ht : PySem.W.tabIn K x = some (c, P)) (hn : PySem.W.nsIn K mainGlobals x = some (some (.ref (ga K x)))) (lk : K.lookup (ga K x) = some ⟨oc, od, .func fd, osl⟩) : fd.code = .ref c := by
  unfold PySem.W.tabIn at ht
  rw [hn] at ht
  simp only [lk] at ht
  split at ht
  · rename_i c' e
    rw [e]
    split at ht
    · split at ht
      · cases ht; rfl
      · cases ht
    · cases ht
  · cases ht
end MP
namespace MP
open PySem PySem.Spec PyProof.Rows L2 GxR Gx He
def dCall0 (F : Fn) : DE := fun _ S => noEx (F [] S)
theorem pd_call0 {X : Cx} {T : List Addr} {ET : Str → Option Addr} {Wx : WX} {x : Str} {p pos : Pos} {k : Nat} {f : Addr} {fd : FuncData} {F : Fn} (G : FnOk X.prog X.w X.K X.mg X.base (L2.CX X.prog X.w) k f fd [] (spF X.K T ET 0 F)) (hr : Room k X.A) (hg : Gl X x) (hm : X.mg x = some (.ref f)) (hk : PySem.W.keepIn X.K (.ref f) = true) (hb : Binds X.K fd [] [])
    (hdb : (x == ("__debug__" : Str)) = false := by decide) : PD X T ET Wx (.Call (.Name x p) [] [] pos) (dCall0 F) := by
  refine ⟨_, pe_call0 (dvs := []) (E := fun _ _ _ => False) G hr hg hm hk hb .nil passF hdb, ⟨fun {L} σ ρ m H S Q E R h => ?_⟩⟩
  have h' : (noX (F []) S).post (okV X.K T m H Q) (exX X.K T ET Wx σ m H) := h
  exact ⟨rfl, [], m, S, .nil, R, noX_post h'⟩
end MP

set_option Elab.async false
set_option linter.all false
set_option maxRecDepth 100000
set_option maxHeartbeats 4000000
/-! MP18: the head's facts, the end. -/
namespace MP
open PySem PySem.Spec PyProof.Rows L2 GxR Gx He
/-! ### exception classes -/
def oexB (K : PySem.W.Frag) (C : Addr) : Bool := (match K.lookup C with
  | some ⟨.type "type", _, .cls cd, sl⟩ => (match cd.mro, sl.toList with
    | .ref C' :: bm, [_, _, _, _, some (.builtin n), _] => decide (C' = C) && (decide (n = "ValueError.__new__") && (!cd.hasDel && (cd.hasDict && PySem.HandSPX.refsVE bm)))
    | _, _ => false)
  | _ => false) && (decide (PySem.W.findIn K (.ref C) "__setattr__" = some (some (.builtin "object.__setattr__"))) && (decide (PySem.W.subIn K (.ref C) (.type "BaseException") = some true) && (decide (PySem.W.typeIn K (.ref C) = some (.type "type")) && PySem.W.keepIn K (.ref C))))
theorem oexB_ok {K : PySem.W.Frag} {C : Addr} (h : oexB K C = true) : OexC K C := by
  unfold oexB at h
  obtain ⟨h1, h⟩ := Bool.and_eq_true_iff.mp h
  obtain ⟨h2, h⟩ := Bool.and_eq_true_iff.mp h
  obtain ⟨h3, h⟩ := Bool.and_eq_true_iff.mp h
  obtain ⟨h4, h5⟩ := Bool.and_eq_true_iff.mp h
  refine ⟨?_, of_decide_eq_true h2, of_decide_eq_true h3, of_decide_eq_true h4, h5⟩
  split at h1
  · rename_i dd cd sl hk
    split at h1
    · rename_i C' bm k0 k1 k2 k3 n k5 hm hs
      simp only [Bool.and_eq_true, decide_eq_true_eq, Bool.not_eq_true'] at h1
      obtain ⟨rfl, rfl, e3, e4, e5⟩ := h1
      obtain ⟨nm, bs, mro, ns, qn, hd, sn, sub, ab, col, del⟩ := cd
      dsimp only at hm e3 e4
      subst hm e3 e4
      have hsl : sl = #[k0, k1, k2, k3, some (.builtin "ValueError.__new__"), k5] := by
        obtain ⟨l⟩ := sl
        simp only at hs
        rw [hs]
      subst hsl
      exact ⟨nm, qn, ns, bs, bm, sn, sub, ab, col, dd, k0, k1, k2, k3, k5, hk, e5⟩
    · cases h1
  · cases h1
/-! ### the Hook -/
def isTab : Option Obj → Bool
  | some ⟨.none, none, .fields ⟨[]⟩, ⟨[]⟩⟩ => true
  | _ => false
theorem isTab_ok {o : Option Obj} (h : isTab o = true) : o = some { cls := .none, data := .fields #[] } := by
  unfold isTab at h
  split at h
  · rfl
  · cases h
/-- the part of the heap without the tables -/
def KM (n : Nat) (tn : List Str) (g : Addr → Option Obj) : PySem.W.Frag := let as := asD g n
  let ts := (tn.filterMap (PySem.W.tabIn (frG g as))).map (·.2)
  frG g (as.filter fun a => !ts.contains a)
abbrev AlM : Type := Bool × List FnW
structure Ask where
  n : Nat
  tn : List Str
  fs : List (PySem.W.Frag → Bool)
  fn : List DefD
def tbs (a : Ask) (K : PySem.W.Frag) : List (Addr × Addr) := a.tn.filterMap (PySem.W.tabIn K)
def obsM (a : Ask) (g : Addr → Option Obj) : AlM := let K := KM a.n a.tn g
  (((a.fs.all fun f => f K) && a.fn.all fun d => d.ok K) && (tbs a K).all fun p => isTab (g p.2) && ((K.lookup p.2).isNone && PySem.W.codeHdIn K p.1 p.2), a.fn.map fun d => fnW K d.at_)
structure SaysM (a : Ask) (K : PySem.W.Frag) (h : Heap) : Prop where
  kin : K.In h
  all : ∀ f ∈ a.fs, f K = true
  ok : ∀ d ∈ a.fn, d.ok K = true
  fn : a.fn.map (fun d => fnW K d.at_) = a.fn.map DefD.val
  tab : ∀ p ∈ tbs a K, h.get? p.2 = some { cls := .none, data := .fields #[] } ∧ K.lookup p.2 = none ∧ PySem.W.codeHdIn K p.1 p.2 = true
theorem says_of {a : Ask} {h : Heap} (e : obsM a h.get? = (true, a.fn.map DefD.val)) : SaysM a (KM a.n a.tn h.get?) h := by
  have e1 := congrArg (fun z : AlM => z.1) e
  have e2 := congrArg (fun z : AlM => z.2) e
  obtain ⟨e3, e4⟩ := Bool.and_eq_true_iff.mp e1
  obtain ⟨e5, e6⟩ := Bool.and_eq_true_iff.mp e3
  refine ⟨frG_in, List.all_eq_true.mp e5, List.all_eq_true.mp e6, e2, fun p hp => ?_⟩
  have q := List.all_eq_true.mp e4 p hp
  obtain ⟨q1, q2⟩ := Bool.and_eq_true_iff.mp q
  obtain ⟨q2, q3⟩ := Bool.and_eq_true_iff.mp q2
  exact ⟨isTab_ok q1, by simpa using q2, q3⟩
def hookM (a : Ask) : PySem.W.Hook where
  α := AlM
  obs := fun s => obsM a s.heap.get?
  val := fun _ => (true, a.fn.map DefD.val)
  says := fun _ h => ∃ K : PySem.W.Frag, SaysM a K h
  of := fun _ _ e => ⟨_, says_of e⟩
  keeps := fun _ _ _ ⟨K, c⟩ k => ⟨K, PySem.W.Frag.In.keeps c.kin k, c.all, c.ok, c.fn, fun p hp => ⟨k _ _ (c.tab p hp).1, (c.tab p hp).2⟩⟩
theorem obsM_eq {a : Ask} {g : Addr → Option Obj} {s : Shared} (h : ∀ a, g a = s.heap.get? a) : obsM a g = (hookM a).obs s := by
  have e : g = s.heap.get? := funext h
  rw [e] <;> rfl
theorem SaysM.fact {a : Ask} {K : PySem.W.Frag} {h : Heap} (c : SaysM a K h) (i : Nat) {f : PySem.W.Frag → Bool} (e : a.fs[i]? = some f := by rfl) : f K = true := c.all f (List.mem_of_getElem? e)
theorem SaysM.def_ {a : Ask} {K : PySem.W.Frag} {h : Heap} (c : SaysM a K h) (i : Nat) {d : DefD} (e : a.fn[i]? = some d := by rfl) : ∃ fd, FunD K d.name d.qual d.params d.body d.scope (d.dvs K) (d.kws K) (fAd K d.at_) fd := by
  have e1 := c.fn
  have e2 : (a.fn.map fun d => fnW K d.at_)[i]? = (a.fn.map DefD.val)[i]? := by rw [e1]
  rw [List.getElem?_map, List.getElem?_map, e] at e2
  exact DefD.funD (Option.some.inj e2) (c.ok d (List.mem_of_getElem? e))
/-! ### the end -/
/-- what the law's def promises at the script -/
theorem start_mp {K : PySem.W.Frag} {cs : List (Addr × Addr)} {ET : Str → Option Addr} {F : Fn} {H : Hp} {a : Addr} {ns : List Int} (hT : ∀ p ∈ cs, H p.2 = some (.tbl #[])) (hS : SqL K H a (ns.map V.int))
    (h1 : (F [.obj 0] [.ro (ns.map W.int)]).post (fun w _ => w = .bl true) fun _ _ _ => False) (h2 : (F [.kl (ns.map W.int)] []).post (fun w _ => w = .bl true) fun _ _ _ => False) :
    spF K (cs.map (·.2)) ET 1 F [.ref a] H (fun v _ => v = .bl true) fun _ _ _ => False := by
  have ivs : ∀ {m : List Addr}, VRs K m H (ns.map V.int) (ns.map W.int) := by
    intro m
    clear h1 h2 hS
    induction ns with
    | nil => exact .nil
    | cons n ns ih => exact .cons _ _ _ _ (.int n) ih
  have tab : ∀ P ∈ cs.map (·.2), TabG H P := fun P hP => by
    obtain ⟨p, hp, rfl⟩ := List.mem_map.mp hP
    exact ⟨#[], hT p hp, by unfold TriplesOk; trivial⟩
  refine ⟨rfl, ?_⟩
  rcases hS with hS | hS
  · refine ⟨[.obj 0], [a], [.ro (ns.map W.int)], .cons _ _ _ _ (.obj 0 a rfl) .nil, ⟨rfl, by simp, fun n o q => ?_, tab⟩, post_imp h1 (fun w S e v m' H' _ _ r => ?_) fun _ _ _ z => z.elim⟩
    · match n, q with
      | 0, q =>
        cases q
        exact ⟨a, rfl, _, hS, ivs⟩
    · subst e
      exact vr_bl r
  · refine ⟨[.kl (ns.map W.int)], [], [], .cons _ _ _ _ (.kl a _ _ hS ivs) .nil, ⟨rfl, by simp, fun n o q => by simp at q, tab⟩, post_imp h2 (fun w S e v m' H' _ _ r => ?_) fun _ _ _ z => z.elim⟩
    subst e
    exact vr_bl r
theorem cx_no {P : Program} {w : World} {H : Hp} {s s' : Shared} {e : Value} (h : L2.CX P w [] H s (fun _ _ _ => False) e s') : False := by
  obtain ⟨_, _, _, _, _, _, _, _, _, _, _, _, z⟩ := h
  exact z
theorem walk_mp {l : PySem.W.OpenLaw} {k : Nat} {q : Program} {loose : List Str} {XP : (Str → Option Value) → Heap → Prop} {a : Ask} {d : DefRec} {x : Str} {F : Fn} {ET : PySem.W.Frag → Str → Option Addr} (hn : l.most = some 63) (hdf : d.params.defaults = []) (hr : Room k callerA)
    (hF : ∀ (w : World) (mg : Str → Option Value) (fa : Addr) (h : Heap) (K : PySem.W.Frag), SaysM a K h → h.Ns mainGlobals mg → mg d.name = some (.ref fa) → ∃ fd, (∀ (s : Shared) (u : Value), BindsTo s fd ⟨[u], []⟩ [(x, u)]) ∧
      ∀ base : Heap, K.In base → base.Ns mainGlobals mg → (∀ p ∈ tbs a K, GxR.TabB base mg p.1 p.2) → FnOk l.prog w K mg base (L2.CX l.prog w) k fa fd [x] (spF K ((tbs a K).map (·.2)) (ET K) 1 F))
    (h1 : ∀ ns : List Int, ns.length ≤ 63 → (∀ z ∈ ns, Builtin.Int.intBits z ≤ 1048576) → (F [.obj 0] [.ro (ns.map W.int)]).post (fun w _ => w = .bl true) fun _ _ _ => False)
    (h2 : ∀ ns : List Int, ns.length ≤ 63 → (∀ z ∈ ns, Builtin.Int.intBits z ≤ 1048576) → (F [.kl (ns.map W.int)] []).post (fun w _ => w = .bl true) fun _ _ _ => False) :
    PySem.W.WalkO q loose XP (hookM a).says l.row.toRowW d [] (fun f vs => PySem.call f vs) := by
  refine Att.attach_callB hn hdf fun w s₀ s₁ mg mb fa o pm cd doc ad vs ns G Y ho hd hcd hmg hobj hints hlen hbits hg => ?_
  obtain ⟨K, c⟩ := Y
  obtain ⟨fd, hb, hf⟩ := hF w mg fa _ K c G.T.g hmg
  exact LamX.law_callTs c.kin G.T.g G.T.b G.T.builtins G.T.nolimit hg (fun p hp => (c.tab p hp).1) (fun p hp => (c.tab p hp).2.1) (fun p hp => PySem.W.codeHd_of_K c.kin (c.tab p hp).2.2) G.T.bmain hobj hints (Nat.le_trans hlen (by decide)) hr
    (fun base KB NB TB => hf base KB NB fun p hp => ⟨(TB p hp).code, (TB p hp).bm, (TB p hp).gP⟩) hb (fun H hH hS => start_mp hH hS (h1 ns hlen hbits) (h2 ns hlen hbits)) fun H e s' => cx_no
/-! ### facts, one by one -/
section
variable {K : PySem.W.Frag} {h : Heap} {mg : Str → Option Value}
theorem c_str (X : K.In h) (G : h.Ns mainGlobals mg) {x z : Str} (c : (Fa.str x z).ok K = true) : ∃ u v, mg x = some u ∧ RelV v u ∧ ∀ m H, VR K m H v (.str z) := by
  obtain ⟨t, e⟩ := str_ok X G c
  exact ⟨_, .str z, e, ⟨t, rfl⟩, fun _ _ => .str z⟩
theorem c_int (X : K.In h) (G : h.Ns mainGlobals mg) {x : Str} {z : Int} (c : (Fa.int x z).ok K = true) : ∃ u v, mg x = some u ∧ RelV v u ∧ ∀ m H, VR K m H v (.int z) := by
  obtain ⟨t, e⟩ := int_ok X G c
  exact ⟨_, .int z, e, ⟨t, rfl⟩, fun _ _ => .int z⟩
def tupStrB (x : Str) (zs : List Str) (K : PySem.W.Frag) : Bool := (Fa.glo x).ok K && tupB K x (zs.map Dv.str)
theorem c_tupStr (X : K.In h) (G : h.Ns mainGlobals mg) {x : Str} {zs : List Str} (c : tupStrB x zs K = true) : ∃ u v, mg x = some u ∧ RelV v u ∧ ∀ m H, VR K m H v (.tup (zs.map W.str)) := by
  obtain ⟨c1, c2⟩ := Bool.and_eq_true_iff.mp c
  refine ⟨_, .ref (ga K x), glo_ok X G c1, rfl, fun m H => .tup _ _ _ (tupB_ok c2 H) ?_⟩
  clear c c2
  induction zs with
  | nil => exact .nil
  | cons z zs ih => exact .cons _ _ _ _ (.str z) ih
def tabFB (x : Str) (K : PySem.W.Frag) : Bool := (PySem.W.tabIn K x).isSome && (Fa.glo x).ok K
theorem t_ok {x : Str} (c : tabFB x K = true) : ∃ c P, PySem.W.tabIn K x = some (c, P) ∧ PySem.W.nsIn K mainGlobals x = some (some (.ref (ga K x))) := by
  obtain ⟨c1, c2⟩ := Bool.and_eq_true_iff.mp c
  cases e : PySem.W.tabIn K x with
  | none => rw [e] at c1; cases c1
  | some p => exact ⟨p.1, p.2, rfl, eqO_ok c2⟩
def iniB (x : Str) (K : PySem.W.Frag) : Bool := oexB K (ga K x) && (eqO (PySem.W.findIn K (.ref (ga K x)) "__init__") (some (some (.ref (ma K (ga K x) "__init__")))) && decide (PySem.W.typeIn K (.ref (ma K (ga K x) "__init__")) = some (.type "function")))
theorem ini_ok {x : Str} (c : iniB x K = true) : OexC K (ga K x) ∧ PySem.W.findIn K (.ref (ga K x)) "__init__" = some (some (.ref (ma K (ga K x) "__init__"))) ∧ PySem.W.typeIn K (.ref (ma K (ga K x) "__init__")) = some (.type "function") := by
  obtain ⟨c1, c⟩ := Bool.and_eq_true_iff.mp c
  obtain ⟨c2, c3⟩ := Bool.and_eq_true_iff.mp c
  exact ⟨oexB_ok c1, eqO_ok c2, of_decide_eq_true c3⟩
end
end MP

set_option Elab.async false
set_option linter.all false
set_option maxRecDepth 100000
set_option maxHeartbeats 4000000
/-! MP19: what a meaning gives: posts. -/
namespace MP
open PySem PySem.Spec PyProof.Rows L2 GxR Gx
def endF : Fl → M W := fun f => match f with
  | .nx _ => rt .non
  | .rtn w => rt w
  | _ => stuck
section
variable {α β : Type} {S : Sto} {x : Str → Nat → Sto → Prop}
theorem post_rt {a : α} {k : α → Sto → Prop} : (rt a S).post k x ↔ k a S := Iff.rfl
theorem post_ok {a : α} {k : α → Sto → Prop} : (MP.R.ok a S).post k x ↔ k a S := Iff.rfl
theorem post_exn {c : Str} {n : Nat} {k : α → Sto → Prop} : (MP.R.exn c n S).post k x ↔ x c n S := Iff.rfl
theorem post_noEx {r : R α} {k : α → Sto → Prop} (h : r.post k fun _ _ _ => False) : (noEx r).post k x := by
  cases r with
  | ok a S => exact h
  | stuck => exact h.elim
  | exn _ _ _ => exact h.elim
theorem post_eq {r : R α} {a : α} {S' : Sto} {k : α → Sto → Prop} (e : r = .ok a S') (h : k a S') : r.post k x := by rw [e]; exact h
theorem bd_rt {a : α} {f : α → M β} : bd (rt a) f = f a := rfl
theorem bd_assoc {γ : Type} {m : M α} {f : α → M β} {g : β → M γ} : bd (bd m f) g = bd m fun y => bd (f y) g := by
  funext S
  unfold bd
  cases m S <;> rfl
theorem bd_ok {m : M α} {a : α} {S' : Sto} {f : α → M β} (e : m S = .ok a S') : bd m f S = f a S' := by unfold bd; rw [e]
theorem post_seq {a b : DS} {ρ : En} {k : Fl → Sto → Prop} : (dSeq a b ρ S).post k x ↔ (a ρ S).post (fun f S' => match f with
  | .nx ρ' => (b ρ' S').post k x
  | f => k f S') x := by
  unfold dSeq
  rw [post_bd]
  constructor <;> intro h <;> refine post_imp h (fun f S' q => ?_) fun _ _ _ z => z <;> cases f <;> exact q
theorem post_endF {m : M Fl} {k : W → Sto → Prop} : (bd m endF S).post k x ↔ (m S).post (fun f S' => match f with
  | .nx _ => k .non S'
  | .rtn w => k w S'
  | _ => False) x := by
  rw [post_bd]
  constructor <;> intro h <;> refine post_imp h (fun f S' q => ?_) fun _ _ _ z => z <;> cases f <;> exact q
/-- a for loop, by what holds ahead of each item -/
theorem forD_post {tg : W → En → M En} {body : DS} {gd : Sto → Prop} {k : Fl → Sto → Prop} (I : List W → En → Sto → Prop)
    (hs : ∀ w ws ρ S, I (w :: ws) ρ S → gd S ∧ (tg w ρ S).post (fun ρ1 S1 => (body ρ1 S1).post (fun f S' => match f with
      | .nx ρ' => I ws ρ' S'
      | .ct ρ' => I ws ρ' S'
      | .bk ρ' => k (.nx ρ') S'
      | .rtn w => k (.rtn w) S') x) x) (hd : ∀ ρ S, I [] ρ S → gd S ∧ k (.nx ρ) S) : ∀ (items : List W) (ρ : En) (S : Sto), I items ρ S → (forD tg body gd items ρ S).post k x := by
  intro items
  induction items with
  | nil =>
    intro ρ S h
    obtain ⟨h1, h2⟩ := hd ρ S h
    unfold forD
    rw [if_pos h1]
    exact h2
  | cons w ws ih =>
    intro ρ S h
    obtain ⟨h1, h2⟩ := hs w ws ρ S h
    unfold forD
    rw [if_pos h1, post_bd]
    refine post_imp h2 (fun ρ1 S1 h3 => post_bd.mpr (post_imp h3 (fun f S2 h4 => ?_) fun _ _ _ z => z)) fun _ _ _ z => z
    cases f with
    | nx ρ' => exact ih ρ' S2 h4
    | ct ρ' => exact ih ρ' S2 h4
    | bk ρ' => exact h4
    | rtn w => exact h4
/-- a comprehension's loop -/
theorem lcD_post {st : W → M (Option W)} {gd : Sto → Prop} {n : Nat} {k : W → Sto → Prop} (I : List W → Sto → Prop)
    (hs : ∀ w ws S, I (w :: ws) S → gd S ∧ (st w S).post (fun o S' => match o with
      | some y => ∃ l, S'[n]? = some (.lst l) ∧ l.length < 100000 ∧ I ws (S'.set n (.lst (l ++ [y])))
      | none => I ws S') x) (hd : ∀ S, I [] S → gd S ∧ k (.obj n) S) : ∀ (items : List W) (S : Sto), I items S → (lcD st gd n items S).post k x := by
  intro items
  induction items with
  | nil =>
    intro S h
    obtain ⟨h1, h2⟩ := hd S h
    unfold lcD
    rw [if_pos h1]
    exact h2
  | cons w ws ih =>
    intro S h
    obtain ⟨h1, h2⟩ := hs w ws S h
    unfold lcD
    rw [if_pos h1, post_bd]
    refine post_imp h2 (fun o S2 h3 => ?_) fun _ _ _ z => z
    cases o with
    | none => exact ih S2 h3
    | some y =>
      obtain ⟨l, e1, e2, e3⟩ := h3
      show (bd (push n y) (fun _ => lcD st gd n ws) S2).post k x
      rw [post_bd]
      unfold push
      simp only [e1, if_pos e2]
      exact ih _ e3
/-- a generator expression's loop -/
theorem gxU_post {okY hit : W → Bool} {st : W → M (Option W)} {gd : Sto → Prop} {k : List W × Bool → Sto → Prop} (I : List W → List W → Sto → Prop)
    (hs : ∀ acc w ws S, I acc (w :: ws) S → gd S ∧ acc.length < 100000 ∧ (st w S).post (fun o S' => match o with
      | some y => okY y = true ∧ if hit y = true then k (acc ++ [y], true) S' else I (acc ++ [y]) ws S'
      | none => I acc ws S') x) (hd : ∀ acc S, I acc [] S → gd S ∧ k (acc, false) S) : ∀ (items : List W) (acc : List W) (S : Sto), I acc items S → (gxU okY hit st gd acc items S).post k x := by
  intro items
  induction items with
  | nil =>
    intro acc S h
    obtain ⟨h1, h2⟩ := hd acc S h
    unfold gxU
    rw [if_pos h1]
    exact h2
  | cons w ws ih =>
    intro acc S h
    obtain ⟨h1, h2, h3⟩ := hs acc w ws S h
    unfold gxU
    rw [if_pos ⟨h1, h2⟩, post_bd]
    refine post_imp h3 (fun o S2 h4 => ?_) fun _ _ _ z => z
    cases o with
    | none => exact ih acc S2 h4
    | some y =>
      obtain ⟨h5, h6⟩ := h4
      show ((if okY y = true then (if hit y = true then rt (acc ++ [y], true) else gxU okY hit st gd (acc ++ [y]) ws) else stuck : M (List W × Bool)) S2).post k x
      rw [if_pos h5]
      by_cases hh : hit y = true
      · rw [if_pos hh] at h6 ⊢
        exact h6
      · rw [if_neg hh] at h6 ⊢
        exact ih _ S2 h6
end
/-- S' holds what S holds, and more behind -/
def Pre (S S' : Sto) : Prop := ∃ e, S' = S ++ e
theorem Pre.refl {S : Sto} : Pre S S := ⟨[], by simp⟩
theorem Pre.trans {S S' S'' : Sto} (a : Pre S S') (b : Pre S' S'') : Pre S S'' := by
  obtain ⟨e, rfl⟩ := a
  obtain ⟨f, rfl⟩ := b
  exact ⟨e ++ f, by simp⟩
theorem Pre.new {S : Sto} {o : SO} : Pre S (S ++ [o]) := ⟨[o], rfl⟩
theorem Pre.get {S S' : Sto} {n : Nat} {o : SO} (a : Pre S S') (h : S[n]? = some o) : S'[n]? = some o := by
  obtain ⟨e, rfl⟩ := a
  rw [List.getElem?_append_left (List.getElem?_eq_some_iff.mp h).1]
  exact h
theorem Pre.ty {S S' : Sto} {w : W} {t : String} (a : Pre S S') (h : tyOf w S = some t) : tyOf w S' = some t := by
  cases w <;> first | exact h | skip
  rename_i n
  cases q : S[n]? with
  | none => simp only [tyOf, q] at h; cases h
  | some o => simp only [tyOf, q] at h; simp only [tyOf, a.get q]; exact h
end MP

set_option Elab.async false
set_option linter.all false
set_option maxRecDepth 100000
set_option maxHeartbeats 4000000
/-! the program: texts, meanings, what the head tells -/
namespace MP
open PySem PySem.Spec PyProof.Rows L2 GxR Gx He
def top (i : Nat) : Stmt := PySem.Challenge.pw_assentwhole_k03_whole_least_common_count.main.body.getD i (.Pass ⟨0, 0, 0, 0⟩)
def w_KEPT_WORDS : W := .tup [.str "of", .str "in", .str "most", .str "all", .str "one", .str "heavy", .str "least", .str "spare", .str "mirror", .str "nobody", .str "manner", .str "rule", .str "lot", .str "trust", .str "charter", .str "row", .str "ask", .str "echo", .str "vote", .str "look", .str "hold", .str "change", .str "to"]
def w_LETTERS : W := .str "abcdefghijklmnopqrstuvwxyz"
def w_LETTERS_AND_FIGURES : W := .str "abcdefghijklmnopqrstuvwxyz0123456789"
abbrev st_u_law_tape : Stmt := top 36
abbrev st_u_law_draw : Stmt := top 37
abbrev st_u_law_kept : Stmt := top 39
abbrev st_u_law_word : Stmt := top 40
abbrev st_u_law_size : Stmt := top 41
abbrev st_u_law_lots : Stmt := top 42
abbrev st_u_law_sizes : Stmt := top 46
abbrev st_u_law_with : Stmt := top 43
abbrev st_u_law_same : Stmt := top 44
abbrev st_is_tuple : Stmt := top 7
abbrev st_is_word : Stmt := top 8
abbrev st_is_integer : Stmt := top 4
abbrev st_lot_fault : Stmt := top 20
abbrev st_lots_fault : Stmt := top 21
abbrev st_check_lots : Stmt := top 22
abbrev st_is_number : Stmt := top 5
abbrev st_is_number_to : Stmt := top 6
abbrev st_counts_fault : Stmt := top 10
abbrev st_sizes_of : Stmt := top 23
abbrev st_check_counts : Stmt := top 27
abbrev st_common_counts : Stmt := top 12
abbrev st_least_common : Stmt := top 29
abbrev st_is_below : Stmt := top 11
abbrev st_below : Stmt := top 28
abbrev st_rest_counts : Stmt := top 13
abbrev st_outside : Stmt := top 30
abbrev st_first_spans : Stmt := top 32
abbrev st_first_houses : Stmt := top 34
abbrev st_everyone : Stmt := top 24
abbrev st_nobody : Stmt := top 25
abbrev st_u_law_told : Stmt := top 45
abbrev st_u_law_part : Stmt := top 47
abbrev st_u_law_ask_least : Stmt := top 54
abbrev st_u_law_is_below : Stmt := top 48
abbrev st_u_law_ask_below : Stmt := top 53
abbrev st_u_law_pair : Stmt := top 56
abbrev st_u_law_first_last : Stmt := top 57
abbrev st_u_law_upto : Stmt := top 38
abbrev st_u_law_second : Stmt := top 55
abbrev st_u_law_bits : Stmt := top 49
abbrev st_u_law_subsets : Stmt := top 50
abbrev st_u_law_fewest : Stmt := top 51
abbrev st_u_law_fits : Stmt := top 52
abbrev st_u_law_small : Stmt := top 58
abbrev st_u_law_doors : Stmt := top 59
abbrev st_u_law_between : Stmt := top 60
abbrev st_law : Stmt := top 61
abbrev sI_BadLots : Stmt := clsBody (top 17) 0
abbrev sI_BadCounts : Stmt := clsBody (top 18) 0
/-- the classes that are raised -/
def et (K : PySem.W.Frag) (c : Str) : Option Addr := if c = "BadLots" then some (ga K "BadLots") else if c = "BadCounts" then some (ga K "BadCounts") else none
def mt_AssentError (c : Str) : Option Bool := if c = "BadLots" then some true else if c = "BadCounts" then some true else none
def mt_BadCounts (c : Str) : Option Bool := if c = "BadLots" then some false else if c = "BadCounts" then some true else none
def mt_BadLots (c : Str) : Option Bool := if c = "BadLots" then some true else if c = "BadCounts" then some false else none
def tabNames : List Str := ["is_word", "sizes_of", "common_counts", "rest_counts", "first_houses"]
def tabs (K : PySem.W.Frag) : List (Addr × Addr) := tabNames.filterMap (PySem.W.tabIn K)
structure Facts (K : PySem.W.Frag) (mg : Str → Option Value) : Prop where
  g_u_law_tape : mg "_law_tape" = some (.ref (ga K "_law_tape"))
  d_u_law_tape : ∃ fd, FunD K "_law_tape" "_law_tape" (defArgs st_u_law_tape) (defBody st_u_law_tape) (defScope st_u_law_tape) [] [] (ga K "_law_tape") fd
  g_u_law_draw : mg "_law_draw" = some (.ref (ga K "_law_draw"))
  d_u_law_draw : ∃ fd, FunD K "_law_draw" "_law_draw" (defArgs st_u_law_draw) (defBody st_u_law_draw) (defScope st_u_law_draw) [] [] (ga K "_law_draw") fd
  g_u_law_kept : mg "_law_kept" = some (.ref (ga K "_law_kept"))
  d_u_law_kept : ∃ fd, FunD K "_law_kept" "_law_kept" (defArgs st_u_law_kept) (defBody st_u_law_kept) (defScope st_u_law_kept) [] [] (ga K "_law_kept") fd
  g_u_law_word : mg "_law_word" = some (.ref (ga K "_law_word"))
  d_u_law_word : ∃ fd, FunD K "_law_word" "_law_word" (defArgs st_u_law_word) (defBody st_u_law_word) (defScope st_u_law_word) [] [] (ga K "_law_word") fd
  g_u_law_size : mg "_law_size" = some (.ref (ga K "_law_size"))
  d_u_law_size : ∃ fd, FunD K "_law_size" "_law_size" (defArgs st_u_law_size) (defBody st_u_law_size) (defScope st_u_law_size) [] [] (ga K "_law_size") fd
  g_u_law_lots : mg "_law_lots" = some (.ref (ga K "_law_lots"))
  d_u_law_lots : ∃ fd, FunD K "_law_lots" "_law_lots" (defArgs st_u_law_lots) (defBody st_u_law_lots) (defScope st_u_law_lots) [] [] (ga K "_law_lots") fd
  g_u_law_sizes : mg "_law_sizes" = some (.ref (ga K "_law_sizes"))
  d_u_law_sizes : ∃ fd, FunD K "_law_sizes" "_law_sizes" (defArgs st_u_law_sizes) (defBody st_u_law_sizes) (defScope st_u_law_sizes) [] [] (ga K "_law_sizes") fd
  g_u_law_with : mg "_law_with" = some (.ref (ga K "_law_with"))
  d_u_law_with : ∃ fd, FunD K "_law_with" "_law_with" (defArgs st_u_law_with) (defBody st_u_law_with) (defScope st_u_law_with) [] [] (ga K "_law_with") fd
  g_u_law_same : mg "_law_same" = some (.ref (ga K "_law_same"))
  d_u_law_same : ∃ fd, FunD K "_law_same" "_law_same" (defArgs st_u_law_same) (defBody st_u_law_same) (defScope st_u_law_same) [] [] (ga K "_law_same") fd
  g_is_tuple : mg "is_tuple" = some (.ref (ga K "is_tuple"))
  d_is_tuple : ∃ fd, FunD K "is_tuple" "is_tuple" (defArgs st_is_tuple) (defBody st_is_tuple) (defScope st_is_tuple) [] [] (ga K "is_tuple") fd
  g_is_word : mg "is_word" = some (.ref (ga K "is_word"))
  d_is_word : ∃ fd, FunD K "is_word" "is_word" (defArgs st_is_word) (defBody st_is_word) (defScope st_is_word) [] [] (ga K "is_word") fd
  g_is_integer : mg "is_integer" = some (.ref (ga K "is_integer"))
  d_is_integer : ∃ fd, FunD K "is_integer" "is_integer" (defArgs st_is_integer) (defBody st_is_integer) (defScope st_is_integer) [] [] (ga K "is_integer") fd
  g_lot_fault : mg "lot_fault" = some (.ref (ga K "lot_fault"))
  d_lot_fault : ∃ fd, FunD K "lot_fault" "lot_fault" (defArgs st_lot_fault) (defBody st_lot_fault) (defScope st_lot_fault) [] [] (ga K "lot_fault") fd
  g_lots_fault : mg "lots_fault" = some (.ref (ga K "lots_fault"))
  d_lots_fault : ∃ fd, FunD K "lots_fault" "lots_fault" (defArgs st_lots_fault) (defBody st_lots_fault) (defScope st_lots_fault) [] [] (ga K "lots_fault") fd
  g_check_lots : mg "check_lots" = some (.ref (ga K "check_lots"))
  d_check_lots : ∃ fd, FunD K "check_lots" "check_lots" (defArgs st_check_lots) (defBody st_check_lots) (defScope st_check_lots) [] [] (ga K "check_lots") fd
  g_is_number : mg "is_number" = some (.ref (ga K "is_number"))
  d_is_number : ∃ fd, FunD K "is_number" "is_number" (defArgs st_is_number) (defBody st_is_number) (defScope st_is_number) [] [] (ga K "is_number") fd
  g_is_number_to : mg "is_number_to" = some (.ref (ga K "is_number_to"))
  d_is_number_to : ∃ fd, FunD K "is_number_to" "is_number_to" (defArgs st_is_number_to) (defBody st_is_number_to) (defScope st_is_number_to) [] [] (ga K "is_number_to") fd
  g_counts_fault : mg "counts_fault" = some (.ref (ga K "counts_fault"))
  d_counts_fault : ∃ fd, FunD K "counts_fault" "counts_fault" (defArgs st_counts_fault) (defBody st_counts_fault) (defScope st_counts_fault) [] [] (ga K "counts_fault") fd
  g_sizes_of : mg "sizes_of" = some (.ref (ga K "sizes_of"))
  d_sizes_of : ∃ fd, FunD K "sizes_of" "sizes_of" (defArgs st_sizes_of) (defBody st_sizes_of) (defScope st_sizes_of) [] [] (ga K "sizes_of") fd
  g_check_counts : mg "check_counts" = some (.ref (ga K "check_counts"))
  d_check_counts : ∃ fd, FunD K "check_counts" "check_counts" (defArgs st_check_counts) (defBody st_check_counts) (defScope st_check_counts) [] [] (ga K "check_counts") fd
  g_common_counts : mg "common_counts" = some (.ref (ga K "common_counts"))
  d_common_counts : ∃ fd, FunD K "common_counts" "common_counts" (defArgs st_common_counts) (defBody st_common_counts) (defScope st_common_counts) [] [] (ga K "common_counts") fd
  g_least_common : mg "least_common" = some (.ref (ga K "least_common"))
  d_least_common : ∃ fd, FunD K "least_common" "least_common" (defArgs st_least_common) (defBody st_least_common) (defScope st_least_common) [] [] (ga K "least_common") fd
  g_is_below : mg "is_below" = some (.ref (ga K "is_below"))
  d_is_below : ∃ fd, FunD K "is_below" "is_below" (defArgs st_is_below) (defBody st_is_below) (defScope st_is_below) [] [] (ga K "is_below") fd
  g_below : mg "below" = some (.ref (ga K "below"))
  d_below : ∃ fd, FunD K "below" "below" (defArgs st_below) (defBody st_below) (defScope st_below) [] [] (ga K "below") fd
  g_rest_counts : mg "rest_counts" = some (.ref (ga K "rest_counts"))
  d_rest_counts : ∃ fd, FunD K "rest_counts" "rest_counts" (defArgs st_rest_counts) (defBody st_rest_counts) (defScope st_rest_counts) [] [] (ga K "rest_counts") fd
  g_outside : mg "outside" = some (.ref (ga K "outside"))
  d_outside : ∃ fd, FunD K "outside" "outside" (defArgs st_outside) (defBody st_outside) (defScope st_outside) [] [] (ga K "outside") fd
  g_first_spans : mg "first_spans" = some (.ref (ga K "first_spans"))
  d_first_spans : ∃ fd, FunD K "first_spans" "first_spans" (defArgs st_first_spans) (defBody st_first_spans) (defScope st_first_spans) [] [] (ga K "first_spans") fd
  g_first_houses : mg "first_houses" = some (.ref (ga K "first_houses"))
  d_first_houses : ∃ fd, FunD K "first_houses" "first_houses" (defArgs st_first_houses) (defBody st_first_houses) (defScope st_first_houses) [] [] (ga K "first_houses") fd
  g_everyone : mg "everyone" = some (.ref (ga K "everyone"))
  d_everyone : ∃ fd, FunD K "everyone" "everyone" (defArgs st_everyone) (defBody st_everyone) (defScope st_everyone) [] [] (ga K "everyone") fd
  g_nobody : mg "nobody" = some (.ref (ga K "nobody"))
  d_nobody : ∃ fd, FunD K "nobody" "nobody" (defArgs st_nobody) (defBody st_nobody) (defScope st_nobody) [] [] (ga K "nobody") fd
  g_u_law_told : mg "_law_told" = some (.ref (ga K "_law_told"))
  d_u_law_told : ∃ fd, FunD K "_law_told" "_law_told" (defArgs st_u_law_told) (defBody st_u_law_told) (defScope st_u_law_told) [] [] (ga K "_law_told") fd
  g_u_law_part : mg "_law_part" = some (.ref (ga K "_law_part"))
  d_u_law_part : ∃ fd, FunD K "_law_part" "_law_part" (defArgs st_u_law_part) (defBody st_u_law_part) (defScope st_u_law_part) [] [] (ga K "_law_part") fd
  g_u_law_ask_least : mg "_law_ask_least" = some (.ref (ga K "_law_ask_least"))
  d_u_law_ask_least : ∃ fd, FunD K "_law_ask_least" "_law_ask_least" (defArgs st_u_law_ask_least) (defBody st_u_law_ask_least) (defScope st_u_law_ask_least) [] [] (ga K "_law_ask_least") fd
  g_u_law_is_below : mg "_law_is_below" = some (.ref (ga K "_law_is_below"))
  d_u_law_is_below : ∃ fd, FunD K "_law_is_below" "_law_is_below" (defArgs st_u_law_is_below) (defBody st_u_law_is_below) (defScope st_u_law_is_below) [] [] (ga K "_law_is_below") fd
  g_u_law_ask_below : mg "_law_ask_below" = some (.ref (ga K "_law_ask_below"))
  d_u_law_ask_below : ∃ fd, FunD K "_law_ask_below" "_law_ask_below" (defArgs st_u_law_ask_below) (defBody st_u_law_ask_below) (defScope st_u_law_ask_below) [] [] (ga K "_law_ask_below") fd
  g_u_law_pair : mg "_law_pair" = some (.ref (ga K "_law_pair"))
  d_u_law_pair : ∃ fd, FunD K "_law_pair" "_law_pair" (defArgs st_u_law_pair) (defBody st_u_law_pair) (defScope st_u_law_pair) [] [] (ga K "_law_pair") fd
  g_u_law_first_last : mg "_law_first_last" = some (.ref (ga K "_law_first_last"))
  d_u_law_first_last : ∃ fd, FunD K "_law_first_last" "_law_first_last" (defArgs st_u_law_first_last) (defBody st_u_law_first_last) (defScope st_u_law_first_last) [] [] (ga K "_law_first_last") fd
  g_u_law_upto : mg "_law_upto" = some (.ref (ga K "_law_upto"))
  d_u_law_upto : ∃ fd, FunD K "_law_upto" "_law_upto" (defArgs st_u_law_upto) (defBody st_u_law_upto) (defScope st_u_law_upto) [] [] (ga K "_law_upto") fd
  g_u_law_second : mg "_law_second" = some (.ref (ga K "_law_second"))
  d_u_law_second : ∃ fd, FunD K "_law_second" "_law_second" (defArgs st_u_law_second) (defBody st_u_law_second) (defScope st_u_law_second) [] [] (ga K "_law_second") fd
  g_u_law_bits : mg "_law_bits" = some (.ref (ga K "_law_bits"))
  d_u_law_bits : ∃ fd, FunD K "_law_bits" "_law_bits" (defArgs st_u_law_bits) (defBody st_u_law_bits) (defScope st_u_law_bits) [] [] (ga K "_law_bits") fd
  g_u_law_subsets : mg "_law_subsets" = some (.ref (ga K "_law_subsets"))
  d_u_law_subsets : ∃ fd, FunD K "_law_subsets" "_law_subsets" (defArgs st_u_law_subsets) (defBody st_u_law_subsets) (defScope st_u_law_subsets) [] [] (ga K "_law_subsets") fd
  g_u_law_fewest : mg "_law_fewest" = some (.ref (ga K "_law_fewest"))
  d_u_law_fewest : ∃ fd, FunD K "_law_fewest" "_law_fewest" (defArgs st_u_law_fewest) (defBody st_u_law_fewest) (defScope st_u_law_fewest) [] [] (ga K "_law_fewest") fd
  g_u_law_fits : mg "_law_fits" = some (.ref (ga K "_law_fits"))
  d_u_law_fits : ∃ fd, FunD K "_law_fits" "_law_fits" (defArgs st_u_law_fits) (defBody st_u_law_fits) (defScope st_u_law_fits) [] [] (ga K "_law_fits") fd
  g_u_law_small : mg "_law_small" = some (.ref (ga K "_law_small"))
  d_u_law_small : ∃ fd, FunD K "_law_small" "_law_small" (defArgs st_u_law_small) (defBody st_u_law_small) (defScope st_u_law_small) [] [] (ga K "_law_small") fd
  g_u_law_doors : mg "_law_doors" = some (.ref (ga K "_law_doors"))
  d_u_law_doors : ∃ fd, FunD K "_law_doors" "_law_doors" (defArgs st_u_law_doors) (defBody st_u_law_doors) (defScope st_u_law_doors) [] [] (ga K "_law_doors") fd
  g_u_law_between : mg "_law_between" = some (.ref (ga K "_law_between"))
  d_u_law_between : ∃ fd, FunD K "_law_between" "_law_between" (defArgs st_u_law_between) (defBody st_u_law_between) (defScope st_u_law_between) [] [] (ga K "_law_between") fd
  g_law : mg "law" = some (.ref (ga K "law"))
  d_law : ∃ fd, FunD K "law" "law" (defArgs st_law) (defBody st_law) (defScope st_law) [] [] (ga K "law") fd
  b_abs : mg "abs" = none
  b_all : mg "all" = none
  b_bool : mg "bool" = none
  b_enumerate : mg "enumerate" = none
  b_int : mg "int" = none
  b_isinstance : mg "isinstance" = none
  b_len : mg "len" = none
  b_list : mg "list" = none
  b_max : mg "max" = none
  b_min : mg "min" = none
  b_range : mg "range" = none
  b_str : mg "str" = none
  b_sum : mg "sum" = none
  b_tuple : mg "tuple" = none
  b_zip : mg "zip" = none
  c_KEPT_WORDS : ∃ u v, mg "KEPT_WORDS" = some u ∧ RelV v u ∧ ∀ m H, VR K m H v w_KEPT_WORDS
  c_LETTERS : ∃ u v, mg "LETTERS" = some u ∧ RelV v u ∧ ∀ m H, VR K m H v w_LETTERS
  c_LETTERS_AND_FIGURES : ∃ u v, mg "LETTERS_AND_FIGURES" = some u ∧ RelV v u ∧ ∀ m H, VR K m H v w_LETTERS_AND_FIGURES
  g_AssentError : mg "AssentError" = some (.ref (ga K "AssentError"))
  g_BadCounts : mg "BadCounts" = some (.ref (ga K "BadCounts"))
  g_BadLots : mg "BadLots" = some (.ref (ga K "BadLots"))
  o_BadLots : OexC K (ga K "BadLots") ∧ PySem.W.findIn K (.ref (ga K "BadLots")) "__init__" = some (some (.ref (ma K (ga K "BadLots") "__init__"))) ∧ PySem.W.typeIn K (.ref (ma K (ga K "BadLots") "__init__")) = some (.type "function")
  d_BadLots : ∃ fd, FunD K "__init__" "BadLots.__init__" (defArgs sI_BadLots) (defBody sI_BadLots) (defScope sI_BadLots) [] [] (ma K (ga K "BadLots") "__init__") fd
  na_BadLots_at : PySem.W.findIn K (.ref (ga K "BadLots")) "at" = some none
  na_BadLots_word : PySem.W.findIn K (.ref (ga K "BadLots")) "word" = some none
  o_BadCounts : OexC K (ga K "BadCounts") ∧ PySem.W.findIn K (.ref (ga K "BadCounts")) "__init__" = some (some (.ref (ma K (ga K "BadCounts") "__init__"))) ∧ PySem.W.typeIn K (.ref (ma K (ga K "BadCounts") "__init__")) = some (.type "function")
  d_BadCounts : ∃ fd, FunD K "__init__" "BadCounts.__init__" (defArgs sI_BadCounts) (defBody sI_BadCounts) (defScope sI_BadCounts) [] [] (ma K (ga K "BadCounts") "__init__") fd
  na_BadCounts_at : PySem.W.findIn K (.ref (ga K "BadCounts")) "at" = some none
  m_AssentError : ∀ c C b, et K c = some C → mt_AssentError c = some b → PySem.W.exmOne K (.ref C) (.ref (ga K "AssentError")) = some b
  m_BadCounts : ∀ c C b, et K c = some C → mt_BadCounts c = some b → PySem.W.exmOne K (.ref C) (.ref (ga K "BadCounts")) = some b
  x_BadCounts : ∀ {c C}, et K c = some C → mt_BadCounts c = some true → XfC K C
  n_BadCounts_at : ∀ {c C}, et K c = some C → mt_BadCounts c = some true → PySem.W.findIn K (.ref C) "at" = some none
  m_BadLots : ∀ c C b, et K c = some C → mt_BadLots c = some b → PySem.W.exmOne K (.ref C) (.ref (ga K "BadLots")) = some b
  x_BadLots : ∀ {c C}, et K c = some C → mt_BadLots c = some true → XfC K C
  n_BadLots_at : ∀ {c C}, et K c = some C → mt_BadLots c = some true → PySem.W.findIn K (.ref C) "at" = some none
  n_BadLots_word : ∀ {c C}, et K c = some C → mt_BadLots c = some true → PySem.W.findIn K (.ref C) "word" = some none
  t_is_word : ∃ c P, PySem.W.tabIn K "is_word" = some (c, P) ∧ PySem.W.nsIn K mainGlobals "is_word" = some (some (.ref (ga K "is_word")))
  t_sizes_of : ∃ c P, PySem.W.tabIn K "sizes_of" = some (c, P) ∧ PySem.W.nsIn K mainGlobals "sizes_of" = some (some (.ref (ga K "sizes_of")))
  t_common_counts : ∃ c P, PySem.W.tabIn K "common_counts" = some (c, P) ∧ PySem.W.nsIn K mainGlobals "common_counts" = some (some (.ref (ga K "common_counts")))
  t_rest_counts : ∃ c P, PySem.W.tabIn K "rest_counts" = some (c, P) ∧ PySem.W.nsIn K mainGlobals "rest_counts" = some (some (.ref (ga K "rest_counts")))
  t_first_houses : ∃ c P, PySem.W.tabIn K "first_houses" = some (c, P) ∧ PySem.W.nsIn K mainGlobals "first_houses" = some (some (.ref (ga K "first_houses")))
/-- the tables, at a ground -/
def TabsOk (K : PySem.W.Frag) (mg : Str → Option Value) (base : Heap) : Prop := ∀ p ∈ tabs K, GxR.TabB base mg p.1 p.2
section
variable {P : Program} {w : World} {K : PySem.W.Frag} {mg : Str → Option Value} {base : Heap}
theorem sci_BadLots : FnScope ["self", "at", "word"] ["self", "at", "word"] (defScope sI_BadLots) := ⟨rfl, rfl, rfl, by decide +kernel, rfl, by decide +kernel, by decide +kernel⟩
theorem ini_BadLots (Z : Facts K mg) {fd : FuncData} (F : FunD K "__init__" "BadLots.__init__" (defArgs sI_BadLots) (defBody sI_BadLots) (defScope sI_BadLots) [] [] (ma K (ga K "BadLots") "__init__") fd) : FnOk P w K mg base (L2.CX P w) 1 (ma K (ga K "BadLots") "__init__") fd ["self", "at", "word"] (spI (ga K "BadLots") ["at", "word"]) := by
  obtain ⟨oc, od, dV, kV, doc, pm, an, cdv, ct, osl, rfl, lk, hcd, _, _⟩ := F.ex
  exact fn_init2 (k := 0) lk hcd sci_BadLots rfl Z.o_BadLots.1 Z.na_BadLots_at Z.na_BadLots_word fun A outer s H E => (pss_cons (ps_ost (pv 0) (pv 1)) (pss_one (ps_ost (pv 0) (pv 2))))
theorem sci_BadCounts : FnScope ["self", "at"] ["self", "at"] (defScope sI_BadCounts) := ⟨rfl, rfl, rfl, by decide +kernel, rfl, by decide +kernel, by decide +kernel⟩
theorem ini_BadCounts (Z : Facts K mg) {fd : FuncData} (F : FunD K "__init__" "BadCounts.__init__" (defArgs sI_BadCounts) (defBody sI_BadCounts) (defScope sI_BadCounts) [] [] (ma K (ga K "BadCounts") "__init__") fd) : FnOk P w K mg base (L2.CX P w) 1 (ma K (ga K "BadCounts") "__init__") fd ["self", "at"] (spI (ga K "BadCounts") ["at"]) := by
  obtain ⟨oc, od, dV, kV, doc, pm, an, cdv, ct, osl, rfl, lk, hcd, _, _⟩ := F.ex
  exact fn_init1 (k := 0) lk hcd sci_BadCounts rfl Z.o_BadCounts.1 Z.na_BadCounts_at fun A outer s H E => (pss_one (ps_ost (pv 0) (pv 1)))
theorem sc_u_law_tape : FnScope ["script", "state", "greats", "cell"] ["script"] (defScope st_u_law_tape) := ⟨rfl, rfl, rfl, by decide +kernel, rfl, by decide +kernel, by decide +kernel⟩
noncomputable def d_u_law_tape : DS := (dSeq (dAsg (dC (.int 77023)) (gN 1))
    (dSeq (dAsg (dLst dNil) (gN 2))
    (dSeq (dFor (dSeqI (dVar 0)) (gN 3) (dSeq (dAsg (dOp wMod (dCB (on1 wInt) (dCons (dOp wAdd (dOp wAdd (dOp wMul (dVar 1) (dC (.int 1181783497276652981))) (dOp wMul (dVar 3) (dC (.int 16807)))) (dC (.int 7))) dNil)) (dC (.int 2305843009213693951))) (gN 1))
    (dIfS (dB (dOp wGe (dCB (on1 wAbs) (dCons (dVar 3) dNil)) (dOp wPow (dC (.int 10)) (dC (.int 18))))) (dEx (tyW isL wApp (dVar 2) (dCons (dCB (on1 wAbs) (dCons (dVar 3) dNil)) dNil))) dNext)))
    (dRet (dLst (dCons (dVar 1) (dCons (dC (.int 0)) (dCons (dUn wRev (dVar 2)) dNil))))))))
@[irreducible] noncomputable def f_u_law_tape : Fn := runF 4 d_u_law_tape
theorem run_u_law_tape (a0 : W) : f_u_law_tape [a0] = bd (d_u_law_tape [some a0, none, none, none]) endF := by delta f_u_law_tape; rfl
theorem ok_u_law_tape (Z : Facts K mg) (B : TabsOk K mg base) {fd : FuncData} (F : FunD K "_law_tape" "_law_tape" (defArgs st_u_law_tape) (defBody st_u_law_tape) (defScope st_u_law_tape) [] [] (ga K "_law_tape") fd) : FnOk P w K mg base (L2.CX P w) 1 (ga K "_law_tape") fd ["script"] (spF K ((tabs K).map (·.2)) (et K) 1 f_u_law_tape) := by
  have S := sc_u_law_tape
  obtain ⟨oc, od, dV, kV, doc, pm, an, cdv, ct, osl, rfl, lk, hcd, _, _⟩ := F.ex
  delta f_u_law_tape
  refine fn_mp lk hcd sc_u_law_tape (by decide) fun A outer s H E hr => ?_
  exact (pdss_cons (pds_set (i := 1) S.nd rfl (by first | exact Or.inl rfl | exact Or.inr rfl) pd_int (hs := by kernel_rfl))
    (pdss_cons (pds_set (i := 2) S.nd rfl (by first | exact Or.inl rfl | exact Or.inr rfl) (pd_lst pda_nil) (hs := by kernel_rfl))
    (pdss_cons (pds_for owns_mp rfl (pdi_seq (pdv 0)) (pdg_name (i := 3) S.nd rfl (by first | exact Or.inl rfl | exact Or.inr rfl)) (pdss_cons (pds_set (i := 1) S.nd rfl (by first | exact Or.inl rfl | exact Or.inr rfl) (pd_mod (pd_intC Z.b_int (pda_cons (pd_add (pd_add (pd_mul (pdv 1) pd_int) (pd_mul (pdv 3) pd_int)) pd_int) pda_nil)) pd_int) (hs := by kernel_rfl))
    (pdss_one (pds_if (pdt_ge (pd_abs Z.b_abs (pda_cons (pdv 3) pda_nil)) (pd_pow pd_int pd_int)) (pdss_one (pds_ex (pd_append (pdv 2) (pda_cons (pd_abs Z.b_abs (pda_cons (pdv 3) pda_nil)) pda_nil)))) pdss_nil))))
    (pdss_one (pds_ret (pd_lst (pda_cons (pdv 1) (pda_cons pd_int (pda_cons (pd_rev (pdv 2)) pda_nil)))))))))
theorem sc_u_law_draw : FnScope ["tape", "many", "told"] ["tape", "many"] (defScope st_u_law_draw) := ⟨rfl, rfl, rfl, by decide +kernel, rfl, by decide +kernel, by decide +kernel⟩
noncomputable def d_u_law_draw : DS := (dSeq (dIfS (dAnd (dB (dOp wLt (dOp wIx (dVar 0) (dC (.int 1))) (dC (.int 2)))) (dB (dOp wGt (dCB (on1 wLen) (dCons (dOp wIx (dVar 0) (dC (.int 2))) dNil)) (dC (.int 0))))) (dAsg (tyW isL wPop (dOp wIx (dVar 0) (dC (.int 2))) dNil) (fun v ρ S => noEx (gSubW (dVar 0) (dC (.int 1)) v ρ S))) dNext)
    (dSeq (dIfS (dB (dOp wGt (dOp wIx (dVar 0) (dC (.int 1))) (dC (.int 1)))) (dSeq (dAsg (dOp wMod (dCB (on1 wInt) (dCons (dOp wIx (dVar 0) (dC (.int 1))) dNil)) (dVar 1)) (gN 2))
    (dSeq (dAsg (dOp wDiv (dOp wIx (dVar 0) (dC (.int 1))) (dVar 1)) (fun v ρ S => noEx (gSubW (dVar 0) (dC (.int 1)) v ρ S)))
    (dRet (dVar 2)))) dNext)
    (dSeq (dAsg (dOp wMod (dCB (on1 wInt) (dCons (dOp wAdd (dOp wMul (dOp wIx (dVar 0) (dC (.int 0))) (dC (.int 7664345821815920749))) (dC (.int 21))) dNil)) (dC (.int 2305843009213693951))) (fun v ρ S => noEx (gSubW (dVar 0) (dC (.int 0)) v ρ S)))
    (dRet (dOp wMod (dCB (on1 wInt) (dCons (dOp wDiv (dOp wIx (dVar 0) (dC (.int 0))) (dC (.int 16381))) dNil)) (dVar 1))))))
@[irreducible] noncomputable def f_u_law_draw : Fn := runF 3 d_u_law_draw
theorem run_u_law_draw (a0 a1 : W) : f_u_law_draw [a0, a1] = bd (d_u_law_draw [some a0, some a1, none]) endF := by delta f_u_law_draw; rfl
theorem ok_u_law_draw (Z : Facts K mg) (B : TabsOk K mg base) {fd : FuncData} (F : FunD K "_law_draw" "_law_draw" (defArgs st_u_law_draw) (defBody st_u_law_draw) (defScope st_u_law_draw) [] [] (ga K "_law_draw") fd) : FnOk P w K mg base (L2.CX P w) 1 (ga K "_law_draw") fd ["tape", "many"] (spF K ((tabs K).map (·.2)) (et K) 2 f_u_law_draw) := by
  have S := sc_u_law_draw
  obtain ⟨oc, od, dV, kV, doc, pm, an, cdv, ct, osl, rfl, lk, hcd, _, _⟩ := F.ex
  delta f_u_law_draw
  refine fn_mp lk hcd sc_u_law_draw (by decide) fun A outer s H E hr => ?_
  exact (pdss_cons (pds_if (pdt_w (pdw_and (pdt_lt (pd_ixs (pdv 0) pd_int) pd_int) (pdw_and1 (pdt_gt (pd_len Z.b_len (pda_cons (pd_ixs (pdv 0) pd_int) pda_nil)) pd_int)))) (pdss_one (pds_asg (pd_pop (pd_ixs (pdv 0) pd_int)) (pdg_sub (ET := et K) (room_un hr) (pdv 0) pd_int))) pdss_nil)
    (pdss_cons (pds_if (pdt_gt (pd_ixs (pdv 0) pd_int) pd_int) (pdss_cons (pds_set (i := 2) S.nd rfl (by first | exact Or.inl rfl | exact Or.inr rfl) (pd_mod (pd_intC Z.b_int (pda_cons (pd_ixs (pdv 0) pd_int) pda_nil)) (pdv 1)) (hs := by kernel_rfl))
    (pdss_cons (pds_asg (pd_div (pd_ixs (pdv 0) pd_int) (pdv 1)) (pdg_sub (ET := et K) (room_un hr) (pdv 0) pd_int))
    (pdss_one (pds_ret (pdv 2))))) pdss_nil)
    (pdss_cons (pds_asg (pd_mod (pd_intC Z.b_int (pda_cons (pd_add (pd_mul (pd_ixs (pdv 0) pd_int) pd_int) pd_int) pda_nil)) pd_int) (pdg_sub (ET := et K) (room_un hr) (pdv 0) pd_int))
    (pdss_one (pds_ret (pd_mod (pd_intC Z.b_int (pda_cons (pd_div (pd_ixs (pdv 0) pd_int) pd_int) pda_nil)) (pdv 1)))))))
theorem sc_u_law_kept : FnScope [] [] (defScope st_u_law_kept) := ⟨rfl, rfl, rfl, by decide +kernel, rfl, by decide +kernel, by decide +kernel⟩
noncomputable def d_u_law_kept : DS := (dRet (dTup (dCons (dC (.str "of")) (dCons (dC (.str "in")) (dCons (dC (.str "most")) (dCons (dC (.str "all")) (dCons (dC (.str "one")) (dCons (dC (.str "heavy")) (dCons (dC (.str "least")) (dCons (dC (.str "spare")) (dCons (dC (.str "mirror")) (dCons (dC (.str "nobody")) (dCons (dC (.str "manner")) (dCons (dC (.str "rule")) (dCons (dC (.str "lot")) (dCons (dC (.str "trust")) (dCons (dC (.str "charter")) (dCons (dC (.str "row")) (dCons (dC (.str "ask")) (dCons (dC (.str "echo")) (dCons (dC (.str "vote")) (dCons (dC (.str "look")) (dCons (dC (.str "hold")) (dCons (dC (.str "change")) (dCons (dC (.str "to")) dNil)))))))))))))))))))))))))
@[irreducible] noncomputable def f_u_law_kept : Fn := runF 0 d_u_law_kept
theorem run_u_law_kept : f_u_law_kept [] = bd (d_u_law_kept []) endF := by delta f_u_law_kept; rfl
theorem ok_u_law_kept (Z : Facts K mg) (B : TabsOk K mg base) {fd : FuncData} (F : FunD K "_law_kept" "_law_kept" (defArgs st_u_law_kept) (defBody st_u_law_kept) (defScope st_u_law_kept) [] [] (ga K "_law_kept") fd) : FnOk P w K mg base (L2.CX P w) 1 (ga K "_law_kept") fd [] (spF K ((tabs K).map (·.2)) (et K) 0 f_u_law_kept) := by
  have S := sc_u_law_kept
  obtain ⟨oc, od, dV, kV, doc, pm, an, cdv, ct, osl, rfl, lk, hcd, _, _⟩ := F.ex
  delta f_u_law_kept
  refine fn_mp lk hcd sc_u_law_kept (by decide) fun A outer s H E hr => ?_
  exact (pdss_one (pds_ret (pd_tup (pda_cons pd_str (pda_cons pd_str (pda_cons pd_str (pda_cons pd_str (pda_cons pd_str (pda_cons pd_str (pda_cons pd_str (pda_cons pd_str (pda_cons pd_str (pda_cons pd_str (pda_cons pd_str (pda_cons pd_str (pda_cons pd_str (pda_cons pd_str (pda_cons pd_str (pda_cons pd_str (pda_cons pd_str (pda_cons pd_str (pda_cons pd_str (pda_cons pd_str (pda_cons pd_str (pda_cons pd_str (pda_cons pd_str pda_nil))))))))))))))))))))))))))
theorem sc_u_law_word : FnScope ["tape", "before", "told", "k", "other"] ["tape", "before"] (defScope st_u_law_word) := ⟨rfl, rfl, rfl, by decide +kernel, rfl, by decide +kernel, by decide +kernel⟩
noncomputable def d_u_law_word : DS := (dSeq (dAsg (dOp wIx (dC (.str "abcdefghijklmnopqrstuvwxyz")) (dCall 2 (f_u_law_draw) (dCons (dVar 0) (dCons (dC (.int 26)) dNil)))) (gN 2))
    (dSeq (dFor (dRng1 (dCons (dCall 2 (f_u_law_draw) (dCons (dVar 0) (dCons (dC (.int 8)) dNil))) dNil)) (gN 3) (dAsg (dOp wAdd (dVar 2) (dOp wIx (dC (.str "abcdefghijklmnopqrstuvwxyz0123456789")) (dCall 2 (f_u_law_draw) (dCons (dVar 0) (dCons (dC (.int 36)) dNil))))) (gN 2)))
    (dSeq (dIfS (dOr (dB (dOp (wIn false) (dVar 2) (dCall0 f_u_law_kept))) (dB (dOp (wIn false) (dVar 2) (dVar 1)))) (dFor (dRng1 (dCons (dC (.int 10)) dNil)) (gN 3) (dSeq (dAsg (dOp wAdd (dSl wSl (dVar 2) dNoPart (dPart (dC (.int 6)))) (dCB (on1 wStr) (dCons (dVar 3) dNil))) (gN 4))
    (dIfS (dB (dOp (wIn true) (dVar 4) (dVar 1))) (dRet (dVar 4)) dNext))) dNext)
    (dRet (dVar 2)))))
@[irreducible] noncomputable def f_u_law_word : Fn := runF 5 d_u_law_word
theorem run_u_law_word (a0 a1 : W) : f_u_law_word [a0, a1] = bd (d_u_law_word [some a0, some a1, none, none, none]) endF := by delta f_u_law_word; rfl
theorem ok_u_law_word (Z : Facts K mg) (B : TabsOk K mg base) {fd : FuncData} (F : FunD K "_law_word" "_law_word" (defArgs st_u_law_word) (defBody st_u_law_word) (defScope st_u_law_word) [] [] (ga K "_law_word") fd) : FnOk P w K mg base (L2.CX P w) 2 (ga K "_law_word") fd ["tape", "before"] (spF K ((tabs K).map (·.2)) (et K) 2 f_u_law_word) := by
  obtain ⟨fd_u_law_draw, F_u_law_draw⟩ := Z.d_u_law_draw
  have G_u_law_draw := ok_u_law_draw (P := P) (w := w) Z B F_u_law_draw
  have b_u_law_draw : Binds K fd_u_law_draw ["tape", "many"] [] := F_u_law_draw.bindsN fun _ _ _ _ _ _ us hl => match us, hl with | [_, _], _ => rfl
  obtain ⟨fd_u_law_kept, F_u_law_kept⟩ := Z.d_u_law_kept
  have G_u_law_kept := ok_u_law_kept (P := P) (w := w) Z B F_u_law_kept
  have b_u_law_kept : Binds K fd_u_law_kept [] [] := F_u_law_kept.bindsN fun _ _ _ _ _ _ us hl => match us, hl with | [], _ => rfl
  have S := sc_u_law_word
  obtain ⟨oc, od, dV, kV, doc, pm, an, cdv, ct, osl, rfl, lk, hcd, _, _⟩ := F.ex
  delta f_u_law_word
  refine fn_mp lk hcd sc_u_law_word (by decide) fun A outer s H E hr => ?_
  exact (pdss_cons (pds_set (i := 2) S.nd rfl (by first | exact Or.inl rfl | exact Or.inr rfl) (pd_ixs pd_str (pd_call G_u_law_draw takes_mp (hr.mono (by decide)) rfl Z.g_u_law_draw F_u_law_draw.kp b_u_law_draw (pda_cons (pdv 0) (pda_cons pd_int pda_nil)))) (hs := by kernel_rfl))
    (pdss_cons (pds_for owns_mp rfl (pdi_range1 rfl Z.b_range (pda_cons (pd_call G_u_law_draw takes_mp (hr.mono (by decide)) rfl Z.g_u_law_draw F_u_law_draw.kp b_u_law_draw (pda_cons (pdv 0) (pda_cons pd_int pda_nil))) pda_nil)) (pdg_name (i := 3) S.nd rfl (by first | exact Or.inl rfl | exact Or.inr rfl)) (pdss_one (pds_set (i := 2) S.nd rfl (by first | exact Or.inl rfl | exact Or.inr rfl) (pd_add (pdv 2) (pd_ixs pd_str (pd_call G_u_law_draw takes_mp (hr.mono (by decide)) rfl Z.g_u_law_draw F_u_law_draw.kp b_u_law_draw (pda_cons (pdv 0) (pda_cons pd_int pda_nil))))) (hs := by kernel_rfl))))
    (pdss_cons (pds_if (pdt_w (pdw_or (pdt_in (room_un hr) (pdv 2) (pd_call0 G_u_law_kept (hr.mono (by decide)) rfl Z.g_u_law_kept F_u_law_kept.kp b_u_law_kept)) (pdw_or1 (pdt_in (room_un hr) (pdv 2) (pdv 1))))) (pdss_one (pds_for owns_mp rfl (pdi_range1 rfl Z.b_range (pda_cons pd_int pda_nil)) (pdg_name (i := 3) S.nd rfl (by first | exact Or.inl rfl | exact Or.inr rfl)) (pdss_cons (pds_set (i := 4) S.nd rfl (by first | exact Or.inl rfl | exact Or.inr rfl) (pd_add (pd_sl (pdv 2) pdo_none (pdo_some pd_int)) (pd_strC Z.b_str (pda_cons (pdv 3) pda_nil))) (hs := by kernel_rfl))
    (pdss_one (pds_if (pdt_notIn (room_un hr) (pdv 4) (pdv 1)) (pdss_one (pds_ret (pdv 4))) pdss_nil))))) pdss_nil)
    (pdss_one (pds_ret (pdv 2))))))
theorem sc_u_law_size : FnScope ["tape", "way"] ["tape"] (defScope st_u_law_size) := ⟨rfl, rfl, rfl, by decide +kernel, rfl, by decide +kernel, by decide +kernel⟩
noncomputable def d_u_law_size : DS := (dSeq (dAsg (dCall 2 (f_u_law_draw) (dCons (dVar 0) (dCons (dC (.int 6)) dNil))) (gN 1))
    (dSeq (dIfS (dB (dOp wEq (dVar 1) (dC (.int 0)))) (dRet (dC (.int 1))) dNext)
    (dSeq (dIfS (dB (dOp wLt (dVar 1) (dC (.int 4)))) (dRet (dOp wAdd (dC (.int 1)) (dCall 2 (f_u_law_draw) (dCons (dVar 0) (dCons (dC (.int 6)) dNil))))) dNext)
    (dSeq (dIfS (dB (dOp wEq (dVar 1) (dC (.int 4)))) (dRet (dOp wSub (dOp wPow (dC (.int 10)) (dC (.int 12))) (dCall 2 (f_u_law_draw) (dCons (dVar 0) (dCons (dC (.int 3)) dNil))))) dNext)
    (dRet (dOp wAdd (dC (.int 1)) (dCall 2 (f_u_law_draw) (dCons (dVar 0) (dCons (dOp wPow (dC (.int 10)) (dC (.int 12))) dNil)))))))))
@[irreducible] noncomputable def f_u_law_size : Fn := runF 2 d_u_law_size
theorem run_u_law_size (a0 : W) : f_u_law_size [a0] = bd (d_u_law_size [some a0, none]) endF := by delta f_u_law_size; rfl
theorem ok_u_law_size (Z : Facts K mg) (B : TabsOk K mg base) {fd : FuncData} (F : FunD K "_law_size" "_law_size" (defArgs st_u_law_size) (defBody st_u_law_size) (defScope st_u_law_size) [] [] (ga K "_law_size") fd) : FnOk P w K mg base (L2.CX P w) 2 (ga K "_law_size") fd ["tape"] (spF K ((tabs K).map (·.2)) (et K) 1 f_u_law_size) := by
  obtain ⟨fd_u_law_draw, F_u_law_draw⟩ := Z.d_u_law_draw
  have G_u_law_draw := ok_u_law_draw (P := P) (w := w) Z B F_u_law_draw
  have b_u_law_draw : Binds K fd_u_law_draw ["tape", "many"] [] := F_u_law_draw.bindsN fun _ _ _ _ _ _ us hl => match us, hl with | [_, _], _ => rfl
  have S := sc_u_law_size
  obtain ⟨oc, od, dV, kV, doc, pm, an, cdv, ct, osl, rfl, lk, hcd, _, _⟩ := F.ex
  delta f_u_law_size
  refine fn_mp lk hcd sc_u_law_size (by decide) fun A outer s H E hr => ?_
  exact (pdss_cons (pds_set (i := 1) S.nd rfl (by first | exact Or.inl rfl | exact Or.inr rfl) (pd_call G_u_law_draw takes_mp (hr.mono (by decide)) rfl Z.g_u_law_draw F_u_law_draw.kp b_u_law_draw (pda_cons (pdv 0) (pda_cons pd_int pda_nil))) (hs := by kernel_rfl))
    (pdss_cons (pds_if (pdt_eq (pdv 1) pd_int) (pdss_one (pds_ret pd_int)) pdss_nil)
    (pdss_cons (pds_if (pdt_lt (pdv 1) pd_int) (pdss_one (pds_ret (pd_add pd_int (pd_call G_u_law_draw takes_mp (hr.mono (by decide)) rfl Z.g_u_law_draw F_u_law_draw.kp b_u_law_draw (pda_cons (pdv 0) (pda_cons pd_int pda_nil)))))) pdss_nil)
    (pdss_cons (pds_if (pdt_eq (pdv 1) pd_int) (pdss_one (pds_ret (pd_sub (pd_pow pd_int pd_int) (pd_call G_u_law_draw takes_mp (hr.mono (by decide)) rfl Z.g_u_law_draw F_u_law_draw.kp b_u_law_draw (pda_cons (pdv 0) (pda_cons pd_int pda_nil)))))) pdss_nil)
    (pdss_one (pds_ret (pd_add pd_int (pd_call G_u_law_draw takes_mp (hr.mono (by decide)) rfl Z.g_u_law_draw F_u_law_draw.kp b_u_law_draw (pda_cons (pdv 0) (pda_cons (pd_pow pd_int pd_int) pda_nil))))))))))
theorem sc_u_law_lots : FnScope ["tape", "many", "told", "words", "k", "word"] ["tape", "many"] (defScope st_u_law_lots) := ⟨rfl, rfl, rfl, by decide +kernel, rfl, by decide +kernel, by decide +kernel⟩
noncomputable def d_u_law_lots : DS := (dSeq (dAsg (dLst dNil) (gN 2))
    (dSeq (dAsg (dLst dNil) (gN 3))
    (dSeq (dFor (dRng1 (dCons (dVar 1) dNil)) (gN 4) (dSeq (dAsg (dCall 2 (f_u_law_word) (dCons (dVar 0) (dCons (dVar 3) dNil))) (gN 5))
    (dSeq (dEx (tyW isL wApp (dVar 3) (dCons (dVar 5) dNil)))
    (dEx (tyW isL wApp (dVar 2) (dCons (dTup (dCons (dVar 5) (dCons (dCall 1 (f_u_law_size) (dCons (dVar 0) dNil)) dNil))) dNil))))))
    (dRet (dCB (on1 wTupOf) (dCons (dVar 2) dNil))))))
@[irreducible] noncomputable def f_u_law_lots : Fn := runF 6 d_u_law_lots
theorem run_u_law_lots (a0 a1 : W) : f_u_law_lots [a0, a1] = bd (d_u_law_lots [some a0, some a1, none, none, none, none]) endF := by delta f_u_law_lots; rfl
theorem ok_u_law_lots (Z : Facts K mg) (B : TabsOk K mg base) {fd : FuncData} (F : FunD K "_law_lots" "_law_lots" (defArgs st_u_law_lots) (defBody st_u_law_lots) (defScope st_u_law_lots) [] [] (ga K "_law_lots") fd) : FnOk P w K mg base (L2.CX P w) 3 (ga K "_law_lots") fd ["tape", "many"] (spF K ((tabs K).map (·.2)) (et K) 2 f_u_law_lots) := by
  obtain ⟨fd_u_law_size, F_u_law_size⟩ := Z.d_u_law_size
  have G_u_law_size := ok_u_law_size (P := P) (w := w) Z B F_u_law_size
  have b_u_law_size : Binds K fd_u_law_size ["tape"] [] := F_u_law_size.bindsN fun _ _ _ _ _ _ us hl => match us, hl with | [_], _ => rfl
  obtain ⟨fd_u_law_word, F_u_law_word⟩ := Z.d_u_law_word
  have G_u_law_word := ok_u_law_word (P := P) (w := w) Z B F_u_law_word
  have b_u_law_word : Binds K fd_u_law_word ["tape", "before"] [] := F_u_law_word.bindsN fun _ _ _ _ _ _ us hl => match us, hl with | [_, _], _ => rfl
  have S := sc_u_law_lots
  obtain ⟨oc, od, dV, kV, doc, pm, an, cdv, ct, osl, rfl, lk, hcd, _, _⟩ := F.ex
  delta f_u_law_lots
  refine fn_mp lk hcd sc_u_law_lots (by decide) fun A outer s H E hr => ?_
  exact (pdss_cons (pds_set (i := 2) S.nd rfl (by first | exact Or.inl rfl | exact Or.inr rfl) (pd_lst pda_nil) (hs := by kernel_rfl))
    (pdss_cons (pds_set (i := 3) S.nd rfl (by first | exact Or.inl rfl | exact Or.inr rfl) (pd_lst pda_nil) (hs := by kernel_rfl))
    (pdss_cons (pds_for owns_mp rfl (pdi_range1 rfl Z.b_range (pda_cons (pdv 1) pda_nil)) (pdg_name (i := 4) S.nd rfl (by first | exact Or.inl rfl | exact Or.inr rfl)) (pdss_cons (pds_set (i := 5) S.nd rfl (by first | exact Or.inl rfl | exact Or.inr rfl) (pd_call G_u_law_word takes_mp (hr.mono (by decide)) rfl Z.g_u_law_word F_u_law_word.kp b_u_law_word (pda_cons (pdv 0) (pda_cons (pdv 3) pda_nil))) (hs := by kernel_rfl))
    (pdss_cons (pds_ex (pd_append (pdv 3) (pda_cons (pdv 5) pda_nil)))
    (pdss_one (pds_ex (pd_append (pdv 2) (pda_cons (pd_tup (pda_cons (pdv 5) (pda_cons (pd_call G_u_law_size takes_mp (hr.mono (by decide)) rfl Z.g_u_law_size F_u_law_size.kp b_u_law_size (pda_cons (pdv 0) pda_nil)) pda_nil))) pda_nil)))))))
    (pdss_one (pds_ret (pd_tupC Z.b_tuple (pda_cons (pdv 2) pda_nil)))))))
theorem sc_u_law_sizes : FnScope ["lots", "lot"] ["lots"] (defScope st_u_law_sizes) := ⟨rfl, rfl, rfl, by decide +kernel, rfl, by decide +kernel, by decide +kernel⟩
noncomputable def d_u_law_sizes : DS := (dRet (dCB (on1 wTupOf) (dCons (dLc (dSeqI (dVar 0)) (gN 1) dYes (dOp wIx (dVar 1) (dC (.int 1))) [1]) dNil)))
@[irreducible] noncomputable def f_u_law_sizes : Fn := runF 2 d_u_law_sizes
theorem run_u_law_sizes (a0 : W) : f_u_law_sizes [a0] = bd (d_u_law_sizes [some a0, none]) endF := by delta f_u_law_sizes; rfl
theorem ok_u_law_sizes (Z : Facts K mg) (B : TabsOk K mg base) {fd : FuncData} (F : FunD K "_law_sizes" "_law_sizes" (defArgs st_u_law_sizes) (defBody st_u_law_sizes) (defScope st_u_law_sizes) [] [] (ga K "_law_sizes") fd) : FnOk P w K mg base (L2.CX P w) 1 (ga K "_law_sizes") fd ["lots"] (spF K ((tabs K).map (·.2)) (et K) 1 f_u_law_sizes) := by
  have S := sc_u_law_sizes
  obtain ⟨oc, od, dV, kV, doc, pm, an, cdv, ct, osl, rfl, lk, hcd, _, _⟩ := F.ex
  delta f_u_law_sizes
  refine fn_mp lk hcd sc_u_law_sizes (by decide) fun A outer s H E hr => ?_
  exact (pdss_one (pds_ret (pd_tupC Z.b_tuple (pda_cons (pd_lc (own := [("lot", 1)]) rfl S.nd (pdi_seq (pdv 0)) (blk_ok (by kernel_rfl)) (fun _ _ _ _ _ => (pdgo_name (i := 1) S.nd rfl (by first | exact Or.inl rfl | exact Or.inr rfl) (by decide))) (fun _ _ _ _ _ => pdts_nil) (fun _ _ _ _ _ => (pd_ixs (pdv 1) pd_int))) pda_nil))))
theorem sc_u_law_with : FnScope ["row", "at", "item"] ["row", "at", "item"] (defScope st_u_law_with) := ⟨rfl, rfl, rfl, by decide +kernel, rfl, by decide +kernel, by decide +kernel⟩
noncomputable def d_u_law_with : DS := (dRet (dOp wAdd (dOp wAdd (dSl wSl (dVar 0) dNoPart (dPart (dVar 1))) (dTup (dCons (dVar 2) dNil))) (dSl wSl (dVar 0) (dPart (dOp wAdd (dVar 1) (dC (.int 1)))) dNoPart)))
@[irreducible] noncomputable def f_u_law_with : Fn := runF 3 d_u_law_with
theorem run_u_law_with (a0 a1 a2 : W) : f_u_law_with [a0, a1, a2] = bd (d_u_law_with [some a0, some a1, some a2]) endF := by delta f_u_law_with; rfl
theorem ok_u_law_with (Z : Facts K mg) (B : TabsOk K mg base) {fd : FuncData} (F : FunD K "_law_with" "_law_with" (defArgs st_u_law_with) (defBody st_u_law_with) (defScope st_u_law_with) [] [] (ga K "_law_with") fd) : FnOk P w K mg base (L2.CX P w) 1 (ga K "_law_with") fd ["row", "at", "item"] (spF K ((tabs K).map (·.2)) (et K) 3 f_u_law_with) := by
  have S := sc_u_law_with
  obtain ⟨oc, od, dV, kV, doc, pm, an, cdv, ct, osl, rfl, lk, hcd, _, _⟩ := F.ex
  delta f_u_law_with
  refine fn_mp lk hcd sc_u_law_with (by decide) fun A outer s H E hr => ?_
  exact (pdss_one (pds_ret (pd_add (pd_add (pd_sl (pdv 0) pdo_none (pdo_some (pdv 1))) (pd_tup (pda_cons (pdv 2) pda_nil))) (pd_sl (pdv 0) (pdo_some (pd_add (pdv 1) pd_int)) pdo_none))))
theorem sc_u_law_same : FnScope ["told", "due", "at"] ["told", "due"] (defScope st_u_law_same) := ⟨rfl, rfl, rfl, by decide +kernel, rfl, by decide +kernel, by decide +kernel⟩
noncomputable def d_u_law_same (Fs : Fn) : DS := (dSeq (dIfS (dB (dOp (wIsN false) (dVar 1) (dC .non))) (dRet (dOp (wIsN false) (dVar 0) (dC .non))) dNext)
    (dSeq (dIfS (dTru (dUn (wIsi "bool") (dVar 1))) (dRet (dAndV (dUn (wIsi "bool") (dVar 0)) (dOp wEq (dVar 0) (dVar 1)))) dNext)
    (dSeq (dIfS (dTru (dUn (wIsi "int") (dVar 1))) (dRet (dAndV (dUn (wIsi "int") (dVar 0)) (dAndV (dNotV (dUn (wIsi "bool") (dVar 0))) (dOp wEq (dVar 0) (dVar 1))))) dNext)
    (dSeq (dIfS (dTru (dUn (wIsi "str") (dVar 1))) (dRet (dAndV (dUn (wIsi "str") (dVar 0)) (dOp wEq (dVar 0) (dVar 1)))) dNext)
    (dSeq (dIfS (dOr (dAnd (dTru (dUn (wIsi "tuple") (dVar 1))) (dNot (dTru (dUn (wIsi "tuple") (dVar 0))))) (dAnd (dTru (dUn (wIsi "list") (dVar 1))) (dNot (dTru (dUn (wIsi "list") (dVar 0)))))) (dRet (dC (.bl false))) dNext)
    (dSeq (dIfS (dB (dOp wNe (dCB (on1 wLen) (dCons (dVar 0) dNil)) (dCB (on1 wLen) (dCons (dVar 1) dNil)))) (dRet (dC (.bl false))) dNext)
    (dSeq (dFor (dRng1 (dCons (dCB (on1 wLen) (dCons (dVar 1) dNil)) dNil)) (gN 2) (dIfS (dNot (dTru (dCall 2 Fs (dCons (dOp wIx (dVar 0) (dVar 2)) (dCons (dOp wIx (dVar 1) (dVar 2)) dNil))))) (dRet (dC (.bl false))) dNext))
    (dRet (dC (.bl true))))))))))
noncomputable def fs_u_law_same : Nat → Fn
  | 0 => fun _ => stuck
  | n + 1 => runF 3 (d_u_law_same (fs_u_law_same n))
@[irreducible] noncomputable def f_u_law_same : Fn := fs_u_law_same 8
theorem run_u_law_same (n : Nat) (a0 a1 : W) : fs_u_law_same (n + 1) [a0, a1] = bd (d_u_law_same (fs_u_law_same n) [some a0, some a1, none]) endF := rfl
theorem ok_u_law_same_r (n : Nat) (Z : Facts K mg) (B : TabsOk K mg base) {fd : FuncData} (F : FunD K "_law_same" "_law_same" (defArgs st_u_law_same) (defBody st_u_law_same) (defScope st_u_law_same) [] [] (ga K "_law_same") fd) : FnOk P w K mg base (L2.CX P w) (1 + n) (ga K "_law_same") fd ["told", "due"] (spF K ((tabs K).map (·.2)) (et K) 2 (fs_u_law_same n)) := by
  induction n with
  | zero => exact fn_stuck rfl
  | succ n ih =>
    have Gself := ih
    have Fself := F
    have bself : Binds K fd ["told", "due"] [] := F.bindsN fun _ _ _ _ _ _ us hl => match us, hl with | [_, _], _ => rfl
    have S := sc_u_law_same
    obtain ⟨oc, od, dV, kV, doc, pm, an, cdv, ct, osl, rfl, lk, hcd, _, _⟩ := F.ex
    refine fn_mp (k := 1 + n) lk hcd sc_u_law_same (by decide) fun A outer s H E hr => ?_
    exact (pdss_cons (pds_if (pdt_is (pdv 1) pd_non) (pdss_one (pds_ret (pd_is (pdv 0) pd_non))) pdss_nil)
    (pdss_cons (pds_if (pdt_tru (pd_isi (n := "bool") rfl Z.b_isinstance rfl Z.b_bool (by decide +kernel) (pdv 1))) (pdss_one (pds_ret (pd_and (pd_isi (n := "bool") rfl Z.b_isinstance rfl Z.b_bool (by decide +kernel) (pdv 0)) (pd_one (pd_eq (pdv 0) (pdv 1)))))) pdss_nil)
    (pdss_cons (pds_if (pdt_tru (pd_isi (n := "int") rfl Z.b_isinstance rfl Z.b_int (by decide +kernel) (pdv 1))) (pdss_one (pds_ret (pd_and (pd_isi (n := "int") rfl Z.b_isinstance rfl Z.b_int (by decide +kernel) (pdv 0)) (pd_and (pd_not (pd_isi (n := "bool") rfl Z.b_isinstance rfl Z.b_bool (by decide +kernel) (pdv 0))) (pd_one (pd_eq (pdv 0) (pdv 1))))))) pdss_nil)
    (pdss_cons (pds_if (pdt_tru (pd_isi (n := "str") rfl Z.b_isinstance rfl Z.b_str (by decide +kernel) (pdv 1))) (pdss_one (pds_ret (pd_and (pd_isi (n := "str") rfl Z.b_isinstance rfl Z.b_str (by decide +kernel) (pdv 0)) (pd_one (pd_eq (pdv 0) (pdv 1)))))) pdss_nil)
    (pdss_cons (pds_if (pdt_w (pdw_or (pdt_w (pdw_and (pdt_tru (pd_isi (n := "tuple") rfl Z.b_isinstance rfl Z.b_tuple (by decide +kernel) (pdv 1))) (pdw_and1 (pdt_not (pdt_tru (pd_isi (n := "tuple") rfl Z.b_isinstance rfl Z.b_tuple (by decide +kernel) (pdv 0))))))) (pdw_or1 (pdt_w (pdw_and (pdt_tru (pd_isi (n := "list") rfl Z.b_isinstance rfl Z.b_list (by decide +kernel) (pdv 1))) (pdw_and1 (pdt_not (pdt_tru (pd_isi (n := "list") rfl Z.b_isinstance rfl Z.b_list (by decide +kernel) (pdv 0)))))))))) (pdss_one (pds_ret pd_bl)) pdss_nil)
    (pdss_cons (pds_if (pdt_ne (pd_len Z.b_len (pda_cons (pdv 0) pda_nil)) (pd_len Z.b_len (pda_cons (pdv 1) pda_nil))) (pdss_one (pds_ret pd_bl)) pdss_nil)
    (pdss_cons (pds_for owns_mp rfl (pdi_range1 rfl Z.b_range (pda_cons (pd_len Z.b_len (pda_cons (pdv 1) pda_nil)) pda_nil)) (pdg_name (i := 2) S.nd rfl (by first | exact Or.inl rfl | exact Or.inr rfl)) (pdss_one (pds_if (pdt_not (pdt_tru (pd_call Gself takes_mp (hr.mono (Nat.le_refl _)) rfl Z.g_u_law_same Fself.kp bself (pda_cons (pd_ixs (pdv 0) (pdv 2)) (pda_cons (pd_ixs (pdv 1) (pdv 2)) pda_nil))))) (pdss_one (pds_ret pd_bl)) pdss_nil)))
    (pdss_one (pds_ret pd_bl)))))))))
theorem ok_u_law_same (Z : Facts K mg) (B : TabsOk K mg base) {fd : FuncData} (F : FunD K "_law_same" "_law_same" (defArgs st_u_law_same) (defBody st_u_law_same) (defScope st_u_law_same) [] [] (ga K "_law_same") fd) : FnOk P w K mg base (L2.CX P w) 9 (ga K "_law_same") fd ["told", "due"] (spF K ((tabs K).map (·.2)) (et K) 2 f_u_law_same) := by delta f_u_law_same; exact ok_u_law_same_r 8 Z B F
theorem sc_is_tuple : FnScope ["thing", "many"] ["thing", "many"] (defScope st_is_tuple) := ⟨rfl, rfl, rfl, by decide +kernel, rfl, by decide +kernel, by decide +kernel⟩
noncomputable def d_is_tuple : DS := (dRet (dAndV (dUn (wIsi "tuple") (dVar 0)) (dOp wEq (dCB (on1 wLen) (dCons (dVar 0) dNil)) (dVar 1))))
@[irreducible] noncomputable def f_is_tuple : Fn := runF 2 d_is_tuple
theorem run_is_tuple (a0 a1 : W) : f_is_tuple [a0, a1] = bd (d_is_tuple [some a0, some a1]) endF := by delta f_is_tuple; rfl
theorem ok_is_tuple (Z : Facts K mg) (B : TabsOk K mg base) {fd : FuncData} (F : FunD K "is_tuple" "is_tuple" (defArgs st_is_tuple) (defBody st_is_tuple) (defScope st_is_tuple) [] [] (ga K "is_tuple") fd) : FnOk P w K mg base (L2.CX P w) 1 (ga K "is_tuple") fd ["thing", "many"] (spF K ((tabs K).map (·.2)) (et K) 2 f_is_tuple) := by
  have S := sc_is_tuple
  obtain ⟨oc, od, dV, kV, doc, pm, an, cdv, ct, osl, rfl, lk, hcd, _, _⟩ := F.ex
  delta f_is_tuple
  refine fn_mp lk hcd sc_is_tuple (by decide) fun A outer s H E hr => ?_
  exact (pdss_one (pds_ret (pd_and (pd_isi (n := "tuple") rfl Z.b_isinstance rfl Z.b_tuple (by decide +kernel) (pdv 0)) (pd_one (pd_eq (pd_len Z.b_len (pda_cons (pdv 0) pda_nil)) (pdv 1))))))
theorem sc_is_word : FnScope ["thing", "sign"] ["thing"] (defScope st_is_word) := ⟨rfl, rfl, rfl, by decide +kernel, rfl, by decide +kernel, by decide +kernel⟩
noncomputable def d_is_word : DS := (dSeq (dIfS (dOr (dNot (dTru (dUn (wIsi "str") (dVar 0)))) (dNot (dB (dChain wLe wLe (dC (.int 1)) (dCB (on1 wLen) (dCons (dVar 0) dNil)) (dC (.int 8)))))) (dRet (dC (.bl false))) dNext)
    (dSeq (dIfS (dOr (dB (dOp (wIn true) (dOp wIx (dVar 0) (dC (.int 0))) (dC w_LETTERS))) (dB (dOp (wIn false) (dVar 0) (dC w_KEPT_WORDS)))) (dRet (dC (.bl false))) dNext)
    (dRet (dAllG (dSeqI (dVar 0)) (gN 1) dYes (dOp (wIn false) (dVar 1) (dC w_LETTERS_AND_FIGURES)) [1]))))
@[irreducible] noncomputable def f_is_word : Fn := runF 2 d_is_word
theorem run_is_word (a0 : W) : f_is_word [a0] = bd (d_is_word [some a0, none]) endF := by delta f_is_word; rfl
theorem ok_is_word (Z : Facts K mg) (B : TabsOk K mg base) {fd : FuncData} (F : FunD K "is_word" "is_word" (defArgs st_is_word) (defBody st_is_word) (defScope st_is_word) [] [] (ga K "is_word") fd) : FnOk P w K mg base (L2.CX P w) 7 (ga K "is_word") fd ["thing"] (spF K ((tabs K).map (·.2)) (et K) 1 f_is_word) := by
  have S := sc_is_word
  obtain ⟨oc, od, dV, kV, doc, pm, an, cdv, ct, osl, rfl, lk, hcd, _, _⟩ := F.ex
  obtain ⟨c, Pt, ht, hn⟩ := Z.t_is_word
  obtain rfl : cdv = .ref c := tab_code ht hn lk
  have hmem : (c, Pt) ∈ tabs K := List.mem_filterMap.mpr ⟨"is_word", by decide, ht⟩
  have TB := B _ hmem
  have hPT : Pt ∈ (tabs K).map (·.2) := List.mem_map.mpr ⟨_, hmem, rfl⟩
  delta f_is_word
  refine fn_mp lk hcd sc_is_word (by decide) fun A outer s H E hr => ?_
  exact (pdss_cons (pds_if (pdt_w (pdw_or (pdt_not (pdt_tru (pd_isi (n := "str") rfl Z.b_isinstance rfl Z.b_str (by decide +kernel) (pdv 0)))) (pdw_or1 (pdt_not (pdt_lele pd_int (pd_len Z.b_len (pda_cons (pdv 0) pda_nil)) pd_int))))) (pdss_one (pds_ret pd_bl)) pdss_nil)
    (pdss_cons (pds_if (pdt_w (pdw_or (pdt_notIn (room_un hr) (pd_ixs (pdv 0) pd_int) (pd_globE rfl Z.c_LETTERS)) (pdw_or1 (pdt_in (room_un hr) (pdv 0) (pd_globE rfl Z.c_KEPT_WORDS))))) (pdss_one (pds_ret pd_bl)) pdss_nil)
    (pdss_one (pds_ret (pd_allG (dg_of (own := [("sign", 1)]) (kr := 0) hPT (room_lt hr) TB rfl S.nd rfl rfl (nocell_ok (by kernel_rfl)) (blk_ok (by kernel_rfl)) (pdi_seq (pdv 0)) (fun _ _ _ _ _ _ _ _ hrg => (pdgo_name (i := 1) S.nd rfl (by first | exact Or.inl rfl | exact Or.inr rfl) (by decide))) (fun _ _ _ _ _ _ _ _ hrg => pdts_nil) (fun _ _ _ _ _ _ _ _ hrg => (pd_in (room_un hrg) (pdv 1) (pd_globE rfl Z.c_LETTERS_AND_FIGURES)))) (hr.mono (by decide)) rfl Z.b_all)))))
theorem sc_is_integer : FnScope ["thing"] ["thing"] (defScope st_is_integer) := ⟨rfl, rfl, rfl, by decide +kernel, rfl, by decide +kernel, by decide +kernel⟩
noncomputable def d_is_integer : DS := (dRet (dAndV (dUn (wIsi "int") (dVar 0)) (dNotV (dUn (wIsi "bool") (dVar 0)))))
@[irreducible] noncomputable def f_is_integer : Fn := runF 1 d_is_integer
theorem run_is_integer (a0 : W) : f_is_integer [a0] = bd (d_is_integer [some a0]) endF := by delta f_is_integer; rfl
theorem ok_is_integer (Z : Facts K mg) (B : TabsOk K mg base) {fd : FuncData} (F : FunD K "is_integer" "is_integer" (defArgs st_is_integer) (defBody st_is_integer) (defScope st_is_integer) [] [] (ga K "is_integer") fd) : FnOk P w K mg base (L2.CX P w) 1 (ga K "is_integer") fd ["thing"] (spF K ((tabs K).map (·.2)) (et K) 1 f_is_integer) := by
  have S := sc_is_integer
  obtain ⟨oc, od, dV, kV, doc, pm, an, cdv, ct, osl, rfl, lk, hcd, _, _⟩ := F.ex
  delta f_is_integer
  refine fn_mp lk hcd sc_is_integer (by decide) fun A outer s H E hr => ?_
  exact (pdss_one (pds_ret (pd_and (pd_isi (n := "int") rfl Z.b_isinstance rfl Z.b_int (by decide +kernel) (pdv 0)) (pd_one (pd_not (pd_isi (n := "bool") rfl Z.b_isinstance rfl Z.b_bool (by decide +kernel) (pdv 0)))))))
theorem sc_lot_fault : FnScope ["lot", "words", "word", "size"] ["lot", "words"] (defScope st_lot_fault) := ⟨rfl, rfl, rfl, by decide +kernel, rfl, by decide +kernel, by decide +kernel⟩
noncomputable def d_lot_fault : DS := (dSeq (dIfS (dNot (dTru (dCall 2 (f_is_tuple) (dCons (dVar 0) (dCons (dC (.int 2)) dNil))))) (dRet (dC (.str "shape"))) dNext)
    (dSeq (dAsg (dVar 0) (gT 2 (gCons' (gN 2) (gCons' (gN 3) gNil'))))
    (dSeq (dIfS (dNot (dTru (dCall 1 (f_is_word) (dCons (dVar 2) dNil)))) (dRet (dC (.str "word"))) dNext)
    (dSeq (dIfS (dB (dOp (wIn false) (dVar 2) (dVar 1))) (dRet (dC (.str "twice"))) dNext)
    (dSeq (dIfS (dOr (dNot (dTru (dCall 1 (f_is_integer) (dCons (dVar 3) dNil)))) (dB (dOp wLt (dVar 3) (dC (.int 1))))) (dRet (dC (.str "size"))) dNext)
    (dRet (dC .non)))))))
@[irreducible] noncomputable def f_lot_fault : Fn := runF 4 d_lot_fault
theorem run_lot_fault (a0 a1 : W) : f_lot_fault [a0, a1] = bd (d_lot_fault [some a0, some a1, none, none]) endF := by delta f_lot_fault; rfl
theorem ok_lot_fault (Z : Facts K mg) (B : TabsOk K mg base) {fd : FuncData} (F : FunD K "lot_fault" "lot_fault" (defArgs st_lot_fault) (defBody st_lot_fault) (defScope st_lot_fault) [] [] (ga K "lot_fault") fd) : FnOk P w K mg base (L2.CX P w) 8 (ga K "lot_fault") fd ["lot", "words"] (spF K ((tabs K).map (·.2)) (et K) 2 f_lot_fault) := by
  obtain ⟨fd_is_integer, F_is_integer⟩ := Z.d_is_integer
  have G_is_integer := ok_is_integer (P := P) (w := w) Z B F_is_integer
  have b_is_integer : Binds K fd_is_integer ["thing"] [] := F_is_integer.bindsN fun _ _ _ _ _ _ us hl => match us, hl with | [_], _ => rfl
  obtain ⟨fd_is_tuple, F_is_tuple⟩ := Z.d_is_tuple
  have G_is_tuple := ok_is_tuple (P := P) (w := w) Z B F_is_tuple
  have b_is_tuple : Binds K fd_is_tuple ["thing", "many"] [] := F_is_tuple.bindsN fun _ _ _ _ _ _ us hl => match us, hl with | [_, _], _ => rfl
  obtain ⟨fd_is_word, F_is_word⟩ := Z.d_is_word
  have G_is_word := ok_is_word (P := P) (w := w) Z B F_is_word
  have b_is_word : Binds K fd_is_word ["thing"] [] := F_is_word.bindsN fun _ _ _ _ _ _ us hl => match us, hl with | [_], _ => rfl
  have S := sc_lot_fault
  obtain ⟨oc, od, dV, kV, doc, pm, an, cdv, ct, osl, rfl, lk, hcd, _, _⟩ := F.ex
  delta f_lot_fault
  refine fn_mp lk hcd sc_lot_fault (by decide) fun A outer s H E hr => ?_
  exact (pdss_cons (pds_if (pdt_not (pdt_tru (pd_call G_is_tuple takes_mp (hr.mono (by decide)) rfl Z.g_is_tuple F_is_tuple.kp b_is_tuple (pda_cons (pdv 0) (pda_cons pd_int pda_nil))))) (pdss_one (pds_ret pd_str)) pdss_nil)
    (pdss_cons (pds_asg (pdv 0) (pdg_tup rfl (pdgs_cons (pdg_name (i := 2) S.nd rfl (by first | exact Or.inl rfl | exact Or.inr rfl)) (pdgs_cons (pdg_name (i := 3) S.nd rfl (by first | exact Or.inl rfl | exact Or.inr rfl)) pdgs_nil))))
    (pdss_cons (pds_if (pdt_not (pdt_tru (pd_call G_is_word takes_mp (hr.mono (by decide)) rfl Z.g_is_word F_is_word.kp b_is_word (pda_cons (pdv 2) pda_nil)))) (pdss_one (pds_ret pd_str)) pdss_nil)
    (pdss_cons (pds_if (pdt_in (room_un hr) (pdv 2) (pdv 1)) (pdss_one (pds_ret pd_str)) pdss_nil)
    (pdss_cons (pds_if (pdt_w (pdw_or (pdt_not (pdt_tru (pd_call G_is_integer takes_mp (hr.mono (by decide)) rfl Z.g_is_integer F_is_integer.kp b_is_integer (pda_cons (pdv 3) pda_nil)))) (pdw_or1 (pdt_lt (pdv 3) pd_int)))) (pdss_one (pds_ret pd_str)) pdss_nil)
    (pdss_one (pds_ret pd_non)))))))
theorem sc_lots_fault : FnScope ["thing", "words", "at", "lot", "fault"] ["thing"] (defScope st_lots_fault) := ⟨rfl, rfl, rfl, by decide +kernel, rfl, by decide +kernel, by decide +kernel⟩
noncomputable def d_lots_fault : DS := (dSeq (dIfS (dOr (dNot (dTru (dUn (wIsi "tuple") (dVar 0)))) (dNot (dTru (dVar 0)))) (dRet (dTup (dCons (dUn wNeg (dC (.int 1))) (dCons (dC (.str "shape")) dNil)))) dNext)
    (dSeq (dAsg (fun _ => mk (.dct [])) (gN 1))
    (dSeq (dFor (dEnumI (dCons (dVar 0) dNil)) (gT 2 (gCons' (gN 2) (gCons' (gN 3) gNil'))) (dSeq (dAsg (dCall 2 (f_lot_fault) (dCons (dVar 3) (dCons (dVar 1) dNil))) (gN 4))
    (dSeq (dIfS (dB (dOp (wIsN true) (dVar 4) (dC .non))) (dRet (dTup (dCons (dVar 2) (dCons (dVar 4) dNil)))) dNext)
    (dAsg (dVar 2) (fun v ρ S => noEx (gSubW (dVar 1) (dOp wIx (dVar 3) (dC (.int 0))) v ρ S))))))
    (dRet (dC .non)))))
@[irreducible] noncomputable def f_lots_fault : Fn := runF 5 d_lots_fault
theorem run_lots_fault (a0 : W) : f_lots_fault [a0] = bd (d_lots_fault [some a0, none, none, none, none]) endF := by delta f_lots_fault; rfl
theorem ok_lots_fault (Z : Facts K mg) (B : TabsOk K mg base) {fd : FuncData} (F : FunD K "lots_fault" "lots_fault" (defArgs st_lots_fault) (defBody st_lots_fault) (defScope st_lots_fault) [] [] (ga K "lots_fault") fd) : FnOk P w K mg base (L2.CX P w) 9 (ga K "lots_fault") fd ["thing"] (spF K ((tabs K).map (·.2)) (et K) 1 f_lots_fault) := by
  obtain ⟨fd_lot_fault, F_lot_fault⟩ := Z.d_lot_fault
  have G_lot_fault := ok_lot_fault (P := P) (w := w) Z B F_lot_fault
  have b_lot_fault : Binds K fd_lot_fault ["lot", "words"] [] := F_lot_fault.bindsN fun _ _ _ _ _ _ us hl => match us, hl with | [_, _], _ => rfl
  have S := sc_lots_fault
  obtain ⟨oc, od, dV, kV, doc, pm, an, cdv, ct, osl, rfl, lk, hcd, _, _⟩ := F.ex
  delta f_lots_fault
  refine fn_mp lk hcd sc_lots_fault (by decide) fun A outer s H E hr => ?_
  exact (pdss_cons (pds_if (pdt_w (pdw_or (pdt_not (pdt_tru (pd_isi (n := "tuple") rfl Z.b_isinstance rfl Z.b_tuple (by decide +kernel) (pdv 0)))) (pdw_or1 (pdt_not (pdt_tru (pdv 0)))))) (pdss_one (pds_ret (pd_tup (pda_cons (pd_neg pd_int) (pda_cons pd_str pda_nil))))) pdss_nil)
    (pdss_cons (pds_set (i := 1) S.nd rfl (by first | exact Or.inl rfl | exact Or.inr rfl) pd_dict0 (hs := by kernel_rfl))
    (pdss_cons (pds_for owns_mp rfl (pdi_enum rfl Z.b_enumerate (pda_cons (pdv 0) pda_nil)) (pdg_tup rfl (pdgs_cons (pdg_name (i := 2) S.nd rfl (by first | exact Or.inl rfl | exact Or.inr rfl)) (pdgs_cons (pdg_name (i := 3) S.nd rfl (by first | exact Or.inl rfl | exact Or.inr rfl)) pdgs_nil))) (pdss_cons (pds_set (i := 4) S.nd rfl (by first | exact Or.inl rfl | exact Or.inr rfl) (pd_call G_lot_fault takes_mp (hr.mono (by decide)) rfl Z.g_lot_fault F_lot_fault.kp b_lot_fault (pda_cons (pdv 3) (pda_cons (pdv 1) pda_nil))) (hs := by kernel_rfl))
    (pdss_cons (pds_if (pdt_isnt (pdv 4) pd_non) (pdss_one (pds_ret (pd_tup (pda_cons (pdv 2) (pda_cons (pdv 4) pda_nil))))) pdss_nil)
    (pdss_one (pds_asg (pdv 2) (pdg_sub (ET := et K) (room_un hr) (pdv 1) (pd_ixs (pdv 3) pd_int)))))))
    (pdss_one (pds_ret pd_non)))))
theorem sc_check_lots : FnScope ["thing", "fault"] ["thing"] (defScope st_check_lots) := ⟨rfl, rfl, rfl, by decide +kernel, rfl, by decide +kernel, by decide +kernel⟩
noncomputable def d_check_lots : DS := (dSeq (dAsg (dCall 1 (f_lots_fault) (dCons (dVar 0) dNil)) (gN 1))
    (dSeq (dIfS (dB (dOp (wIsN true) (dVar 1) (dC .non))) (dRaise "BadLots" ["at", "word"] (dCons (dOp wIx (dVar 1) (dC (.int 0))) (dCons (dOp wIx (dVar 1) (dC (.int 1))) dNil))) dNext)
    (dRet (dCB (on1 wLen) (dCons (dVar 0) dNil)))))
@[irreducible] noncomputable def f_check_lots : Fn := runF 2 d_check_lots
theorem run_check_lots (a0 : W) : f_check_lots [a0] = bd (d_check_lots [some a0, none]) endF := by delta f_check_lots; rfl
theorem ok_check_lots (Z : Facts K mg) (B : TabsOk K mg base) {fd : FuncData} (F : FunD K "check_lots" "check_lots" (defArgs st_check_lots) (defBody st_check_lots) (defScope st_check_lots) [] [] (ga K "check_lots") fd) : FnOk P w K mg base (L2.CX P w) 10 (ga K "check_lots") fd ["thing"] (spF K ((tabs K).map (·.2)) (et K) 1 f_check_lots) := by
  obtain ⟨fd_lots_fault, F_lots_fault⟩ := Z.d_lots_fault
  have G_lots_fault := ok_lots_fault (P := P) (w := w) Z B F_lots_fault
  have b_lots_fault : Binds K fd_lots_fault ["thing"] [] := F_lots_fault.bindsN fun _ _ _ _ _ _ us hl => match us, hl with | [_], _ => rfl
  obtain ⟨fdI_BadLots, FI_BadLots⟩ := Z.d_BadLots
  have I_BadLots := ini_BadLots (P := P) (w := w) (base := base) Z FI_BadLots
  have bI_BadLots : Binds K fdI_BadLots ["self", "at", "word"] [] := FI_BadLots.bindsN fun _ _ _ _ _ _ us hl => match us, hl with | [_, _, _], _ => rfl
  have S := sc_check_lots
  obtain ⟨oc, od, dV, kV, doc, pm, an, cdv, ct, osl, rfl, lk, hcd, _, _⟩ := F.ex
  delta f_check_lots
  refine fn_mp lk hcd sc_check_lots (by decide) fun A outer s H E hr => ?_
  exact (pdss_cons (pds_set (i := 1) S.nd rfl (by first | exact Or.inl rfl | exact Or.inr rfl) (pd_call G_lots_fault takes_mp (hr.mono (by decide)) rfl Z.g_lots_fault F_lots_fault.kp b_lots_fault (pda_cons (pdv 0) pda_nil)) (hs := by kernel_rfl))
    (pdss_cons (pds_if (pdt_isnt (pdv 1) pd_non) (pdss_one (pds_raise Z.o_BadLots.1 Z.o_BadLots.2.1 Z.o_BadLots.2.2 rfl I_BadLots (hr.mono (by decide)) bI_BadLots passF rfl takes_mp rfl Z.g_BadLots (by decide) (pda_cons (pd_ixs (pdv 1) pd_int) (pda_cons (pd_ixs (pdv 1) pd_int) pda_nil)))) pdss_nil)
    (pdss_one (pds_ret (pd_len Z.b_len (pda_cons (pdv 0) pda_nil))))))
theorem sc_is_number : FnScope ["thing"] ["thing"] (defScope st_is_number) := ⟨rfl, rfl, rfl, by decide +kernel, rfl, by decide +kernel, by decide +kernel⟩
noncomputable def d_is_number : DS := (dRet (dAndV (dCall 1 (f_is_integer) (dCons (dVar 0) dNil)) (dOp wGe (dVar 0) (dC (.int 0)))))
@[irreducible] noncomputable def f_is_number : Fn := runF 1 d_is_number
theorem run_is_number (a0 : W) : f_is_number [a0] = bd (d_is_number [some a0]) endF := by delta f_is_number; rfl
theorem ok_is_number (Z : Facts K mg) (B : TabsOk K mg base) {fd : FuncData} (F : FunD K "is_number" "is_number" (defArgs st_is_number) (defBody st_is_number) (defScope st_is_number) [] [] (ga K "is_number") fd) : FnOk P w K mg base (L2.CX P w) 2 (ga K "is_number") fd ["thing"] (spF K ((tabs K).map (·.2)) (et K) 1 f_is_number) := by
  obtain ⟨fd_is_integer, F_is_integer⟩ := Z.d_is_integer
  have G_is_integer := ok_is_integer (P := P) (w := w) Z B F_is_integer
  have b_is_integer : Binds K fd_is_integer ["thing"] [] := F_is_integer.bindsN fun _ _ _ _ _ _ us hl => match us, hl with | [_], _ => rfl
  have S := sc_is_number
  obtain ⟨oc, od, dV, kV, doc, pm, an, cdv, ct, osl, rfl, lk, hcd, _, _⟩ := F.ex
  delta f_is_number
  refine fn_mp lk hcd sc_is_number (by decide) fun A outer s H E hr => ?_
  exact (pdss_one (pds_ret (pd_and (pd_call G_is_integer takes_mp (hr.mono (by decide)) rfl Z.g_is_integer F_is_integer.kp b_is_integer (pda_cons (pdv 0) pda_nil)) (pd_one (pd_ge (pdv 0) pd_int)))))
theorem sc_is_number_to : FnScope ["thing", "most"] ["thing", "most"] (defScope st_is_number_to) := ⟨rfl, rfl, rfl, by decide +kernel, rfl, by decide +kernel, by decide +kernel⟩
noncomputable def d_is_number_to : DS := (dRet (dAndV (dCall 1 (f_is_number) (dCons (dVar 0) dNil)) (dOp wLe (dVar 0) (dVar 1))))
@[irreducible] noncomputable def f_is_number_to : Fn := runF 2 d_is_number_to
theorem run_is_number_to (a0 a1 : W) : f_is_number_to [a0, a1] = bd (d_is_number_to [some a0, some a1]) endF := by delta f_is_number_to; rfl
theorem ok_is_number_to (Z : Facts K mg) (B : TabsOk K mg base) {fd : FuncData} (F : FunD K "is_number_to" "is_number_to" (defArgs st_is_number_to) (defBody st_is_number_to) (defScope st_is_number_to) [] [] (ga K "is_number_to") fd) : FnOk P w K mg base (L2.CX P w) 3 (ga K "is_number_to") fd ["thing", "most"] (spF K ((tabs K).map (·.2)) (et K) 2 f_is_number_to) := by
  obtain ⟨fd_is_number, F_is_number⟩ := Z.d_is_number
  have G_is_number := ok_is_number (P := P) (w := w) Z B F_is_number
  have b_is_number : Binds K fd_is_number ["thing"] [] := F_is_number.bindsN fun _ _ _ _ _ _ us hl => match us, hl with | [_], _ => rfl
  have S := sc_is_number_to
  obtain ⟨oc, od, dV, kV, doc, pm, an, cdv, ct, osl, rfl, lk, hcd, _, _⟩ := F.ex
  delta f_is_number_to
  refine fn_mp lk hcd sc_is_number_to (by decide) fun A outer s H E hr => ?_
  exact (pdss_one (pds_ret (pd_and (pd_call G_is_number takes_mp (hr.mono (by decide)) rfl Z.g_is_number F_is_number.kp b_is_number (pda_cons (pdv 0) pda_nil)) (pd_one (pd_le (pdv 0) (pdv 1))))))
theorem sc_counts_fault : FnScope ["sizes", "thing", "at", "size"] ["sizes", "thing"] (defScope st_counts_fault) := ⟨rfl, rfl, rfl, by decide +kernel, rfl, by decide +kernel, by decide +kernel⟩
noncomputable def d_counts_fault : DS := (dSeq (dIfS (dNot (dTru (dCall 2 (f_is_tuple) (dCons (dVar 1) (dCons (dCB (on1 wLen) (dCons (dVar 0) dNil)) dNil))))) (dRet (dUn wNeg (dC (.int 1)))) dNext)
    (dSeq (dFor (dEnumI (dCons (dVar 0) dNil)) (gT 2 (gCons' (gN 2) (gCons' (gN 3) gNil'))) (dIfS (dNot (dTru (dCall 2 (f_is_number_to) (dCons (dOp wIx (dVar 1) (dVar 2)) (dCons (dVar 3) dNil))))) (dRet (dVar 2)) dNext))
    (dRet (dC .non))))
@[irreducible] noncomputable def f_counts_fault : Fn := runF 4 d_counts_fault
theorem run_counts_fault (a0 a1 : W) : f_counts_fault [a0, a1] = bd (d_counts_fault [some a0, some a1, none, none]) endF := by delta f_counts_fault; rfl
theorem ok_counts_fault (Z : Facts K mg) (B : TabsOk K mg base) {fd : FuncData} (F : FunD K "counts_fault" "counts_fault" (defArgs st_counts_fault) (defBody st_counts_fault) (defScope st_counts_fault) [] [] (ga K "counts_fault") fd) : FnOk P w K mg base (L2.CX P w) 4 (ga K "counts_fault") fd ["sizes", "thing"] (spF K ((tabs K).map (·.2)) (et K) 2 f_counts_fault) := by
  obtain ⟨fd_is_number_to, F_is_number_to⟩ := Z.d_is_number_to
  have G_is_number_to := ok_is_number_to (P := P) (w := w) Z B F_is_number_to
  have b_is_number_to : Binds K fd_is_number_to ["thing", "most"] [] := F_is_number_to.bindsN fun _ _ _ _ _ _ us hl => match us, hl with | [_, _], _ => rfl
  obtain ⟨fd_is_tuple, F_is_tuple⟩ := Z.d_is_tuple
  have G_is_tuple := ok_is_tuple (P := P) (w := w) Z B F_is_tuple
  have b_is_tuple : Binds K fd_is_tuple ["thing", "many"] [] := F_is_tuple.bindsN fun _ _ _ _ _ _ us hl => match us, hl with | [_, _], _ => rfl
  have S := sc_counts_fault
  obtain ⟨oc, od, dV, kV, doc, pm, an, cdv, ct, osl, rfl, lk, hcd, _, _⟩ := F.ex
  delta f_counts_fault
  refine fn_mp lk hcd sc_counts_fault (by decide) fun A outer s H E hr => ?_
  exact (pdss_cons (pds_if (pdt_not (pdt_tru (pd_call G_is_tuple takes_mp (hr.mono (by decide)) rfl Z.g_is_tuple F_is_tuple.kp b_is_tuple (pda_cons (pdv 1) (pda_cons (pd_len Z.b_len (pda_cons (pdv 0) pda_nil)) pda_nil))))) (pdss_one (pds_ret (pd_neg pd_int))) pdss_nil)
    (pdss_cons (pds_for owns_mp rfl (pdi_enum rfl Z.b_enumerate (pda_cons (pdv 0) pda_nil)) (pdg_tup rfl (pdgs_cons (pdg_name (i := 2) S.nd rfl (by first | exact Or.inl rfl | exact Or.inr rfl)) (pdgs_cons (pdg_name (i := 3) S.nd rfl (by first | exact Or.inl rfl | exact Or.inr rfl)) pdgs_nil))) (pdss_one (pds_if (pdt_not (pdt_tru (pd_call G_is_number_to takes_mp (hr.mono (by decide)) rfl Z.g_is_number_to F_is_number_to.kp b_is_number_to (pda_cons (pd_ixs (pdv 1) (pdv 2)) (pda_cons (pdv 3) pda_nil))))) (pdss_one (pds_ret (pdv 2))) pdss_nil)))
    (pdss_one (pds_ret pd_non))))
theorem sc_sizes_of : FnScope ["lots", "word", "size"] ["lots"] (defScope st_sizes_of) := ⟨rfl, rfl, rfl, by decide +kernel, rfl, by decide +kernel, by decide +kernel⟩
noncomputable def d_sizes_of : DS := (dRet (dTupG (dSeqI (dVar 0)) (gT 2 (gCons' (gN 1) (gCons' (gN 2) gNil'))) dYes (dVar 2) [1, 2]))
@[irreducible] noncomputable def f_sizes_of : Fn := runF 3 d_sizes_of
theorem run_sizes_of (a0 : W) : f_sizes_of [a0] = bd (d_sizes_of [some a0, none, none]) endF := by delta f_sizes_of; rfl
theorem ok_sizes_of (Z : Facts K mg) (B : TabsOk K mg base) {fd : FuncData} (F : FunD K "sizes_of" "sizes_of" (defArgs st_sizes_of) (defBody st_sizes_of) (defScope st_sizes_of) [] [] (ga K "sizes_of") fd) : FnOk P w K mg base (L2.CX P w) 7 (ga K "sizes_of") fd ["lots"] (spF K ((tabs K).map (·.2)) (et K) 1 f_sizes_of) := by
  have S := sc_sizes_of
  obtain ⟨oc, od, dV, kV, doc, pm, an, cdv, ct, osl, rfl, lk, hcd, _, _⟩ := F.ex
  obtain ⟨c, Pt, ht, hn⟩ := Z.t_sizes_of
  obtain rfl : cdv = .ref c := tab_code ht hn lk
  have hmem : (c, Pt) ∈ tabs K := List.mem_filterMap.mpr ⟨"sizes_of", by decide, ht⟩
  have TB := B _ hmem
  have hPT : Pt ∈ (tabs K).map (·.2) := List.mem_map.mpr ⟨_, hmem, rfl⟩
  delta f_sizes_of
  refine fn_mp lk hcd sc_sizes_of (by decide) fun A outer s H E hr => ?_
  exact (pdss_one (pds_ret (pd_tupG (dg_of (own := [("word", 1), ("size", 2)]) (kr := 0) hPT (room_lt hr) TB rfl S.nd rfl rfl (nocell_ok (by kernel_rfl)) (blk_ok (by kernel_rfl)) (pdi_seq (pdv 0)) (fun _ _ _ _ _ _ _ _ hrg => (pdgo_tup rfl (pdgos_cons (pdgo_name (i := 1) S.nd rfl (by first | exact Or.inl rfl | exact Or.inr rfl) (by decide)) (pdgos_cons (pdgo_name (i := 2) S.nd rfl (by first | exact Or.inl rfl | exact Or.inr rfl) (by decide)) pdgos_nil)))) (fun _ _ _ _ _ _ _ _ hrg => pdts_nil) (fun _ _ _ _ _ _ _ _ hrg => (pdv 2))) (hr.mono (by decide)) rfl Z.b_tuple)))
theorem sc_check_counts : FnScope ["lots", "thing", "fault"] ["lots", "thing"] (defScope st_check_counts) := ⟨rfl, rfl, rfl, by decide +kernel, rfl, by decide +kernel, by decide +kernel⟩
noncomputable def d_check_counts : DS := (dSeq (dEx (dCall 1 (f_check_lots) (dCons (dVar 0) dNil)))
    (dSeq (dAsg (dCall 2 (f_counts_fault) (dCons (dCall 1 (f_sizes_of) (dCons (dVar 0) dNil)) (dCons (dVar 1) dNil))) (gN 2))
    (dSeq (dIfS (dB (dOp (wIsN true) (dVar 2) (dC .non))) (dRaise "BadCounts" ["at"] (dCons (dVar 2) dNil)) dNext)
    (dRet (dCB (on1 wSum) (dCons (dVar 1) dNil))))))
@[irreducible] noncomputable def f_check_counts : Fn := runF 3 d_check_counts
theorem run_check_counts (a0 a1 : W) : f_check_counts [a0, a1] = bd (d_check_counts [some a0, some a1, none]) endF := by delta f_check_counts; rfl
theorem ok_check_counts (Z : Facts K mg) (B : TabsOk K mg base) {fd : FuncData} (F : FunD K "check_counts" "check_counts" (defArgs st_check_counts) (defBody st_check_counts) (defScope st_check_counts) [] [] (ga K "check_counts") fd) : FnOk P w K mg base (L2.CX P w) 11 (ga K "check_counts") fd ["lots", "thing"] (spF K ((tabs K).map (·.2)) (et K) 2 f_check_counts) := by
  obtain ⟨fd_check_lots, F_check_lots⟩ := Z.d_check_lots
  have G_check_lots := ok_check_lots (P := P) (w := w) Z B F_check_lots
  have b_check_lots : Binds K fd_check_lots ["thing"] [] := F_check_lots.bindsN fun _ _ _ _ _ _ us hl => match us, hl with | [_], _ => rfl
  obtain ⟨fd_counts_fault, F_counts_fault⟩ := Z.d_counts_fault
  have G_counts_fault := ok_counts_fault (P := P) (w := w) Z B F_counts_fault
  have b_counts_fault : Binds K fd_counts_fault ["sizes", "thing"] [] := F_counts_fault.bindsN fun _ _ _ _ _ _ us hl => match us, hl with | [_, _], _ => rfl
  obtain ⟨fd_sizes_of, F_sizes_of⟩ := Z.d_sizes_of
  have G_sizes_of := ok_sizes_of (P := P) (w := w) Z B F_sizes_of
  have b_sizes_of : Binds K fd_sizes_of ["lots"] [] := F_sizes_of.bindsN fun _ _ _ _ _ _ us hl => match us, hl with | [_], _ => rfl
  obtain ⟨fdI_BadCounts, FI_BadCounts⟩ := Z.d_BadCounts
  have I_BadCounts := ini_BadCounts (P := P) (w := w) (base := base) Z FI_BadCounts
  have bI_BadCounts : Binds K fdI_BadCounts ["self", "at"] [] := FI_BadCounts.bindsN fun _ _ _ _ _ _ us hl => match us, hl with | [_, _], _ => rfl
  have S := sc_check_counts
  obtain ⟨oc, od, dV, kV, doc, pm, an, cdv, ct, osl, rfl, lk, hcd, _, _⟩ := F.ex
  delta f_check_counts
  refine fn_mp lk hcd sc_check_counts (by decide) fun A outer s H E hr => ?_
  exact (pdss_cons (pds_ex (pd_call G_check_lots takes_mp (hr.mono (by decide)) rfl Z.g_check_lots F_check_lots.kp b_check_lots (pda_cons (pdv 0) pda_nil)))
    (pdss_cons (pds_set (i := 2) S.nd rfl (by first | exact Or.inl rfl | exact Or.inr rfl) (pd_call G_counts_fault takes_mp (hr.mono (by decide)) rfl Z.g_counts_fault F_counts_fault.kp b_counts_fault (pda_cons (pd_call G_sizes_of takes_mp (hr.mono (by decide)) rfl Z.g_sizes_of F_sizes_of.kp b_sizes_of (pda_cons (pdv 0) pda_nil)) (pda_cons (pdv 1) pda_nil))) (hs := by kernel_rfl))
    (pdss_cons (pds_if (pdt_isnt (pdv 2) pd_non) (pdss_one (pds_raise Z.o_BadCounts.1 Z.o_BadCounts.2.1 Z.o_BadCounts.2.2 rfl I_BadCounts (hr.mono (by decide)) bI_BadCounts passF rfl takes_mp rfl Z.g_BadCounts (by decide) (pda_cons (pdv 2) pda_nil))) pdss_nil)
    (pdss_one (pds_ret (pd_sum rfl Z.b_sum (pda_cons (pdv 1) pda_nil)))))))
theorem sc_common_counts : FnScope ["sizes", "one", "two", "at", "size"] ["sizes", "one", "two"] (defScope st_common_counts) := ⟨rfl, rfl, rfl, by decide +kernel, rfl, by decide +kernel, by decide +kernel⟩
noncomputable def d_common_counts : DS := (dRet (dTupG (dEnumI (dCons (dVar 0) dNil)) (gT 2 (gCons' (gN 3) (gCons' (gN 4) gNil'))) dYes (dCB (on2 wMax2) (dCons (dC (.int 0)) (dCons (dOp wSub (dOp wAdd (dOp wIx (dVar 1) (dVar 3)) (dOp wIx (dVar 2) (dVar 3))) (dVar 4)) dNil))) [3, 4]))
@[irreducible] noncomputable def f_common_counts : Fn := runF 5 d_common_counts
theorem run_common_counts (a0 a1 a2 : W) : f_common_counts [a0, a1, a2] = bd (d_common_counts [some a0, some a1, some a2, none, none]) endF := by delta f_common_counts; rfl
theorem ok_common_counts (Z : Facts K mg) (B : TabsOk K mg base) {fd : FuncData} (F : FunD K "common_counts" "common_counts" (defArgs st_common_counts) (defBody st_common_counts) (defScope st_common_counts) [] [] (ga K "common_counts") fd) : FnOk P w K mg base (L2.CX P w) 7 (ga K "common_counts") fd ["sizes", "one", "two"] (spF K ((tabs K).map (·.2)) (et K) 3 f_common_counts) := by
  have S := sc_common_counts
  obtain ⟨oc, od, dV, kV, doc, pm, an, cdv, ct, osl, rfl, lk, hcd, _, _⟩ := F.ex
  obtain ⟨c, Pt, ht, hn⟩ := Z.t_common_counts
  obtain rfl : cdv = .ref c := tab_code ht hn lk
  have hmem : (c, Pt) ∈ tabs K := List.mem_filterMap.mpr ⟨"common_counts", by decide, ht⟩
  have TB := B _ hmem
  have hPT : Pt ∈ (tabs K).map (·.2) := List.mem_map.mpr ⟨_, hmem, rfl⟩
  delta f_common_counts
  refine fn_mp lk hcd sc_common_counts (by decide) fun A outer s H E hr => ?_
  exact (pdss_one (pds_ret (pd_tupG (dg_of (own := [("at", 3), ("size", 4)]) (kr := 0) hPT (room_lt hr) TB rfl S.nd rfl rfl (nocell_ok (by kernel_rfl)) (blk_ok (by kernel_rfl)) (pdi_enum rfl Z.b_enumerate (pda_cons (pdv 0) pda_nil)) (fun _ _ _ _ _ _ _ _ hrg => (pdgo_tup rfl (pdgos_cons (pdgo_name (i := 3) S.nd rfl (by first | exact Or.inl rfl | exact Or.inr rfl) (by decide)) (pdgos_cons (pdgo_name (i := 4) S.nd rfl (by first | exact Or.inl rfl | exact Or.inr rfl) (by decide)) pdgos_nil)))) (fun _ _ _ _ _ _ _ _ hrg => pdts_nil) (fun _ _ _ _ _ _ _ _ hrg => (pd_max2 rfl Z.b_max (pda_cons pd_int (pda_cons (pd_sub (pd_add (pd_ixs (pdv 1) (pdv 3)) (pd_ixs (pdv 2) (pdv 3))) (pdv 4)) pda_nil))))) (hr.mono (by decide)) rfl Z.b_tuple)))
theorem sc_least_common : FnScope ["lots", "one", "two"] ["lots", "one", "two"] (defScope st_least_common) := ⟨rfl, rfl, rfl, by decide +kernel, rfl, by decide +kernel, by decide +kernel⟩
noncomputable def d_least_common : DS := (dSeq (dEx (dCall 2 (f_check_counts) (dCons (dVar 0) (dCons (dVar 1) dNil))))
    (dSeq (dEx (dCall 2 (f_check_counts) (dCons (dVar 0) (dCons (dVar 2) dNil))))
    (dRet (dCall 3 (f_common_counts) (dCons (dCall 1 (f_sizes_of) (dCons (dVar 0) dNil)) (dCons (dVar 1) (dCons (dVar 2) dNil)))))))
@[irreducible] noncomputable def f_least_common : Fn := runF 3 d_least_common
theorem run_least_common (a0 a1 a2 : W) : f_least_common [a0, a1, a2] = bd (d_least_common [some a0, some a1, some a2]) endF := by delta f_least_common; rfl
theorem ok_least_common (Z : Facts K mg) (B : TabsOk K mg base) {fd : FuncData} (F : FunD K "least_common" "least_common" (defArgs st_least_common) (defBody st_least_common) (defScope st_least_common) [] [] (ga K "least_common") fd) : FnOk P w K mg base (L2.CX P w) 12 (ga K "least_common") fd ["lots", "one", "two"] (spF K ((tabs K).map (·.2)) (et K) 3 f_least_common) := by
  obtain ⟨fd_check_counts, F_check_counts⟩ := Z.d_check_counts
  have G_check_counts := ok_check_counts (P := P) (w := w) Z B F_check_counts
  have b_check_counts : Binds K fd_check_counts ["lots", "thing"] [] := F_check_counts.bindsN fun _ _ _ _ _ _ us hl => match us, hl with | [_, _], _ => rfl
  obtain ⟨fd_common_counts, F_common_counts⟩ := Z.d_common_counts
  have G_common_counts := ok_common_counts (P := P) (w := w) Z B F_common_counts
  have b_common_counts : Binds K fd_common_counts ["sizes", "one", "two"] [] := F_common_counts.bindsN fun _ _ _ _ _ _ us hl => match us, hl with | [_, _, _], _ => rfl
  obtain ⟨fd_sizes_of, F_sizes_of⟩ := Z.d_sizes_of
  have G_sizes_of := ok_sizes_of (P := P) (w := w) Z B F_sizes_of
  have b_sizes_of : Binds K fd_sizes_of ["lots"] [] := F_sizes_of.bindsN fun _ _ _ _ _ _ us hl => match us, hl with | [_], _ => rfl
  have S := sc_least_common
  obtain ⟨oc, od, dV, kV, doc, pm, an, cdv, ct, osl, rfl, lk, hcd, _, _⟩ := F.ex
  delta f_least_common
  refine fn_mp lk hcd sc_least_common (by decide) fun A outer s H E hr => ?_
  exact (pdss_cons (pds_ex (pd_call G_check_counts takes_mp (hr.mono (by decide)) rfl Z.g_check_counts F_check_counts.kp b_check_counts (pda_cons (pdv 0) (pda_cons (pdv 1) pda_nil))))
    (pdss_cons (pds_ex (pd_call G_check_counts takes_mp (hr.mono (by decide)) rfl Z.g_check_counts F_check_counts.kp b_check_counts (pda_cons (pdv 0) (pda_cons (pdv 2) pda_nil))))
    (pdss_one (pds_ret (pd_call G_common_counts takes_mp (hr.mono (by decide)) rfl Z.g_common_counts F_common_counts.kp b_common_counts (pda_cons (pd_call G_sizes_of takes_mp (hr.mono (by decide)) rfl Z.g_sizes_of F_sizes_of.kp b_sizes_of (pda_cons (pdv 0) pda_nil)) (pda_cons (pdv 1) (pda_cons (pdv 2) pda_nil))))))))
theorem sc_is_below : FnScope ["one", "two", "low", "high"] ["one", "two"] (defScope st_is_below) := ⟨rfl, rfl, rfl, by decide +kernel, rfl, by decide +kernel, by decide +kernel⟩
noncomputable def d_is_below : DS := (dSeq (dFor (dZipI (dCons (dVar 0) (dCons (dVar 1) dNil))) (gT 2 (gCons' (gN 2) (gCons' (gN 3) gNil'))) (dIfS (dB (dOp wGt (dVar 2) (dVar 3))) (dRet (dC (.bl false))) dNext))
    (dRet (dC (.bl true))))
@[irreducible] noncomputable def f_is_below : Fn := runF 4 d_is_below
theorem run_is_below (a0 a1 : W) : f_is_below [a0, a1] = bd (d_is_below [some a0, some a1, none, none]) endF := by delta f_is_below; rfl
theorem ok_is_below (Z : Facts K mg) (B : TabsOk K mg base) {fd : FuncData} (F : FunD K "is_below" "is_below" (defArgs st_is_below) (defBody st_is_below) (defScope st_is_below) [] [] (ga K "is_below") fd) : FnOk P w K mg base (L2.CX P w) 1 (ga K "is_below") fd ["one", "two"] (spF K ((tabs K).map (·.2)) (et K) 2 f_is_below) := by
  have S := sc_is_below
  obtain ⟨oc, od, dV, kV, doc, pm, an, cdv, ct, osl, rfl, lk, hcd, _, _⟩ := F.ex
  delta f_is_below
  refine fn_mp lk hcd sc_is_below (by decide) fun A outer s H E hr => ?_
  exact (pdss_cons (pds_for owns_mp rfl (pdi_zip rfl Z.b_zip (pda_cons (pdv 0) (pda_cons (pdv 1) pda_nil))) (pdg_tup rfl (pdgs_cons (pdg_name (i := 2) S.nd rfl (by first | exact Or.inl rfl | exact Or.inr rfl)) (pdgs_cons (pdg_name (i := 3) S.nd rfl (by first | exact Or.inl rfl | exact Or.inr rfl)) pdgs_nil))) (pdss_one (pds_if (pdt_gt (pdv 2) (pdv 3)) (pdss_one (pds_ret pd_bl)) pdss_nil)))
    (pdss_one (pds_ret pd_bl)))
theorem sc_below : FnScope ["lots", "one", "two"] ["lots", "one", "two"] (defScope st_below) := ⟨rfl, rfl, rfl, by decide +kernel, rfl, by decide +kernel, by decide +kernel⟩
noncomputable def d_below : DS := (dSeq (dEx (dCall 2 (f_check_counts) (dCons (dVar 0) (dCons (dVar 1) dNil))))
    (dSeq (dEx (dCall 2 (f_check_counts) (dCons (dVar 0) (dCons (dVar 2) dNil))))
    (dRet (dCall 2 (f_is_below) (dCons (dVar 1) (dCons (dVar 2) dNil))))))
@[irreducible] noncomputable def f_below : Fn := runF 3 d_below
theorem run_below (a0 a1 a2 : W) : f_below [a0, a1, a2] = bd (d_below [some a0, some a1, some a2]) endF := by delta f_below; rfl
theorem ok_below (Z : Facts K mg) (B : TabsOk K mg base) {fd : FuncData} (F : FunD K "below" "below" (defArgs st_below) (defBody st_below) (defScope st_below) [] [] (ga K "below") fd) : FnOk P w K mg base (L2.CX P w) 12 (ga K "below") fd ["lots", "one", "two"] (spF K ((tabs K).map (·.2)) (et K) 3 f_below) := by
  obtain ⟨fd_check_counts, F_check_counts⟩ := Z.d_check_counts
  have G_check_counts := ok_check_counts (P := P) (w := w) Z B F_check_counts
  have b_check_counts : Binds K fd_check_counts ["lots", "thing"] [] := F_check_counts.bindsN fun _ _ _ _ _ _ us hl => match us, hl with | [_, _], _ => rfl
  obtain ⟨fd_is_below, F_is_below⟩ := Z.d_is_below
  have G_is_below := ok_is_below (P := P) (w := w) Z B F_is_below
  have b_is_below : Binds K fd_is_below ["one", "two"] [] := F_is_below.bindsN fun _ _ _ _ _ _ us hl => match us, hl with | [_, _], _ => rfl
  have S := sc_below
  obtain ⟨oc, od, dV, kV, doc, pm, an, cdv, ct, osl, rfl, lk, hcd, _, _⟩ := F.ex
  delta f_below
  refine fn_mp lk hcd sc_below (by decide) fun A outer s H E hr => ?_
  exact (pdss_cons (pds_ex (pd_call G_check_counts takes_mp (hr.mono (by decide)) rfl Z.g_check_counts F_check_counts.kp b_check_counts (pda_cons (pdv 0) (pda_cons (pdv 1) pda_nil))))
    (pdss_cons (pds_ex (pd_call G_check_counts takes_mp (hr.mono (by decide)) rfl Z.g_check_counts F_check_counts.kp b_check_counts (pda_cons (pdv 0) (pda_cons (pdv 2) pda_nil))))
    (pdss_one (pds_ret (pd_call G_is_below takes_mp (hr.mono (by decide)) rfl Z.g_is_below F_is_below.kp b_is_below (pda_cons (pdv 1) (pda_cons (pdv 2) pda_nil)))))))
theorem sc_rest_counts : FnScope ["sizes", "counts", "at", "size"] ["sizes", "counts"] (defScope st_rest_counts) := ⟨rfl, rfl, rfl, by decide +kernel, rfl, by decide +kernel, by decide +kernel⟩
noncomputable def d_rest_counts : DS := (dRet (dTupG (dEnumI (dCons (dVar 0) dNil)) (gT 2 (gCons' (gN 2) (gCons' (gN 3) gNil'))) dYes (dOp wSub (dVar 3) (dOp wIx (dVar 1) (dVar 2))) [2, 3]))
@[irreducible] noncomputable def f_rest_counts : Fn := runF 4 d_rest_counts
theorem run_rest_counts (a0 a1 : W) : f_rest_counts [a0, a1] = bd (d_rest_counts [some a0, some a1, none, none]) endF := by delta f_rest_counts; rfl
theorem ok_rest_counts (Z : Facts K mg) (B : TabsOk K mg base) {fd : FuncData} (F : FunD K "rest_counts" "rest_counts" (defArgs st_rest_counts) (defBody st_rest_counts) (defScope st_rest_counts) [] [] (ga K "rest_counts") fd) : FnOk P w K mg base (L2.CX P w) 7 (ga K "rest_counts") fd ["sizes", "counts"] (spF K ((tabs K).map (·.2)) (et K) 2 f_rest_counts) := by
  have S := sc_rest_counts
  obtain ⟨oc, od, dV, kV, doc, pm, an, cdv, ct, osl, rfl, lk, hcd, _, _⟩ := F.ex
  obtain ⟨c, Pt, ht, hn⟩ := Z.t_rest_counts
  obtain rfl : cdv = .ref c := tab_code ht hn lk
  have hmem : (c, Pt) ∈ tabs K := List.mem_filterMap.mpr ⟨"rest_counts", by decide, ht⟩
  have TB := B _ hmem
  have hPT : Pt ∈ (tabs K).map (·.2) := List.mem_map.mpr ⟨_, hmem, rfl⟩
  delta f_rest_counts
  refine fn_mp lk hcd sc_rest_counts (by decide) fun A outer s H E hr => ?_
  exact (pdss_one (pds_ret (pd_tupG (dg_of (own := [("at", 2), ("size", 3)]) (kr := 0) hPT (room_lt hr) TB rfl S.nd rfl rfl (nocell_ok (by kernel_rfl)) (blk_ok (by kernel_rfl)) (pdi_enum rfl Z.b_enumerate (pda_cons (pdv 0) pda_nil)) (fun _ _ _ _ _ _ _ _ hrg => (pdgo_tup rfl (pdgos_cons (pdgo_name (i := 2) S.nd rfl (by first | exact Or.inl rfl | exact Or.inr rfl) (by decide)) (pdgos_cons (pdgo_name (i := 3) S.nd rfl (by first | exact Or.inl rfl | exact Or.inr rfl) (by decide)) pdgos_nil)))) (fun _ _ _ _ _ _ _ _ hrg => pdts_nil) (fun _ _ _ _ _ _ _ _ hrg => (pd_sub (pdv 3) (pd_ixs (pdv 1) (pdv 2))))) (hr.mono (by decide)) rfl Z.b_tuple)))
theorem sc_outside : FnScope ["lots", "counts"] ["lots", "counts"] (defScope st_outside) := ⟨rfl, rfl, rfl, by decide +kernel, rfl, by decide +kernel, by decide +kernel⟩
noncomputable def d_outside : DS := (dSeq (dEx (dCall 2 (f_check_counts) (dCons (dVar 0) (dCons (dVar 1) dNil))))
    (dRet (dCall 2 (f_rest_counts) (dCons (dCall 1 (f_sizes_of) (dCons (dVar 0) dNil)) (dCons (dVar 1) dNil)))))
@[irreducible] noncomputable def f_outside : Fn := runF 2 d_outside
theorem run_outside (a0 a1 : W) : f_outside [a0, a1] = bd (d_outside [some a0, some a1]) endF := by delta f_outside; rfl
theorem ok_outside (Z : Facts K mg) (B : TabsOk K mg base) {fd : FuncData} (F : FunD K "outside" "outside" (defArgs st_outside) (defBody st_outside) (defScope st_outside) [] [] (ga K "outside") fd) : FnOk P w K mg base (L2.CX P w) 12 (ga K "outside") fd ["lots", "counts"] (spF K ((tabs K).map (·.2)) (et K) 2 f_outside) := by
  obtain ⟨fd_check_counts, F_check_counts⟩ := Z.d_check_counts
  have G_check_counts := ok_check_counts (P := P) (w := w) Z B F_check_counts
  have b_check_counts : Binds K fd_check_counts ["lots", "thing"] [] := F_check_counts.bindsN fun _ _ _ _ _ _ us hl => match us, hl with | [_, _], _ => rfl
  obtain ⟨fd_rest_counts, F_rest_counts⟩ := Z.d_rest_counts
  have G_rest_counts := ok_rest_counts (P := P) (w := w) Z B F_rest_counts
  have b_rest_counts : Binds K fd_rest_counts ["sizes", "counts"] [] := F_rest_counts.bindsN fun _ _ _ _ _ _ us hl => match us, hl with | [_, _], _ => rfl
  obtain ⟨fd_sizes_of, F_sizes_of⟩ := Z.d_sizes_of
  have G_sizes_of := ok_sizes_of (P := P) (w := w) Z B F_sizes_of
  have b_sizes_of : Binds K fd_sizes_of ["lots"] [] := F_sizes_of.bindsN fun _ _ _ _ _ _ us hl => match us, hl with | [_], _ => rfl
  have S := sc_outside
  obtain ⟨oc, od, dV, kV, doc, pm, an, cdv, ct, osl, rfl, lk, hcd, _, _⟩ := F.ex
  delta f_outside
  refine fn_mp lk hcd sc_outside (by decide) fun A outer s H E hr => ?_
  exact (pdss_cons (pds_ex (pd_call G_check_counts takes_mp (hr.mono (by decide)) rfl Z.g_check_counts F_check_counts.kp b_check_counts (pda_cons (pdv 0) (pda_cons (pdv 1) pda_nil))))
    (pdss_one (pds_ret (pd_call G_rest_counts takes_mp (hr.mono (by decide)) rfl Z.g_rest_counts F_rest_counts.kp b_rest_counts (pda_cons (pd_call G_sizes_of takes_mp (hr.mono (by decide)) rfl Z.g_sizes_of F_sizes_of.kp b_sizes_of (pda_cons (pdv 0) pda_nil)) (pda_cons (pdv 1) pda_nil))))))
theorem sc_first_spans : FnScope ["spans", "many", "found", "left", "first", "end"] ["spans", "many"] (defScope st_first_spans) := ⟨rfl, rfl, rfl, by decide +kernel, rfl, by decide +kernel, by decide +kernel⟩
noncomputable def d_first_spans : DS := (dSeq (dAsg (dLst dNil) (gN 2))
    (dSeq (dAsg (dVar 1) (gN 3))
    (dSeq (dFor (dSeqI (dVar 0)) (gT 2 (gCons' (gN 4) (gCons' (gN 5) gNil'))) (dIfS (dB (dOp wGt (dVar 3) (dC (.int 0)))) (dSeq (dEx (tyW isL wApp (dVar 2) (dCons (dTup (dCons (dVar 4) (dCons (dCB (on2 wMin2) (dCons (dVar 5) (dCons (dOp wAdd (dVar 4) (dVar 3)) dNil))) dNil))) dNil)))
    (dAug 3 wSub (dOp wSub (dVar 5) (dVar 4)))) dNext))
    (dRet (dCB (on1 wTupOf) (dCons (dVar 2) dNil))))))
@[irreducible] noncomputable def f_first_spans : Fn := runF 6 d_first_spans
theorem run_first_spans (a0 a1 : W) : f_first_spans [a0, a1] = bd (d_first_spans [some a0, some a1, none, none, none, none]) endF := by delta f_first_spans; rfl
theorem ok_first_spans (Z : Facts K mg) (B : TabsOk K mg base) {fd : FuncData} (F : FunD K "first_spans" "first_spans" (defArgs st_first_spans) (defBody st_first_spans) (defScope st_first_spans) [] [] (ga K "first_spans") fd) : FnOk P w K mg base (L2.CX P w) 1 (ga K "first_spans") fd ["spans", "many"] (spF K ((tabs K).map (·.2)) (et K) 2 f_first_spans) := by
  have S := sc_first_spans
  obtain ⟨oc, od, dV, kV, doc, pm, an, cdv, ct, osl, rfl, lk, hcd, _, _⟩ := F.ex
  delta f_first_spans
  refine fn_mp lk hcd sc_first_spans (by decide) fun A outer s H E hr => ?_
  exact (pdss_cons (pds_set (i := 2) S.nd rfl (by first | exact Or.inl rfl | exact Or.inr rfl) (pd_lst pda_nil) (hs := by kernel_rfl))
    (pdss_cons (pds_set (i := 3) S.nd rfl (by first | exact Or.inl rfl | exact Or.inr rfl) (pdv 1) (hs := by kernel_rfl))
    (pdss_cons (pds_for owns_mp rfl (pdi_seq (pdv 0)) (pdg_tup rfl (pdgs_cons (pdg_name (i := 4) S.nd rfl (by first | exact Or.inl rfl | exact Or.inr rfl)) (pdgs_cons (pdg_name (i := 5) S.nd rfl (by first | exact Or.inl rfl | exact Or.inr rfl)) pdgs_nil))) (pdss_one (pds_if (pdt_gt (pdv 3) pd_int) (pdss_cons (pds_ex (pd_append (pdv 2) (pda_cons (pd_tup (pda_cons (pdv 4) (pda_cons (pd_min2 rfl Z.b_min (pda_cons (pdv 5) (pda_cons (pd_add (pdv 4) (pdv 3)) pda_nil))) pda_nil))) pda_nil)))
    (pdss_one (pds_isub (i := 3) S.nd rfl (by first | exact Or.inl rfl | exact Or.inr rfl) (pd_sub (pdv 5) (pdv 4))))) pdss_nil)))
    (pdss_one (pds_ret (pd_tupC Z.b_tuple (pda_cons (pdv 2) pda_nil)))))))
theorem sc_first_houses : FnScope ["lots", "counts", "at", "lot"] ["lots", "counts"] (defScope st_first_houses) := ⟨rfl, rfl, rfl, by decide +kernel, rfl, by decide +kernel, by decide +kernel⟩
noncomputable def d_first_houses : DS := (dSeq (dEx (dCall 2 (f_check_counts) (dCons (dVar 0) (dCons (dVar 1) dNil))))
    (dRet (dTupG (dEnumI (dCons (dVar 0) dNil)) (gT 2 (gCons' (gN 2) (gCons' (gN 3) gNil'))) dYes (dCall 2 (f_first_spans) (dCons (dTup (dCons (dTup (dCons (dC (.int 0)) (dCons (dOp wIx (dVar 3) (dC (.int 1))) dNil))) dNil)) (dCons (dOp wIx (dVar 1) (dVar 2)) dNil))) [2, 3])))
@[irreducible] noncomputable def f_first_houses : Fn := runF 4 d_first_houses
theorem run_first_houses (a0 a1 : W) : f_first_houses [a0, a1] = bd (d_first_houses [some a0, some a1, none, none]) endF := by delta f_first_houses; rfl
theorem ok_first_houses (Z : Facts K mg) (B : TabsOk K mg base) {fd : FuncData} (F : FunD K "first_houses" "first_houses" (defArgs st_first_houses) (defBody st_first_houses) (defScope st_first_houses) [] [] (ga K "first_houses") fd) : FnOk P w K mg base (L2.CX P w) 12 (ga K "first_houses") fd ["lots", "counts"] (spF K ((tabs K).map (·.2)) (et K) 2 f_first_houses) := by
  obtain ⟨fd_check_counts, F_check_counts⟩ := Z.d_check_counts
  have G_check_counts := ok_check_counts (P := P) (w := w) Z B F_check_counts
  have b_check_counts : Binds K fd_check_counts ["lots", "thing"] [] := F_check_counts.bindsN fun _ _ _ _ _ _ us hl => match us, hl with | [_, _], _ => rfl
  obtain ⟨fd_first_spans, F_first_spans⟩ := Z.d_first_spans
  have G_first_spans := ok_first_spans (P := P) (w := w) Z B F_first_spans
  have b_first_spans : Binds K fd_first_spans ["spans", "many"] [] := F_first_spans.bindsN fun _ _ _ _ _ _ us hl => match us, hl with | [_, _], _ => rfl
  have S := sc_first_houses
  obtain ⟨oc, od, dV, kV, doc, pm, an, cdv, ct, osl, rfl, lk, hcd, _, _⟩ := F.ex
  obtain ⟨c, Pt, ht, hn⟩ := Z.t_first_houses
  obtain rfl : cdv = .ref c := tab_code ht hn lk
  have hmem : (c, Pt) ∈ tabs K := List.mem_filterMap.mpr ⟨"first_houses", by decide, ht⟩
  have TB := B _ hmem
  have hPT : Pt ∈ (tabs K).map (·.2) := List.mem_map.mpr ⟨_, hmem, rfl⟩
  delta f_first_houses
  refine fn_mp lk hcd sc_first_houses (by decide) fun A outer s H E hr => ?_
  exact (pdss_cons (pds_ex (pd_call G_check_counts takes_mp (hr.mono (by decide)) rfl Z.g_check_counts F_check_counts.kp b_check_counts (pda_cons (pdv 0) (pda_cons (pdv 1) pda_nil))))
    (pdss_one (pds_ret (pd_tupG (dg_of (own := [("at", 2), ("lot", 3)]) (kr := 1) hPT (room_lt hr) TB rfl S.nd rfl rfl (nocell_ok (by kernel_rfl)) (blk_ok (by kernel_rfl)) (pdi_enum rfl Z.b_enumerate (pda_cons (pdv 0) pda_nil)) (fun _ _ _ _ _ _ _ _ hrg => (pdgo_tup rfl (pdgos_cons (pdgo_name (i := 2) S.nd rfl (by first | exact Or.inl rfl | exact Or.inr rfl) (by decide)) (pdgos_cons (pdgo_name (i := 3) S.nd rfl (by first | exact Or.inl rfl | exact Or.inr rfl) (by decide)) pdgos_nil)))) (fun _ _ _ _ _ _ _ _ hrg => pdts_nil) (fun _ _ _ _ _ _ _ _ hrg => (pd_call G_first_spans noWT (hrg.mono (by decide)) rfl Z.g_first_spans F_first_spans.kp b_first_spans (pda_cons (pd_tup (pda_cons (pd_tup (pda_cons pd_int (pda_cons (pd_ixs (pdv 3) pd_int) pda_nil))) pda_nil)) (pda_cons (pd_ixs (pdv 1) (pdv 2)) pda_nil))))) (hr.mono (by decide)) rfl Z.b_tuple))))
theorem sc_everyone : FnScope ["lots"] ["lots"] (defScope st_everyone) := ⟨rfl, rfl, rfl, by decide +kernel, rfl, by decide +kernel, by decide +kernel⟩
noncomputable def d_everyone : DS := (dSeq (dEx (dCall 1 (f_check_lots) (dCons (dVar 0) dNil)))
    (dRet (dCall 1 (f_sizes_of) (dCons (dVar 0) dNil))))
@[irreducible] noncomputable def f_everyone : Fn := runF 1 d_everyone
theorem run_everyone (a0 : W) : f_everyone [a0] = bd (d_everyone [some a0]) endF := by delta f_everyone; rfl
theorem ok_everyone (Z : Facts K mg) (B : TabsOk K mg base) {fd : FuncData} (F : FunD K "everyone" "everyone" (defArgs st_everyone) (defBody st_everyone) (defScope st_everyone) [] [] (ga K "everyone") fd) : FnOk P w K mg base (L2.CX P w) 11 (ga K "everyone") fd ["lots"] (spF K ((tabs K).map (·.2)) (et K) 1 f_everyone) := by
  obtain ⟨fd_check_lots, F_check_lots⟩ := Z.d_check_lots
  have G_check_lots := ok_check_lots (P := P) (w := w) Z B F_check_lots
  have b_check_lots : Binds K fd_check_lots ["thing"] [] := F_check_lots.bindsN fun _ _ _ _ _ _ us hl => match us, hl with | [_], _ => rfl
  obtain ⟨fd_sizes_of, F_sizes_of⟩ := Z.d_sizes_of
  have G_sizes_of := ok_sizes_of (P := P) (w := w) Z B F_sizes_of
  have b_sizes_of : Binds K fd_sizes_of ["lots"] [] := F_sizes_of.bindsN fun _ _ _ _ _ _ us hl => match us, hl with | [_], _ => rfl
  have S := sc_everyone
  obtain ⟨oc, od, dV, kV, doc, pm, an, cdv, ct, osl, rfl, lk, hcd, _, _⟩ := F.ex
  delta f_everyone
  refine fn_mp lk hcd sc_everyone (by decide) fun A outer s H E hr => ?_
  exact (pdss_cons (pds_ex (pd_call G_check_lots takes_mp (hr.mono (by decide)) rfl Z.g_check_lots F_check_lots.kp b_check_lots (pda_cons (pdv 0) pda_nil)))
    (pdss_one (pds_ret (pd_call G_sizes_of takes_mp (hr.mono (by decide)) rfl Z.g_sizes_of F_sizes_of.kp b_sizes_of (pda_cons (pdv 0) pda_nil)))))
theorem sc_nobody : FnScope ["lots"] ["lots"] (defScope st_nobody) := ⟨rfl, rfl, rfl, by decide +kernel, rfl, by decide +kernel, by decide +kernel⟩
noncomputable def d_nobody : DS := (dRet (dOp wMul (dTup (dCons (dC (.int 0)) dNil)) (dCall 1 (f_check_lots) (dCons (dVar 0) dNil))))
@[irreducible] noncomputable def f_nobody : Fn := runF 1 d_nobody
theorem run_nobody (a0 : W) : f_nobody [a0] = bd (d_nobody [some a0]) endF := by delta f_nobody; rfl
theorem ok_nobody (Z : Facts K mg) (B : TabsOk K mg base) {fd : FuncData} (F : FunD K "nobody" "nobody" (defArgs st_nobody) (defBody st_nobody) (defScope st_nobody) [] [] (ga K "nobody") fd) : FnOk P w K mg base (L2.CX P w) 11 (ga K "nobody") fd ["lots"] (spF K ((tabs K).map (·.2)) (et K) 1 f_nobody) := by
  obtain ⟨fd_check_lots, F_check_lots⟩ := Z.d_check_lots
  have G_check_lots := ok_check_lots (P := P) (w := w) Z B F_check_lots
  have b_check_lots : Binds K fd_check_lots ["thing"] [] := F_check_lots.bindsN fun _ _ _ _ _ _ us hl => match us, hl with | [_], _ => rfl
  have S := sc_nobody
  obtain ⟨oc, od, dV, kV, doc, pm, an, cdv, ct, osl, rfl, lk, hcd, _, _⟩ := F.ex
  delta f_nobody
  refine fn_mp lk hcd sc_nobody (by decide) fun A outer s H E hr => ?_
  exact (pdss_one (pds_ret (pd_mul (pd_tup (pda_cons pd_int pda_nil)) (pd_call G_check_lots takes_mp (hr.mono (by decide)) rfl Z.g_check_lots F_check_lots.kp b_check_lots (pda_cons (pdv 0) pda_nil)))))
theorem sc_u_law_told : FnScope ["which", "lots", "one", "two", "told", "unlike", "wrong"] ["which", "lots", "one", "two"] (defScope st_u_law_told) := ⟨rfl, rfl, rfl, by decide +kernel, rfl, by decide +kernel, by decide +kernel⟩
noncomputable def d_u_law_told : DS := (dSeq (dTry (dIfS (dB (dOp wEq (dVar 0) (dC (.str "least")))) (dAsg (dCall 3 (f_least_common) (dCons (dVar 1) (dCons (dVar 2) (dCons (dVar 3) dNil)))) (gN 4)) (dIfS (dB (dOp wEq (dVar 0) (dC (.str "below")))) (dAsg (dCall 3 (f_below) (dCons (dVar 1) (dCons (dVar 2) (dCons (dVar 3) dNil)))) (gN 4)) (dIfS (dB (dOp wEq (dVar 0) (dC (.str "outside")))) (dAsg (dCall 2 (f_outside) (dCons (dVar 1) (dCons (dVar 2) dNil))) (gN 4)) (dIfS (dB (dOp wEq (dVar 0) (dC (.str "first")))) (dAsg (dCall 2 (f_first_houses) (dCons (dVar 1) (dCons (dVar 2) dNil))) (gN 4)) (dIfS (dB (dOp wEq (dVar 0) (dC (.str "everyone")))) (dAsg (dCall 1 (f_everyone) (dCons (dVar 1) dNil)) (gN 4)) (dAsg (dCall 1 (f_nobody) (dCons (dVar 1) dNil)) (gN 4))))))) [⟨mt_BadLots, fun c n S => match ((dRet (dTup (dCons (dC (.str "lots")) (dCons (fun _ => fldOf n "at") (dCons (fun _ => fldOf n "word") dNil))))) []) S with | .ok f S' => .ok (dropFl 5 f) S' | r => r⟩, ⟨mt_BadCounts, fun c n S => match ((dRet (dTup (dCons (dC (.str "counts")) (dCons (fun _ => fldOf n "at") dNil)))) []) S with | .ok f S' => .ok (dropFl 6 f) S' | r => r⟩, ⟨mt_AssentError, fun _ _ => (dRet (dTup (dCons (dC (.str "other")) dNil))) (List.replicate 7 none)⟩])
    (dRet (dTup (dCons (dC (.str "told")) (dCons (dVar 4) dNil)))))
@[irreducible] noncomputable def f_u_law_told : Fn := runF 7 d_u_law_told
theorem run_u_law_told (a0 a1 a2 a3 : W) : f_u_law_told [a0, a1, a2, a3] = bd (d_u_law_told [some a0, some a1, some a2, some a3, none, none, none]) endF := by delta f_u_law_told; rfl
theorem ok_u_law_told (Z : Facts K mg) (B : TabsOk K mg base) {fd : FuncData} (F : FunD K "_law_told" "_law_told" (defArgs st_u_law_told) (defBody st_u_law_told) (defScope st_u_law_told) [] [] (ga K "_law_told") fd) : FnOk P w K mg base (L2.CX P w) 13 (ga K "_law_told") fd ["which", "lots", "one", "two"] (spF K ((tabs K).map (·.2)) (et K) 4 f_u_law_told) := by
  obtain ⟨fd_below, F_below⟩ := Z.d_below
  have G_below := ok_below (P := P) (w := w) Z B F_below
  have b_below : Binds K fd_below ["lots", "one", "two"] [] := F_below.bindsN fun _ _ _ _ _ _ us hl => match us, hl with | [_, _, _], _ => rfl
  obtain ⟨fd_everyone, F_everyone⟩ := Z.d_everyone
  have G_everyone := ok_everyone (P := P) (w := w) Z B F_everyone
  have b_everyone : Binds K fd_everyone ["lots"] [] := F_everyone.bindsN fun _ _ _ _ _ _ us hl => match us, hl with | [_], _ => rfl
  obtain ⟨fd_first_houses, F_first_houses⟩ := Z.d_first_houses
  have G_first_houses := ok_first_houses (P := P) (w := w) Z B F_first_houses
  have b_first_houses : Binds K fd_first_houses ["lots", "counts"] [] := F_first_houses.bindsN fun _ _ _ _ _ _ us hl => match us, hl with | [_, _], _ => rfl
  obtain ⟨fd_least_common, F_least_common⟩ := Z.d_least_common
  have G_least_common := ok_least_common (P := P) (w := w) Z B F_least_common
  have b_least_common : Binds K fd_least_common ["lots", "one", "two"] [] := F_least_common.bindsN fun _ _ _ _ _ _ us hl => match us, hl with | [_, _, _], _ => rfl
  obtain ⟨fd_nobody, F_nobody⟩ := Z.d_nobody
  have G_nobody := ok_nobody (P := P) (w := w) Z B F_nobody
  have b_nobody : Binds K fd_nobody ["lots"] [] := F_nobody.bindsN fun _ _ _ _ _ _ us hl => match us, hl with | [_], _ => rfl
  obtain ⟨fd_outside, F_outside⟩ := Z.d_outside
  have G_outside := ok_outside (P := P) (w := w) Z B F_outside
  have b_outside : Binds K fd_outside ["lots", "counts"] [] := F_outside.bindsN fun _ _ _ _ _ _ us hl => match us, hl with | [_, _], _ => rfl
  have S := sc_u_law_told
  obtain ⟨oc, od, dV, kV, doc, pm, an, cdv, ct, osl, rfl, lk, hcd, _, _⟩ := F.ex
  delta f_u_law_told
  refine fn_mp lk hcd sc_u_law_told (by decide) fun A outer s H E hr => ?_
  exact (pdss_cons (pds_try rfl rfl takes_mp (fun Wt pn xe tkT poT => (pdss_one (pds_if (pdt_eq (pdv 0) pd_str) (pdss_one (pds_set (i := 4) S.nd rfl (by first | exact Or.inl rfl | exact Or.inr rfl) (pd_call G_least_common tkT (hr.mono (by decide)) rfl Z.g_least_common F_least_common.kp b_least_common (pda_cons (pdv 1) (pda_cons (pdv 2) (pda_cons (pdv 3) pda_nil)))) (hs := by kernel_rfl))) (pdss_one (pds_if (pdt_eq (pdv 0) pd_str) (pdss_one (pds_set (i := 4) S.nd rfl (by first | exact Or.inl rfl | exact Or.inr rfl) (pd_call G_below tkT (hr.mono (by decide)) rfl Z.g_below F_below.kp b_below (pda_cons (pdv 1) (pda_cons (pdv 2) (pda_cons (pdv 3) pda_nil)))) (hs := by kernel_rfl))) (pdss_one (pds_if (pdt_eq (pdv 0) pd_str) (pdss_one (pds_set (i := 4) S.nd rfl (by first | exact Or.inl rfl | exact Or.inr rfl) (pd_call G_outside tkT (hr.mono (by decide)) rfl Z.g_outside F_outside.kp b_outside (pda_cons (pdv 1) (pda_cons (pdv 2) pda_nil))) (hs := by kernel_rfl))) (pdss_one (pds_if (pdt_eq (pdv 0) pd_str) (pdss_one (pds_set (i := 4) S.nd rfl (by first | exact Or.inl rfl | exact Or.inr rfl) (pd_call G_first_houses tkT (hr.mono (by decide)) rfl Z.g_first_houses F_first_houses.kp b_first_houses (pda_cons (pdv 1) (pda_cons (pdv 2) pda_nil))) (hs := by kernel_rfl))) (pdss_one (pds_if (pdt_eq (pdv 0) pd_str) (pdss_one (pds_set (i := 4) S.nd rfl (by first | exact Or.inl rfl | exact Or.inr rfl) (pd_call G_everyone tkT (hr.mono (by decide)) rfl Z.g_everyone F_everyone.kp b_everyone (pda_cons (pdv 1) pda_nil)) (hs := by kernel_rfl))) (pdss_one (pds_set (i := 4) S.nd rfl (by first | exact Or.inl rfl | exact Or.inr rfl) (pd_call G_nobody tkT (hr.mono (by decide)) rfl Z.g_nobody F_nobody.kp b_nobody (pda_cons (pdv 1) pda_nil)) (hs := by kernel_rfl)))))))))))))) (DCl.named (mt := mt_BadLots) (ds := fun a d c n => (dRet (dTup (dCons (dC (.str "lots")) (dCons (dXf 5 a d c n "at") (dCons (dXf 5 a d c n "word") dNil)))))) (dr := fun c n => (dRet (dTup (dCons (dC (.str "lots")) (dCons (fun _ => fldOf n "at") (dCons (fun _ => fldOf n "word") dNil))))) []) ⟨rfl, by decide, .inl Z.g_BadLots⟩ (Z.m_BadLots) S.nd rfl rfl (fun a d C c n oe pn hET hC hz hf => (pdss_one (pds_ret (pd_tup (pda_cons pd_str (pda_cons (pd_xf (X := cxOf (L2.CX P w) P w K mg base _ _ _ _ _ A outer s H E) (i := 5) hET (Z.x_BadLots hET hC) (Z.n_BadLots_at hET hC) hz hf rfl (by first | exact Or.inl rfl | exact Or.inr (Or.inl rfl))) (pda_cons (pd_xf (X := cxOf (L2.CX P w) P w K mg base _ _ _ _ _ A outer s H E) (i := 5) hET (Z.x_BadLots hET hC) (Z.n_BadLots_word hET hC) hz hf rfl (by first | exact Or.inl rfl | exact Or.inr (Or.inl rfl))) pda_nil))))))) (by intro a d c n ρ h; simp only [dRet, dTup, dCons, dNil, dC, dXf_at h]) (DCl.named (mt := mt_BadCounts) (ds := fun a d c n => (dRet (dTup (dCons (dC (.str "counts")) (dCons (dXf 6 a d c n "at") dNil))))) (dr := fun c n => (dRet (dTup (dCons (dC (.str "counts")) (dCons (fun _ => fldOf n "at") dNil)))) []) ⟨rfl, by decide, .inl Z.g_BadCounts⟩ (Z.m_BadCounts) S.nd rfl rfl (fun a d C c n oe pn hET hC hz hf => (pdss_one (pds_ret (pd_tup (pda_cons pd_str (pda_cons (pd_xf (X := cxOf (L2.CX P w) P w K mg base _ _ _ _ _ A outer s H E) (i := 6) hET (Z.x_BadCounts hET hC) (Z.n_BadCounts_at hET hC) hz hf rfl (by first | exact Or.inl rfl | exact Or.inr (Or.inl rfl))) pda_nil)))))) (by intro a d c n ρ h; simp only [dRet, dTup, dCons, dNil, dC, dXf_at h]) (DCl.bare (mt := mt_AssentError) (ds := (dRet (dTup (dCons (dC (.str "other")) dNil)))) ⟨rfl, by decide, .inl Z.g_AssentError⟩ (Z.m_AssentError) (fun a oe pn => (pdss_one (pds_ret (pd_tup (pda_cons pd_str pda_nil))))) DCl.nil))))
    (pdss_one (pds_ret (pd_tup (pda_cons pd_str (pda_cons (pdv 4) pda_nil))))))
theorem sc_u_law_part : FnScope ["lots", "one", "two", "at"] ["lots", "one", "two"] (defScope st_u_law_part) := ⟨rfl, rfl, rfl, by decide +kernel, rfl, by decide +kernel, by decide +kernel⟩
noncomputable def d_u_law_part : DS := (dRet (dCB (on1 wTupOf) (dCons (dLc (dRng1 (dCons (dCB (on1 wLen) (dCons (dVar 0) dNil)) dNil)) (gN 3) dYes (dCB (on2 wMax2) (dCons (dC (.int 0)) (dCons (dOp wSub (dOp wAdd (dOp wIx (dVar 1) (dVar 3)) (dOp wIx (dVar 2) (dVar 3))) (dOp wIx (dOp wIx (dVar 0) (dVar 3)) (dC (.int 1)))) dNil))) [3]) dNil)))
@[irreducible] noncomputable def f_u_law_part : Fn := runF 4 d_u_law_part
theorem run_u_law_part (a0 a1 a2 : W) : f_u_law_part [a0, a1, a2] = bd (d_u_law_part [some a0, some a1, some a2, none]) endF := by delta f_u_law_part; rfl
theorem ok_u_law_part (Z : Facts K mg) (B : TabsOk K mg base) {fd : FuncData} (F : FunD K "_law_part" "_law_part" (defArgs st_u_law_part) (defBody st_u_law_part) (defScope st_u_law_part) [] [] (ga K "_law_part") fd) : FnOk P w K mg base (L2.CX P w) 1 (ga K "_law_part") fd ["lots", "one", "two"] (spF K ((tabs K).map (·.2)) (et K) 3 f_u_law_part) := by
  have S := sc_u_law_part
  obtain ⟨oc, od, dV, kV, doc, pm, an, cdv, ct, osl, rfl, lk, hcd, _, _⟩ := F.ex
  delta f_u_law_part
  refine fn_mp lk hcd sc_u_law_part (by decide) fun A outer s H E hr => ?_
  exact (pdss_one (pds_ret (pd_tupC Z.b_tuple (pda_cons (pd_lc (own := [("at", 3)]) rfl S.nd (pdi_range1 rfl Z.b_range (pda_cons (pd_len Z.b_len (pda_cons (pdv 0) pda_nil)) pda_nil)) (blk_ok (by kernel_rfl)) (fun _ _ _ _ _ => (pdgo_name (i := 3) S.nd rfl (by first | exact Or.inl rfl | exact Or.inr rfl) (by decide))) (fun _ _ _ _ _ => pdts_nil) (fun _ _ _ _ _ => (pd_max2 rfl Z.b_max (pda_cons pd_int (pda_cons (pd_sub (pd_add (pd_ixs (pdv 1) (pdv 3)) (pd_ixs (pdv 2) (pdv 3))) (pd_ixs (pd_ixs (pdv 0) (pdv 3)) pd_int)) pda_nil))))) pda_nil))))
theorem sc_u_law_ask_least : FnScope ["lots", "one", "two", "due"] ["lots", "one", "two"] (defScope st_u_law_ask_least) := ⟨rfl, rfl, rfl, by decide +kernel, rfl, by decide +kernel, by decide +kernel⟩
noncomputable def d_u_law_ask_least : DS := (dSeq (dAsg (dCall 3 (f_u_law_part) (dCons (dVar 0) (dCons (dVar 1) (dCons (dVar 2) dNil)))) (gN 3))
    (dSeq (dIfS (dNot (dTru (dCall 2 (f_u_law_same) (dCons (dCall 4 (f_u_law_told) (dCons (dC (.str "least")) (dCons (dVar 0) (dCons (dVar 1) (dCons (dVar 2) dNil))))) (dCons (dTup (dCons (dC (.str "told")) (dCons (dVar 3) dNil))) dNil))))) (dRet (dC (.bl false))) dNext)
    (dRet (dCall 2 (f_u_law_same) (dCons (dCall 4 (f_u_law_told) (dCons (dC (.str "least")) (dCons (dVar 0) (dCons (dVar 2) (dCons (dVar 1) dNil))))) (dCons (dTup (dCons (dC (.str "told")) (dCons (dVar 3) dNil))) dNil))))))
@[irreducible] noncomputable def f_u_law_ask_least : Fn := runF 4 d_u_law_ask_least
theorem run_u_law_ask_least (a0 a1 a2 : W) : f_u_law_ask_least [a0, a1, a2] = bd (d_u_law_ask_least [some a0, some a1, some a2, none]) endF := by delta f_u_law_ask_least; rfl
theorem ok_u_law_ask_least (Z : Facts K mg) (B : TabsOk K mg base) {fd : FuncData} (F : FunD K "_law_ask_least" "_law_ask_least" (defArgs st_u_law_ask_least) (defBody st_u_law_ask_least) (defScope st_u_law_ask_least) [] [] (ga K "_law_ask_least") fd) : FnOk P w K mg base (L2.CX P w) 14 (ga K "_law_ask_least") fd ["lots", "one", "two"] (spF K ((tabs K).map (·.2)) (et K) 3 f_u_law_ask_least) := by
  obtain ⟨fd_u_law_part, F_u_law_part⟩ := Z.d_u_law_part
  have G_u_law_part := ok_u_law_part (P := P) (w := w) Z B F_u_law_part
  have b_u_law_part : Binds K fd_u_law_part ["lots", "one", "two"] [] := F_u_law_part.bindsN fun _ _ _ _ _ _ us hl => match us, hl with | [_, _, _], _ => rfl
  obtain ⟨fd_u_law_same, F_u_law_same⟩ := Z.d_u_law_same
  have G_u_law_same := ok_u_law_same (P := P) (w := w) Z B F_u_law_same
  have b_u_law_same : Binds K fd_u_law_same ["told", "due"] [] := F_u_law_same.bindsN fun _ _ _ _ _ _ us hl => match us, hl with | [_, _], _ => rfl
  obtain ⟨fd_u_law_told, F_u_law_told⟩ := Z.d_u_law_told
  have G_u_law_told := ok_u_law_told (P := P) (w := w) Z B F_u_law_told
  have b_u_law_told : Binds K fd_u_law_told ["which", "lots", "one", "two"] [] := F_u_law_told.bindsN fun _ _ _ _ _ _ us hl => match us, hl with | [_, _, _, _], _ => rfl
  have S := sc_u_law_ask_least
  obtain ⟨oc, od, dV, kV, doc, pm, an, cdv, ct, osl, rfl, lk, hcd, _, _⟩ := F.ex
  delta f_u_law_ask_least
  refine fn_mp lk hcd sc_u_law_ask_least (by decide) fun A outer s H E hr => ?_
  exact (pdss_cons (pds_set (i := 3) S.nd rfl (by first | exact Or.inl rfl | exact Or.inr rfl) (pd_call G_u_law_part takes_mp (hr.mono (by decide)) rfl Z.g_u_law_part F_u_law_part.kp b_u_law_part (pda_cons (pdv 0) (pda_cons (pdv 1) (pda_cons (pdv 2) pda_nil)))) (hs := by kernel_rfl))
    (pdss_cons (pds_if (pdt_not (pdt_tru (pd_call G_u_law_same takes_mp (hr.mono (by decide)) rfl Z.g_u_law_same F_u_law_same.kp b_u_law_same (pda_cons (pd_call G_u_law_told takes_mp (hr.mono (by decide)) rfl Z.g_u_law_told F_u_law_told.kp b_u_law_told (pda_cons pd_str (pda_cons (pdv 0) (pda_cons (pdv 1) (pda_cons (pdv 2) pda_nil))))) (pda_cons (pd_tup (pda_cons pd_str (pda_cons (pdv 3) pda_nil))) pda_nil))))) (pdss_one (pds_ret pd_bl)) pdss_nil)
    (pdss_one (pds_ret (pd_call G_u_law_same takes_mp (hr.mono (by decide)) rfl Z.g_u_law_same F_u_law_same.kp b_u_law_same (pda_cons (pd_call G_u_law_told takes_mp (hr.mono (by decide)) rfl Z.g_u_law_told F_u_law_told.kp b_u_law_told (pda_cons pd_str (pda_cons (pdv 0) (pda_cons (pdv 2) (pda_cons (pdv 1) pda_nil))))) (pda_cons (pd_tup (pda_cons pd_str (pda_cons (pdv 3) pda_nil))) pda_nil)))))))
theorem sc_u_law_is_below : FnScope ["one", "two", "at"] ["one", "two"] (defScope st_u_law_is_below) := ⟨rfl, rfl, rfl, by decide +kernel, rfl, by decide +kernel, by decide +kernel⟩
noncomputable def d_u_law_is_below : DS := (dSeq (dFor (dRng1 (dCons (dCB (on1 wLen) (dCons (dVar 0) dNil)) dNil)) (gN 2) (dIfS (dB (dOp wGt (dOp wIx (dVar 0) (dVar 2)) (dOp wIx (dVar 1) (dVar 2)))) (dRet (dC (.bl false))) dNext))
    (dRet (dC (.bl true))))
@[irreducible] noncomputable def f_u_law_is_below : Fn := runF 3 d_u_law_is_below
theorem run_u_law_is_below (a0 a1 : W) : f_u_law_is_below [a0, a1] = bd (d_u_law_is_below [some a0, some a1, none]) endF := by delta f_u_law_is_below; rfl
theorem ok_u_law_is_below (Z : Facts K mg) (B : TabsOk K mg base) {fd : FuncData} (F : FunD K "_law_is_below" "_law_is_below" (defArgs st_u_law_is_below) (defBody st_u_law_is_below) (defScope st_u_law_is_below) [] [] (ga K "_law_is_below") fd) : FnOk P w K mg base (L2.CX P w) 1 (ga K "_law_is_below") fd ["one", "two"] (spF K ((tabs K).map (·.2)) (et K) 2 f_u_law_is_below) := by
  have S := sc_u_law_is_below
  obtain ⟨oc, od, dV, kV, doc, pm, an, cdv, ct, osl, rfl, lk, hcd, _, _⟩ := F.ex
  delta f_u_law_is_below
  refine fn_mp lk hcd sc_u_law_is_below (by decide) fun A outer s H E hr => ?_
  exact (pdss_cons (pds_for owns_mp rfl (pdi_range1 rfl Z.b_range (pda_cons (pd_len Z.b_len (pda_cons (pdv 0) pda_nil)) pda_nil)) (pdg_name (i := 2) S.nd rfl (by first | exact Or.inl rfl | exact Or.inr rfl)) (pdss_one (pds_if (pdt_gt (pd_ixs (pdv 0) (pdv 2)) (pd_ixs (pdv 1) (pdv 2))) (pdss_one (pds_ret pd_bl)) pdss_nil)))
    (pdss_one (pds_ret pd_bl)))
theorem sc_u_law_ask_below : FnScope ["asked", "lots", "one", "two", "due"] ["asked", "lots", "one", "two"] (defScope st_u_law_ask_below) := ⟨rfl, rfl, rfl, by decide +kernel, rfl, by decide +kernel, by decide +kernel⟩
noncomputable def d_u_law_ask_below : DS := (dSeq (dAsg (dCall 2 (f_u_law_is_below) (dCons (dVar 2) (dCons (dVar 3) dNil))) (gN 4))
    (dSeq (dAsg (dOp wAdd (dOp wIx (dVar 0) (dCB (on1 wInt) (dCons (dVar 4) dNil))) (dC (.int 1))) (fun v ρ S => noEx (gSubW (dVar 0) (dCB (on1 wInt) (dCons (dVar 4) dNil)) v ρ S)))
    (dRet (dCall 2 (f_u_law_same) (dCons (dCall 4 (f_u_law_told) (dCons (dC (.str "below")) (dCons (dVar 1) (dCons (dVar 2) (dCons (dVar 3) dNil))))) (dCons (dTup (dCons (dC (.str "told")) (dCons (dVar 4) dNil))) dNil))))))
@[irreducible] noncomputable def f_u_law_ask_below : Fn := runF 5 d_u_law_ask_below
theorem run_u_law_ask_below (a0 a1 a2 a3 : W) : f_u_law_ask_below [a0, a1, a2, a3] = bd (d_u_law_ask_below [some a0, some a1, some a2, some a3, none]) endF := by delta f_u_law_ask_below; rfl
theorem ok_u_law_ask_below (Z : Facts K mg) (B : TabsOk K mg base) {fd : FuncData} (F : FunD K "_law_ask_below" "_law_ask_below" (defArgs st_u_law_ask_below) (defBody st_u_law_ask_below) (defScope st_u_law_ask_below) [] [] (ga K "_law_ask_below") fd) : FnOk P w K mg base (L2.CX P w) 14 (ga K "_law_ask_below") fd ["asked", "lots", "one", "two"] (spF K ((tabs K).map (·.2)) (et K) 4 f_u_law_ask_below) := by
  obtain ⟨fd_u_law_is_below, F_u_law_is_below⟩ := Z.d_u_law_is_below
  have G_u_law_is_below := ok_u_law_is_below (P := P) (w := w) Z B F_u_law_is_below
  have b_u_law_is_below : Binds K fd_u_law_is_below ["one", "two"] [] := F_u_law_is_below.bindsN fun _ _ _ _ _ _ us hl => match us, hl with | [_, _], _ => rfl
  obtain ⟨fd_u_law_same, F_u_law_same⟩ := Z.d_u_law_same
  have G_u_law_same := ok_u_law_same (P := P) (w := w) Z B F_u_law_same
  have b_u_law_same : Binds K fd_u_law_same ["told", "due"] [] := F_u_law_same.bindsN fun _ _ _ _ _ _ us hl => match us, hl with | [_, _], _ => rfl
  obtain ⟨fd_u_law_told, F_u_law_told⟩ := Z.d_u_law_told
  have G_u_law_told := ok_u_law_told (P := P) (w := w) Z B F_u_law_told
  have b_u_law_told : Binds K fd_u_law_told ["which", "lots", "one", "two"] [] := F_u_law_told.bindsN fun _ _ _ _ _ _ us hl => match us, hl with | [_, _, _, _], _ => rfl
  have S := sc_u_law_ask_below
  obtain ⟨oc, od, dV, kV, doc, pm, an, cdv, ct, osl, rfl, lk, hcd, _, _⟩ := F.ex
  delta f_u_law_ask_below
  refine fn_mp lk hcd sc_u_law_ask_below (by decide) fun A outer s H E hr => ?_
  exact (pdss_cons (pds_set (i := 4) S.nd rfl (by first | exact Or.inl rfl | exact Or.inr rfl) (pd_call G_u_law_is_below takes_mp (hr.mono (by decide)) rfl Z.g_u_law_is_below F_u_law_is_below.kp b_u_law_is_below (pda_cons (pdv 2) (pda_cons (pdv 3) pda_nil))) (hs := by kernel_rfl))
    (pdss_cons (pds_asg (pd_add (pd_ixs (pdv 0) (pd_intC Z.b_int (pda_cons (pdv 4) pda_nil))) pd_int) (pdg_sub (ET := et K) (room_un hr) (pdv 0) (pd_intC Z.b_int (pda_cons (pdv 4) pda_nil))))
    (pdss_one (pds_ret (pd_call G_u_law_same takes_mp (hr.mono (by decide)) rfl Z.g_u_law_same F_u_law_same.kp b_u_law_same (pda_cons (pd_call G_u_law_told takes_mp (hr.mono (by decide)) rfl Z.g_u_law_told F_u_law_told.kp b_u_law_told (pda_cons pd_str (pda_cons (pdv 1) (pda_cons (pdv 2) (pda_cons (pdv 3) pda_nil))))) (pda_cons (pd_tup (pda_cons pd_str (pda_cons (pdv 4) pda_nil))) pda_nil)))))))
theorem sc_u_law_pair : FnScope ["tape", "asked", "lots", "one", "two", "sizes", "empty", "lot", "rest", "at", "more", "less", "pair"] ["tape", "asked", "lots", "one", "two"] (defScope st_u_law_pair) := ⟨rfl, rfl, rfl, by decide +kernel, rfl, by decide +kernel, by decide +kernel⟩
noncomputable def d_u_law_pair : DS := (dSeq (dAsg (dCall 1 (f_u_law_sizes) (dCons (dVar 2) dNil)) (gN 5))
    (dSeq (dAsg (dCB (on1 wTupOf) (dCons (dLc (dSeqI (dVar 2)) (gN 7) dYes (dC (.int 0)) [7]) dNil)) (gN 6))
    (dSeq (dAsg (dCB (on1 wTupOf) (dCons (dLc (dRng1 (dCons (dCB (on1 wLen) (dCons (dVar 2) dNil)) dNil)) (gN 9) dYes (dOp wSub (dOp wIx (dVar 5) (dVar 9)) (dOp wIx (dVar 3) (dVar 9))) [9]) dNil)) (gN 8))
    (dSeq (dAsg (dCall 2 (f_u_law_draw) (dCons (dVar 0) (dCons (dCB (on1 wLen) (dCons (dVar 2) dNil)) dNil))) (gN 9))
    (dSeq (dAsg (dCall 3 (f_u_law_with) (dCons (dVar 3) (dCons (dVar 9) (dCons (dCB (on2 wMin2) (dCons (dOp wIx (dVar 5) (dVar 9)) (dCons (dOp wAdd (dOp wIx (dVar 3) (dVar 9)) (dC (.int 1))) dNil))) dNil)))) (gN 10))
    (dSeq (dAsg (dCall 3 (f_u_law_with) (dCons (dVar 3) (dCons (dVar 9) (dCons (dCB (on2 wMax2) (dCons (dC (.int 0)) (dCons (dOp wSub (dOp wIx (dVar 3) (dVar 9)) (dC (.int 1))) dNil))) dNil)))) (gN 11))
    (dSeq (dFor (dSeqI (dTup (dCons (dTup (dCons (dVar 3) (dCons (dVar 4) dNil))) (dCons (dTup (dCons (dVar 3) (dCons (dVar 3) dNil))) (dCons (dTup (dCons (dVar 3) (dCons (dVar 8) dNil))) (dCons (dTup (dCons (dVar 3) (dCons (dVar 5) dNil))) (dCons (dTup (dCons (dVar 3) (dCons (dVar 6) dNil))) (dCons (dTup (dCons (dVar 10) (dCons (dVar 4) dNil))) (dCons (dTup (dCons (dVar 11) (dCons (dVar 4) dNil))) (dCons (dTup (dCons (dVar 8) (dCons (dVar 10) dNil))) dNil)))))))))) (gN 12) (dIfS (dNot (dTru (dCall 3 (f_u_law_ask_least) (dCons (dVar 2) (dCons (dOp wIx (dVar 12) (dC (.int 0))) (dCons (dOp wIx (dVar 12) (dC (.int 1))) dNil)))))) (dRet (dC (.bl false))) dNext))
    (dSeq (dFor (dSeqI (dTup (dCons (dTup (dCons (dVar 3) (dCons (dVar 4) dNil))) (dCons (dTup (dCons (dVar 4) (dCons (dVar 3) dNil))) (dCons (dTup (dCons (dVar 3) (dCons (dVar 3) dNil))) (dCons (dTup (dCons (dVar 3) (dCons (dVar 10) dNil))) (dCons (dTup (dCons (dVar 10) (dCons (dVar 3) dNil))) (dCons (dTup (dCons (dVar 3) (dCons (dVar 11) dNil))) (dCons (dTup (dCons (dVar 11) (dCons (dVar 3) dNil))) (dCons (dTup (dCons (dVar 6) (dCons (dVar 3) dNil))) (dCons (dTup (dCons (dVar 3) (dCons (dVar 5) dNil))) (dCons (dTup (dCons (dVar 5) (dCons (dVar 6) dNil))) (dCons (dTup (dCons (dVar 3) (dCons (dVar 6) dNil))) (dCons (dTup (dCons (dVar 5) (dCons (dVar 3) dNil))) (dCons (dTup (dCons (dCall 3 (f_u_law_part) (dCons (dVar 2) (dCons (dVar 3) (dCons (dVar 4) dNil)))) (dCons (dVar 3) dNil))) dNil))))))))))))))) (gN 12) (dIfS (dNot (dTru (dCall 4 (f_u_law_ask_below) (dCons (dVar 1) (dCons (dVar 2) (dCons (dOp wIx (dVar 12) (dC (.int 0))) (dCons (dOp wIx (dVar 12) (dC (.int 1))) dNil))))))) (dRet (dC (.bl false))) dNext))
    (dSeq (dFor (dSeqI (dTup (dCons (dTup (dCons (dVar 3) (dCons (dVar 8) dNil))) (dCons (dTup (dCons (dVar 8) (dCons (dVar 3) dNil))) (dCons (dTup (dCons (dVar 5) (dCons (dVar 6) dNil))) (dCons (dTup (dCons (dVar 6) (dCons (dVar 5) dNil))) dNil)))))) (gN 12) (dIfS (dNot (dTru (dCall 2 (f_u_law_same) (dCons (dCall 4 (f_u_law_told) (dCons (dC (.str "outside")) (dCons (dVar 2) (dCons (dOp wIx (dVar 12) (dC (.int 0))) (dCons (dC (.int 0)) dNil))))) (dCons (dTup (dCons (dC (.str "told")) (dCons (dOp wIx (dVar 12) (dC (.int 1))) dNil))) dNil))))) (dRet (dC (.bl false))) dNext))
    (dSeq (dIfS (dNot (dTru (dCall 2 (f_u_law_same) (dCons (dCall 4 (f_u_law_told) (dCons (dC (.str "everyone")) (dCons (dVar 2) (dCons (dC (.int 0)) (dCons (dC (.int 0)) dNil))))) (dCons (dTup (dCons (dC (.str "told")) (dCons (dVar 5) dNil))) dNil))))) (dRet (dC (.bl false))) dNext)
    (dRet (dCall 2 (f_u_law_same) (dCons (dCall 4 (f_u_law_told) (dCons (dC (.str "nobody")) (dCons (dVar 2) (dCons (dC (.int 0)) (dCons (dC (.int 0)) dNil))))) (dCons (dTup (dCons (dC (.str "told")) (dCons (dVar 6) dNil))) dNil))))))))))))))
@[irreducible] noncomputable def f_u_law_pair : Fn := runF 13 d_u_law_pair
theorem run_u_law_pair (a0 a1 a2 a3 a4 : W) : f_u_law_pair [a0, a1, a2, a3, a4] = bd (d_u_law_pair [some a0, some a1, some a2, some a3, some a4, none, none, none, none, none, none, none, none]) endF := by delta f_u_law_pair; rfl
theorem ok_u_law_pair (Z : Facts K mg) (B : TabsOk K mg base) {fd : FuncData} (F : FunD K "_law_pair" "_law_pair" (defArgs st_u_law_pair) (defBody st_u_law_pair) (defScope st_u_law_pair) [] [] (ga K "_law_pair") fd) : FnOk P w K mg base (L2.CX P w) 15 (ga K "_law_pair") fd ["tape", "asked", "lots", "one", "two"] (spF K ((tabs K).map (·.2)) (et K) 5 f_u_law_pair) := by
  obtain ⟨fd_u_law_ask_below, F_u_law_ask_below⟩ := Z.d_u_law_ask_below
  have G_u_law_ask_below := ok_u_law_ask_below (P := P) (w := w) Z B F_u_law_ask_below
  have b_u_law_ask_below : Binds K fd_u_law_ask_below ["asked", "lots", "one", "two"] [] := F_u_law_ask_below.bindsN fun _ _ _ _ _ _ us hl => match us, hl with | [_, _, _, _], _ => rfl
  obtain ⟨fd_u_law_ask_least, F_u_law_ask_least⟩ := Z.d_u_law_ask_least
  have G_u_law_ask_least := ok_u_law_ask_least (P := P) (w := w) Z B F_u_law_ask_least
  have b_u_law_ask_least : Binds K fd_u_law_ask_least ["lots", "one", "two"] [] := F_u_law_ask_least.bindsN fun _ _ _ _ _ _ us hl => match us, hl with | [_, _, _], _ => rfl
  obtain ⟨fd_u_law_draw, F_u_law_draw⟩ := Z.d_u_law_draw
  have G_u_law_draw := ok_u_law_draw (P := P) (w := w) Z B F_u_law_draw
  have b_u_law_draw : Binds K fd_u_law_draw ["tape", "many"] [] := F_u_law_draw.bindsN fun _ _ _ _ _ _ us hl => match us, hl with | [_, _], _ => rfl
  obtain ⟨fd_u_law_part, F_u_law_part⟩ := Z.d_u_law_part
  have G_u_law_part := ok_u_law_part (P := P) (w := w) Z B F_u_law_part
  have b_u_law_part : Binds K fd_u_law_part ["lots", "one", "two"] [] := F_u_law_part.bindsN fun _ _ _ _ _ _ us hl => match us, hl with | [_, _, _], _ => rfl
  obtain ⟨fd_u_law_same, F_u_law_same⟩ := Z.d_u_law_same
  have G_u_law_same := ok_u_law_same (P := P) (w := w) Z B F_u_law_same
  have b_u_law_same : Binds K fd_u_law_same ["told", "due"] [] := F_u_law_same.bindsN fun _ _ _ _ _ _ us hl => match us, hl with | [_, _], _ => rfl
  obtain ⟨fd_u_law_sizes, F_u_law_sizes⟩ := Z.d_u_law_sizes
  have G_u_law_sizes := ok_u_law_sizes (P := P) (w := w) Z B F_u_law_sizes
  have b_u_law_sizes : Binds K fd_u_law_sizes ["lots"] [] := F_u_law_sizes.bindsN fun _ _ _ _ _ _ us hl => match us, hl with | [_], _ => rfl
  obtain ⟨fd_u_law_told, F_u_law_told⟩ := Z.d_u_law_told
  have G_u_law_told := ok_u_law_told (P := P) (w := w) Z B F_u_law_told
  have b_u_law_told : Binds K fd_u_law_told ["which", "lots", "one", "two"] [] := F_u_law_told.bindsN fun _ _ _ _ _ _ us hl => match us, hl with | [_, _, _, _], _ => rfl
  obtain ⟨fd_u_law_with, F_u_law_with⟩ := Z.d_u_law_with
  have G_u_law_with := ok_u_law_with (P := P) (w := w) Z B F_u_law_with
  have b_u_law_with : Binds K fd_u_law_with ["row", "at", "item"] [] := F_u_law_with.bindsN fun _ _ _ _ _ _ us hl => match us, hl with | [_, _, _], _ => rfl
  have S := sc_u_law_pair
  obtain ⟨oc, od, dV, kV, doc, pm, an, cdv, ct, osl, rfl, lk, hcd, _, _⟩ := F.ex
  delta f_u_law_pair
  refine fn_mp lk hcd sc_u_law_pair (by decide) fun A outer s H E hr => ?_
  exact (pdss_cons (pds_set (i := 5) S.nd rfl (by first | exact Or.inl rfl | exact Or.inr rfl) (pd_call G_u_law_sizes takes_mp (hr.mono (by decide)) rfl Z.g_u_law_sizes F_u_law_sizes.kp b_u_law_sizes (pda_cons (pdv 2) pda_nil)) (hs := by kernel_rfl))
    (pdss_cons (pds_set (i := 6) S.nd rfl (by first | exact Or.inl rfl | exact Or.inr rfl) (pd_tupC Z.b_tuple (pda_cons (pd_lc (own := [("lot", 7)]) rfl S.nd (pdi_seq (pdv 2)) (blk_ok (by kernel_rfl)) (fun _ _ _ _ _ => (pdgo_name (i := 7) S.nd rfl (by first | exact Or.inl rfl | exact Or.inr rfl) (by decide))) (fun _ _ _ _ _ => pdts_nil) (fun _ _ _ _ _ => pd_int)) pda_nil)) (hs := by kernel_rfl))
    (pdss_cons (pds_set (i := 8) S.nd rfl (by first | exact Or.inl rfl | exact Or.inr rfl) (pd_tupC Z.b_tuple (pda_cons (pd_lc (own := [("at", 9)]) rfl S.nd (pdi_range1 rfl Z.b_range (pda_cons (pd_len Z.b_len (pda_cons (pdv 2) pda_nil)) pda_nil)) (blk_ok (by kernel_rfl)) (fun _ _ _ _ _ => (pdgo_name (i := 9) S.nd rfl (by first | exact Or.inl rfl | exact Or.inr rfl) (by decide))) (fun _ _ _ _ _ => pdts_nil) (fun _ _ _ _ _ => (pd_sub (pd_ixs (pdv 5) (pdv 9)) (pd_ixs (pdv 3) (pdv 9))))) pda_nil)) (hs := by kernel_rfl))
    (pdss_cons (pds_set (i := 9) S.nd rfl (by first | exact Or.inl rfl | exact Or.inr rfl) (pd_call G_u_law_draw takes_mp (hr.mono (by decide)) rfl Z.g_u_law_draw F_u_law_draw.kp b_u_law_draw (pda_cons (pdv 0) (pda_cons (pd_len Z.b_len (pda_cons (pdv 2) pda_nil)) pda_nil))) (hs := by kernel_rfl))
    (pdss_cons (pds_set (i := 10) S.nd rfl (by first | exact Or.inl rfl | exact Or.inr rfl) (pd_call G_u_law_with takes_mp (hr.mono (by decide)) rfl Z.g_u_law_with F_u_law_with.kp b_u_law_with (pda_cons (pdv 3) (pda_cons (pdv 9) (pda_cons (pd_min2 rfl Z.b_min (pda_cons (pd_ixs (pdv 5) (pdv 9)) (pda_cons (pd_add (pd_ixs (pdv 3) (pdv 9)) pd_int) pda_nil))) pda_nil)))) (hs := by kernel_rfl))
    (pdss_cons (pds_set (i := 11) S.nd rfl (by first | exact Or.inl rfl | exact Or.inr rfl) (pd_call G_u_law_with takes_mp (hr.mono (by decide)) rfl Z.g_u_law_with F_u_law_with.kp b_u_law_with (pda_cons (pdv 3) (pda_cons (pdv 9) (pda_cons (pd_max2 rfl Z.b_max (pda_cons pd_int (pda_cons (pd_sub (pd_ixs (pdv 3) (pdv 9)) pd_int) pda_nil))) pda_nil)))) (hs := by kernel_rfl))
    (pdss_cons (pds_for owns_mp rfl (pdi_seq (pd_tup (pda_cons (pd_tup (pda_cons (pdv 3) (pda_cons (pdv 4) pda_nil))) (pda_cons (pd_tup (pda_cons (pdv 3) (pda_cons (pdv 3) pda_nil))) (pda_cons (pd_tup (pda_cons (pdv 3) (pda_cons (pdv 8) pda_nil))) (pda_cons (pd_tup (pda_cons (pdv 3) (pda_cons (pdv 5) pda_nil))) (pda_cons (pd_tup (pda_cons (pdv 3) (pda_cons (pdv 6) pda_nil))) (pda_cons (pd_tup (pda_cons (pdv 10) (pda_cons (pdv 4) pda_nil))) (pda_cons (pd_tup (pda_cons (pdv 11) (pda_cons (pdv 4) pda_nil))) (pda_cons (pd_tup (pda_cons (pdv 8) (pda_cons (pdv 10) pda_nil))) pda_nil)))))))))) (pdg_name (i := 12) S.nd rfl (by first | exact Or.inl rfl | exact Or.inr rfl)) (pdss_one (pds_if (pdt_not (pdt_tru (pd_call G_u_law_ask_least takes_mp (hr.mono (by decide)) rfl Z.g_u_law_ask_least F_u_law_ask_least.kp b_u_law_ask_least (pda_cons (pdv 2) (pda_cons (pd_ixs (pdv 12) pd_int) (pda_cons (pd_ixs (pdv 12) pd_int) pda_nil)))))) (pdss_one (pds_ret pd_bl)) pdss_nil)))
    (pdss_cons (pds_for owns_mp rfl (pdi_seq (pd_tup (pda_cons (pd_tup (pda_cons (pdv 3) (pda_cons (pdv 4) pda_nil))) (pda_cons (pd_tup (pda_cons (pdv 4) (pda_cons (pdv 3) pda_nil))) (pda_cons (pd_tup (pda_cons (pdv 3) (pda_cons (pdv 3) pda_nil))) (pda_cons (pd_tup (pda_cons (pdv 3) (pda_cons (pdv 10) pda_nil))) (pda_cons (pd_tup (pda_cons (pdv 10) (pda_cons (pdv 3) pda_nil))) (pda_cons (pd_tup (pda_cons (pdv 3) (pda_cons (pdv 11) pda_nil))) (pda_cons (pd_tup (pda_cons (pdv 11) (pda_cons (pdv 3) pda_nil))) (pda_cons (pd_tup (pda_cons (pdv 6) (pda_cons (pdv 3) pda_nil))) (pda_cons (pd_tup (pda_cons (pdv 3) (pda_cons (pdv 5) pda_nil))) (pda_cons (pd_tup (pda_cons (pdv 5) (pda_cons (pdv 6) pda_nil))) (pda_cons (pd_tup (pda_cons (pdv 3) (pda_cons (pdv 6) pda_nil))) (pda_cons (pd_tup (pda_cons (pdv 5) (pda_cons (pdv 3) pda_nil))) (pda_cons (pd_tup (pda_cons (pd_call G_u_law_part takes_mp (hr.mono (by decide)) rfl Z.g_u_law_part F_u_law_part.kp b_u_law_part (pda_cons (pdv 2) (pda_cons (pdv 3) (pda_cons (pdv 4) pda_nil)))) (pda_cons (pdv 3) pda_nil))) pda_nil))))))))))))))) (pdg_name (i := 12) S.nd rfl (by first | exact Or.inl rfl | exact Or.inr rfl)) (pdss_one (pds_if (pdt_not (pdt_tru (pd_call G_u_law_ask_below takes_mp (hr.mono (by decide)) rfl Z.g_u_law_ask_below F_u_law_ask_below.kp b_u_law_ask_below (pda_cons (pdv 1) (pda_cons (pdv 2) (pda_cons (pd_ixs (pdv 12) pd_int) (pda_cons (pd_ixs (pdv 12) pd_int) pda_nil))))))) (pdss_one (pds_ret pd_bl)) pdss_nil)))
    (pdss_cons (pds_for owns_mp rfl (pdi_seq (pd_tup (pda_cons (pd_tup (pda_cons (pdv 3) (pda_cons (pdv 8) pda_nil))) (pda_cons (pd_tup (pda_cons (pdv 8) (pda_cons (pdv 3) pda_nil))) (pda_cons (pd_tup (pda_cons (pdv 5) (pda_cons (pdv 6) pda_nil))) (pda_cons (pd_tup (pda_cons (pdv 6) (pda_cons (pdv 5) pda_nil))) pda_nil)))))) (pdg_name (i := 12) S.nd rfl (by first | exact Or.inl rfl | exact Or.inr rfl)) (pdss_one (pds_if (pdt_not (pdt_tru (pd_call G_u_law_same takes_mp (hr.mono (by decide)) rfl Z.g_u_law_same F_u_law_same.kp b_u_law_same (pda_cons (pd_call G_u_law_told takes_mp (hr.mono (by decide)) rfl Z.g_u_law_told F_u_law_told.kp b_u_law_told (pda_cons pd_str (pda_cons (pdv 2) (pda_cons (pd_ixs (pdv 12) pd_int) (pda_cons pd_int pda_nil))))) (pda_cons (pd_tup (pda_cons pd_str (pda_cons (pd_ixs (pdv 12) pd_int) pda_nil))) pda_nil))))) (pdss_one (pds_ret pd_bl)) pdss_nil)))
    (pdss_cons (pds_if (pdt_not (pdt_tru (pd_call G_u_law_same takes_mp (hr.mono (by decide)) rfl Z.g_u_law_same F_u_law_same.kp b_u_law_same (pda_cons (pd_call G_u_law_told takes_mp (hr.mono (by decide)) rfl Z.g_u_law_told F_u_law_told.kp b_u_law_told (pda_cons pd_str (pda_cons (pdv 2) (pda_cons pd_int (pda_cons pd_int pda_nil))))) (pda_cons (pd_tup (pda_cons pd_str (pda_cons (pdv 5) pda_nil))) pda_nil))))) (pdss_one (pds_ret pd_bl)) pdss_nil)
    (pdss_one (pds_ret (pd_call G_u_law_same takes_mp (hr.mono (by decide)) rfl Z.g_u_law_same F_u_law_same.kp b_u_law_same (pda_cons (pd_call G_u_law_told takes_mp (hr.mono (by decide)) rfl Z.g_u_law_told F_u_law_told.kp b_u_law_told (pda_cons pd_str (pda_cons (pdv 2) (pda_cons pd_int (pda_cons pd_int pda_nil))))) (pda_cons (pd_tup (pda_cons pd_str (pda_cons (pdv 6) pda_nil))) pda_nil)))))))))))))))
theorem sc_u_law_first_last : FnScope ["lots", "one", "two", "told", "due", "number", "shared", "at", "low", "many", "span"] ["lots", "one", "two"] (defScope st_u_law_first_last) := ⟨rfl, rfl, rfl, by decide +kernel, rfl, by decide +kernel, by decide +kernel⟩
noncomputable def d_u_law_first_last : DS := (dSeq (dAsg (dCall 4 (f_u_law_told) (dCons (dC (.str "first")) (dCons (dVar 0) (dCons (dVar 1) (dCons (dC (.int 0)) dNil))))) (gN 3))
    (dSeq (dAsg (dCB (on1 wTupOf) (dCons (dLc (dSeqI (dVar 1)) (gN 5) dYes (dSl wSl (dTup (dCons (dTup (dCons (dC (.int 0)) (dCons (dVar 5) dNil))) dNil)) dNoPart (dPart (dVar 5))) [5]) dNil)) (gN 4))
    (dSeq (dIfS (dNot (dTru (dCall 2 (f_u_law_same) (dCons (dVar 3) (dCons (dTup (dCons (dC (.str "told")) (dCons (dVar 4) dNil))) dNil))))) (dRet (dC (.bl false))) dNext)
    (dSeq (dAsg (dLst dNil) (gN 6))
    (dSeq (dFor (dRng1 (dCons (dCB (on1 wLen) (dCons (dVar 0) dNil)) dNil)) (gN 7) (dSeq (dAsg (dOp wSub (dOp wIx (dOp wIx (dVar 0) (dVar 7)) (dC (.int 1))) (dOp wIx (dVar 2) (dVar 7))) (gN 8))
    (dSeq (dAsg (dC (.int 0)) (gN 9))
    (dSeq (dFor (dSeqI (dOp wIx (dOp wIx (dVar 3) (dC (.int 1))) (dVar 7))) (gN 10) (dAsg (dOp wAdd (dVar 9) (dCB (on2 wMax2) (dCons (dC (.int 0)) (dCons (dOp wSub (dOp wIx (dVar 10) (dC (.int 1))) (dCB (on2 wMax2) (dCons (dOp wIx (dVar 10) (dC (.int 0))) (dCons (dVar 8) dNil)))) dNil)))) (gN 9)))
    (dEx (tyW isL wApp (dVar 6) (dCons (dVar 9) dNil)))))))
    (dRet (dCall 2 (f_u_law_same) (dCons (dCall 4 (f_u_law_told) (dCons (dC (.str "least")) (dCons (dVar 0) (dCons (dVar 1) (dCons (dVar 2) dNil))))) (dCons (dTup (dCons (dC (.str "told")) (dCons (dCB (on1 wTupOf) (dCons (dVar 6) dNil)) dNil))) dNil)))))))))
@[irreducible] noncomputable def f_u_law_first_last : Fn := runF 11 d_u_law_first_last
theorem run_u_law_first_last (a0 a1 a2 : W) : f_u_law_first_last [a0, a1, a2] = bd (d_u_law_first_last [some a0, some a1, some a2, none, none, none, none, none, none, none, none]) endF := by delta f_u_law_first_last; rfl
theorem ok_u_law_first_last (Z : Facts K mg) (B : TabsOk K mg base) {fd : FuncData} (F : FunD K "_law_first_last" "_law_first_last" (defArgs st_u_law_first_last) (defBody st_u_law_first_last) (defScope st_u_law_first_last) [] [] (ga K "_law_first_last") fd) : FnOk P w K mg base (L2.CX P w) 14 (ga K "_law_first_last") fd ["lots", "one", "two"] (spF K ((tabs K).map (·.2)) (et K) 3 f_u_law_first_last) := by
  obtain ⟨fd_u_law_same, F_u_law_same⟩ := Z.d_u_law_same
  have G_u_law_same := ok_u_law_same (P := P) (w := w) Z B F_u_law_same
  have b_u_law_same : Binds K fd_u_law_same ["told", "due"] [] := F_u_law_same.bindsN fun _ _ _ _ _ _ us hl => match us, hl with | [_, _], _ => rfl
  obtain ⟨fd_u_law_told, F_u_law_told⟩ := Z.d_u_law_told
  have G_u_law_told := ok_u_law_told (P := P) (w := w) Z B F_u_law_told
  have b_u_law_told : Binds K fd_u_law_told ["which", "lots", "one", "two"] [] := F_u_law_told.bindsN fun _ _ _ _ _ _ us hl => match us, hl with | [_, _, _, _], _ => rfl
  have S := sc_u_law_first_last
  obtain ⟨oc, od, dV, kV, doc, pm, an, cdv, ct, osl, rfl, lk, hcd, _, _⟩ := F.ex
  delta f_u_law_first_last
  refine fn_mp lk hcd sc_u_law_first_last (by decide) fun A outer s H E hr => ?_
  exact (pdss_cons (pds_set (i := 3) S.nd rfl (by first | exact Or.inl rfl | exact Or.inr rfl) (pd_call G_u_law_told takes_mp (hr.mono (by decide)) rfl Z.g_u_law_told F_u_law_told.kp b_u_law_told (pda_cons pd_str (pda_cons (pdv 0) (pda_cons (pdv 1) (pda_cons pd_int pda_nil))))) (hs := by kernel_rfl))
    (pdss_cons (pds_set (i := 4) S.nd rfl (by first | exact Or.inl rfl | exact Or.inr rfl) (pd_tupC Z.b_tuple (pda_cons (pd_lc (own := [("number", 5)]) rfl S.nd (pdi_seq (pdv 1)) (blk_ok (by kernel_rfl)) (fun _ _ _ _ _ => (pdgo_name (i := 5) S.nd rfl (by first | exact Or.inl rfl | exact Or.inr rfl) (by decide))) (fun _ _ _ _ _ => pdts_nil) (fun _ _ _ _ _ => (pd_sl (pd_tup (pda_cons (pd_tup (pda_cons pd_int (pda_cons (pdv 5) pda_nil))) pda_nil)) pdo_none (pdo_some (pdv 5))))) pda_nil)) (hs := by kernel_rfl))
    (pdss_cons (pds_if (pdt_not (pdt_tru (pd_call G_u_law_same takes_mp (hr.mono (by decide)) rfl Z.g_u_law_same F_u_law_same.kp b_u_law_same (pda_cons (pdv 3) (pda_cons (pd_tup (pda_cons pd_str (pda_cons (pdv 4) pda_nil))) pda_nil))))) (pdss_one (pds_ret pd_bl)) pdss_nil)
    (pdss_cons (pds_set (i := 6) S.nd rfl (by first | exact Or.inl rfl | exact Or.inr rfl) (pd_lst pda_nil) (hs := by kernel_rfl))
    (pdss_cons (pds_for owns_mp rfl (pdi_range1 rfl Z.b_range (pda_cons (pd_len Z.b_len (pda_cons (pdv 0) pda_nil)) pda_nil)) (pdg_name (i := 7) S.nd rfl (by first | exact Or.inl rfl | exact Or.inr rfl)) (pdss_cons (pds_set (i := 8) S.nd rfl (by first | exact Or.inl rfl | exact Or.inr rfl) (pd_sub (pd_ixs (pd_ixs (pdv 0) (pdv 7)) pd_int) (pd_ixs (pdv 2) (pdv 7))) (hs := by kernel_rfl))
    (pdss_cons (pds_set (i := 9) S.nd rfl (by first | exact Or.inl rfl | exact Or.inr rfl) pd_int (hs := by kernel_rfl))
    (pdss_cons (pds_for owns_mp rfl (pdi_seq (pd_ixs (pd_ixs (pdv 3) pd_int) (pdv 7))) (pdg_name (i := 10) S.nd rfl (by first | exact Or.inl rfl | exact Or.inr rfl)) (pdss_one (pds_set (i := 9) S.nd rfl (by first | exact Or.inl rfl | exact Or.inr rfl) (pd_add (pdv 9) (pd_max2 rfl Z.b_max (pda_cons pd_int (pda_cons (pd_sub (pd_ixs (pdv 10) pd_int) (pd_max2 rfl Z.b_max (pda_cons (pd_ixs (pdv 10) pd_int) (pda_cons (pdv 8) pda_nil)))) pda_nil)))) (hs := by kernel_rfl))))
    (pdss_one (pds_ex (pd_append (pdv 6) (pda_cons (pdv 9) pda_nil))))))))
    (pdss_one (pds_ret (pd_call G_u_law_same takes_mp (hr.mono (by decide)) rfl Z.g_u_law_same F_u_law_same.kp b_u_law_same (pda_cons (pd_call G_u_law_told takes_mp (hr.mono (by decide)) rfl Z.g_u_law_told F_u_law_told.kp b_u_law_told (pda_cons pd_str (pda_cons (pdv 0) (pda_cons (pdv 1) (pda_cons (pdv 2) pda_nil))))) (pda_cons (pd_tup (pda_cons pd_str (pda_cons (pd_tupC Z.b_tuple (pda_cons (pdv 6) pda_nil)) pda_nil))) pda_nil))))))))))
theorem sc_u_law_upto : FnScope ["tape", "top", "way"] ["tape", "top"] (defScope st_u_law_upto) := ⟨rfl, rfl, rfl, by decide +kernel, rfl, by decide +kernel, by decide +kernel⟩
noncomputable def d_u_law_upto : DS := (dSeq (dAsg (dCall 2 (f_u_law_draw) (dCons (dVar 0) (dCons (dC (.int 4)) dNil))) (gN 2))
    (dSeq (dIfS (dOr (dB (dOp wEq (dVar 2) (dC (.int 0)))) (dB (dOp wLe (dVar 1) (dC (.int 0))))) (dRet (dC (.int 0))) dNext)
    (dSeq (dIfS (dB (dOp wEq (dVar 2) (dC (.int 1)))) (dRet (dVar 1)) dNext)
    (dSeq (dIfS (dB (dOp wEq (dVar 2) (dC (.int 2)))) (dRet (dCB (on2 wMin2) (dCons (dVar 1) (dCons (dOp wAdd (dC (.int 1)) (dCall 2 (f_u_law_draw) (dCons (dVar 0) (dCons (dC (.int 2)) dNil)))) dNil)))) dNext)
    (dRet (dCall 2 (f_u_law_draw) (dCons (dVar 0) (dCons (dOp wAdd (dVar 1) (dC (.int 1))) dNil))))))))
@[irreducible] noncomputable def f_u_law_upto : Fn := runF 3 d_u_law_upto
theorem run_u_law_upto (a0 a1 : W) : f_u_law_upto [a0, a1] = bd (d_u_law_upto [some a0, some a1, none]) endF := by delta f_u_law_upto; rfl
theorem ok_u_law_upto (Z : Facts K mg) (B : TabsOk K mg base) {fd : FuncData} (F : FunD K "_law_upto" "_law_upto" (defArgs st_u_law_upto) (defBody st_u_law_upto) (defScope st_u_law_upto) [] [] (ga K "_law_upto") fd) : FnOk P w K mg base (L2.CX P w) 2 (ga K "_law_upto") fd ["tape", "top"] (spF K ((tabs K).map (·.2)) (et K) 2 f_u_law_upto) := by
  obtain ⟨fd_u_law_draw, F_u_law_draw⟩ := Z.d_u_law_draw
  have G_u_law_draw := ok_u_law_draw (P := P) (w := w) Z B F_u_law_draw
  have b_u_law_draw : Binds K fd_u_law_draw ["tape", "many"] [] := F_u_law_draw.bindsN fun _ _ _ _ _ _ us hl => match us, hl with | [_, _], _ => rfl
  have S := sc_u_law_upto
  obtain ⟨oc, od, dV, kV, doc, pm, an, cdv, ct, osl, rfl, lk, hcd, _, _⟩ := F.ex
  delta f_u_law_upto
  refine fn_mp lk hcd sc_u_law_upto (by decide) fun A outer s H E hr => ?_
  exact (pdss_cons (pds_set (i := 2) S.nd rfl (by first | exact Or.inl rfl | exact Or.inr rfl) (pd_call G_u_law_draw takes_mp (hr.mono (by decide)) rfl Z.g_u_law_draw F_u_law_draw.kp b_u_law_draw (pda_cons (pdv 0) (pda_cons pd_int pda_nil))) (hs := by kernel_rfl))
    (pdss_cons (pds_if (pdt_w (pdw_or (pdt_eq (pdv 2) pd_int) (pdw_or1 (pdt_le (pdv 1) pd_int)))) (pdss_one (pds_ret pd_int)) pdss_nil)
    (pdss_cons (pds_if (pdt_eq (pdv 2) pd_int) (pdss_one (pds_ret (pdv 1))) pdss_nil)
    (pdss_cons (pds_if (pdt_eq (pdv 2) pd_int) (pdss_one (pds_ret (pd_min2 rfl Z.b_min (pda_cons (pdv 1) (pda_cons (pd_add pd_int (pd_call G_u_law_draw takes_mp (hr.mono (by decide)) rfl Z.g_u_law_draw F_u_law_draw.kp b_u_law_draw (pda_cons (pdv 0) (pda_cons pd_int pda_nil)))) pda_nil))))) pdss_nil)
    (pdss_one (pds_ret (pd_call G_u_law_draw takes_mp (hr.mono (by decide)) rfl Z.g_u_law_draw F_u_law_draw.kp b_u_law_draw (pda_cons (pdv 0) (pda_cons (pd_add (pdv 1) pd_int) pda_nil)))))))))
theorem sc_u_law_second : FnScope ["tape", "size", "first", "way", "near"] ["tape", "size", "first"] (defScope st_u_law_second) := ⟨rfl, rfl, rfl, by decide +kernel, rfl, by decide +kernel, by decide +kernel⟩
noncomputable def d_u_law_second : DS := (dSeq (dAsg (dCall 2 (f_u_law_draw) (dCons (dVar 0) (dCons (dC (.int 8)) dNil))) (gN 3))
    (dSeq (dAsg (dTup (dCons (dOp wSub (dVar 1) (dVar 2)) (dCons (dOp wAdd (dOp wSub (dVar 1) (dVar 2)) (dC (.int 1))) (dCons (dOp wSub (dOp wSub (dVar 1) (dVar 2)) (dC (.int 1))) (dCons (dVar 2) (dCons (dOp wAdd (dVar 2) (dC (.int 1))) (dCons (dOp wSub (dVar 2) (dC (.int 1))) dNil))))))) (gN 4))
    (dSeq (dIfS (dB (dOp wLt (dVar 3) (dC (.int 6)))) (dRet (dCB (on2 wMin2) (dCons (dVar 1) (dCons (dCB (on2 wMax2) (dCons (dC (.int 0)) (dCons (dOp wIx (dVar 4) (dVar 3)) dNil))) dNil)))) dNext)
    (dRet (dCall 2 (f_u_law_upto) (dCons (dVar 0) (dCons (dVar 1) dNil)))))))
@[irreducible] noncomputable def f_u_law_second : Fn := runF 5 d_u_law_second
theorem run_u_law_second (a0 a1 a2 : W) : f_u_law_second [a0, a1, a2] = bd (d_u_law_second [some a0, some a1, some a2, none, none]) endF := by delta f_u_law_second; rfl
theorem ok_u_law_second (Z : Facts K mg) (B : TabsOk K mg base) {fd : FuncData} (F : FunD K "_law_second" "_law_second" (defArgs st_u_law_second) (defBody st_u_law_second) (defScope st_u_law_second) [] [] (ga K "_law_second") fd) : FnOk P w K mg base (L2.CX P w) 3 (ga K "_law_second") fd ["tape", "size", "first"] (spF K ((tabs K).map (·.2)) (et K) 3 f_u_law_second) := by
  obtain ⟨fd_u_law_draw, F_u_law_draw⟩ := Z.d_u_law_draw
  have G_u_law_draw := ok_u_law_draw (P := P) (w := w) Z B F_u_law_draw
  have b_u_law_draw : Binds K fd_u_law_draw ["tape", "many"] [] := F_u_law_draw.bindsN fun _ _ _ _ _ _ us hl => match us, hl with | [_, _], _ => rfl
  obtain ⟨fd_u_law_upto, F_u_law_upto⟩ := Z.d_u_law_upto
  have G_u_law_upto := ok_u_law_upto (P := P) (w := w) Z B F_u_law_upto
  have b_u_law_upto : Binds K fd_u_law_upto ["tape", "top"] [] := F_u_law_upto.bindsN fun _ _ _ _ _ _ us hl => match us, hl with | [_, _], _ => rfl
  have S := sc_u_law_second
  obtain ⟨oc, od, dV, kV, doc, pm, an, cdv, ct, osl, rfl, lk, hcd, _, _⟩ := F.ex
  delta f_u_law_second
  refine fn_mp lk hcd sc_u_law_second (by decide) fun A outer s H E hr => ?_
  exact (pdss_cons (pds_set (i := 3) S.nd rfl (by first | exact Or.inl rfl | exact Or.inr rfl) (pd_call G_u_law_draw takes_mp (hr.mono (by decide)) rfl Z.g_u_law_draw F_u_law_draw.kp b_u_law_draw (pda_cons (pdv 0) (pda_cons pd_int pda_nil))) (hs := by kernel_rfl))
    (pdss_cons (pds_set (i := 4) S.nd rfl (by first | exact Or.inl rfl | exact Or.inr rfl) (pd_tup (pda_cons (pd_sub (pdv 1) (pdv 2)) (pda_cons (pd_add (pd_sub (pdv 1) (pdv 2)) pd_int) (pda_cons (pd_sub (pd_sub (pdv 1) (pdv 2)) pd_int) (pda_cons (pdv 2) (pda_cons (pd_add (pdv 2) pd_int) (pda_cons (pd_sub (pdv 2) pd_int) pda_nil))))))) (hs := by kernel_rfl))
    (pdss_cons (pds_if (pdt_lt (pdv 3) pd_int) (pdss_one (pds_ret (pd_min2 rfl Z.b_min (pda_cons (pdv 1) (pda_cons (pd_max2 rfl Z.b_max (pda_cons pd_int (pda_cons (pd_ixs (pdv 4) (pdv 3)) pda_nil))) pda_nil))))) pdss_nil)
    (pdss_one (pds_ret (pd_call G_u_law_upto takes_mp (hr.mono (by decide)) rfl Z.g_u_law_upto F_u_law_upto.kp b_u_law_upto (pda_cons (pdv 0) (pda_cons (pdv 1) pda_nil))))))))
theorem sc_u_law_bits : FnScope ["mask", "told", "bit"] ["mask"] (defScope st_u_law_bits) := ⟨rfl, rfl, rfl, by decide +kernel, rfl, by decide +kernel, by decide +kernel⟩
noncomputable def d_u_law_bits : DS := (dSeq (dAsg (dC (.int 0)) (gN 1))
    (dSeq (dFor (dSeqI (dTup (dCons (dC (.int 1)) (dCons (dC (.int 2)) (dCons (dC (.int 4)) (dCons (dC (.int 8)) (dCons (dC (.int 16)) (dCons (dC (.int 32)) dNil)))))))) (gN 2) (dIfS (dB (dOp wGt (dOp wBand (dVar 0) (dVar 2)) (dC (.int 0)))) (dAsg (dOp wAdd (dVar 1) (dC (.int 1))) (gN 1)) dNext))
    (dRet (dVar 1))))
@[irreducible] noncomputable def f_u_law_bits : Fn := runF 3 d_u_law_bits
theorem run_u_law_bits (a0 : W) : f_u_law_bits [a0] = bd (d_u_law_bits [some a0, none, none]) endF := by delta f_u_law_bits; rfl
theorem ok_u_law_bits (Z : Facts K mg) (B : TabsOk K mg base) {fd : FuncData} (F : FunD K "_law_bits" "_law_bits" (defArgs st_u_law_bits) (defBody st_u_law_bits) (defScope st_u_law_bits) [] [] (ga K "_law_bits") fd) : FnOk P w K mg base (L2.CX P w) 1 (ga K "_law_bits") fd ["mask"] (spF K ((tabs K).map (·.2)) (et K) 1 f_u_law_bits) := by
  have S := sc_u_law_bits
  obtain ⟨oc, od, dV, kV, doc, pm, an, cdv, ct, osl, rfl, lk, hcd, _, _⟩ := F.ex
  delta f_u_law_bits
  refine fn_mp lk hcd sc_u_law_bits (by decide) fun A outer s H E hr => ?_
  exact (pdss_cons (pds_set (i := 1) S.nd rfl (by first | exact Or.inl rfl | exact Or.inr rfl) pd_int (hs := by kernel_rfl))
    (pdss_cons (pds_for owns_mp rfl (pdi_seq (pd_tup (pda_cons pd_int (pda_cons pd_int (pda_cons pd_int (pda_cons pd_int (pda_cons pd_int (pda_cons pd_int pda_nil)))))))) (pdg_name (i := 2) S.nd rfl (by first | exact Or.inl rfl | exact Or.inr rfl)) (pdss_one (pds_if (pdt_gt (pd_band (pdv 0) (pdv 2)) pd_int) (pdss_one (pds_set (i := 1) S.nd rfl (by first | exact Or.inl rfl | exact Or.inr rfl) (pd_add (pdv 1) pd_int) (hs := by kernel_rfl))) pdss_nil)))
    (pdss_one (pds_ret (pdv 1)))))
theorem sc_u_law_subsets : FnScope ["size", "many", "mask"] ["size", "many"] (defScope st_u_law_subsets) := ⟨rfl, rfl, rfl, by decide +kernel, rfl, by decide +kernel, by decide +kernel⟩
noncomputable def d_u_law_subsets : DS := (dRet (dLc (dRng1 (dCons (dOp wIx (dTup (dCons (dC (.int 1)) (dCons (dC (.int 2)) (dCons (dC (.int 4)) (dCons (dC (.int 8)) (dCons (dC (.int 16)) (dCons (dC (.int 32)) dNil))))))) (dVar 0)) dNil)) (gN 2) (dB (dOp wEq (dCall 1 (f_u_law_bits) (dCons (dVar 2) dNil)) (dVar 1))) (dVar 2) [2]))
@[irreducible] noncomputable def f_u_law_subsets : Fn := runF 3 d_u_law_subsets
theorem run_u_law_subsets (a0 a1 : W) : f_u_law_subsets [a0, a1] = bd (d_u_law_subsets [some a0, some a1, none]) endF := by delta f_u_law_subsets; rfl
theorem ok_u_law_subsets (Z : Facts K mg) (B : TabsOk K mg base) {fd : FuncData} (F : FunD K "_law_subsets" "_law_subsets" (defArgs st_u_law_subsets) (defBody st_u_law_subsets) (defScope st_u_law_subsets) [] [] (ga K "_law_subsets") fd) : FnOk P w K mg base (L2.CX P w) 2 (ga K "_law_subsets") fd ["size", "many"] (spF K ((tabs K).map (·.2)) (et K) 2 f_u_law_subsets) := by
  obtain ⟨fd_u_law_bits, F_u_law_bits⟩ := Z.d_u_law_bits
  have G_u_law_bits := ok_u_law_bits (P := P) (w := w) Z B F_u_law_bits
  have b_u_law_bits : Binds K fd_u_law_bits ["mask"] [] := F_u_law_bits.bindsN fun _ _ _ _ _ _ us hl => match us, hl with | [_], _ => rfl
  have S := sc_u_law_subsets
  obtain ⟨oc, od, dV, kV, doc, pm, an, cdv, ct, osl, rfl, lk, hcd, _, _⟩ := F.ex
  delta f_u_law_subsets
  refine fn_mp lk hcd sc_u_law_subsets (by decide) fun A outer s H E hr => ?_
  exact (pdss_one (pds_ret (pd_lc (own := [("mask", 2)]) rfl S.nd (pdi_range1 rfl Z.b_range (pda_cons (pd_ixs (pd_tup (pda_cons pd_int (pda_cons pd_int (pda_cons pd_int (pda_cons pd_int (pda_cons pd_int (pda_cons pd_int pda_nil))))))) (pdv 0)) pda_nil)) (blk_ok (by kernel_rfl)) (fun _ _ _ _ _ => (pdgo_name (i := 2) S.nd rfl (by first | exact Or.inl rfl | exact Or.inr rfl) (by decide))) (fun _ _ _ _ _ => (pdts_one (pdt_eq (pd_call G_u_law_bits noWT (hr.mono (by decide)) rfl Z.g_u_law_bits F_u_law_bits.kp b_u_law_bits (pda_cons (pdv 2) pda_nil)) (pdv 1)))) (fun _ _ _ _ _ => (pdv 2)))))
theorem sc_u_law_fewest : FnScope ["size", "first", "second", "told", "one", "two"] ["size", "first", "second"] (defScope st_u_law_fewest) := ⟨rfl, rfl, rfl, by decide +kernel, rfl, by decide +kernel, by decide +kernel⟩
noncomputable def d_u_law_fewest : DS := (dSeq (dAsg (dVar 0) (gN 3))
    (dSeq (dFor (dSeqI (dCall 2 (f_u_law_subsets) (dCons (dVar 0) (dCons (dVar 1) dNil)))) (gN 4) (dFor (dSeqI (dCall 2 (f_u_law_subsets) (dCons (dVar 0) (dCons (dVar 2) dNil)))) (gN 5) (dAsg (dCB (on2 wMin2) (dCons (dVar 3) (dCons (dCall 1 (f_u_law_bits) (dCons (dOp wBand (dVar 4) (dVar 5)) dNil)) dNil))) (gN 3))))
    (dRet (dVar 3))))
@[irreducible] noncomputable def f_u_law_fewest : Fn := runF 6 d_u_law_fewest
theorem run_u_law_fewest (a0 a1 a2 : W) : f_u_law_fewest [a0, a1, a2] = bd (d_u_law_fewest [some a0, some a1, some a2, none, none, none]) endF := by delta f_u_law_fewest; rfl
theorem ok_u_law_fewest (Z : Facts K mg) (B : TabsOk K mg base) {fd : FuncData} (F : FunD K "_law_fewest" "_law_fewest" (defArgs st_u_law_fewest) (defBody st_u_law_fewest) (defScope st_u_law_fewest) [] [] (ga K "_law_fewest") fd) : FnOk P w K mg base (L2.CX P w) 3 (ga K "_law_fewest") fd ["size", "first", "second"] (spF K ((tabs K).map (·.2)) (et K) 3 f_u_law_fewest) := by
  obtain ⟨fd_u_law_bits, F_u_law_bits⟩ := Z.d_u_law_bits
  have G_u_law_bits := ok_u_law_bits (P := P) (w := w) Z B F_u_law_bits
  have b_u_law_bits : Binds K fd_u_law_bits ["mask"] [] := F_u_law_bits.bindsN fun _ _ _ _ _ _ us hl => match us, hl with | [_], _ => rfl
  obtain ⟨fd_u_law_subsets, F_u_law_subsets⟩ := Z.d_u_law_subsets
  have G_u_law_subsets := ok_u_law_subsets (P := P) (w := w) Z B F_u_law_subsets
  have b_u_law_subsets : Binds K fd_u_law_subsets ["size", "many"] [] := F_u_law_subsets.bindsN fun _ _ _ _ _ _ us hl => match us, hl with | [_, _], _ => rfl
  have S := sc_u_law_fewest
  obtain ⟨oc, od, dV, kV, doc, pm, an, cdv, ct, osl, rfl, lk, hcd, _, _⟩ := F.ex
  delta f_u_law_fewest
  refine fn_mp lk hcd sc_u_law_fewest (by decide) fun A outer s H E hr => ?_
  exact (pdss_cons (pds_set (i := 3) S.nd rfl (by first | exact Or.inl rfl | exact Or.inr rfl) (pdv 0) (hs := by kernel_rfl))
    (pdss_cons (pds_for owns_mp rfl (pdi_seq (pd_call G_u_law_subsets takes_mp (hr.mono (by decide)) rfl Z.g_u_law_subsets F_u_law_subsets.kp b_u_law_subsets (pda_cons (pdv 0) (pda_cons (pdv 1) pda_nil)))) (pdg_name (i := 4) S.nd rfl (by first | exact Or.inl rfl | exact Or.inr rfl)) (pdss_one (pds_for owns_mp rfl (pdi_seq (pd_call G_u_law_subsets takes_mp (hr.mono (by decide)) rfl Z.g_u_law_subsets F_u_law_subsets.kp b_u_law_subsets (pda_cons (pdv 0) (pda_cons (pdv 2) pda_nil)))) (pdg_name (i := 5) S.nd rfl (by first | exact Or.inl rfl | exact Or.inr rfl)) (pdss_one (pds_set (i := 3) S.nd rfl (by first | exact Or.inl rfl | exact Or.inr rfl) (pd_min2 rfl Z.b_min (pda_cons (pdv 3) (pda_cons (pd_call G_u_law_bits takes_mp (hr.mono (by decide)) rfl Z.g_u_law_bits F_u_law_bits.kp b_u_law_bits (pda_cons (pd_band (pdv 4) (pdv 5)) pda_nil)) pda_nil))) (hs := by kernel_rfl))))))
    (pdss_one (pds_ret (pdv 3)))))
theorem sc_u_law_fits : FnScope ["size", "first", "second", "fall", "one", "two"] ["size", "first", "second", "fall"] (defScope st_u_law_fits) := ⟨rfl, rfl, rfl, by decide +kernel, rfl, by decide +kernel, by decide +kernel⟩
noncomputable def d_u_law_fits : DS := (dSeq (dFor (dSeqI (dCall 2 (f_u_law_subsets) (dCons (dVar 0) (dCons (dVar 1) dNil)))) (gN 4) (dFor (dSeqI (dCall 2 (f_u_law_subsets) (dCons (dVar 0) (dCons (dVar 2) dNil)))) (gN 5) (dIfS (dB (dOp wEq (dOp wBand (dOp wBand (dVar 4) (dVar 5)) (dOp wSub (dC (.int 31)) (dVar 3))) (dC (.int 0)))) (dRet (dC (.bl true))) dNext)))
    (dRet (dC (.bl false))))
@[irreducible] noncomputable def f_u_law_fits : Fn := runF 6 d_u_law_fits
theorem run_u_law_fits (a0 a1 a2 a3 : W) : f_u_law_fits [a0, a1, a2, a3] = bd (d_u_law_fits [some a0, some a1, some a2, some a3, none, none]) endF := by delta f_u_law_fits; rfl
theorem ok_u_law_fits (Z : Facts K mg) (B : TabsOk K mg base) {fd : FuncData} (F : FunD K "_law_fits" "_law_fits" (defArgs st_u_law_fits) (defBody st_u_law_fits) (defScope st_u_law_fits) [] [] (ga K "_law_fits") fd) : FnOk P w K mg base (L2.CX P w) 3 (ga K "_law_fits") fd ["size", "first", "second", "fall"] (spF K ((tabs K).map (·.2)) (et K) 4 f_u_law_fits) := by
  obtain ⟨fd_u_law_subsets, F_u_law_subsets⟩ := Z.d_u_law_subsets
  have G_u_law_subsets := ok_u_law_subsets (P := P) (w := w) Z B F_u_law_subsets
  have b_u_law_subsets : Binds K fd_u_law_subsets ["size", "many"] [] := F_u_law_subsets.bindsN fun _ _ _ _ _ _ us hl => match us, hl with | [_, _], _ => rfl
  have S := sc_u_law_fits
  obtain ⟨oc, od, dV, kV, doc, pm, an, cdv, ct, osl, rfl, lk, hcd, _, _⟩ := F.ex
  delta f_u_law_fits
  refine fn_mp lk hcd sc_u_law_fits (by decide) fun A outer s H E hr => ?_
  exact (pdss_cons (pds_for owns_mp rfl (pdi_seq (pd_call G_u_law_subsets takes_mp (hr.mono (by decide)) rfl Z.g_u_law_subsets F_u_law_subsets.kp b_u_law_subsets (pda_cons (pdv 0) (pda_cons (pdv 1) pda_nil)))) (pdg_name (i := 4) S.nd rfl (by first | exact Or.inl rfl | exact Or.inr rfl)) (pdss_one (pds_for owns_mp rfl (pdi_seq (pd_call G_u_law_subsets takes_mp (hr.mono (by decide)) rfl Z.g_u_law_subsets F_u_law_subsets.kp b_u_law_subsets (pda_cons (pdv 0) (pda_cons (pdv 2) pda_nil)))) (pdg_name (i := 5) S.nd rfl (by first | exact Or.inl rfl | exact Or.inr rfl)) (pdss_one (pds_if (pdt_eq (pd_band (pd_band (pdv 4) (pdv 5)) (pd_sub pd_int (pdv 3))) pd_int) (pdss_one (pds_ret pd_bl)) pdss_nil)))))
    (pdss_one (pds_ret pd_bl)))
theorem sc_u_law_small : FnScope ["tape", "asked", "lots", "room", "lot", "k", "one", "two", "at", "fall", "due", "fits", "mask"] ["tape", "asked", "lots"] (defScope st_u_law_small) := ⟨rfl, rfl, rfl, by decide +kernel, rfl, by decide +kernel, by decide +kernel⟩
noncomputable def d_u_law_small : DS := (dSeq (dAsg (dCB (on1 wTupOf) (dCons (dLc (dSeqI (dSl wSl (dVar 2) dNoPart (dPart (dOp wAdd (dC (.int 1)) (dCall 2 (f_u_law_draw) (dCons (dVar 0) (dCons (dC (.int 3)) dNil))))))) (gN 4) dYes (dTup (dCons (dOp wIx (dVar 4) (dC (.int 0))) (dCons (dOp wAdd (dC (.int 1)) (dCall 2 (f_u_law_draw) (dCons (dVar 0) (dCons (dC (.int 5)) dNil)))) dNil))) [4]) dNil)) (gN 3))
    (dSeq (dFor (dRng1 (dCons (dC (.int 3)) dNil)) (gN 5) (dSeq (dAsg (dCB (on1 wTupOf) (dCons (dLc (dSeqI (dVar 3)) (gN 4) dYes (dCall 2 (f_u_law_draw) (dCons (dVar 0) (dCons (dOp wAdd (dOp wIx (dVar 4) (dC (.int 1))) (dC (.int 1))) dNil))) [4]) dNil)) (gN 6))
    (dSeq (dAsg (dCB (on1 wTupOf) (dCons (dLc (dRng1 (dCons (dCB (on1 wLen) (dCons (dVar 3) dNil)) dNil)) (gN 8) dYes (dCall 3 (f_u_law_second) (dCons (dVar 0) (dCons (dOp wIx (dOp wIx (dVar 3) (dVar 8)) (dC (.int 1))) (dCons (dOp wIx (dVar 6) (dVar 8)) dNil)))) [8]) dNil)) (gN 7))
    (dSeq (dAsg (dLc (dSeqI (dVar 3)) (gN 4) dYes (dOp wBand (dCall 2 (f_u_law_draw) (dCons (dVar 0) (dCons (dOp wPow (dC (.int 2)) (dC (.int 5))) dNil))) (dOp wSub (dOp wIx (dTup (dCons (dC (.int 1)) (dCons (dC (.int 2)) (dCons (dC (.int 4)) (dCons (dC (.int 8)) (dCons (dC (.int 16)) (dCons (dC (.int 32)) dNil))))))) (dOp wIx (dVar 4) (dC (.int 1)))) (dC (.int 1)))) [4]) (gN 9))
    (dSeq (dAsg (dLst dNil) (gN 10))
    (dSeq (dAsg (dC (.bl true)) (gN 11))
    (dSeq (dFor (dRng1 (dCons (dCB (on1 wLen) (dCons (dVar 3) dNil)) dNil)) (gN 8) (dSeq (dEx (tyW isL wApp (dVar 10) (dCons (dCall 3 (f_u_law_fewest) (dCons (dOp wIx (dOp wIx (dVar 3) (dVar 8)) (dC (.int 1))) (dCons (dOp wIx (dVar 6) (dVar 8)) (dCons (dOp wIx (dVar 7) (dVar 8)) dNil)))) dNil)))
    (dAsg (dAndV (dVar 11) (dCall 4 (f_u_law_fits) (dCons (dOp wIx (dOp wIx (dVar 3) (dVar 8)) (dC (.int 1))) (dCons (dOp wIx (dVar 6) (dVar 8)) (dCons (dOp wIx (dVar 7) (dVar 8)) (dCons (dOp wIx (dVar 9) (dVar 8)) dNil)))))) (gN 11))))
    (dSeq (dIfS (dNot (dTru (dCall 2 (f_u_law_same) (dCons (dCall 4 (f_u_law_told) (dCons (dC (.str "least")) (dCons (dVar 3) (dCons (dVar 6) (dCons (dVar 7) dNil))))) (dCons (dTup (dCons (dC (.str "told")) (dCons (dCB (on1 wTupOf) (dCons (dVar 10) dNil)) dNil))) dNil))))) (dRet (dC (.bl false))) dNext)
    (dSeq (dAsg (dOp wAdd (dOp wIx (dVar 1) (dC (.int 2))) (dC (.int 1))) (fun v ρ S => noEx (gSubW (dVar 1) (dC (.int 2)) v ρ S)))
    (dSeq (dIfS (dNot (dTru (dCall 2 (f_u_law_same) (dCons (dCall 4 (f_u_law_told) (dCons (dC (.str "below")) (dCons (dVar 3) (dCons (dCB (on1 wTupOf) (dCons (dVar 10) dNil)) (dCons (dCB (on1 wTupOf) (dCons (dLc (dSeqI (dVar 9)) (gN 12) dYes (dCall 1 (f_u_law_bits) (dCons (dVar 12) dNil)) [12]) dNil)) dNil))))) (dCons (dTup (dCons (dC (.str "told")) (dCons (dVar 11) dNil))) dNil))))) (dRet (dC (.bl false))) dNext)
    (dIfS (dNot (dTru (dCall 3 (f_u_law_first_last) (dCons (dVar 3) (dCons (dVar 6) (dCons (dVar 7) dNil)))))) (dRet (dC (.bl false))) dNext)))))))))))
    (dRet (dC (.bl true)))))
@[irreducible] noncomputable def f_u_law_small : Fn := runF 13 d_u_law_small
theorem run_u_law_small (a0 a1 a2 : W) : f_u_law_small [a0, a1, a2] = bd (d_u_law_small [some a0, some a1, some a2, none, none, none, none, none, none, none, none, none, none]) endF := by delta f_u_law_small; rfl
theorem ok_u_law_small (Z : Facts K mg) (B : TabsOk K mg base) {fd : FuncData} (F : FunD K "_law_small" "_law_small" (defArgs st_u_law_small) (defBody st_u_law_small) (defScope st_u_law_small) [] [] (ga K "_law_small") fd) : FnOk P w K mg base (L2.CX P w) 15 (ga K "_law_small") fd ["tape", "asked", "lots"] (spF K ((tabs K).map (·.2)) (et K) 3 f_u_law_small) := by
  obtain ⟨fd_u_law_bits, F_u_law_bits⟩ := Z.d_u_law_bits
  have G_u_law_bits := ok_u_law_bits (P := P) (w := w) Z B F_u_law_bits
  have b_u_law_bits : Binds K fd_u_law_bits ["mask"] [] := F_u_law_bits.bindsN fun _ _ _ _ _ _ us hl => match us, hl with | [_], _ => rfl
  obtain ⟨fd_u_law_draw, F_u_law_draw⟩ := Z.d_u_law_draw
  have G_u_law_draw := ok_u_law_draw (P := P) (w := w) Z B F_u_law_draw
  have b_u_law_draw : Binds K fd_u_law_draw ["tape", "many"] [] := F_u_law_draw.bindsN fun _ _ _ _ _ _ us hl => match us, hl with | [_, _], _ => rfl
  obtain ⟨fd_u_law_fewest, F_u_law_fewest⟩ := Z.d_u_law_fewest
  have G_u_law_fewest := ok_u_law_fewest (P := P) (w := w) Z B F_u_law_fewest
  have b_u_law_fewest : Binds K fd_u_law_fewest ["size", "first", "second"] [] := F_u_law_fewest.bindsN fun _ _ _ _ _ _ us hl => match us, hl with | [_, _, _], _ => rfl
  obtain ⟨fd_u_law_first_last, F_u_law_first_last⟩ := Z.d_u_law_first_last
  have G_u_law_first_last := ok_u_law_first_last (P := P) (w := w) Z B F_u_law_first_last
  have b_u_law_first_last : Binds K fd_u_law_first_last ["lots", "one", "two"] [] := F_u_law_first_last.bindsN fun _ _ _ _ _ _ us hl => match us, hl with | [_, _, _], _ => rfl
  obtain ⟨fd_u_law_fits, F_u_law_fits⟩ := Z.d_u_law_fits
  have G_u_law_fits := ok_u_law_fits (P := P) (w := w) Z B F_u_law_fits
  have b_u_law_fits : Binds K fd_u_law_fits ["size", "first", "second", "fall"] [] := F_u_law_fits.bindsN fun _ _ _ _ _ _ us hl => match us, hl with | [_, _, _, _], _ => rfl
  obtain ⟨fd_u_law_same, F_u_law_same⟩ := Z.d_u_law_same
  have G_u_law_same := ok_u_law_same (P := P) (w := w) Z B F_u_law_same
  have b_u_law_same : Binds K fd_u_law_same ["told", "due"] [] := F_u_law_same.bindsN fun _ _ _ _ _ _ us hl => match us, hl with | [_, _], _ => rfl
  obtain ⟨fd_u_law_second, F_u_law_second⟩ := Z.d_u_law_second
  have G_u_law_second := ok_u_law_second (P := P) (w := w) Z B F_u_law_second
  have b_u_law_second : Binds K fd_u_law_second ["tape", "size", "first"] [] := F_u_law_second.bindsN fun _ _ _ _ _ _ us hl => match us, hl with | [_, _, _], _ => rfl
  obtain ⟨fd_u_law_told, F_u_law_told⟩ := Z.d_u_law_told
  have G_u_law_told := ok_u_law_told (P := P) (w := w) Z B F_u_law_told
  have b_u_law_told : Binds K fd_u_law_told ["which", "lots", "one", "two"] [] := F_u_law_told.bindsN fun _ _ _ _ _ _ us hl => match us, hl with | [_, _, _, _], _ => rfl
  have S := sc_u_law_small
  obtain ⟨oc, od, dV, kV, doc, pm, an, cdv, ct, osl, rfl, lk, hcd, _, _⟩ := F.ex
  delta f_u_law_small
  refine fn_mp lk hcd sc_u_law_small (by decide) fun A outer s H E hr => ?_
  exact (pdss_cons (pds_set (i := 3) S.nd rfl (by first | exact Or.inl rfl | exact Or.inr rfl) (pd_tupC Z.b_tuple (pda_cons (pd_lc (own := [("lot", 4)]) rfl S.nd (pdi_seq (pd_sl (pdv 2) pdo_none (pdo_some (pd_add pd_int (pd_call G_u_law_draw takes_mp (hr.mono (by decide)) rfl Z.g_u_law_draw F_u_law_draw.kp b_u_law_draw (pda_cons (pdv 0) (pda_cons pd_int pda_nil))))))) (blk_ok (by kernel_rfl)) (fun _ _ _ _ _ => (pdgo_name (i := 4) S.nd rfl (by first | exact Or.inl rfl | exact Or.inr rfl) (by decide))) (fun _ _ _ _ _ => pdts_nil) (fun _ _ _ _ _ => (pd_tup (pda_cons (pd_ixs (pdv 4) pd_int) (pda_cons (pd_add pd_int (pd_call G_u_law_draw noWT (hr.mono (by decide)) rfl Z.g_u_law_draw F_u_law_draw.kp b_u_law_draw (pda_cons (pdv 0) (pda_cons pd_int pda_nil)))) pda_nil))))) pda_nil)) (hs := by kernel_rfl))
    (pdss_cons (pds_for owns_mp rfl (pdi_range1 rfl Z.b_range (pda_cons pd_int pda_nil)) (pdg_name (i := 5) S.nd rfl (by first | exact Or.inl rfl | exact Or.inr rfl)) (pdss_cons (pds_set (i := 6) S.nd rfl (by first | exact Or.inl rfl | exact Or.inr rfl) (pd_tupC Z.b_tuple (pda_cons (pd_lc (own := [("lot", 4)]) rfl S.nd (pdi_seq (pdv 3)) (blk_ok (by kernel_rfl)) (fun _ _ _ _ _ => (pdgo_name (i := 4) S.nd rfl (by first | exact Or.inl rfl | exact Or.inr rfl) (by decide))) (fun _ _ _ _ _ => pdts_nil) (fun _ _ _ _ _ => (pd_call G_u_law_draw noWT (hr.mono (by decide)) rfl Z.g_u_law_draw F_u_law_draw.kp b_u_law_draw (pda_cons (pdv 0) (pda_cons (pd_add (pd_ixs (pdv 4) pd_int) pd_int) pda_nil))))) pda_nil)) (hs := by kernel_rfl))
    (pdss_cons (pds_set (i := 7) S.nd rfl (by first | exact Or.inl rfl | exact Or.inr rfl) (pd_tupC Z.b_tuple (pda_cons (pd_lc (own := [("at", 8)]) rfl S.nd (pdi_range1 rfl Z.b_range (pda_cons (pd_len Z.b_len (pda_cons (pdv 3) pda_nil)) pda_nil)) (blk_ok (by kernel_rfl)) (fun _ _ _ _ _ => (pdgo_name (i := 8) S.nd rfl (by first | exact Or.inl rfl | exact Or.inr rfl) (by decide))) (fun _ _ _ _ _ => pdts_nil) (fun _ _ _ _ _ => (pd_call G_u_law_second noWT (hr.mono (by decide)) rfl Z.g_u_law_second F_u_law_second.kp b_u_law_second (pda_cons (pdv 0) (pda_cons (pd_ixs (pd_ixs (pdv 3) (pdv 8)) pd_int) (pda_cons (pd_ixs (pdv 6) (pdv 8)) pda_nil)))))) pda_nil)) (hs := by kernel_rfl))
    (pdss_cons (pds_setLc (i := 9) rfl rfl rfl rfl rfl (own := [("lot", 4)]) rfl S.nd (pdi_seq (pdv 3)) (blk_ok (by kernel_rfl)) (fun _ _ _ _ _ => (pdgo_name (i := 4) S.nd rfl (by first | exact Or.inl rfl | exact Or.inr rfl) (by decide))) (fun _ _ _ _ _ => pdts_nil) (fun _ _ _ _ _ => (pd_band (pd_call G_u_law_draw noWT (hr.mono (by decide)) rfl Z.g_u_law_draw F_u_law_draw.kp b_u_law_draw (pda_cons (pdv 0) (pda_cons (pd_pow pd_int pd_int) pda_nil))) (pd_sub (pd_ixs (pd_tup (pda_cons pd_int (pda_cons pd_int (pda_cons pd_int (pda_cons pd_int (pda_cons pd_int (pda_cons pd_int pda_nil))))))) (pd_ixs (pdv 4) pd_int)) pd_int))))
    (pdss_cons (pds_set (i := 10) S.nd rfl (by first | exact Or.inl rfl | exact Or.inr rfl) (pd_lst pda_nil) (hs := by kernel_rfl))
    (pdss_cons (pds_set (i := 11) S.nd rfl (by first | exact Or.inl rfl | exact Or.inr rfl) pd_bl (hs := by kernel_rfl))
    (pdss_cons (pds_for owns_mp rfl (pdi_range1 rfl Z.b_range (pda_cons (pd_len Z.b_len (pda_cons (pdv 3) pda_nil)) pda_nil)) (pdg_name (i := 8) S.nd rfl (by first | exact Or.inl rfl | exact Or.inr rfl)) (pdss_cons (pds_ex (pd_append (pdv 10) (pda_cons (pd_call G_u_law_fewest takes_mp (hr.mono (by decide)) rfl Z.g_u_law_fewest F_u_law_fewest.kp b_u_law_fewest (pda_cons (pd_ixs (pd_ixs (pdv 3) (pdv 8)) pd_int) (pda_cons (pd_ixs (pdv 6) (pdv 8)) (pda_cons (pd_ixs (pdv 7) (pdv 8)) pda_nil)))) pda_nil)))
    (pdss_one (pds_set (i := 11) S.nd rfl (by first | exact Or.inl rfl | exact Or.inr rfl) (pd_and (pdv 11) (pd_one (pd_call G_u_law_fits takes_mp (hr.mono (by decide)) rfl Z.g_u_law_fits F_u_law_fits.kp b_u_law_fits (pda_cons (pd_ixs (pd_ixs (pdv 3) (pdv 8)) pd_int) (pda_cons (pd_ixs (pdv 6) (pdv 8)) (pda_cons (pd_ixs (pdv 7) (pdv 8)) (pda_cons (pd_ixs (pdv 9) (pdv 8)) pda_nil))))))) (hs := by kernel_rfl)))))
    (pdss_cons (pds_if (pdt_not (pdt_tru (pd_call G_u_law_same takes_mp (hr.mono (by decide)) rfl Z.g_u_law_same F_u_law_same.kp b_u_law_same (pda_cons (pd_call G_u_law_told takes_mp (hr.mono (by decide)) rfl Z.g_u_law_told F_u_law_told.kp b_u_law_told (pda_cons pd_str (pda_cons (pdv 3) (pda_cons (pdv 6) (pda_cons (pdv 7) pda_nil))))) (pda_cons (pd_tup (pda_cons pd_str (pda_cons (pd_tupC Z.b_tuple (pda_cons (pdv 10) pda_nil)) pda_nil))) pda_nil))))) (pdss_one (pds_ret pd_bl)) pdss_nil)
    (pdss_cons (pds_asg (pd_add (pd_ixs (pdv 1) pd_int) pd_int) (pdg_sub (ET := et K) (room_un hr) (pdv 1) pd_int))
    (pdss_cons (pds_if (pdt_not (pdt_tru (pd_call G_u_law_same takes_mp (hr.mono (by decide)) rfl Z.g_u_law_same F_u_law_same.kp b_u_law_same (pda_cons (pd_call G_u_law_told takes_mp (hr.mono (by decide)) rfl Z.g_u_law_told F_u_law_told.kp b_u_law_told (pda_cons pd_str (pda_cons (pdv 3) (pda_cons (pd_tupC Z.b_tuple (pda_cons (pdv 10) pda_nil)) (pda_cons (pd_tupC Z.b_tuple (pda_cons (pd_lc (own := [("mask", 12)]) rfl S.nd (pdi_seq (pdv 9)) (blk_ok (by kernel_rfl)) (fun _ _ _ _ _ => (pdgo_name (i := 12) S.nd rfl (by first | exact Or.inl rfl | exact Or.inr rfl) (by decide))) (fun _ _ _ _ _ => pdts_nil) (fun _ _ _ _ _ => (pd_call G_u_law_bits noWT (hr.mono (by decide)) rfl Z.g_u_law_bits F_u_law_bits.kp b_u_law_bits (pda_cons (pdv 12) pda_nil)))) pda_nil)) pda_nil))))) (pda_cons (pd_tup (pda_cons pd_str (pda_cons (pdv 11) pda_nil))) pda_nil))))) (pdss_one (pds_ret pd_bl)) pdss_nil)
    (pdss_one (pds_if (pdt_not (pdt_tru (pd_call G_u_law_first_last takes_mp (hr.mono (by decide)) rfl Z.g_u_law_first_last F_u_law_first_last.kp b_u_law_first_last (pda_cons (pdv 3) (pda_cons (pdv 6) (pda_cons (pdv 7) pda_nil)))))) (pdss_one (pds_ret pd_bl)) pdss_nil))))))))))))
    (pdss_one (pds_ret pd_bl))))
theorem sc_u_law_doors : FnScope ["tape", "asked", "lots", "one", "at", "size", "late", "wrongs", "item", "wrong", "other", "which", "pair", "due"] ["tape", "asked", "lots", "one"] (defScope st_u_law_doors) := ⟨rfl, rfl, rfl, by decide +kernel, rfl, by decide +kernel, by decide +kernel⟩
noncomputable def d_u_law_doors : DS := (dSeq (dAsg (dCall 2 (f_u_law_draw) (dCons (dVar 0) (dCons (dCB (on1 wLen) (dCons (dVar 2) dNil)) dNil))) (gN 4))
    (dSeq (dAsg (dOp wIx (dOp wIx (dVar 2) (dVar 4)) (dC (.int 1))) (gN 5))
    (dSeq (dAsg (dOp wAdd (dVar 4) (dCall 2 (f_u_law_draw) (dCons (dVar 0) (dCons (dOp wSub (dCB (on1 wLen) (dCons (dVar 2) dNil)) (dVar 4)) dNil)))) (gN 6))
    (dSeq (dAsg (dLst (dCons (dTup (dCons (dCB (on1 wLstOf) (dCons (dVar 3) dNil)) (dCons (dOp wSub (dC (.int 0)) (dC (.int 1))) dNil))) (dCons (dTup (dCons (dOp wAdd (dVar 3) (dTup (dCons (dC (.int 0)) dNil))) (dCons (dOp wSub (dC (.int 0)) (dC (.int 1))) dNil))) (dCons (dTup (dCons (dSl wSl (dVar 3) dNoPart (dPart (dUn wNeg (dC (.int 1))))) (dCons (dOp wSub (dC (.int 0)) (dC (.int 1))) dNil))) (dCons (dTup (dCons (dTup dNil) (dCons (dOp wSub (dC (.int 0)) (dC (.int 1))) dNil))) (dCons (dTup (dCons (dC .non) (dCons (dOp wSub (dC (.int 0)) (dC (.int 1))) dNil))) (dCons (dTup (dCons (dSl wSl (dC (.str "abcdefgh")) dNoPart (dPart (dCB (on1 wLen) (dCons (dVar 2) dNil)))) (dCons (dOp wSub (dC (.int 0)) (dC (.int 1))) dNil))) dNil))))))) (gN 7))
    (dSeq (dFor (dSeqI (dTup (dCons (dOp wAdd (dVar 5) (dC (.int 1))) (dCons (dOp wSub (dC (.int 0)) (dC (.int 1))) (dCons (dC (.bl true)) (dCons (dC (.bl false)) (dCons (dC .non) (dCons (dC (.str "0")) (dCons (dTup (dCons (dC (.int 0)) dNil)) (dCons (dLst (dCons (dC (.int 0)) dNil)) (dCons (dOp wSub (dC (.int 0)) (dVar 5)) (dCons (dOp wPow (dC (.int 10)) (dC (.int 30))) dNil)))))))))))) (gN 8) (dEx (tyW isL wApp (dVar 7) (dCons (dTup (dCons (dCall 3 (f_u_law_with) (dCons (dVar 3) (dCons (dVar 4) (dCons (dVar 8) dNil)))) (dCons (dVar 4) dNil))) dNil))))
    (dSeq (dEx (tyW isL wApp (dVar 7) (dCons (dTup (dCons (dCall 3 (f_u_law_with) (dCons (dCall 3 (f_u_law_with) (dCons (dVar 3) (dCons (dVar 6) (dCons (dOp wAdd (dOp wIx (dOp wIx (dVar 2) (dVar 6)) (dC (.int 1))) (dC (.int 1))) dNil)))) (dCons (dVar 4) (dCons (dOp wSub (dC (.int 0)) (dC (.int 1))) dNil)))) (dCons (dVar 4) dNil))) dNil)))
    (dSeq (dFor (dSeqI (dVar 7)) (gN 9) (dSeq (dAsg (dOp wAdd (dOp wIx (dVar 1) (dC (.int 3))) (dC (.int 1))) (fun v ρ S => noEx (gSubW (dVar 1) (dC (.int 3)) v ρ S)))
    (dSeq (dAsg (dOp wIx (dOp wIx (dVar 7) (dCall 2 (f_u_law_draw) (dCons (dVar 0) (dCons (dCB (on1 wLen) (dCons (dVar 7) dNil)) dNil)))) (dC (.int 0))) (gN 10))
    (dSeq (dFor (dSeqI (dTup (dCons (dC (.str "least")) (dCons (dC (.str "below")) dNil)))) (gN 11) (dSeq (dIfS (dNot (dTru (dCall 2 (f_u_law_same) (dCons (dCall 4 (f_u_law_told) (dCons (dVar 11) (dCons (dVar 2) (dCons (dOp wIx (dVar 9) (dC (.int 0))) (dCons (dVar 3) dNil))))) (dCons (dTup (dCons (dC (.str "counts")) (dCons (dOp wIx (dVar 9) (dC (.int 1))) dNil))) dNil))))) (dRet (dC (.bl false))) dNext)
    (dSeq (dIfS (dNot (dTru (dCall 2 (f_u_law_same) (dCons (dCall 4 (f_u_law_told) (dCons (dVar 11) (dCons (dVar 2) (dCons (dVar 3) (dCons (dOp wIx (dVar 9) (dC (.int 0))) dNil))))) (dCons (dTup (dCons (dC (.str "counts")) (dCons (dOp wIx (dVar 9) (dC (.int 1))) dNil))) dNil))))) (dRet (dC (.bl false))) dNext)
    (dIfS (dNot (dTru (dCall 2 (f_u_law_same) (dCons (dCall 4 (f_u_law_told) (dCons (dVar 11) (dCons (dVar 2) (dCons (dOp wIx (dVar 9) (dC (.int 0))) (dCons (dVar 10) dNil))))) (dCons (dTup (dCons (dC (.str "counts")) (dCons (dOp wIx (dVar 9) (dC (.int 1))) dNil))) dNil))))) (dRet (dC (.bl false))) dNext))))
    (dFor (dSeqI (dTup (dCons (dC (.str "outside")) (dCons (dC (.str "first")) dNil)))) (gN 11) (dIfS (dNot (dTru (dCall 2 (f_u_law_same) (dCons (dCall 4 (f_u_law_told) (dCons (dVar 11) (dCons (dVar 2) (dCons (dOp wIx (dVar 9) (dC (.int 0))) (dCons (dC (.int 0)) dNil))))) (dCons (dTup (dCons (dC (.str "counts")) (dCons (dOp wIx (dVar 9) (dC (.int 1))) dNil))) dNil))))) (dRet (dC (.bl false))) dNext))))))
    (dSeq (dFor (dSeqI (dTup (dCons (dTup (dCons (dCB (on1 wLstOf) (dCons (dVar 2) dNil)) (dCons (dOp wSub (dC (.int 0)) (dC (.int 1))) (dCons (dC (.str "shape")) dNil)))) (dCons (dTup (dCons (dTup dNil) (dCons (dOp wSub (dC (.int 0)) (dC (.int 1))) (dCons (dC (.str "shape")) dNil)))) (dCons (dTup (dCons (dC .non) (dCons (dOp wSub (dC (.int 0)) (dC (.int 1))) (dCons (dC (.str "shape")) dNil)))) (dCons (dTup (dCons (dOp wAdd (dSl wSl (dVar 2) dNoPart (dPart (dC (.int 1)))) (dSl wSl (dVar 2) dNoPart (dPart (dC (.int 1))))) (dCons (dC (.int 1)) (dCons (dC (.str "twice")) dNil)))) (dCons (dTup (dCons (dCall 3 (f_u_law_with) (dCons (dVar 2) (dCons (dVar 4) (dCons (dTup (dCons (dOp wIx (dOp wIx (dVar 2) (dVar 4)) (dC (.int 0))) (dCons (dC (.int 0)) dNil))) dNil)))) (dCons (dVar 4) (dCons (dC (.str "size")) dNil)))) (dCons (dTup (dCons (dCall 3 (f_u_law_with) (dCons (dVar 2) (dCons (dVar 4) (dCons (dTup (dCons (dOp wIx (dOp wIx (dVar 2) (dVar 4)) (dC (.int 0))) (dCons (dC (.bl true)) dNil))) dNil)))) (dCons (dVar 4) (dCons (dC (.str "size")) dNil)))) (dCons (dTup (dCons (dCall 3 (f_u_law_with) (dCons (dVar 2) (dCons (dVar 4) (dCons (dTup (dCons (dC (.str "most")) (dCons (dVar 5) dNil))) dNil)))) (dCons (dVar 4) (dCons (dC (.str "word")) dNil)))) (dCons (dTup (dCons (dCall 3 (f_u_law_with) (dCons (dVar 2) (dCons (dVar 4) (dCons (dLst (dCons (dOp wIx (dOp wIx (dVar 2) (dVar 4)) (dC (.int 0))) (dCons (dVar 5) dNil))) dNil)))) (dCons (dVar 4) (dCons (dC (.str "shape")) dNil)))) dNil)))))))))) (gN 12) (dFor (dSeqI (dTup (dCons (dC (.str "least")) (dCons (dC (.str "below")) (dCons (dC (.str "outside")) (dCons (dC (.str "first")) (dCons (dC (.str "everyone")) (dCons (dC (.str "nobody")) dNil)))))))) (gN 11) (dSeq (dAsg (dTup (dCons (dC (.str "lots")) (dCons (dOp wIx (dVar 12) (dC (.int 1))) (dCons (dOp wIx (dVar 12) (dC (.int 2))) dNil)))) (gN 13))
    (dIfS (dOr (dNot (dTru (dCall 2 (f_u_law_same) (dCons (dCall 4 (f_u_law_told) (dCons (dVar 11) (dCons (dOp wIx (dVar 12) (dC (.int 0))) (dCons (dVar 3) (dCons (dVar 3) dNil))))) (dCons (dVar 13) dNil))))) (dNot (dTru (dCall 2 (f_u_law_same) (dCons (dCall 4 (f_u_law_told) (dCons (dVar 11) (dCons (dOp wIx (dVar 12) (dC (.int 0))) (dCons (dC .non) (dCons (dVar 3) dNil))))) (dCons (dVar 13) dNil)))))) (dRet (dC (.bl false))) dNext))))
    (dRet (dC (.bl true)))))))))))
@[irreducible] noncomputable def f_u_law_doors : Fn := runF 14 d_u_law_doors
theorem run_u_law_doors (a0 a1 a2 a3 : W) : f_u_law_doors [a0, a1, a2, a3] = bd (d_u_law_doors [some a0, some a1, some a2, some a3, none, none, none, none, none, none, none, none, none, none]) endF := by delta f_u_law_doors; rfl
theorem ok_u_law_doors (Z : Facts K mg) (B : TabsOk K mg base) {fd : FuncData} (F : FunD K "_law_doors" "_law_doors" (defArgs st_u_law_doors) (defBody st_u_law_doors) (defScope st_u_law_doors) [] [] (ga K "_law_doors") fd) : FnOk P w K mg base (L2.CX P w) 14 (ga K "_law_doors") fd ["tape", "asked", "lots", "one"] (spF K ((tabs K).map (·.2)) (et K) 4 f_u_law_doors) := by
  obtain ⟨fd_u_law_draw, F_u_law_draw⟩ := Z.d_u_law_draw
  have G_u_law_draw := ok_u_law_draw (P := P) (w := w) Z B F_u_law_draw
  have b_u_law_draw : Binds K fd_u_law_draw ["tape", "many"] [] := F_u_law_draw.bindsN fun _ _ _ _ _ _ us hl => match us, hl with | [_, _], _ => rfl
  obtain ⟨fd_u_law_same, F_u_law_same⟩ := Z.d_u_law_same
  have G_u_law_same := ok_u_law_same (P := P) (w := w) Z B F_u_law_same
  have b_u_law_same : Binds K fd_u_law_same ["told", "due"] [] := F_u_law_same.bindsN fun _ _ _ _ _ _ us hl => match us, hl with | [_, _], _ => rfl
  obtain ⟨fd_u_law_told, F_u_law_told⟩ := Z.d_u_law_told
  have G_u_law_told := ok_u_law_told (P := P) (w := w) Z B F_u_law_told
  have b_u_law_told : Binds K fd_u_law_told ["which", "lots", "one", "two"] [] := F_u_law_told.bindsN fun _ _ _ _ _ _ us hl => match us, hl with | [_, _, _, _], _ => rfl
  obtain ⟨fd_u_law_with, F_u_law_with⟩ := Z.d_u_law_with
  have G_u_law_with := ok_u_law_with (P := P) (w := w) Z B F_u_law_with
  have b_u_law_with : Binds K fd_u_law_with ["row", "at", "item"] [] := F_u_law_with.bindsN fun _ _ _ _ _ _ us hl => match us, hl with | [_, _, _], _ => rfl
  have S := sc_u_law_doors
  obtain ⟨oc, od, dV, kV, doc, pm, an, cdv, ct, osl, rfl, lk, hcd, _, _⟩ := F.ex
  delta f_u_law_doors
  refine fn_mp lk hcd sc_u_law_doors (by decide) fun A outer s H E hr => ?_
  exact (pdss_cons (pds_set (i := 4) S.nd rfl (by first | exact Or.inl rfl | exact Or.inr rfl) (pd_call G_u_law_draw takes_mp (hr.mono (by decide)) rfl Z.g_u_law_draw F_u_law_draw.kp b_u_law_draw (pda_cons (pdv 0) (pda_cons (pd_len Z.b_len (pda_cons (pdv 2) pda_nil)) pda_nil))) (hs := by kernel_rfl))
    (pdss_cons (pds_set (i := 5) S.nd rfl (by first | exact Or.inl rfl | exact Or.inr rfl) (pd_ixs (pd_ixs (pdv 2) (pdv 4)) pd_int) (hs := by kernel_rfl))
    (pdss_cons (pds_set (i := 6) S.nd rfl (by first | exact Or.inl rfl | exact Or.inr rfl) (pd_add (pdv 4) (pd_call G_u_law_draw takes_mp (hr.mono (by decide)) rfl Z.g_u_law_draw F_u_law_draw.kp b_u_law_draw (pda_cons (pdv 0) (pda_cons (pd_sub (pd_len Z.b_len (pda_cons (pdv 2) pda_nil)) (pdv 4)) pda_nil)))) (hs := by kernel_rfl))
    (pdss_cons (pds_set (i := 7) S.nd rfl (by first | exact Or.inl rfl | exact Or.inr rfl) (pd_lst (pda_cons (pd_tup (pda_cons (pd_lstC Z.b_list (pda_cons (pdv 3) pda_nil)) (pda_cons (pd_sub pd_int pd_int) pda_nil))) (pda_cons (pd_tup (pda_cons (pd_add (pdv 3) (pd_tup (pda_cons pd_int pda_nil))) (pda_cons (pd_sub pd_int pd_int) pda_nil))) (pda_cons (pd_tup (pda_cons (pd_sl (pdv 3) pdo_none (pdo_some (pd_neg pd_int))) (pda_cons (pd_sub pd_int pd_int) pda_nil))) (pda_cons (pd_tup (pda_cons (pd_tup pda_nil) (pda_cons (pd_sub pd_int pd_int) pda_nil))) (pda_cons (pd_tup (pda_cons pd_non (pda_cons (pd_sub pd_int pd_int) pda_nil))) (pda_cons (pd_tup (pda_cons (pd_sl pd_str pdo_none (pdo_some (pd_len Z.b_len (pda_cons (pdv 2) pda_nil)))) (pda_cons (pd_sub pd_int pd_int) pda_nil))) pda_nil))))))) (hs := by kernel_rfl))
    (pdss_cons (pds_for owns_mp rfl (pdi_seq (pd_tup (pda_cons (pd_add (pdv 5) pd_int) (pda_cons (pd_sub pd_int pd_int) (pda_cons pd_bl (pda_cons pd_bl (pda_cons pd_non (pda_cons pd_str (pda_cons (pd_tup (pda_cons pd_int pda_nil)) (pda_cons (pd_lst (pda_cons pd_int pda_nil)) (pda_cons (pd_sub pd_int (pdv 5)) (pda_cons (pd_pow pd_int pd_int) pda_nil)))))))))))) (pdg_name (i := 8) S.nd rfl (by first | exact Or.inl rfl | exact Or.inr rfl)) (pdss_one (pds_ex (pd_append (pdv 7) (pda_cons (pd_tup (pda_cons (pd_call G_u_law_with takes_mp (hr.mono (by decide)) rfl Z.g_u_law_with F_u_law_with.kp b_u_law_with (pda_cons (pdv 3) (pda_cons (pdv 4) (pda_cons (pdv 8) pda_nil)))) (pda_cons (pdv 4) pda_nil))) pda_nil)))))
    (pdss_cons (pds_ex (pd_append (pdv 7) (pda_cons (pd_tup (pda_cons (pd_call G_u_law_with takes_mp (hr.mono (by decide)) rfl Z.g_u_law_with F_u_law_with.kp b_u_law_with (pda_cons (pd_call G_u_law_with takes_mp (hr.mono (by decide)) rfl Z.g_u_law_with F_u_law_with.kp b_u_law_with (pda_cons (pdv 3) (pda_cons (pdv 6) (pda_cons (pd_add (pd_ixs (pd_ixs (pdv 2) (pdv 6)) pd_int) pd_int) pda_nil)))) (pda_cons (pdv 4) (pda_cons (pd_sub pd_int pd_int) pda_nil)))) (pda_cons (pdv 4) pda_nil))) pda_nil)))
    (pdss_cons (pds_for owns_mp rfl (pdi_seq (pdv 7)) (pdg_name (i := 9) S.nd rfl (by first | exact Or.inl rfl | exact Or.inr rfl)) (pdss_cons (pds_asg (pd_add (pd_ixs (pdv 1) pd_int) pd_int) (pdg_sub (ET := et K) (room_un hr) (pdv 1) pd_int))
    (pdss_cons (pds_set (i := 10) S.nd rfl (by first | exact Or.inl rfl | exact Or.inr rfl) (pd_ixs (pd_ixs (pdv 7) (pd_call G_u_law_draw takes_mp (hr.mono (by decide)) rfl Z.g_u_law_draw F_u_law_draw.kp b_u_law_draw (pda_cons (pdv 0) (pda_cons (pd_len Z.b_len (pda_cons (pdv 7) pda_nil)) pda_nil)))) pd_int) (hs := by kernel_rfl))
    (pdss_cons (pds_for owns_mp rfl (pdi_seq (pd_tup (pda_cons pd_str (pda_cons pd_str pda_nil)))) (pdg_name (i := 11) S.nd rfl (by first | exact Or.inl rfl | exact Or.inr rfl)) (pdss_cons (pds_if (pdt_not (pdt_tru (pd_call G_u_law_same takes_mp (hr.mono (by decide)) rfl Z.g_u_law_same F_u_law_same.kp b_u_law_same (pda_cons (pd_call G_u_law_told takes_mp (hr.mono (by decide)) rfl Z.g_u_law_told F_u_law_told.kp b_u_law_told (pda_cons (pdv 11) (pda_cons (pdv 2) (pda_cons (pd_ixs (pdv 9) pd_int) (pda_cons (pdv 3) pda_nil))))) (pda_cons (pd_tup (pda_cons pd_str (pda_cons (pd_ixs (pdv 9) pd_int) pda_nil))) pda_nil))))) (pdss_one (pds_ret pd_bl)) pdss_nil)
    (pdss_cons (pds_if (pdt_not (pdt_tru (pd_call G_u_law_same takes_mp (hr.mono (by decide)) rfl Z.g_u_law_same F_u_law_same.kp b_u_law_same (pda_cons (pd_call G_u_law_told takes_mp (hr.mono (by decide)) rfl Z.g_u_law_told F_u_law_told.kp b_u_law_told (pda_cons (pdv 11) (pda_cons (pdv 2) (pda_cons (pdv 3) (pda_cons (pd_ixs (pdv 9) pd_int) pda_nil))))) (pda_cons (pd_tup (pda_cons pd_str (pda_cons (pd_ixs (pdv 9) pd_int) pda_nil))) pda_nil))))) (pdss_one (pds_ret pd_bl)) pdss_nil)
    (pdss_one (pds_if (pdt_not (pdt_tru (pd_call G_u_law_same takes_mp (hr.mono (by decide)) rfl Z.g_u_law_same F_u_law_same.kp b_u_law_same (pda_cons (pd_call G_u_law_told takes_mp (hr.mono (by decide)) rfl Z.g_u_law_told F_u_law_told.kp b_u_law_told (pda_cons (pdv 11) (pda_cons (pdv 2) (pda_cons (pd_ixs (pdv 9) pd_int) (pda_cons (pdv 10) pda_nil))))) (pda_cons (pd_tup (pda_cons pd_str (pda_cons (pd_ixs (pdv 9) pd_int) pda_nil))) pda_nil))))) (pdss_one (pds_ret pd_bl)) pdss_nil)))))
    (pdss_one (pds_for owns_mp rfl (pdi_seq (pd_tup (pda_cons pd_str (pda_cons pd_str pda_nil)))) (pdg_name (i := 11) S.nd rfl (by first | exact Or.inl rfl | exact Or.inr rfl)) (pdss_one (pds_if (pdt_not (pdt_tru (pd_call G_u_law_same takes_mp (hr.mono (by decide)) rfl Z.g_u_law_same F_u_law_same.kp b_u_law_same (pda_cons (pd_call G_u_law_told takes_mp (hr.mono (by decide)) rfl Z.g_u_law_told F_u_law_told.kp b_u_law_told (pda_cons (pdv 11) (pda_cons (pdv 2) (pda_cons (pd_ixs (pdv 9) pd_int) (pda_cons pd_int pda_nil))))) (pda_cons (pd_tup (pda_cons pd_str (pda_cons (pd_ixs (pdv 9) pd_int) pda_nil))) pda_nil))))) (pdss_one (pds_ret pd_bl)) pdss_nil))))))))
    (pdss_cons (pds_for owns_mp rfl (pdi_seq (pd_tup (pda_cons (pd_tup (pda_cons (pd_lstC Z.b_list (pda_cons (pdv 2) pda_nil)) (pda_cons (pd_sub pd_int pd_int) (pda_cons pd_str pda_nil)))) (pda_cons (pd_tup (pda_cons (pd_tup pda_nil) (pda_cons (pd_sub pd_int pd_int) (pda_cons pd_str pda_nil)))) (pda_cons (pd_tup (pda_cons pd_non (pda_cons (pd_sub pd_int pd_int) (pda_cons pd_str pda_nil)))) (pda_cons (pd_tup (pda_cons (pd_add (pd_sl (pdv 2) pdo_none (pdo_some pd_int)) (pd_sl (pdv 2) pdo_none (pdo_some pd_int))) (pda_cons pd_int (pda_cons pd_str pda_nil)))) (pda_cons (pd_tup (pda_cons (pd_call G_u_law_with takes_mp (hr.mono (by decide)) rfl Z.g_u_law_with F_u_law_with.kp b_u_law_with (pda_cons (pdv 2) (pda_cons (pdv 4) (pda_cons (pd_tup (pda_cons (pd_ixs (pd_ixs (pdv 2) (pdv 4)) pd_int) (pda_cons pd_int pda_nil))) pda_nil)))) (pda_cons (pdv 4) (pda_cons pd_str pda_nil)))) (pda_cons (pd_tup (pda_cons (pd_call G_u_law_with takes_mp (hr.mono (by decide)) rfl Z.g_u_law_with F_u_law_with.kp b_u_law_with (pda_cons (pdv 2) (pda_cons (pdv 4) (pda_cons (pd_tup (pda_cons (pd_ixs (pd_ixs (pdv 2) (pdv 4)) pd_int) (pda_cons pd_bl pda_nil))) pda_nil)))) (pda_cons (pdv 4) (pda_cons pd_str pda_nil)))) (pda_cons (pd_tup (pda_cons (pd_call G_u_law_with takes_mp (hr.mono (by decide)) rfl Z.g_u_law_with F_u_law_with.kp b_u_law_with (pda_cons (pdv 2) (pda_cons (pdv 4) (pda_cons (pd_tup (pda_cons pd_str (pda_cons (pdv 5) pda_nil))) pda_nil)))) (pda_cons (pdv 4) (pda_cons pd_str pda_nil)))) (pda_cons (pd_tup (pda_cons (pd_call G_u_law_with takes_mp (hr.mono (by decide)) rfl Z.g_u_law_with F_u_law_with.kp b_u_law_with (pda_cons (pdv 2) (pda_cons (pdv 4) (pda_cons (pd_lst (pda_cons (pd_ixs (pd_ixs (pdv 2) (pdv 4)) pd_int) (pda_cons (pdv 5) pda_nil))) pda_nil)))) (pda_cons (pdv 4) (pda_cons pd_str pda_nil)))) pda_nil)))))))))) (pdg_name (i := 12) S.nd rfl (by first | exact Or.inl rfl | exact Or.inr rfl)) (pdss_one (pds_for owns_mp rfl (pdi_seq (pd_tup (pda_cons pd_str (pda_cons pd_str (pda_cons pd_str (pda_cons pd_str (pda_cons pd_str (pda_cons pd_str pda_nil)))))))) (pdg_name (i := 11) S.nd rfl (by first | exact Or.inl rfl | exact Or.inr rfl)) (pdss_cons (pds_set (i := 13) S.nd rfl (by first | exact Or.inl rfl | exact Or.inr rfl) (pd_tup (pda_cons pd_str (pda_cons (pd_ixs (pdv 12) pd_int) (pda_cons (pd_ixs (pdv 12) pd_int) pda_nil)))) (hs := by kernel_rfl))
    (pdss_one (pds_if (pdt_w (pdw_or (pdt_not (pdt_tru (pd_call G_u_law_same takes_mp (hr.mono (by decide)) rfl Z.g_u_law_same F_u_law_same.kp b_u_law_same (pda_cons (pd_call G_u_law_told takes_mp (hr.mono (by decide)) rfl Z.g_u_law_told F_u_law_told.kp b_u_law_told (pda_cons (pdv 11) (pda_cons (pd_ixs (pdv 12) pd_int) (pda_cons (pdv 3) (pda_cons (pdv 3) pda_nil))))) (pda_cons (pdv 13) pda_nil))))) (pdw_or1 (pdt_not (pdt_tru (pd_call G_u_law_same takes_mp (hr.mono (by decide)) rfl Z.g_u_law_same F_u_law_same.kp b_u_law_same (pda_cons (pd_call G_u_law_told takes_mp (hr.mono (by decide)) rfl Z.g_u_law_told F_u_law_told.kp b_u_law_told (pda_cons (pdv 11) (pda_cons (pd_ixs (pdv 12) pd_int) (pda_cons pd_non (pda_cons (pdv 3) pda_nil))))) (pda_cons (pdv 13) pda_nil)))))))) (pdss_one (pds_ret pd_bl)) pdss_nil))))))
    (pdss_one (pds_ret pd_bl))))))))))
theorem sc_u_law_between : FnScope ["tape", "asked", "lots", "at", "pair", "lot", "ones", "none", "twos", "question", "one", "wrong", "k", "number", "which"] ["tape", "asked", "lots"] (defScope st_u_law_between) := ⟨rfl, rfl, rfl, by decide +kernel, rfl, by decide +kernel, by decide +kernel⟩
noncomputable def d_u_law_between : DS := (dSeq (dAsg (dCall 2 (f_u_law_draw) (dCons (dVar 0) (dCons (dCB (on1 wLen) (dCons (dVar 2) dNil)) dNil))) (gN 3))
    (dSeq (dAsg (dCB (on1 wTupOf) (dCons (dLc (dSeqI (dVar 2)) (gN 5) dYes (dTup (dCons (dOp wIx (dVar 5) (dC (.int 0))) (dCons (dC (.int 2)) dNil))) [5]) dNil)) (gN 4))
    (dSeq (dAsg (dCB (on1 wTupOf) (dCons (dLc (dSeqI (dVar 2)) (gN 5) dYes (dC (.int 1)) [5]) dNil)) (gN 6))
    (dSeq (dAsg (dCB (on1 wTupOf) (dCons (dLc (dSeqI (dVar 2)) (gN 5) dYes (dC (.int 0)) [5]) dNil)) (gN 7))
    (dSeq (dAsg (dCB (on1 wTupOf) (dCons (dLc (dSeqI (dVar 2)) (gN 5) dYes (dC (.int 2)) [5]) dNil)) (gN 8))
    (dSeq (dFor (dSeqI (dTup (dCons (dTup (dCons (dVar 6) (dCons (dC (.bl true)) dNil))) (dCons (dTup (dCons (dVar 7) (dCons (dC (.bl false)) dNil))) dNil)))) (gN 9) (dSeq (dAsg (dOp wIx (dVar 9) (dC (.int 0))) (gN 10))
    (dSeq (dAsg (dCall 3 (f_u_law_with) (dCons (dVar 10) (dCons (dVar 3) (dCons (dOp wIx (dVar 9) (dC (.int 1))) dNil)))) (gN 11))
    (dFor (dRng1 (dCons (dC (.int 2)) dNil)) (gN 12) (dSeq (dIfS (dOr (dNot (dTru (dCall 3 (f_u_law_ask_least) (dCons (dVar 4) (dCons (dVar 10) (dCons (dVar 8) dNil)))))) (dNot (dTru (dCall 4 (f_u_law_ask_below) (dCons (dVar 1) (dCons (dVar 4) (dCons (dVar 10) (dCons (dVar 8) dNil)))))))) (dRet (dC (.bl false))) dNext)
    (dSeq (dIfS (dNot (dTru (dCall 4 (f_u_law_ask_below) (dCons (dVar 1) (dCons (dVar 4) (dCons (dVar 8) (dCons (dVar 10) dNil))))))) (dRet (dC (.bl false))) dNext)
    (dSeq (dIfS (dNot (dTru (dCall 2 (f_u_law_same) (dCons (dCall 4 (f_u_law_told) (dCons (dC (.str "outside")) (dCons (dVar 4) (dCons (dVar 10) (dCons (dC (.int 0)) dNil))))) (dCons (dTup (dCons (dC (.str "told")) (dCons (dCB (on1 wTupOf) (dCons (dLc (dSeqI (dVar 10)) (gN 13) dYes (dOp wSub (dC (.int 2)) (dVar 13)) [13]) dNil)) dNil))) dNil))))) (dRet (dC (.bl false))) dNext)
    (dSeq (dIfS (dNot (dTru (dCall 2 (f_u_law_same) (dCons (dCall 4 (f_u_law_told) (dCons (dC (.str "first")) (dCons (dVar 4) (dCons (dVar 10) (dCons (dC (.int 0)) dNil))))) (dCons (dTup (dCons (dC (.str "told")) (dCons (dCB (on1 wTupOf) (dCons (dLc (dSeqI (dVar 10)) (gN 13) dYes (dSl wSl (dTup (dCons (dTup (dCons (dC (.int 0)) (dCons (dC (.int 1)) dNil))) dNil)) dNoPart (dPart (dVar 13))) [13]) dNil)) dNil))) dNil))))) (dRet (dC (.bl false))) dNext)
    (dSeq (dFor (dSeqI (dTup (dCons (dC (.str "least")) (dCons (dC (.str "below")) (dCons (dC (.str "outside")) (dCons (dC (.str "first")) dNil)))))) (gN 14) (dIfS (dNot (dTru (dCall 2 (f_u_law_same) (dCons (dCall 4 (f_u_law_told) (dCons (dVar 14) (dCons (dVar 4) (dCons (dVar 11) (dCons (dVar 8) dNil))))) (dCons (dTup (dCons (dC (.str "counts")) (dCons (dVar 3) dNil))) dNil))))) (dRet (dC (.bl false))) dNext))
    (dFor (dSeqI (dTup (dCons (dC (.str "least")) (dCons (dC (.str "below")) dNil)))) (gN 14) (dIfS (dNot (dTru (dCall 2 (f_u_law_same) (dCons (dCall 4 (f_u_law_told) (dCons (dVar 14) (dCons (dVar 4) (dCons (dVar 8) (dCons (dVar 11) dNil))))) (dCons (dTup (dCons (dC (.str "counts")) (dCons (dVar 3) dNil))) dNil))))) (dRet (dC (.bl false))) dNext)))))))))))
    (dRet (dC (.bl true)))))))))
@[irreducible] noncomputable def f_u_law_between : Fn := runF 15 d_u_law_between
theorem run_u_law_between (a0 a1 a2 : W) : f_u_law_between [a0, a1, a2] = bd (d_u_law_between [some a0, some a1, some a2, none, none, none, none, none, none, none, none, none, none, none, none]) endF := by delta f_u_law_between; rfl
theorem ok_u_law_between (Z : Facts K mg) (B : TabsOk K mg base) {fd : FuncData} (F : FunD K "_law_between" "_law_between" (defArgs st_u_law_between) (defBody st_u_law_between) (defScope st_u_law_between) [] [] (ga K "_law_between") fd) : FnOk P w K mg base (L2.CX P w) 15 (ga K "_law_between") fd ["tape", "asked", "lots"] (spF K ((tabs K).map (·.2)) (et K) 3 f_u_law_between) := by
  obtain ⟨fd_u_law_ask_below, F_u_law_ask_below⟩ := Z.d_u_law_ask_below
  have G_u_law_ask_below := ok_u_law_ask_below (P := P) (w := w) Z B F_u_law_ask_below
  have b_u_law_ask_below : Binds K fd_u_law_ask_below ["asked", "lots", "one", "two"] [] := F_u_law_ask_below.bindsN fun _ _ _ _ _ _ us hl => match us, hl with | [_, _, _, _], _ => rfl
  obtain ⟨fd_u_law_ask_least, F_u_law_ask_least⟩ := Z.d_u_law_ask_least
  have G_u_law_ask_least := ok_u_law_ask_least (P := P) (w := w) Z B F_u_law_ask_least
  have b_u_law_ask_least : Binds K fd_u_law_ask_least ["lots", "one", "two"] [] := F_u_law_ask_least.bindsN fun _ _ _ _ _ _ us hl => match us, hl with | [_, _, _], _ => rfl
  obtain ⟨fd_u_law_draw, F_u_law_draw⟩ := Z.d_u_law_draw
  have G_u_law_draw := ok_u_law_draw (P := P) (w := w) Z B F_u_law_draw
  have b_u_law_draw : Binds K fd_u_law_draw ["tape", "many"] [] := F_u_law_draw.bindsN fun _ _ _ _ _ _ us hl => match us, hl with | [_, _], _ => rfl
  obtain ⟨fd_u_law_same, F_u_law_same⟩ := Z.d_u_law_same
  have G_u_law_same := ok_u_law_same (P := P) (w := w) Z B F_u_law_same
  have b_u_law_same : Binds K fd_u_law_same ["told", "due"] [] := F_u_law_same.bindsN fun _ _ _ _ _ _ us hl => match us, hl with | [_, _], _ => rfl
  obtain ⟨fd_u_law_told, F_u_law_told⟩ := Z.d_u_law_told
  have G_u_law_told := ok_u_law_told (P := P) (w := w) Z B F_u_law_told
  have b_u_law_told : Binds K fd_u_law_told ["which", "lots", "one", "two"] [] := F_u_law_told.bindsN fun _ _ _ _ _ _ us hl => match us, hl with | [_, _, _, _], _ => rfl
  obtain ⟨fd_u_law_with, F_u_law_with⟩ := Z.d_u_law_with
  have G_u_law_with := ok_u_law_with (P := P) (w := w) Z B F_u_law_with
  have b_u_law_with : Binds K fd_u_law_with ["row", "at", "item"] [] := F_u_law_with.bindsN fun _ _ _ _ _ _ us hl => match us, hl with | [_, _, _], _ => rfl
  have S := sc_u_law_between
  obtain ⟨oc, od, dV, kV, doc, pm, an, cdv, ct, osl, rfl, lk, hcd, _, _⟩ := F.ex
  delta f_u_law_between
  refine fn_mp lk hcd sc_u_law_between (by decide) fun A outer s H E hr => ?_
  exact (pdss_cons (pds_set (i := 3) S.nd rfl (by first | exact Or.inl rfl | exact Or.inr rfl) (pd_call G_u_law_draw takes_mp (hr.mono (by decide)) rfl Z.g_u_law_draw F_u_law_draw.kp b_u_law_draw (pda_cons (pdv 0) (pda_cons (pd_len Z.b_len (pda_cons (pdv 2) pda_nil)) pda_nil))) (hs := by kernel_rfl))
    (pdss_cons (pds_set (i := 4) S.nd rfl (by first | exact Or.inl rfl | exact Or.inr rfl) (pd_tupC Z.b_tuple (pda_cons (pd_lc (own := [("lot", 5)]) rfl S.nd (pdi_seq (pdv 2)) (blk_ok (by kernel_rfl)) (fun _ _ _ _ _ => (pdgo_name (i := 5) S.nd rfl (by first | exact Or.inl rfl | exact Or.inr rfl) (by decide))) (fun _ _ _ _ _ => pdts_nil) (fun _ _ _ _ _ => (pd_tup (pda_cons (pd_ixs (pdv 5) pd_int) (pda_cons pd_int pda_nil))))) pda_nil)) (hs := by kernel_rfl))
    (pdss_cons (pds_set (i := 6) S.nd rfl (by first | exact Or.inl rfl | exact Or.inr rfl) (pd_tupC Z.b_tuple (pda_cons (pd_lc (own := [("lot", 5)]) rfl S.nd (pdi_seq (pdv 2)) (blk_ok (by kernel_rfl)) (fun _ _ _ _ _ => (pdgo_name (i := 5) S.nd rfl (by first | exact Or.inl rfl | exact Or.inr rfl) (by decide))) (fun _ _ _ _ _ => pdts_nil) (fun _ _ _ _ _ => pd_int)) pda_nil)) (hs := by kernel_rfl))
    (pdss_cons (pds_set (i := 7) S.nd rfl (by first | exact Or.inl rfl | exact Or.inr rfl) (pd_tupC Z.b_tuple (pda_cons (pd_lc (own := [("lot", 5)]) rfl S.nd (pdi_seq (pdv 2)) (blk_ok (by kernel_rfl)) (fun _ _ _ _ _ => (pdgo_name (i := 5) S.nd rfl (by first | exact Or.inl rfl | exact Or.inr rfl) (by decide))) (fun _ _ _ _ _ => pdts_nil) (fun _ _ _ _ _ => pd_int)) pda_nil)) (hs := by kernel_rfl))
    (pdss_cons (pds_set (i := 8) S.nd rfl (by first | exact Or.inl rfl | exact Or.inr rfl) (pd_tupC Z.b_tuple (pda_cons (pd_lc (own := [("lot", 5)]) rfl S.nd (pdi_seq (pdv 2)) (blk_ok (by kernel_rfl)) (fun _ _ _ _ _ => (pdgo_name (i := 5) S.nd rfl (by first | exact Or.inl rfl | exact Or.inr rfl) (by decide))) (fun _ _ _ _ _ => pdts_nil) (fun _ _ _ _ _ => pd_int)) pda_nil)) (hs := by kernel_rfl))
    (pdss_cons (pds_for owns_mp rfl (pdi_seq (pd_tup (pda_cons (pd_tup (pda_cons (pdv 6) (pda_cons pd_bl pda_nil))) (pda_cons (pd_tup (pda_cons (pdv 7) (pda_cons pd_bl pda_nil))) pda_nil)))) (pdg_name (i := 9) S.nd rfl (by first | exact Or.inl rfl | exact Or.inr rfl)) (pdss_cons (pds_set (i := 10) S.nd rfl (by first | exact Or.inl rfl | exact Or.inr rfl) (pd_ixs (pdv 9) pd_int) (hs := by kernel_rfl))
    (pdss_cons (pds_set (i := 11) S.nd rfl (by first | exact Or.inl rfl | exact Or.inr rfl) (pd_call G_u_law_with takes_mp (hr.mono (by decide)) rfl Z.g_u_law_with F_u_law_with.kp b_u_law_with (pda_cons (pdv 10) (pda_cons (pdv 3) (pda_cons (pd_ixs (pdv 9) pd_int) pda_nil)))) (hs := by kernel_rfl))
    (pdss_one (pds_for owns_mp rfl (pdi_range1 rfl Z.b_range (pda_cons pd_int pda_nil)) (pdg_name (i := 12) S.nd rfl (by first | exact Or.inl rfl | exact Or.inr rfl)) (pdss_cons (pds_if (pdt_w (pdw_or (pdt_not (pdt_tru (pd_call G_u_law_ask_least takes_mp (hr.mono (by decide)) rfl Z.g_u_law_ask_least F_u_law_ask_least.kp b_u_law_ask_least (pda_cons (pdv 4) (pda_cons (pdv 10) (pda_cons (pdv 8) pda_nil)))))) (pdw_or1 (pdt_not (pdt_tru (pd_call G_u_law_ask_below takes_mp (hr.mono (by decide)) rfl Z.g_u_law_ask_below F_u_law_ask_below.kp b_u_law_ask_below (pda_cons (pdv 1) (pda_cons (pdv 4) (pda_cons (pdv 10) (pda_cons (pdv 8) pda_nil)))))))))) (pdss_one (pds_ret pd_bl)) pdss_nil)
    (pdss_cons (pds_if (pdt_not (pdt_tru (pd_call G_u_law_ask_below takes_mp (hr.mono (by decide)) rfl Z.g_u_law_ask_below F_u_law_ask_below.kp b_u_law_ask_below (pda_cons (pdv 1) (pda_cons (pdv 4) (pda_cons (pdv 8) (pda_cons (pdv 10) pda_nil))))))) (pdss_one (pds_ret pd_bl)) pdss_nil)
    (pdss_cons (pds_if (pdt_not (pdt_tru (pd_call G_u_law_same takes_mp (hr.mono (by decide)) rfl Z.g_u_law_same F_u_law_same.kp b_u_law_same (pda_cons (pd_call G_u_law_told takes_mp (hr.mono (by decide)) rfl Z.g_u_law_told F_u_law_told.kp b_u_law_told (pda_cons pd_str (pda_cons (pdv 4) (pda_cons (pdv 10) (pda_cons pd_int pda_nil))))) (pda_cons (pd_tup (pda_cons pd_str (pda_cons (pd_tupC Z.b_tuple (pda_cons (pd_lc (own := [("number", 13)]) rfl S.nd (pdi_seq (pdv 10)) (blk_ok (by kernel_rfl)) (fun _ _ _ _ _ => (pdgo_name (i := 13) S.nd rfl (by first | exact Or.inl rfl | exact Or.inr rfl) (by decide))) (fun _ _ _ _ _ => pdts_nil) (fun _ _ _ _ _ => (pd_sub pd_int (pdv 13)))) pda_nil)) pda_nil))) pda_nil))))) (pdss_one (pds_ret pd_bl)) pdss_nil)
    (pdss_cons (pds_if (pdt_not (pdt_tru (pd_call G_u_law_same takes_mp (hr.mono (by decide)) rfl Z.g_u_law_same F_u_law_same.kp b_u_law_same (pda_cons (pd_call G_u_law_told takes_mp (hr.mono (by decide)) rfl Z.g_u_law_told F_u_law_told.kp b_u_law_told (pda_cons pd_str (pda_cons (pdv 4) (pda_cons (pdv 10) (pda_cons pd_int pda_nil))))) (pda_cons (pd_tup (pda_cons pd_str (pda_cons (pd_tupC Z.b_tuple (pda_cons (pd_lc (own := [("number", 13)]) rfl S.nd (pdi_seq (pdv 10)) (blk_ok (by kernel_rfl)) (fun _ _ _ _ _ => (pdgo_name (i := 13) S.nd rfl (by first | exact Or.inl rfl | exact Or.inr rfl) (by decide))) (fun _ _ _ _ _ => pdts_nil) (fun _ _ _ _ _ => (pd_sl (pd_tup (pda_cons (pd_tup (pda_cons pd_int (pda_cons pd_int pda_nil))) pda_nil)) pdo_none (pdo_some (pdv 13))))) pda_nil)) pda_nil))) pda_nil))))) (pdss_one (pds_ret pd_bl)) pdss_nil)
    (pdss_cons (pds_for owns_mp rfl (pdi_seq (pd_tup (pda_cons pd_str (pda_cons pd_str (pda_cons pd_str (pda_cons pd_str pda_nil)))))) (pdg_name (i := 14) S.nd rfl (by first | exact Or.inl rfl | exact Or.inr rfl)) (pdss_one (pds_if (pdt_not (pdt_tru (pd_call G_u_law_same takes_mp (hr.mono (by decide)) rfl Z.g_u_law_same F_u_law_same.kp b_u_law_same (pda_cons (pd_call G_u_law_told takes_mp (hr.mono (by decide)) rfl Z.g_u_law_told F_u_law_told.kp b_u_law_told (pda_cons (pdv 14) (pda_cons (pdv 4) (pda_cons (pdv 11) (pda_cons (pdv 8) pda_nil))))) (pda_cons (pd_tup (pda_cons pd_str (pda_cons (pdv 3) pda_nil))) pda_nil))))) (pdss_one (pds_ret pd_bl)) pdss_nil)))
    (pdss_one (pds_for owns_mp rfl (pdi_seq (pd_tup (pda_cons pd_str (pda_cons pd_str pda_nil)))) (pdg_name (i := 14) S.nd rfl (by first | exact Or.inl rfl | exact Or.inr rfl)) (pdss_one (pds_if (pdt_not (pdt_tru (pd_call G_u_law_same takes_mp (hr.mono (by decide)) rfl Z.g_u_law_same F_u_law_same.kp b_u_law_same (pda_cons (pd_call G_u_law_told takes_mp (hr.mono (by decide)) rfl Z.g_u_law_told F_u_law_told.kp b_u_law_told (pda_cons (pdv 14) (pda_cons (pdv 4) (pda_cons (pdv 8) (pda_cons (pdv 11) pda_nil))))) (pda_cons (pd_tup (pda_cons pd_str (pda_cons (pdv 3) pda_nil))) pda_nil))))) (pdss_one (pds_ret pd_bl)) pdss_nil))))))))))))))
    (pdss_one (pds_ret pd_bl))))))))
theorem sc_law : FnScope ["script", "tape", "asked", "lots", "one", "lot", "two", "at"] ["script"] (defScope st_law) := ⟨rfl, rfl, rfl, by decide +kernel, rfl, by decide +kernel, by decide +kernel⟩
noncomputable def d_law : DS := (dSeq (dAsg (dCall 1 (f_u_law_tape) (dCons (dVar 0) dNil)) (gN 1))
    (dSeq (dAsg (dLst (dCons (dC (.int 0)) (dCons (dC (.int 0)) (dCons (dC (.int 0)) (dCons (dC (.int 0)) dNil))))) (gN 2))
    (dSeq (dAsg (dCall 2 (f_u_law_lots) (dCons (dVar 1) (dCons (dOp wAdd (dC (.int 1)) (dCall 2 (f_u_law_draw) (dCons (dVar 1) (dCons (dC (.int 8)) dNil)))) dNil))) (gN 3))
    (dSeq (dAsg (dCB (on1 wTupOf) (dCons (dLc (dSeqI (dVar 3)) (gN 5) dYes (dCall 2 (f_u_law_upto) (dCons (dVar 1) (dCons (dOp wIx (dVar 5) (dC (.int 1))) dNil))) [5]) dNil)) (gN 4))
    (dSeq (dAsg (dCB (on1 wTupOf) (dCons (dLc (dRng1 (dCons (dCB (on1 wLen) (dCons (dVar 3) dNil)) dNil)) (gN 7) dYes (dCall 3 (f_u_law_second) (dCons (dVar 1) (dCons (dOp wIx (dOp wIx (dVar 3) (dVar 7)) (dC (.int 1))) (dCons (dOp wIx (dVar 4) (dVar 7)) dNil)))) [7]) dNil)) (gN 6))
    (dSeq (dIfS (dNot (dTru (dCall 5 (f_u_law_pair) (dCons (dVar 1) (dCons (dVar 2) (dCons (dVar 3) (dCons (dVar 4) (dCons (dVar 6) dNil)))))))) (dRet (dC (.bl false))) dNext)
    (dSeq (dIfS (dOr (dNot (dTru (dCall 3 (f_u_law_first_last) (dCons (dVar 3) (dCons (dVar 4) (dCons (dVar 6) dNil)))))) (dNot (dTru (dCall 3 (f_u_law_first_last) (dCons (dVar 3) (dCons (dVar 6) (dCons (dVar 4) dNil))))))) (dRet (dC (.bl false))) dNext)
    (dSeq (dIfS (dNot (dTru (dCall 3 (f_u_law_small) (dCons (dVar 1) (dCons (dVar 2) (dCons (dVar 3) dNil)))))) (dRet (dC (.bl false))) dNext)
    (dSeq (dIfS (dOr (dNot (dTru (dCall 4 (f_u_law_doors) (dCons (dVar 1) (dCons (dVar 2) (dCons (dVar 3) (dCons (dVar 4) dNil))))))) (dNot (dTru (dCall 3 (f_u_law_between) (dCons (dVar 1) (dCons (dVar 2) (dCons (dVar 3) dNil))))))) (dRet (dC (.bl false))) dNext)
    (dSeq (dIfS (dNot (dTru (dCall 3 (f_u_law_ask_least) (dCons (dVar 3) (dCons (dVar 4) (dCons (dVar 6) dNil)))))) (dRet (dC (.bl false))) dNext)
    (dRet (dOp wGt (dCB (on1 wMinL) (dCons (dVar 2) dNil)) (dC (.int 0))))))))))))))
@[irreducible] noncomputable def f_law : Fn := runF 8 d_law
theorem run_law (a0 : W) : f_law [a0] = bd (d_law [some a0, none, none, none, none, none, none, none]) endF := by delta f_law; rfl
theorem ok_law (Z : Facts K mg) (B : TabsOk K mg base) {fd : FuncData} (F : FunD K "law" "law" (defArgs st_law) (defBody st_law) (defScope st_law) [] [] (ga K "law") fd) : FnOk P w K mg base (L2.CX P w) 16 (ga K "law") fd ["script"] (spF K ((tabs K).map (·.2)) (et K) 1 f_law) := by
  obtain ⟨fd_u_law_ask_least, F_u_law_ask_least⟩ := Z.d_u_law_ask_least
  have G_u_law_ask_least := ok_u_law_ask_least (P := P) (w := w) Z B F_u_law_ask_least
  have b_u_law_ask_least : Binds K fd_u_law_ask_least ["lots", "one", "two"] [] := F_u_law_ask_least.bindsN fun _ _ _ _ _ _ us hl => match us, hl with | [_, _, _], _ => rfl
  obtain ⟨fd_u_law_between, F_u_law_between⟩ := Z.d_u_law_between
  have G_u_law_between := ok_u_law_between (P := P) (w := w) Z B F_u_law_between
  have b_u_law_between : Binds K fd_u_law_between ["tape", "asked", "lots"] [] := F_u_law_between.bindsN fun _ _ _ _ _ _ us hl => match us, hl with | [_, _, _], _ => rfl
  obtain ⟨fd_u_law_doors, F_u_law_doors⟩ := Z.d_u_law_doors
  have G_u_law_doors := ok_u_law_doors (P := P) (w := w) Z B F_u_law_doors
  have b_u_law_doors : Binds K fd_u_law_doors ["tape", "asked", "lots", "one"] [] := F_u_law_doors.bindsN fun _ _ _ _ _ _ us hl => match us, hl with | [_, _, _, _], _ => rfl
  obtain ⟨fd_u_law_draw, F_u_law_draw⟩ := Z.d_u_law_draw
  have G_u_law_draw := ok_u_law_draw (P := P) (w := w) Z B F_u_law_draw
  have b_u_law_draw : Binds K fd_u_law_draw ["tape", "many"] [] := F_u_law_draw.bindsN fun _ _ _ _ _ _ us hl => match us, hl with | [_, _], _ => rfl
  obtain ⟨fd_u_law_first_last, F_u_law_first_last⟩ := Z.d_u_law_first_last
  have G_u_law_first_last := ok_u_law_first_last (P := P) (w := w) Z B F_u_law_first_last
  have b_u_law_first_last : Binds K fd_u_law_first_last ["lots", "one", "two"] [] := F_u_law_first_last.bindsN fun _ _ _ _ _ _ us hl => match us, hl with | [_, _, _], _ => rfl
  obtain ⟨fd_u_law_lots, F_u_law_lots⟩ := Z.d_u_law_lots
  have G_u_law_lots := ok_u_law_lots (P := P) (w := w) Z B F_u_law_lots
  have b_u_law_lots : Binds K fd_u_law_lots ["tape", "many"] [] := F_u_law_lots.bindsN fun _ _ _ _ _ _ us hl => match us, hl with | [_, _], _ => rfl
  obtain ⟨fd_u_law_pair, F_u_law_pair⟩ := Z.d_u_law_pair
  have G_u_law_pair := ok_u_law_pair (P := P) (w := w) Z B F_u_law_pair
  have b_u_law_pair : Binds K fd_u_law_pair ["tape", "asked", "lots", "one", "two"] [] := F_u_law_pair.bindsN fun _ _ _ _ _ _ us hl => match us, hl with | [_, _, _, _, _], _ => rfl
  obtain ⟨fd_u_law_second, F_u_law_second⟩ := Z.d_u_law_second
  have G_u_law_second := ok_u_law_second (P := P) (w := w) Z B F_u_law_second
  have b_u_law_second : Binds K fd_u_law_second ["tape", "size", "first"] [] := F_u_law_second.bindsN fun _ _ _ _ _ _ us hl => match us, hl with | [_, _, _], _ => rfl
  obtain ⟨fd_u_law_small, F_u_law_small⟩ := Z.d_u_law_small
  have G_u_law_small := ok_u_law_small (P := P) (w := w) Z B F_u_law_small
  have b_u_law_small : Binds K fd_u_law_small ["tape", "asked", "lots"] [] := F_u_law_small.bindsN fun _ _ _ _ _ _ us hl => match us, hl with | [_, _, _], _ => rfl
  obtain ⟨fd_u_law_tape, F_u_law_tape⟩ := Z.d_u_law_tape
  have G_u_law_tape := ok_u_law_tape (P := P) (w := w) Z B F_u_law_tape
  have b_u_law_tape : Binds K fd_u_law_tape ["script"] [] := F_u_law_tape.bindsN fun _ _ _ _ _ _ us hl => match us, hl with | [_], _ => rfl
  obtain ⟨fd_u_law_upto, F_u_law_upto⟩ := Z.d_u_law_upto
  have G_u_law_upto := ok_u_law_upto (P := P) (w := w) Z B F_u_law_upto
  have b_u_law_upto : Binds K fd_u_law_upto ["tape", "top"] [] := F_u_law_upto.bindsN fun _ _ _ _ _ _ us hl => match us, hl with | [_, _], _ => rfl
  have S := sc_law
  obtain ⟨oc, od, dV, kV, doc, pm, an, cdv, ct, osl, rfl, lk, hcd, _, _⟩ := F.ex
  delta f_law
  refine fn_mp lk hcd sc_law (by decide) fun A outer s H E hr => ?_
  exact (pdss_cons (pds_set (i := 1) S.nd rfl (by first | exact Or.inl rfl | exact Or.inr rfl) (pd_call G_u_law_tape takes_mp (hr.mono (by decide)) rfl Z.g_u_law_tape F_u_law_tape.kp b_u_law_tape (pda_cons (pdv 0) pda_nil)) (hs := by kernel_rfl))
    (pdss_cons (pds_set (i := 2) S.nd rfl (by first | exact Or.inl rfl | exact Or.inr rfl) (pd_lst (pda_cons pd_int (pda_cons pd_int (pda_cons pd_int (pda_cons pd_int pda_nil))))) (hs := by kernel_rfl))
    (pdss_cons (pds_set (i := 3) S.nd rfl (by first | exact Or.inl rfl | exact Or.inr rfl) (pd_call G_u_law_lots takes_mp (hr.mono (by decide)) rfl Z.g_u_law_lots F_u_law_lots.kp b_u_law_lots (pda_cons (pdv 1) (pda_cons (pd_add pd_int (pd_call G_u_law_draw takes_mp (hr.mono (by decide)) rfl Z.g_u_law_draw F_u_law_draw.kp b_u_law_draw (pda_cons (pdv 1) (pda_cons pd_int pda_nil)))) pda_nil))) (hs := by kernel_rfl))
    (pdss_cons (pds_set (i := 4) S.nd rfl (by first | exact Or.inl rfl | exact Or.inr rfl) (pd_tupC Z.b_tuple (pda_cons (pd_lc (own := [("lot", 5)]) rfl S.nd (pdi_seq (pdv 3)) (blk_ok (by kernel_rfl)) (fun _ _ _ _ _ => (pdgo_name (i := 5) S.nd rfl (by first | exact Or.inl rfl | exact Or.inr rfl) (by decide))) (fun _ _ _ _ _ => pdts_nil) (fun _ _ _ _ _ => (pd_call G_u_law_upto noWT (hr.mono (by decide)) rfl Z.g_u_law_upto F_u_law_upto.kp b_u_law_upto (pda_cons (pdv 1) (pda_cons (pd_ixs (pdv 5) pd_int) pda_nil))))) pda_nil)) (hs := by kernel_rfl))
    (pdss_cons (pds_set (i := 6) S.nd rfl (by first | exact Or.inl rfl | exact Or.inr rfl) (pd_tupC Z.b_tuple (pda_cons (pd_lc (own := [("at", 7)]) rfl S.nd (pdi_range1 rfl Z.b_range (pda_cons (pd_len Z.b_len (pda_cons (pdv 3) pda_nil)) pda_nil)) (blk_ok (by kernel_rfl)) (fun _ _ _ _ _ => (pdgo_name (i := 7) S.nd rfl (by first | exact Or.inl rfl | exact Or.inr rfl) (by decide))) (fun _ _ _ _ _ => pdts_nil) (fun _ _ _ _ _ => (pd_call G_u_law_second noWT (hr.mono (by decide)) rfl Z.g_u_law_second F_u_law_second.kp b_u_law_second (pda_cons (pdv 1) (pda_cons (pd_ixs (pd_ixs (pdv 3) (pdv 7)) pd_int) (pda_cons (pd_ixs (pdv 4) (pdv 7)) pda_nil)))))) pda_nil)) (hs := by kernel_rfl))
    (pdss_cons (pds_if (pdt_not (pdt_tru (pd_call G_u_law_pair takes_mp (hr.mono (by decide)) rfl Z.g_u_law_pair F_u_law_pair.kp b_u_law_pair (pda_cons (pdv 1) (pda_cons (pdv 2) (pda_cons (pdv 3) (pda_cons (pdv 4) (pda_cons (pdv 6) pda_nil)))))))) (pdss_one (pds_ret pd_bl)) pdss_nil)
    (pdss_cons (pds_if (pdt_w (pdw_or (pdt_not (pdt_tru (pd_call G_u_law_first_last takes_mp (hr.mono (by decide)) rfl Z.g_u_law_first_last F_u_law_first_last.kp b_u_law_first_last (pda_cons (pdv 3) (pda_cons (pdv 4) (pda_cons (pdv 6) pda_nil)))))) (pdw_or1 (pdt_not (pdt_tru (pd_call G_u_law_first_last takes_mp (hr.mono (by decide)) rfl Z.g_u_law_first_last F_u_law_first_last.kp b_u_law_first_last (pda_cons (pdv 3) (pda_cons (pdv 6) (pda_cons (pdv 4) pda_nil))))))))) (pdss_one (pds_ret pd_bl)) pdss_nil)
    (pdss_cons (pds_if (pdt_not (pdt_tru (pd_call G_u_law_small takes_mp (hr.mono (by decide)) rfl Z.g_u_law_small F_u_law_small.kp b_u_law_small (pda_cons (pdv 1) (pda_cons (pdv 2) (pda_cons (pdv 3) pda_nil)))))) (pdss_one (pds_ret pd_bl)) pdss_nil)
    (pdss_cons (pds_if (pdt_w (pdw_or (pdt_not (pdt_tru (pd_call G_u_law_doors takes_mp (hr.mono (by decide)) rfl Z.g_u_law_doors F_u_law_doors.kp b_u_law_doors (pda_cons (pdv 1) (pda_cons (pdv 2) (pda_cons (pdv 3) (pda_cons (pdv 4) pda_nil))))))) (pdw_or1 (pdt_not (pdt_tru (pd_call G_u_law_between takes_mp (hr.mono (by decide)) rfl Z.g_u_law_between F_u_law_between.kp b_u_law_between (pda_cons (pdv 1) (pda_cons (pdv 2) (pda_cons (pdv 3) pda_nil))))))))) (pdss_one (pds_ret pd_bl)) pdss_nil)
    (pdss_cons (pds_if (pdt_not (pdt_tru (pd_call G_u_law_ask_least takes_mp (hr.mono (by decide)) rfl Z.g_u_law_ask_least F_u_law_ask_least.kp b_u_law_ask_least (pda_cons (pdv 3) (pda_cons (pdv 4) (pda_cons (pdv 6) pda_nil)))))) (pdss_one (pds_ret pd_bl)) pdss_nil)
    (pdss_one (pds_ret (pd_gt (pd_minL rfl Z.b_min (pda_cons (pdv 2) pda_nil)) pd_int)))))))))))))
end
end MP

set_option Elab.async false
set_option linter.all false
set_option maxRecDepth 100000
set_option maxHeartbeats 4000000
namespace MP
open PySem PySem.Spec PyProof.Rows L2 GxR Gx He
/-! types -/
theorem kb : kitB "NoneType" "int" = some false ∧ kitB "bool" "int" = some true ∧ kitB "int" "int" = some true ∧ kitB "str" "int" = some false ∧ kitB "tuple" "int" = some false ∧ kitB "list" "int" = some false ∧ kitB "dict" "int" = some false := by decide +kernel
theorem kb2 : kitB "NoneType" "bool" = some false ∧ kitB "bool" "bool" = some true ∧ kitB "int" "bool" = some false ∧ kitB "str" "bool" = some false ∧ kitB "tuple" "bool" = some false ∧ kitB "list" "bool" = some false ∧ kitB "dict" "bool" = some false := by decide +kernel
theorem kb3 : kitB "NoneType" "tuple" = some false ∧ kitB "bool" "tuple" = some false ∧ kitB "int" "tuple" = some false ∧ kitB "str" "tuple" = some false ∧ kitB "tuple" "tuple" = some true ∧ kitB "list" "tuple" = some false ∧ kitB "dict" "tuple" = some false := by decide +kernel
theorem kb4 : kitB "NoneType" "str" = some false ∧ kitB "bool" "str" = some false ∧ kitB "int" "str" = some false ∧ kitB "str" "str" = some true ∧ kitB "tuple" "str" = some false ∧ kitB "list" "str" = some false ∧ kitB "dict" "str" = some false := by decide +kernel
theorem kb5 : kitB "NoneType" "list" = some false ∧ kitB "bool" "list" = some false ∧ kitB "int" "list" = some false ∧ kitB "str" "list" = some false ∧ kitB "tuple" "list" = some false ∧ kitB "list" "list" = some true ∧ kitB "dict" "list" = some false := by decide +kernel
def isInt : W → Bool
  | .int _ => true
  | _ => false
/-- a value of a type that isinstance tells -/
def Ty (S : Sto) (w : W) : Prop := (tyOf w S).isSome = true
theorem ty_obj {S : Sto} {n : Nat} (h : Ty S (.obj n)) : tyOf (.obj n) S = some "list" ∨ tyOf (.obj n) S = some "dict" := by
  unfold Ty at h
  cases q : S[n]? with
  | none => simp [tyOf, q] at h
  | some o => cases o <;> simp [tyOf, q] at h ⊢
theorem isi_int {S : Sto} {w : W} (h : Ty S w) : wIsi "int" w S = .ok (.bl (match w with | .int _ => true | .bl _ => true | _ => false)) S := by
  unfold wIsi
  cases w with
  | obj n => rcases ty_obj h with e | e <;> simp [e, kb]
  | exc _ _ _ _ => simp [Ty, tyOf] at h
  | _ => simp [tyOf, kb]
theorem isi_bool {S : Sto} {w : W} (h : Ty S w) : wIsi "bool" w S = .ok (.bl (match w with | .bl _ => true | _ => false)) S := by
  unfold wIsi
  cases w with
  | obj n => rcases ty_obj h with e | e <;> simp [e, kb2]
  | exc _ _ _ _ => simp [Ty, tyOf] at h
  | _ => simp [tyOf, kb2]
theorem isi_tuple {S : Sto} {w : W} (h : Ty S w) : wIsi "tuple" w S = .ok (.bl (isTup w)) S := by
  unfold wIsi
  cases w with
  | obj n => rcases ty_obj h with e | e <;> simp [e, kb3, isTup]
  | exc _ _ _ _ => simp [Ty, tyOf] at h
  | _ => simp [tyOf, kb3, isTup]
def isStr : W → Bool
  | .str _ => true
  | _ => false
theorem isi_str {S : Sto} {w : W} (h : Ty S w) : wIsi "str" w S = .ok (.bl (isStr w)) S := by
  unfold wIsi
  cases w with
  | obj n => rcases ty_obj h with e | e <;> simp [e, kb4, isStr]
  | exc _ _ _ _ => simp [Ty, tyOf] at h
  | _ => simp [tyOf, kb4, isStr]
/-! evaluating -/
theorem e_is_integer {S : Sto} {w : W} (h : Ty S w) : f_is_integer [w] S = .ok (.bl (isInt w)) S := by
  rw [run_is_integer]
  unfold d_is_integer
  cases w <;> simp [dRet, dAndV, dOrV, dNotV, dUn, dOp, dVar, dC, dB, dAnd, dOr, dNot, dTru, dCons, dNil, dTup, dCall, dCB, dIfS, dSeq, dAsg, dEx, dNext, dBrk, dCnt, dRetN, dIf, gN, dSl, dPart, dNoPart, dChain, bd, rt, endF, wB, wI, on1, on2, stuck, wTru, isi_int h, isi_bool h, isInt]
theorem e_is_number {S : Sto} {w : W} (h : Ty S w) : f_is_number [w] S = .ok (.bl (match w with | .int i => decide (0 ≤ i) | _ => false)) S := by
  rw [run_is_number]
  unfold d_is_number
  cases w <;> simp [dRet, dAndV, dOrV, dNotV, dUn, dOp, dVar, dC, dB, dAnd, dOr, dNot, dTru, dCons, dNil, dTup, dCall, dCB, dIfS, dSeq, dAsg, dEx, dNext, dBrk, dCnt, dRetN, dIf, gN, dSl, dPart, dNoPart, dChain, bd, rt, endF, wB, wI, on1, on2, stuck, wTru, e_is_integer h, isInt, wGe]
def numOk (w : W) (n : Int) : Bool := match w with
  | .int i => decide (0 ≤ i) && decide (i ≤ n)
  | _ => false
theorem e_is_number_to {S : Sto} {w : W} {n : Int} (h : Ty S w) : f_is_number_to [w, .int n] S = .ok (.bl (numOk w n)) S := by
  rw [run_is_number_to]
  unfold d_is_number_to
  cases w with
  | int i => by_cases q : 0 ≤ i <;> simp [dRet, dAndV, dOrV, dNotV, dUn, dOp, dVar, dC, dB, dAnd, dOr, dNot, dTru, dCons, dNil, dTup, dCall, dCB, dIfS, dSeq, dAsg, dEx, dNext, dBrk, dCnt, dRetN, dIf, gN, dSl, dPart, dNoPart, dChain, bd, rt, endF, wB, wI, on1, on2, stuck, wTru, e_is_number h, q, wLe, numOk]
  | _ => simp [dRet, dAndV, dOrV, dNotV, dUn, dOp, dVar, dC, dB, dAnd, dOr, dNot, dTru, dCons, dNil, dTup, dCall, dCB, dIfS, dSeq, dAsg, dEx, dNext, dBrk, dCnt, dRetN, dIf, gN, dSl, dPart, dNoPart, dChain, bd, rt, endF, wB, wI, on1, on2, stuck, wTru, e_is_number h, numOk]
theorem e_is_tuple {S : Sto} {w : W} {n : Int} (h : Ty S w) : f_is_tuple [w, .int n] S = .ok (.bl (match w with | .tup l => decide ((l.length : Int) = n) | _ => false)) S := by
  rw [run_is_tuple]
  unfold d_is_tuple
  cases w <;> simp [dRet, dAndV, dOrV, dNotV, dUn, dOp, dVar, dC, dB, dAnd, dOr, dNot, dTru, dCons, dNil, dTup, dCall, dCB, dIfS, dSeq, dAsg, dEx, dNext, dBrk, dCnt, dRetN, dIf, gN, dSl, dPart, dNoPart, dChain, bd, rt, endF, wB, wI, on1, on2, stuck, wTru, isi_tuple h, isTup, wLen, wEq, wEq2]
end MP
namespace MP
open PySem PySem.Spec PyProof.Rows L2 GxR Gx He
theorem eq_post {α : Type} {r : R α} {a : α} {S : Sto} {x : Str → Nat → Sto → Prop} (h : r.post (fun b S' => b = a ∧ S' = S) fun _ _ _ => False) : r = .ok a S := by
  cases r with
  | ok b S' => obtain ⟨rfl, rfl⟩ := h; rfl
  | stuck => exact h.elim
  | exn _ _ _ => exact h.elim
def enumK (k : Nat) (l : List W) : List W := (l.zipIdx k).map fun p => .tup [.int (p.2 : Nat), p.1]
theorem enumK0 {l : List W} : enumW l = enumK 0 l := rfl
theorem enumK_cons {k : Nat} {w : W} {l : List W} : enumK k (w :: l) = .tup [.int (k : Nat), w] :: enumK (k + 1) l := by
  unfold enumK
  rw [List.zipIdx_cons]
  rfl
theorem atI_nat {α : Type} {l : List α} {k : Nat} : atI l (k : Int) = l[k]? := by
  unfold atI ixN
  rw [if_pos (by omega)]
  by_cases h : (k : Int) < l.length
  · rw [if_pos h]; simp
  · rw [if_neg h]
    rw [List.getElem?_eq_none (by omega)]
    rfl
theorem atI_neg1 {α : Type} {l : List α} : atI l (-1) = l.getLast? := by
  unfold atI ixN
  rw [if_neg (by omega)]
  by_cases h : -(l.length : Int) ≤ -1
  · rw [if_pos h, List.getLast?_eq_getElem?]
    show l[(-1 + (l.length : Int)).toNat]? = _
    congr 1
    omega
  · rw [if_neg h]
    have : l = [] := List.eq_nil_of_length_eq_zero (by omega)
    subst this
    rfl
def cfK : List Int → List W → Nat → Option Nat
  | s :: ss, w :: ws, k => if numOk w s = true then cfK ss ws (k + 1) else some k
  | _, _, _ => none
theorem cfK_cons {s : Int} {ss : List Int} {w : W} {ws : List W} {k : Nat} : cfK (s :: ss) (w :: ws) k = if numOk w s = true then cfK ss ws (k + 1) else some k := rfl
def cfault (sz : List Int) (w : W) : Option Int := match w with
  | .tup l => if l.length = sz.length then (cfK sz l 0).map fun k => (k : Int) else some (-1)
  | _ => some (-1)
def oI : Option Int → W
  | none => .non
  | some i => .int i
/-- a value whose own type and whose items' types are told -/
def Ty1 (S : Sto) (w : W) : Prop := Ty S w ∧ ∀ l, w = .tup l → ∀ x ∈ l, Ty S x
def iv (ns : List Int) : W := .tup (ns.map W.int)
theorem e_counts_fault {S : Sto} {sz : List Int} {w : W} (h : Ty1 S w) : f_counts_fault [iv sz, w] S = .ok (oI (cfault sz w)) S := by
  refine eq_post (x := fun _ _ _ => False) ?_
  rw [run_counts_fault]
  unfold d_counts_fault
  rw [post_endF, post_seq]
  have hnum : ((sz.map W.int).length : Int) = sz.length := by simp
  cases w with
  | tup l =>
    by_cases hl : l.length = sz.length
    · have e : (dIfS (dNot (dTru (dCall 2 (f_is_tuple) (dCons (dVar 1) (dCons (dCB (on1 wLen) (dCons (dVar 0) dNil)) dNil))))) (dRet (dUn wNeg (dC (.int 1)))) dNext [some (iv sz), some (.tup l), none, none] S) = .ok (.nx [some (iv sz), some (.tup l), none, none]) S := by
        simp [dRet, dAndV, dOrV, dNotV, dUn, dOp, dVar, dC, dB, dAnd, dOr, dNot, dTru, dCons, dNil, dTup, dCall, dCB, dIfS, dSeq, dAsg, dEx, dNext, dBrk, dCnt, dRetN, dIf, gN, dSl, dPart, dNoPart, dChain, bd, rt, endF, wB, wI, on1, on2, stuck, wTru, iv, wLen, e_is_tuple h.1, hl]
      rw [e, post_ok]
      show (dSeq _ _ _ S).post _ _
      rw [post_seq]
      unfold dFor
      rw [post_bd]
      have e2 : dEnumI (dCons (dVar 0) dNil) [some (iv sz), some (.tup l), none, none] S = .ok (enumW (sz.map W.int), fun _ => True) S := by
        simp [dRet, dAndV, dOrV, dNotV, dUn, dOp, dVar, dC, dB, dAnd, dOr, dNot, dTru, dCons, dNil, dTup, dCall, dCB, dIfS, dSeq, dAsg, dEx, dNext, dBrk, dCnt, dRetN, dIf, gN, dSl, dPart, dNoPart, dChain, bd, rt, endF, wB, wI, on1, on2, stuck, wTru, iv, dEnumI, seqOf]
      rw [e2, post_ok, enumK0]
      refine forD_post (fun items ρ S' => ∃ (k : Nat) (ss : List Int) (x y : Option W), items = enumK k (ss.map W.int) ∧ ρ = [some (iv sz), some (.tup l), x, y] ∧ S' = S ∧ k + ss.length = l.length ∧ cfK ss (l.drop k) k = cfK sz l 0) ?_ ?_ _ _ _
        ⟨0, sz, none, none, rfl, rfl, rfl, by omega, by simp⟩
      · rintro w ws ρ S' ⟨k, ss, x, y, hi, rfl, rfl, hk, hc⟩
        cases ss with
        | nil => cases hi
        | cons s ss =>
          rw [List.map_cons, enumK_cons] at hi
          simp only [List.cons.injEq] at hi
          obtain ⟨rfl, rfl⟩ := hi
          refine ⟨trivial, ?_⟩
          have hlt : k < l.length := by rw [List.length_cons] at hk; omega
          have hg : l[k]? = some l[k] := List.getElem?_eq_getElem hlt
          have tyk : Ty S' l[k] := h.2 l rfl _ (List.getElem_mem hlt)
          rw [List.drop_eq_getElem_cons hlt] at hc
          rw [cfK_cons] at hc
          by_cases q : numOk l[k] s = true
          · rw [if_pos q] at hc
            simp [dRet, dAndV, dOrV, dNotV, dUn, dOp, dVar, dC, dB, dAnd, dOr, dNot, dTru, dCons, dNil, dTup, dCall, dCB, dIfS, dSeq, dAsg, dEx, dNext, dBrk, dCnt, dRetN, dIf, gN, dSl, dPart, dNoPart, dChain, bd, rt, endF, wB, wI, on1, on2, stuck, wTru, gT, gCons', gNil', R.post, wIx, atI_nat, hg, e_is_number_to tyk, q]
            exact ⟨k + 1, ss, ⟨rfl, by rw [List.length_cons] at hk; omega, hc⟩⟩
          · rw [if_neg q] at hc
            simp [dRet, dAndV, dOrV, dNotV, dUn, dOp, dVar, dC, dB, dAnd, dOr, dNot, dTru, dCons, dNil, dTup, dCall, dCB, dIfS, dSeq, dAsg, dEx, dNext, dBrk, dCnt, dRetN, dIf, gN, dSl, dPart, dNoPart, dChain, bd, rt, endF, wB, wI, on1, on2, stuck, wTru, gT, gCons', gNil', R.post, wIx, atI_nat, hg, e_is_number_to tyk, q]
            simp [oI, cfault, hl, ← hc]
      · rintro ρ S' ⟨k, ss, x, y, hi, rfl, rfl, hk, hc⟩
        refine ⟨trivial, ?_⟩
        cases ss with
        | cons s ss => rw [List.map_cons, enumK_cons] at hi; cases hi
        | nil =>
          simp [dRet, dAndV, dOrV, dNotV, dUn, dOp, dVar, dC, dB, dAnd, dOr, dNot, dTru, dCons, dNil, dTup, dCall, dCB, dIfS, dSeq, dAsg, dEx, dNext, dBrk, dCnt, dRetN, dIf, gN, dSl, dPart, dNoPart, dChain, bd, rt, endF, wB, wI, on1, on2, stuck, wTru, R.post]
          simp [cfK] at hc
          simp [oI, cfault, hl, ← hc]
    · have hl' : ¬ ((l.length : Int) = (sz.length : Int)) := by omega
      simp [dRet, dAndV, dOrV, dNotV, dUn, dOp, dVar, dC, dB, dAnd, dOr, dNot, dTru, dCons, dNil, dTup, dCall, dCB, dIfS, dSeq, dAsg, dEx, dNext, dBrk, dCnt, dRetN, dIf, gN, dSl, dPart, dNoPart, dChain, bd, rt, endF, wB, wI, on1, on2, stuck, wTru, iv, wLen, e_is_tuple h.1, hl', R.post, wNeg]
      simp [oI, cfault, hl]
  | _ => simp [dRet, dAndV, dOrV, dNotV, dUn, dOp, dVar, dC, dB, dAnd, dOr, dNot, dTru, dCons, dNil, dTup, dCall, dCB, dIfS, dSeq, dAsg, dEx, dNext, dBrk, dCnt, dRetN, dIf, gN, dSl, dPart, dNoPart, dChain, bd, rt, endF, wB, wI, on1, on2, stuck, wTru, iv, wLen, e_is_tuple h.1, R.post, wNeg, oI, cfault]
end MP

set_option Elab.async false
set_option linter.all false
set_option maxRecDepth 100000
set_option maxHeartbeats 4000000
namespace MP
open PySem PySem.Spec PyProof.Rows L2 GxR Gx He
def lettersL : List Nat := (("abcdefghijklmnopqrstuvwxyz" : Str)).cps.toList
def figsL : List Nat := (("abcdefghijklmnopqrstuvwxyz0123456789" : Str)).cps.toList
def keptL : List W := match w_KEPT_WORDS with | .tup l => l | _ => []
def wordB (z : Str) : Bool := match z.cps.toList with
  | [] => false
  | c :: cs => decide (z.length ≤ 8) && (decide (c ∈ lettersL) && (!inV (.str z) (keptL.map fV) && (c :: cs).all fun c => decide (c ∈ figsL)))
def wordW (w : W) : Bool := match w with
  | .str z => wordB z
  | _ => false
theorem e_is_word {S : Sto} {w : W} (h : Ty S w) (hz : ∀ z, w = .str z → z.length ≤ 100000) : f_is_word [w] S = .ok (.bl (wordW w)) S := by
  refine eq_post (x := fun _ _ _ => False) ?_
  rw [run_is_word]
  unfold d_is_word
  rw [post_endF, post_seq]
  cases w with
  | str z =>
    have hz' := hz z rfl
    have hlen : z.cps.toList.length = z.length := rfl
    cases hc : z.cps.toList with
    | nil =>
      have h0 : z.length = 0 := by rw [← hlen, hc]; rfl
      simp [dRet, dAndV, dOrV, dNotV, dUn, dOp, dVar, dC, dB, dAnd, dOr, dNot, dTru, dCons, dNil, dTup, dCall, dCB, dIfS, dSeq, dAsg, dEx, dNext, dBrk, dCnt, dRetN, dIf, gN, dSl, dPart, dNoPart, dChain, bd, rt, endF, wB, wI, on1, on2, stuck, wTru, isi_str h, isStr, wLen, hz', h0, wLe, R.post]
      simp [wordW, wordB, hc]
    | cons c cs =>
      have h1 : z.length = cs.length + 1 := by rw [← hlen, hc]; rfl
      by_cases h8 : z.length ≤ 8
      · have g1 : (1 : Int) ≤ (z.length : Int) := by omega
        have g2 : (z.length : Int) ≤ 8 := by omega
        have e : (dIfS (dOr (dNot (dTru (dUn (wIsi "str") (dVar 0)))) (dNot (dB (dChain wLe wLe (dC (.int 1)) (dCB (on1 wLen) (dCons (dVar 0) dNil)) (dC (.int 8)))))) (dRet (dC (.bl false))) dNext [some (.str z), none] S) = .ok (.nx [some (.str z), none]) S := by
          simp [dRet, dAndV, dOrV, dNotV, dUn, dOp, dVar, dC, dB, dAnd, dOr, dNot, dTru, dCons, dNil, dTup, dCall, dCB, dIfS, dSeq, dAsg, dEx, dNext, dBrk, dCnt, dRetN, dIf, gN, dSl, dPart, dNoPart, dChain, bd, rt, endF, wB, wI, on1, on2, stuck, wTru, isi_str h, isStr, wLen, hz', wLe, g1, g2]
        rw [e, post_ok]
        show (dSeq _ _ _ S).post _ _
        rw [post_seq]
        have at0 : atI z.cps.toList 0 = some c := by rw [show (0 : Int) = ((0 : Nat) : Int) from rfl, atI_nat, hc]; rfl
        have hk : keptL.all flatW = true := by decide
        by_cases b1 : c ∈ lettersL
        · by_cases b2 : inV (.str z) (keptL.map fV) = true
          · have e : (dIfS (dOr (dB (dOp (wIn true) (dOp wIx (dVar 0) (dC (.int 0))) (dC w_LETTERS))) (dB (dOp (wIn false) (dVar 0) (dC w_KEPT_WORDS)))) (dRet (dC (.bl false))) dNext [some (.str z), none] S) = .ok (.rtn (.bl false)) S := by
              simp [dRet, dAndV, dOrV, dNotV, dUn, dOp, dVar, dC, dB, dAnd, dOr, dNot, dTru, dCons, dNil, dTup, dCall, dCB, dIfS, dSeq, dAsg, dEx, dNext, dBrk, dCnt, dRetN, dIf, gN, dSl, dPart, dNoPart, dChain, bd, rt, endF, wB, wI, on1, on2, stuck, wTru, wIx, hz', at0, wIn, w_LETTERS, show c ∈ (("abcdefghijklmnopqrstuvwxyz" : Str)).cps.toList from b1, show w_KEPT_WORDS = .tup keptL from rfl, flatW, hk, fV, b2]
            rw [e, post_ok]
            simp [wordW, wordB, hc, b2]
          · have b2' : inV (.str z) (keptL.map fV) = false := by simpa using b2
            have e : (dIfS (dOr (dB (dOp (wIn true) (dOp wIx (dVar 0) (dC (.int 0))) (dC w_LETTERS))) (dB (dOp (wIn false) (dVar 0) (dC w_KEPT_WORDS)))) (dRet (dC (.bl false))) dNext [some (.str z), none] S) = .ok (.nx [some (.str z), none]) S := by
              simp [dRet, dAndV, dOrV, dNotV, dUn, dOp, dVar, dC, dB, dAnd, dOr, dNot, dTru, dCons, dNil, dTup, dCall, dCB, dIfS, dSeq, dAsg, dEx, dNext, dBrk, dCnt, dRetN, dIf, gN, dSl, dPart, dNoPart, dChain, bd, rt, endF, wB, wI, on1, on2, stuck, wTru, wIx, hz', at0, wIn, w_LETTERS, show c ∈ (("abcdefghijklmnopqrstuvwxyz" : Str)).cps.toList from b1, show w_KEPT_WORDS = .tup keptL from rfl, flatW, hk, fV, b2']
            rw [e, post_ok]
            unfold dRet dAllG
            show (bd (bd _ _) _ S).post _ _
            rw [post_bd, post_bd]
            have e2 : dSeqI (dVar 0) [some (.str z), none] S = .ok (chars z, fun _ => True) S := by simp [dRet, dAndV, dOrV, dNotV, dUn, dOp, dVar, dC, dB, dAnd, dOr, dNot, dTru, dCons, dNil, dTup, dCall, dCB, dIfS, dSeq, dAsg, dEx, dNext, dBrk, dCnt, dRetN, dIf, gN, dSl, dPart, dNoPart, dChain, bd, rt, endF, wB, wI, on1, on2, stuck, wTru, dSeqI, seqOrStr]
            rw [e2, post_ok, post_bd]
            refine gxU_post (fun acc items S' => ∃ ds : List Nat, items = ds.map (fun c => .str ⟨#[c]⟩) ∧ acc.length + ds.length ≤ 8 ∧ S' = S ∧ (ds.all fun c => decide (c ∈ figsL)) = ((c :: cs).all fun c => decide (c ∈ figsL))) ?_ ?_ _ _ _
              ⟨c :: cs, by unfold chars; rw [hc], by simp; omega, rfl, rfl⟩
            · rintro acc w ws S' ⟨ds, hi, hn, rfl, ha⟩
              cases ds with
              | nil => cases hi
              | cons d ds =>
                simp only [List.map_cons, List.cons.injEq] at hi
                obtain ⟨rfl, rfl⟩ := hi
                rw [List.length_cons] at hn
                refine ⟨trivial, by omega, ?_⟩
                by_cases q : d ∈ figsL
                · have q' : d ∈ (("abcdefghijklmnopqrstuvwxyz0123456789" : Str)).cps.toList := q
                  simp [dRet, dAndV, dOrV, dNotV, dUn, dOp, dVar, dC, dB, dAnd, dOr, dNot, dTru, dCons, dNil, dTup, dCall, dCB, dIfS, dSeq, dAsg, dEx, dNext, dBrk, dCnt, dRetN, dIf, gN, dSl, dPart, dNoPart, dChain, bd, rt, endF, wB, wI, on1, on2, stuck, wTru, stepD, noX, noEx, dYes, wIn, w_LETTERS_AND_FIGURES, wipeW, q', R.post, isB, isF]
                  refine ⟨ds, rfl, by omega, ?_⟩
                  rw [List.all_cons] at ha
                  simpa [q] using ha
                · have q' : ¬ d ∈ (("abcdefghijklmnopqrstuvwxyz0123456789" : Str)).cps.toList := q
                  simp [dRet, dAndV, dOrV, dNotV, dUn, dOp, dVar, dC, dB, dAnd, dOr, dNot, dTru, dCons, dNil, dTup, dCall, dCB, dIfS, dSeq, dAsg, dEx, dNext, dBrk, dCnt, dRetN, dIf, gN, dSl, dPart, dNoPart, dChain, bd, rt, endF, wB, wI, on1, on2, stuck, wTru, stepD, noX, noEx, dYes, wIn, w_LETTERS_AND_FIGURES, wipeW, q', R.post, isB, isF]
                  rw [List.all_cons] at ha
                  simp only [q, decide_false, Bool.false_and] at ha
                  unfold wordW wordB
                  simp only [hc, ← ha]
                  simp
            · rintro acc S' ⟨ds, hi, hn, rfl, ha⟩
              cases ds with
              | cons d ds => cases hi
              | nil =>
                refine ⟨trivial, ?_⟩
                simp [dRet, dAndV, dOrV, dNotV, dUn, dOp, dVar, dC, dB, dAnd, dOr, dNot, dTru, dCons, dNil, dTup, dCall, dCB, dIfS, dSeq, dAsg, dEx, dNext, dBrk, dCnt, dRetN, dIf, gN, dSl, dPart, dNoPart, dChain, bd, rt, endF, wB, wI, on1, on2, stuck, wTru, R.post]
                unfold wordW wordB
                simp only [hc, ← ha]
                simp [h8, b1, b2']
        · have e : (dIfS (dOr (dB (dOp (wIn true) (dOp wIx (dVar 0) (dC (.int 0))) (dC w_LETTERS))) (dB (dOp (wIn false) (dVar 0) (dC w_KEPT_WORDS)))) (dRet (dC (.bl false))) dNext [some (.str z), none] S) = .ok (.rtn (.bl false)) S := by
            simp [dRet, dAndV, dOrV, dNotV, dUn, dOp, dVar, dC, dB, dAnd, dOr, dNot, dTru, dCons, dNil, dTup, dCall, dCB, dIfS, dSeq, dAsg, dEx, dNext, dBrk, dCnt, dRetN, dIf, gN, dSl, dPart, dNoPart, dChain, bd, rt, endF, wB, wI, on1, on2, stuck, wTru, wIx, hz', at0, wIn, w_LETTERS, show ¬ c ∈ (("abcdefghijklmnopqrstuvwxyz" : Str)).cps.toList from b1]
          rw [e, post_ok]
          simp [wordW, wordB, hc, b1]
      · have g1 : (1 : Int) ≤ (z.length : Int) := by omega
        have g2 : ¬ (z.length : Int) ≤ 8 := by omega
        simp [dRet, dAndV, dOrV, dNotV, dUn, dOp, dVar, dC, dB, dAnd, dOr, dNot, dTru, dCons, dNil, dTup, dCall, dCB, dIfS, dSeq, dAsg, dEx, dNext, dBrk, dCnt, dRetN, dIf, gN, dSl, dPart, dNoPart, dChain, bd, rt, endF, wB, wI, on1, on2, stuck, wTru, isi_str h, isStr, wLen, hz', g1, g2, wLe, R.post]
        simp [wordW, wordB, hc, h8]
  | _ => simp [dRet, dAndV, dOrV, dNotV, dUn, dOp, dVar, dC, dB, dAnd, dOr, dNot, dTru, dCons, dNil, dTup, dCall, dCB, dIfS, dSeq, dAsg, dEx, dNext, dBrk, dCnt, dRetN, dIf, gN, dSl, dPart, dNoPart, dChain, bd, rt, endF, wB, wI, on1, on2, stuck, wTru, isi_str h, isStr, R.post, wordW]
end MP

set_option Elab.async false
set_option linter.all false
set_option maxRecDepth 100000
set_option maxHeartbeats 4000000
namespace MP
open PySem PySem.Spec PyProof.Rows L2 GxR Gx He
theorem Ty.mono {S S' : Sto} {w : W} (p : Pre S S') (h : Ty S w) : Ty S' w := by
  unfold Ty at h ⊢
  cases e : tyOf w S with
  | none => rw [e] at h; cases h
  | some t => rw [p.ty e]; rfl
theorem Ty1.mono {S S' : Sto} {w : W} (p : Pre S S') (h : Ty1 S w) : Ty1 S' w := ⟨h.1.mono p, fun l e x hx => (h.2 l e x hx).mono p⟩
def Short (w : W) : Prop := ∀ z, w = .str z → z.length ≤ 100000
def wordOf (lot : W) : Str := match lot with
  | .tup (.str z :: _) => z
  | _ => ""
def lotF (kvs : List (Key × W)) (lot : W) : Option Str := match lot with
  | .tup [w, s] => if wordW w = true then (if hasK kvs (.inr (wordOf (.tup [w, s]))) = true then some "twice" else match s with
    | .int i => if i < 1 then some "size" else none
    | _ => some "size") else some "word"
  | _ => some "shape"
def oS : Option Str → W
  | none => .non
  | some z => .str z
theorem e_lot_fault {S : Sto} {d : Nat} {kvs : List (Key × W)} {lot : W} (hd : S[d]? = some (.dct kvs)) (h : Ty1 S lot) (hz : ∀ l, lot = .tup l → ∀ x ∈ l, Short x) : f_lot_fault [lot, .obj d] S = .ok (oS (lotF kvs lot)) S := by
  refine eq_post (x := fun _ _ _ => False) ?_
  rw [run_lot_fault]
  unfold d_lot_fault
  rw [post_endF, post_seq]
  cases lot with
  | tup l =>
    by_cases h2 : l.length = 2
    · match l, h2 with
      | [w, s], _ =>
        have tw := h.2 _ rfl w (by simp)
        have ts := h.2 _ rfl s (by simp)
        have zw := hz _ rfl w (by simp)
        by_cases b1 : wordW w = true
        · cases w with
          | str z =>
            by_cases b2 : hasK kvs (.inr z) = true
            · simp [dRet, dAndV, dOrV, dNotV, dUn, dOp, dVar, dC, dB, dAnd, dOr, dNot, dTru, dCons, dNil, dTup, dCall, dCB, dIfS, dSeq, dAsg, dEx, dNext, dBrk, dCnt, dRetN, dIf, gN, dSl, dPart, dNoPart, dChain, bd, rt, endF, wB, wI, on1, on2, stuck, wTru, e_is_tuple h.1, gT, gCons', gNil', e_is_word tw zw, b1, wIn, hd, keyW, b2, R.post, lotF, wordOf, oS]
            · have b2' : hasK kvs (.inr z) = false := by simpa using b2
              cases s with
              | int i =>
                by_cases b3 : i < 1 <;> simp [dRet, dAndV, dOrV, dNotV, dUn, dOp, dVar, dC, dB, dAnd, dOr, dNot, dTru, dCons, dNil, dTup, dCall, dCB, dIfS, dSeq, dAsg, dEx, dNext, dBrk, dCnt, dRetN, dIf, gN, dSl, dPart, dNoPart, dChain, bd, rt, endF, wB, wI, on1, on2, stuck, wTru, e_is_tuple h.1, gT, gCons', gNil', e_is_word tw zw, b1, wIn, hd, keyW, b2', R.post, lotF, wordOf, oS, e_is_integer ts, isInt, wLt, b3]
              | _ => simp [dRet, dAndV, dOrV, dNotV, dUn, dOp, dVar, dC, dB, dAnd, dOr, dNot, dTru, dCons, dNil, dTup, dCall, dCB, dIfS, dSeq, dAsg, dEx, dNext, dBrk, dCnt, dRetN, dIf, gN, dSl, dPart, dNoPart, dChain, bd, rt, endF, wB, wI, on1, on2, stuck, wTru, e_is_tuple h.1, gT, gCons', gNil', e_is_word tw zw, b1, wIn, hd, keyW, b2', R.post, lotF, wordOf, oS, e_is_integer ts, isInt]
          | _ => simp [wordW] at b1
        · have b1' : wordW w = false := by simpa using b1
          simp [dRet, dAndV, dOrV, dNotV, dUn, dOp, dVar, dC, dB, dAnd, dOr, dNot, dTru, dCons, dNil, dTup, dCall, dCB, dIfS, dSeq, dAsg, dEx, dNext, dBrk, dCnt, dRetN, dIf, gN, dSl, dPart, dNoPart, dChain, bd, rt, endF, wB, wI, on1, on2, stuck, wTru, e_is_tuple h.1, gT, gCons', gNil', e_is_word tw zw, b1', R.post, lotF, oS]
    · have h2' : ¬ ((l.length : Int) = 2) := by omega
      have : lotF kvs (.tup l) = some "shape" := by
        unfold lotF
        split
        · rename_i w s e
          cases e
          simp at h2
        · rfl
      simp [dRet, dAndV, dOrV, dNotV, dUn, dOp, dVar, dC, dB, dAnd, dOr, dNot, dTru, dCons, dNil, dTup, dCall, dCB, dIfS, dSeq, dAsg, dEx, dNext, dBrk, dCnt, dRetN, dIf, gN, dSl, dPart, dNoPart, dChain, bd, rt, endF, wB, wI, on1, on2, stuck, wTru, e_is_tuple h.1, h2', R.post, this, oS]
  | _ => simp [dRet, dAndV, dOrV, dNotV, dUn, dOp, dVar, dC, dB, dAnd, dOr, dNot, dTru, dCons, dNil, dTup, dCall, dCB, dIfS, dSeq, dAsg, dEx, dNext, dBrk, dCnt, dRetN, dIf, gN, dSl, dPart, dNoPart, dChain, bd, rt, endF, wB, wI, on1, on2, stuck, wTru, e_is_tuple h.1, R.post, lotF, oS]
def lotsF : List (Key × W) → Nat → List W → Option (Nat × Str)
  | _, _, [] => none
  | kvs, k, lot :: r => match lotF kvs lot with
    | some f => some (k, f)
    | none => lotsF (putW kvs (.inr (wordOf lot)) (.int k)) (k + 1) r
def lotsFault (w : W) : Option (Int × Str) := match w with
  | .tup [] => some (-1, "shape")
  | .tup l => (lotsF [] 0 l).map fun p => ((p.1 : Int), p.2)
  | _ => some (-1, "shape")
def oL : Option (Int × Str) → W
  | none => .non
  | some (i, z) => .tup [.int i, .str z]
structure LotsTy (S : Sto) (w : W) : Prop where
  ty : Ty S w
  all : ∀ l, w = .tup l → l.length ≤ 1000 ∧ ∀ lot ∈ l, Ty1 S lot ∧ ∀ m, lot = .tup m → ∀ x ∈ m, Short x
theorem LotsTy.mono {S S' : Sto} {w : W} (p : Pre S S') (h : LotsTy S w) : LotsTy S' w := ⟨h.ty.mono p, fun l e => ⟨(h.all l e).1, fun lot hl => ⟨((h.all l e).2 lot hl).1.mono p, ((h.all l e).2 lot hl).2⟩⟩⟩
theorem putW_len (l : List (Key × W)) (k : Key) (w : W) : (putW l k w).length ≤ l.length + 1 := by
  unfold putW
  split <;> simp
theorem lotF_none {kvs : List (Key × W)} {lot : W} (h : lotF kvs lot = none) : ∃ z i, lot = .tup [.str z, .int i] ∧ wordB z = true ∧ hasK kvs (.inr z) = false ∧ 1 ≤ i := by
  unfold lotF at h
  split at h
  · rename_i w s
    by_cases b1 : wordW w = true
    · rw [if_pos b1] at h
      cases w with
      | str z =>
        by_cases b2 : hasK kvs (.inr z) = true
        · have : hasK kvs (.inr (wordOf (.tup [.str z, s]))) = true := b2
          rw [if_pos this] at h
          cases h
        · have : ¬ hasK kvs (.inr (wordOf (.tup [.str z, s]))) = true := b2
          rw [if_neg this] at h
          cases s <;> first | cases h | skip
          rename_i i
          by_cases b3 : i < 1
          · simp [b3] at h
          · exact ⟨z, i, rfl, b1, by simpa using b2, by omega⟩
      | _ => simp [wordW] at b1
    · rw [if_neg b1] at h
      cases h
  · cases h
theorem atI_0 {α : Type} {w : α} {l : List α} : atI (w :: l) 0 = some w := atI_nat (k := 0)
theorem atI_1 {α : Type} {w u : α} {l : List α} : atI (w :: u :: l) 1 = some u := atI_nat (k := 1)
theorem s_lots_fault {S : Sto} {w : W} {x : Str → Nat → Sto → Prop} (h : LotsTy S w) : (f_lots_fault [w] S).post (fun v S' => v = oL (lotsFault w) ∧ Pre S S') x := by
  rw [run_lots_fault]
  unfold d_lots_fault
  rw [post_endF, post_seq]
  cases w with
  | tup l =>
    cases l with
    | nil => simp [dRet, dAndV, dOrV, dNotV, dUn, dOp, dVar, dC, dB, dAnd, dOr, dNot, dTru, dCons, dNil, dTup, dCall, dCB, dIfS, dSeq, dAsg, dEx, dNext, dBrk, dCnt, dRetN, dIf, gN, dSl, dPart, dNoPart, dChain, bd, rt, endF, wB, wI, on1, on2, stuck, wTru, isi_tuple h.ty, isTup, R.post, wNeg, lotsFault, oL, Pre.refl]
    | cons a l =>
      obtain ⟨hn, ha⟩ := h.all _ rfl
      obtain ⟨tot, ht⟩ : ∃ t, lotsF [] 0 (a :: l) = t := ⟨_, rfl⟩
      have hT : lotsFault (.tup (a :: l)) = tot.map fun p => ((p.1 : Int), p.2) := by rw [← ht]; rfl
      have e : (dIfS (dOr (dNot (dTru (dUn (wIsi "tuple") (dVar 0)))) (dNot (dTru (dVar 0)))) (dRet (dTup (dCons (dUn wNeg (dC (.int 1))) (dCons (dC (.str "shape")) dNil)))) dNext [some (.tup (a :: l)), none, none, none, none] S) = .ok (.nx [some (.tup (a :: l)), none, none, none, none]) S := by
        simp [dRet, dAndV, dOrV, dNotV, dUn, dOp, dVar, dC, dB, dAnd, dOr, dNot, dTru, dCons, dNil, dTup, dCall, dCB, dIfS, dSeq, dAsg, dEx, dNext, dBrk, dCnt, dRetN, dIf, gN, dSl, dPart, dNoPart, dChain, bd, rt, endF, wB, wI, on1, on2, stuck, wTru, isi_tuple h.ty, isTup]
      rw [e, post_ok]
      show (dSeq _ _ _ S).post _ _
      rw [post_seq]
      have e : (dAsg (fun _ => mk (.dct [])) (gN 1) [some (.tup (a :: l)), none, none, none, none] S) = .ok (.nx [some (.tup (a :: l)), some (.obj S.length), none, none, none]) (S ++ [.dct []]) := by
        simp [dRet, dAndV, dOrV, dNotV, dUn, dOp, dVar, dC, dB, dAnd, dOr, dNot, dTru, dCons, dNil, dTup, dCall, dCB, dIfS, dSeq, dAsg, dEx, dNext, dBrk, dCnt, dRetN, dIf, gN, dSl, dPart, dNoPart, dChain, bd, rt, endF, wB, wI, on1, on2, stuck, wTru, mk]
      rw [e, post_ok]
      show (dSeq _ _ _ _).post _ _
      rw [post_seq]
      unfold dFor
      rw [post_bd]
      have e2 : dEnumI (dCons (dVar 0) dNil) [some (.tup (a :: l)), some (.obj S.length), none, none, none] (S ++ [.dct []]) = .ok (enumW (a :: l), fun _ => True) (S ++ [.dct []]) := by
        simp [dRet, dAndV, dOrV, dNotV, dUn, dOp, dVar, dC, dB, dAnd, dOr, dNot, dTru, dCons, dNil, dTup, dCall, dCB, dIfS, dSeq, dAsg, dEx, dNext, dBrk, dCnt, dRetN, dIf, gN, dSl, dPart, dNoPart, dChain, bd, rt, endF, wB, wI, on1, on2, stuck, wTru, dEnumI, seqOf]
      rw [e2, post_ok, enumK0]
      refine forD_post (fun items ρ S' => ∃ (k : Nat) (r : List W) (kvs : List (Key × W)) (x y z : Option W), items = enumK k r ∧ ρ = [some (.tup (a :: l)), some (.obj S.length), x, y, z] ∧ S' = S ++ [.dct kvs] ∧ (∀ q ∈ r, q ∈ a :: l) ∧ kvs.length ≤ k ∧ k + r.length ≤ 1000 ∧ lotsF kvs k r = tot) ?_ ?_ _ _ _
        ⟨0, a :: l, [], none, none, none, rfl, rfl, rfl, fun _ q => q, by simp, by simpa using hn, ht⟩
      · rintro w ws ρ S' ⟨k, r, kvs, x, y, z, hi, rfl, rfl, hr, hk, hkr, hf⟩
        cases r with
        | nil => cases hi
        | cons lot r =>
          rw [enumK_cons] at hi
          simp only [List.cons.injEq] at hi
          obtain ⟨rfl, rfl⟩ := hi
          refine ⟨trivial, ?_⟩
          have hlot := ha lot (hr lot (by simp))
          have hd : (S ++ [.dct kvs])[S.length]? = some (.dct kvs) := by simp
          have el := e_lot_fault hd (hlot.1.mono ⟨_, rfl⟩) hlot.2
          unfold lotsF at hf
          cases hq : lotF kvs lot with
          | some f =>
            rw [hq] at hf
            rw [hq] at el
            simp [dRet, dAndV, dOrV, dNotV, dUn, dOp, dVar, dC, dB, dAnd, dOr, dNot, dTru, dCons, dNil, dTup, dCall, dCB, dIfS, dSeq, dAsg, dEx, dNext, dBrk, dCnt, dRetN, dIf, gN, dSl, dPart, dNoPart, dChain, bd, rt, endF, wB, wI, on1, on2, stuck, wTru, gT, gCons', gNil', R.post, el, oS, wIsN]
            refine ⟨?_, ⟨_, rfl⟩⟩
            rw [hT]
            simp [← hf, oL]
          | none =>
            rw [hq] at hf
            rw [hq] at el
            obtain ⟨z0, i0, rfl, _, _, _⟩ := lotF_none hq
            have hlen : kvs.length < 100000 := by rw [List.length_cons] at hkr; omega
            simp [dRet, dAndV, dOrV, dNotV, dUn, dOp, dVar, dC, dB, dAnd, dOr, dNot, dTru, dCons, dNil, dTup, dCall, dCB, dIfS, dSeq, dAsg, dEx, dNext, dBrk, dCnt, dRetN, dIf, gN, dSl, dPart, dNoPart, dChain, bd, rt, endF, wB, wI, on1, on2, stuck, wTru, gT, gCons', gNil', R.post, el, oS, wIsN, noEx, gSubW, wIx, atI_0, wSet, hd, keyW, hlen]
            have hp := putW_len kvs (.inr z0) (.int k)
            rw [List.length_cons] at hkr
            exact ⟨k + 1, r, rfl, fun q hq' => by simpa using hr q (List.mem_cons_of_mem _ hq'), by omega, by omega, hf⟩
      · rintro ρ S' ⟨k, r, kvs, x, y, z, hi, rfl, rfl, hr, hk, hkr, hf⟩
        refine ⟨trivial, ?_⟩
        cases r with
        | cons s ss => rw [enumK_cons] at hi; cases hi
        | nil =>
          simp [dRet, dAndV, dOrV, dNotV, dUn, dOp, dVar, dC, dB, dAnd, dOr, dNot, dTru, dCons, dNil, dTup, dCall, dCB, dIfS, dSeq, dAsg, dEx, dNext, dBrk, dCnt, dRetN, dIf, gN, dSl, dPart, dNoPart, dChain, bd, rt, endF, wB, wI, on1, on2, stuck, wTru, R.post]
          refine ⟨?_, ⟨_, rfl⟩⟩
          simp only [lotsF] at hf
          rw [hT]
          simp [← hf, oL]
  | _ => simp [dRet, dAndV, dOrV, dNotV, dUn, dOp, dVar, dC, dB, dAnd, dOr, dNot, dTru, dCons, dNil, dTup, dCall, dCB, dIfS, dSeq, dAsg, dEx, dNext, dBrk, dCnt, dRetN, dIf, gN, dSl, dPart, dNoPart, dChain, bd, rt, endF, wB, wI, on1, on2, stuck, wTru, isi_tuple h.ty, isTup, R.post, wNeg, lotsFault, oL, Pre.refl]
end MP

set_option Elab.async false
set_option linter.all false
set_option maxRecDepth 100000
set_option maxHeartbeats 4000000
namespace MP
open PySem PySem.Spec PyProof.Rows L2 GxR Gx He
def lotW (p : Str × Int) : W := .tup [.str p.1, .int p.2]
def lotsV (L : List (Str × Int)) : W := .tup (L.map lotW)
theorem lotsF_form : ∀ {l : List W} {kvs : List (Key × W)} {k : Nat}, lotsF kvs k l = none → ∃ L : List (Str × Int), l = L.map lotW
  | [], _, _, _ => ⟨[], rfl⟩
  | lot :: r, kvs, k, h => by
    unfold lotsF at h
    cases e : lotF kvs lot with
    | some f => rw [e] at h; cases h
    | none =>
      rw [e] at h
      obtain ⟨z, i, rfl, _⟩ := lotF_none e
      obtain ⟨L, rfl⟩ := lotsF_form h
      exact ⟨(z, i) :: L, rfl⟩
theorem lots_form {w : W} (h : lotsFault w = none) : ∃ L, w = lotsV L := by
  unfold lotsFault at h
  split at h
  · cases h
  · rename_i l _
    cases e : lotsF [] 0 l with
    | none =>
      obtain ⟨L, rfl⟩ := lotsF_form e
      exact ⟨L, rfl⟩
    | some p => rw [e] at h; cases h
  · cases h
theorem e_sizes_of {S : Sto} {L : List (Str × Int)} (hl : L.length ≤ 1000) : f_sizes_of [lotsV L] S = .ok (iv (L.map (·.2))) S := by
  refine eq_post (x := fun _ _ _ => False) ?_
  rw [run_sizes_of]
  unfold d_sizes_of dRet dTupG
  rw [post_endF, post_bd, post_bd]
  have e2 : dSeqI (dVar 0) [some (lotsV L), none, none] S = .ok (L.map lotW, fun _ => True) S := by simp [dRet, dAndV, dOrV, dNotV, dUn, dOp, dVar, dC, dB, dAnd, dOr, dNot, dTru, dCons, dNil, dTup, dCall, dCB, dIfS, dSeq, dAsg, dEx, dNext, dBrk, dCnt, dRetN, dIf, gN, dSl, dPart, dNoPart, dChain, bd, rt, endF, wB, wI, on1, on2, stuck, wTru, dSeqI, seqOrStr, lotsV, seqOf]
  rw [e2, post_ok, post_bd]
  refine gxU_post (fun acc items S' => ∃ r : List (Str × Int), items = r.map lotW ∧ acc.length + r.length ≤ 1000 ∧ S' = S ∧ acc ++ r.map (fun p => W.int p.2) = L.map fun p => W.int p.2) ?_ ?_ _ _ _ ⟨L, rfl, by simpa using hl, rfl, by simp⟩
  · rintro acc w ws S' ⟨r, hi, hn, rfl, ha⟩
    cases r with
    | nil => cases hi
    | cons p r =>
      simp only [List.map_cons, List.cons.injEq] at hi
      obtain ⟨rfl, rfl⟩ := hi
      rw [List.length_cons] at hn
      refine ⟨trivial, by omega, ?_⟩
      simp [dRet, dAndV, dOrV, dNotV, dUn, dOp, dVar, dC, dB, dAnd, dOr, dNot, dTru, dCons, dNil, dTup, dCall, dCB, dIfS, dSeq, dAsg, dEx, dNext, dBrk, dCnt, dRetN, dIf, gN, dSl, dPart, dNoPart, dChain, bd, rt, endF, wB, wI, on1, on2, stuck, wTru, stepD, noX, noEx, dYes, wipeW, R.post, lotW, gT, gCons', gNil']
      refine ⟨r, rfl, by omega, ?_⟩
      rw [List.map_cons] at ha
      simpa using ha
  · rintro acc S' ⟨r, hi, hn, rfl, ha⟩
    cases r with
    | cons p r => cases hi
    | nil =>
      refine ⟨trivial, ?_⟩
      simp [dRet, dAndV, dOrV, dNotV, dUn, dOp, dVar, dC, dB, dAnd, dOr, dNot, dTru, dCons, dNil, dTup, dCall, dCB, dIfS, dSeq, dAsg, dEx, dNext, dBrk, dCnt, dRetN, dIf, gN, dSl, dPart, dNoPart, dChain, bd, rt, endF, wB, wI, on1, on2, stuck, wTru, R.post]
      simp at ha
      rw [ha]
      simp [iv, Function.comp_def]
inductive Ft where
  | lots (i : Int) (z : Str) | counts (i : Int)
def faultLots (w : W) : Option Ft := (lotsFault w).map fun p => .lots p.1 p.2
def Exn (g : Ft) (c : Str) (n : Nat) (S : Sto) : Prop := match g with
  | .lots i z => c = "BadLots" ∧ S[n]? = some (.xd [("word", .str z), ("at", .int i)])
  | .counts i => c = "BadCounts" ∧ S[n]? = some (.xd [("at", .int i)])
theorem Exn.mono {g : Ft} {c : Str} {n : Nat} {S S' : Sto} (p : Pre S S') (h : Exn g c n S) : Exn g c n S' := by
  cases g with
  | lots i z => exact ⟨h.1, p.get h.2⟩
  | counts i => exact ⟨h.1, p.get h.2⟩
/-- r: where f is none a value of v, else that exception; the store only grows -/
def Res (S : Sto) (f : Option Ft) (v : W → Prop) (r : R W) : Prop := r.post (fun w S' => f = none ∧ v w ∧ Pre S S') fun c n S' => ∃ g, f = some g ∧ Exn g c n S' ∧ Pre S S'
theorem s_check_lots {S : Sto} {w : W} (h : LotsTy S w) : Res S (faultLots w) (fun v => ∃ l, w = .tup l ∧ v = .int l.length) (f_check_lots [w] S) := by
  unfold Res
  rw [run_check_lots]
  unfold d_check_lots
  rw [post_endF, post_seq]
  unfold dAsg
  rw [post_bd]
  have e : (dCall 1 f_lots_fault (dCons (dVar 0) dNil) [some w, none] S) = f_lots_fault [w] S := by simp [dRet, dAndV, dOrV, dNotV, dUn, dOp, dVar, dC, dB, dAnd, dOr, dNot, dTru, dCons, dNil, dTup, dCall, dCB, dIfS, dSeq, dAsg, dEx, dNext, dBrk, dCnt, dRetN, dIf, gN, dSl, dPart, dNoPart, dChain, bd, rt, endF, wB, wI, on1, on2, stuck, wTru]
  rw [e]
  refine post_imp (s_lots_fault h) (fun v S1 hv => ?_) fun _ _ _ z => z
  obtain ⟨rfl, p⟩ := hv
  cases q : lotsFault w with
  | none =>
    obtain ⟨L, rfl⟩ := lots_form q
    have q2 : lotsFault (.tup (L.map lotW)) = none := q
    simp [dRet, dAndV, dOrV, dNotV, dUn, dOp, dVar, dC, dB, dAnd, dOr, dNot, dTru, dCons, dNil, dTup, dCall, dCB, dIfS, dSeq, dAsg, dEx, dNext, dBrk, dCnt, dRetN, dIf, gN, dSl, dPart, dNoPart, dChain, bd, rt, endF, wB, wI, on1, on2, stuck, wTru, R.post, oL, wIsN, faultLots, q2, lotsV, wLen]
    exact p
  | some f =>
    obtain ⟨i, z⟩ := f
    simp [dRet, dAndV, dOrV, dNotV, dUn, dOp, dVar, dC, dB, dAnd, dOr, dNot, dTru, dCons, dNil, dTup, dCall, dCB, dIfS, dSeq, dAsg, dEx, dNext, dBrk, dCnt, dRetN, dIf, gN, dSl, dPart, dNoPart, dChain, bd, rt, endF, wB, wI, on1, on2, stuck, wTru, R.post, oL, wIsN, faultLots, q, atI_0, atI_1, wIx, dRaise]
    refine ⟨⟨rfl, by simp⟩, p.trans ⟨_, rfl⟩⟩
def szW (w : W) : List Int := match w with
  | .tup l => l.map fun lot => match lot with
    | .tup [_, .int i] => i
    | _ => 0
  | _ => []
theorem szW_lots {L : List (Str × Int)} : szW (lotsV L) = L.map (·.2) := by
  unfold szW lotsV
  simp [lotW, Function.comp_def]
def faultCounts (lots thing : W) : Option Ft := match faultLots lots with
  | some f => some f
  | none => (cfault (szW lots) thing).map .counts
theorem cfK_ints : ∀ {ss : List Int} {l : List W} {k : Nat}, cfK ss l k = none → l.length = ss.length → ∃ ns : List Int, l = ns.map W.int
  | [], [], _, _, _ => ⟨[], rfl⟩
  | [], _ :: _, _, _, h => by simp at h
  | _ :: _, [], _, _, h => by simp at h
  | s :: ss, w :: l, k, h, hl => by
    rw [cfK_cons] at h
    by_cases q : numOk w s = true
    · rw [if_pos q] at h
      obtain ⟨ns, rfl⟩ := cfK_ints h (by simpa using hl)
      cases w <;> first | (simp [numOk] at q; done) | skip
      rename_i i
      exact ⟨i :: ns, rfl⟩
    · rw [if_neg q] at h
      cases h
theorem cfault_ints {sz : List Int} {w : W} (h : cfault sz w = none) : ∃ ns : List Int, w = iv ns ∧ ns.length = sz.length := by
  unfold cfault at h
  cases w <;> first | cases h | skip
  rename_i l
  by_cases hl : l.length = sz.length
  · simp only [if_pos hl] at h
    have h : cfK sz l 0 = none := by
      cases q : cfK sz l 0 with
      | none => rfl
      | some k => rw [q] at h; cases h
    obtain ⟨ns, rfl⟩ := cfK_ints h hl
    exact ⟨ns, rfl, by simpa using hl⟩
  · simp only [if_neg hl] at h
    cases h
theorem intsW_map : ∀ ns : List Int, intsW (ns.map W.int) = some ns
  | [] => rfl
  | n :: ns => by
    rw [List.map_cons]
    unfold intsW
    rw [intsW_map ns]
    rfl
theorem wSum_iv {ns : List Int} : wSum (iv ns) = rt (.int ns.sum) := by
  unfold iv wSum
  simp only [intsW_map]
theorem len_of {S : Sto} {L : List (Str × Int)} (h : LotsTy S (lotsV L)) : L.length ≤ 1000 := by simpa using (h.all _ rfl).1
theorem s_check_counts {S : Sto} {w t : W} (h : LotsTy S w) (ht : Ty1 S t) : Res S (faultCounts w t) (fun _ => True) (f_check_counts [w, t] S) := by
  unfold Res
  rw [run_check_counts]
  unfold d_check_counts
  rw [post_endF, post_seq]
  unfold dEx
  rw [post_bd]
  have e : (dCall 1 f_check_lots (dCons (dVar 0) dNil) [some w, some t, none] S) = f_check_lots [w] S := by simp [dRet, dAndV, dOrV, dNotV, dUn, dOp, dVar, dC, dB, dAnd, dOr, dNot, dTru, dCons, dNil, dTup, dCall, dCB, dIfS, dSeq, dAsg, dEx, dNext, dBrk, dCnt, dRetN, dIf, gN, dSl, dPart, dNoPart, dChain, bd, rt, endF, wB, wI, on1, on2, stuck, wTru]
  rw [e]
  refine post_imp (s_check_lots h) (fun v S1 hv => ?_) fun c n S1 hx => ?_
  · obtain ⟨q, _, p⟩ := hv
    have q' : lotsFault w = none := by unfold faultLots at q; simpa using q
    obtain ⟨L, rfl⟩ := lots_form q'
    have fc : faultCounts (lotsV L) t = (cfault (L.map (·.2)) t).map .counts := by unfold faultCounts; rw [q, szW_lots]
    cases hc : cfault (L.map (·.2)) t with
    | none =>
      obtain ⟨ns, rfl, hn⟩ := cfault_ints hc
      simp [dRet, dAndV, dOrV, dNotV, dUn, dOp, dVar, dC, dB, dAnd, dOr, dNot, dTru, dCons, dNil, dTup, dCall, dCB, dIfS, dSeq, dAsg, dEx, dNext, dBrk, dCnt, dRetN, dIf, gN, dSl, dPart, dNoPart, dChain, bd, rt, endF, wB, wI, on1, on2, stuck, wTru, R.post, e_sizes_of (len_of h), e_counts_fault (ht.mono p), hc, oI, wIsN, wSum_iv]
      rw [fc, hc]
      exact ⟨rfl, p⟩
    | some i =>
      simp [dRet, dAndV, dOrV, dNotV, dUn, dOp, dVar, dC, dB, dAnd, dOr, dNot, dTru, dCons, dNil, dTup, dCall, dCB, dIfS, dSeq, dAsg, dEx, dNext, dBrk, dCnt, dRetN, dIf, gN, dSl, dPart, dNoPart, dChain, bd, rt, endF, wB, wI, on1, on2, stuck, wTru, R.post, e_sizes_of (len_of h), e_counts_fault (ht.mono p), hc, oI, wIsN, dRaise]
      rw [fc, hc]
      exact ⟨_, rfl, ⟨rfl, by simp⟩, p.trans ⟨_, rfl⟩⟩
  · obtain ⟨g, hg, hx, p⟩ := hx
    refine ⟨g, ?_, hx, p⟩
    unfold faultCounts
    rw [hg]
end MP

set_option Elab.async false
set_option linter.all false
set_option maxRecDepth 100000
set_option maxHeartbeats 4000000
namespace MP
open PySem PySem.Spec PyProof.Rows L2 GxR Gx He
def belowB : List Int → List Int → Bool
  | a :: as, b :: bs => decide (a ≤ b) && belowB as bs
  | _, _ => true
theorem e_is_below {S : Sto} {a b : List Int} : f_is_below [iv a, iv b] S = .ok (.bl (belowB a b)) S := by
  refine eq_post (x := fun _ _ _ => False) ?_
  rw [run_is_below]
  unfold d_is_below
  rw [post_endF, post_seq]
  unfold dFor
  rw [post_bd]
  have e2 : dZipI (dCons (dVar 0) (dCons (dVar 1) dNil)) [some (iv a), some (iv b), none, none] S = .ok (zipW (a.map W.int) (b.map W.int), fun _ => True) S := by simp [dRet, dAndV, dOrV, dNotV, dUn, dOp, dVar, dC, dB, dAnd, dOr, dNot, dTru, dCons, dNil, dTup, dCall, dCB, dIfS, dSeq, dAsg, dEx, dNext, dBrk, dCnt, dRetN, dIf, gN, dSl, dPart, dNoPart, dChain, bd, rt, endF, wB, wI, on1, on2, stuck, wTru, dZipI, iv]
  rw [e2, post_ok]
  refine forD_post (fun items ρ S' => ∃ (p q : List Int) (x y : Option W), items = zipW (p.map W.int) (q.map W.int) ∧ ρ = [some (iv a), some (iv b), x, y] ∧ S' = S ∧ belowB p q = belowB a b) ?_ ?_ _ _ _ ⟨a, b, none, none, rfl, rfl, rfl, rfl⟩
  · rintro w ws ρ S' ⟨p, q, x, y, hi, rfl, rfl, hb⟩
    cases p with
    | nil => cases hi
    | cons i p =>
      cases q with
      | nil => cases hi
      | cons j q =>
        have hi' : w :: ws = .tup [.int i, .int j] :: zipW (p.map W.int) (q.map W.int) := hi
        simp only [List.cons.injEq] at hi'
        obtain ⟨rfl, rfl⟩ := hi'
        refine ⟨trivial, ?_⟩
        unfold belowB at hb
        by_cases c : i ≤ j
        · have c' : ¬ j < i := by omega
          simp [dRet, dAndV, dOrV, dNotV, dUn, dOp, dVar, dC, dB, dAnd, dOr, dNot, dTru, dCons, dNil, dTup, dCall, dCB, dIfS, dSeq, dAsg, dEx, dNext, dBrk, dCnt, dRetN, dIf, gN, dSl, dPart, dNoPart, dChain, bd, rt, endF, wB, wI, on1, on2, stuck, wTru, gT, gCons', gNil', R.post, wGt, c']
          refine ⟨p, q, rfl, ?_⟩
          simp only [c, decide_true, Bool.true_and] at hb
          rw [hb]
          conv => rhs; unfold belowB
        · have c' : j < i := by omega
          simp [dRet, dAndV, dOrV, dNotV, dUn, dOp, dVar, dC, dB, dAnd, dOr, dNot, dTru, dCons, dNil, dTup, dCall, dCB, dIfS, dSeq, dAsg, dEx, dNext, dBrk, dCnt, dRetN, dIf, gN, dSl, dPart, dNoPart, dChain, bd, rt, endF, wB, wI, on1, on2, stuck, wTru, gT, gCons', gNil', R.post, wGt, c']
          simp only [c, decide_false, Bool.false_and] at hb
          conv => lhs; unfold belowB
          exact hb.symm
  · rintro ρ S' ⟨p, q, x, y, hi, rfl, rfl, hb⟩
    refine ⟨trivial, ?_⟩
    have : belowB p q = true := by
      cases p <;> cases q <;> first | rfl | cases hi
    simp [dRet, dAndV, dOrV, dNotV, dUn, dOp, dVar, dC, dB, dAnd, dOr, dNot, dTru, dCons, dNil, dTup, dCall, dCB, dIfS, dSeq, dAsg, dEx, dNext, dBrk, dCnt, dRetN, dIf, gN, dSl, dPart, dNoPart, dChain, bd, rt, endF, wB, wI, on1, on2, stuck, wTru, R.post]
    rw [← hb, this]
def mx0 (i : Int) : Int := if i > 0 then i else 0
def commonL : List Int → List Int → List Int → List Int
  | s :: ss, a :: as, b :: bs => mx0 (a + b - s) :: commonL ss as bs
  | _, _, _ => []
theorem commonL_cons {s a b : Int} {ss as bs : List Int} : commonL (s :: ss) (a :: as) (b :: bs) = mx0 (a + b - s) :: commonL ss as bs := rfl
theorem at_iv {ns : List Int} {k : Nat} : atI (ns.map W.int) (k : Int) = (ns[k]?).map W.int := by rw [atI_nat, List.getElem?_map]
theorem wIx_iv {ns : List Int} {k : Nat} {i : Int} (h : ns[k]? = some i) : wIx (iv ns) (.int (k : Int)) = rt (.int i) := by
  unfold iv wIx
  simp only [at_iv, h, Option.map_some]
theorem e_common {S : Sto} {sz a b : List Int} (h1 : a.length = sz.length) (h2 : b.length = sz.length) (hn : sz.length ≤ 1000) : f_common_counts [iv sz, iv a, iv b] S = .ok (iv (commonL sz a b)) S := by
  refine eq_post (x := fun _ _ _ => False) ?_
  rw [run_common_counts]
  unfold d_common_counts dRet dTupG
  rw [post_endF, post_bd, post_bd]
  have e2 : dEnumI (dCons (dVar 0) dNil) [some (iv sz), some (iv a), some (iv b), none, none] S = .ok (enumW (sz.map W.int), fun _ => True) S := by simp [dRet, dAndV, dOrV, dNotV, dUn, dOp, dVar, dC, dB, dAnd, dOr, dNot, dTru, dCons, dNil, dTup, dCall, dCB, dIfS, dSeq, dAsg, dEx, dNext, dBrk, dCnt, dRetN, dIf, gN, dSl, dPart, dNoPart, dChain, bd, rt, endF, wB, wI, on1, on2, stuck, wTru, dEnumI, iv, seqOf]
  rw [e2, post_ok, post_bd, enumK0]
  refine gxU_post (fun acc items S' => ∃ (k : Nat) (ss : List Int), items = enumK k (ss.map W.int) ∧ acc.length + ss.length ≤ 1000 ∧ k + ss.length = sz.length ∧ S' = S ∧ acc ++ (commonL ss (a.drop k) (b.drop k)).map W.int = (commonL sz a b).map W.int) ?_ ?_ _ _ _ ⟨0, sz, rfl, by simpa using hn, by omega, rfl, by simp⟩
  · rintro acc w ws S' ⟨k, ss, hi, hl, hk, rfl, ha⟩
    cases ss with
    | nil => cases hi
    | cons s ss =>
      rw [List.map_cons, enumK_cons] at hi
      simp only [List.cons.injEq] at hi
      obtain ⟨rfl, rfl⟩ := hi
      rw [List.length_cons] at hl hk
      have ka : k < a.length := by omega
      have kb : k < b.length := by omega
      refine ⟨trivial, by omega, ?_⟩
      rw [List.drop_eq_getElem_cons ka, List.drop_eq_getElem_cons kb] at ha
      have ga := wIx_iv (List.getElem?_eq_getElem ka)
      have gb := wIx_iv (List.getElem?_eq_getElem kb)
      simp [dRet, dAndV, dOrV, dNotV, dUn, dOp, dVar, dC, dB, dAnd, dOr, dNot, dTru, dCons, dNil, dTup, dCall, dCB, dIfS, dSeq, dAsg, dEx, dNext, dBrk, dCnt, dRetN, dIf, gN, dSl, dPart, dNoPart, dChain, bd, rt, endF, wB, wI, on1, on2, stuck, wTru, stepD, noX, noEx, dYes, wipeW, R.post, gT, gCons', gNil', ga, gb, wAdd, wSub, wMax2]
      refine ⟨k + 1, ss, rfl, by omega, by omega, ?_⟩
      rw [commonL_cons] at ha
      have hm : mx0 (a[k] + b[k] - s) = if 0 < a[k] + b[k] - s then a[k] + b[k] - s else 0 := rfl
      simpa [hm, Int.sub_pos] using ha
  · rintro acc S' ⟨k, ss, hi, hl, hk, rfl, ha⟩
    cases ss with
    | cons s ss => rw [List.map_cons, enumK_cons] at hi; cases hi
    | nil =>
      refine ⟨trivial, ?_⟩
      simp [dRet, dAndV, dOrV, dNotV, dUn, dOp, dVar, dC, dB, dAnd, dOr, dNot, dTru, dCons, dNil, dTup, dCall, dCB, dIfS, dSeq, dAsg, dEx, dNext, dBrk, dCnt, dRetN, dIf, gN, dSl, dPart, dNoPart, dChain, bd, rt, endF, wB, wI, on1, on2, stuck, wTru, R.post]
      simp [commonL] at ha
      rw [ha]
      rfl
def restL : List Int → List Int → List Int
  | s :: ss, a :: as => (s - a) :: restL ss as
  | _, _ => []
theorem restL_cons {s a : Int} {ss as : List Int} : restL (s :: ss) (a :: as) = (s - a) :: restL ss as := rfl
theorem e_rest {S : Sto} {sz a : List Int} (h1 : a.length = sz.length) (hn : sz.length ≤ 1000) : f_rest_counts [iv sz, iv a] S = .ok (iv (restL sz a)) S := by
  refine eq_post (x := fun _ _ _ => False) ?_
  rw [run_rest_counts]
  unfold d_rest_counts dRet dTupG
  rw [post_endF, post_bd, post_bd]
  have e2 : dEnumI (dCons (dVar 0) dNil) [some (iv sz), some (iv a), none, none] S = .ok (enumW (sz.map W.int), fun _ => True) S := by simp [dRet, dAndV, dOrV, dNotV, dUn, dOp, dVar, dC, dB, dAnd, dOr, dNot, dTru, dCons, dNil, dTup, dCall, dCB, dIfS, dSeq, dAsg, dEx, dNext, dBrk, dCnt, dRetN, dIf, gN, dSl, dPart, dNoPart, dChain, bd, rt, endF, wB, wI, on1, on2, stuck, wTru, dEnumI, iv, seqOf]
  rw [e2, post_ok, post_bd, enumK0]
  refine gxU_post (fun acc items S' => ∃ (k : Nat) (ss : List Int), items = enumK k (ss.map W.int) ∧ acc.length + ss.length ≤ 1000 ∧ k + ss.length = sz.length ∧ S' = S ∧ acc ++ (restL ss (a.drop k)).map W.int = (restL sz a).map W.int) ?_ ?_ _ _ _ ⟨0, sz, rfl, by simpa using hn, by omega, rfl, by simp⟩
  · rintro acc w ws S' ⟨k, ss, hi, hl, hk, rfl, ha⟩
    cases ss with
    | nil => cases hi
    | cons s ss =>
      rw [List.map_cons, enumK_cons] at hi
      simp only [List.cons.injEq] at hi
      obtain ⟨rfl, rfl⟩ := hi
      rw [List.length_cons] at hl hk
      have ka : k < a.length := by omega
      refine ⟨trivial, by omega, ?_⟩
      rw [List.drop_eq_getElem_cons ka] at ha
      have ga := wIx_iv (List.getElem?_eq_getElem ka)
      simp [dRet, dAndV, dOrV, dNotV, dUn, dOp, dVar, dC, dB, dAnd, dOr, dNot, dTru, dCons, dNil, dTup, dCall, dCB, dIfS, dSeq, dAsg, dEx, dNext, dBrk, dCnt, dRetN, dIf, gN, dSl, dPart, dNoPart, dChain, bd, rt, endF, wB, wI, on1, on2, stuck, wTru, stepD, noX, noEx, dYes, wipeW, R.post, gT, gCons', gNil', ga, wSub]
      refine ⟨k + 1, ss, rfl, by omega, by omega, ?_⟩
      rw [restL_cons] at ha
      simpa using ha
  · rintro acc S' ⟨k, ss, hi, hl, hk, rfl, ha⟩
    cases ss with
    | cons s ss => rw [List.map_cons, enumK_cons] at hi; cases hi
    | nil =>
      refine ⟨trivial, ?_⟩
      simp [dRet, dAndV, dOrV, dNotV, dUn, dOp, dVar, dC, dB, dAnd, dOr, dNot, dTru, dCons, dNil, dTup, dCall, dCB, dIfS, dSeq, dAsg, dEx, dNext, dBrk, dCnt, dRetN, dIf, gN, dSl, dPart, dNoPart, dChain, bd, rt, endF, wB, wI, on1, on2, stuck, wTru, R.post]
      simp [restL] at ha
      rw [ha]
      rfl
end MP

set_option Elab.async false
set_option linter.all false
set_option maxRecDepth 100000
set_option maxHeartbeats 4000000
namespace MP
open PySem PySem.Spec PyProof.Rows L2 GxR Gx He
theorem Res.imp {S : Sto} {f : Option Ft} {v : W → Prop} {r : R W} (h : Res S f v r) {k : W → Sto → Prop} {x : Str → Nat → Sto → Prop} (hk : ∀ w S', f = none → v w → Pre S S' → k w S') (hx : ∀ g c n S', f = some g → Exn g c n S' → Pre S S' → x c n S') : r.post k x :=
  post_imp h (fun w S' ⟨a, b, c⟩ => hk w S' a b c) fun c n S' ⟨g, a, b, d⟩ => hx g c n S' a b d
/-- what two checks after one another say -/
def faultTwo (w a b : W) : Option Ft := match faultCounts w a with
  | some f => some f
  | none => faultCounts w b
theorem two_some {w a b : W} {g : Ft} (h : faultCounts w a = some g) : faultTwo w a b = some g := by unfold faultTwo; rw [h]
theorem two_none {w a b : W} (h : faultCounts w a = none) : faultTwo w a b = faultCounts w b := by unfold faultTwo; rw [h]
/-- right lots and counts -/
theorem counts_form {w a : W} (h : faultCounts w a = none) : ∃ (L : List (Str × Int)) (ns : List Int), w = lotsV L ∧ a = iv ns ∧ ns.length = L.length ∧ lotsFault w = none ∧ cfault (L.map (·.2)) a = none := by
  unfold faultCounts at h
  cases q : faultLots w with
  | some f => rw [q] at h; cases h
  | none =>
    rw [q] at h
    have q' : lotsFault w = none := by unfold faultLots at q; simpa using q
    obtain ⟨L, rfl⟩ := lots_form q'
    rw [szW_lots] at h
    have h2 : cfault (L.map (·.2)) a = none := by simpa using h
    obtain ⟨ns, rfl, hn⟩ := cfault_ints h2
    exact ⟨L, ns, rfl, rfl, by simpa using hn, q', h2⟩
theorem s_below {S : Sto} {w a b : W} (h : LotsTy S w) (ha : Ty1 S a) (hb : Ty1 S b) : Res S (faultTwo w a b) (fun v => ∃ p q, a = iv p ∧ b = iv q ∧ v = .bl (belowB p q)) (f_below [w, a, b] S) := by
  unfold Res
  rw [run_below]
  unfold d_below
  rw [post_endF, post_seq]
  unfold dEx
  rw [post_bd]
  have e : (dCall 2 f_check_counts (dCons (dVar 0) (dCons (dVar 1) dNil)) [some w, some a, some b] S) = f_check_counts [w, a] S := by simp [dRet, dAndV, dOrV, dNotV, dUn, dOp, dVar, dC, dB, dAnd, dOr, dNot, dTru, dCons, dNil, dTup, dCall, dCB, dIfS, dSeq, dAsg, dEx, dNext, dBrk, dCnt, dRetN, dIf, gN, dSl, dPart, dNoPart, dChain, bd, rt, endF, wB, wI, on1, on2, stuck, wTru]
  rw [e]
  refine (s_check_counts h ha).imp (fun v S1 q _ p => ?_) fun g c n S1 q hx p => ⟨g, two_some q, hx, p⟩
  show (dSeq _ _ _ S1).post _ _
  rw [post_seq, post_bd]
  have e : (dCall 2 f_check_counts (dCons (dVar 0) (dCons (dVar 2) dNil)) [some w, some a, some b] S1) = f_check_counts [w, b] S1 := by simp [dRet, dAndV, dOrV, dNotV, dUn, dOp, dVar, dC, dB, dAnd, dOr, dNot, dTru, dCons, dNil, dTup, dCall, dCB, dIfS, dSeq, dAsg, dEx, dNext, dBrk, dCnt, dRetN, dIf, gN, dSl, dPart, dNoPart, dChain, bd, rt, endF, wB, wI, on1, on2, stuck, wTru]
  rw [e]
  refine (s_check_counts (h.mono p) (hb.mono p)).imp (fun v S2 q2 _ p2 => ?_) fun g c n S2 q2 hx p2 => ⟨g, by rw [two_none q]; exact q2, hx, p.trans p2⟩
  obtain ⟨L, ns, rfl, rfl, _, _, _⟩ := counts_form q
  obtain ⟨L2, ms, _, rfl, _, _, _⟩ := counts_form q2
  simp [dRet, dAndV, dOrV, dNotV, dUn, dOp, dVar, dC, dB, dAnd, dOr, dNot, dTru, dCons, dNil, dTup, dCall, dCB, dIfS, dSeq, dAsg, dEx, dNext, dBrk, dCnt, dRetN, dIf, gN, dSl, dPart, dNoPart, dChain, bd, rt, endF, wB, wI, on1, on2, stuck, wTru, R.post, e_is_below]
  exact ⟨by rw [two_none q]; exact q2, ⟨ns, rfl, ms, rfl, rfl⟩, p.trans p2⟩
theorem lotsV_inj {L L2 : List (Str × Int)} (h : lotsV L = lotsV L2) : L = L2 := by
  unfold lotsV at h
  have h' : L.map lotW = L2.map lotW := by injection h
  have inj : ∀ a b : List (Str × Int), a.map lotW = b.map lotW → a = b := by
    intro a
    induction a with
    | nil => intro b e; cases b <;> first | rfl | cases e
    | cons p a ih =>
      intro b e
      cases b with
      | nil => cases e
      | cons q b =>
        simp only [List.map_cons, List.cons.injEq] at e
        obtain ⟨e1, e2⟩ := e
        have e3 : p.1 = q.1 ∧ p.2 = q.2 := by simpa [lotW] using e1
        rw [ih b e2, Prod.ext e3.1 e3.2]
  exact inj _ _ h'
theorem s_least {S : Sto} {w a b : W} (h : LotsTy S w) (ha : Ty1 S a) (hb : Ty1 S b) : Res S (faultTwo w a b) (fun v => ∃ p q, a = iv p ∧ b = iv q ∧ v = iv (commonL (szW w) p q)) (f_least_common [w, a, b] S) := by
  unfold Res
  rw [run_least_common]
  unfold d_least_common
  rw [post_endF, post_seq]
  unfold dEx
  rw [post_bd]
  have e : (dCall 2 f_check_counts (dCons (dVar 0) (dCons (dVar 1) dNil)) [some w, some a, some b] S) = f_check_counts [w, a] S := by simp [dRet, dAndV, dOrV, dNotV, dUn, dOp, dVar, dC, dB, dAnd, dOr, dNot, dTru, dCons, dNil, dTup, dCall, dCB, dIfS, dSeq, dAsg, dEx, dNext, dBrk, dCnt, dRetN, dIf, gN, dSl, dPart, dNoPart, dChain, bd, rt, endF, wB, wI, on1, on2, stuck, wTru]
  rw [e]
  refine (s_check_counts h ha).imp (fun v S1 q _ p => ?_) fun g c n S1 q hx p => ⟨g, two_some q, hx, p⟩
  show (dSeq _ _ _ S1).post _ _
  rw [post_seq, post_bd]
  have e : (dCall 2 f_check_counts (dCons (dVar 0) (dCons (dVar 2) dNil)) [some w, some a, some b] S1) = f_check_counts [w, b] S1 := by simp [dRet, dAndV, dOrV, dNotV, dUn, dOp, dVar, dC, dB, dAnd, dOr, dNot, dTru, dCons, dNil, dTup, dCall, dCB, dIfS, dSeq, dAsg, dEx, dNext, dBrk, dCnt, dRetN, dIf, gN, dSl, dPart, dNoPart, dChain, bd, rt, endF, wB, wI, on1, on2, stuck, wTru]
  rw [e]
  refine (s_check_counts (h.mono p) (hb.mono p)).imp (fun v S2 q2 _ p2 => ?_) fun g c n S2 q2 hx p2 => ⟨g, by rw [two_none q]; exact q2, hx, p.trans p2⟩
  obtain ⟨L, ns, rfl, rfl, hn, _, _⟩ := counts_form q
  obtain ⟨L2, ms, eL, rfl, hm, _, _⟩ := counts_form q2
  have := lotsV_inj eL
  subst this
  have hl := len_of h
  simp [dRet, dAndV, dOrV, dNotV, dUn, dOp, dVar, dC, dB, dAnd, dOr, dNot, dTru, dCons, dNil, dTup, dCall, dCB, dIfS, dSeq, dAsg, dEx, dNext, dBrk, dCnt, dRetN, dIf, gN, dSl, dPart, dNoPart, dChain, bd, rt, endF, wB, wI, on1, on2, stuck, wTru, R.post, e_sizes_of hl, e_common (S := S2) (sz := L.map (·.2)) (a := ns) (b := ms) (by simpa using hn) (by simpa using hm) (by simpa using hl)]
  rw [szW_lots]
  exact ⟨by rw [two_none q]; exact q2, ⟨ns, rfl, ms, rfl, rfl⟩, p.trans p2⟩
theorem s_outside {S : Sto} {w a : W} (h : LotsTy S w) (ha : Ty1 S a) : Res S (faultCounts w a) (fun v => ∃ p, a = iv p ∧ v = iv (restL (szW w) p)) (f_outside [w, a] S) := by
  unfold Res
  rw [run_outside]
  unfold d_outside
  rw [post_endF, post_seq]
  unfold dEx
  rw [post_bd]
  have e : (dCall 2 f_check_counts (dCons (dVar 0) (dCons (dVar 1) dNil)) [some w, some a] S) = f_check_counts [w, a] S := by simp [dRet, dAndV, dOrV, dNotV, dUn, dOp, dVar, dC, dB, dAnd, dOr, dNot, dTru, dCons, dNil, dTup, dCall, dCB, dIfS, dSeq, dAsg, dEx, dNext, dBrk, dCnt, dRetN, dIf, gN, dSl, dPart, dNoPart, dChain, bd, rt, endF, wB, wI, on1, on2, stuck, wTru]
  rw [e]
  refine (s_check_counts h ha).imp (fun v S1 q _ p => ?_) fun g c n S1 q hx p => ⟨g, q, hx, p⟩
  obtain ⟨L, ns, rfl, rfl, hn, _, _⟩ := counts_form q
  have hl := len_of h
  simp [dRet, dAndV, dOrV, dNotV, dUn, dOp, dVar, dC, dB, dAnd, dOr, dNot, dTru, dCons, dNil, dTup, dCall, dCB, dIfS, dSeq, dAsg, dEx, dNext, dBrk, dCnt, dRetN, dIf, gN, dSl, dPart, dNoPart, dChain, bd, rt, endF, wB, wI, on1, on2, stuck, wTru, R.post, e_sizes_of hl, e_rest (S := S1) (sz := L.map (·.2)) (a := ns) (by simpa using hn) (by simpa using hl)]
  rw [szW_lots]
  exact ⟨q, ⟨ns, rfl, rfl⟩, p⟩
theorem s_everyone {S : Sto} {w : W} (h : LotsTy S w) : Res S (faultLots w) (fun v => v = iv (szW w)) (f_everyone [w] S) := by
  unfold Res
  rw [run_everyone]
  unfold d_everyone
  rw [post_endF, post_seq]
  unfold dEx
  rw [post_bd]
  have e : (dCall 1 f_check_lots (dCons (dVar 0) dNil) [some w] S) = f_check_lots [w] S := by simp [dRet, dAndV, dOrV, dNotV, dUn, dOp, dVar, dC, dB, dAnd, dOr, dNot, dTru, dCons, dNil, dTup, dCall, dCB, dIfS, dSeq, dAsg, dEx, dNext, dBrk, dCnt, dRetN, dIf, gN, dSl, dPart, dNoPart, dChain, bd, rt, endF, wB, wI, on1, on2, stuck, wTru]
  rw [e]
  refine (s_check_lots h).imp (fun v S1 q _ p => ?_) fun g c n S1 q hx p => ⟨g, q, hx, p⟩
  have q' : lotsFault w = none := by unfold faultLots at q; simpa using q
  obtain ⟨L, rfl⟩ := lots_form q'
  have hl := len_of h
  simp [dRet, dAndV, dOrV, dNotV, dUn, dOp, dVar, dC, dB, dAnd, dOr, dNot, dTru, dCons, dNil, dTup, dCall, dCB, dIfS, dSeq, dAsg, dEx, dNext, dBrk, dCnt, dRetN, dIf, gN, dSl, dPart, dNoPart, dChain, bd, rt, endF, wB, wI, on1, on2, stuck, wTru, R.post, e_sizes_of hl]
  rw [szW_lots]
  exact ⟨q, rfl, p⟩
theorem s_nobody {S : Sto} {w : W} (h : LotsTy S w) : Res S (faultLots w) (fun v => v = iv ((szW w).map fun _ => 0)) (f_nobody [w] S) := by
  unfold Res
  rw [run_nobody]
  unfold d_nobody dRet dOp
  rw [post_endF, post_bd, post_bd]
  have e0 : (dTup (dCons (dC (.int 0)) dNil) [some w] S) = .ok (.tup [.int 0]) S := by simp [dRet, dAndV, dOrV, dNotV, dUn, dOp, dVar, dC, dB, dAnd, dOr, dNot, dTru, dCons, dNil, dTup, dCall, dCB, dIfS, dSeq, dAsg, dEx, dNext, dBrk, dCnt, dRetN, dIf, gN, dSl, dPart, dNoPart, dChain, bd, rt, endF, wB, wI, on1, on2, stuck, wTru]
  rw [e0, post_ok, post_bd]
  have e : (dCall 1 f_check_lots (dCons (dVar 0) dNil) [some w] S) = f_check_lots [w] S := by simp [dRet, dAndV, dOrV, dNotV, dUn, dOp, dVar, dC, dB, dAnd, dOr, dNot, dTru, dCons, dNil, dTup, dCall, dCB, dIfS, dSeq, dAsg, dEx, dNext, dBrk, dCnt, dRetN, dIf, gN, dSl, dPart, dNoPart, dChain, bd, rt, endF, wB, wI, on1, on2, stuck, wTru]
  rw [e]
  refine (s_check_lots h).imp (fun v S1 q hv p => ?_) fun g c n S1 q hx p => ⟨g, q, hx, p⟩
  obtain ⟨l, rfl, rfl⟩ := hv
  have hl := (h.all _ rfl).1
  have q' : lotsFault (.tup l) = none := by unfold faultLots at q; simpa using q
  have hne : l ≠ [] := fun e => by subst e; cases q'
  have hlen : (szW (.tup l)).length = l.length := by unfold szW; simp
  have key : iv ((szW (.tup l)).map fun _ => (0 : Int)) = .tup (List.replicate l.length (.int 0)) := by
    unfold iv
    rw [List.map_map, ← hlen]
    congr 1
    generalize szW (.tup l) = z
    induction z with
    | nil => rfl
    | cons a z ih => rw [List.map_cons, List.length_cons, List.replicate_succ, ih]; rfl
  rw [key]
  by_cases c1 : l.length = 1
  · simp [dRet, dAndV, dOrV, dNotV, dUn, dOp, dVar, dC, dB, dAnd, dOr, dNot, dTru, dCons, dNil, dTup, dCall, dCB, dIfS, dSeq, dAsg, dEx, dNext, dBrk, dCnt, dRetN, dIf, gN, dSl, dPart, dNoPart, dChain, bd, rt, endF, wB, wI, on1, on2, stuck, wTru, R.post, wMul, c1]
    exact ⟨q, p⟩
  · have c1' : ¬ ((l.length : Int) = 1) := by omega
    have c2 : (2 : Int) ≤ l.length := by
      have : l.length ≠ 0 := fun e => hne (List.eq_nil_of_length_eq_zero e)
      omega
    have c3 : (l.length : Int) ≤ 1000 := by omega
    simp [dRet, dAndV, dOrV, dNotV, dUn, dOp, dVar, dC, dB, dAnd, dOr, dNot, dTru, dCons, dNil, dTup, dCall, dCB, dIfS, dSeq, dAsg, dEx, dNext, dBrk, dCnt, dRetN, dIf, gN, dSl, dPart, dNoPart, dChain, bd, rt, endF, wB, wI, on1, on2, stuck, wTru, R.post, wMul, c1', c2, c3]
    exact ⟨q, p⟩
end MP

set_option Elab.async false
set_option linter.all false
set_option maxRecDepth 100000
set_option maxHeartbeats 4000000
namespace MP
open PySem PySem.Spec PyProof.Rows L2 GxR Gx He
def spanV (c : Int) : W := .tup (if 0 < c then [.tup [.int 0, .int c]] else [])
theorem s_first_spans {S : Sto} {s c : Int} {x : Str → Nat → Sto → Prop} (h0 : 0 ≤ c) (h1 : c ≤ s) : (f_first_spans [.tup [.tup [.int 0, .int s]], .int c] S).post (fun w S' => w = spanV c ∧ Pre S S') x := by
  rw [run_first_spans]
  unfold d_first_spans
  by_cases hc : 0 < c
  · have hm : (if c < s then c else s) = c := by
      by_cases q : c < s
      · rw [if_pos q]
      · rw [if_neg q]; omega
    simp [dRet, dAndV, dOrV, dNotV, dUn, dOp, dVar, dC, dB, dAnd, dOr, dNot, dTru, dCons, dNil, dTup, dCall, dCB, dIfS, dSeq, dAsg, dEx, dNext, dBrk, dCnt, dRetN, dIf, gN, dSl, dPart, dNoPart, dChain, bd, rt, endF, wB, wI, on1, on2, stuck, wTru, R.post, dLst, mk, dFor, dSeqI, seqOrStr, seqOf, forD, gT, gCons', gNil', wGt, hc, tyW, isL, wApp, wMin2, wAdd, dAug, wSub, wTupOf, spanV, hm]
    exact ⟨_, rfl⟩
  · simp [dRet, dAndV, dOrV, dNotV, dUn, dOp, dVar, dC, dB, dAnd, dOr, dNot, dTru, dCons, dNil, dTup, dCall, dCB, dIfS, dSeq, dAsg, dEx, dNext, dBrk, dCnt, dRetN, dIf, gN, dSl, dPart, dNoPart, dChain, bd, rt, endF, wB, wI, on1, on2, stuck, wTru, R.post, dLst, mk, dFor, dSeqI, seqOrStr, seqOf, forD, gT, gCons', gNil', wGt, hc, wTupOf, spanV]
    exact ⟨_, rfl⟩
theorem cfK_le : ∀ {ss ns : List Int} {k : Nat}, cfK ss (ns.map W.int) k = none → ns.length = ss.length → ∀ (i : Nat) (n s : Int), ns[i]? = some n → ss[i]? = some s → 0 ≤ n ∧ n ≤ s
  | [], [], _, _, _, i, n, s, h, _ => by simp at h
  | [], _ :: _, _, _, h, _, _, _, _, _ => by simp at h
  | _ :: _, [], _, _, h, _, _, _, _, _ => by simp at h
  | s :: ss, n :: ns, k, h, hl, i, n', s', hn, hs => by
    rw [List.map_cons, cfK_cons] at h
    by_cases q : numOk (.int n) s = true
    · rw [if_pos q] at h
      cases i with
      | zero =>
        simp at hn hs
        subst hn hs
        simpa [numOk] using q
      | succ i => exact cfK_le h (by simpa using hl) i n' s' (by simpa using hn) (by simpa using hs)
    · rw [if_neg q] at h
      cases h
theorem cfault_le {ss ns : List Int} (h : cfault ss (iv ns) = none) : ns.length = ss.length ∧ ∀ (i : Nat) (n s : Int), ns[i]? = some n → ss[i]? = some s → 0 ≤ n ∧ n ≤ s := by
  unfold cfault iv at h
  by_cases hl : (ns.map W.int).length = ss.length
  · simp only [if_pos hl] at h
    have h : cfK ss (ns.map W.int) 0 = none := by
      cases q : cfK ss (ns.map W.int) 0 with
      | none => rfl
      | some k => rw [q] at h; cases h
    exact ⟨by simpa using hl, cfK_le h (by simpa using hl)⟩
  · simp only [if_neg hl] at h
    cases h
theorem wIx_lot1 {p : Str × Int} : wIx (lotW p) (.int 1) = rt (.int p.2) := by
  unfold lotW wIx
  simp only [atI_1]
theorem wIx_lot0 {p : Str × Int} : wIx (lotW p) (.int 0) = rt (.str p.1) := by
  unfold lotW wIx
  simp only [atI_0]
theorem s_first_houses {S : Sto} {w a : W} (h : LotsTy S w) (ha : Ty1 S a) : Res S (faultCounts w a) (fun v => ∃ p, a = iv p ∧ v = .tup (p.map spanV)) (f_first_houses [w, a] S) := by
  unfold Res
  rw [run_first_houses]
  unfold d_first_houses
  rw [post_endF, post_seq]
  unfold dEx
  rw [post_bd]
  have e : (dCall 2 f_check_counts (dCons (dVar 0) (dCons (dVar 1) dNil)) [some w, some a, none, none] S) = f_check_counts [w, a] S := by simp [dRet, dAndV, dOrV, dNotV, dUn, dOp, dVar, dC, dB, dAnd, dOr, dNot, dTru, dCons, dNil, dTup, dCall, dCB, dIfS, dSeq, dAsg, dEx, dNext, dBrk, dCnt, dRetN, dIf, gN, dSl, dPart, dNoPart, dChain, bd, rt, endF, wB, wI, on1, on2, stuck, wTru]
  rw [e]
  refine (s_check_counts h ha).imp (fun v S1 q _ p => ?_) fun g c n S1 q hx p => ⟨g, q, hx, p⟩
  obtain ⟨L, ns, rfl, rfl, hn, _, hc⟩ := counts_form q
  have hl := len_of h
  obtain ⟨_, hle⟩ := cfault_le hc
  unfold dRet dTupG
  show (bd (bd _ _) _ S1).post _ _
  rw [post_bd, post_bd]
  have e2 : dEnumI (dCons (dVar 0) dNil) [some (lotsV L), some (iv ns), none, none] S1 = .ok (enumW (L.map lotW), fun _ => True) S1 := by simp [dRet, dAndV, dOrV, dNotV, dUn, dOp, dVar, dC, dB, dAnd, dOr, dNot, dTru, dCons, dNil, dTup, dCall, dCB, dIfS, dSeq, dAsg, dEx, dNext, dBrk, dCnt, dRetN, dIf, gN, dSl, dPart, dNoPart, dChain, bd, rt, endF, wB, wI, on1, on2, stuck, wTru, dEnumI, lotsV, seqOf]
  rw [e2, post_ok, post_bd, enumK0]
  refine gxU_post (fun acc items S' => ∃ (k : Nat) (r : List (Str × Int)), items = enumK k (r.map lotW) ∧ r = L.drop k ∧ acc.length + r.length ≤ 1000 ∧ k + r.length = L.length ∧ Pre S1 S' ∧ acc ++ (ns.drop k).map spanV = ns.map spanV) ?_ ?_ _ _ _ ⟨0, L, rfl, rfl, by simpa using hl, by omega, Pre.refl, by simp⟩
  · rintro acc w ws S' ⟨k, r, hi, hr, hl2, hk, hp, hacc⟩
    cases r with
    | nil => cases hi
    | cons lot r =>
      rw [List.map_cons, enumK_cons] at hi
      simp only [List.cons.injEq] at hi
      obtain ⟨rfl, rfl⟩ := hi
      rw [List.length_cons] at hl2 hk
      have kn : k < ns.length := by omega
      have kL : k < L.length := by omega
      refine ⟨trivial, by omega, ?_⟩
      rw [List.drop_eq_getElem_cons kn] at hacc
      have gn := List.getElem?_eq_getElem kn
      have gi := wIx_iv gn
      rw [List.drop_eq_getElem_cons kL] at hr
      simp only [List.cons.injEq] at hr
      obtain ⟨hlot, hr⟩ := hr
      have gL : (L.map (·.2))[k]? = some lot.2 := by rw [List.getElem?_map, List.getElem?_eq_getElem kL, hlot]; rfl
      obtain ⟨b0, b1⟩ := hle k _ _ gn gL
      have step : stepD (gT 2 (gCons' (gN 2) (gCons' (gN 3) gNil'))) dYes (dCall 2 f_first_spans (dCons (dTup (dCons (dTup (dCons (dC (.int 0)) (dCons (dOp wIx (dVar 3) (dC (.int 1))) dNil))) dNil)) (dCons (dOp wIx (dVar 1) (dVar 2)) dNil))) (wipeW [some (lotsV L), some (iv ns), none, none] [2, 3]) (.tup [.int (k : Int), lotW lot]) S' = bd (noX (f_first_spans [.tup [.tup [.int 0, .int lot.2]], .int ns[k]])) (fun y => rt (some y)) S' := by
        simp [dRet, dAndV, dOrV, dNotV, dUn, dOp, dVar, dC, dB, dAnd, dOr, dNot, dTru, dCons, dNil, dTup, dCall, dCB, dIfS, dSeq, dAsg, dEx, dNext, dBrk, dCnt, dRetN, dIf, gN, dSl, dPart, dNoPart, dChain, bd, rt, endF, wB, wI, on1, on2, stuck, wTru, stepD, noX, noEx, dYes, wipeW, gT, gCons', gNil', gi, wIx_lot1]
      rw [step, post_bd]
      refine post_imp (post_noEx (post_imp (s_first_spans (x := fun _ _ _ => False) b0 b1) (fun w S2 z => z) fun _ _ _ z => z)) (fun y S2 hy => ?_) fun _ _ _ z => z
      obtain ⟨rfl, p2⟩ := hy
      refine ⟨rfl, ?_⟩
      simp only [Bool.false_eq_true, if_false]
      rw [List.map_cons] at hacc
      exact ⟨k + 1, r, rfl, hr, by simp; omega, by omega, hp.trans p2, by rw [List.append_assoc]; exact hacc⟩
  · rintro acc S' ⟨k, r, hi, hr, hl2, hk, hp, hacc⟩
    cases r with
    | cons s ss => rw [List.map_cons, enumK_cons] at hi; cases hi
    | nil =>
      refine ⟨trivial, ?_⟩
      simp [dRet, dAndV, dOrV, dNotV, dUn, dOp, dVar, dC, dB, dAnd, dOr, dNot, dTru, dCons, dNil, dTup, dCall, dCB, dIfS, dSeq, dAsg, dEx, dNext, dBrk, dCnt, dRetN, dIf, gN, dSl, dPart, dNoPart, dChain, bd, rt, endF, wB, wI, on1, on2, stuck, wTru, R.post]
      have hkn : ns.length ≤ k := by simp at hk; omega
      rw [List.drop_of_length_le hkn] at hacc
      simp at hacc
      exact ⟨q, ⟨ns, rfl, hacc⟩, p.trans hp⟩
end MP

set_option Elab.async false
set_option linter.all false
set_option maxRecDepth 100000
set_option maxHeartbeats 4000000
namespace MP
open PySem PySem.Spec PyProof.Rows L2 GxR Gx He
def outV (f : Option Ft) (v : W → Prop) (w : W) : Prop := match f with
  | none => ∃ u, v u ∧ w = .tup [.str "told", u]
  | some (.lots i z) => w = .tup [.str "lots", .int i, .str z]
  | some (.counts i) => w = .tup [.str "counts", .int i]
def faultOf (which : Str) (w a b : W) : Option Ft := if which = "least" then faultTwo w a b else if which = "below" then faultTwo w a b else if which = "outside" then faultCounts w a else if which = "first" then faultCounts w a else faultLots w
def valueOf (which : Str) (w a b v : W) : Prop := if which = "least" then (∃ p q, a = iv p ∧ b = iv q ∧ v = iv (commonL (szW w) p q)) else if which = "below" then (∃ p q, a = iv p ∧ b = iv q ∧ v = .bl (belowB p q)) else
  if which = "outside" then (∃ p, a = iv p ∧ v = iv (restL (szW w) p)) else if which = "first" then (∃ p, a = iv p ∧ v = .tup (p.map spanV)) else if which = "everyone" then v = iv (szW w) else v = iv ((szW w).map fun _ => 0)
def toldCl : List Cl := [⟨mt_BadLots, fun c n S => match ((dRet (dTup (dCons (dC (.str "lots")) (dCons (fun _ => fldOf n "at") (dCons (fun _ => fldOf n "word") dNil))))) []) S with | .ok f S' => .ok (dropFl 5 f) S' | r => r⟩, ⟨mt_BadCounts, fun c n S => match ((dRet (dTup (dCons (dC (.str "counts")) (dCons (fun _ => fldOf n "at") dNil)))) []) S with | .ok f S' => .ok (dropFl 6 f) S' | r => r⟩, ⟨mt_AssentError, fun _ _ => (dRet (dTup (dCons (dC (.str "other")) dNil))) (List.replicate 7 none)⟩]
theorem handle_lots {n : Nat} {S : Sto} {i : Int} {z : Str} (h : S[n]? = some (.xd [("word", .str z), ("at", .int i)])) : handle "BadLots" n S toldCl = .ok (.rtn (.tup [.str "lots", .int i, .str z])) S := by
  have l1 : List.lookup ("at" : Str) [(("word" : Str), W.str z), ("at", .int i)] = some (.int i) := by rfl
  have l2 : List.lookup ("word" : Str) [(("word" : Str), W.str z), ("at", .int i)] = some (.str z) := by rfl
  simp [dRet, dAndV, dOrV, dNotV, dUn, dOp, dVar, dC, dB, dAnd, dOr, dNot, dTru, dCons, dNil, dTup, dCall, dCB, dIfS, dSeq, dAsg, dEx, dNext, dBrk, dCnt, dRetN, dIf, gN, dSl, dPart, dNoPart, dChain, bd, rt, endF, wB, wI, on1, on2, stuck, wTru, handle, toldCl, mt_BadLots, noEx, fldOf, h, l1, l2, dropFl]
theorem handle_counts {n : Nat} {S : Sto} {i : Int} (h : S[n]? = some (.xd [("at", .int i)])) : handle "BadCounts" n S toldCl = .ok (.rtn (.tup [.str "counts", .int i])) S := by
  have l1 : List.lookup ("at" : Str) [(("at" : Str), W.int i)] = some (.int i) := by rfl
  have n1 : ¬ (("BadCounts" : Str) = "BadLots") := by decide
  simp [dRet, dAndV, dOrV, dNotV, dUn, dOp, dVar, dC, dB, dAnd, dOr, dNot, dTru, dCons, dNil, dTup, dCall, dCB, dIfS, dSeq, dAsg, dEx, dNext, dBrk, dCnt, dRetN, dIf, gN, dSl, dPart, dNoPart, dChain, bd, rt, endF, wB, wI, on1, on2, stuck, wTru, handle, toldCl, mt_BadLots, mt_BadCounts, n1, noEx, fldOf, h, l1, dropFl]
def flOut (f : Option Ft) (v : W → Prop) (ρ : En) (k : Nat) (fl : Fl) : Prop := match f with
  | none => ∃ u, v u ∧ fl = .nx (ρ.set k (some u))
  | some (.lots i z) => fl = .rtn (.tup [.str "lots", .int i, .str z])
  | some (.counts i) => fl = .rtn (.tup [.str "counts", .int i])
theorem s_try {S : Sto} {f : Option Ft} {v : W → Prop} {b : DS} {ρ : En} {c : M W} {k : Nat} {g : DE} (hb : b ρ S = bd c (fun w => rt (.nx (ρ.set k (some w)))) S) (hc : Res S f v (c S)) {x : Str → Nat → Sto → Prop} :
    (dTry b toldCl ρ S).post (fun fl S' => Pre S S' ∧ flOut f v ρ k fl) x := by
  unfold dTry
  rw [hb]
  unfold bd
  unfold Res at hc
  cases q : c S with
  | stuck => rw [q] at hc; exact hc.elim
  | ok u S1 =>
    rw [q] at hc
    obtain ⟨rfl, hv, p⟩ := hc
    exact ⟨p, u, hv, rfl⟩
  | exn cn n S1 =>
    rw [q] at hc
    obtain ⟨gf, rfl, hx, p⟩ := hc
    cases gf with
    | lots i z =>
      obtain ⟨rfl, hS⟩ := hx
      show (handle "BadLots" n S1 toldCl).post _ _
      rw [handle_lots hS]
      exact ⟨p, rfl⟩
    | counts i =>
      obtain ⟨rfl, hS⟩ := hx
      show (handle "BadCounts" n S1 toldCl).post _ _
      rw [handle_counts hS]
      exact ⟨p, rfl⟩
def six : List Str := ["least", "below", "outside", "first", "everyone", "nobody"]
theorem s_told {S : Sto} {wh : Str} {w a b : W} (hw : wh ∈ six) (h : LotsTy S w) (ha : Ty1 S a) (hb : Ty1 S b) {x : Str → Nat → Sto → Prop} : (f_u_law_told [.str wh, w, a, b] S).post (fun u S' => outV (faultOf wh w a b) (valueOf wh w a b) u ∧ Pre S S') x := by
  rw [run_u_law_told]
  unfold d_u_law_told
  rw [post_endF, post_seq]
  have key : ∀ (c : M W), Res S (faultOf wh w a b) (valueOf wh w a b) (c S) → (dIfS (dB (dOp wEq (dVar 0) (dC (.str "least")))) (dAsg (dCall 3 (f_least_common) (dCons (dVar 1) (dCons (dVar 2) (dCons (dVar 3) dNil)))) (gN 4)) (dIfS (dB (dOp wEq (dVar 0) (dC (.str "below")))) (dAsg (dCall 3 (f_below) (dCons (dVar 1) (dCons (dVar 2) (dCons (dVar 3) dNil)))) (gN 4)) (dIfS (dB (dOp wEq (dVar 0) (dC (.str "outside")))) (dAsg (dCall 2 (f_outside) (dCons (dVar 1) (dCons (dVar 2) dNil))) (gN 4)) (dIfS (dB (dOp wEq (dVar 0) (dC (.str "first")))) (dAsg (dCall 2 (f_first_houses) (dCons (dVar 1) (dCons (dVar 2) dNil))) (gN 4)) (dIfS (dB (dOp wEq (dVar 0) (dC (.str "everyone")))) (dAsg (dCall 1 (f_everyone) (dCons (dVar 1) dNil)) (gN 4)) (dAsg (dCall 1 (f_nobody) (dCons (dVar 1) dNil)) (gN 4)))))) [some (.str wh), some w, some a, some b, none, none, none] S = bd c (fun u => rt (.nx ([some (.str wh), some w, some a, some b, none, none, none].set 4 (some u)))) S) →
      (dTry _ toldCl [some (.str wh), some w, some a, some b, none, none, none] S).post (fun f S' => match f with
        | .nx ρ' => (dRet (dTup (dCons (dC (.str "told")) (dCons (dVar 4) dNil))) ρ' S').post (fun f S' => match f with
          | .nx ρ => outV (faultOf wh w a b) (valueOf wh w a b) .non ∧ Pre S S'
          | .rtn u => outV (faultOf wh w a b) (valueOf wh w a b) u ∧ Pre S S'
          | _ => False) x
        | f => match f with
          | .nx ρ => outV (faultOf wh w a b) (valueOf wh w a b) .non ∧ Pre S S'
          | .rtn u => outV (faultOf wh w a b) (valueOf wh w a b) u ∧ Pre S S'
          | _ => False) x := fun c hc hbody => by
    refine post_imp (s_try (g := dC .non) hbody hc) (fun fl S1 hf => ?_) fun _ _ _ z => z
    obtain ⟨p, hf⟩ := hf
    cases q : faultOf wh w a b with
    | none =>
      rw [q] at hf
      obtain ⟨u, hv, rfl⟩ := hf
      simp [dRet, dAndV, dOrV, dNotV, dUn, dOp, dVar, dC, dB, dAnd, dOr, dNot, dTru, dCons, dNil, dTup, dCall, dCB, dIfS, dSeq, dAsg, dEx, dNext, dBrk, dCnt, dRetN, dIf, gN, dSl, dPart, dNoPart, dChain, bd, rt, endF, wB, wI, on1, on2, stuck, wTru, R.post]
      exact ⟨⟨u, hv, rfl⟩, p⟩
    | some g =>
      rw [q] at hf
      cases g with
      | lots i z => rw [hf]; exact ⟨rfl, p⟩
      | counts i => rw [hf]; exact ⟨rfl, p⟩
  unfold six at hw
  simp only [List.mem_cons, List.not_mem_nil, or_false] at hw
  rcases hw with rfl | rfl | rfl | rfl | rfl | rfl
  · exact key (f_least_common [w, a, b]) (s_least h ha hb) (by simp [dRet, dAndV, dOrV, dNotV, dUn, dOp, dVar, dC, dB, dAnd, dOr, dNot, dTru, dCons, dNil, dTup, dCall, dCB, dIfS, dSeq, dAsg, dEx, dNext, dBrk, dCnt, dRetN, dIf, gN, dSl, dPart, dNoPart, dChain, bd, rt, endF, wB, wI, on1, on2, stuck, wTru, wEq, wEq2])
  · exact key (f_below [w, a, b]) (s_below h ha hb) (by simp [dRet, dAndV, dOrV, dNotV, dUn, dOp, dVar, dC, dB, dAnd, dOr, dNot, dTru, dCons, dNil, dTup, dCall, dCB, dIfS, dSeq, dAsg, dEx, dNext, dBrk, dCnt, dRetN, dIf, gN, dSl, dPart, dNoPart, dChain, bd, rt, endF, wB, wI, on1, on2, stuck, wTru, wEq, wEq2, show ¬ (("below" : Str) = "least") by decide])
  · exact key (f_outside [w, a]) (s_outside h ha) (by simp [dRet, dAndV, dOrV, dNotV, dUn, dOp, dVar, dC, dB, dAnd, dOr, dNot, dTru, dCons, dNil, dTup, dCall, dCB, dIfS, dSeq, dAsg, dEx, dNext, dBrk, dCnt, dRetN, dIf, gN, dSl, dPart, dNoPart, dChain, bd, rt, endF, wB, wI, on1, on2, stuck, wTru, wEq, wEq2, show ¬ (("outside" : Str) = "least") by decide, show ¬ (("outside" : Str) = "below") by decide])
  · exact key (f_first_houses [w, a]) (s_first_houses h ha) (by simp [dRet, dAndV, dOrV, dNotV, dUn, dOp, dVar, dC, dB, dAnd, dOr, dNot, dTru, dCons, dNil, dTup, dCall, dCB, dIfS, dSeq, dAsg, dEx, dNext, dBrk, dCnt, dRetN, dIf, gN, dSl, dPart, dNoPart, dChain, bd, rt, endF, wB, wI, on1, on2, stuck, wTru, wEq, wEq2, show ¬ (("first" : Str) = "least") by decide, show ¬ (("first" : Str) = "below") by decide, show ¬ (("first" : Str) = "outside") by decide])
  · exact key (f_everyone [w]) (s_everyone h) (by simp [dRet, dAndV, dOrV, dNotV, dUn, dOp, dVar, dC, dB, dAnd, dOr, dNot, dTru, dCons, dNil, dTup, dCall, dCB, dIfS, dSeq, dAsg, dEx, dNext, dBrk, dCnt, dRetN, dIf, gN, dSl, dPart, dNoPart, dChain, bd, rt, endF, wB, wI, on1, on2, stuck, wTru, wEq, wEq2, show ¬ (("everyone" : Str) = "least") by decide, show ¬ (("everyone" : Str) = "below") by decide, show ¬ (("everyone" : Str) = "outside") by decide, show ¬ (("everyone" : Str) = "first") by decide])
  · exact key (f_nobody [w]) (s_nobody h) (by simp [dRet, dAndV, dOrV, dNotV, dUn, dOp, dVar, dC, dB, dAnd, dOr, dNot, dTru, dCons, dNil, dTup, dCall, dCB, dIfS, dSeq, dAsg, dEx, dNext, dBrk, dCnt, dRetN, dIf, gN, dSl, dPart, dNoPart, dChain, bd, rt, endF, wB, wI, on1, on2, stuck, wTru, wEq, wEq2, show ¬ (("nobody" : Str) = "least") by decide, show ¬ (("nobody" : Str) = "below") by decide, show ¬ (("nobody" : Str) = "outside") by decide, show ¬ (("nobody" : Str) = "first") by decide, show ¬ (("nobody" : Str) = "everyone") by decide])
end MP

set_option Elab.async false
set_option linter.all false
set_option maxRecDepth 100000
set_option maxHeartbeats 4000000
namespace MP
open PySem PySem.Spec PyProof.Rows L2 GxR Gx He
/-! ### same -/
def Dp : Nat → W → Prop
  | 0, _ => False
  | n + 1, .tup l => l.length ≤ 1000 ∧ ∀ x ∈ l, Dp n x
  | _ + 1, .non => True
  | _ + 1, .bl _ => True
  | _ + 1, .int _ => True
  | _ + 1, .str _ => True
  | _ + 1, _ => False
theorem isi_list {S : Sto} {w : W} (h : Ty S w) (hn : ∀ n, w ≠ .obj n) : wIsi "list" w S = .ok (.bl (match w with | .kl _ => true | _ => false)) S := by
  unfold wIsi
  cases w with
  | obj n => exact absurd rfl (hn n)
  | exc _ _ _ _ => simp [Ty, tyOf] at h
  | _ => simp [tyOf, kb5]
theorem ty_lit {S : Sto} {w : W} (h : match w with | .obj _ => False | .exc _ _ _ _ => False | _ => True) : Ty S w := by
  cases w <;> first | rfl | exact h.elim
theorem rng_get {lo : Int} {n : Nat} : rngW lo (n + 1) = .int lo :: rngW (lo + 1) n := by
  unfold rngW
  rw [List.range_succ_eq_map, List.map_cons, List.map_map]
  congr 1
  · simp
  · apply List.map_congr_left
    intro a _
    simp only [Function.comp_apply, Nat.succ_eq_add_one]
    congr 1
    omega
theorem post_seq_nx {a b : DS} {ρ ρ' : En} {S S' : Sto} {k : Fl → Sto → Prop} {x : Str → Nat → Sto → Prop} (e : a ρ S = .ok (.nx ρ') S') (h : (b ρ' S').post k x) : (dSeq a b ρ S).post k x := by
  rw [post_seq, e]
  exact h
theorem rng_ok {n : Nat} (h : n ≤ 1000) : -(2 ^ 62) ≤ (n : Int) ∧ (n : Int) < 2 ^ 62 :=
  ⟨Int.le_trans (by decide) (Int.natCast_nonneg n), Int.lt_of_le_of_lt (show (n : Int) ≤ 1000 by omega) (by decide)⟩
theorem same_tup {S : Sto} {n : Nat} {l : List W} {k : Fl → Sto → Prop} {x : Str → Nat → Sto → Prop}
    (hk : ((dSeq (dFor (dRng1 (dCons (dCB (on1 wLen) (dCons (dVar 1) dNil)) dNil)) (gN 2) (dIfS (dNot (dTru (dCall 2 (fs_u_law_same n) (dCons (dOp wIx (dVar 0) (dVar 2)) (dCons (dOp wIx (dVar 1) (dVar 2)) dNil))))) (dRet (dC (.bl false))) dNext)) (dRet (dC (.bl true)))) [some (.tup l), some (.tup l), none] S).post k x) :
    (d_u_law_same (fs_u_law_same n) [some (.tup l), some (.tup l), none] S).post k x := by
  have tyl : Ty S (.tup l) := rfl
  have il : wIsi "list" (.tup l) S = .ok (.bl false) S := isi_list tyl (fun n => (by simp))
  unfold d_u_law_same
  refine post_seq_nx (ρ' := [some (.tup l), some (.tup l), none]) (S' := S) (by simp [dRet, dAndV, dOrV, dNotV, dUn, dOp, dVar, dC, dB, dAnd, dOr, dNot, dTru, dCons, dNil, dTup, dCall, dCB, dIfS, dSeq, dAsg, dEx, dNext, dBrk, dCnt, dRetN, dIf, gN, dSl, dPart, dNoPart, dChain, bd, rt, endF, wB, wI, on1, on2, stuck, wTru, wIsN]) ?_
  refine post_seq_nx (ρ' := [some (.tup l), some (.tup l), none]) (S' := S) (by simp [dRet, dAndV, dOrV, dNotV, dUn, dOp, dVar, dC, dB, dAnd, dOr, dNot, dTru, dCons, dNil, dTup, dCall, dCB, dIfS, dSeq, dAsg, dEx, dNext, dBrk, dCnt, dRetN, dIf, gN, dSl, dPart, dNoPart, dChain, bd, rt, endF, wB, wI, on1, on2, stuck, wTru, isi_bool tyl]) ?_
  refine post_seq_nx (ρ' := [some (.tup l), some (.tup l), none]) (S' := S) (by simp [dRet, dAndV, dOrV, dNotV, dUn, dOp, dVar, dC, dB, dAnd, dOr, dNot, dTru, dCons, dNil, dTup, dCall, dCB, dIfS, dSeq, dAsg, dEx, dNext, dBrk, dCnt, dRetN, dIf, gN, dSl, dPart, dNoPart, dChain, bd, rt, endF, wB, wI, on1, on2, stuck, wTru, isi_int tyl]) ?_
  refine post_seq_nx (ρ' := [some (.tup l), some (.tup l), none]) (S' := S) (by simp [dRet, dAndV, dOrV, dNotV, dUn, dOp, dVar, dC, dB, dAnd, dOr, dNot, dTru, dCons, dNil, dTup, dCall, dCB, dIfS, dSeq, dAsg, dEx, dNext, dBrk, dCnt, dRetN, dIf, gN, dSl, dPart, dNoPart, dChain, bd, rt, endF, wB, wI, on1, on2, stuck, wTru, isi_str tyl, isStr]) ?_
  refine post_seq_nx (ρ' := [some (.tup l), some (.tup l), none]) (S' := S) (by simp [dRet, dAndV, dOrV, dNotV, dUn, dOp, dVar, dC, dB, dAnd, dOr, dNot, dTru, dCons, dNil, dTup, dCall, dCB, dIfS, dSeq, dAsg, dEx, dNext, dBrk, dCnt, dRetN, dIf, gN, dSl, dPart, dNoPart, dChain, bd, rt, endF, wB, wI, on1, on2, stuck, wTru, isi_tuple tyl, isTup, il]) ?_
  refine post_seq_nx (ρ' := [some (.tup l), some (.tup l), none]) (S' := S) (by simp [dRet, dAndV, dOrV, dNotV, dUn, dOp, dVar, dC, dB, dAnd, dOr, dNot, dTru, dCons, dNil, dTup, dCall, dCB, dIfS, dSeq, dAsg, dEx, dNext, dBrk, dCnt, dRetN, dIf, gN, dSl, dPart, dNoPart, dChain, bd, rt, endF, wB, wI, on1, on2, stuck, wTru, wLen, wNe, wEq2]) ?_
  with_reducible exact hk
theorem e_same {S : Sto} : ∀ (n : Nat) (w : W), Dp n w → fs_u_law_same n [w, w] S = .ok (.bl true) S
  | 0, w, h => h.elim
  | n + 1, w, h => by
    refine eq_post (x := fun _ _ _ => False) ?_
    rw [run_u_law_same]
    unfold d_u_law_same
    cases w with
    | non => simp [dRet, dAndV, dOrV, dNotV, dUn, dOp, dVar, dC, dB, dAnd, dOr, dNot, dTru, dCons, dNil, dTup, dCall, dCB, dIfS, dSeq, dAsg, dEx, dNext, dBrk, dCnt, dRetN, dIf, gN, dSl, dPart, dNoPart, dChain, bd, rt, endF, wB, wI, on1, on2, stuck, wTru, R.post, wIsN]
    | bl b => simp [dRet, dAndV, dOrV, dNotV, dUn, dOp, dVar, dC, dB, dAnd, dOr, dNot, dTru, dCons, dNil, dTup, dCall, dCB, dIfS, dSeq, dAsg, dEx, dNext, dBrk, dCnt, dRetN, dIf, gN, dSl, dPart, dNoPart, dChain, bd, rt, endF, wB, wI, on1, on2, stuck, wTru, R.post, wIsN, isi_bool (S := S) (w := .bl b) rfl, wEq, wEq2]
    | int b => simp [dRet, dAndV, dOrV, dNotV, dUn, dOp, dVar, dC, dB, dAnd, dOr, dNot, dTru, dCons, dNil, dTup, dCall, dCB, dIfS, dSeq, dAsg, dEx, dNext, dBrk, dCnt, dRetN, dIf, gN, dSl, dPart, dNoPart, dChain, bd, rt, endF, wB, wI, on1, on2, stuck, wTru, R.post, wIsN, isi_bool (S := S) (w := .int b) rfl, isi_int (S := S) (w := .int b) rfl, wEq, wEq2]
    | str b => simp [dRet, dAndV, dOrV, dNotV, dUn, dOp, dVar, dC, dB, dAnd, dOr, dNot, dTru, dCons, dNil, dTup, dCall, dCB, dIfS, dSeq, dAsg, dEx, dNext, dBrk, dCnt, dRetN, dIf, gN, dSl, dPart, dNoPart, dChain, bd, rt, endF, wB, wI, on1, on2, stuck, wTru, R.post, wIsN, isi_bool (S := S) (w := .str b) rfl, isi_int (S := S) (w := .str b) rfl, isi_str (S := S) (w := .str b) rfl, isStr, wEq, wEq2]
    | tup l =>
      obtain ⟨hl, hx⟩ := h
      rw [post_endF]
      have tyl : Ty S (.tup l) := rfl
      refine same_tup ?_
      rw [post_seq]
      unfold dFor
      rw [post_bd]
      have hb : -(2 ^ 62) ≤ (l.length : Int) ∧ (l.length : Int) < 2 ^ 62 := rng_ok hl
      have e2 : dRng1 (dCons (dCB (on1 wLen) (dCons (dVar 1) dNil)) dNil) [some (.tup l), some (.tup l), none] S = .ok (rngW 0 l.length, fun _ => True) S := by
        have ea : (dCons (dCB (on1 wLen) (dCons (dVar 1) dNil)) dNil [some (.tup l), some (.tup l), none] S) = .ok [.int l.length] S := by simp [dRet, dAndV, dOrV, dNotV, dUn, dOp, dVar, dC, dB, dAnd, dOr, dNot, dTru, dCons, dNil, dTup, dCall, dCB, dIfS, dSeq, dAsg, dEx, dNext, dBrk, dCnt, dRetN, dIf, gN, dSl, dPart, dNoPart, dChain, bd, rt, endF, wB, wI, on1, on2, stuck, wTru, wLen]
        unfold dRng1
        rw [bd_ok ea]
        show ((if -(2 ^ 62) ≤ (l.length : Int) ∧ (l.length : Int) < 2 ^ 62 then rt (rngW 0 (l.length : Int).toNat, fun _ => True) else stuck : M (List W × (Sto → Prop))) S) = _
        rw [if_pos hb]
        rfl
      rw [e2, post_ok]
      refine forD_post (fun items ρ S' => ∃ (k r : Nat) (y : Option W), items = rngW (k : Int) r ∧ k + r = l.length ∧ ρ = [some (.tup l), some (.tup l), y] ∧ S' = S) ?_ ?_ _ _ _ ⟨0, l.length, none, rfl, by omega, rfl, rfl⟩
      · rintro w ws ρ S' ⟨k, r, y, hi, hk, rfl, rfl⟩
        cases r with
        | zero => cases hi
        | succ r =>
          rw [rng_get] at hi
          simp only [List.cons.injEq] at hi
          obtain ⟨rfl, rfl⟩ := hi
          refine ⟨trivial, ?_⟩
          have kl : k < l.length := by omega
          have g := List.getElem?_eq_getElem kl
          have ih := e_same (S := S') n l[k] (hx _ (List.getElem_mem kl))
          simp [dRet, dAndV, dOrV, dNotV, dUn, dOp, dVar, dC, dB, dAnd, dOr, dNot, dTru, dCons, dNil, dTup, dCall, dCB, dIfS, dSeq, dAsg, dEx, dNext, dBrk, dCnt, dRetN, dIf, gN, dSl, dPart, dNoPart, dChain, bd, rt, endF, wB, wI, on1, on2, stuck, wTru, R.post, wIx, atI_nat, g, ih]
          exact ⟨k + 1, r, by simp, by omega⟩
      · rintro ρ S' ⟨k, r, y, hi, hk, rfl, rfl⟩
        refine ⟨trivial, ?_⟩
        simp [dRet, dAndV, dOrV, dNotV, dUn, dOp, dVar, dC, dB, dAnd, dOr, dNot, dTru, dCons, dNil, dTup, dCall, dCB, dIfS, dSeq, dAsg, dEx, dNext, dBrk, dCnt, dRetN, dIf, gN, dSl, dPart, dNoPart, dChain, bd, rt, endF, wB, wI, on1, on2, stuck, wTru, R.post]
    | obj _ => exact h.elim
    | exc _ _ _ _ => exact h.elim
    | kl _ => exact h.elim
end MP

set_option Elab.async false
set_option linter.all false
set_option maxRecDepth 100000
set_option maxHeartbeats 4000000
namespace MP
open PySem PySem.Spec PyProof.Rows L2 GxR Gx He
/-! ### the tape -/
def Mv (is : List Nat) (S S' : Sto) : Prop := S.length ≤ S'.length ∧ ∀ i o, i ∉ is → S[i]? = some o → S'[i]? = some o
theorem Mv.refl {is : List Nat} {S : Sto} : Mv is S S := ⟨Nat.le_refl _, fun _ _ _ h => h⟩
theorem Mv.trans {is : List Nat} {S S' S'' : Sto} (a : Mv is S S') (b : Mv is S' S'') : Mv is S S'' := ⟨Nat.le_trans a.1 b.1, fun i o hi h => b.2 i o hi (a.2 i o hi h)⟩
theorem Mv.mono {is js : List Nat} {S S' : Sto} (a : Mv is S S') (h : ∀ i ∈ is, i ∈ js) : Mv js S S' := ⟨a.1, fun i o hi g => a.2 i o (fun z => hi (h i z)) g⟩
theorem Pre.mv {is : List Nat} {S S' : Sto} (p : Pre S S') : Mv is S S' := by
  refine ⟨?_, fun i o _ h => p.get h⟩
  obtain ⟨e, rfl⟩ := p
  simp
theorem Mv.set {is : List Nat} {S : Sto} {i : Nat} {o : SO} (h : i ∈ is) : Mv is S (S.set i o) := ⟨by simp, fun j u hj g => by
  rw [List.getElem?_set_ne (fun e => hj (by rw [← e]; exact h))]
  exact g⟩
theorem set_eq {S : Sto} {i : Nat} {o u : SO} (h : S[i]? = some u) : (S.set i o)[i]? = some o := List.getElem?_set_self (List.getElem?_eq_some_iff.mp h).1
theorem set_ne {S : Sto} {i j : Nat} {o : SO} (h : i ≠ j) : (S.set i o)[j]? = S[j]? := List.getElem?_set_ne h
structure TapeV (tp gr : Nat) (a b : Int) (ks : List Int) (S : Sto) : Prop where
  ne : tp ≠ gr
  at_ : S[tp]? = some (.lst [.int a, .int b, .obj gr])
  gr_ : S[gr]? = some (.lst (ks.map W.int))
  a0 : 0 ≤ a
  a1 : a < 2305843009213693951
  b0 : 0 ≤ b
  k0 : ∀ k ∈ ks, 0 ≤ k
def Tape (tp gr : Nat) (S : Sto) : Prop := ∃ a b ks, TapeV tp gr a b ks S
theorem Tape.pre {tp gr : Nat} {S S' : Sto} (p : Pre S S') (h : Tape tp gr S) : Tape tp gr S' := by
  obtain ⟨a, b, ks, t⟩ := h
  exact ⟨a, b, ks, t.ne, p.get t.at_, p.get t.gr_, t.a0, t.a1, t.b0, t.k0⟩
theorem ix_t0 {a b c : W} : atI [a, b, c] 0 = some a := atI_0
theorem ix_t1 {a b c : W} : atI [a, b, c] 1 = some b := atI_1
theorem ix_t2 {a b c : W} : atI [a, b, c] 2 = some c := atI_nat (k := 2)
theorem s_draw {S : Sto} {tp gr : Nat} {m : Int} (h : Tape tp gr S) (h1 : 1 ≤ m) (h2 : m ≤ 1000000000001) {x : Str → Nat → Sto → Prop} :
    (f_u_law_draw [.obj tp, .int m] S).post (fun w S' => (∃ r, w = .int r ∧ 0 ≤ r ∧ r < m) ∧ Tape tp gr S' ∧ Mv [tp, gr] S S') x := by
  obtain ⟨a, b, ks, t⟩ := h
  have hdiv : CDivW 0 m := ⟨by omega, Nat.lt_of_lt_of_le ((Nat.log2_lt (by omega)).mpr (show m.natAbs < 2 ^ 41 by omega)) (by decide)⟩
  have hdiv' : ∀ i : Int, CDivW i m := fun i => hdiv
  have hd2 : ∀ i : Int, CDivW i 16381 := fun i => ⟨by decide, by decide⟩
  have hm0 : 0 < m := by omega
  rw [run_u_law_draw]
  unfold d_u_law_draw
  rw [post_endF]
  -- the first clause
  obtain ⟨S1, b1, ks1, e1, t1, m1⟩ : ∃ S1 b1 ks1, (dIfS (dAnd (dB (dOp wLt (dOp wIx (dVar 0) (dC (.int 1))) (dC (.int 2)))) (dB (dOp wGt (dCB (on1 wLen) (dCons (dOp wIx (dVar 0) (dC (.int 2))) dNil)) (dC (.int 0))))) (dAsg (tyW isL wPop (dOp wIx (dVar 0) (dC (.int 2))) dNil) (fun v ρ S => noEx (gSubW (dVar 0) (dC (.int 1)) v ρ S))) dNext [some (.obj tp), some (.int m), none] S) = .ok (.nx [some (.obj tp), some (.int m), none]) S1 ∧ TapeV tp gr a b1 ks1 S1 ∧ Mv [tp, gr] S S1 := by
    by_cases c1 : b < 2
    · by_cases c2 : ks = []
      · subst c2
        refine ⟨S, b, [], ?_, t, Mv.refl⟩
        have g := t.gr_
        simp at g
        simp [dRet, dAndV, dOrV, dNotV, dUn, dOp, dVar, dC, dB, dAnd, dOr, dNot, dTru, dCons, dNil, dTup, dCall, dCB, dIfS, dSeq, dAsg, dEx, dNext, dBrk, dCnt, dRetN, dIf, gN, dSl, dPart, dNoPart, dChain, bd, rt, endF, wB, wI, on1, on2, stuck, wTru, wIx, t.at_, ix_t1, ix_t2, wLt, c1, wLen, g, wGt]
      · have hp : 0 < ks.length := List.length_pos_iff.mpr c2
        have hk : (ks.map W.int)[ks.length - 1]? = some (.int (ks.getLast c2)) := by
          rw [List.getElem?_map, List.getLast_eq_getElem]
          rw [List.getElem?_eq_getElem (by omega)]
          rfl
        have at2 : (S.set gr (.lst (ks.map W.int).dropLast))[tp]? = some (.lst [.int a, .int b, .obj gr]) := by rw [set_ne (Ne.symm t.ne)]; exact t.at_
        refine ⟨(S.set gr (.lst (ks.map W.int).dropLast)).set tp (.lst [.int a, .int (ks.getLast c2), .obj gr]), ks.getLast c2, ks.dropLast, ?_, ⟨t.ne, set_eq at2, ?_, t.a0, t.a1, t.k0 _ (List.getLast_mem c2), fun k hk => t.k0 k (List.dropLast_subset _ hk)⟩, (Mv.set (by simp)).trans (Mv.set (by simp))⟩
        · simp [dRet, dAndV, dOrV, dNotV, dUn, dOp, dVar, dC, dB, dAnd, dOr, dNot, dTru, dCons, dNil, dTup, dCall, dCB, dIfS, dSeq, dAsg, dEx, dNext, dBrk, dCnt, dRetN, dIf, gN, dSl, dPart, dNoPart, dChain, bd, rt, endF, wB, wI, on1, on2, stuck, wTru, wIx, t.at_, ix_t1, ix_t2, wLt, c1, wLen, t.gr_, wGt, hp, tyW, isL, wPop, hk, gSubW, noEx, wSet, at2, ixN]
        · rw [set_ne t.ne, set_eq t.gr_, List.map_dropLast]
    · refine ⟨S, b, ks, ?_, t, Mv.refl⟩
      simp [dRet, dAndV, dOrV, dNotV, dUn, dOp, dVar, dC, dB, dAnd, dOr, dNot, dTru, dCons, dNil, dTup, dCall, dCB, dIfS, dSeq, dAsg, dEx, dNext, dBrk, dCnt, dRetN, dIf, gN, dSl, dPart, dNoPart, dChain, bd, rt, endF, wB, wI, on1, on2, stuck, wTru, wIx, t.at_, ix_t1, wLt, c1]
  refine post_seq_nx e1 ?_
  by_cases c3 : 1 < b1
  · have hb0 : (0 : Int) < b1 := by omega
    have e2 : (dIfS (dB (dOp wGt (dOp wIx (dVar 0) (dC (.int 1))) (dC (.int 1)))) (dSeq (dAsg (dOp wMod (dCB (on1 wInt) (dCons (dOp wIx (dVar 0) (dC (.int 1))) dNil)) (dVar 1)) (gN 2))
        (dSeq (dAsg (dOp wDiv (dOp wIx (dVar 0) (dC (.int 1))) (dVar 1)) (fun v ρ S => noEx (gSubW (dVar 0) (dC (.int 1)) v ρ S)))
        (dRet (dVar 2)))) dNext [some (.obj tp), some (.int m), none] S1) = .ok (.rtn (.int (b1 % m))) (S1.set tp (.lst [.int a, .int (b1 / m), .obj gr])) := by
      simp [dRet, dAndV, dOrV, dNotV, dUn, dOp, dVar, dC, dB, dAnd, dOr, dNot, dTru, dCons, dNil, dTup, dCall, dCB, dIfS, dSeq, dAsg, dEx, dNext, dBrk, dCnt, dRetN, dIf, gN, dSl, dPart, dNoPart, dChain, bd, rt, endF, wB, wI, on1, on2, stuck, wTru, wIx, t1.at_, ix_t1, wGt, c3, wInt, wMod, hm0, wDiv, hdiv' b1, gSubW, noEx, wSet, ixN]
    rw [post_seq, e2]
    exact ⟨⟨_, rfl, Int.emod_nonneg _ (by omega), Int.emod_lt_of_pos _ hm0⟩, ⟨a, b1 / m, ks1, t1.ne, set_eq t1.at_, by rw [set_ne t1.ne]; exact t1.gr_, t1.a0, t1.a1, Int.ediv_nonneg t1.b0 (by omega), t1.k0⟩, m1.trans (Mv.set (by simp))⟩
  · have cm : CMul a 7664345821815920749 := .inl ⟨by have := t1.a0; omega, by have := t1.a1; omega⟩
    refine post_seq_nx (ρ' := [some (.obj tp), some (.int m), none]) (S' := S1) (by simp [dRet, dAndV, dOrV, dNotV, dUn, dOp, dVar, dC, dB, dAnd, dOr, dNot, dTru, dCons, dNil, dTup, dCall, dCB, dIfS, dSeq, dAsg, dEx, dNext, dBrk, dCnt, dRetN, dIf, gN, dSl, dPart, dNoPart, dChain, bd, rt, endF, wB, wI, on1, on2, stuck, wTru, wIx, t1.at_, ix_t1, wGt, c3]) ?_
    refine post_seq_nx (ρ' := [some (.obj tp), some (.int m), none]) (S' := S1.set tp (.lst [.int ((a * 7664345821815920749 + 21) % 2305843009213693951), .int b1, .obj gr])) (by simp [dRet, dAndV, dOrV, dNotV, dUn, dOp, dVar, dC, dB, dAnd, dOr, dNot, dTru, dCons, dNil, dTup, dCall, dCB, dIfS, dSeq, dAsg, dEx, dNext, dBrk, dCnt, dRetN, dIf, gN, dSl, dPart, dNoPart, dChain, bd, rt, endF, wB, wI, on1, on2, stuck, wTru, wIx, t1.at_, ix_t0, wMul, cm, wAdd, wInt, wMod, gSubW, noEx, wSet, ixN]) ?_
    simp [dRet, dAndV, dOrV, dNotV, dUn, dOp, dVar, dC, dB, dAnd, dOr, dNot, dTru, dCons, dNil, dTup, dCall, dCB, dIfS, dSeq, dAsg, dEx, dNext, dBrk, dCnt, dRetN, dIf, gN, dSl, dPart, dNoPart, dChain, bd, rt, endF, wB, wI, on1, on2, stuck, wTru, R.post, wIx, set_eq t1.at_, ix_t0, wDiv, hd2, wInt, wMod, hm0]
    refine ⟨⟨Int.emod_nonneg _ (by omega), Int.emod_lt_of_pos _ hm0⟩, ⟨_, b1, ks1, t1.ne, set_eq t1.at_, by rw [set_ne t1.ne]; exact t1.gr_, Int.emod_nonneg _ (by decide), Int.emod_lt_of_pos _ (by decide), t1.b0, t1.k0⟩, m1.trans (Mv.set (by simp))⟩
end MP

set_option Elab.async false
set_option linter.all false
set_option maxRecDepth 100000
set_option maxHeartbeats 4000000
namespace MP
open PySem PySem.Spec PyProof.Rows L2 GxR Gx He
theorem s_tape {S : Sto} {sc : W} {ns : List Int} {gd : Sto → Prop} (hn : ns.length ≤ 63) (hs : seqOrStr sc S = .ok (ns.map W.int, gd) S) (hg : ∀ S', Pre S S' → gd S') (hq : ∀ S', Pre S S' → seqOrStr sc S' = .ok (ns.map W.int, gd) S') {x : Str → Nat → Sto → Prop} :
    (f_u_law_tape [sc] S).post (fun w S' => (∃ tp gr, w = .obj tp ∧ Tape tp gr S' ∧ S.length ≤ tp ∧ S.length ≤ gr) ∧ Pre S S') x := by
  rw [run_u_law_tape]
  unfold d_u_law_tape
  rw [post_endF]
  refine post_seq_nx (ρ' := [some sc, some (.int 77023), none, none]) (S' := S) (by simp [dRet, dAndV, dOrV, dNotV, dUn, dOp, dVar, dC, dB, dAnd, dOr, dNot, dTru, dCons, dNil, dTup, dCall, dCB, dIfS, dSeq, dAsg, dEx, dNext, dBrk, dCnt, dRetN, dIf, gN, dSl, dPart, dNoPart, dChain, bd, rt, endF, wB, wI, on1, on2, stuck, wTru]) ?_
  refine post_seq_nx (ρ' := [some sc, some (.int 77023), some (.obj S.length), none]) (S' := S ++ [.lst []]) (by simp [dRet, dAndV, dOrV, dNotV, dUn, dOp, dVar, dC, dB, dAnd, dOr, dNot, dTru, dCons, dNil, dTup, dCall, dCB, dIfS, dSeq, dAsg, dEx, dNext, dBrk, dCnt, dRetN, dIf, gN, dSl, dPart, dNoPart, dChain, bd, rt, endF, wB, wI, on1, on2, stuck, wTru, dLst, mk]) ?_
  rw [post_seq]
  unfold dFor
  rw [post_bd]
  have e2 : dSeqI (dVar 0) [some sc, some (.int 77023), some (.obj S.length), none] (S ++ [.lst []]) = .ok (ns.map W.int, gd) (S ++ [.lst []]) := by
    simp [dRet, dAndV, dOrV, dNotV, dUn, dOp, dVar, dC, dB, dAnd, dOr, dNot, dTru, dCons, dNil, dTup, dCall, dCB, dIfS, dSeq, dAsg, dEx, dNext, dBrk, dCnt, dRetN, dIf, gN, dSl, dPart, dNoPart, dChain, bd, rt, endF, wB, wI, on1, on2, stuck, wTru, dSeqI]
    exact hq _ ⟨_, rfl⟩
  rw [e2, post_ok]
  have cm2 : ∀ c : Int, CMul c 16807 := fun c => .inr ⟨by decide, by decide⟩
  have cp : CPow 10 18 := ⟨by decide, by decide, by decide⟩
  refine forD_post (fun items ρ S' => ∃ (r : List Int) (st : Int) (ks : List Int) (y : Option W), items = r.map W.int ∧ ρ = [some sc, some (.int st), some (.obj S.length), y] ∧ S' = S ++ [.lst (ks.map W.int)] ∧ 0 ≤ st ∧ st < 2305843009213693951 ∧ (∀ k ∈ ks, 0 ≤ k) ∧ ks.length + r.length ≤ ns.length) ?_ ?_ _ _ _
    ⟨ns, 77023, [], none, rfl, rfl, rfl, by decide, by decide, by simp, by simp⟩
  · rintro w ws ρ S' ⟨r, st, ks, y, hi, rfl, rfl, h0, h1, hk, hl⟩
    cases r with
    | nil => cases hi
    | cons c r =>
      simp only [List.map_cons, List.cons.injEq] at hi
      obtain ⟨rfl, rfl⟩ := hi
      refine ⟨hg _ ⟨_, rfl⟩, ?_⟩
      have cm : CMul st 1181783497276652981 := .inl ⟨by omega, by omega⟩
      have hmod0 : 0 ≤ (st * 1181783497276652981 + c * 16807 + 7) % 2305843009213693951 := Int.emod_nonneg _ (by decide)
      have hmod1 : (st * 1181783497276652981 + c * 16807 + 7) % 2305843009213693951 < 2305843009213693951 := Int.emod_lt_of_pos _ (by decide)
      have hg : (S ++ [SO.lst (ks.map W.int)])[S.length]? = some (.lst (ks.map W.int)) := by simp
      rw [List.length_cons] at hl
      have hks : ks.length < 100000 := by omega
      obtain ⟨ca, hca, hc0⟩ : ∃ ca : Int, (if c < 0 then -c else c) = ca ∧ 0 ≤ ca := ⟨_, rfl, by split <;> omega⟩
      by_cases big : (1000000000000000000 : Int) ≤ ca
      · have e : (dSeq (dAsg (dOp wMod (dCB (on1 wInt) (dCons (dOp wAdd (dOp wAdd (dOp wMul (dVar 1) (dC (.int 1181783497276652981))) (dOp wMul (dVar 3) (dC (.int 16807)))) (dC (.int 7))) dNil)) (dC (.int 2305843009213693951))) (gN 1))
            (dIfS (dB (dOp wGe (dCB (on1 wAbs) (dCons (dVar 3) dNil)) (dOp wPow (dC (.int 10)) (dC (.int 18))))) (dEx (tyW isL wApp (dVar 2) (dCons (dCB (on1 wAbs) (dCons (dVar 3) dNil)) dNil))) dNext) [some sc, some (.int st), some (.obj S.length), some (.int c)] (S ++ [SO.lst (ks.map W.int)])) =
            .ok (.nx [some sc, some (.int ((st * 1181783497276652981 + c * 16807 + 7) % 2305843009213693951)), some (.obj S.length), some (.int c)]) (S ++ [SO.lst ((ks ++ [ca]).map W.int)]) := by
          simp [dRet, dAndV, dOrV, dNotV, dUn, dOp, dVar, dC, dB, dAnd, dOr, dNot, dTru, dCons, dNil, dTup, dCall, dCB, dIfS, dSeq, dAsg, dEx, dNext, dBrk, dCnt, dRetN, dIf, gN, dSl, dPart, dNoPart, dChain, bd, rt, endF, wB, wI, on1, on2, stuck, wTru, wMul, cm, cm2, wAdd, wInt, wMod, wAbs, hca, wPow, cp, wGe, big, tyW, isL, hg, wApp, hks]
        show ((gN 3 (.int c) [some sc, some (.int st), some (.obj S.length), y]) (S ++ [SO.lst (ks.map W.int)])).post _ _
        show (dSeq _ _ [some sc, some (.int st), some (.obj S.length), some (.int c)] (S ++ [SO.lst (ks.map W.int)])).post _ _
        rw [e, post_ok]
        exact ⟨r, _, ks ++ [ca], some (.int c), rfl, rfl, rfl, hmod0, hmod1, fun k hk' => by
          rcases List.mem_append.mp hk' with q | q
          · exact hk k q
          · rw [List.mem_singleton.mp q]; exact hc0, by simp; omega⟩
      · have e : (dSeq (dAsg (dOp wMod (dCB (on1 wInt) (dCons (dOp wAdd (dOp wAdd (dOp wMul (dVar 1) (dC (.int 1181783497276652981))) (dOp wMul (dVar 3) (dC (.int 16807)))) (dC (.int 7))) dNil)) (dC (.int 2305843009213693951))) (gN 1))
            (dIfS (dB (dOp wGe (dCB (on1 wAbs) (dCons (dVar 3) dNil)) (dOp wPow (dC (.int 10)) (dC (.int 18))))) (dEx (tyW isL wApp (dVar 2) (dCons (dCB (on1 wAbs) (dCons (dVar 3) dNil)) dNil))) dNext) [some sc, some (.int st), some (.obj S.length), some (.int c)] (S ++ [SO.lst (ks.map W.int)])) =
            .ok (.nx [some sc, some (.int ((st * 1181783497276652981 + c * 16807 + 7) % 2305843009213693951)), some (.obj S.length), some (.int c)]) (S ++ [SO.lst (ks.map W.int)]) := by
          simp [dRet, dAndV, dOrV, dNotV, dUn, dOp, dVar, dC, dB, dAnd, dOr, dNot, dTru, dCons, dNil, dTup, dCall, dCB, dIfS, dSeq, dAsg, dEx, dNext, dBrk, dCnt, dRetN, dIf, gN, dSl, dPart, dNoPart, dChain, bd, rt, endF, wB, wI, on1, on2, stuck, wTru, wMul, cm, cm2, wAdd, wInt, wMod, wAbs, hca, wPow, cp, wGe, big]
        show (dSeq _ _ [some sc, some (.int st), some (.obj S.length), some (.int c)] (S ++ [SO.lst (ks.map W.int)])).post _ _
        rw [e, post_ok]
        exact ⟨r, _, ks, some (.int c), rfl, rfl, rfl, hmod0, hmod1, hk, by omega⟩
  · rintro ρ S' ⟨r, st, ks, y, hi, rfl, rfl, h0, h1, hk, hl⟩
    refine ⟨hg _ ⟨_, rfl⟩, ?_⟩
    cases r with
    | cons c r => cases hi
    | nil =>
      have e : (dRet (dLst (dCons (dVar 1) (dCons (dC (.int 0)) (dCons (dUn wRev (dVar 2)) dNil)))) [some sc, some (.int st), some (.obj S.length), y] (S ++ [SO.lst (ks.map W.int)])) = .ok (.rtn (.obj (S.length + 2))) (S ++ [SO.lst (ks.map W.int)] ++ [SO.lst (ks.reverse.map W.int)] ++ [SO.lst [.int st, .int 0, .obj (S.length + 1)]]) := by
        simp [dRet, dAndV, dOrV, dNotV, dUn, dOp, dVar, dC, dB, dAnd, dOr, dNot, dTru, dCons, dNil, dTup, dCall, dCB, dIfS, dSeq, dAsg, dEx, dNext, dBrk, dCnt, dRetN, dIf, gN, dSl, dPart, dNoPart, dChain, bd, rt, endF, wB, wI, on1, on2, stuck, wTru, dLst, mk, wRev]
      show (dRet _ _ _).post _ _
      rw [e, post_ok]
      refine ⟨⟨S.length + 2, S.length + 1, rfl, ⟨st, 0, ks.reverse, ?_⟩, by omega, by omega⟩, ⟨_, by rw [List.append_assoc, List.append_assoc]⟩⟩
      exact ⟨by omega, by simp [List.getElem?_append], by simp [List.getElem?_append], h0, h1, by decide, fun k hk' => hk k (by simpa using hk')⟩
end MP

set_option Elab.async false
set_option linter.all false
set_option maxRecDepth 100000
set_option maxHeartbeats 4000000
namespace MP
open PySem PySem.Spec PyProof.Rows L2 GxR Gx He
section
variable {S : Sto} {ρ : En} {x : Str → Nat → Sto → Prop} {a b c d : DE} {t u : DT} {da : DA} {w : W} {i n : Nat} {lo hi : DO}
theorem p_ret {k : Fl → Sto → Prop} : (dRet d ρ S).post k x ↔ (d ρ S).post (fun w S' => k (.rtn w) S') x := post_bd
theorem p_asg {k : Fl → Sto → Prop} : (dAsg d (gN i) ρ S).post k x ↔ (d ρ S).post (fun w S' => k (.nx (ρ.set i (some w))) S') x := post_bd
theorem p_asgG {g : W → En → M En} {k : Fl → Sto → Prop} : (dAsg d g ρ S).post k x ↔ (d ρ S).post (fun w S' => (g w ρ S').post (fun ρ' S2 => k (.nx ρ') S2) x) x := by
  unfold dAsg
  rw [post_bd]
  constructor <;> intro h <;> exact post_imp h (fun w S' q => by first | exact post_bd.mp q | exact post_bd.mpr q) fun _ _ _ z => z
theorem p_ex {k : Fl → Sto → Prop} : (dEx d ρ S).post k x ↔ (d ρ S).post (fun _ S' => k (.nx ρ) S') x := post_bd
theorem p_op {f : W → W → M W} {k : W → Sto → Prop} : (dOp f a b ρ S).post k x ↔ (a ρ S).post (fun u S1 => (b ρ S1).post (fun v S2 => (f u v S2).post k x) x) x := by
  unfold dOp
  rw [post_bd]
  constructor <;> intro h <;> exact post_imp h (fun w S' q => by first | exact post_bd.mp q | exact post_bd.mpr q) fun _ _ _ z => z
theorem p_un {f : W → M W} {k : W → Sto → Prop} : (dUn f a ρ S).post k x ↔ (a ρ S).post (fun u S1 => (f u S1).post k x) x := post_bd
theorem p_cb {f : List W → M W} {k : W → Sto → Prop} : (dCB f da ρ S).post k x ↔ (da ρ S).post (fun u S1 => (f u S1).post k x) x := post_bd
theorem p_cons {k : List W → Sto → Prop} : (dCons a da ρ S).post k x ↔ (a ρ S).post (fun u S1 => (da ρ S1).post (fun us S2 => k (u :: us) S2) x) x := by
  unfold dCons
  rw [post_bd]
  constructor <;> intro h <;> exact post_imp h (fun w S' q => by first | exact post_bd.mp q | exact post_bd.mpr q) fun _ _ _ z => z
theorem p_nil {k : List W → Sto → Prop} : (dNil ρ S).post k x ↔ k [] S := Iff.rfl
theorem p_c {k : W → Sto → Prop} : (dC w ρ S).post k x ↔ k w S := Iff.rfl
theorem p_call {F : Fn} {k : W → Sto → Prop} : (dCall n F da ρ S).post k x ↔ (da ρ S).post (fun ws S' => ws.length = n ∧ (F ws S').post k x) x := by
  unfold dCall
  rw [post_bd]
  constructor <;> intro h <;> refine post_imp h (fun ws S' q => ?_) fun _ _ _ z => z
  · by_cases c : ws.length = n
    · rw [if_pos c] at q; exact ⟨c, q⟩
    · rw [if_neg c] at q; exact q.elim
  · rw [if_pos q.1]; exact q.2
theorem p_if {s1 s2 : DS} {k : Fl → Sto → Prop} : (dIfS t s1 s2 ρ S).post k x ↔ (t ρ S).post (fun c S' => if c = true then (s1 ρ S').post k x else (s2 ρ S').post k x) x := by
  unfold dIfS
  rw [post_bd]
  constructor <;> intro h <;> refine post_imp h (fun c S' q => ?_) fun _ _ _ z => z <;> cases c <;> exact q
theorem p_b {k : Bool → Sto → Prop} : (dB d ρ S).post k x ↔ (d ρ S).post (fun w S' => ∃ c, w = .bl c ∧ k c S') x := by
  unfold dB
  rw [post_bd]
  constructor <;> intro h <;> refine post_imp h (fun w S' q => ?_) fun _ _ _ z => z
  · cases w <;> first | exact ⟨_, rfl, q⟩ | exact q.elim
  · obtain ⟨c, rfl, q⟩ := q; exact q
theorem p_tru {k : Bool → Sto → Prop} : (dTru d ρ S).post k x ↔ (d ρ S).post (fun w S' => (wTru w S').post k x) x := post_bd
theorem p_not {k : Bool → Sto → Prop} : (dNot t ρ S).post k x ↔ (t ρ S).post (fun c S' => k (!c) S') x := post_bd
theorem p_and {k : Bool → Sto → Prop} : (dAnd t u ρ S).post k x ↔ (t ρ S).post (fun c S' => if c = true then (u ρ S').post k x else k false S') x := by
  unfold dAnd
  rw [post_bd]
  constructor <;> intro h <;> refine post_imp h (fun c S' q => ?_) fun _ _ _ z => z <;> cases c <;> exact q
theorem p_or {k : Bool → Sto → Prop} : (dOr t u ρ S).post k x ↔ (t ρ S).post (fun c S' => if c = true then k true S' else (u ρ S').post k x) x := by
  unfold dOr
  rw [post_bd]
  constructor <;> intro h <;> refine post_imp h (fun c S' q => ?_) fun _ _ _ z => z <;> cases c <;> exact q
theorem p_tup {k : W → Sto → Prop} : (dTup da ρ S).post k x ↔ (da ρ S).post (fun ws S' => ws.length ≤ 100000 ∧ k (.tup ws) S') x := by
  unfold dTup
  rw [post_bd]
  constructor <;> intro h <;> refine post_imp h (fun ws S' q => ?_) fun _ _ _ z => z
  · by_cases c : ws.length ≤ 100000
    · rw [if_pos c] at q; exact ⟨c, q⟩
    · rw [if_neg c] at q; exact q.elim
  · rw [if_pos q.1]; exact q.2
theorem p_lst {k : W → Sto → Prop} : (dLst da ρ S).post k x ↔ (da ρ S).post (fun ws S' => ws.length ≤ 100000 ∧ k (.obj S'.length) (S' ++ [.lst ws])) x := by
  unfold dLst
  rw [post_bd]
  constructor <;> intro h <;> refine post_imp h (fun ws S' q => ?_) fun _ _ _ z => z
  · by_cases c : ws.length ≤ 100000
    · rw [if_pos c] at q; exact ⟨c, q⟩
    · rw [if_neg c] at q; exact q.elim
  · rw [if_pos q.1]; exact q.2
theorem p_next {k : Fl → Sto → Prop} : (dNext ρ S).post k x ↔ k (.nx ρ) S := Iff.rfl
theorem p_var {k : W → Sto → Prop} (h : ρ[i]? = some (some w)) : (dVar i ρ S).post k x ↔ k w S := by
  unfold dVar
  rw [h]
  exact Iff.rfl
theorem p_sl {f : W → Option Int → Option Int → M W} {k : W → Sto → Prop} : (dSl f d lo hi ρ S).post k x ↔ (d ρ S).post (fun w S1 => (lo ρ S1).post (fun l S2 => (hi ρ S2).post (fun h S3 => (f w l h S3).post k x) x) x) x := by
  unfold dSl
  rw [post_bd]
  constructor <;> intro h <;> refine post_imp h (fun w S' q => ?_) fun _ _ _ z => z
  · exact post_imp (post_bd.mp q) (fun l S2 q2 => post_bd.mp q2) fun _ _ _ z => z
  · exact post_bd.mpr (post_imp q (fun l S2 q2 => post_bd.mpr q2) fun _ _ _ z => z)
theorem p_no {k : Option Int → Sto → Prop} : (dNoPart ρ S).post k x ↔ k none S := Iff.rfl
theorem p_part {k : Option Int → Sto → Prop} : (dPart d ρ S).post k x ↔ (d ρ S).post (fun w S' => ∃ i, w = .int i ∧ k (some i) S') x := by
  unfold dPart
  rw [post_bd]
  constructor <;> intro h <;> refine post_imp h (fun w S' q => ?_) fun _ _ _ z => z
  · cases w <;> first | exact ⟨_, rfl, post_bd.mp q⟩ | exact (post_bd.mp q).elim
  · obtain ⟨c, rfl, q⟩ := q; exact post_bd.mpr q
theorem p_for {it : DI} {g : W → En → M En} {s : DS} {k : Fl → Sto → Prop} : (dFor it g s ρ S).post k x ↔ (it ρ S).post (fun p S' => (forD g s p.2 p.1 ρ S').post k x) x := post_bd
theorem p_rng {k : List W × (Sto → Prop) → Sto → Prop} : (dRng1 da ρ S).post k x ↔ (da ρ S).post (fun ws S' => ∃ j, ws = [.int j] ∧ (-(2 ^ 62) ≤ j ∧ j < 2 ^ 62) ∧ k (rngW 0 j.toNat, fun _ => True) S') x := by
  unfold dRng1
  rw [post_bd]
  constructor <;> intro h <;> refine post_imp h (fun ws S' q => ?_) fun _ _ _ z => z
  · match ws, q with
    | [.int j], q =>
      have q' : ((if -(2 ^ 62) ≤ j ∧ j < 2 ^ 62 then rt (rngW 0 j.toNat, fun _ => True) else stuck : M (List W × (Sto → Prop))) S').post k x := q
      by_cases c : -(2 ^ 62) ≤ j ∧ j < 2 ^ 62
      · rw [if_pos c] at q'; exact ⟨j, rfl, c, q'⟩
      · rw [if_neg c] at q'; exact q'.elim
  · obtain ⟨j, rfl, c, q⟩ := q
    show ((if -(2 ^ 62) ≤ j ∧ j < 2 ^ 62 then rt (rngW 0 j.toNat, fun _ => True) else stuck : M (List W × (Sto → Prop))) S').post k x
    rw [if_pos c]
    exact q
theorem p_seqI {k : List W × (Sto → Prop) → Sto → Prop} : (dSeqI d ρ S).post k x ↔ (d ρ S).post (fun w S' => (seqOrStr w S').post k x) x := post_bd
end
/-- a call that draws -/
def Dr (tp gr : Nat) (S : Sto) (v : W → Prop) (r : R W) : Prop := r.post (fun w S' => v w ∧ Tape tp gr S' ∧ Mv [tp, gr] S S') fun _ _ _ => False
theorem Dr.imp {tp gr : Nat} {S : Sto} {v : W → Prop} {r : R W} (h : Dr tp gr S v r) {k : W → Sto → Prop} {x : Str → Nat → Sto → Prop} (hk : ∀ w S', v w → Tape tp gr S' → Mv [tp, gr] S S' → k w S') : r.post k x :=
  post_imp h (fun w S' ⟨a, b, c⟩ => hk w S' a b c) fun _ _ _ z => z.elim
def InR (lo hi : Int) (w : W) : Prop := ∃ r, w = .int r ∧ lo ≤ r ∧ r ≤ hi
theorem d_draw {S : Sto} {tp gr : Nat} {m : Int} (h : Tape tp gr S) (h1 : 1 ≤ m) (h2 : m ≤ 1000000000001) : Dr tp gr S (InR 0 (m - 1)) (f_u_law_draw [.obj tp, .int m] S) := by
  refine post_imp (s_draw h h1 h2 (x := fun _ _ _ => False)) (fun w S' ⟨⟨r, e, a, b⟩, c, d⟩ => ⟨⟨r, e, a, by omega⟩, c, d⟩) fun _ _ _ z => z
theorem q_eqI {S : Sto} {i j : Int} {k : W → Sto → Prop} {x : Str → Nat → Sto → Prop} : (wEq (.int i) (.int j) S).post k x ↔ k (.bl (decide (i = j))) S := by simp [wEq, wEq2, R.post, rt]
theorem q_lt {S : Sto} {i j : Int} {k : W → Sto → Prop} {x : Str → Nat → Sto → Prop} : (wLt (.int i) (.int j) S).post k x ↔ k (.bl (decide (i < j))) S := Iff.rfl
theorem q_le {S : Sto} {i j : Int} {k : W → Sto → Prop} {x : Str → Nat → Sto → Prop} : (wLe (.int i) (.int j) S).post k x ↔ k (.bl (decide (i ≤ j))) S := Iff.rfl
theorem q_gt {S : Sto} {i j : Int} {k : W → Sto → Prop} {x : Str → Nat → Sto → Prop} : (wGt (.int i) (.int j) S).post k x ↔ k (.bl (decide (j < i))) S := Iff.rfl
theorem q_add {S : Sto} {i j : Int} {k : W → Sto → Prop} {x : Str → Nat → Sto → Prop} : (wAdd (.int i) (.int j) S).post k x ↔ k (.int (i + j)) S := Iff.rfl
theorem q_sub {S : Sto} {i j : Int} {k : W → Sto → Prop} {x : Str → Nat → Sto → Prop} : (wSub (.int i) (.int j) S).post k x ↔ k (.int (i - j)) S := Iff.rfl
theorem q_min {S : Sto} {i j : Int} {k : W → Sto → Prop} {x : Str → Nat → Sto → Prop} : (wMin2 (.int i) (.int j) S).post k x ↔ k (.int (if j < i then j else i)) S := Iff.rfl
theorem q_max {S : Sto} {i j : Int} {k : W → Sto → Prop} {x : Str → Nat → Sto → Prop} : (wMax2 (.int i) (.int j) S).post k x ↔ k (.int (if j > i then j else i)) S := Iff.rfl
theorem q_pow {S : Sto} {i j : Int} {k : W → Sto → Prop} {x : Str → Nat → Sto → Prop} (h : CPow i j) : (wPow (.int i) (.int j) S).post k x ↔ k (.int (i ^ j.toNat)) S := by
  unfold wPow
  simp only [if_pos h]
  exact Iff.rfl
theorem bl_ex {b : Bool} {p : Bool → Prop} : (∃ c, W.bl b = .bl c ∧ p c) ↔ p b := ⟨fun ⟨c, e, h⟩ => by cases e; exact h, fun h => ⟨b, rfl, h⟩⟩
theorem d_size {S : Sto} {tp gr : Nat} (h : Tape tp gr S) : Dr tp gr S (InR 1 1000000000000) (f_u_law_size [.obj tp] S) := by
  unfold Dr
  rw [run_u_law_size]
  unfold d_u_law_size
  have cp : CPow 10 12 := ⟨by decide, by decide, by decide⟩
  simp only [post_seq, p_ret, p_asg, p_ex, p_op, p_un, p_cb, p_cons, p_nil, p_c, p_call, p_if, p_b, p_tru, p_not, p_and, p_or, p_tup, p_lst, p_next, p_sl, p_no, p_part, p_for, p_rng, p_seqI, post_endF, dVar, List.getElem?_cons_zero, List.getElem?_cons_succ, List.set_cons_zero, List.set_cons_succ, post_rt, List.length_cons, List.length_nil, Nat.zero_add, Nat.reduceAdd, true_and, on1, on2]
  refine (d_draw h (by decide) (by decide)).imp fun w S1 hv t1 m1 => ?_
  obtain ⟨r, rfl, r0, r1⟩ := hv
  simp only [post_seq, p_ret, p_asg, p_ex, p_op, p_un, p_cb, p_cons, p_nil, p_c, p_call, p_if, p_b, p_tru, p_not, p_and, p_or, p_tup, p_lst, p_next, p_sl, p_no, p_part, p_for, p_rng, p_seqI, post_endF, dVar, List.getElem?_cons_zero, List.getElem?_cons_succ, List.set_cons_zero, List.set_cons_succ, post_rt, List.length_cons, List.length_nil, Nat.zero_add, Nat.reduceAdd, true_and, on1, on2, q_eqI, bl_ex]
  by_cases c0 : r = 0
  · simp only [c0, decide_true, if_true]
    exact ⟨⟨1, rfl, by decide, by decide⟩, t1, m1⟩
  simp only [post_seq, p_ret, p_asg, p_ex, p_op, p_un, p_cb, p_cons, p_nil, p_c, p_call, p_if, p_b, p_tru, p_not, p_and, p_or, p_tup, p_lst, p_next, p_sl, p_no, p_part, p_for, p_rng, p_seqI, post_endF, dVar, List.getElem?_cons_zero, List.getElem?_cons_succ, List.set_cons_zero, List.set_cons_succ, post_rt, List.length_cons, List.length_nil, Nat.zero_add, Nat.reduceAdd, true_and, on1, on2, c0, decide_false, Bool.false_eq_true, if_false, q_lt, bl_ex]
  by_cases c1 : r < 4
  · simp only [post_seq, p_ret, p_asg, p_ex, p_op, p_un, p_cb, p_cons, p_nil, p_c, p_call, p_if, p_b, p_tru, p_not, p_and, p_or, p_tup, p_lst, p_next, p_sl, p_no, p_part, p_for, p_rng, p_seqI, post_endF, dVar, List.getElem?_cons_zero, List.getElem?_cons_succ, List.set_cons_zero, List.set_cons_succ, post_rt, List.length_cons, List.length_nil, Nat.zero_add, Nat.reduceAdd, true_and, on1, on2, c1, decide_true, if_true]
    refine (d_draw t1 (by decide) (by decide)).imp fun w S2 hv t2 m2 => ?_
    obtain ⟨q, rfl, q0, q1⟩ := hv
    exact ⟨⟨1 + q, rfl, by omega, by omega⟩, t2, m1.trans m2⟩
  simp only [post_seq, p_ret, p_asg, p_ex, p_op, p_un, p_cb, p_cons, p_nil, p_c, p_call, p_if, p_b, p_tru, p_not, p_and, p_or, p_tup, p_lst, p_next, p_sl, p_no, p_part, p_for, p_rng, p_seqI, post_endF, dVar, List.getElem?_cons_zero, List.getElem?_cons_succ, List.set_cons_zero, List.set_cons_succ, post_rt, List.length_cons, List.length_nil, Nat.zero_add, Nat.reduceAdd, true_and, on1, on2, c1, decide_false, Bool.false_eq_true, if_false, q_eqI, bl_ex]
  by_cases c2 : r = 4
  · simp only [post_seq, p_ret, p_asg, p_ex, p_op, p_un, p_cb, p_cons, p_nil, p_c, p_call, p_if, p_b, p_tru, p_not, p_and, p_or, p_tup, p_lst, p_next, p_sl, p_no, p_part, p_for, p_rng, p_seqI, post_endF, dVar, List.getElem?_cons_zero, List.getElem?_cons_succ, List.set_cons_zero, List.set_cons_succ, post_rt, List.length_cons, List.length_nil, Nat.zero_add, Nat.reduceAdd, true_and, on1, on2, c2, decide_true, if_true, q_pow cp]
    refine (d_draw t1 (by decide) (by decide)).imp fun w S2 hv t2 m2 => ?_
    obtain ⟨q, rfl, q0, q1⟩ := hv
    exact ⟨⟨1000000000000 - q, rfl, by omega, by omega⟩, t2, m1.trans m2⟩
  simp only [post_seq, p_ret, p_asg, p_ex, p_op, p_un, p_cb, p_cons, p_nil, p_c, p_call, p_if, p_b, p_tru, p_not, p_and, p_or, p_tup, p_lst, p_next, p_sl, p_no, p_part, p_for, p_rng, p_seqI, post_endF, dVar, List.getElem?_cons_zero, List.getElem?_cons_succ, List.set_cons_zero, List.set_cons_succ, post_rt, List.length_cons, List.length_nil, Nat.zero_add, Nat.reduceAdd, true_and, on1, on2, c2, decide_false, Bool.false_eq_true, if_false, q_pow cp]
  refine (d_draw (m := 1000000000000) t1 (by decide) (by decide)).imp fun w S2 hv t2 m2 => ?_
  obtain ⟨q, rfl, q0, q1⟩ := hv
  exact ⟨⟨1 + q, rfl, by omega, by omega⟩, t2, m1.trans m2⟩
theorem d_upto {S : Sto} {tp gr : Nat} {top : Int} (h : Tape tp gr S) (h0 : 0 ≤ top) (h1 : top ≤ 1000000000000) : Dr tp gr S (InR 0 top) (f_u_law_upto [.obj tp, .int top] S) := by
  unfold Dr
  rw [run_u_law_upto]
  unfold d_u_law_upto
  simp only [post_seq, p_ret, p_asg, p_ex, p_op, p_un, p_cb, p_cons, p_nil, p_c, p_call, p_if, p_b, p_tru, p_not, p_and, p_or, p_tup, p_lst, p_next, p_sl, p_no, p_part, p_for, p_rng, p_seqI, post_endF, dVar, List.getElem?_cons_zero, List.getElem?_cons_succ, List.set_cons_zero, List.set_cons_succ, post_rt, List.length_cons, List.length_nil, Nat.zero_add, Nat.reduceAdd, true_and, on1, on2]
  refine (d_draw h (by decide) (by decide)).imp fun w S1 hv t1 m1 => ?_
  obtain ⟨r, rfl, r0, r1⟩ := hv
  simp only [post_seq, p_ret, p_asg, p_ex, p_op, p_un, p_cb, p_cons, p_nil, p_c, p_call, p_if, p_b, p_tru, p_not, p_and, p_or, p_tup, p_lst, p_next, p_sl, p_no, p_part, p_for, p_rng, p_seqI, post_endF, dVar, List.getElem?_cons_zero, List.getElem?_cons_succ, List.set_cons_zero, List.set_cons_succ, post_rt, List.length_cons, List.length_nil, Nat.zero_add, Nat.reduceAdd, true_and, on1, on2, q_eqI, bl_ex, q_le]
  by_cases c0 : r = 0
  · simp only [c0, decide_true, if_true]
    exact ⟨⟨0, rfl, by decide, h0⟩, t1, m1⟩
  simp only [post_seq, p_ret, p_asg, p_ex, p_op, p_un, p_cb, p_cons, p_nil, p_c, p_call, p_if, p_b, p_tru, p_not, p_and, p_or, p_tup, p_lst, p_next, p_sl, p_no, p_part, p_for, p_rng, p_seqI, post_endF, dVar, List.getElem?_cons_zero, List.getElem?_cons_succ, List.set_cons_zero, List.set_cons_succ, post_rt, List.length_cons, List.length_nil, Nat.zero_add, Nat.reduceAdd, true_and, on1, on2, c0, decide_false, Bool.false_eq_true, if_false]
  by_cases c01 : top ≤ 0
  · simp only [c01, decide_true, if_true]
    exact ⟨⟨0, rfl, by decide, h0⟩, t1, m1⟩
  simp only [post_seq, p_ret, p_asg, p_ex, p_op, p_un, p_cb, p_cons, p_nil, p_c, p_call, p_if, p_b, p_tru, p_not, p_and, p_or, p_tup, p_lst, p_next, p_sl, p_no, p_part, p_for, p_rng, p_seqI, post_endF, dVar, List.getElem?_cons_zero, List.getElem?_cons_succ, List.set_cons_zero, List.set_cons_succ, post_rt, List.length_cons, List.length_nil, Nat.zero_add, Nat.reduceAdd, true_and, on1, on2, c01, decide_false, Bool.false_eq_true, if_false, q_eqI, bl_ex]
  by_cases c1 : r = 1
  · simp only [post_seq, p_ret, p_asg, p_ex, p_op, p_un, p_cb, p_cons, p_nil, p_c, p_call, p_if, p_b, p_tru, p_not, p_and, p_or, p_tup, p_lst, p_next, p_sl, p_no, p_part, p_for, p_rng, p_seqI, post_endF, dVar, List.getElem?_cons_zero, List.getElem?_cons_succ, List.set_cons_zero, List.set_cons_succ, post_rt, List.length_cons, List.length_nil, Nat.zero_add, Nat.reduceAdd, true_and, on1, on2, c1, decide_true, if_true]
    exact ⟨⟨top, rfl, h0, by omega⟩, t1, m1⟩
  simp only [post_seq, p_ret, p_asg, p_ex, p_op, p_un, p_cb, p_cons, p_nil, p_c, p_call, p_if, p_b, p_tru, p_not, p_and, p_or, p_tup, p_lst, p_next, p_sl, p_no, p_part, p_for, p_rng, p_seqI, post_endF, dVar, List.getElem?_cons_zero, List.getElem?_cons_succ, List.set_cons_zero, List.set_cons_succ, post_rt, List.length_cons, List.length_nil, Nat.zero_add, Nat.reduceAdd, true_and, on1, on2, c1, decide_false, Bool.false_eq_true, if_false, q_eqI, bl_ex]
  by_cases c2 : r = 2
  · simp only [post_seq, p_ret, p_asg, p_ex, p_op, p_un, p_cb, p_cons, p_nil, p_c, p_call, p_if, p_b, p_tru, p_not, p_and, p_or, p_tup, p_lst, p_next, p_sl, p_no, p_part, p_for, p_rng, p_seqI, post_endF, dVar, List.getElem?_cons_zero, List.getElem?_cons_succ, List.set_cons_zero, List.set_cons_succ, post_rt, List.length_cons, List.length_nil, Nat.zero_add, Nat.reduceAdd, true_and, on1, on2, c2, decide_true, if_true]
    refine (d_draw t1 (by decide) (by decide)).imp fun w S2 hv t2 m2 => ?_
    obtain ⟨q, rfl, q0, q1⟩ := hv
    simp only [post_seq, p_ret, p_asg, p_ex, p_op, p_un, p_cb, p_cons, p_nil, p_c, p_call, p_if, p_b, p_tru, p_not, p_and, p_or, p_tup, p_lst, p_next, p_sl, p_no, p_part, p_for, p_rng, p_seqI, post_endF, dVar, List.getElem?_cons_zero, List.getElem?_cons_succ, List.set_cons_zero, List.set_cons_succ, post_rt, List.length_cons, List.length_nil, Nat.zero_add, Nat.reduceAdd, true_and, on1, on2, q_add, q_min]
    refine ⟨⟨if 1 + q < top then 1 + q else top, rfl, ?_, ?_⟩, t2, m1.trans m2⟩ <;> split <;> omega
  simp only [post_seq, p_ret, p_asg, p_ex, p_op, p_un, p_cb, p_cons, p_nil, p_c, p_call, p_if, p_b, p_tru, p_not, p_and, p_or, p_tup, p_lst, p_next, p_sl, p_no, p_part, p_for, p_rng, p_seqI, post_endF, dVar, List.getElem?_cons_zero, List.getElem?_cons_succ, List.set_cons_zero, List.set_cons_succ, post_rt, List.length_cons, List.length_nil, Nat.zero_add, Nat.reduceAdd, true_and, on1, on2, c2, decide_false, Bool.false_eq_true, if_false, q_add]
  refine (d_draw t1 (by omega) (by omega)).imp fun w S2 hv t2 m2 => ?_
  obtain ⟨q, rfl, q0, q1⟩ := hv
  exact ⟨⟨q, rfl, q0, by omega⟩, t2, m1.trans m2⟩
end MP

set_option Elab.async false
set_option linter.all false
set_option maxRecDepth 100000
set_option maxHeartbeats 4000000
namespace MP
open PySem PySem.Spec PyProof.Rows L2 GxR Gx He
def keptS : List Str := ["of", "in", "most", "all", "one", "heavy", "least", "spare", "mirror", "nobody", "manner", "rule", "lot", "trust", "charter", "row", "ask", "echo", "vote", "look", "hold", "change", "to"]
theorem keptL_eq : keptL = keptS.map W.str := rfl
theorem inV_str {z : Str} : ∀ {l : List Str}, inV (.str z) (l.map V.str) = l.any fun y => y == z
  | [] => rfl
  | a :: l => by
    have ih := inV_str (z := z) (l := l)
    unfold inV at ih ⊢
    rw [List.map_cons, List.any_cons, List.any_cons, ih]
    rfl
theorem kept_in {z : Str} : inV (.str z) (keptL.map fV) = keptS.any fun y => y == z := by
  rw [keptL_eq, List.map_map]
  exact inV_str
/-- letters, signs -/
def Wd (z : Str) (c : Nat) (cs : List Nat) : Prop := z.cps.toList = c :: cs ∧ c ∈ lettersL ∧ ∀ d ∈ cs, d ∈ figsL
theorem let_fig {c : Nat} (h : c ∈ lettersL) : c ∈ figsL := by
  have : lettersL.all (fun c => decide (c ∈ figsL)) = true := by decide
  exact of_decide_eq_true (List.all_eq_true.mp this c h)
theorem wd_word {z : Str} {c : Nat} {cs : List Nat} (h : Wd z c cs) (hl : cs.length ≤ 7) (hk : (keptS.any fun y => y == z) = false) : wordB z = true := by
  obtain ⟨h1, h2, h3⟩ := h
  have hlen : z.length = cs.length + 1 := by
    have : z.cps.toList.length = z.length := rfl
    rw [← this, h1]
    rfl
  unfold wordB
  rw [h1]
  simp only [Bool.and_eq_true, decide_eq_true_eq, Bool.not_eq_true', List.all_eq_true]
  refine ⟨by omega, h2, by rw [kept_in]; exact hk, fun d hd => ?_⟩
  rcases List.mem_cons.mp hd with e | e
  · rw [e]; exact let_fig h2
  · exact h3 d e
theorem ix_text {t : Str} {L : List Nat} (ht : t.cps.toList = L) (hs : t.length ≤ 100000) {r : Int} (h0 : 0 ≤ r) (h1 : r < L.length) {S : Sto} {k : W → Sto → Prop} {x : Str → Nat → Sto → Prop} (hk : ∀ c ∈ L, k (.str ⟨#[c]⟩) S) : (wIx (.str t) (.int r) S).post k x := by
  have e : r = ((r.toNat : Nat) : Int) := by omega
  have hlt : r.toNat < L.length := by omega
  unfold wIx
  simp only [if_pos hs]
  rw [ht, e, atI_nat, List.getElem?_eq_getElem hlt]
  exact hk _ (List.getElem_mem hlt)
theorem app_toList {a : Str} {c : Nat} : (a ++ (⟨#[c]⟩ : Str)).cps.toList = a.cps.toList ++ [c] := by
  show (a.cps ++ #[c]).toList = _
  simp
theorem e_kept {S : Sto} : f_u_law_kept [] S = .ok (.tup keptL) S := by
  rw [run_u_law_kept]
  unfold d_u_law_kept
  simp [dRet, dAndV, dOrV, dNotV, dUn, dOp, dVar, dC, dB, dAnd, dOr, dNot, dTru, dCons, dNil, dTup, dCall, dCB, dIfS, dSeq, dAsg, dEx, dNext, dBrk, dCnt, dRetN, dIf, gN, dSl, dPart, dNoPart, dChain, bd, rt, endF, wB, wI, on1, on2, stuck, wTru, keptL_eq, keptS]
theorem digit {k : Nat} (h : k < 10) : (toString (k : Int) : Str) = ⟨#[48 + k]⟩ := by
  match k, h with
  | 0, _ => decide
  | 1, _ => decide
  | 2, _ => decide
  | 3, _ => decide
  | 4, _ => decide
  | 5, _ => decide
  | 6, _ => decide
  | 7, _ => decide
  | 8, _ => decide
  | 9, _ => decide
theorem kept_last : ∀ y ∈ keptS, ∀ c, y.cps.toList.getLast? = some c → 97 ≤ c := by decide
end MP

set_option Elab.async false
set_option linter.all false
set_option maxRecDepth 100000
set_option maxHeartbeats 4000000
namespace MP
open PySem PySem.Spec PyProof.Rows L2 GxR Gx He
theorem pig {α : Type} [DecidableEq α] : ∀ (l ws : List α), l.Nodup → (∀ x ∈ l, x ∈ ws) → l.length ≤ ws.length
  | [], _, _, _ => Nat.zero_le _
  | a :: l, ws, hn, hs => by
    have h1 := List.length_erase_of_mem (hs a (by simp))
    obtain ⟨n1, n2⟩ := List.nodup_cons.mp hn
    have h2 := pig l (ws.erase a) n2 (fun x hx => (List.mem_erase_of_ne (fun e : x = a => n1 (by rw [← e]; exact hx))).mpr (hs x (by simp [hx])))
    have h3 : 0 < ws.length := List.length_pos_of_mem (hs a (by simp))
    rw [List.length_cons]
    omega
theorem any_mem {z : Str} {ws : List Str} : (ws.any fun y => y == z) = decide (z ∈ ws) := by
  by_cases h : z ∈ ws
  · rw [decide_eq_true h, List.any_eq_true]
    exact ⟨z, h, by simp⟩
  · rw [decide_eq_false h, List.any_eq_false]
    intro y hy e
    exact h (by simp at e; rw [← e]; exact hy)
theorem q_in {neg : Bool} {S : Sto} {z : Str} {n : Nat} {ws : List Str} (h : S[n]? = some (.lst (ws.map W.str))) : wIn neg (.str z) (.obj n) S = .ok (.bl ((decide (z ∈ ws)) != neg)) S := by
  have f : (ws.map W.str).all flatW = true := by simp [List.all_eq_true, flatW]
  have e : (ws.map W.str).map fV = ws.map V.str := by simp [fV]
  unfold wIn
  simp only [h]
  rw [if_pos ⟨rfl, f⟩, e, show fV (.str z) = .str z from rfl, inV_str, any_mem]
theorem q_inK {S : Sto} {z : Str} : wIn false (.str z) (.tup keptL) S = .ok (.bl (decide (z ∈ keptS))) S := by
  have f : keptL.all flatW = true := by decide
  unfold wIn
  simp only
  rw [if_pos ⟨rfl, f⟩, show fV (.str z) = .str z from rfl, kept_in, any_mem]
  simp [rt]
theorem cut6 {z : Str} {c : Nat} {cs : List Nat} (h : z.cps.toList = c :: cs) : (cutS z none (some 6)).cps.toList = c :: cs.take 5 := by
  have hl : z.length = cs.length + 1 := by
    have : z.cps.toList.length = z.length := rfl
    rw [← this, h]
    rfl
  unfold cutS
  simp only [HT.sIx, h, hl]
  show List.take (min 6 (cs.length + 1) - 0) (List.drop 0 (c :: cs)) = c :: cs.take 5
  rw [List.drop_zero, Nat.sub_zero]
  by_cases k : 6 ≤ cs.length + 1
  · rw [Nat.min_eq_left k]
    rfl
  · rw [Nat.min_eq_right (by omega)]
    rw [show (c :: cs.take 5) = (c :: cs).take 6 from rfl, List.take_of_length_le (by simp), List.take_of_length_le (by simp; omega)]
theorem p_call0 {F : Fn} {ρ : En} {S S' : Sto} {w : W} {k : W → Sto → Prop} {x : Str → Nat → Sto → Prop} (e : F [] S = .ok w S') (h : k w S') : (dCall0 F ρ S).post k x := by
  unfold dCall0
  rw [e]
  exact h
theorem q_addS {S : Sto} {a b : Str} {k : W → Sto → Prop} {x : Str → Nat → Sto → Prop} (h : a.length + b.length ≤ 100000) (hk : k (.str (a ++ b)) S) : (wAdd (.str a) (.str b) S).post k x := by
  unfold wAdd
  simp only [if_pos h]
  exact hk
theorem len_wd {z : Str} {c : Nat} {cs : List Nat} (h : z.cps.toList = c :: cs) : z.length = cs.length + 1 := by
  have : z.cps.toList.length = z.length := rfl
  rw [← this, h]
  rfl
/-- what the search of a free word tries -/
def oth (p : Str) (j : Nat) : Str := p ++ (⟨#[48 + j]⟩ : Str)
theorem oth_inj {p : Str} {i j : Nat} (h : oth p i = oth p j) : i = j := by
  have e : (oth p i).cps.toList = (oth p j).cps.toList := by rw [h]
  unfold oth at e
  rw [app_toList, app_toList, List.append_cancel_left_eq] at e
  have : 48 + i = 48 + j := by simpa using e
  omega
theorem oth_full {p : Str} {ws : List Str} (h : ∀ j, j < 10 → oth p j ∈ ws) : 10 ≤ ws.length := by
  have := pig ((List.range 10).map (oth p)) ws ?_ ?_
  · simpa using this
  · rw [List.nodup_iff_pairwise_ne, List.pairwise_map]
    exact List.Pairwise.imp (fun hij e => hij (oth_inj e)) (List.nodup_iff_pairwise_ne.mp List.nodup_range)
  · intro x hx
    obtain ⟨j, hj, rfl⟩ := List.mem_map.mp hx
    exact h j (by simpa using hj)
theorem oth_word {p : Str} {c : Nat} {cs : List Nat} {j : Nat} (h : Wd p c cs) (hl : cs.length ≤ 6) (hj : j < 10) : wordB (oth p j) = true := by
  obtain ⟨h1, h2, h3⟩ := h
  have e : (oth p j).cps.toList = c :: (cs ++ [48 + j]) := by unfold oth; rw [app_toList, h1]; rfl
  refine wd_word (c := c) (cs := cs ++ [48 + j]) ⟨e, h2, ?_⟩ (by simp; omega) ?_
  · intro d hd
    rcases List.mem_append.mp hd with q | q
    · exact h3 d q
    · rw [List.mem_singleton.mp q]
      have : (List.range 10).all (fun j => decide (48 + j ∈ figsL)) = true := by decide
      exact of_decide_eq_true (List.all_eq_true.mp this j (by simpa using hj))
  · rw [any_mem]
    apply decide_eq_false
    intro hm
    have := kept_last _ hm (48 + j) (by rw [e, ← List.cons_append, List.getLast?_append]; rfl)
    omega
end MP

set_option Elab.async false
set_option linter.all false
set_option maxRecDepth 100000
set_option maxHeartbeats 4000000
namespace MP
open PySem PySem.Spec PyProof.Rows L2 GxR Gx He
def NewW (ws : List Str) (w : W) : Prop := ∃ z, w = .str z ∧ wordB z = true ∧ z ∉ ws
theorem wd_app {z : Str} {c d : Nat} {cs : List Nat} (h : Wd z c cs) (hd : d ∈ figsL) : Wd (z ++ (⟨#[d]⟩ : Str)) c (cs ++ [d]) := by
  obtain ⟨h1, h2, h3⟩ := h
  refine ⟨by rw [app_toList, h1]; rfl, h2, fun e he => ?_⟩
  rcases List.mem_append.mp he with q | q
  · exact h3 e q
  · rw [List.mem_singleton.mp q]; exact hd
theorem fill {S : Sto} {tp bw : Nat} {ws : List Str} {z : Str} {c : Nat} {cs : List Nat} {y : Option W} (hz : Wd z c cs) (hcl : cs.length ≤ 7) (hb : S[bw]? = some (.lst (ws.map W.str))) (hl : ws.length ≤ 8) {k : Fl → Sto → Prop} {x : Str → Nat → Sto → Prop}
    (hk : ∀ u, wordB u = true → u ∉ ws → k (.rtn (.str u)) S) :
    (forD (gN 3) (dSeq (dAsg (dOp wAdd (dSl wSl (dVar 2) dNoPart (dPart (dC (W.int 6)))) (dCB (on1 wStr) (dCons (dVar 3) dNil))) (gN 4)) (dIfS (dB (dOp (wIn true) (dVar 4) (dVar 1))) (dRet (dVar 4)) dNext))
      (fun _ => True) (rngW 0 10) [some (.obj tp), some (.obj bw), some (.str z), y, none] S).post k x := by
  have hzl := len_wd hz.1
  have c6 := cut6 hz.1
  have hp : Wd (cutS z none (some 6)) c (cs.take 5) := ⟨c6, hz.2.1, fun d hd => hz.2.2 d (List.mem_of_mem_take hd)⟩
  have hpl := len_wd hp.1
  have h5 : (cs.take 5).length ≤ 5 := by simp; omega
  refine forD_post (fun items ρ S' => S' = S ∧ ∃ n y v4, n ≤ 10 ∧ items = (rngW 0 10).drop n ∧ ρ = [some (.obj tp), some (.obj bw), some (.str z), y, v4] ∧ ∀ j, j < n → oth (cutS z none (some 6)) j ∈ ws) ?_ ?_ _ _ _
    ⟨rfl, 0, y, none, by decide, rfl, rfl, fun j hj => absurd hj (by omega)⟩
  · rintro w us ρ S' ⟨rfl, n, y, v4, hn, hi, rfl, hj⟩
    refine ⟨trivial, ?_⟩
    have hn' : n < 10 := by
      apply Classical.byContradiction
      intro e
      have : n = 10 := by omega
      subst this
      cases hi
    have hw : w = .int n ∧ us = (rngW 0 10).drop (n + 1) := by
      have e : (rngW 0 10).drop n = W.int n :: (rngW 0 10).drop (n + 1) := by
        have hlen : (rngW 0 10).length = 10 := by decide
        rw [List.drop_eq_getElem_cons (by omega)]
        simp [rngW]
      rw [e] at hi
      simp only [List.cons.injEq] at hi
      exact hi
    obtain ⟨rfl, rfl⟩ := hw
    show (dSeq _ _ [some (.obj tp), some (.obj bw), some (.str z), some (.int n), v4] S').post _ _
    have hlog : (n : Int).natAbs.log2 < 1920 := by
      rw [Int.natAbs_natCast]
      exact Nat.lt_of_le_of_lt (Nat.log2_le_self n) (by omega)
    have hadd : (cutS z none (some 6)).length + ((⟨#[48 + n]⟩ : Str)).length ≤ 100000 := by
      rw [hpl]
      show _ + 1 ≤ _
      omega
    have e1 : dAsg (dOp wAdd (dSl wSl (dVar 2) dNoPart (dPart (dC (W.int 6)))) (dCB (on1 wStr) (dCons (dVar 3) dNil))) (gN 4) [some (.obj tp), some (.obj bw), some (.str z), some (.int n), v4] S' = .ok (.nx [some (.obj tp), some (.obj bw), some (.str z), some (.int n), some (.str (oth (cutS z none (some 6)) n))]) S' := by
      have hz1 : z.length ≤ 100000 := by omega
      have es : ∀ S, wStr (.int (n : Int)) S = .ok (.str ⟨#[48 + n]⟩) S := fun S => by
        unfold wStr
        simp only [if_pos hlog]
        rw [digit hn']
        rfl
      have ea : ∀ S, wAdd (.str (cutS z none (some 6))) (.str ⟨#[48 + n]⟩) S = .ok (.str (oth (cutS z none (some 6)) n)) S := fun S => by
        unfold wAdd
        simp only [if_pos hadd]
        rfl
      simp [dRet, dAndV, dOrV, dNotV, dUn, dOp, dVar, dC, dB, dAnd, dOr, dNot, dTru, dCons, dNil, dTup, dCall, dCB, dIfS, dSeq, dAsg, dEx, dNext, dBrk, dCnt, dRetN, dIf, gN, dSl, dPart, dNoPart, dChain, bd, rt, endF, wB, wI, on1, on2, stuck, wTru, wSl, hz1, es, ea]
    refine post_seq_nx e1 ?_
    rw [p_if, p_b, p_op, p_var rfl, p_var rfl, q_in hb, post_ok]
    refine ⟨_, rfl, ?_⟩
    by_cases hm : oth (cutS z none (some 6)) n ∈ ws
    · rw [decide_eq_true hm]
      exact ⟨rfl, n + 1, _, _, by omega, rfl, rfl, fun j h => by
        by_cases e : j = n
        · rw [e]; exact hm
        · exact hj j (by omega)⟩
    · rw [decide_eq_false hm]
      exact hk _ (oth_word hp (by omega) hn') hm
  · rintro ρ S' ⟨rfl, n, y, v4, hn, hi, rfl, hj⟩
    have : n = 10 := by
      have hlen : (rngW 0 10).length = 10 := by decide
      have := congrArg List.length hi
      simp [List.length_drop, hlen] at this
      omega
    subst this
    have := oth_full hj
    omega
theorem d_word {S : Sto} {tp gr bw : Nat} {ws : List Str} (h : Tape tp gr S) (hb : S[bw]? = some (.lst (ws.map W.str))) (h1 : bw ≠ tp) (h2 : bw ≠ gr) (hl : ws.length ≤ 8) :
    Dr tp gr S (NewW ws) (f_u_law_word [.obj tp, .obj bw] S) := by
  have hnot : bw ∉ [tp, gr] := by simp [h1, h2]
  unfold Dr
  rw [run_u_law_word]
  unfold d_u_law_word
  simp only [post_seq, p_ret, p_asg, p_ex, p_op, p_un, p_cb, p_cons, p_nil, p_c, p_call, p_if, p_b, p_tru, p_not, p_and, p_or, p_tup, p_lst, p_next, p_sl, p_no, p_part, p_for, p_rng, p_seqI, post_endF, dVar, List.getElem?_cons_zero, List.getElem?_cons_succ, List.set_cons_zero, List.set_cons_succ, post_rt, List.length_cons, List.length_nil, Nat.zero_add, Nat.reduceAdd, true_and, on1, on2]
  refine (d_draw h (by decide) (by decide)).imp fun w S1 hv t1 m1 => ?_
  obtain ⟨r, rfl, r0, r1⟩ := hv
  refine ix_text (L := lettersL) rfl (by decide) r0 (by have : lettersL.length = 26 := by decide
                                                        omega) fun c hc => ?_
  refine (d_draw t1 (by decide) (by decide)).imp fun w S2 hv t2 m2 => ?_
  obtain ⟨q, rfl, q0, q1⟩ := hv
  refine ⟨q, rfl, ⟨by omega, by omega⟩, ?_⟩
  refine forD_post (fun items ρ S' => ∃ z c cs y, ρ = [some (.obj tp), some (.obj bw), some (.str z), y, none] ∧ Wd z c cs ∧ cs.length + items.length ≤ 7 ∧ Tape tp gr S' ∧ Mv [tp, gr] S S') ?_ ?_ _ _ _
    ⟨_, c, [], none, rfl, ⟨rfl, hc, by simp⟩, by simp [rngW]; omega, t2, m1.trans m2⟩
  · rintro w us ρ S' ⟨z, c, cs, y, rfl, hz, hcl, t3, m3⟩
    refine ⟨trivial, ?_⟩
    show (dAsg _ _ [some (.obj tp), some (.obj bw), some (.str z), some w, none] S').post _ _
    simp only [post_seq, p_ret, p_asg, p_ex, p_op, p_un, p_cb, p_cons, p_nil, p_c, p_call, p_if, p_b, p_tru, p_not, p_and, p_or, p_tup, p_lst, p_next, p_sl, p_no, p_part, p_for, p_rng, p_seqI, post_endF, dVar, List.getElem?_cons_zero, List.getElem?_cons_succ, List.set_cons_zero, List.set_cons_succ, post_rt, List.length_cons, List.length_nil, Nat.zero_add, Nat.reduceAdd, true_and, on1, on2]
    refine (d_draw t3 (by decide) (by decide)).imp fun w S4 hv t4 m4 => ?_
    obtain ⟨q, rfl, q0, q1⟩ := hv
    rw [List.length_cons] at hcl
    have hzl := len_wd hz.1
    refine ix_text (L := figsL) rfl (by decide) q0 (by have : figsL.length = 36 := by decide
                                                       omega) fun d hd => ?_
    refine q_addS (by rw [hzl]; show _ + 1 ≤ _; omega) ?_
    exact ⟨_, c, cs ++ [d], _, rfl, wd_app hz hd, by simp; omega, t4, m3.trans m4⟩
  · rintro ρ S' ⟨z, c, cs, y, rfl, hz, hcl, t3, m3⟩
    refine ⟨trivial, ?_⟩
    simp only [List.length_nil, Nat.add_zero] at hcl
    have hb3 : S'[bw]? = some (.lst (ws.map W.str)) := m3.2 _ _ hnot hb
    have hzl := len_wd hz.1
    simp only [post_seq, p_ret, p_asg, p_ex, p_op, p_un, p_cb, p_cons, p_nil, p_c, p_call, p_if, p_b, p_tru, p_not, p_and, p_or, p_tup, p_lst, p_next, p_sl, p_no, p_part, p_for, p_rng, p_seqI, post_endF, dVar, List.getElem?_cons_zero, List.getElem?_cons_succ, List.set_cons_zero, List.set_cons_succ, post_rt, List.length_cons, List.length_nil, Nat.zero_add, Nat.reduceAdd, true_and, on1, on2]
    refine p_call0 e_kept ?_
    rw [q_inK, post_ok]
    refine ⟨_, rfl, ?_⟩
    by_cases k1 : z ∈ keptS
    · rw [decide_eq_true k1]
      simp only [if_true]
      refine ⟨10, rfl, by decide, ?_⟩
      exact fill hz hcl hb3 hl fun u u1 u2 => ⟨⟨u, rfl, u1, u2⟩, t3, m3⟩
    · rw [decide_eq_false k1]
      simp only [Bool.false_eq_true, if_false]
      rw [q_in hb3, post_ok]
      refine ⟨_, rfl, ?_⟩
      by_cases k2 : z ∈ ws
      · rw [decide_eq_true k2]
        simp only [Bool.true_bne, Bool.not_false, if_true]
        refine ⟨10, rfl, by decide, ?_⟩
        exact fill hz hcl hb3 hl fun u u1 u2 => ⟨⟨u, rfl, u1, u2⟩, t3, m3⟩
      · rw [decide_eq_false k2]
        simp only [bne_self_eq_false, Bool.false_eq_true, if_false]
        exact ⟨⟨z, rfl, wd_word hz hcl (by rw [any_mem]; exact decide_eq_false k1), k2⟩, t3, m3⟩
end MP

set_option Elab.async false
set_option linter.all false
set_option maxRecDepth 100000
set_option maxHeartbeats 4000000
namespace MP
open PySem PySem.Spec PyProof.Rows L2 GxR Gx He
/-- lots that no door turns away -/
structure Good (L : List (Str × Int)) : Prop where
  word : ∀ p ∈ L, wordB p.1 = true
  size : ∀ p ∈ L, 1 ≤ p.2 ∧ p.2 ≤ 1000000000000
  once : (L.map (·.1)).Nodup
theorem wordB_len {z : Str} (h : wordB z = true) : z.length ≤ 8 := by
  unfold wordB at h
  split at h
  · cases h
  · simp only [Bool.and_eq_true, decide_eq_true_eq] at h
    exact h.1
theorem hasK_put {kvs : List (Key × W)} {a b : Str} {w : W} (h : hasK kvs (.inr a) = false) : hasK (putW kvs (.inr a) w) (.inr b) = (hasK kvs (.inr b) || decide (a = b)) := by
  unfold putW
  rw [if_neg (by rw [h]; decide)]
  unfold hasK
  rw [List.any_append]
  simp
theorem lotF_good {kvs : List (Key × W)} {z : Str} {i : Int} (h1 : wordB z = true) (h2 : hasK kvs (.inr z) = false) (h3 : 1 ≤ i) : lotF kvs (lotW (z, i)) = none := by
  have e1 : wordW (.str z) = true := h1
  have e2 : hasK kvs (.inr (wordOf (.tup [.str z, .int i]))) = false := h2
  have e3 : ¬ i < 1 := by omega
  unfold lotF lotW
  simp only [e1, e2, if_true, Bool.false_eq_true, if_false, e3]
theorem lotsF_good : ∀ {L : List (Str × Int)} {kvs : List (Key × W)} {k : Nat}, Good L → (∀ p ∈ L, hasK kvs (.inr p.1) = false) → lotsF kvs k (L.map lotW) = none
  | [], _, _, _, _ => rfl
  | p :: L, kvs, k, g, h => by
    rw [List.map_cons]
    unfold lotsF
    rw [lotF_good (g.word p (by simp)) (h p (by simp)) (g.size p (by simp)).1]
    have g1 := g.once
    rw [List.map_cons, List.nodup_cons] at g1
    refine lotsF_good ⟨fun q hq => g.word q (by simp [hq]), fun q hq => g.size q (by simp [hq]), g1.2⟩ fun q hq => ?_
    have hw : wordOf (lotW p) = p.1 := rfl
    rw [hw, hasK_put (h p (by simp)), h q (by simp [hq])]
    simp only [Bool.false_or, decide_eq_false_iff_not]
    intro e
    exact g1.1 (by rw [e]; exact List.mem_map.mpr ⟨q, hq, rfl⟩)
theorem fault_good {L : List (Str × Int)} (g : Good L) (h : L ≠ []) : lotsFault (lotsV L) = none := by
  cases L with
  | nil => exact absurd rfl h
  | cons p L =>
    have e := lotsF_good (kvs := []) (k := 0) g fun _ _ => rfl
    unfold lotsV lotsFault
    rw [List.map_cons] at e ⊢
    simp only [e, Option.map_none]
theorem ty_good {L : List (Str × Int)} {S : Sto} (g : Good L) (h : L.length ≤ 1000) : LotsTy S (lotsV L) := by
  refine ⟨rfl, fun l e => ?_⟩
  cases e
  refine ⟨by simpa using h, fun lot hl => ?_⟩
  obtain ⟨p, hp, rfl⟩ := List.mem_map.mp hl
  refine ⟨⟨rfl, fun m e x hx => ?_⟩, fun m e x hx z ez => ?_⟩
  · cases e
    simp only [List.mem_cons, List.not_mem_nil, or_false] at hx
    rcases hx with rfl | rfl <;> rfl
  · cases e
    simp only [List.mem_cons, List.not_mem_nil, or_false] at hx
    rcases hx with rfl | rfl
    · cases ez
      have := wordB_len (g.word p hp)
      omega
    · cases ez
theorem Good.snoc {L : List (Str × Int)} {z : Str} {i : Int} (g : Good L) (h1 : wordB z = true) (h2 : z ∉ L.map (·.1)) (h3 : 1 ≤ i) (h4 : i ≤ 1000000000000) : Good (L ++ [(z, i)]) := by
  refine ⟨fun p hp => ?_, fun p hp => ?_, ?_⟩
  · rcases List.mem_append.mp hp with q | q
    · exact g.word p q
    · rw [List.mem_singleton.mp q]; exact h1
  · rcases List.mem_append.mp hp with q | q
    · exact g.size p q
    · rw [List.mem_singleton.mp q]; exact ⟨h3, h4⟩
  · rw [List.map_append, List.nodup_append]
    refine ⟨g.once, by simp, fun a ha b hb e => ?_⟩
    simp only [List.map_cons, List.map_nil, List.mem_singleton] at hb
    exact h2 (by rw [← hb, ← e]; exact ha)
theorem Mv.setN {is : List Nat} {S S' : Sto} {i : Nat} {o : SO} (h : Mv is S S') (hi : S.length ≤ i) : Mv is S (S'.set i o) := by
  refine ⟨by simpa using h.1, fun j u hj g => ?_⟩
  have : j < S.length := (List.getElem?_eq_some_iff.mp g).1
  rw [List.getElem?_set_ne (by omega)]
  exact h.2 j u hj g
theorem Tape.lt {tp gr : Nat} {S : Sto} (h : Tape tp gr S) : tp < S.length ∧ gr < S.length := by
  obtain ⟨a, b, ks, t⟩ := h
  exact ⟨(List.getElem?_eq_some_iff.mp t.at_).1, (List.getElem?_eq_some_iff.mp t.gr_).1⟩
theorem Tape.set {tp gr i : Nat} {o : SO} {S : Sto} (h : Tape tp gr S) (h1 : i ≠ tp) (h2 : i ≠ gr) : Tape tp gr (S.set i o) := by
  obtain ⟨a, b, ks, t⟩ := h
  exact ⟨a, b, ks, t.ne, by rw [set_ne h1]; exact t.at_, by rw [set_ne h2]; exact t.gr_, t.a0, t.a1, t.b0, t.k0⟩
def LotsOf (m : Nat) (w : W) : Prop := ∃ L, w = lotsV L ∧ Good L ∧ L.length = m
end MP

set_option Elab.async false
set_option linter.all false
set_option maxRecDepth 100000
set_option maxHeartbeats 4000000
namespace MP
open PySem PySem.Spec PyProof.Rows L2 GxR Gx He
theorem p_ty {ty : W → M Unit} {f : W → List W → M W} {d : DE} {da : DA} {ρ : En} {S : Sto} {k : W → Sto → Prop} {x : Str → Nat → Sto → Prop} :
    (tyW ty f d da ρ S).post k x ↔ (d ρ S).post (fun a S1 => (ty a S1).post (fun _ S2 => (da ρ S2).post (fun us S3 => (f a us S3).post k x) x) x) x := by
  unfold tyW
  rw [post_bd]
  constructor <;> intro h <;> refine post_imp h (fun a S1 q => ?_) fun _ _ _ z => z
  · exact post_imp (post_bd.mp q) (fun _ S2 q2 => post_bd.mp q2) fun _ _ _ z => z
  · exact post_bd.mpr (post_imp q (fun _ S2 q2 => post_bd.mpr q2) fun _ _ _ z => z)
theorem q_isL {S : Sto} {n : Nat} {l : List W} (h : S[n]? = some (.lst l)) : isL (.obj n) S = .ok () S := by
  unfold isL
  simp only [h]
theorem q_app {S : Sto} {n : Nat} {l : List W} {w : W} (h : S[n]? = some (.lst l)) (hl : l.length < 100000) : wApp (.obj n) [w] S = .ok .non (S.set n (.lst (l ++ [w]))) := by
  unfold wApp
  simp only [h, if_pos hl]
theorem q_tupO {S : Sto} {n : Nat} {l : List W} (h : S[n]? = some (.lst l)) : wTupOf (.obj n) S = .ok (.tup l) S := by
  unfold wTupOf
  simp only [h]
theorem d_lots {S : Sto} {tp gr m : Nat} (h : Tape tp gr S) (hm : m ≤ 8) : Dr tp gr S (LotsOf m) (f_u_law_lots [.obj tp, .int m] S) := by
  unfold Dr
  rw [run_u_law_lots]
  unfold d_u_law_lots
  have lt := h.lt
  simp only [post_seq, p_ret, p_asg, p_ex, p_op, p_un, p_cb, p_cons, p_nil, p_c, p_call, p_if, p_b, p_tru, p_not, p_and, p_or, p_tup, p_lst, p_next, p_sl, p_no, p_part, p_for, p_rng, p_seqI, post_endF, dVar, List.getElem?_cons_zero, List.getElem?_cons_succ, List.set_cons_zero, List.set_cons_succ, post_rt, List.length_cons, List.length_nil, Nat.zero_add, Nat.reduceAdd, true_and, on1, on2]
  refine ⟨by decide, by decide, ?_⟩
  refine ⟨m, rfl, rng_ok (by omega), ?_⟩
  have hS : S ++ [SO.lst []] ++ [.lst []] = S ++ [.lst [], .lst []] := by simp
  rw [hS]
  have p0 : Pre S (S ++ [SO.lst [], .lst []]) := ⟨_, rfl⟩
  refine forD_post (fun items ρ S' => ∃ L y v, ρ = [some (.obj tp), some (.int m), some (.obj S.length), some (.obj (S.length + 1)), y, v] ∧ Good L ∧ L.length + items.length = m ∧
      S'[S.length]? = some (.lst (L.map lotW)) ∧ S'[S.length + 1]? = some (.lst ((L.map (·.1)).map W.str)) ∧ Tape tp gr S' ∧ Mv [tp, gr] S S') ?_ ?_ _ _ _
    ⟨[], none, none, by simp, ⟨by simp, by simp, by simp⟩, by simp [rngW], by simp, by simp [List.getElem?_append], h.pre p0, p0.mv⟩
  · rintro w us ρ S1 ⟨L, y, v, rfl, g, hl, a1, a2, t1, m1⟩
    refine ⟨trivial, ?_⟩
    show (dSeq _ _ [some (.obj tp), some (.int m), some (.obj S.length), some (.obj (S.length + 1)), some w, v] S1).post _ _
    rw [List.length_cons] at hl
    have l1 := m1.1
    simp only [post_seq, p_ret, p_asg, p_ex, p_op, p_un, p_cb, p_cons, p_nil, p_c, p_call, p_if, p_b, p_tru, p_not, p_and, p_or, p_tup, p_lst, p_next, p_sl, p_no, p_part, p_for, p_rng, p_seqI, post_endF, dVar, List.getElem?_cons_zero, List.getElem?_cons_succ, List.set_cons_zero, List.set_cons_succ, post_rt, List.length_cons, List.length_nil, Nat.zero_add, Nat.reduceAdd, true_and, on1, on2, p_ty]
    refine (d_word t1 a2 (by omega) (by omega) (by simp; omega)).imp fun w S2 hv t2 m2 => ?_
    obtain ⟨z, rfl, z1, z2⟩ := hv
    have b1 := m2.2 _ _ (by simp; omega) a1
    have b2 := m2.2 _ _ (by simp; omega) a2
    rw [q_isL b2, post_ok, q_app b2 (by simp; omega), post_ok]
    have c1 : (S2.set (S.length + 1) (.lst ((L.map (·.1)).map W.str ++ [.str z])))[S.length]? = some (.lst (L.map lotW)) := by rw [set_ne (by omega)]; exact b1
    have c2 : (S2.set (S.length + 1) (.lst ((L.map (·.1)).map W.str ++ [.str z])))[S.length + 1]? = some (.lst ((L.map (·.1)).map W.str ++ [.str z])) := set_eq b2
    have t3 := t2.set (o := .lst ((L.map (·.1)).map W.str ++ [.str z])) (i := S.length + 1) (by omega) (by omega)
    have m3 := (m1.trans m2).setN (o := .lst ((L.map (·.1)).map W.str ++ [.str z])) (i := S.length + 1) (by omega)
    rw [q_isL c1, post_ok]
    refine (d_size t3).imp fun w S4 hv t4 m4 => ?_
    obtain ⟨i, rfl, i1, i2⟩ := hv
    have d1 := m4.2 _ _ (by simp; omega) c1
    have d2 := m4.2 _ _ (by simp; omega) c2
    refine ⟨by decide, ?_⟩
    rw [q_app d1 (by simp; omega), post_ok]
    exact ⟨L ++ [(z, i)], _, _, rfl, g.snoc z1 z2 i1 i2, by simp; omega, by rw [set_eq d1]; simp [lotW], by rw [set_ne (by omega), d2]; simp, t4.set (by omega) (by omega), (m3.trans m4).setN (by omega)⟩
  · rintro ρ S1 ⟨L, y, v, rfl, g, hl, a1, a2, t1, m1⟩
    refine ⟨trivial, ?_⟩
    simp only [post_seq, p_ret, p_asg, p_ex, p_op, p_un, p_cb, p_cons, p_nil, p_c, p_call, p_if, p_b, p_tru, p_not, p_and, p_or, p_tup, p_lst, p_next, p_sl, p_no, p_part, p_for, p_rng, p_seqI, post_endF, dVar, List.getElem?_cons_zero, List.getElem?_cons_succ, List.set_cons_zero, List.set_cons_succ, post_rt, List.length_cons, List.length_nil, Nat.zero_add, Nat.reduceAdd, true_and, on1, on2]
    rw [q_tupO a1, post_ok]
    exact ⟨⟨L, rfl, g, by simpa using hl⟩, t1, m1⟩
end MP

set_option Elab.async false
set_option linter.all false
set_option maxRecDepth 100000
set_option maxHeartbeats 4000000
namespace MP
open PySem PySem.Spec PyProof.Rows L2 GxR Gx He
theorem noX_of {α : Type} {m : M α} {S : Sto} {k : α → Sto → Prop} {x : Str → Nat → Sto → Prop} (h : (m S).post k fun _ _ _ => False) : (noX m S).post k x := by
  unfold noX
  cases e : m S with
  | stuck => rw [e] at h; exact h.elim
  | ok a S' => rw [e] at h; exact h
  | exn c n S' => rw [e] at h; exact h.elim
/-- tuple([d for i in it]) -/
theorem lc_tup {it : DI} {i : Nat} {d : DE} {vs : List Nat} {ρ : En} {S : Sto} {items : List W} {gd : Sto → Prop} {k : W → Sto → Prop} {x : Str → Nat → Sto → Prop} (J : Nat → List W → Sto → Prop)
    (hit : it ρ S = .ok (items, gd) S) (hlen : items.length ≤ 1000) (h0 : J 0 [] (S ++ [.lst []])) (hset : ∀ c acc S' o, J c acc S' → J c acc (S'.set S.length o)) (hgd : ∀ c acc S', J c acc S' → gd S')
    (hstep : ∀ c w acc S', items[c]? = some w → J c acc S' → (d ((wipeW ρ vs).set i (some w)) S').post (fun y S2 => J (c + 1) (acc ++ [y]) S2 ∧ ∀ o, S'[S.length]? = some o → S2[S.length]? = some o) fun _ _ _ => False)
    (hk : ∀ acc S', J items.length acc S' → k (.tup acc) S') : (dCB (on1 wTupOf) (dCons (dLc it (gN i) dYes d vs) dNil) ρ S).post k x := by
  rw [p_cb, p_cons]
  unfold dLc
  rw [post_bd, hit, post_ok]
  refine lcD_post (fun its S' => ∃ c acc, its = items.drop c ∧ c ≤ items.length ∧ acc.length = c ∧ S'[S.length]? = some (.lst acc) ∧ J c acc S') ?_ ?_ _ _ ⟨0, [], rfl, Nat.zero_le _, rfl, by simp, h0⟩
  · rintro w ws S' ⟨c, acc, hi, hc, ha, hn, hJ⟩
    refine ⟨hgd _ _ _ hJ, ?_⟩
    have hlt : c < items.length := by
      apply Classical.byContradiction
      intro e
      rw [List.drop_eq_nil_of_le (by omega)] at hi
      cases hi
    rw [List.drop_eq_getElem_cons hlt] at hi
    simp only [List.cons.injEq] at hi
    obtain ⟨rfl, rfl⟩ := hi
    unfold stepD
    rw [post_bd]
    refine noX_of ?_
    show (bd (noX (dYes _)) _ S').post _ _
    rw [post_bd]
    refine noX_of ?_
    show ((if true = true then _ else _ : M (Option W)) S').post _ _
    rw [if_pos rfl, post_bd]
    refine noX_of (post_imp (hstep c _ acc S' (List.getElem?_eq_getElem hlt) hJ) (fun y S2 ⟨q1, q2⟩ => ?_) fun _ _ _ z => z)
    have hn2 := q2 _ hn
    exact ⟨acc, hn2, by omega, c + 1, acc ++ [y], rfl, hlt, by simp; omega, set_eq hn2, hset _ _ _ _ q1⟩
  · rintro S' ⟨c, acc, hi, hc, ha, hn, hJ⟩
    refine ⟨hgd _ _ _ hJ, ?_⟩
    have hc' : c = items.length := by
      have := congrArg List.length hi
      rw [List.length_drop] at this
      simp at this
      omega
    subst hc'
    rw [p_nil]
    show (wTupOf (.obj S.length) S').post _ _
    rw [q_tupO hn, post_ok]
    exact hk _ _ hJ
theorem Pre.set_new {S S' : Sto} {i : Nat} {o : SO} (p : Pre S S') (h : S.length ≤ i) : Pre S (S'.set i o) := by
  obtain ⟨e, rfl⟩ := p
  rw [List.set_append_right _ _ h]
  exact ⟨_, rfl⟩
theorem lc_pure {it : DI} {i : Nat} {d : DE} {vs : List Nat} {ρ : En} {S : Sto} {items : List W} {gd : Sto → Prop} {k : W → Sto → Prop} {x : Str → Nat → Sto → Prop} (v : Nat → W)
    (hit : it ρ S = .ok (items, gd) S) (hlen : items.length ≤ 1000) (hgd : ∀ S', Pre S S' → gd S')
    (hstep : ∀ c w S', items[c]? = some w → Pre S S' → d ((wipeW ρ vs).set i (some w)) S' = .ok (v c) S')
    (hk : ∀ S', Pre S S' → k (.tup ((List.range items.length).map v)) S') : (dCB (on1 wTupOf) (dCons (dLc it (gN i) dYes d vs) dNil) ρ S).post k x := by
  refine lc_tup (fun c acc S' => Pre S S' ∧ acc = (List.range c).map v) hit hlen ⟨⟨_, rfl⟩, rfl⟩ (fun c acc S' o h => ⟨h.1.set_new (Nat.le_refl _), h.2⟩) (fun c acc S' h => hgd _ h.1) (fun c w acc S' hw h => ?_) fun acc S' h => ?_
  · rw [hstep c w S' hw h.1, post_ok]
    refine ⟨⟨h.1, ?_⟩, fun o h => h⟩
    rw [h.2, List.range_succ, List.map_append]
    rfl
  · rw [h.2]
    exact hk _ h.1
theorem range_iv {n : Nat} {v : Nat → W} {l : List Int} (h : l.length = n) (hv : ∀ (c : Nat) (z : Int), l[c]? = some z → v c = .int z) : W.tup ((List.range n).map v) = iv l := by
  unfold iv
  congr 1
  apply List.ext_getElem?
  intro c
  rw [List.getElem?_map, List.getElem?_map]
  by_cases hc : c < n
  · rw [List.getElem?_range hc, List.getElem?_eq_getElem (by omega)]
    simp only [Option.map_some]
    rw [hv c _ (List.getElem?_eq_getElem (by omega))]
  · rw [List.getElem?_eq_none (by simpa using hc), List.getElem?_eq_none (by omega)]
    rfl
theorem s_sizes {S : Sto} {L : List (Str × Int)} (hl : L.length ≤ 1000) {k : W → Sto → Prop} {x : Str → Nat → Sto → Prop} (hk : ∀ S', Pre S S' → k (iv (L.map (·.2))) S') : (f_u_law_sizes [lotsV L] S).post k x := by
  rw [run_u_law_sizes]
  unfold d_u_law_sizes
  rw [post_endF, p_ret]
  refine lc_pure (fun c => .int (((L.map (·.2))[c]?).getD 0)) (items := L.map lotW) (gd := fun _ => True) (by simp [dRet, dAndV, dOrV, dNotV, dUn, dOp, dVar, dC, dB, dAnd, dOr, dNot, dTru, dCons, dNil, dTup, dCall, dCB, dIfS, dSeq, dAsg, dEx, dNext, dBrk, dCnt, dRetN, dIf, gN, dSl, dPart, dNoPart, dChain, bd, rt, endF, wB, wI, on1, on2, stuck, wTru, dSeqI, seqOrStr, lotsV, seqOf]) (by simpa using hl) (fun _ _ => trivial) (fun c w S' hw _ => ?_) fun S' p => ?_
  · rw [List.getElem?_map] at hw
    cases e : L[c]? with
    | none => rw [e] at hw; cases hw
    | some p =>
      rw [e] at hw
      cases hw
      simp [dRet, dAndV, dOrV, dNotV, dUn, dOp, dVar, dC, dB, dAnd, dOr, dNot, dTru, dCons, dNil, dTup, dCall, dCB, dIfS, dSeq, dAsg, dEx, dNext, dBrk, dCnt, dRetN, dIf, gN, dSl, dPart, dNoPart, dChain, bd, rt, endF, wB, wI, on1, on2, stuck, wTru, wipeW, wIx, lotW, atI_1, e]
  · rw [range_iv (l := L.map (·.2)) (by simp) fun c z h => by rw [h]; rfl]
    exact hk S' p
theorem max0 {z : Int} : (if z > 0 then z else 0) = mx0 z := rfl
theorem common_get : ∀ {sz a b : List Int} {c : Nat} {s u v : Int}, sz[c]? = some s → a[c]? = some u → b[c]? = some v → (commonL sz a b)[c]? = some (mx0 (u + v - s))
  | s :: ss, a :: as, b :: bs, 0, _, _, _, h1, h2, h3 => by
    cases h1; cases h2; cases h3
    rfl
  | s :: ss, a :: as, b :: bs, c + 1, _, _, _, h1, h2, h3 => common_get (sz := ss) (a := as) (b := bs) h1 h2 h3
theorem common_len : ∀ {sz a b : List Int}, a.length = sz.length → b.length = sz.length → (commonL sz a b).length = sz.length
  | [], [], [], _, _ => rfl
  | s :: ss, a :: as, b :: bs, h1, h2 => by
    rw [commonL_cons, List.length_cons, List.length_cons, common_len (by simpa using h1) (by simpa using h2)]
theorem common_symm : ∀ {sz a b : List Int}, a.length = sz.length → b.length = sz.length → commonL sz a b = commonL sz b a
  | [], [], [], _, _ => rfl
  | s :: ss, a :: as, b :: bs, h1, h2 => by
    rw [commonL_cons, commonL_cons, common_symm (by simpa using h1) (by simpa using h2), Int.add_comm a b]
end MP

set_option Elab.async false
set_option linter.all false
set_option maxRecDepth 100000
set_option maxHeartbeats 4000000
namespace MP
open PySem PySem.Spec PyProof.Rows L2 GxR Gx He
theorem rng_at {n c : Nat} {w : W} (h : (rngW 0 n)[c]? = some w) : c < n ∧ w = .int c := by
  unfold rngW at h
  rw [List.getElem?_map] at h
  by_cases hc : c < n
  · rw [List.getElem?_range hc] at h
    refine ⟨hc, ?_⟩
    cases h
    simp
  · rw [List.getElem?_eq_none (by simpa using hc)] at h
    cases h
theorem rng_len {n : Nat} : (rngW 0 n).length = n := by simp [rngW]
theorem wIx_lots {L : List (Str × Int)} {c : Nat} {p : Str × Int} (h : L[c]? = some p) : wIx (lotsV L) (.int (c : Int)) = rt (lotW p) := by
  unfold lotsV wIx
  have : atI (L.map lotW) (c : Int) = some (lotW p) := by rw [atI_nat, List.getElem?_map, h]; rfl
  simp only [this]
theorem get_of {α : Type} {l : List α} {c : Nat} (h : c < l.length) : ∃ a, l[c]? = some a := ⟨_, List.getElem?_eq_getElem h⟩
theorem rng_it {ρ : En} {S : Sto} {d : DE} {l : List W} (hd : d ρ S = .ok (.tup l) S) (h : l.length ≤ 1000) : dRng1 (dCons (dCB (on1 wLen) (dCons d dNil)) dNil) ρ S = .ok (rngW 0 l.length, fun _ => True) S := by
  have r := rng_ok h
  unfold dRng1
  have e : (dCons (dCB (on1 wLen) (dCons d dNil)) dNil) ρ S = .ok [.int l.length] S := by simp [dRet, dAndV, dOrV, dNotV, dUn, dOp, dVar, dC, dB, dAnd, dOr, dNot, dTru, dCons, dNil, dTup, dCall, dCB, dIfS, dSeq, dAsg, dEx, dNext, dBrk, dCnt, dRetN, dIf, gN, dSl, dPart, dNoPart, dChain, bd, rt, endF, wB, wI, on1, on2, stuck, wTru, hd, wLen]
  unfold bd
  rw [e]
  show ((if -(2 ^ 62) ≤ (l.length : Int) ∧ (l.length : Int) < 2 ^ 62 then rt (rngW 0 (l.length : Int).toNat, fun _ => True) else stuck : M (List W × (Sto → Prop))) S) = _
  rw [if_pos r, Int.toNat_natCast]
  rfl
theorem belowB_cons {a b : Int} {as bs : List Int} : belowB (a :: as) (b :: bs) = (decide (a ≤ b) && belowB as bs) := rfl
theorem s_part {S : Sto} {L : List (Str × Int)} {a b : List Int} (hl : L.length ≤ 1000) (ha : a.length = L.length) (hb : b.length = L.length) {k : W → Sto → Prop} {x : Str → Nat → Sto → Prop}
    (hk : ∀ S', Pre S S' → k (iv (commonL (L.map (·.2)) a b)) S') : (f_u_law_part [lotsV L, iv a, iv b] S).post k x := by
  rw [run_u_law_part]
  unfold d_u_law_part
  rw [post_endF, p_ret]
  with_reducible refine lc_pure (fun c => .int (((commonL (L.map (·.2)) a b)[c]?).getD 0)) (items := rngW 0 L.length) (gd := fun _ => True) ?_ (by rw [rng_len]; exact hl) (fun _ _ => trivial) (fun c w S' hw _ => ?_) fun S' p => ?_
  · have := rng_it (ρ := [some (lotsV L), some (iv a), some (iv b), none]) (S := S) (d := dVar 0) (l := L.map lotW) (by simp [dRet, dAndV, dOrV, dNotV, dUn, dOp, dVar, dC, dB, dAnd, dOr, dNot, dTru, dCons, dNil, dTup, dCall, dCB, dIfS, dSeq, dAsg, dEx, dNext, dBrk, dCnt, dRetN, dIf, gN, dSl, dPart, dNoPart, dChain, bd, rt, endF, wB, wI, on1, on2, stuck, wTru, lotsV]) (by simpa using hl)
    rw [this]
    simp
  · obtain ⟨hc, rfl⟩ := rng_at hw
    obtain ⟨p, e1⟩ := get_of hc
    obtain ⟨u, e2⟩ := get_of (show c < a.length by omega)
    obtain ⟨v, e3⟩ := get_of (show c < b.length by omega)
    rw [common_get (s := p.2) (by rw [List.getElem?_map, e1]; rfl) e2 e3]
    simp [dRet, dAndV, dOrV, dNotV, dUn, dOp, dVar, dC, dB, dAnd, dOr, dNot, dTru, dCons, dNil, dTup, dCall, dCB, dIfS, dSeq, dAsg, dEx, dNext, dBrk, dCnt, dRetN, dIf, gN, dSl, dPart, dNoPart, dChain, bd, rt, endF, wB, wI, on1, on2, stuck, wTru, wipeW, wIx_iv e2, wIx_iv e3, wIx_lots e1]
    simp [dRet, dAndV, dOrV, dNotV, dUn, dOp, dVar, dC, dB, dAnd, dOr, dNot, dTru, dCons, dNil, dTup, dCall, dCB, dIfS, dSeq, dAsg, dEx, dNext, dBrk, dCnt, dRetN, dIf, gN, dSl, dPart, dNoPart, dChain, bd, rt, endF, wB, wI, on1, on2, stuck, wTru, wAdd, wSub, wIx, lotW, atI_1, wMax2, mx0]
  · rw [rng_len, range_iv (l := commonL (L.map (·.2)) a b) (by rw [common_len] <;> simp [ha, hb]) fun c z h => by rw [h]; rfl]
    exact hk S' p
theorem e_law_below {S : Sto} {a b : List Int} (h : a.length = b.length) (hl : a.length ≤ 1000) {k : W → Sto → Prop} {x : Str → Nat → Sto → Prop} (hk : k (.bl (belowB a b)) S) : (f_u_law_is_below [iv a, iv b] S).post k x := by
  rw [run_u_law_is_below]
  unfold d_u_law_is_below
  rw [post_endF, post_seq, p_for]
  have e2 := rng_it (ρ := [some (iv a), some (iv b), none]) (S := S) (d := dVar 0) (l := a.map W.int) (by simp [dRet, dAndV, dOrV, dNotV, dUn, dOp, dVar, dC, dB, dAnd, dOr, dNot, dTru, dCons, dNil, dTup, dCall, dCB, dIfS, dSeq, dAsg, dEx, dNext, dBrk, dCnt, dRetN, dIf, gN, dSl, dPart, dNoPart, dChain, bd, rt, endF, wB, wI, on1, on2, stuck, wTru, iv]) (by simpa using hl)
  rw [e2, post_ok]
  refine forD_post (fun items ρ S' => ∃ c y, c ≤ a.length ∧ items = (rngW 0 a.length).drop c ∧ ρ = [some (iv a), some (iv b), y] ∧ S' = S ∧ belowB (a.drop c) (b.drop c) = belowB a b) ?_ ?_ _ _ _ ⟨0, none, Nat.zero_le _, by simp, rfl, rfl, rfl⟩
  · rintro w ws ρ S' ⟨c, y, hc, hi, rfl, rfl, hb⟩
    refine ⟨trivial, ?_⟩
    have hlt : c < a.length := by
      apply Classical.byContradiction
      intro e
      rw [List.drop_eq_nil_of_le (by rw [rng_len]; omega)] at hi
      cases hi
    rw [List.drop_eq_getElem_cons (by rw [rng_len]; exact hlt)] at hi
    simp only [List.cons.injEq] at hi
    obtain ⟨hw, rfl⟩ := hi
    have : w = .int c := (rng_at (n := a.length) (c := c) (by rw [hw]; exact List.getElem?_eq_getElem _)).2
    subst this
    show (dIfS _ _ _ [some (iv a), some (iv b), some (.int c)] S').post _ _
    rw [List.drop_eq_getElem_cons hlt, List.drop_eq_getElem_cons (show c < b.length by omega), belowB_cons] at hb
    rw [p_if, p_b, p_op, p_op, p_var rfl, p_var rfl, wIx_iv (List.getElem?_eq_getElem hlt), post_rt, p_op, p_var rfl, p_var rfl, wIx_iv (List.getElem?_eq_getElem (show c < b.length by omega)), post_rt, q_gt]
    refine ⟨_, rfl, ?_⟩
    by_cases q : a[c] ≤ b[c]
    · have q' : ¬ b[c] < a[c] := by omega
      rw [decide_eq_false q']
      exact ⟨c + 1, _, hlt, rfl, rfl, rfl, by simpa [q] using hb⟩
    · have q' : b[c] < a[c] := by omega
      rw [decide_eq_true q']
      have : belowB a b = false := by
        rw [← hb]
        simp [q]
      show k (.bl false) S'
      rw [← this]
      exact hk
  · rintro ρ S' ⟨c, y, hc, hi, rfl, rfl, hb⟩
    refine ⟨trivial, ?_⟩
    have hc' : c = a.length := by
      have := congrArg List.length hi
      rw [List.length_drop, rng_len] at this
      simp at this
      omega
    subst hc'
    have : belowB a b = true := by
      rw [← hb, List.drop_length]
      rfl
    show k (.bl true) S'
    rw [← this]
    exact hk
end MP

set_option Elab.async false
set_option linter.all false
set_option maxRecDepth 100000
set_option maxHeartbeats 4000000
namespace MP
open PySem PySem.Spec PyProof.Rows L2 GxR Gx He
/-- counts that no door turns away -/
inductive Fit : List Int → List Int → Prop
  | nil : Fit [] []
  | cons {s u : Int} {sz a : List Int} : 0 ≤ u → u ≤ s → Fit sz a → Fit (s :: sz) (u :: a)
theorem Fit.len {sz a : List Int} (h : Fit sz a) : a.length = sz.length := by
  induction h with
  | nil => rfl
  | cons _ _ _ ih => simp [ih]
theorem cfK_fit {sz a : List Int} (h : Fit sz a) : ∀ k, cfK sz (a.map W.int) k = none := by
  induction h with
  | nil => intro k; rfl
  | cons h1 h2 _ ih =>
    intro k
    rw [List.map_cons, cfK_cons, if_pos (by simp [numOk, h1, h2])]
    exact ih _
theorem cf_fit {sz a : List Int} (h : Fit sz a) : cfault sz (iv a) = none := by
  unfold cfault iv
  simp only [List.length_map, if_pos h.len, cfK_fit h]
  rfl
theorem fl_good {L : List (Str × Int)} (g : Good L) (h : L ≠ []) : faultLots (lotsV L) = none := by
  unfold faultLots
  rw [fault_good g h]
  rfl
theorem fc_fit {L : List (Str × Int)} {a : List Int} (g : Good L) (h : L ≠ []) (f : Fit (L.map (·.2)) a) : faultCounts (lotsV L) (iv a) = none := by
  unfold faultCounts
  rw [fl_good g h, szW_lots, cf_fit f]
  rfl
theorem iv_inj {a b : List Int} (h : iv a = iv b) : a = b := by
  unfold iv at h
  have h' : a.map W.int = b.map W.int := by simpa using h
  exact (List.map_inj_right (fun x y e => by cases e; rfl)).mp h'
theorem ty_iv {S : Sto} {a : List Int} : Ty1 S (iv a) := by
  refine ⟨rfl, fun l e x hx => ?_⟩
  unfold iv at e
  cases e
  obtain ⟨z, _, rfl⟩ := List.mem_map.mp hx
  rfl
theorem ty1_int {S : Sto} {z : Int} : Ty1 S (.int z) := ⟨rfl, fun l e => by cases e⟩
theorem dp_iv {n : Nat} {a : List Int} (h : a.length ≤ 1000) : Dp (n + 2) (iv a) := by
  refine ⟨by simpa using h, fun x hx => ?_⟩
  obtain ⟨z, _, rfl⟩ := List.mem_map.mp hx
  trivial
theorem dp_told {w : W} (h : Dp 7 w) : Dp 8 (.tup [.str "told", w]) := by
  refine ⟨by simp, fun x hx => ?_⟩
  simp only [List.mem_cons, List.not_mem_nil, or_false] at hx
  rcases hx with rfl | rfl
  · trivial
  · exact h
theorem q_same {S : Sto} {w : W} (h : Dp 8 w) : f_u_law_same [w, w] S = .ok (.bl true) S := by delta f_u_law_same; exact e_same 8 w h
theorem told_due {S : Sto} {wh : Str} {w a b due : W} (hw : wh ∈ six) (h : LotsTy S w) (ha : Ty1 S a) (hb : Ty1 S b) (ho : ∀ u, outV (faultOf wh w a b) (valueOf wh w a b) u → u = due) {k : W → Sto → Prop} {x : Str → Nat → Sto → Prop} (hk : ∀ S', Pre S S' → k due S') :
    (f_u_law_told [.str wh, w, a, b] S).post k x :=
  post_imp (s_told hw h ha hb (x := fun _ _ _ => False)) (fun u S' ⟨o, p⟩ => by rw [ho u o]; exact hk S' p) fun _ _ _ z => z.elim
section
variable {S : Sto} {L : List (Str × Int)} {a b : List Int} {k : W → Sto → Prop} {x : Str → Nat → Sto → Prop}
theorem t_least (g : Good L) (h : L ≠ []) (hl : L.length ≤ 1000) (fa : Fit (L.map (·.2)) a) (fb : Fit (L.map (·.2)) b) (hk : ∀ S', Pre S S' → k (.tup [.str "told", iv (commonL (L.map (·.2)) a b)]) S') :
    (f_u_law_told [.str "least", lotsV L, iv a, iv b] S).post k x := by
  refine told_due (by decide) (ty_good g hl) ty_iv ty_iv (fun u o => ?_) hk
  have e : faultOf "least" (lotsV L) (iv a) (iv b) = none := by
    unfold faultOf
    rw [if_pos rfl, two_none (fc_fit g h fa), fc_fit g h fb]
  rw [e] at o
  obtain ⟨v, hv, rfl⟩ := o
  unfold valueOf at hv
  rw [if_pos rfl] at hv
  obtain ⟨p, q, e1, e2, rfl⟩ := hv
  rw [iv_inj e1, iv_inj e2, szW_lots]
theorem t_below (g : Good L) (h : L ≠ []) (hl : L.length ≤ 1000) (fa : Fit (L.map (·.2)) a) (fb : Fit (L.map (·.2)) b) (hk : ∀ S', Pre S S' → k (.tup [.str "told", .bl (belowB a b)]) S') :
    (f_u_law_told [.str "below", lotsV L, iv a, iv b] S).post k x := by
  refine told_due (by decide) (ty_good g hl) ty_iv ty_iv (fun u o => ?_) hk
  have e : faultOf "below" (lotsV L) (iv a) (iv b) = none := by
    unfold faultOf
    rw [if_neg (by decide), if_pos rfl, two_none (fc_fit g h fa), fc_fit g h fb]
  rw [e] at o
  obtain ⟨v, hv, rfl⟩ := o
  unfold valueOf at hv
  rw [if_neg (by decide), if_pos rfl] at hv
  obtain ⟨p, q, e1, e2, rfl⟩ := hv
  rw [iv_inj e1, iv_inj e2]
theorem t_outside (g : Good L) (h : L ≠ []) (hl : L.length ≤ 1000) (fa : Fit (L.map (·.2)) a) {z : Int} (hk : ∀ S', Pre S S' → k (.tup [.str "told", iv (restL (L.map (·.2)) a)]) S') :
    (f_u_law_told [.str "outside", lotsV L, iv a, .int z] S).post k x := by
  refine told_due (by decide) (ty_good g hl) ty_iv ty1_int (fun u o => ?_) hk
  have e : faultOf "outside" (lotsV L) (iv a) (.int z) = none := by
    unfold faultOf
    rw [if_neg (by decide), if_neg (by decide), if_pos rfl, fc_fit g h fa]
  rw [e] at o
  obtain ⟨v, hv, rfl⟩ := o
  unfold valueOf at hv
  rw [if_neg (by decide), if_neg (by decide), if_pos rfl] at hv
  obtain ⟨p, e1, rfl⟩ := hv
  rw [iv_inj e1, szW_lots]
theorem t_first (g : Good L) (h : L ≠ []) (hl : L.length ≤ 1000) (fa : Fit (L.map (·.2)) a) {z : Int} (hk : ∀ S', Pre S S' → k (.tup [.str "told", .tup (a.map spanV)]) S') :
    (f_u_law_told [.str "first", lotsV L, iv a, .int z] S).post k x := by
  refine told_due (by decide) (ty_good g hl) ty_iv ty1_int (fun u o => ?_) hk
  have e : faultOf "first" (lotsV L) (iv a) (.int z) = none := by
    unfold faultOf
    rw [if_neg (by decide), if_neg (by decide), if_neg (by decide), if_pos rfl, fc_fit g h fa]
  rw [e] at o
  obtain ⟨v, hv, rfl⟩ := o
  unfold valueOf at hv
  rw [if_neg (by decide), if_neg (by decide), if_neg (by decide), if_pos rfl] at hv
  obtain ⟨p, e1, rfl⟩ := hv
  rw [iv_inj e1]
theorem t_everyone (g : Good L) (h : L ≠ []) (hl : L.length ≤ 1000) {y z : Int} (hk : ∀ S', Pre S S' → k (.tup [.str "told", iv (L.map (·.2))]) S') :
    (f_u_law_told [.str "everyone", lotsV L, .int y, .int z] S).post k x := by
  refine told_due (by decide) (ty_good g hl) ty1_int ty1_int (fun u o => ?_) hk
  have e : faultOf "everyone" (lotsV L) (.int y) (.int z) = none := by
    unfold faultOf
    rw [if_neg (by decide), if_neg (by decide), if_neg (by decide), if_neg (by decide), fl_good g h]
  rw [e] at o
  obtain ⟨v, hv, rfl⟩ := o
  unfold valueOf at hv
  rw [if_neg (by decide), if_neg (by decide), if_neg (by decide), if_neg (by decide), if_pos rfl] at hv
  rw [hv, szW_lots]
theorem t_nobody (g : Good L) (h : L ≠ []) (hl : L.length ≤ 1000) {y z : Int} (hk : ∀ S', Pre S S' → k (.tup [.str "told", iv (L.map fun _ => 0)]) S') :
    (f_u_law_told [.str "nobody", lotsV L, .int y, .int z] S).post k x := by
  refine told_due (by decide) (ty_good g hl) ty1_int ty1_int (fun u o => ?_) hk
  have e : faultOf "nobody" (lotsV L) (.int y) (.int z) = none := by
    unfold faultOf
    rw [if_neg (by decide), if_neg (by decide), if_neg (by decide), if_neg (by decide), fl_good g h]
  rw [e] at o
  obtain ⟨v, hv, rfl⟩ := o
  unfold valueOf at hv
  rw [if_neg (by decide), if_neg (by decide), if_neg (by decide), if_neg (by decide), if_neg (by decide)] at hv
  rw [hv, szW_lots, List.map_map]
  rfl
end
end MP

set_option Elab.async false
set_option linter.all false
set_option maxRecDepth 100000
set_option maxHeartbeats 4000000
namespace MP
open PySem PySem.Spec PyProof.Rows L2 GxR Gx He
section
variable {S : Sto} {L : List (Str × Int)} {a b : List Int} {k : W → Sto → Prop} {x : Str → Nat → Sto → Prop}
theorem a_least (g : Good L) (h : L ≠ []) (hl : L.length ≤ 1000) (fa : Fit (L.map (·.2)) a) (fb : Fit (L.map (·.2)) b) (hk : ∀ S', Pre S S' → k (.bl true) S') :
    (f_u_law_ask_least [lotsV L, iv a, iv b] S).post k x := by
  have la := fa.len
  have lb := fb.len
  have lc := common_len la lb
  have dp : Dp 8 (.tup [.str "told", iv (commonL (L.map (·.2)) a b)]) := dp_told (dp_iv (by rw [lc]; simpa using hl))
  rw [run_u_law_ask_least]
  unfold d_u_law_ask_least
  simp only [post_seq, p_ret, p_asg, p_ex, p_op, p_un, p_cb, p_cons, p_nil, p_c, p_call, p_if, p_b, p_tru, p_not, p_and, p_or, p_tup, p_lst, p_next, p_sl, p_no, p_part, p_for, p_rng, p_seqI, post_endF, dVar, List.getElem?_cons_zero, List.getElem?_cons_succ, List.set_cons_zero, List.set_cons_succ, post_rt, List.length_cons, List.length_nil, Nat.zero_add, Nat.reduceAdd, true_and, on1, on2]
  refine s_part hl (by simpa using la) (by simpa using lb) fun S1 p1 => ?_
  refine t_least g h hl fa fb fun S2 p2 => ?_
  try simp only [post_seq, p_ret, p_asg, p_ex, p_op, p_un, p_cb, p_cons, p_nil, p_c, p_call, p_if, p_b, p_tru, p_not, p_and, p_or, p_tup, p_lst, p_next, p_sl, p_no, p_part, p_for, p_rng, p_seqI, post_endF, dVar, List.getElem?_cons_zero, List.getElem?_cons_succ, List.set_cons_zero, List.set_cons_succ, post_rt, List.length_cons, List.length_nil, Nat.zero_add, Nat.reduceAdd, true_and, on1, on2]
  refine ⟨by decide, ?_⟩
  rw [q_same dp, post_ok]
  simp only [post_seq, p_ret, p_asg, p_ex, p_op, p_un, p_cb, p_cons, p_nil, p_c, p_call, p_if, p_b, p_tru, p_not, p_and, p_or, p_tup, p_lst, p_next, p_sl, p_no, p_part, p_for, p_rng, p_seqI, post_endF, dVar, List.getElem?_cons_zero, List.getElem?_cons_succ, List.set_cons_zero, List.set_cons_succ, post_rt, List.length_cons, List.length_nil, Nat.zero_add, Nat.reduceAdd, true_and, on1, on2, wTru, Bool.not_true, Bool.false_eq_true, if_false]
  refine t_least g h hl fb fa fun S3 p3 => ?_
  try simp only [post_seq, p_ret, p_asg, p_ex, p_op, p_un, p_cb, p_cons, p_nil, p_c, p_call, p_if, p_b, p_tru, p_not, p_and, p_or, p_tup, p_lst, p_next, p_sl, p_no, p_part, p_for, p_rng, p_seqI, post_endF, dVar, List.getElem?_cons_zero, List.getElem?_cons_succ, List.set_cons_zero, List.set_cons_succ, post_rt, List.length_cons, List.length_nil, Nat.zero_add, Nat.reduceAdd, true_and, on1, on2]
  refine ⟨by decide, ?_⟩
  rw [common_symm lb la, q_same dp, post_ok]
  exact hk _ (p1.trans (p2.trans p3))
end
/-- the counters, and what each is at the least -/
def Askd (ac : Nat) (l0 l1 l2 l3 : Int) (S : Sto) : Prop := ∃ n0 n1 n2 n3 : Int, S[ac]? = some (.lst [.int n0, .int n1, .int n2, .int n3]) ∧ l0 ≤ n0 ∧ l1 ≤ n1 ∧ l2 ≤ n2 ∧ l3 ≤ n3
theorem Askd.pre {ac : Nat} {l0 l1 l2 l3 : Int} {S S' : Sto} (p : Pre S S') (h : Askd ac l0 l1 l2 l3 S) : Askd ac l0 l1 l2 l3 S' := by
  obtain ⟨n0, n1, n2, n3, e, r⟩ := h
  exact ⟨n0, n1, n2, n3, p.get e, r⟩
theorem Askd.le {ac : Nat} {l0 l1 l2 l3 m0 m1 m2 m3 : Int} {S : Sto} (h : Askd ac l0 l1 l2 l3 S) (h0 : m0 ≤ l0) (h1 : m1 ≤ l1) (h2 : m2 ≤ l2) (h3 : m3 ≤ l3) : Askd ac m0 m1 m2 m3 S := by
  obtain ⟨n0, n1, n2, n3, e, r0, r1, r2, r3⟩ := h
  exact ⟨n0, n1, n2, n3, e, by omega, by omega, by omega, by omega⟩
theorem Askd.mv {ac : Nat} {is : List Nat} {l0 l1 l2 l3 : Int} {S S' : Sto} (h : Askd ac l0 l1 l2 l3 S) (m : Mv is S S') (hn : ac ∉ is) : Askd ac l0 l1 l2 l3 S' := by
  obtain ⟨n0, n1, n2, n3, e, r⟩ := h
  exact ⟨n0, n1, n2, n3, m.2 _ _ hn e, r⟩
theorem ix4_0 {a b c d : W} : atI [a, b, c, d] 0 = some a := atI_0
theorem ix4_1 {a b c d : W} : atI [a, b, c, d] 1 = some b := atI_1
section
variable {S : Sto} {L : List (Str × Int)} {a b : List Int} {k : W → Sto → Prop} {x : Str → Nat → Sto → Prop} {ac : Nat} {l0 l1 l2 l3 : Int}
theorem a_below (g : Good L) (h : L ≠ []) (hl : L.length ≤ 1000) (fa : Fit (L.map (·.2)) a) (fb : Fit (L.map (·.2)) b) (hA : Askd ac l0 l1 l2 l3 S)
    (hk : ∀ S', Mv [ac] S S' → (if belowB a b = true then Askd ac l0 (l1 + 1) l2 l3 S' else Askd ac (l0 + 1) l1 l2 l3 S') → k (.bl true) S') :
    (f_u_law_ask_below [.obj ac, lotsV L, iv a, iv b] S).post k x := by
  have la := fa.len
  have lb := fb.len
  have la' : a.length ≤ 1000 := by rw [la]; simpa using hl
  obtain ⟨n0, n1, n2, n3, e, r0, r1, r2, r3⟩ := hA
  have dp : ∀ c : Bool, Dp 8 (.tup [.str "told", .bl c]) := fun c => dp_told trivial
  rw [run_u_law_ask_below]
  unfold d_u_law_ask_below
  rw [post_endF, post_seq, p_asg, p_call, p_cons, p_var rfl, p_cons, p_var rfl, p_nil]
  refine ⟨rfl, e_law_below (by omega) la' ?_⟩
  cases q : belowB a b with
  | true =>
    show (dSeq _ _ [some (.obj ac), some (lotsV L), some (iv a), some (iv b), some (.bl true)] S).post _ _
    refine post_seq_nx (ρ' := [some (.obj ac), some (lotsV L), some (iv a), some (iv b), some (.bl true)]) (S' := S.set ac (.lst [.int n0, .int (n1 + 1), .int n2, .int n3])) (by simp [dRet, dAndV, dOrV, dNotV, dUn, dOp, dVar, dC, dB, dAnd, dOr, dNot, dTru, dCons, dNil, dTup, dCall, dCB, dIfS, dSeq, dAsg, dEx, dNext, dBrk, dCnt, dRetN, dIf, gN, dSl, dPart, dNoPart, dChain, bd, rt, endF, wB, wI, on1, on2, stuck, wTru, wInt, wIx, e, ix4_1, wAdd, gSubW, noEx, wSet, ixN]) ?_
    simp only [post_seq, p_ret, p_asg, p_ex, p_op, p_un, p_cb, p_cons, p_nil, p_c, p_call, p_if, p_b, p_tru, p_not, p_and, p_or, p_tup, p_lst, p_next, p_sl, p_no, p_part, p_for, p_rng, p_seqI, post_endF, dVar, List.getElem?_cons_zero, List.getElem?_cons_succ, List.set_cons_zero, List.set_cons_succ, post_rt, List.length_cons, List.length_nil, Nat.zero_add, Nat.reduceAdd, true_and, on1, on2]
    refine t_below g h hl fa fb fun S2 p2 => ?_
    try simp only [post_seq, p_ret, p_asg, p_ex, p_op, p_un, p_cb, p_cons, p_nil, p_c, p_call, p_if, p_b, p_tru, p_not, p_and, p_or, p_tup, p_lst, p_next, p_sl, p_no, p_part, p_for, p_rng, p_seqI, post_endF, dVar, List.getElem?_cons_zero, List.getElem?_cons_succ, List.set_cons_zero, List.set_cons_succ, post_rt, List.length_cons, List.length_nil, Nat.zero_add, Nat.reduceAdd, true_and, on1, on2]
    refine ⟨by decide, ?_⟩
    rw [q, q_same (dp _), post_ok]
    refine hk _ ((Mv.set (by simp)).trans p2.mv) ?_
    rw [q, if_pos rfl]
    exact Askd.pre p2 ⟨n0, n1 + 1, n2, n3, set_eq e, by omega, by omega, by omega, by omega⟩
  | false =>
    show (dSeq _ _ [some (.obj ac), some (lotsV L), some (iv a), some (iv b), some (.bl false)] S).post _ _
    refine post_seq_nx (ρ' := [some (.obj ac), some (lotsV L), some (iv a), some (iv b), some (.bl false)]) (S' := S.set ac (.lst [.int (n0 + 1), .int n1, .int n2, .int n3])) (by simp [dRet, dAndV, dOrV, dNotV, dUn, dOp, dVar, dC, dB, dAnd, dOr, dNot, dTru, dCons, dNil, dTup, dCall, dCB, dIfS, dSeq, dAsg, dEx, dNext, dBrk, dCnt, dRetN, dIf, gN, dSl, dPart, dNoPart, dChain, bd, rt, endF, wB, wI, on1, on2, stuck, wTru, wInt, wIx, e, ix4_0, wAdd, gSubW, noEx, wSet, ixN]) ?_
    simp only [post_seq, p_ret, p_asg, p_ex, p_op, p_un, p_cb, p_cons, p_nil, p_c, p_call, p_if, p_b, p_tru, p_not, p_and, p_or, p_tup, p_lst, p_next, p_sl, p_no, p_part, p_for, p_rng, p_seqI, post_endF, dVar, List.getElem?_cons_zero, List.getElem?_cons_succ, List.set_cons_zero, List.set_cons_succ, post_rt, List.length_cons, List.length_nil, Nat.zero_add, Nat.reduceAdd, true_and, on1, on2]
    refine t_below g h hl fa fb fun S2 p2 => ?_
    try simp only [post_seq, p_ret, p_asg, p_ex, p_op, p_un, p_cb, p_cons, p_nil, p_c, p_call, p_if, p_b, p_tru, p_not, p_and, p_or, p_tup, p_lst, p_next, p_sl, p_no, p_part, p_for, p_rng, p_seqI, post_endF, dVar, List.getElem?_cons_zero, List.getElem?_cons_succ, List.set_cons_zero, List.set_cons_succ, post_rt, List.length_cons, List.length_nil, Nat.zero_add, Nat.reduceAdd, true_and, on1, on2]
    refine ⟨by decide, ?_⟩
    rw [q, q_same (dp _), post_ok]
    refine hk _ ((Mv.set (by simp)).trans p2.mv) ?_
    rw [q, if_neg (by decide)]
    exact Askd.pre p2 ⟨n0 + 1, n1, n2, n3, set_eq e, by omega, by omega, by omega, by omega⟩
end
end MP

set_option Elab.async false
set_option linter.all false
set_option maxRecDepth 100000
set_option maxHeartbeats 4000000
namespace MP
open PySem PySem.Spec PyProof.Rows L2 GxR Gx He
theorem q_ixI {l : List Int} {r : Int} (h0 : 0 ≤ r) (h1 : r < l.length) {S : Sto} {k : W → Sto → Prop} {x : Str → Nat → Sto → Prop} (hk : ∀ z, k (.int z) S) : (wIx (.tup (l.map W.int)) (.int r) S).post k x := by
  have e : r = ((r.toNat : Nat) : Int) := by omega
  have hlt : r.toNat < l.length := by omega
  have := wIx_iv (ns := l) (k := r.toNat) (List.getElem?_eq_getElem hlt)
  unfold iv at this
  rw [e, this, post_rt]
  exact hk _
theorem d_second {S : Sto} {tp gr : Nat} {size first : Int} (h : Tape tp gr S) (h0 : 0 ≤ first) (h1 : first ≤ size) (h2 : size ≤ 1000000000000) : Dr tp gr S (InR 0 size) (f_u_law_second [.obj tp, .int size, .int first] S) := by
  unfold Dr
  rw [run_u_law_second]
  unfold d_u_law_second
  simp only [post_seq, p_ret, p_asg, p_ex, p_op, p_un, p_cb, p_cons, p_nil, p_c, p_call, p_if, p_b, p_tru, p_not, p_and, p_or, p_tup, p_lst, p_next, p_sl, p_no, p_part, p_for, p_rng, p_seqI, post_endF, dVar, List.getElem?_cons_zero, List.getElem?_cons_succ, List.set_cons_zero, List.set_cons_succ, post_rt, List.length_cons, List.length_nil, Nat.zero_add, Nat.reduceAdd, true_and, on1, on2, q_sub, q_add]
  refine (d_draw h (by decide) (by decide)).imp fun w S1 hv t1 m1 => ?_
  obtain ⟨r, rfl, r0, r1⟩ := hv
  try simp only [post_seq, p_ret, p_asg, p_ex, p_op, p_un, p_cb, p_cons, p_nil, p_c, p_call, p_if, p_b, p_tru, p_not, p_and, p_or, p_tup, p_lst, p_next, p_sl, p_no, p_part, p_for, p_rng, p_seqI, post_endF, dVar, List.getElem?_cons_zero, List.getElem?_cons_succ, List.set_cons_zero, List.set_cons_succ, post_rt, List.length_cons, List.length_nil, Nat.zero_add, Nat.reduceAdd, true_and, on1, on2, q_sub, q_add]
  refine ⟨by decide, ?_⟩
  simp only [post_seq, p_ret, p_asg, p_ex, p_op, p_un, p_cb, p_cons, p_nil, p_c, p_call, p_if, p_b, p_tru, p_not, p_and, p_or, p_tup, p_lst, p_next, p_sl, p_no, p_part, p_for, p_rng, p_seqI, post_endF, dVar, List.getElem?_cons_zero, List.getElem?_cons_succ, List.set_cons_zero, List.set_cons_succ, post_rt, List.length_cons, List.length_nil, Nat.zero_add, Nat.reduceAdd, true_and, on1, on2, q_lt, bl_ex]
  by_cases c : r < 6
  · rw [decide_eq_true c, if_pos rfl]
    refine q_ixI (l := [size - first, size - first + 1, size - first - 1, first, first + 1, first - 1]) r0 (by simp; omega) fun z => ?_
    simp only [post_seq, p_ret, p_asg, p_ex, p_op, p_un, p_cb, p_cons, p_nil, p_c, p_call, p_if, p_b, p_tru, p_not, p_and, p_or, p_tup, p_lst, p_next, p_sl, p_no, p_part, p_for, p_rng, p_seqI, post_endF, dVar, List.getElem?_cons_zero, List.getElem?_cons_succ, List.set_cons_zero, List.set_cons_succ, post_rt, List.length_cons, List.length_nil, Nat.zero_add, Nat.reduceAdd, true_and, on1, on2, q_max, q_min]
    refine ⟨⟨_, rfl, ?_, ?_⟩, t1, m1⟩
    · split <;> (try split) <;> omega
    · split <;> (try split) <;> omega
  · rw [decide_eq_false c, if_neg (by decide)]
    try simp only [post_seq, p_ret, p_asg, p_ex, p_op, p_un, p_cb, p_cons, p_nil, p_c, p_call, p_if, p_b, p_tru, p_not, p_and, p_or, p_tup, p_lst, p_next, p_sl, p_no, p_part, p_for, p_rng, p_seqI, post_endF, dVar, List.getElem?_cons_zero, List.getElem?_cons_succ, List.set_cons_zero, List.set_cons_succ, post_rt, List.length_cons, List.length_nil, Nat.zero_add, Nat.reduceAdd, true_and, on1, on2]
    refine (d_upto t1 (by omega) h2).imp fun w S2 hv t2 m2 => ?_
    exact ⟨hv, t2, m1.trans m2⟩
theorem sIx_at {n d c : Nat} (h : c ≤ n) : HT.sIx n d (some (c : Int)) = c := by
  show (if (c : Int) < 0 then ((c : Int) + (n : Int)).toNat else min (c : Int).toNat n) = c
  rw [if_neg (by omega), Int.toNat_natCast, Nat.min_eq_left h]
theorem q_addT {S : Sto} {i j : List W} (h : i.length + j.length ≤ 100000) : wAdd (.tup i) (.tup j) S = .ok (.tup (i ++ j)) S := by
  unfold wAdd
  simp only [if_pos h]
  rfl
theorem cut_to {l : List W} {c : Nat} (hc : c ≤ l.length) : cutW l none (some (c : Int)) = l.take c := by
  unfold cutW
  rw [sIx_at hc, show HT.sIx l.length 0 none = 0 from rfl]
  rfl
theorem cut_from {l : List W} {c : Nat} (hc : c ≤ l.length) : cutW l (some (c : Int)) none = l.drop c := by
  unfold cutW
  rw [sIx_at hc, show HT.sIx l.length l.length none = l.length from rfl, List.take_of_length_le (by simp)]
theorem s_with {S : Sto} {l : List W} {c : Nat} {w : W} (hc : c < l.length) (hl : l.length ≤ 1000) {k : W → Sto → Prop} {x : Str → Nat → Sto → Prop} (hk : k (.tup (l.set c w)) S) : (f_u_law_with [.tup l, .int (c : Int), w] S).post k x := by
  rw [run_u_law_with]
  unfold d_u_law_with
  have e3 : l.set c w = l.take c ++ [w] ++ l.drop (c + 1) := by
    rw [List.set_eq_take_append_cons_drop, if_pos hc]
    simp
  simp only [post_seq, p_ret, p_asg, p_ex, p_op, p_un, p_cb, p_cons, p_nil, p_c, p_call, p_if, p_b, p_tru, p_not, p_and, p_or, p_tup, p_lst, p_next, p_sl, p_no, p_part, p_for, p_rng, p_seqI, post_endF, dVar, List.getElem?_cons_zero, List.getElem?_cons_succ, List.set_cons_zero, List.set_cons_succ, post_rt, List.length_cons, List.length_nil, Nat.zero_add, Nat.reduceAdd, true_and, on1, on2, q_add]
  refine ⟨_, rfl, ?_⟩
  show (rt (W.tup (cutW l none (some (c : Int)))) S).post _ _
  rw [post_rt, cut_to (by omega)]
  refine ⟨by decide, ?_⟩
  rw [q_addT (by simp; omega), post_ok]
  try simp only [post_seq, p_ret, p_asg, p_ex, p_op, p_un, p_cb, p_cons, p_nil, p_c, p_call, p_if, p_b, p_tru, p_not, p_and, p_or, p_tup, p_lst, p_next, p_sl, p_no, p_part, p_for, p_rng, p_seqI, post_endF, dVar, List.getElem?_cons_zero, List.getElem?_cons_succ, List.set_cons_zero, List.set_cons_succ, post_rt, List.length_cons, List.length_nil, Nat.zero_add, Nat.reduceAdd, true_and, on1, on2, q_add]
  refine ⟨_, rfl, ?_⟩
  show (rt (W.tup (cutW l (some (((c + 1 : Nat)) : Int)) none)) S).post _ _
  rw [post_rt, cut_from (by omega), q_addT (by simp; omega), post_ok, ← e3]
  exact hk
end MP

set_option Elab.async false
set_option linter.all false
set_option maxRecDepth 100000
set_option maxHeartbeats 4000000
namespace MP
open PySem PySem.Spec PyProof.Rows L2 GxR Gx He
def pW (p : List Int × List Int) : W := .tup [iv p.1, iv p.2]
theorem ixp0 {p : List Int × List Int} {S : Sto} : wIx (pW p) (.int 0) S = .ok (iv p.1) S := by
  unfold wIx pW
  simp only [atI_0]
  rfl
theorem ixp1 {p : List Int × List Int} {S : Sto} : wIx (pW p) (.int 1) S = .ok (iv p.2) S := by
  unfold wIx pW
  simp only [atI_1]
  rfl
section
variable {S : Sto} {L : List (Str × Int)} {k : Fl → Sto → Prop} {x : Str → Nat → Sto → Prop} {ac : Nat} {l0 l1 l2 l3 : Int} {P : List (List Int × List Int)} {e0 e1 e3 e4 e5 e6 e7 e8 e9 e10 e11 : Option W} {y : Option W}
theorem loop_least (g : Good L) (h : L ≠ []) (hl : L.length ≤ 1000) (hP : ∀ p ∈ P, Fit (L.map (·.2)) p.1 ∧ Fit (L.map (·.2)) p.2)
    (hk : ∀ y S', Pre S S' → k (.nx [e0, e1, some (lotsV L), e3, e4, e5, e6, e7, e8, e9, e10, e11, y]) S') :
    (forD (gN 12) (dIfS (dNot (dTru (dCall 3 (f_u_law_ask_least) (dCons (dVar 2) (dCons (dOp wIx (dVar 12) (dC (.int 0))) (dCons (dOp wIx (dVar 12) (dC (.int 1))) dNil)))))) (dRet (dC (.bl false))) dNext)
      (fun _ => True) (P.map pW) [e0, e1, some (lotsV L), e3, e4, e5, e6, e7, e8, e9, e10, e11, y] S).post k x := by
  refine forD_post (fun items ρ S' => ∃ Q y, items = Q.map pW ∧ (∀ p ∈ Q, p ∈ P) ∧ ρ = [e0, e1, some (lotsV L), e3, e4, e5, e6, e7, e8, e9, e10, e11, y] ∧ Pre S S') ?_ ?_ _ _ _ ⟨P, y, rfl, fun _ h => h, rfl, Pre.refl⟩
  · rintro w ws ρ S' ⟨Q, y, hi, hQ, rfl, p1⟩
    refine ⟨trivial, ?_⟩
    cases Q with
    | nil => cases hi
    | cons p Q =>
      simp only [List.map_cons, List.cons.injEq] at hi
      obtain ⟨rfl, rfl⟩ := hi
      have f := hP p (hQ p (by simp))
      show (rt _ S').post _ _
      rw [post_rt]
      show (dIfS _ _ _ [e0, e1, some (lotsV L), e3, e4, e5, e6, e7, e8, e9, e10, e11, some (pW p)] S').post _ _
      simp only [post_seq, p_ret, p_asg, p_ex, p_op, p_un, p_cb, p_cons, p_nil, p_c, p_call, p_if, p_b, p_tru, p_not, p_and, p_or, p_tup, p_lst, p_next, p_sl, p_no, p_part, p_for, p_rng, p_seqI, post_endF, dVar, List.getElem?_cons_zero, List.getElem?_cons_succ, List.set_cons_zero, List.set_cons_succ, post_rt, List.length_cons, List.length_nil, Nat.zero_add, Nat.reduceAdd, true_and, on1, on2, ixp0, ixp1, post_ok]
      refine a_least g h hl f.1 f.2 fun S2 p2 => ?_
      simp only [post_seq, p_ret, p_asg, p_ex, p_op, p_un, p_cb, p_cons, p_nil, p_c, p_call, p_if, p_b, p_tru, p_not, p_and, p_or, p_tup, p_lst, p_next, p_sl, p_no, p_part, p_for, p_rng, p_seqI, post_endF, dVar, List.getElem?_cons_zero, List.getElem?_cons_succ, List.set_cons_zero, List.set_cons_succ, post_rt, List.length_cons, List.length_nil, Nat.zero_add, Nat.reduceAdd, true_and, on1, on2, wTru, Bool.not_true, Bool.false_eq_true, if_false]
      exact ⟨Q, _, rfl, fun q hq => hQ q (by simp [hq]), rfl, p1.trans p2⟩
  · rintro ρ S' ⟨Q, y, hi, hQ, rfl, p1⟩
    exact ⟨trivial, hk _ _ p1⟩
def nb (P : List (List Int × List Int)) (c : Bool) : Nat := P.countP fun p => belowB p.1 p.2 == c
theorem nb_snoc {P : List (List Int × List Int)} {p : List Int × List Int} {c : Bool} : nb (P ++ [p]) c = nb P c + if belowB p.1 p.2 == c then 1 else 0 := by
  unfold nb
  rw [List.countP_append, List.countP_singleton]
theorem nb_pos {P : List (List Int × List Int)} {p : List Int × List Int} {c : Bool} (h : p ∈ P) (hc : belowB p.1 p.2 = c) : 1 ≤ nb P c := by
  unfold nb
  exact List.countP_pos_iff.mpr ⟨p, h, by simp [hc]⟩
theorem loop_below (g : Good L) (h : L ≠ []) (hl : L.length ≤ 1000) (hP : ∀ p ∈ P, Fit (L.map (·.2)) p.1 ∧ Fit (L.map (·.2)) p.2) (hA : Askd ac l0 l1 l2 l3 S)
    (hk : ∀ y S', Mv [ac] S S' → Askd ac (l0 + nb P false) (l1 + nb P true) l2 l3 S' → k (.nx [e0, some (.obj ac), some (lotsV L), e3, e4, e5, e6, e7, e8, e9, e10, e11, y]) S') :
    (forD (gN 12) (dIfS (dNot (dTru (dCall 4 (f_u_law_ask_below) (dCons (dVar 1) (dCons (dVar 2) (dCons (dOp wIx (dVar 12) (dC (.int 0))) (dCons (dOp wIx (dVar 12) (dC (.int 1))) dNil))))))) (dRet (dC (.bl false))) dNext)
      (fun _ => True) (P.map pW) [e0, some (.obj ac), some (lotsV L), e3, e4, e5, e6, e7, e8, e9, e10, e11, y] S).post k x := by
  refine forD_post (fun items ρ S' => ∃ D Q y, items = Q.map pW ∧ P = D ++ Q ∧ ρ = [e0, some (.obj ac), some (lotsV L), e3, e4, e5, e6, e7, e8, e9, e10, e11, y] ∧ Mv [ac] S S' ∧ Askd ac (l0 + nb D false) (l1 + nb D true) l2 l3 S') ?_ ?_ _ _ _
    ⟨[], P, y, rfl, rfl, rfl, Mv.refl, by simpa [nb] using hA⟩
  · rintro w ws ρ S' ⟨D, Q, y, hi, hQ, rfl, m1, A1⟩
    refine ⟨trivial, ?_⟩
    cases Q with
    | nil => cases hi
    | cons p Q =>
      simp only [List.map_cons, List.cons.injEq] at hi
      obtain ⟨rfl, rfl⟩ := hi
      have f := hP p (by rw [hQ]; simp)
      show (rt _ S').post _ _
      rw [post_rt]
      show (dIfS _ _ _ [e0, some (.obj ac), some (lotsV L), e3, e4, e5, e6, e7, e8, e9, e10, e11, some (pW p)] S').post _ _
      simp only [post_seq, p_ret, p_asg, p_ex, p_op, p_un, p_cb, p_cons, p_nil, p_c, p_call, p_if, p_b, p_tru, p_not, p_and, p_or, p_tup, p_lst, p_next, p_sl, p_no, p_part, p_for, p_rng, p_seqI, post_endF, dVar, List.getElem?_cons_zero, List.getElem?_cons_succ, List.set_cons_zero, List.set_cons_succ, post_rt, List.length_cons, List.length_nil, Nat.zero_add, Nat.reduceAdd, true_and, on1, on2, ixp0, ixp1, post_ok]
      refine a_below g h hl f.1 f.2 A1 fun S2 m2 A2 => ?_
      simp only [post_seq, p_ret, p_asg, p_ex, p_op, p_un, p_cb, p_cons, p_nil, p_c, p_call, p_if, p_b, p_tru, p_not, p_and, p_or, p_tup, p_lst, p_next, p_sl, p_no, p_part, p_for, p_rng, p_seqI, post_endF, dVar, List.getElem?_cons_zero, List.getElem?_cons_succ, List.set_cons_zero, List.set_cons_succ, post_rt, List.length_cons, List.length_nil, Nat.zero_add, Nat.reduceAdd, true_and, on1, on2, wTru, Bool.not_true, Bool.false_eq_true, if_false]
      refine ⟨D ++ [p], Q, _, rfl, by rw [hQ]; simp, rfl, m1.trans m2, ?_⟩
      rw [nb_snoc, nb_snoc]
      cases q : belowB p.1 p.2 with
      | true =>
        rw [q, if_pos rfl] at A2
        exact A2.le (by simp) (by simp; omega) (by omega) (by omega)
      | false =>
        rw [q, if_neg (by decide)] at A2
        exact A2.le (by simp; omega) (by simp) (by omega) (by omega)
  · rintro ρ S' ⟨D, Q, y, hi, hQ, rfl, m1, A1⟩
    refine ⟨trivial, hk _ _ m1 ?_⟩
    cases Q with
    | cons p Q => cases hi
    | nil =>
      rw [List.append_nil] at hQ
      rw [hQ]
      exact A1
end
end MP

set_option Elab.async false
set_option linter.all false
set_option maxRecDepth 100000
set_option maxHeartbeats 4000000
namespace MP
open PySem PySem.Spec PyProof.Rows L2 GxR Gx He
theorem Fit.set {sz a : List Int} {z : Int} (h : Fit sz a) : ∀ {c : Nat}, (∀ s, sz[c]? = some s → 0 ≤ z ∧ z ≤ s) → Fit sz (a.set c z) := by
  induction h with
  | nil => intro c _; exact .nil
  | cons h1 h2 h3 ih =>
    intro c hz
    cases c with
    | zero => exact .cons (hz _ rfl).1 (hz _ rfl).2 h3
    | succ c => exact .cons h1 h2 (ih fun s hs => hz s hs)
theorem Fit.rest {sz a : List Int} (h : Fit sz a) : Fit sz (restL sz a) := by
  induction h with
  | nil => exact .nil
  | cons h1 h2 _ ih => exact .cons (by omega) (by omega) ih
theorem Fit.restrest {sz a : List Int} (h : Fit sz a) : restL sz (restL sz a) = a := by
  induction h with
  | nil => rfl
  | cons h1 h2 _ ih => rw [restL_cons, restL_cons, ih]; congr 1; omega
theorem fit_all : ∀ {sz : List Int}, (∀ s ∈ sz, 0 ≤ s) → Fit sz sz
  | [], _ => .nil
  | s :: sz, h => .cons (h s (by simp)) (Int.le_refl s) (fit_all fun t ht => h t (by simp [ht]))
theorem fit_zero : ∀ {sz : List Int}, (∀ s ∈ sz, 0 ≤ s) → Fit sz (sz.map fun _ => 0)
  | [], _ => .nil
  | s :: sz, h => .cons (Int.le_refl 0) (h s (by simp)) (fit_zero fun t ht => h t (by simp [ht]))
theorem rest_all : ∀ {sz : List Int}, restL sz sz = sz.map fun _ => 0
  | [] => rfl
  | s :: sz => by rw [restL_cons, rest_all, List.map_cons, Int.sub_self]
theorem rest_zero : ∀ {sz : List Int}, restL sz (sz.map fun _ => 0) = sz
  | [] => rfl
  | s :: sz => by rw [List.map_cons, restL_cons, rest_zero, Int.sub_zero]
theorem Fit.common {sz a b : List Int} (h : Fit sz a) (h' : Fit sz b) : Fit sz (commonL sz a b) := by
  induction h generalizing b with
  | nil => cases h'; exact .nil
  | cons h1 h2 _ ih =>
    cases h' with
    | cons g1 g2 g3 =>
      refine .cons ?_ ?_ (ih g3) <;> (unfold mx0; split <;> omega)
theorem below_refl : ∀ {a : List Int}, belowB a a = true
  | [] => rfl
  | a :: as => by rw [belowB_cons, below_refl]; simp
theorem below_not {sz : List Int} (h : sz ≠ []) (h1 : ∀ s ∈ sz, 1 ≤ s) : belowB sz (sz.map fun _ => 0) = false := by
  cases sz with
  | nil => exact absurd rfl h
  | cons s sz =>
    have := h1 s (by simp)
    rw [List.map_cons, belowB_cons, decide_eq_false (by omega)]
    rfl
theorem Fit.get {sz a : List Int} (h : Fit sz a) : ∀ {c : Nat} {s u : Int}, sz[c]? = some s → a[c]? = some u → 0 ≤ u ∧ u ≤ s := by
  induction h with
  | nil => intro c s u e; simp at e
  | cons h1 h2 h3 ih =>
    intro c s u e1 e2
    cases c with
    | zero => cases e1; cases e2; exact ⟨h1, h2⟩
    | succ c => exact ih (by simpa using e1) (by simpa using e2)
theorem iv_set {a : List Int} {c : Nat} {z : Int} : W.tup ((a.map W.int).set c (.int z)) = iv (a.set c z) := by
  unfold iv
  rw [List.map_set]
section
variable {S : Sto} {L : List (Str × Int)} {k : Fl → Sto → Prop} {x : Str → Nat → Sto → Prop} {P : List (List Int × List Int)} {e0 e1 e3 e4 e5 e6 e7 e8 e9 e10 e11 : Option W} {y : Option W}
theorem loop_outside (g : Good L) (h : L ≠ []) (hl : L.length ≤ 1000) (hP : ∀ p ∈ P, Fit (L.map (·.2)) p.1 ∧ restL (L.map (·.2)) p.1 = p.2)
    (hk : ∀ y S', Pre S S' → k (.nx [e0, e1, some (lotsV L), e3, e4, e5, e6, e7, e8, e9, e10, e11, y]) S') :
    (forD (gN 12) (dIfS (dNot (dTru (dCall 2 (f_u_law_same) (dCons (dCall 4 (f_u_law_told) (dCons (dC (.str "outside")) (dCons (dVar 2) (dCons (dOp wIx (dVar 12) (dC (.int 0))) (dCons (dC (.int 0)) dNil))))) (dCons (dTup (dCons (dC (.str "told")) (dCons (dOp wIx (dVar 12) (dC (.int 1))) dNil))) dNil))))) (dRet (dC (.bl false))) dNext)
      (fun _ => True) (P.map pW) [e0, e1, some (lotsV L), e3, e4, e5, e6, e7, e8, e9, e10, e11, y] S).post k x := by
  refine forD_post (fun items ρ S' => ∃ Q y, items = Q.map pW ∧ (∀ p ∈ Q, p ∈ P) ∧ ρ = [e0, e1, some (lotsV L), e3, e4, e5, e6, e7, e8, e9, e10, e11, y] ∧ Pre S S') ?_ ?_ _ _ _ ⟨P, y, rfl, fun _ h => h, rfl, Pre.refl⟩
  · rintro w ws ρ S' ⟨Q, y, hi, hQ, rfl, p1⟩
    refine ⟨trivial, ?_⟩
    cases Q with
    | nil => cases hi
    | cons p Q =>
      simp only [List.map_cons, List.cons.injEq] at hi
      obtain ⟨rfl, rfl⟩ := hi
      have f := hP p (hQ p (by simp))
      have hlen : p.2.length ≤ 1000 := by rw [← f.2, f.1.rest.len]; simpa using hl
      show (rt _ S').post _ _
      rw [post_rt]
      show (dIfS _ _ _ [e0, e1, some (lotsV L), e3, e4, e5, e6, e7, e8, e9, e10, e11, some (pW p)] S').post _ _
      simp only [post_seq, p_ret, p_asg, p_ex, p_op, p_un, p_cb, p_cons, p_nil, p_c, p_call, p_if, p_b, p_tru, p_not, p_and, p_or, p_tup, p_lst, p_next, p_sl, p_no, p_part, p_for, p_rng, p_seqI, post_endF, dVar, List.getElem?_cons_zero, List.getElem?_cons_succ, List.set_cons_zero, List.set_cons_succ, post_rt, List.length_cons, List.length_nil, Nat.zero_add, Nat.reduceAdd, true_and, on1, on2, ixp0, ixp1, post_ok]
      refine t_outside g h hl f.1 fun S2 p2 => ?_
      refine ⟨by decide, ?_⟩
      rw [f.2, q_same (dp_told (dp_iv hlen)), post_ok]
      simp only [post_seq, p_ret, p_asg, p_ex, p_op, p_un, p_cb, p_cons, p_nil, p_c, p_call, p_if, p_b, p_tru, p_not, p_and, p_or, p_tup, p_lst, p_next, p_sl, p_no, p_part, p_for, p_rng, p_seqI, post_endF, dVar, List.getElem?_cons_zero, List.getElem?_cons_succ, List.set_cons_zero, List.set_cons_succ, post_rt, List.length_cons, List.length_nil, Nat.zero_add, Nat.reduceAdd, true_and, on1, on2, wTru, Bool.not_true, Bool.false_eq_true, if_false]
      exact ⟨Q, _, rfl, fun q hq => hQ q (by simp [hq]), rfl, p1.trans p2⟩
  · rintro ρ S' ⟨Q, y, hi, hQ, rfl, p1⟩
    exact ⟨trivial, hk _ _ p1⟩
end
end MP

set_option Elab.async false
set_option linter.all false
set_option maxRecDepth 100000
set_option maxHeartbeats 4000000
namespace MP
open PySem PySem.Spec PyProof.Rows L2 GxR Gx He
theorem post_of_eq {α : Type} {r : R α} {w : α} {S : Sto} {k : α → Sto → Prop} {x : Str → Nat → Sto → Prop} (e : r = .ok w S) (h : k w S) : r.post k x := by
  rw [e, post_ok]
  exact h
theorem seq_asg {d : DE} {i : Nat} {b : DS} {ρ : En} {S : Sto} {k : Fl → Sto → Prop} {x : Str → Nat → Sto → Prop} (v : W → Sto → Prop) (h1 : (d ρ S).post v fun _ _ _ => False) (h2 : ∀ w S', v w S' → (b (ρ.set i (some w)) S').post k x) : (dSeq (dAsg d (gN i)) b ρ S).post k x := by
  rw [post_seq, p_asg]
  exact post_imp h1 (fun w S' h => h2 w S' h) fun _ _ _ z => z.elim
theorem seq_for {it : DI} {g : W → En → M En} {s b : DS} {ρ : En} {S : Sto} {items : List W} {gd : Sto → Prop} {k : Fl → Sto → Prop} {x : Str → Nat → Sto → Prop} (v : Sto → Prop) (h1 : (it ρ S).post (fun p S' => p = (items, gd) ∧ v S') fun _ _ _ => False)
    (h2 : ∀ S', v S' → (forD g s gd items ρ S').post (fun f S' => match f with | .nx ρ' => (b ρ' S').post k x | f => k f S') x) : (dSeq (dFor it g s) b ρ S).post k x := by
  rw [post_seq, p_for]
  refine post_imp h1 (fun p S' h => ?_) fun _ _ _ z => z.elim
  obtain ⟨rfl, hv⟩ := h
  exact h2 S' hv
theorem Tape.mv {tp gr : Nat} {is : List Nat} {S S' : Sto} (h : Tape tp gr S) (m : Mv is S S') (h1 : tp ∉ is) (h2 : gr ∉ is) : Tape tp gr S' := by
  obtain ⟨a, b, ks, t⟩ := h
  exact ⟨a, b, ks, t.ne, m.2 _ _ h1 t.at_, m.2 _ _ h2 t.gr_, t.a0, t.a1, t.b0, t.k0⟩
theorem rest_get : ∀ {sz a : List Int} {c : Nat} {s u : Int}, sz[c]? = some s → a[c]? = some u → (restL sz a)[c]? = some (s - u)
  | s :: ss, a :: as, 0, _, _, h1, h2 => by cases h1; cases h2; rfl
  | s :: ss, a :: as, c + 1, _, _, h1, h2 => rest_get (sz := ss) (a := as) h1 h2
theorem ivx {ns : List Int} {c : Nat} {i : Int} {S : Sto} (h : ns[c]? = some i) : wIx (iv ns) (.int (c : Int)) S = .ok (.int i) S := by
  rw [wIx_iv h]
  rfl
section
variable {S : Sto} {L : List (Str × Int)} {a b : List Int} {tp gr ac : Nat} {l0 l1 l2 l3 : Int}
theorem d_pair (ht : Tape tp gr S) (hA : Askd ac l0 l1 l2 l3 S) (n1 : ac ≠ tp) (n2 : ac ≠ gr) (g : Good L) (h : L ≠ []) (hl : L.length ≤ 8) (fa : Fit (L.map (·.2)) a) (fb : Fit (L.map (·.2)) b) :
    (f_u_law_pair [.obj tp, .obj ac, lotsV L, iv a, iv b] S).post (fun w S' => w = .bl true ∧ Tape tp gr S' ∧ Askd ac (l0 + 1) (l1 + 1) l2 l3 S' ∧ Mv [tp, gr, ac] S S') fun _ _ _ => False := by
  obtain ⟨sz, hsz⟩ : ∃ sz, L.map (·.2) = sz := ⟨_, rfl⟩
  have hlen : sz.length = L.length := by rw [← hsz]; simp
  have hs1 : ∀ s ∈ sz, 1 ≤ s := fun s hs => by
    rw [← hsz] at hs
    obtain ⟨p, hp, rfl⟩ := List.mem_map.mp hs
    exact (g.size p hp).1
  have hs0 : ∀ s ∈ sz, 0 ≤ s := fun s hs => by have := hs1 s hs; omega
  have hne : sz ≠ [] := fun e => h (by rw [e] at hlen; exact List.eq_nil_of_length_eq_zero hlen.symm)
  have hmap : (L.map fun _ => (0 : Int)) = sz.map fun _ => 0 := by rw [← hsz, List.map_map]; rfl
  have la := fa.len
  rw [hsz] at la
  have hl' : L.length ≤ 1000 := by omega
  have F := fa
  rw [hsz] at F
  rw [run_u_law_pair]
  unfold d_u_law_pair
  rw [post_endF]
  refine seq_asg (fun w S' => w = iv sz ∧ Pre S S') ?_ ?_
  · simp only [post_seq, p_ret, p_asg, p_ex, p_op, p_un, p_cb, p_cons, p_nil, p_c, p_call, p_if, p_b, p_tru, p_not, p_and, p_or, p_tup, p_lst, p_next, p_sl, p_no, p_part, p_for, p_rng, p_seqI, post_endF, dVar, List.getElem?_cons_zero, List.getElem?_cons_succ, List.set_cons_zero, List.set_cons_succ, post_rt, List.length_cons, List.length_nil, Nat.zero_add, Nat.reduceAdd, true_and, on1, on2]
    exact s_sizes hl' fun S' p => ⟨by rw [hsz], p⟩
  rintro _ S1 ⟨rfl, p1⟩
  refine seq_asg (fun w S' => w = iv (sz.map fun _ => 0) ∧ Pre S1 S') ?_ ?_
  · refine lc_pure (fun _ => .int 0) (items := L.map lotW) (gd := fun _ => True) (by simp [dRet, dAndV, dOrV, dNotV, dUn, dOp, dVar, dC, dB, dAnd, dOr, dNot, dTru, dCons, dNil, dTup, dCall, dCB, dIfS, dSeq, dAsg, dEx, dNext, dBrk, dCnt, dRetN, dIf, gN, dSl, dPart, dNoPart, dChain, bd, rt, endF, wB, wI, on1, on2, stuck, wTru, dSeqI, seqOrStr, lotsV, seqOf]) (by simpa using hl') (fun _ _ => trivial) (fun c w S' hw _ => by simp [dRet, dAndV, dOrV, dNotV, dUn, dOp, dVar, dC, dB, dAnd, dOr, dNot, dTru, dCons, dNil, dTup, dCall, dCB, dIfS, dSeq, dAsg, dEx, dNext, dBrk, dCnt, dRetN, dIf, gN, dSl, dPart, dNoPart, dChain, bd, rt, endF, wB, wI, on1, on2, stuck, wTru, wipeW]) fun S' p => ⟨?_, p⟩
    refine range_iv (by simp [hlen]) fun c z hz => ?_
    rw [List.getElem?_map] at hz
    cases e : sz[c]? with
    | none => rw [e] at hz; cases hz
    | some s => rw [e] at hz; cases hz; rfl
  with_reducible rintro _ S2 ⟨rfl, p2⟩
  with_reducible refine seq_asg (fun w S' => w = iv (restL sz a) ∧ Pre S2 S') ?_ ?_
  · with_reducible refine lc_pure (fun c => .int (((restL sz a)[c]?).getD 0)) (items := rngW 0 L.length) (gd := fun _ => True) ?_ (by rw [rng_len]; exact hl') (fun _ _ => trivial) (fun c w S' hw _ => ?_) fun S' p => ⟨?_, p⟩
    · have := rng_it (ρ := (([some (W.obj tp), some (.obj ac), some (lotsV L), some (iv a), some (iv b), none, none, none, none, none, none, none, none].set 5 (some (iv sz))).set 6 (some (iv (sz.map fun _ => 0))))) (S := S2) (d := dVar 2) (l := L.map lotW) (by simp [dRet, dAndV, dOrV, dNotV, dUn, dOp, dVar, dC, dB, dAnd, dOr, dNot, dTru, dCons, dNil, dTup, dCall, dCB, dIfS, dSeq, dAsg, dEx, dNext, dBrk, dCnt, dRetN, dIf, gN, dSl, dPart, dNoPart, dChain, bd, rt, endF, wB, wI, on1, on2, stuck, wTru, lotsV]) (by simpa using hl')
      rw [List.length_map] at this
      exact this
    · obtain ⟨hc, rfl⟩ := rng_at hw
      obtain ⟨s, e1⟩ := get_of (show c < sz.length by omega)
      obtain ⟨u, e2⟩ := get_of (show c < a.length by omega)
      rw [rest_get e1 e2]
      simp [dRet, dAndV, dOrV, dNotV, dUn, dOp, dVar, dC, dB, dAnd, dOr, dNot, dTru, dCons, dNil, dTup, dCall, dCB, dIfS, dSeq, dAsg, dEx, dNext, dBrk, dCnt, dRetN, dIf, gN, dSl, dPart, dNoPart, dChain, bd, rt, endF, wB, wI, on1, on2, stuck, wTru, wipeW, wIx_iv e1, wIx_iv e2]
      simp [dRet, dAndV, dOrV, dNotV, dUn, dOp, dVar, dC, dB, dAnd, dOr, dNot, dTru, dCons, dNil, dTup, dCall, dCB, dIfS, dSeq, dAsg, dEx, dNext, dBrk, dCnt, dRetN, dIf, gN, dSl, dPart, dNoPart, dChain, bd, rt, endF, wB, wI, on1, on2, stuck, wTru, wSub]
    · rw [rng_len]
      exact range_iv (by rw [F.rest.len, hlen]) fun c z hz => by rw [hz]; rfl
  rintro _ S3 ⟨rfl, p3⟩
  have t3 := ht.pre (p1.trans (p2.trans p3))
  have A3 := hA.pre (p1.trans (p2.trans p3))
  have m3 : Mv [tp, gr, ac] S S3 := (p1.trans (p2.trans p3)).mv
  refine seq_asg (fun w S' => (∃ c : Nat, w = .int c ∧ c < L.length) ∧ Tape tp gr S' ∧ Mv [tp, gr] S3 S') ?_ ?_
  · have lpos : 0 < L.length := List.length_pos_iff.mpr h
    simp only [post_seq, p_ret, p_asg, p_ex, p_op, p_un, p_cb, p_cons, p_nil, p_c, p_call, p_if, p_b, p_tru, p_not, p_and, p_or, p_tup, p_lst, p_next, p_sl, p_no, p_part, p_for, p_rng, p_seqI, post_endF, dVar, List.getElem?_cons_zero, List.getElem?_cons_succ, List.set_cons_zero, List.set_cons_succ, post_rt, List.length_cons, List.length_nil, Nat.zero_add, Nat.reduceAdd, true_and, on1, on2]
    show (rt (W.int (L.map lotW).length) S3).post _ _
    rw [post_rt, List.length_map]
    refine (d_draw t3 (by omega) (by omega)).imp fun w S4 hv t4 m4 => ?_
    obtain ⟨r, rfl, r0, r1⟩ := hv
    exact ⟨⟨r.toNat, by congr 1; omega, by omega⟩, t4, m4⟩
  rintro _ S4 ⟨⟨c, rfl, hc⟩, t4, m4⟩
  have A4 := A3.mv m4 (by simp [n1, n2])
  have m4' := m3.trans (m4.mono (js := [tp, gr, ac]) (by simp +contextual))
  obtain ⟨s, es⟩ := get_of (show c < sz.length by omega)
  obtain ⟨u, eu⟩ := get_of (show c < a.length by omega)
  have hu := F.get es eu
  refine seq_asg (fun w S' => S4 = S' ∧ ∃ z, w = iv (a.set c z) ∧ 0 ≤ z ∧ z ≤ s) ?_ ?_
  · simp only [post_seq, p_ret, p_asg, p_ex, p_op, p_un, p_cb, p_cons, p_nil, p_c, p_call, p_if, p_b, p_tru, p_not, p_and, p_or, p_tup, p_lst, p_next, p_sl, p_no, p_part, p_for, p_rng, p_seqI, post_endF, dVar, List.getElem?_cons_zero, List.getElem?_cons_succ, List.set_cons_zero, List.set_cons_succ, post_rt, List.length_cons, List.length_nil, Nat.zero_add, Nat.reduceAdd, true_and, on1, on2, q_add, q_min, ivx es, ivx eu, post_ok]
    refine s_with (by simpa using (show c < a.length by omega)) (by simp; omega) ?_
    rw [iv_set]
    exact ⟨rfl, _, rfl, by split <;> omega, by split <;> omega⟩
  rintro _ _ ⟨rfl, z1, rfl, z10, z11⟩
  refine seq_asg (fun w S' => S4 = S' ∧ ∃ z, w = iv (a.set c z) ∧ 0 ≤ z ∧ z ≤ s) ?_ ?_
  · simp only [post_seq, p_ret, p_asg, p_ex, p_op, p_un, p_cb, p_cons, p_nil, p_c, p_call, p_if, p_b, p_tru, p_not, p_and, p_or, p_tup, p_lst, p_next, p_sl, p_no, p_part, p_for, p_rng, p_seqI, post_endF, dVar, List.getElem?_cons_zero, List.getElem?_cons_succ, List.set_cons_zero, List.set_cons_succ, post_rt, List.length_cons, List.length_nil, Nat.zero_add, Nat.reduceAdd, true_and, on1, on2, q_sub, q_max, ivx eu, post_ok]
    refine s_with (by simpa using (show c < a.length by omega)) (by simp; omega) ?_
    rw [iv_set]
    exact ⟨rfl, _, rfl, by split <;> omega, by split <;> omega⟩
  rintro _ _ ⟨rfl, z2, rfl, z20, z21⟩
  have one : ∀ z : Int, 0 ≤ z → z ≤ s → Fit sz (a.set c z) := fun z h0 h1 => F.set fun s' hs' => by rw [es] at hs'; cases hs'; exact ⟨h0, h1⟩
  have fm := one z1 z10 z11
  have fl := one z2 z20 z21
  have fr := F.rest
  have fs := fit_all hs0
  have f0 := fit_zero hs0
  have B := fb
  rw [hsz] at B
  have fc := F.common B
  refine seq_for (items := [(a, b), (a, a), (a, restL sz a), (a, sz), (a, sz.map fun _ => 0), (a.set c z1, b), (a.set c z2, b), (restL sz a, a.set c z1)].map pW) (gd := fun _ => True) (fun S' => S4 = S') ?_ ?_
  · have e : (dSeqI (dTup (dCons (dTup (dCons (dVar 3) (dCons (dVar 4) dNil))) (dCons (dTup (dCons (dVar 3) (dCons (dVar 3) dNil))) (dCons (dTup (dCons (dVar 3) (dCons (dVar 8) dNil))) (dCons (dTup (dCons (dVar 3) (dCons (dVar 5) dNil))) (dCons (dTup (dCons (dVar 3) (dCons (dVar 6) dNil))) (dCons (dTup (dCons (dVar 10) (dCons (dVar 4) dNil))) (dCons (dTup (dCons (dVar 11) (dCons (dVar 4) dNil))) (dCons (dTup (dCons (dVar 8) (dCons (dVar 10) dNil))) dNil))))))))))
        [some (W.obj tp), some (.obj ac), some (lotsV L), some (iv a), some (iv b), some (iv sz), some (iv (sz.map fun _ => 0)), none, some (iv (restL sz a)), some (.int (c : Int)), some (iv (a.set c z1)), some (iv (a.set c z2)), none] S4 = .ok ([(a, b), (a, a), (a, restL sz a), (a, sz), (a, sz.map fun _ => 0), (a.set c z1, b), (a.set c z2, b), (restL sz a, a.set c z1)].map pW, fun _ => True) S4 := by
      simp [dRet, dAndV, dOrV, dNotV, dUn, dOp, dVar, dC, dB, dAnd, dOr, dNot, dTru, dCons, dNil, dTup, dCall, dCB, dIfS, dSeq, dAsg, dEx, dNext, dBrk, dCnt, dRetN, dIf, gN, dSl, dPart, dNoPart, dChain, bd, rt, endF, wB, wI, on1, on2, stuck, wTru, dSeqI, seqOrStr, seqOf, pW]
    refine post_of_eq e ⟨rfl, rfl⟩
  rintro _ rfl
  refine loop_least g h hl' ?_ fun y S5 p5 => ?_
  · rw [hsz]
    simp only [List.forall_mem_cons, List.not_mem_nil, false_implies, implies_true, and_true]
    exact ⟨⟨F, B⟩, ⟨F, F⟩, ⟨F, fr⟩, ⟨F, fs⟩, ⟨F, f0⟩, ⟨fm, B⟩, ⟨fl, B⟩, ⟨fr, fm⟩⟩
  have A5 := A4.pre p5
  have t5 := t4.pre p5
  have m5 := m4'.trans p5.mv
  refine seq_for (items := [(a, b), (b, a), (a, a), (a, a.set c z1), (a.set c z1, a), (a, a.set c z2), (a.set c z2, a), (sz.map fun _ => 0, a), (a, sz), (sz, sz.map fun _ => 0), (a, sz.map fun _ => 0), (sz, a), (commonL sz a b, a)].map pW) (gd := fun _ => True) (fun S' => Pre S5 S') ?_ ?_
  · simp only [post_seq, p_ret, p_asg, p_ex, p_op, p_un, p_cb, p_cons, p_nil, p_c, p_call, p_if, p_b, p_tru, p_not, p_and, p_or, p_tup, p_lst, p_next, p_sl, p_no, p_part, p_for, p_rng, p_seqI, post_endF, dVar, List.getElem?_cons_zero, List.getElem?_cons_succ, List.set_cons_zero, List.set_cons_succ, post_rt, List.length_cons, List.length_nil, Nat.zero_add, Nat.reduceAdd, true_and, on1, on2]
    refine ⟨by decide, by decide, by decide, by decide, by decide, by decide, by decide, by decide, by decide, by decide, by decide, by decide, ?_⟩
    refine s_part hl' (by omega) (by rw [B.len]; omega) fun S6 p6 => ?_
    rw [hsz]
    exact ⟨by decide, by decide, (post_rt (x := fun _ _ _ => False)).mpr ⟨rfl, p6⟩⟩
  rintro S6 p6
  refine loop_below (P := [(a, b), (b, a), (a, a), (a, a.set c z1), (a.set c z1, a), (a, a.set c z2), (a.set c z2, a), (sz.map fun _ => 0, a), (a, sz), (sz, sz.map fun _ => 0), (a, sz.map fun _ => 0), (sz, a), (commonL sz a b, a)]) g h hl' ?_ (A5.pre p6) fun y S7 m7 A7 => ?_
  · rw [hsz]
    simp only [List.forall_mem_cons, List.not_mem_nil, false_implies, implies_true, and_true]
    exact ⟨⟨F, B⟩, ⟨B, F⟩, ⟨F, F⟩, ⟨F, fm⟩, ⟨fm, F⟩, ⟨F, fl⟩, ⟨fl, F⟩, ⟨f0, F⟩, ⟨F, fs⟩, ⟨fs, f0⟩, ⟨F, f0⟩, ⟨fs, F⟩, ⟨fc, F⟩⟩
  have A7' : Askd ac (l0 + 1) (l1 + 1) l2 l3 S7 := by
    have q1 := nb_pos (P := [(a, b), (b, a), (a, a), (a, a.set c z1), (a.set c z1, a), (a, a.set c z2), (a.set c z2, a), (sz.map fun _ => 0, a), (a, sz), (sz, sz.map fun _ => 0), (a, sz.map fun _ => 0), (sz, a), (commonL sz a b, a)]) (p := (sz, sz.map fun _ => 0)) (c := false) (by simp) (below_not hne hs1)
    have q2 := nb_pos (P := [(a, b), (b, a), (a, a), (a, a.set c z1), (a.set c z1, a), (a, a.set c z2), (a.set c z2, a), (sz.map fun _ => 0, a), (a, sz), (sz, sz.map fun _ => 0), (a, sz.map fun _ => 0), (sz, a), (commonL sz a b, a)]) (p := (a, a)) (c := true) (by simp) below_refl
    exact A7.le (by omega) (by omega) (by omega) (by omega)
  have t7 : Tape tp gr S7 := (t5.pre p6).mv m7 (by simp; omega) (by simp; omega)
  have m7' := (m5.trans p6.mv).trans (m7.mono (js := [tp, gr, ac]) (by simp +contextual))
  refine seq_for (items := [(a, restL sz a), (restL sz a, a), (sz, sz.map fun _ => 0), (sz.map fun _ => 0, sz)].map pW) (gd := fun _ => True) (fun S' => S7 = S') ?_ ?_
  · simp only [post_seq, p_ret, p_asg, p_ex, p_op, p_un, p_cb, p_cons, p_nil, p_c, p_call, p_if, p_b, p_tru, p_not, p_and, p_or, p_tup, p_lst, p_next, p_sl, p_no, p_part, p_for, p_rng, p_seqI, post_endF, dVar, List.getElem?_cons_zero, List.getElem?_cons_succ, List.set_cons_zero, List.set_cons_succ, post_rt, List.length_cons, List.length_nil, Nat.zero_add, Nat.reduceAdd, true_and, on1, on2]
    exact ⟨by decide, by decide, by decide, by decide, by decide, (post_rt (x := fun _ _ _ => False)).mpr ⟨rfl, rfl⟩⟩
  rintro _ rfl
  refine loop_outside g h hl' ?_ fun y S8 p8 => ?_
  · rw [hsz]
    simp only [List.forall_mem_cons, List.not_mem_nil, false_implies, implies_true, and_true]
    exact ⟨F, ⟨fr, F.restrest⟩, ⟨fs, rest_all⟩, f0, rest_zero⟩
  simp only [post_seq, p_ret, p_asg, p_ex, p_op, p_un, p_cb, p_cons, p_nil, p_c, p_call, p_if, p_b, p_tru, p_not, p_and, p_or, p_tup, p_lst, p_next, p_sl, p_no, p_part, p_for, p_rng, p_seqI, post_endF, dVar, List.getElem?_cons_zero, List.getElem?_cons_succ, List.set_cons_zero, List.set_cons_succ, post_rt, List.length_cons, List.length_nil, Nat.zero_add, Nat.reduceAdd, true_and, on1, on2]
  refine t_everyone g h hl' fun S9 p9 => ?_
  rw [hsz]
  refine ⟨by decide, ?_⟩
  rw [q_same (dp_told (dp_iv (by omega))), post_ok]
  simp only [post_seq, p_ret, p_asg, p_ex, p_op, p_un, p_cb, p_cons, p_nil, p_c, p_call, p_if, p_b, p_tru, p_not, p_and, p_or, p_tup, p_lst, p_next, p_sl, p_no, p_part, p_for, p_rng, p_seqI, post_endF, dVar, List.getElem?_cons_zero, List.getElem?_cons_succ, List.set_cons_zero, List.set_cons_succ, post_rt, List.length_cons, List.length_nil, Nat.zero_add, Nat.reduceAdd, true_and, on1, on2, wTru, Bool.not_true, Bool.false_eq_true, if_false]
  refine t_nobody g h hl' fun S10 p10 => ?_
  rw [hmap]
  refine ⟨by decide, ?_⟩
  rw [q_same (dp_told (dp_iv (by simp; omega))), post_ok]
  have pp := p8.trans (p9.trans p10)
  exact ⟨rfl, t7.pre pp, A7'.pre pp, m7'.trans pp.mv⟩
end
end MP

set_option Elab.async false
set_option linter.all false
set_option maxRecDepth 100000
set_option maxHeartbeats 4000000
namespace MP
open PySem PySem.Spec PyProof.Rows L2 GxR Gx He
theorem forD_nil {g : W → En → M En} {s : DS} {gd : Sto → Prop} {ρ : En} {S : Sto} {k : Fl → Sto → Prop} {x : Str → Nat → Sto → Prop} (h : gd S) (hk : k (.nx ρ) S) : (forD g s gd [] ρ S).post k x :=
  forD_post (fun items ρ' S' => items = [] ∧ ρ' = ρ ∧ S' = S) (fun w ws ρ' S' ⟨e, _⟩ => by cases e) (fun ρ' S' ⟨_, e1, e2⟩ => by subst e1 e2; exact ⟨h, hk⟩) _ _ _ ⟨rfl, rfl, rfl⟩
theorem forD_one {i : Nat} {s : DS} {gd : Sto → Prop} {w : W} {ρ ρ2 : En} {S S2 : Sto} {k : Fl → Sto → Prop} {x : Str → Nat → Sto → Prop} (h : gd S) (h2 : gd S2) (e : s (ρ.set i (some w)) S = .ok (.nx ρ2) S2) (hk : k (.nx ρ2) S2) : (forD (gN i) s gd [w] ρ S).post k x := by
  refine forD_post (fun items ρ' S' => (items = [w] ∧ ρ' = ρ ∧ S' = S) ∨ (items = [] ∧ ρ' = ρ2 ∧ S' = S2)) ?_ ?_ _ _ _ (.inl ⟨rfl, rfl, rfl⟩)
  · rintro w' ws ρ' S' (⟨e1, rfl, rfl⟩ | ⟨e1, _⟩)
    · cases e1
      refine ⟨h, ?_⟩
      show (rt _ S').post _ _
      rw [post_rt, e, post_ok]
      exact .inr ⟨rfl, rfl, rfl⟩
    · cases e1
  · rintro ρ' S' (⟨e1, _⟩ | ⟨_, rfl, rfl⟩)
    · cases e1
    · exact ⟨h2, hk⟩
theorem span_cut {u : Int} (h : 0 ≤ u) : W.tup (cutW [.tup [.int 0, .int u]] none (some u)) = spanV u := by
  obtain ⟨n, rfl⟩ : ∃ n : Nat, u = n := ⟨u.toNat, by omega⟩
  unfold spanV
  congr 1
  by_cases c : n = 0
  · subst c; rfl
  · rw [if_pos (by omega)]
    unfold cutW
    have : HT.sIx 1 1 (some (n : Int)) = 1 := by
      show (if (n : Int) < 0 then ((n : Int) + ((1 : Nat) : Int)).toNat else min (n : Int).toNat 1) = 1
      rw [if_neg (by omega)]
      omega
    show List.take (HT.sIx 1 1 (some (n : Int)) - 0) (List.drop 0 _) = _
    rw [this]
    rfl
theorem dp_spans {a : List Int} (h : a.length ≤ 1000) : Dp 8 (.tup [.str "told", .tup (a.map spanV)]) := by
  refine dp_told ⟨by simpa using h, fun x hx => ?_⟩
  obtain ⟨u, _, rfl⟩ := List.mem_map.mp hx
  unfold spanV
  by_cases c : 0 < u
  · rw [if_pos c]
    refine ⟨by simp, fun y hy => ?_⟩
    rw [List.mem_singleton.mp hy]
    refine ⟨by simp, fun z hz => ?_⟩
    simp only [List.mem_cons, List.not_mem_nil, or_false] at hz
    rcases hz with rfl | rfl <;> trivial
  · rw [if_neg c]
    exact ⟨by simp, fun y hy => by cases hy⟩
theorem take_snoc {l : List Int} {c : Nat} {z : Int} (h : l[c]? = some z) : l.take c ++ [z] = l.take (c + 1) := by
  rw [List.take_add_one, h]
  rfl
section
variable {S : Sto} {L : List (Str × Int)} {a b : List Int}
theorem d_first_last (g : Good L) (h : L ≠ []) (hl' : L.length ≤ 1000) (fa : Fit (L.map (·.2)) a) (fb : Fit (L.map (·.2)) b) :
    (f_u_law_first_last [lotsV L, iv a, iv b] S).post (fun w S' => w = .bl true ∧ Pre S S') fun _ _ _ => False := by
  have la : a.length = L.length := by simpa using fa.len
  have lb : b.length = L.length := by simpa using fb.len
  have lc : (commonL (L.map (·.2)) a b).length = L.length := by simpa using common_len fa.len fb.len
  rw [run_u_law_first_last]
  unfold d_u_law_first_last
  rw [post_endF]
  refine seq_asg (fun w S' => w = .tup [.str "told", .tup (a.map spanV)] ∧ Pre S S') ?_ ?_
  · simp only [post_seq, p_ret, p_asg, p_ex, p_op, p_un, p_cb, p_cons, p_nil, p_c, p_call, p_if, p_b, p_tru, p_not, p_and, p_or, p_tup, p_lst, p_next, p_sl, p_no, p_part, p_for, p_rng, p_seqI, post_endF, dVar, List.getElem?_cons_zero, List.getElem?_cons_succ, List.set_cons_zero, List.set_cons_succ, post_rt, List.length_cons, List.length_nil, Nat.zero_add, Nat.reduceAdd, true_and, on1, on2]
    exact t_first g h hl' fa fun S1 p1 => ⟨rfl, p1⟩
  rintro _ S1 ⟨rfl, p1⟩
  refine seq_asg (fun w S' => w = .tup (a.map spanV) ∧ Pre S1 S') ?_ ?_
  · refine lc_pure (fun c => spanV ((a[c]?).getD 0)) (items := a.map W.int) (gd := fun _ => True) (by simp [dRet, dAndV, dOrV, dNotV, dUn, dOp, dVar, dC, dB, dAnd, dOr, dNot, dTru, dCons, dNil, dTup, dCall, dCB, dIfS, dSeq, dAsg, dEx, dNext, dBrk, dCnt, dRetN, dIf, gN, dSl, dPart, dNoPart, dChain, bd, rt, endF, wB, wI, on1, on2, stuck, wTru, dSeqI, seqOrStr, iv, seqOf]) (by simp; omega) (fun _ _ => trivial) (fun c w S' hw _ => ?_) fun S' p => ⟨?_, p⟩
    · rw [List.getElem?_map] at hw
      cases e : a[c]? with
      | none => rw [e] at hw; cases hw
      | some u =>
        rw [e] at hw
        cases hw
        obtain ⟨s, es⟩ := get_of (show c < (L.map (·.2)).length by have := (List.getElem?_eq_some_iff.mp e).1; simp; omega)
        have hu := fa.get es e
        have sc := span_cut hu.1
        simp [dRet, dAndV, dOrV, dNotV, dUn, dOp, dVar, dC, dB, dAnd, dOr, dNot, dTru, dCons, dNil, dTup, dCall, dCB, dIfS, dSeq, dAsg, dEx, dNext, dBrk, dCnt, dRetN, dIf, gN, dSl, dPart, dNoPart, dChain, bd, rt, endF, wB, wI, on1, on2, stuck, wTru, wipeW, wSl, sc]
    · congr 1
      apply List.ext_getElem?
      intro c
      rw [List.getElem?_map, List.getElem?_map]
      by_cases hc : c < a.length
      · rw [List.length_map, List.getElem?_range hc, List.getElem?_eq_getElem hc, Option.map_some, Option.map_some, List.getElem?_eq_getElem hc]
        rfl
      · rw [List.getElem?_eq_none (by simpa using hc), List.getElem?_eq_none (by omega)]
        rfl
  rintro _ S2 ⟨rfl, p2⟩
  refine post_seq_nx (ρ' := [some (lotsV L), some (iv a), some (iv b), some (.tup [.str "told", .tup (a.map spanV)]), some (.tup (a.map spanV)), none, none, none, none, none, none]) (S' := S2) (by
    have := q_same (S := S2) (dp_spans (a := a) (by omega))
    simp [dRet, dAndV, dOrV, dNotV, dUn, dOp, dVar, dC, dB, dAnd, dOr, dNot, dTru, dCons, dNil, dTup, dCall, dCB, dIfS, dSeq, dAsg, dEx, dNext, dBrk, dCnt, dRetN, dIf, gN, dSl, dPart, dNoPart, dChain, bd, rt, endF, wB, wI, on1, on2, stuck, wTru, this]) ?_
  with_reducible refine seq_asg (fun w S' => w = .obj S2.length ∧ S2 ++ [.lst []] = S') ?_ ?_
  · simp only [post_seq, p_ret, p_asg, p_ex, p_op, p_un, p_cb, p_cons, p_nil, p_c, p_call, p_if, p_b, p_tru, p_not, p_and, p_or, p_tup, p_lst, p_next, p_sl, p_no, p_part, p_for, p_rng, p_seqI, post_endF, dVar, List.getElem?_cons_zero, List.getElem?_cons_succ, List.set_cons_zero, List.set_cons_succ, post_rt, List.length_cons, List.length_nil, Nat.zero_add, Nat.reduceAdd, true_and, on1, on2]
    exact ⟨by decide, trivial⟩
  with_reducible rintro _ _ ⟨rfl, rfl⟩
  have p3 : Pre S (S2 ++ [.lst []]) := p1.trans (p2.trans ⟨_, rfl⟩)
  have hS2 : S.length ≤ S2.length := by
    obtain ⟨e, he⟩ := p1.trans p2
    rw [he]; simp
  with_reducible refine seq_for (items := rngW 0 L.length) (gd := fun _ => True) (fun S' => S2 ++ [.lst []] = S') ?_ ?_
  · have := rng_it (ρ := ([some (lotsV L), some (iv a), some (iv b), some (.tup [.str "told", .tup (a.map spanV)]), some (.tup (a.map spanV)), none, none, none, none, none, none] : En).set 6 (some (.obj S2.length))) (S := S2 ++ [.lst []]) (d := dVar 0) (l := L.map lotW) (by simp [dRet, dAndV, dOrV, dNotV, dUn, dOp, dVar, dC, dB, dAnd, dOr, dNot, dTru, dCons, dNil, dTup, dCall, dCB, dIfS, dSeq, dAsg, dEx, dNext, dBrk, dCnt, dRetN, dIf, gN, dSl, dPart, dNoPart, dChain, bd, rt, endF, wB, wI, on1, on2, stuck, wTru, lotsV]) (by simpa using hl')
    rw [List.length_map] at this
    with_reducible exact no_implicit_lambda% (post_of_eq this ⟨rfl, rfl⟩)
  rintro _ rfl
  refine forD_post (fun items ρ S' => ∃ c y7 y8 y9 y10, c ≤ L.length ∧ items = (rngW 0 L.length).drop c ∧ ρ = [some (lotsV L), some (iv a), some (iv b), some (.tup [.str "told", .tup (a.map spanV)]), some (.tup (a.map spanV)), none, some (.obj S2.length), y7, y8, y9, y10] ∧ Pre S S' ∧
    S'[S2.length]? = some (.lst (((commonL (L.map (·.2)) a b).take c).map W.int))) ?_ ?_ _ _ _ ⟨0, none, none, none, none, Nat.zero_le _, rfl, rfl, p3, by simp⟩
  · rintro w ws ρ S' ⟨c, y7, y8, y9, y10, hc, hi, rfl, pp, hn⟩
    refine ⟨trivial, ?_⟩
    have hlt : c < L.length := by
      apply Classical.byContradiction
      intro e
      rw [List.drop_eq_nil_of_le (by rw [rng_len]; omega)] at hi
      cases hi
    rw [List.drop_eq_getElem_cons (by rw [rng_len]; exact hlt)] at hi
    simp only [List.cons.injEq] at hi
    obtain ⟨hw, rfl⟩ := hi
    have : w = .int c := (rng_at (n := L.length) (c := c) (by rw [hw]; exact List.getElem?_eq_getElem _)).2
    subst this
    obtain ⟨p, e1⟩ := get_of hlt
    obtain ⟨u, e2⟩ := get_of (show c < a.length by omega)
    obtain ⟨v, e3⟩ := get_of (show c < b.length by omega)
    have es : (L.map (·.2))[c]? = some p.2 := by rw [List.getElem?_map, e1]; rfl
    have hu := fa.get es e2
    have hv := fb.get es e3
    have hcm := common_get es e2 e3
    have hsp : (a.map spanV)[c]? = some (spanV u) := by rw [List.getElem?_map, e2]; rfl
    show (rt _ S').post _ _
    rw [post_rt]
    show (dSeq _ _ [some (lotsV L), some (iv a), some (iv b), some (.tup [.str "told", .tup (a.map spanV)]), some (.tup (a.map spanV)), none, some (.obj S2.length), some (.int c), y8, y9, y10] S').post _ _
    refine seq_asg (fun w S2 => w = .int (p.2 - v) ∧ S' = S2) ?_ ?_
    · refine post_of_eq (w := .int (p.2 - v)) (S := S') ?_ ⟨rfl, rfl⟩
      simp [dRet, dAndV, dOrV, dNotV, dUn, dOp, dVar, dC, dB, dAnd, dOr, dNot, dTru, dCons, dNil, dTup, dCall, dCB, dIfS, dSeq, dAsg, dEx, dNext, dBrk, dCnt, dRetN, dIf, gN, dSl, dPart, dNoPart, dChain, bd, rt, endF, wB, wI, on1, on2, stuck, wTru, wIx_iv e3, wIx_lots e1]
      simp [dRet, dAndV, dOrV, dNotV, dUn, dOp, dVar, dC, dB, dAnd, dOr, dNot, dTru, dCons, dNil, dTup, dCall, dCB, dIfS, dSeq, dAsg, dEx, dNext, dBrk, dCnt, dRetN, dIf, gN, dSl, dPart, dNoPart, dChain, bd, rt, endF, wB, wI, on1, on2, stuck, wTru, wIx, lotW, atI_1, wSub]
    rintro _ _ ⟨rfl, rfl⟩
    refine seq_asg (fun w S2 => w = .int 0 ∧ S' = S2) (post_of_eq rfl ⟨rfl, rfl⟩) ?_
    rintro _ _ ⟨rfl, rfl⟩
    have hsl : (((commonL (L.map (·.2)) a b).take c).map W.int).length < 100000 := by simp; omega
    have fin : ∀ y, (dEx (tyW isL wApp (dVar 6) (dCons (dVar 9) dNil)) [some (lotsV L), some (iv a), some (iv b), some (.tup [.str "told", .tup (a.map spanV)]), some (.tup (a.map spanV)), none, some (.obj S2.length), some (.int c), some (.int (p.2 - v)), some (.int (mx0 (u + v - p.2))), y] S') =
        .ok (.nx [some (lotsV L), some (iv a), some (iv b), some (.tup [.str "told", .tup (a.map spanV)]), some (.tup (a.map spanV)), none, some (.obj S2.length), some (.int c), some (.int (p.2 - v)), some (.int (mx0 (u + v - p.2))), y]) (S'.set S2.length (.lst (((commonL (L.map (·.2)) a b).take (c + 1)).map W.int))) := fun y => by
      have := q_app (w := .int (mx0 (u + v - p.2))) hn hsl
      rw [← take_snoc hcm, List.map_append]
      simp [dRet, dAndV, dOrV, dNotV, dUn, dOp, dVar, dC, dB, dAnd, dOr, dNot, dTru, dCons, dNil, dTup, dCall, dCB, dIfS, dSeq, dAsg, dEx, dNext, dBrk, dCnt, dRetN, dIf, gN, dSl, dPart, dNoPart, dChain, bd, rt, endF, wB, wI, on1, on2, stuck, wTru, tyW, q_isL hn, this]
    have hit : ∀ z, dSeqI (dOp wIx (dOp wIx (dVar 3) (dC (.int 1))) (dVar 7)) [some (lotsV L), some (iv a), some (iv b), some (.tup [.str "told", .tup (a.map spanV)]), some (.tup (a.map spanV)), none, some (.obj S2.length), some (.int c), some (.int (p.2 - v)), some (.int 0), z] S' = .ok (if 0 < u then [.tup [.int 0, .int u]] else [], fun _ => True) S' := fun z => by
      have hat : atI (a.map spanV) (c : Int) = some (spanV u) := by rw [atI_nat, hsp]
      simp [dRet, dAndV, dOrV, dNotV, dUn, dOp, dVar, dC, dB, dAnd, dOr, dNot, dTru, dCons, dNil, dTup, dCall, dCB, dIfS, dSeq, dAsg, dEx, dNext, dBrk, dCnt, dRetN, dIf, gN, dSl, dPart, dNoPart, dChain, bd, rt, endF, wB, wI, on1, on2, stuck, wTru, dSeqI, seqOrStr, wIx, atI_1, hat, spanV, seqOf]
    refine seq_for (v := fun S2 => S' = S2) (post_of_eq (hit _) ⟨rfl, rfl⟩) ?_
    rintro _ rfl
    have done : ∀ y, (∃ c' y7 y8 y9 y10, c' ≤ L.length ∧ (rngW 0 L.length).drop (c + 1) = (rngW 0 L.length).drop c' ∧ ([some (lotsV L), some (iv a), some (iv b), some (.tup [.str "told", .tup (a.map spanV)]), some (.tup (a.map spanV)), none, some (.obj S2.length), some (.int c), some (.int (p.2 - v)), some (.int (mx0 (u + v - p.2))), y] : En) = [some (lotsV L), some (iv a), some (iv b), some (.tup [.str "told", .tup (a.map spanV)]), some (.tup (a.map spanV)), none, some (.obj S2.length), y7, y8, y9, y10] ∧ Pre S (S'.set S2.length (.lst (((commonL (L.map (·.2)) a b).take (c + 1)).map W.int))) ∧
        (S'.set S2.length (.lst (((commonL (L.map (·.2)) a b).take (c + 1)).map W.int)))[S2.length]? = some (.lst (((commonL (L.map (·.2)) a b).take c').map W.int))) := fun y => ⟨c + 1, _, _, _, _, hlt, rfl, rfl, pp.set_new hS2, set_eq hn⟩
    by_cases cu : 0 < u
    · rw [if_pos cu]
      refine forD_one (S2 := S') (ρ2 := [some (lotsV L), some (iv a), some (iv b), some (.tup [.str "told", .tup (a.map spanV)]), some (.tup (a.map spanV)), none, some (.obj S2.length), some (.int c), some (.int (p.2 - v)), some (.int (mx0 (u + v - p.2))), some (.tup [.int 0, .int u])]) trivial trivial ?_ ?_
      · have e1 : (if p.2 - v > 0 then p.2 - v else 0) = p.2 - v := by split <;> omega
        have e2 : u - (p.2 - v) = u + v - p.2 := by omega
        simp [dRet, dAndV, dOrV, dNotV, dUn, dOp, dVar, dC, dB, dAnd, dOr, dNot, dTru, dCons, dNil, dTup, dCall, dCB, dIfS, dSeq, dAsg, dEx, dNext, dBrk, dCnt, dRetN, dIf, gN, dSl, dPart, dNoPart, dChain, bd, rt, endF, wB, wI, on1, on2, stuck, wTru, wIx, atI_0, atI_1, wMax2, wSub, wAdd, e1, e2, mx0]
        repeat' split
        all_goals omega
      · exact post_of_eq (fin _) (done _)
    · rw [if_neg cu]
      refine forD_nil trivial ?_
      have e0 : mx0 (u + v - p.2) = 0 := by unfold mx0; split <;> omega
      have := fin y10
      rw [e0] at this
      have d := done y10
      rw [e0] at d
      exact post_of_eq this d
  · rintro ρ S' ⟨c, y7, y8, y9, y10, hc, hi, rfl, pp, hn⟩
    refine ⟨trivial, ?_⟩
    have hc' : c = L.length := by
      have := congrArg List.length hi
      rw [List.length_drop, rng_len] at this
      simp at this
      omega
    rw [hc', List.take_of_length_le (by omega)] at hn
    simp only [post_seq, p_ret, p_asg, p_ex, p_op, p_un, p_cb, p_cons, p_nil, p_c, p_call, p_if, p_b, p_tru, p_not, p_and, p_or, p_tup, p_lst, p_next, p_sl, p_no, p_part, p_for, p_rng, p_seqI, post_endF, dVar, List.getElem?_cons_zero, List.getElem?_cons_succ, List.set_cons_zero, List.set_cons_succ, post_rt, List.length_cons, List.length_nil, Nat.zero_add, Nat.reduceAdd, true_and, on1, on2]
    refine t_least g h hl' fa fb fun S4 p4 => ?_
    try simp only [post_seq, p_ret, p_asg, p_ex, p_op, p_un, p_cb, p_cons, p_nil, p_c, p_call, p_if, p_b, p_tru, p_not, p_and, p_or, p_tup, p_lst, p_next, p_sl, p_no, p_part, p_for, p_rng, p_seqI, post_endF, dVar, List.getElem?_cons_zero, List.getElem?_cons_succ, List.set_cons_zero, List.set_cons_succ, post_rt, List.length_cons, List.length_nil, Nat.zero_add, Nat.reduceAdd, true_and, on1, on2]
    rw [q_tupO (p4.get hn), post_ok]
    refine ⟨by decide, ?_⟩
    have sm := q_same (S := S4) (dp_told (dp_iv (n := 5) (a := commonL (L.map (·.2)) a b) (by omega)))
    exact post_of_eq sm ⟨rfl, pp.trans p4⟩
end
end MP

set_option Elab.async false
set_option linter.all false
set_option maxRecDepth 100000
set_option maxHeartbeats 4000000
namespace MP
open PySem PySem.Spec PyProof.Rows L2 GxR Gx He
def pows : List Int := [1, 2, 4, 8, 16, 32]
def bitI (m t b : Int) : Int := if Builtin.bitAnd m b > 0 then t + 1 else t
def bitsI (m : Int) : Int := pows.foldl (bitI m) 0
theorem e_bits {m : Int} {S : Sto} : f_u_law_bits [.int m] S = .ok (.int (bitsI m)) S := by
  refine eq_post (x := fun _ _ _ => False) ?_
  rw [run_u_law_bits]
  unfold d_u_law_bits
  rw [post_endF]
  refine seq_asg (fun w S' => w = .int 0 ∧ S = S') (post_of_eq rfl ⟨rfl, rfl⟩) ?_
  rintro _ _ ⟨rfl, rfl⟩
  refine seq_for (items := pows.map W.int) (gd := fun _ => True) (fun S' => S = S') ?_ ?_
  · simp only [post_seq, p_ret, p_asg, p_ex, p_op, p_un, p_cb, p_cons, p_nil, p_c, p_call, p_if, p_b, p_tru, p_not, p_and, p_or, p_tup, p_lst, p_next, p_sl, p_no, p_part, p_for, p_rng, p_seqI, post_endF, dVar, List.getElem?_cons_zero, List.getElem?_cons_succ, List.set_cons_zero, List.set_cons_succ, post_rt, List.length_cons, List.length_nil, Nat.zero_add, Nat.reduceAdd, true_and, on1, on2]
    exact ⟨by decide, (post_rt (x := fun _ _ _ => False)).mpr ⟨rfl, rfl⟩⟩
  rintro _ rfl
  refine forD_post (fun items ρ S' => ∃ r t y, items = r.map W.int ∧ ρ = [some (.int m), some (.int t), y] ∧ S' = S ∧ r.foldl (bitI m) t = bitsI m) ?_ ?_ _ _ _ ⟨pows, 0, none, rfl, rfl, rfl, rfl⟩
  · rintro w ws ρ S' ⟨r, t, y, hi, rfl, rfl, hr⟩
    refine ⟨trivial, ?_⟩
    cases r with
    | nil => cases hi
    | cons b r =>
      simp only [List.map_cons, List.cons.injEq] at hi
      obtain ⟨rfl, rfl⟩ := hi
      rw [List.foldl_cons] at hr
      have e : dIfS (dB (dOp wGt (dOp wBand (dVar 0) (dVar 2)) (dC (.int 0)))) (dAsg (dOp wAdd (dVar 1) (dC (.int 1))) (gN 1)) dNext [some (.int m), some (.int t), some (.int b)] S' = .ok (.nx [some (.int m), some (.int (bitI m t b)), some (.int b)]) S' := by
        by_cases c : 0 < Builtin.bitAnd m b <;> simp [dRet, dAndV, dOrV, dNotV, dUn, dOp, dVar, dC, dB, dAnd, dOr, dNot, dTru, dCons, dNil, dTup, dCall, dCB, dIfS, dSeq, dAsg, dEx, dNext, dBrk, dCnt, dRetN, dIf, gN, dSl, dPart, dNoPart, dChain, bd, rt, endF, wB, wI, on1, on2, stuck, wTru, wBand, wGt, c, wAdd, bitI]
      exact post_of_eq (r := rt _ S') rfl (post_of_eq e ⟨r, _, _, rfl, rfl, rfl, hr⟩)
  · rintro ρ S' ⟨r, t, y, hi, rfl, rfl, hr⟩
    refine ⟨trivial, ?_⟩
    cases r with
    | cons b r => cases hi
    | nil =>
      have e : dRet (dVar 1) [some (.int m), some (.int t), y] S' = .ok (.rtn (.int t)) S' := rfl
      refine post_of_eq e ?_
      exact ⟨by rw [← hr]; rfl, rfl⟩
def subs (size : Nat) (many : Int) : List Int := ((List.range (2 ^ size)).map fun i : Nat => (i : Int)).filter fun m => bitsI m == many
def fewI (size : Nat) (f s : Int) : Int := (subs size f).foldl (fun t one => (subs size s).foldl (fun t two => if bitsI (Builtin.bitAnd one two) < t then bitsI (Builtin.bitAnd one two) else t) t) size
def fitI (size : Nat) (f s fall : Int) : Bool := (subs size f).any fun one => (subs size s).any fun two => Builtin.bitAnd (Builtin.bitAnd one two) (31 - fall) == 0
theorem few_all : ((List.range 6).all fun size => (List.range (size + 1)).all fun f => (List.range (size + 1)).all fun s => fewI size f s == mx0 ((f : Int) + s - size)) = true := by decide +kernel
theorem fit_alls : ((List.range 6).all fun size => (List.range (size + 1)).all fun f => (List.range (size + 1)).all fun s => (List.range (2 ^ size)).all fun fall => fitI size f s fall == decide (mx0 ((f : Int) + s - size) ≤ bitsI fall)) = true := by decide +kernel
theorem bits_le : ((List.range 6).all fun size => (List.range (2 ^ size)).all fun fall => decide (0 ≤ bitsI fall) && decide (bitsI fall ≤ size)) = true := by decide +kernel
end MP

set_option Elab.async false
set_option linter.all false
set_option maxRecDepth 100000
set_option maxHeartbeats 4000000
namespace MP
open PySem PySem.Spec PyProof.Rows L2 GxR Gx He
theorem pows_at {size : Nat} (h : size ≤ 5) : pows[size]? = some ((2 ^ size : Nat) : Int) := by
  match size, h with
  | 0, _ => rfl
  | 1, _ => rfl
  | 2, _ => rfl
  | 3, _ => rfl
  | 4, _ => rfl
  | 5, _ => rfl
theorem pow_le {size : Nat} (h : size ≤ 5) : 2 ^ size ≤ 32 := Nat.pow_le_pow_right (by decide) h
def filt (n : Nat) (many : Int) : List Int := ((List.range n).map fun i : Nat => (i : Int)).filter fun m => bitsI m == many
theorem filt_snoc {n : Nat} {many : Int} : filt (n + 1) many = filt n many ++ if bitsI n == many then [(n : Int)] else [] := by
  unfold filt
  rw [List.range_succ, List.map_append, List.filter_append]
  congr 1
  simp only [List.map_cons, List.map_nil, List.filter_cons, List.filter_nil]
theorem filt_len {n : Nat} {many : Int} : (filt n many).length ≤ n := by
  unfold filt
  refine Nat.le_trans (List.length_filter_le _ _) ?_
  simp
theorem s_subsets {size : Nat} {many : Int} {S : Sto} (h : size ≤ 5) {k : W → Sto → Prop} {x : Str → Nat → Sto → Prop} (hk : ∀ n S', Pre S S' → S'[n]? = some (.lst ((subs size many).map W.int)) → k (.obj n) S') : (f_u_law_subsets [.int (size : Int), .int many] S).post k x := by
  have hp := pow_le h
  rw [run_u_law_subsets]
  unfold d_u_law_subsets
  rw [post_endF, p_ret]
  unfold dLc
  rw [post_bd]
  have hit : dRng1 (dCons (dOp wIx (dTup (dCons (dC (.int 1)) (dCons (dC (.int 2)) (dCons (dC (.int 4)) (dCons (dC (.int 8)) (dCons (dC (.int 16)) (dCons (dC (.int 32)) dNil))))))) (dVar 0)) dNil) [some (.int (size : Int)), some (.int many), none] S = .ok (rngW 0 (2 ^ size), fun _ => True) S := by
    have e : (dCons (dOp wIx (dTup (dCons (dC (.int 1)) (dCons (dC (.int 2)) (dCons (dC (.int 4)) (dCons (dC (.int 8)) (dCons (dC (.int 16)) (dCons (dC (.int 32)) dNil))))))) (dVar 0)) dNil) [some (.int (size : Int)), some (.int many), none] S = .ok [.int ((2 ^ size : Nat) : Int)] S := by
      have i := ivx (S := S) (pows_at h)
      have i' : wIx (.tup [.int 1, .int 2, .int 4, .int 8, .int 16, .int 32]) (.int (size : Int)) S = .ok (.int ((2 ^ size : Nat) : Int)) S := i
      simp [dRet, dAndV, dOrV, dNotV, dUn, dOp, dVar, dC, dB, dAnd, dOr, dNot, dTru, dCons, dNil, dTup, dCall, dCB, dIfS, dSeq, dAsg, dEx, dNext, dBrk, dCnt, dRetN, dIf, gN, dSl, dPart, dNoPart, dChain, bd, rt, endF, wB, wI, on1, on2, stuck, wTru, i']
    unfold dRng1
    unfold bd
    rw [e]
    show ((if -(2 ^ 62) ≤ ((2 ^ size : Nat) : Int) ∧ ((2 ^ size : Nat) : Int) < 2 ^ 62 then rt (rngW 0 (((2 ^ size : Nat) : Int)).toNat, fun _ => True) else stuck : M (List W × (Sto → Prop))) S) = _
    rw [if_pos (rng_ok (by omega)), Int.toNat_natCast]
    rfl
  rw [hit, post_ok]
  refine lcD_post (fun its S' => ∃ c, its = (rngW 0 (2 ^ size)).drop c ∧ c ≤ 2 ^ size ∧ S'[S.length]? = some (.lst ((filt c many).map W.int)) ∧ Pre S S') ?_ ?_ _ _ ⟨0, rfl, Nat.zero_le _, by simp [filt], ⟨_, rfl⟩⟩
  · rintro w ws S' ⟨c, hi, hc, hn, pp⟩
    refine ⟨trivial, ?_⟩
    have hlt : c < 2 ^ size := by
      apply Classical.byContradiction
      intro e
      rw [List.drop_eq_nil_of_le (by rw [rng_len]; omega)] at hi
      cases hi
    rw [List.drop_eq_getElem_cons (by rw [rng_len]; exact hlt)] at hi
    simp only [List.cons.injEq] at hi
    obtain ⟨hw, rfl⟩ := hi
    have : w = .int c := (rng_at (n := 2 ^ size) (c := c) (by rw [hw]; exact List.getElem?_eq_getElem _)).2
    subst this
    have fl := filt_len (n := c) (many := many)
    by_cases q : bitsI c = many
    · refine post_of_eq (w := some (.int c)) (S := S') ?_ ?_
      · simp [dRet, dAndV, dOrV, dNotV, dUn, dOp, dVar, dC, dB, dAnd, dOr, dNot, dTru, dCons, dNil, dTup, dCall, dCB, dIfS, dSeq, dAsg, dEx, dNext, dBrk, dCnt, dRetN, dIf, gN, dSl, dPart, dNoPart, dChain, bd, rt, endF, wB, wI, on1, on2, stuck, wTru, stepD, noX, noEx, wipeW, e_bits, wEq, wEq2, q]
      · refine ⟨_, hn, by simp; omega, c + 1, rfl, hlt, ?_, pp.set_new (Nat.le_refl _)⟩
        rw [set_eq hn, filt_snoc, if_pos (by simp [q])]
        simp
    · refine post_of_eq (w := none) (S := S') ?_ ?_
      · simp [dRet, dAndV, dOrV, dNotV, dUn, dOp, dVar, dC, dB, dAnd, dOr, dNot, dTru, dCons, dNil, dTup, dCall, dCB, dIfS, dSeq, dAsg, dEx, dNext, dBrk, dCnt, dRetN, dIf, gN, dSl, dPart, dNoPart, dChain, bd, rt, endF, wB, wI, on1, on2, stuck, wTru, stepD, noX, noEx, wipeW, e_bits, wEq, wEq2, q]
      · refine ⟨c + 1, rfl, hlt, ?_, pp⟩
        rw [hn, filt_snoc, if_neg (by simp [q]), List.append_nil]
  · rintro S' ⟨c, hi, hc, hn, pp⟩
    refine ⟨trivial, ?_⟩
    have hc' : c = 2 ^ size := by
      have := congrArg List.length hi
      rw [List.length_drop, rng_len] at this
      simp at this
      omega
    subst hc'
    exact hk _ _ pp hn
end MP

set_option Elab.async false
set_option linter.all false
set_option maxRecDepth 100000
set_option maxHeartbeats 4000000
namespace MP
open PySem PySem.Spec PyProof.Rows L2 GxR Gx He
theorem seq_lst {S : Sto} {n : Nat} {l : List W} (h : S[n]? = some (.lst l)) : seqOrStr (.obj n) S = .ok (l, fun S' => S'[n]? = some (.lst l)) S := by
  unfold seqOrStr seqOf
  simp only [h]
def fewT (size : Nat) (s : Int) (t one : Int) : Int := (subs size s).foldl (fun t two => if bitsI (Builtin.bitAnd one two) < t then bitsI (Builtin.bitAnd one two) else t) t
theorem s_fewest {size : Nat} {f s : Int} {S : Sto} (h : size ≤ 5) {k : W → Sto → Prop} {x : Str → Nat → Sto → Prop} (hk : ∀ S', Pre S S' → k (.int (fewI size f s)) S') : (f_u_law_fewest [.int (size : Int), .int f, .int s] S).post k x := by
  rw [run_u_law_fewest]
  unfold d_u_law_fewest
  rw [post_endF]
  refine seq_asg (fun w S' => w = .int (size : Int) ∧ S = S') (post_of_eq rfl ⟨rfl, rfl⟩) ?_
  rintro _ _ ⟨rfl, rfl⟩
  rw [post_seq, p_for, p_seqI, p_call, p_cons, p_var rfl, p_cons, p_var rfl, p_nil]
  refine ⟨rfl, s_subsets h fun n S1 p1 hn => post_of_eq (seq_lst hn) ?_⟩
  refine forD_post (fun items ρ S' => ∃ r t y4 y5, items = r.map W.int ∧ ρ = [some (.int (size : Int)), some (.int f), some (.int s), some (.int t), y4, y5] ∧ Pre S1 S' ∧ r.foldl (fewT size s) t = fewI size f s) ?_ ?_ _ _ _ ⟨subs size f, size, none, none, rfl, rfl, Pre.refl, rfl⟩
  · rintro w ws ρ S' ⟨r, t, y4, y5, hi, rfl, pp, hr⟩
    refine ⟨pp.get hn, ?_⟩
    cases r with
    | nil => cases hi
    | cons one r =>
      simp only [List.map_cons, List.cons.injEq] at hi
      obtain ⟨rfl, rfl⟩ := hi
      rw [List.foldl_cons] at hr
      refine post_of_eq (w := [some (.int (size : Int)), some (.int f), some (.int s), some (.int t), some (.int one), y5]) (S := S') rfl ?_
      rw [p_for, p_seqI, p_call, p_cons, p_var rfl, p_cons, p_var rfl, p_nil]
      refine ⟨rfl, s_subsets h fun n2 S2 p2 hn2 => post_of_eq (seq_lst hn2) ?_⟩
      refine forD_post (fun items ρ S' => ∃ q t y5, items = q.map W.int ∧ ρ = [some (.int (size : Int)), some (.int f), some (.int s), some (.int t), some (.int one), y5] ∧ S2 = S' ∧ r.foldl (fewT size s) (q.foldl (fun t two => if bitsI (Builtin.bitAnd one two) < t then bitsI (Builtin.bitAnd one two) else t) t) = fewI size f s) ?_ ?_ _ _ _ ⟨subs size s, t, y5, rfl, rfl, rfl, hr⟩
      · rintro w ws ρ _ ⟨q, t, y5, hi, rfl, rfl, hq⟩
        refine ⟨hn2, ?_⟩
        cases q with
        | nil => cases hi
        | cons two q =>
          simp only [List.map_cons, List.cons.injEq] at hi
          obtain ⟨rfl, rfl⟩ := hi
          rw [List.foldl_cons] at hq
          refine post_of_eq (w := [some (.int (size : Int)), some (.int f), some (.int s), some (.int t), some (.int one), some (.int two)]) (S := S2) rfl ?_
          refine post_of_eq (w := .nx [some (.int (size : Int)), some (.int f), some (.int s), some (.int (if bitsI (Builtin.bitAnd one two) < t then bitsI (Builtin.bitAnd one two) else t)), some (.int one), some (.int two)]) (S := S2) (by simp [dRet, dAndV, dOrV, dNotV, dUn, dOp, dVar, dC, dB, dAnd, dOr, dNot, dTru, dCons, dNil, dTup, dCall, dCB, dIfS, dSeq, dAsg, dEx, dNext, dBrk, dCnt, dRetN, dIf, gN, dSl, dPart, dNoPart, dChain, bd, rt, endF, wB, wI, on1, on2, stuck, wTru, wBand, e_bits, wMin2]) ?_
          exact ⟨q, _, _, rfl, rfl, rfl, hq⟩
      · rintro ρ _ ⟨q, t, y5, hi, rfl, rfl, hq⟩
        refine ⟨hn2, ?_⟩
        cases q with
        | cons two q => cases hi
        | nil => exact ⟨r, t, _, _, rfl, rfl, pp.trans p2, hq⟩
  · rintro ρ S' ⟨r, t, y4, y5, hi, rfl, pp, hr⟩
    refine ⟨pp.get hn, ?_⟩
    cases r with
    | cons one r => cases hi
    | nil =>
      have e : dRet (dVar 3) [some (.int (size : Int)), some (.int f), some (.int s), some (.int t), y4, y5] S' = .ok (.rtn (.int t)) S' := rfl
      refine post_of_eq e ?_
      have : t = fewI size f s := hr
      rw [this]
      exact hk _ (p1.trans pp)
end MP

set_option Elab.async false
set_option linter.all false
set_option maxRecDepth 100000
set_option maxHeartbeats 4000000
namespace MP
open PySem PySem.Spec PyProof.Rows L2 GxR Gx He
def fitT (size : Nat) (s fall one : Int) : Bool := (subs size s).any fun two => Builtin.bitAnd (Builtin.bitAnd one two) (31 - fall) == 0
theorem s_fits {size : Nat} {f s fall : Int} {S : Sto} (h : size ≤ 5) {k : W → Sto → Prop} {x : Str → Nat → Sto → Prop} (hk : ∀ S', Pre S S' → k (.bl (fitI size f s fall)) S') : (f_u_law_fits [.int (size : Int), .int f, .int s, .int fall] S).post k x := by
  rw [run_u_law_fits]
  unfold d_u_law_fits
  rw [post_endF]
  rw [post_seq, p_for, p_seqI, p_call, p_cons, p_var rfl, p_cons, p_var rfl, p_nil]
  refine ⟨rfl, s_subsets h fun n S1 p1 hn => post_of_eq (seq_lst hn) ?_⟩
  refine forD_post (fun items ρ S' => ∃ r y4 y5, items = r.map W.int ∧ ρ = [some (.int (size : Int)), some (.int f), some (.int s), some (.int fall), y4, y5] ∧ Pre S1 S' ∧ r.any (fitT size s fall) = fitI size f s fall) ?_ ?_ _ _ _ ⟨subs size f, none, none, rfl, rfl, Pre.refl, rfl⟩
  · rintro w ws ρ S' ⟨r, y4, y5, hi, rfl, pp, hr⟩
    refine ⟨pp.get hn, ?_⟩
    cases r with
    | nil => cases hi
    | cons one r =>
      simp only [List.map_cons, List.cons.injEq] at hi
      obtain ⟨rfl, rfl⟩ := hi
      rw [List.any_cons] at hr
      refine post_of_eq (w := [some (.int (size : Int)), some (.int f), some (.int s), some (.int fall), some (.int one), y5]) (S := S') rfl ?_
      rw [p_for, p_seqI, p_call, p_cons, p_var rfl, p_cons, p_var rfl, p_nil]
      refine ⟨rfl, s_subsets h fun n2 S2 p2 hn2 => post_of_eq (seq_lst hn2) ?_⟩
      refine forD_post (fun items ρ S' => ∃ q y5, items = q.map W.int ∧ ρ = [some (.int (size : Int)), some (.int f), some (.int s), some (.int fall), some (.int one), y5] ∧ S2 = S' ∧ ((q.any fun two => Builtin.bitAnd (Builtin.bitAnd one two) (31 - fall) == 0) || r.any (fitT size s fall)) = fitI size f s fall) ?_ ?_ _ _ _ ⟨subs size s, y5, rfl, rfl, rfl, hr⟩
      · rintro w ws ρ _ ⟨q, y5, hi, rfl, rfl, hq⟩
        refine ⟨hn2, ?_⟩
        cases q with
        | nil => cases hi
        | cons two q =>
          simp only [List.map_cons, List.cons.injEq] at hi
          obtain ⟨rfl, rfl⟩ := hi
          rw [List.any_cons] at hq
          refine post_of_eq (w := [some (.int (size : Int)), some (.int f), some (.int s), some (.int fall), some (.int one), some (.int two)]) (S := S2) rfl ?_
          by_cases c : Builtin.bitAnd (Builtin.bitAnd one two) (31 - fall) = 0
          · refine post_of_eq (w := .rtn (.bl true)) (S := S2) (by simp [dRet, dAndV, dOrV, dNotV, dUn, dOp, dVar, dC, dB, dAnd, dOr, dNot, dTru, dCons, dNil, dTup, dCall, dCB, dIfS, dSeq, dAsg, dEx, dNext, dBrk, dCnt, dRetN, dIf, gN, dSl, dPart, dNoPart, dChain, bd, rt, endF, wB, wI, on1, on2, stuck, wTru, wBand, wSub, wEq, wEq2, c]) ?_
            have : fitI size f s fall = true := by rw [← hq, c]; rfl
            rw [this] at hk
            exact hk _ (p1.trans (pp.trans p2))
          · refine post_of_eq (w := .nx [some (.int (size : Int)), some (.int f), some (.int s), some (.int fall), some (.int one), some (.int two)]) (S := S2) (by simp [dRet, dAndV, dOrV, dNotV, dUn, dOp, dVar, dC, dB, dAnd, dOr, dNot, dTru, dCons, dNil, dTup, dCall, dCB, dIfS, dSeq, dAsg, dEx, dNext, dBrk, dCnt, dRetN, dIf, gN, dSl, dPart, dNoPart, dChain, bd, rt, endF, wB, wI, on1, on2, stuck, wTru, wBand, wSub, wEq, wEq2, c]) ?_
            refine ⟨q, _, rfl, rfl, rfl, ?_⟩
            rw [← hq, beq_eq_false_iff_ne.mpr c, Bool.false_or]
      · rintro ρ _ ⟨q, y5, hi, rfl, rfl, hq⟩
        refine ⟨hn2, ?_⟩
        cases q with
        | cons two q => cases hi
        | nil => exact ⟨r, _, _, rfl, rfl, pp.trans p2, by rw [← hq]; rfl⟩
  · rintro ρ S' ⟨r, y4, y5, hi, rfl, pp, hr⟩
    refine ⟨pp.get hn, ?_⟩
    cases r with
    | cons one r => cases hi
    | nil =>
      have : fitI size f s fall = false := by rw [← hr]; rfl
      rw [this] at hk
      have e : dRet (dC (.bl false)) [some (.int (size : Int)), some (.int f), some (.int s), some (.int fall), y4, y5] S' = .ok (.rtn (.bl false)) S' := rfl
      refine post_of_eq e ?_
      exact hk _ (p1.trans pp)
end MP

set_option Elab.async false
set_option linter.all false
set_option maxRecDepth 100000
set_option maxHeartbeats 4000000
namespace MP
open PySem PySem.Spec PyProof.Rows L2 GxR Gx He
/-- finite facts, as they are asked -/
theorem few_eq {size f s : Nat} (h : size ≤ 5) (hf : f ≤ size) (hs : s ≤ size) : fewI size f s = mx0 ((f : Int) + s - size) := by
  have h1 := List.all_eq_true.mp few_all size (by simp; omega)
  have h2 := List.all_eq_true.mp h1 f (by simp; omega)
  have h3 := List.all_eq_true.mp h2 s (by simp; omega)
  simpa using h3
theorem fit_eq {size f s fall : Nat} (h : size ≤ 5) (hf : f ≤ size) (hs : s ≤ size) (hl : fall < 2 ^ size) : fitI size f s fall = decide (mx0 ((f : Int) + s - size) ≤ bitsI fall) := by
  have h1 := List.all_eq_true.mp fit_alls size (by simp; omega)
  have h2 := List.all_eq_true.mp h1 f (by simp; omega)
  have h3 := List.all_eq_true.mp h2 s (by simp; omega)
  have h4 := List.all_eq_true.mp h3 fall (by simpa using hl)
  simpa using h4
theorem bits_in {size fall : Nat} (h : size ≤ 5) (hl : fall < 2 ^ size) : 0 ≤ bitsI fall ∧ bitsI fall ≤ size := by
  have h1 := List.all_eq_true.mp bits_le size (by simp; omega)
  have h2 := List.all_eq_true.mp h1 fall (by simpa using hl)
  simpa using h2
/-- one wrong count is told at its place -/
theorem cfK_set {sz : List Int} {l : List W} {w : W} : ∀ {c k : Nat} {s : Int}, sz.length = l.length → sz[c]? = some s → (∀ d t u, d < c → sz[d]? = some t → l[d]? = some u → numOk u t = true) → numOk w s = false → cfK sz (l.set c w) k = some (k + c) := by
  induction sz generalizing l with
  | nil => intro c k s _ e; simp at e
  | cons t sz ih =>
    intro c k s hl e ho hw
    cases l with
    | nil => simp at hl
    | cons u l =>
      cases c with
      | zero =>
        cases e
        rw [List.set_cons_zero, cfK_cons, if_neg (by rw [hw]; decide)]
        rfl
      | succ c =>
        rw [List.set_cons_succ, cfK_cons, if_pos (ho 0 t u (by omega) rfl rfl), ih (by simpa using hl) (by simpa using e) (fun d t' u' hd h1 h2 => ho (d + 1) t' u' (by omega) (by simpa using h1) (by simpa using h2)) hw]
        congr 1
        omega
theorem cf_set {sz a : List Int} {w : W} {c : Nat} {s : Int} (h : Fit sz a) (e : sz[c]? = some s) (hw : numOk w s = false) : cfault sz (.tup ((a.map W.int).set c w)) = some (c : Int) := by
  unfold cfault
  have hl : ((a.map W.int).set c w).length = sz.length := by simp [h.len]
  simp only [if_pos hl]
  rw [cfK_set (s := s) (by simp [h.len]) e (fun d t u hd h1 h2 => ?_) hw]
  · simp
  · rw [List.getElem?_map] at h2
    cases q : a[d]? with
    | none => rw [q] at h2; cases h2
    | some z =>
      rw [q] at h2
      cases h2
      have := h.get h1 q
      simp [numOk, this]
theorem cf_len {sz : List Int} {l : List W} (h : l.length ≠ sz.length) : cfault sz (.tup l) = some (-1) := by
  unfold cfault
  simp only [if_neg h]
end MP

set_option Elab.async false
set_option linter.all false
set_option maxRecDepth 100000
set_option maxHeartbeats 4000000
namespace MP
open PySem PySem.Spec PyProof.Rows L2 GxR Gx He
section
variable {S : Sto} {L : List (Str × Int)} {a : List Int} {w b : W} {i : Int} {wh : Str} {k : W → Sto → Prop} {x : Str → Nat → Sto → Prop}
theorem fc_bad (g : Good L) (h : L ≠ []) (hc : cfault (L.map (·.2)) w = some i) : faultCounts (lotsV L) w = some (.counts i) := by
  unfold faultCounts
  rw [fl_good g h, szW_lots, hc]
  rfl
/-- the first counts are wrong -/
theorem t_bad1 (hw : wh ∈ (["least", "below", "outside", "first"] : List Str)) (g : Good L) (h : L ≠ []) (hl : L.length ≤ 1000) (ha : Ty1 S w) (hb : Ty1 S b) (hc : cfault (L.map (·.2)) w = some i) (hk : ∀ S', Pre S S' → k (.tup [.str "counts", .int i]) S') :
    (f_u_law_told [.str wh, lotsV L, w, b] S).post k x := by
  have e : faultOf wh (lotsV L) w b = some (.counts i) := by
    have q := fc_bad g h hc
    simp only [List.mem_cons, List.not_mem_nil, or_false] at hw
    unfold faultOf
    rcases hw with rfl | rfl | rfl | rfl
    · rw [if_pos rfl, two_some q]
    · rw [if_neg (by decide), if_pos rfl, two_some q]
    · rw [if_neg (by decide), if_neg (by decide), if_pos rfl, q]
    · rw [if_neg (by decide), if_neg (by decide), if_neg (by decide), if_pos rfl, q]
  have h6 : wh ∈ six := by
    simp only [List.mem_cons, List.not_mem_nil, or_false] at hw
    rcases hw with rfl | rfl | rfl | rfl <;> decide
  refine told_due h6 (ty_good g hl) ha hb (fun u o => ?_) hk
  rw [e] at o
  exact o
/-- the first are right, the second are wrong -/
theorem t_bad2 (hw : wh ∈ (["least", "below"] : List Str)) (g : Good L) (h : L ≠ []) (hl : L.length ≤ 1000) (fa : Fit (L.map (·.2)) a) (hb : Ty1 S w) (hc : cfault (L.map (·.2)) w = some i) (hk : ∀ S', Pre S S' → k (.tup [.str "counts", .int i]) S') :
    (f_u_law_told [.str wh, lotsV L, iv a, w] S).post k x := by
  have e : faultOf wh (lotsV L) (iv a) w = some (.counts i) := by
    have q := fc_bad g h hc
    simp only [List.mem_cons, List.not_mem_nil, or_false] at hw
    unfold faultOf
    rcases hw with rfl | rfl
    · rw [if_pos rfl, two_none (fc_fit g h fa), q]
    · rw [if_neg (by decide), if_pos rfl, two_none (fc_fit g h fa), q]
  have h6 : wh ∈ six := by
    simp only [List.mem_cons, List.not_mem_nil, or_false] at hw
    rcases hw with rfl | rfl <;> decide
  refine told_due h6 (ty_good g hl) ty_iv hb (fun u o => ?_) hk
  rw [e] at o
  exact o
/-- the lots are wrong -/
theorem t_lots {l v : W} {z : Str} (hw : wh ∈ six) (hl : LotsTy S l) (ha : Ty1 S v) (hb : Ty1 S b) (hf : lotsFault l = some (i, z)) (hk : ∀ S', Pre S S' → k (.tup [.str "lots", .int i, .str z]) S') :
    (f_u_law_told [.str wh, l, v, b] S).post k x := by
  have f : faultLots l = some (.lots i z) := by unfold faultLots; rw [hf]; rfl
  have q : ∀ t, faultCounts l t = some (.lots i z) := fun t => by unfold faultCounts; rw [f]
  have e : faultOf wh l v b = some (.lots i z) := by
    unfold faultOf
    rw [two_some (q v), q, f]
    simp only [ite_self]
  refine told_due hw hl ha hb (fun u o => ?_) hk
  rw [e] at o
  exact o
theorem dp_counts : Dp 8 (.tup [.str "counts", .int i]) := by
  refine ⟨by simp, fun x hx => ?_⟩
  simp only [List.mem_cons, List.not_mem_nil, or_false] at hx
  rcases hx with rfl | rfl <;> trivial
theorem dp_lots {z : Str} : Dp 8 (.tup [.str "lots", .int i, .str z]) := by
  refine ⟨by simp, fun x hx => ?_⟩
  simp only [List.mem_cons, List.not_mem_nil, or_false] at hx
  rcases hx with rfl | rfl | rfl <;> trivial
end
end MP

set_option Elab.async false
set_option linter.all false
set_option maxRecDepth 100000
set_option maxHeartbeats 4000000
namespace MP
open PySem PySem.Spec PyProof.Rows L2 GxR Gx He
theorem lotsF_set {bad : W} {z : Str} : ∀ {L : List (Str × Int)} {kvs : List (Key × W)} {k c : Nat} {p : Str × Int}, Good L → (∀ p ∈ L, hasK kvs (.inr p.1) = false) → L[c]? = some p → (∀ kvs', hasK kvs' (.inr p.1) = false → lotF kvs' bad = some z) → lotsF kvs k ((L.map lotW).set c bad) = some (k + c, z)
  | [], _, _, _, _, _, _, e, _ => by simp at e
  | q :: L, kvs, k, 0, p, g, h, e, hb => by
    cases e
    rw [List.map_cons, List.set_cons_zero]
    unfold lotsF
    rw [hb kvs (h _ (by simp))]
    rfl
  | q :: L, kvs, k, c + 1, p, g, h, e, hb => by
    rw [List.map_cons, List.set_cons_succ]
    unfold lotsF
    rw [lotF_good (g.word q (by simp)) (h q (by simp)) (g.size q (by simp)).1]
    have g1 := g.once
    rw [List.map_cons, List.nodup_cons] at g1
    have := lotsF_set (kvs := putW kvs (.inr (wordOf (lotW q))) (.int k)) (k := k + 1) (c := c) (p := p) (L := L) ⟨fun r hr => g.word r (by simp [hr]), fun r hr => g.size r (by simp [hr]), g1.2⟩ (fun r hr => by
      have hw : wordOf (lotW q) = q.1 := rfl
      rw [hw, hasK_put (h q (by simp)), h r (by simp [hr])]
      simp only [Bool.false_or, decide_eq_false_iff_not]
      intro e
      exact g1.1 (by rw [e]; exact List.mem_map.mpr ⟨r, hr, rfl⟩)) (by simpa using e) hb
    simp only [this]
    congr 2
    omega
theorem fault_set {L : List (Str × Int)} {c : Nat} {p : Str × Int} {bad : W} {z : Str} (g : Good L) (e : L[c]? = some p) (hb : ∀ kvs', hasK kvs' (.inr p.1) = false → lotF kvs' bad = some z) : lotsFault (.tup ((L.map lotW).set c bad)) = some ((c : Int), z) := by
  have q := lotsF_set (kvs := []) (k := 0) g (fun _ _ => rfl) e hb
  obtain ⟨a, l, hl⟩ : ∃ a l, (L.map lotW).set c bad = a :: l := by
    cases L with
    | nil => simp at e
    | cons r L => cases c <;> exact ⟨_, _, rfl⟩
  rw [hl] at q ⊢
  unfold lotsFault
  simp only [q, Option.map_some, Nat.zero_add]
end MP

set_option Elab.async false
set_option linter.all false
set_option maxRecDepth 100000
set_option maxHeartbeats 4000000
namespace MP
open PySem PySem.Spec PyProof.Rows L2 GxR Gx He
section
variable {kvs : List (Key × W)} {z : Str} {s : Int}
theorem lb_zero (h1 : wordB z = true) (h2 : hasK kvs (.inr z) = false) : lotF kvs (.tup [.str z, .int 0]) = some ("size" : Str) := by
  have e1 : wordW (.str z) = true := h1
  have e2 : hasK kvs (.inr (wordOf (.tup [.str z, .int 0]))) = false := h2
  unfold lotF
  simp only [e1, e2, if_true, Bool.false_eq_true, if_false]
  rfl
theorem lb_true (h1 : wordB z = true) (h2 : hasK kvs (.inr z) = false) : lotF kvs (.tup [.str z, .bl true]) = some ("size" : Str) := by
  have e1 : wordW (.str z) = true := h1
  have e2 : hasK kvs (.inr (wordOf (.tup [.str z, .bl true]))) = false := h2
  unfold lotF
  simp only [e1, e2, if_true, Bool.false_eq_true, if_false]
theorem lb_most : lotF kvs (.tup [.str "most", .int s]) = some ("word" : Str) := by
  have e1 : wordW (.str "most") = false := by decide
  unfold lotF
  simp only [e1, Bool.false_eq_true, if_false]
theorem lb_obj {n : Nat} : lotF kvs (.obj n) = some ("shape" : Str) := rfl
theorem lf_obj {n : Nat} : lotsFault (.obj n) = some ((-1 : Int), ("shape" : Str)) := rfl
theorem lf_non : lotsFault .non = some ((-1 : Int), ("shape" : Str)) := rfl
theorem lf_nil : lotsFault (.tup []) = some ((-1 : Int), ("shape" : Str)) := rfl
theorem lf_twice {p : Str × Int} (h1 : wordB p.1 = true) (h2 : 1 ≤ p.2) : lotsFault (.tup [lotW p, lotW p]) = some ((1 : Int), ("twice" : Str)) := by
  have a : lotF [] (lotW p) = none := lotF_good h1 rfl h2
  have e1 : wordW (.str p.1) = true := h1
  have kk : hasK (putW ([] : List (Key × W)) (.inr p.1) (.int (0 : Nat))) (.inr p.1) = true := by
    rw [hasK_put rfl]
    simp
  have b : lotF (putW [] (.inr (wordOf (lotW p))) (.int (0 : Nat))) (lotW p) = some ("twice" : Str) := by
    have e2 : hasK (putW ([] : List (Key × W)) (.inr (wordOf (lotW p))) (.int (0 : Nat))) (.inr (wordOf (lotW p))) = true := kk
    unfold lotF
    unfold lotW at e2 ⊢
    simp only [e1, e2, if_true]
  unfold lotsFault
  simp only [lotsF, a, b]
  rfl
end
end MP

set_option Elab.async false
set_option linter.all false
set_option maxRecDepth 100000
set_option maxHeartbeats 4000000
namespace MP
open PySem PySem.Spec PyProof.Rows L2 GxR Gx He
def twoL (L : List (Str × Int)) : List (Str × Int) := L.map fun p => (p.1, 2)
theorem good_two {L : List (Str × Int)} (g : Good L) : Good (twoL L) := by
  refine ⟨fun p hp => ?_, fun p hp => ?_, ?_⟩
  · obtain ⟨q, hq, rfl⟩ := List.mem_map.mp hp
    exact g.word q hq
  · obtain ⟨q, hq, rfl⟩ := List.mem_map.mp hp
    exact ⟨show (1 : Int) ≤ 2 by decide, show (2 : Int) ≤ 1000000000000 by decide⟩
  · have : (twoL L).map (·.1) = L.map (·.1) := by unfold twoL; rw [List.map_map]; rfl
    rw [this]
    exact g.once
theorem two_sizes {L : List (Str × Int)} : (twoL L).map (·.2) = L.map fun _ => 2 := by unfold twoL; rw [List.map_map]; rfl
theorem fit_const {u s : Int} (h0 : 0 ≤ u) (h1 : u ≤ s) : ∀ {L : List (Str × Int)}, Fit (L.map fun _ => s) (L.map fun _ => u)
  | [] => .nil
  | _ :: L => .cons h0 h1 (fit_const h0 h1 (L := L))
/-- tuple([u for lot in lots]) -/
theorem lc_const {L : List (Str × Int)} {ρ : En} {S : Sto} {it : DI} {i : Nat} {vs : List Nat} {u : Int} {x : Str → Nat → Sto → Prop} (hit : it ρ S = .ok (L.map lotW, fun _ => True) S) (hl : L.length ≤ 1000) :
    (dCB (on1 wTupOf) (dCons (dLc it (gN i) dYes (dC (.int u)) vs) dNil) ρ S).post (fun w S' => w = iv (L.map fun _ => u) ∧ Pre S S') x := by
  refine lc_pure (fun _ => .int u) hit (by simpa using hl) (fun _ _ => trivial) (fun c w S' hw _ => rfl) fun S' p => ⟨?_, p⟩
  refine range_iv (by simp) fun c z hz => ?_
  rw [List.getElem?_map] at hz
  cases e : L[c]? with
  | none => rw [e] at hz; cases hz
  | some s => rw [e] at hz; cases hz; rfl
section
variable {S : Sto} {L : List (Str × Int)} {a : List Int} {w : W} {i : Int} {x : Str → Nat → Sto → Prop} {k : Fl → Sto → Prop} {P : List Str} {e0 e1 e2 e5 e6 e7 e9 e10 e12 e13 y : Option W}
theorem loop_bad1 (hP : ∀ z ∈ P, z ∈ (["least", "below", "outside", "first"] : List Str)) (g : Good L) (h : L ≠ []) (hl : L.length ≤ 1000) (ha : ∀ S', Pre S S' → Ty1 S' w) (hc : cfault (L.map (·.2)) w = some i)
    (hk : ∀ y S', Pre S S' → k (.nx [e0, e1, e2, some (.int i), some (lotsV L), e5, e6, e7, some (iv a), e9, e10, some w, e12, e13, y]) S') :
    (forD (gN 14) (dIfS (dNot (dTru (dCall 2 (f_u_law_same) (dCons (dCall 4 (f_u_law_told) (dCons (dVar 14) (dCons (dVar 4) (dCons (dVar 11) (dCons (dVar 8) dNil))))) (dCons (dTup (dCons (dC (.str "counts")) (dCons (dVar 3) dNil))) dNil))))) (dRet (dC (.bl false))) dNext)
      (fun _ => True) (P.map W.str) [e0, e1, e2, some (.int i), some (lotsV L), e5, e6, e7, some (iv a), e9, e10, some w, e12, e13, y] S).post k x := by
  refine forD_post (fun items ρ S' => ∃ Q y, items = Q.map W.str ∧ (∀ p ∈ Q, p ∈ P) ∧ ρ = [e0, e1, e2, some (.int i), some (lotsV L), e5, e6, e7, some (iv a), e9, e10, some w, e12, e13, y] ∧ Pre S S') ?_ ?_ _ _ _ ⟨P, y, rfl, fun _ h => h, rfl, Pre.refl⟩
  · rintro v ws ρ S' ⟨Q, y, hi, hQ, rfl, p1⟩
    refine ⟨trivial, ?_⟩
    cases Q with
    | nil => cases hi
    | cons z Q =>
      simp only [List.map_cons, List.cons.injEq] at hi
      obtain ⟨rfl, rfl⟩ := hi
      refine post_of_eq (w := [e0, e1, e2, some (.int i), some (lotsV L), e5, e6, e7, some (iv a), e9, e10, some w, e12, e13, some (.str z)]) (S := S') rfl ?_
      simp only [post_seq, p_ret, p_asg, p_ex, p_op, p_un, p_cb, p_cons, p_nil, p_c, p_call, p_if, p_b, p_tru, p_not, p_and, p_or, p_tup, p_lst, p_next, p_sl, p_no, p_part, p_for, p_rng, p_seqI, post_endF, dVar, List.getElem?_cons_zero, List.getElem?_cons_succ, List.set_cons_zero, List.set_cons_succ, post_rt, List.length_cons, List.length_nil, Nat.zero_add, Nat.reduceAdd, true_and, on1, on2]
      refine t_bad1 (hP z (hQ z (by simp))) g h hl (ha S' p1) ty_iv hc fun S2 p2 => ?_
      refine ⟨by decide, post_of_eq (q_same dp_counts) ?_⟩
      simp only [post_seq, p_ret, p_asg, p_ex, p_op, p_un, p_cb, p_cons, p_nil, p_c, p_call, p_if, p_b, p_tru, p_not, p_and, p_or, p_tup, p_lst, p_next, p_sl, p_no, p_part, p_for, p_rng, p_seqI, post_endF, dVar, List.getElem?_cons_zero, List.getElem?_cons_succ, List.set_cons_zero, List.set_cons_succ, post_rt, List.length_cons, List.length_nil, Nat.zero_add, Nat.reduceAdd, true_and, on1, on2, wTru, Bool.not_true, Bool.false_eq_true, if_false]
      exact ⟨Q, _, rfl, fun q hq => hQ q (by simp [hq]), rfl, p1.trans p2⟩
  · rintro ρ S' ⟨Q, y, hi, hQ, rfl, p1⟩
    exact ⟨trivial, hk _ _ p1⟩
theorem loop_bad2 (hP : ∀ z ∈ P, z ∈ (["least", "below"] : List Str)) (g : Good L) (h : L ≠ []) (hl : L.length ≤ 1000) (fa : Fit (L.map (·.2)) a) (ha : ∀ S', Pre S S' → Ty1 S' w) (hc : cfault (L.map (·.2)) w = some i)
    (hk : ∀ y S', Pre S S' → k (.nx [e0, e1, e2, some (.int i), some (lotsV L), e5, e6, e7, some (iv a), e9, e10, some w, e12, e13, y]) S') :
    (forD (gN 14) (dIfS (dNot (dTru (dCall 2 (f_u_law_same) (dCons (dCall 4 (f_u_law_told) (dCons (dVar 14) (dCons (dVar 4) (dCons (dVar 8) (dCons (dVar 11) dNil))))) (dCons (dTup (dCons (dC (.str "counts")) (dCons (dVar 3) dNil))) dNil))))) (dRet (dC (.bl false))) dNext)
      (fun _ => True) (P.map W.str) [e0, e1, e2, some (.int i), some (lotsV L), e5, e6, e7, some (iv a), e9, e10, some w, e12, e13, y] S).post k x := by
  refine forD_post (fun items ρ S' => ∃ Q y, items = Q.map W.str ∧ (∀ p ∈ Q, p ∈ P) ∧ ρ = [e0, e1, e2, some (.int i), some (lotsV L), e5, e6, e7, some (iv a), e9, e10, some w, e12, e13, y] ∧ Pre S S') ?_ ?_ _ _ _ ⟨P, y, rfl, fun _ h => h, rfl, Pre.refl⟩
  · rintro v ws ρ S' ⟨Q, y, hi, hQ, rfl, p1⟩
    refine ⟨trivial, ?_⟩
    cases Q with
    | nil => cases hi
    | cons z Q =>
      simp only [List.map_cons, List.cons.injEq] at hi
      obtain ⟨rfl, rfl⟩ := hi
      refine post_of_eq (w := [e0, e1, e2, some (.int i), some (lotsV L), e5, e6, e7, some (iv a), e9, e10, some w, e12, e13, some (.str z)]) (S := S') rfl ?_
      simp only [post_seq, p_ret, p_asg, p_ex, p_op, p_un, p_cb, p_cons, p_nil, p_c, p_call, p_if, p_b, p_tru, p_not, p_and, p_or, p_tup, p_lst, p_next, p_sl, p_no, p_part, p_for, p_rng, p_seqI, post_endF, dVar, List.getElem?_cons_zero, List.getElem?_cons_succ, List.set_cons_zero, List.set_cons_succ, post_rt, List.length_cons, List.length_nil, Nat.zero_add, Nat.reduceAdd, true_and, on1, on2]
      refine t_bad2 (hP z (hQ z (by simp))) g h hl fa (ha S' p1) hc fun S2 p2 => ?_
      refine ⟨by decide, post_of_eq (q_same dp_counts) ?_⟩
      simp only [post_seq, p_ret, p_asg, p_ex, p_op, p_un, p_cb, p_cons, p_nil, p_c, p_call, p_if, p_b, p_tru, p_not, p_and, p_or, p_tup, p_lst, p_next, p_sl, p_no, p_part, p_for, p_rng, p_seqI, post_endF, dVar, List.getElem?_cons_zero, List.getElem?_cons_succ, List.set_cons_zero, List.set_cons_succ, post_rt, List.length_cons, List.length_nil, Nat.zero_add, Nat.reduceAdd, true_and, on1, on2, wTru, Bool.not_true, Bool.false_eq_true, if_false]
      exact ⟨Q, _, rfl, fun q hq => hQ q (by simp [hq]), rfl, p1.trans p2⟩
  · rintro ρ S' ⟨Q, y, hi, hQ, rfl, p1⟩
    exact ⟨trivial, hk _ _ p1⟩
end
end MP

set_option Elab.async false
set_option linter.all false
set_option maxRecDepth 100000
set_option maxHeartbeats 4000000
namespace MP
open PySem PySem.Spec PyProof.Rows L2 GxR Gx He
section
variable {d d2 : DE} {b : DS} {ρ : En} {S : Sto} {k : Fl → Sto → Prop} {x : Str → Nat → Sto → Prop}
theorem seq_chk (v : Sto → Prop) (h1 : (d ρ S).post (fun w S' => w = .bl true ∧ v S') fun _ _ _ => False) (h2 : ∀ S', v S' → (b ρ S').post k x) : (dSeq (dIfS (dNot (dTru d)) (dRet (dC (.bl false))) dNext) b ρ S).post k x := by
  rw [post_seq, p_if, p_not, p_tru]
  refine post_imp h1 (fun w S' h => ?_) fun _ _ _ z => z.elim
  obtain ⟨rfl, hv⟩ := h
  refine post_of_eq (r := wTru (.bl true) S') rfl ?_
  show (if (!true) = true then _ else _)
  rw [if_neg (by decide)]
  refine post_of_eq (r := dNext ρ S') (w := .nx ρ) (S := S') rfl ?_
  exact h2 S' hv
theorem seq_chk2 (v v2 : Sto → Prop) (h1 : (d ρ S).post (fun w S' => w = .bl true ∧ v S') fun _ _ _ => False) (h1' : ∀ S', v S' → (d2 ρ S').post (fun w S' => w = .bl true ∧ v2 S') fun _ _ _ => False) (h2 : ∀ S', v2 S' → (b ρ S').post k x) :
    (dSeq (dIfS (dOr (dNot (dTru d)) (dNot (dTru d2))) (dRet (dC (.bl false))) dNext) b ρ S).post k x := by
  rw [post_seq, p_if, p_or, p_not, p_tru]
  refine post_imp h1 (fun w S' h => ?_) fun _ _ _ z => z.elim
  obtain ⟨rfl, hv⟩ := h
  refine post_of_eq (r := wTru (.bl true) S') rfl ?_
  show (if (!true) = true then _ else _)
  rw [if_neg (by decide), p_not, p_tru]
  refine post_imp (h1' S' hv) (fun w S2 h => ?_) fun _ _ _ z => z.elim
  obtain ⟨rfl, hv2⟩ := h
  refine post_of_eq (r := wTru (.bl true) S2) rfl ?_
  show (if (!true) = true then _ else _)
  rw [if_neg (by decide)]
  refine post_of_eq (r := dNext ρ S2) (w := .nx ρ) (S := S2) rfl ?_
  exact h2 S2 hv2
end
end MP

set_option Elab.async false
set_option linter.all false
set_option maxRecDepth 100000
set_option maxHeartbeats 4000000
namespace MP
open PySem PySem.Spec PyProof.Rows L2 GxR Gx He
theorem rest_const {s u : Int} : ∀ {L : List (Str × Int)}, restL (L.map fun _ => s) (L.map fun _ => u) = L.map fun _ => s - u
  | [] => rfl
  | _ :: L => by rw [List.map_cons, List.map_cons, List.map_cons, restL_cons, rest_const]
section
variable {S : Sto} {L : List (Str × Int)} {o : List Int} {w : W} {i u : Int} {ac : Nat} {l0 l1 l2 l3 : Int} {x : Str → Nat → Sto → Prop} {k : Fl → Sto → Prop} {e0 e2 e5 e6 e7 e9 e12 e13 e14 : Option W}
theorem between_in (g : Good L) (h : L ≠ []) (hl : L.length ≤ 1000) (hu : u = 0 ∨ u = 1) (ha : ∀ S', Pre S S' ∨ Mv [ac] S S' → Ty1 S' w) (hc : cfault ((twoL L).map (·.2)) w = some i) (hA : Askd ac l0 l1 l2 l3 S)
    (hk : ∀ e14 S', Mv [ac] S S' → Askd ac l0 l1 l2 l3 S' → k (.nx [e0, some (.obj ac), e2, some (.int i), some (lotsV (twoL L)), e5, e6, e7, some (iv (L.map fun _ => 2)), e9, some (iv (L.map fun _ => u)), some w, e12, e13, e14]) S') :
    ((dSeq (dIfS (dOr (dNot (dTru (dCall 3 (f_u_law_ask_least) (dCons (dVar 4) (dCons (dVar 10) (dCons (dVar 8) dNil)))))) (dNot (dTru (dCall 4 (f_u_law_ask_below) (dCons (dVar 1) (dCons (dVar 4) (dCons (dVar 10) (dCons (dVar 8) dNil)))))))) (dRet (dC (.bl false))) dNext)
    (dSeq (dIfS (dNot (dTru (dCall 4 (f_u_law_ask_below) (dCons (dVar 1) (dCons (dVar 4) (dCons (dVar 8) (dCons (dVar 10) dNil))))))) (dRet (dC (.bl false))) dNext)
    (dSeq (dIfS (dNot (dTru (dCall 2 (f_u_law_same) (dCons (dCall 4 (f_u_law_told) (dCons (dC (.str "outside")) (dCons (dVar 4) (dCons (dVar 10) (dCons (dC (.int 0)) dNil))))) (dCons (dTup (dCons (dC (.str "told")) (dCons (dCB (on1 wTupOf) (dCons (dLc (dSeqI (dVar 10)) (gN 13) dYes (dOp wSub (dC (.int 2)) (dVar 13)) [13]) dNil)) dNil))) dNil))))) (dRet (dC (.bl false))) dNext)
    (dSeq (dIfS (dNot (dTru (dCall 2 (f_u_law_same) (dCons (dCall 4 (f_u_law_told) (dCons (dC (.str "first")) (dCons (dVar 4) (dCons (dVar 10) (dCons (dC (.int 0)) dNil))))) (dCons (dTup (dCons (dC (.str "told")) (dCons (dCB (on1 wTupOf) (dCons (dLc (dSeqI (dVar 10)) (gN 13) dYes (dSl wSl (dTup (dCons (dTup (dCons (dC (.int 0)) (dCons (dC (.int 1)) dNil))) dNil)) dNoPart (dPart (dVar 13))) [13]) dNil)) dNil))) dNil))))) (dRet (dC (.bl false))) dNext)
    (dSeq (dFor (dSeqI (dTup (dCons (dC (.str "least")) (dCons (dC (.str "below")) (dCons (dC (.str "outside")) (dCons (dC (.str "first")) dNil)))))) (gN 14) (dIfS (dNot (dTru (dCall 2 (f_u_law_same) (dCons (dCall 4 (f_u_law_told) (dCons (dVar 14) (dCons (dVar 4) (dCons (dVar 11) (dCons (dVar 8) dNil))))) (dCons (dTup (dCons (dC (.str "counts")) (dCons (dVar 3) dNil))) dNil))))) (dRet (dC (.bl false))) dNext))
    (dFor (dSeqI (dTup (dCons (dC (.str "least")) (dCons (dC (.str "below")) dNil)))) (gN 14) (dIfS (dNot (dTru (dCall 2 (f_u_law_same) (dCons (dCall 4 (f_u_law_told) (dCons (dVar 14) (dCons (dVar 4) (dCons (dVar 8) (dCons (dVar 11) dNil))))) (dCons (dTup (dCons (dC (.str "counts")) (dCons (dVar 3) dNil))) dNil))))) (dRet (dC (.bl false))) dNext)))))))
      [e0, some (.obj ac), e2, some (.int i), some (lotsV (twoL L)), e5, e6, e7, some (iv (L.map fun _ => 2)), e9, some (iv (L.map fun _ => u)), some w, e12, e13, e14] S).post k x := by
  have g2 := good_two g
  have h2 : twoL L ≠ [] := fun e => h (by unfold twoL at e; simpa using e)
  have hl2 : (twoL L).length ≤ 1000 := by unfold twoL; simpa using hl
  have f2 : Fit ((twoL L).map (·.2)) (L.map fun _ => 2) := by rw [two_sizes]; exact fit_const (by decide) (by decide)
  have fu : Fit ((twoL L).map (·.2)) (L.map fun _ => u) := by rw [two_sizes]; exact fit_const (by omega) (by omega)
  have weak : ∀ {b : Bool} {S' : Sto}, (if b = true then Askd ac l0 (l1 + 1) l2 l3 S' else Askd ac (l0 + 1) l1 l2 l3 S') → Askd ac l0 l1 l2 l3 S' := fun {b S'} q => by
    cases b
    · rw [if_neg (by decide)] at q; exact q.le (by omega) (by omega) (by omega) (by omega)
    · rw [if_pos rfl] at q; exact q.le (by omega) (by omega) (by omega) (by omega)
  refine seq_chk2 (fun S' => Pre S S') (fun S' => Mv [ac] S S' ∧ Askd ac l0 l1 l2 l3 S') ?_ ?_ ?_
  · simp only [post_seq, p_ret, p_asg, p_ex, p_op, p_un, p_cb, p_cons, p_nil, p_c, p_call, p_if, p_b, p_tru, p_not, p_and, p_or, p_tup, p_lst, p_next, p_sl, p_no, p_part, p_for, p_rng, p_seqI, post_endF, dVar, List.getElem?_cons_zero, List.getElem?_cons_succ, List.set_cons_zero, List.set_cons_succ, post_rt, List.length_cons, List.length_nil, Nat.zero_add, Nat.reduceAdd, true_and, on1, on2]
    exact a_least g2 h2 hl2 fu f2 fun S1 p1 => ⟨rfl, p1⟩
  · intro S1 p1
    simp only [post_seq, p_ret, p_asg, p_ex, p_op, p_un, p_cb, p_cons, p_nil, p_c, p_call, p_if, p_b, p_tru, p_not, p_and, p_or, p_tup, p_lst, p_next, p_sl, p_no, p_part, p_for, p_rng, p_seqI, post_endF, dVar, List.getElem?_cons_zero, List.getElem?_cons_succ, List.set_cons_zero, List.set_cons_succ, post_rt, List.length_cons, List.length_nil, Nat.zero_add, Nat.reduceAdd, true_and, on1, on2]
    exact a_below g2 h2 hl2 fu f2 (hA.pre p1) fun S2 m2 A2 => ⟨rfl, p1.mv.trans m2, weak A2⟩
  rintro S1 ⟨m1, A1⟩
  refine seq_chk (fun S' => Mv [ac] S S' ∧ Askd ac l0 l1 l2 l3 S') ?_ ?_
  · simp only [post_seq, p_ret, p_asg, p_ex, p_op, p_un, p_cb, p_cons, p_nil, p_c, p_call, p_if, p_b, p_tru, p_not, p_and, p_or, p_tup, p_lst, p_next, p_sl, p_no, p_part, p_for, p_rng, p_seqI, post_endF, dVar, List.getElem?_cons_zero, List.getElem?_cons_succ, List.set_cons_zero, List.set_cons_succ, post_rt, List.length_cons, List.length_nil, Nat.zero_add, Nat.reduceAdd, true_and, on1, on2]
    exact a_below g2 h2 hl2 f2 fu A1 fun S2 m2 A2 => ⟨rfl, m1.trans m2, weak A2⟩
  rintro S2 ⟨m2, A2⟩
  refine seq_chk (fun S' => Pre S2 S') ?_ ?_
  · rw [p_call, p_cons, p_call, p_cons, p_c, p_cons, p_var rfl, p_cons, p_var rfl, p_cons, p_c, p_nil]
    refine ⟨rfl, t_outside g2 h2 hl2 fu fun S3 p3 => ?_⟩
    rw [p_cons, p_tup, p_cons, p_c, p_cons]
    refine lc_pure (fun _ => .int (2 - u)) (items := (L.map fun _ => u).map W.int) (gd := fun _ => True) rfl (by simpa using hl) (fun _ _ => trivial) (fun c w S' hw _ => ?_) fun S' p => ?_
    · have : w = .int u := by
        rw [List.map_map, List.getElem?_map] at hw
        cases e : L[c]? with
        | none => rw [e] at hw; cases hw
        | some q => rw [e] at hw; cases hw; rfl
      subst this
      rfl
    · have e : W.tup ((List.range ((L.map fun _ => u).map W.int).length).map fun _ => W.int (2 - u)) = iv (restL ((twoL L).map (·.2)) (L.map fun _ => u)) := by
        rw [two_sizes]
        refine range_iv (by rw [(fit_const (L := L) (u := u) (s := 2) (by omega) (by omega)).rest.len]; simp) fun c z hz => ?_
        rw [rest_const] at hz
        rw [List.getElem?_map] at hz
        cases e : L[c]? with
        | none => rw [e] at hz; cases hz
        | some q => rw [e] at hz; cases hz; rfl
      rw [e, p_nil]
      refine ⟨by simp, ?_⟩
      rw [p_nil]
      refine ⟨rfl, post_of_eq (q_same (dp_told (dp_iv (by rw [fu.rest.len]; simpa using hl2)))) ⟨rfl, p3.trans p⟩⟩
  rintro S3 p3
  refine seq_chk (fun S' => Pre S3 S') ?_ ?_
  · rw [p_call, p_cons, p_call, p_cons, p_c, p_cons, p_var rfl, p_cons, p_var rfl, p_cons, p_c, p_nil]
    refine ⟨rfl, t_first g2 h2 hl2 fu fun S4 p4 => ?_⟩
    rw [p_cons, p_tup, p_cons, p_c, p_cons]
    refine lc_pure (fun _ => spanV u) (items := (L.map fun _ => u).map W.int) (gd := fun _ => True) rfl (by simpa using hl) (fun _ _ => trivial) (fun c w S' hw _ => ?_) fun S' p => ?_
    · have : w = .int u := by
        rw [List.map_map, List.getElem?_map] at hw
        cases e : L[c]? with
        | none => rw [e] at hw; cases hw
        | some q => rw [e] at hw; cases hw; rfl
      subst this
      rcases hu with rfl | rfl <;> rfl
    · have e : W.tup ((List.range ((L.map fun _ => u).map W.int).length).map fun _ => spanV u) = .tup ((L.map fun _ => u).map spanV) := by
        congr 1
        simp only [List.length_map, List.map_map]
        apply List.ext_getElem?
        intro c
        rw [List.getElem?_map, List.getElem?_map]
        by_cases hc : c < L.length
        · rw [List.getElem?_range hc, List.getElem?_eq_getElem hc]
          rfl
        · rw [List.getElem?_eq_none (by simpa using hc), List.getElem?_eq_none (by omega)]
          rfl
      rw [e, p_nil]
      refine ⟨by simp, ?_⟩
      rw [p_nil]
      refine ⟨rfl, post_of_eq (q_same (dp_spans (by simpa using hl))) ⟨rfl, p4.trans p⟩⟩
  rintro S4 p4
  have p24 := p3.trans p4
  refine seq_for (items := (["least", "below", "outside", "first"] : List Str).map W.str) (gd := fun _ => True) (fun S' => S4 = S') ?_ ?_
  · simp only [post_seq, p_ret, p_asg, p_ex, p_op, p_un, p_cb, p_cons, p_nil, p_c, p_call, p_if, p_b, p_tru, p_not, p_and, p_or, p_tup, p_lst, p_next, p_sl, p_no, p_part, p_for, p_rng, p_seqI, post_endF, dVar, List.getElem?_cons_zero, List.getElem?_cons_succ, List.set_cons_zero, List.set_cons_succ, post_rt, List.length_cons, List.length_nil, Nat.zero_add, Nat.reduceAdd, true_and, on1, on2]
    exact ⟨by decide, (post_rt (x := fun _ _ _ => False)).mpr ⟨rfl, rfl⟩⟩
  rintro _ rfl
  have m4 : Mv [ac] S S4 := m2.trans p24.mv
  refine loop_bad1 (fun z hz => hz) g2 h2 hl2 (fun S' p => ha S' (.inr (m4.trans p.mv))) hc fun y S5 p5 => ?_
  show ((dFor _ _ _) _ S5).post _ _
  rw [p_for]
  simp only [post_seq, p_ret, p_asg, p_ex, p_op, p_un, p_cb, p_cons, p_nil, p_c, p_call, p_if, p_b, p_tru, p_not, p_and, p_or, p_tup, p_lst, p_next, p_sl, p_no, p_part, p_for, p_rng, p_seqI, post_endF, dVar, List.getElem?_cons_zero, List.getElem?_cons_succ, List.set_cons_zero, List.set_cons_succ, post_rt, List.length_cons, List.length_nil, Nat.zero_add, Nat.reduceAdd, true_and, on1, on2]
  refine ⟨by decide, ?_⟩
  refine post_of_eq (w := ((["least", "below"] : List Str).map W.str, fun _ => True)) (S := S5) rfl ?_
  refine loop_bad2 (fun z hz => hz) g2 h2 hl2 f2 (fun S' p => ha S' (.inr ((m4.trans p5.mv).trans p.mv))) hc fun y S6 p6 => ?_
  exact hk _ _ ((m4.trans p5.mv).trans p6.mv) (A2.pre (p24.trans (p5.trans p6)))
end
end MP

set_option Elab.async false
set_option linter.all false
set_option maxRecDepth 100000
set_option maxHeartbeats 4000000
namespace MP
open PySem PySem.Spec PyProof.Rows L2 GxR Gx He
theorem ty_set {S : Sto} {o : List Int} {c : Nat} {w : W} (h : Ty S w) : Ty1 S (.tup ((o.map W.int).set c w)) := by
  refine ⟨rfl, fun l e x hx => ?_⟩
  cases e
  rcases List.mem_or_eq_of_mem_set hx with q | q
  · obtain ⟨z, _, rfl⟩ := List.mem_map.mp q
    rfl
  · rw [q]; exact h
theorem lots_it {L : List (Str × Int)} {ρ : En} {S : Sto} {i : Nat} (h : ρ[i]? = some (some (lotsV L))) : dSeqI (dVar i) ρ S = .ok (L.map lotW, fun _ => True) S := by
  simp [dRet, dAndV, dOrV, dNotV, dUn, dOp, dVar, dC, dB, dAnd, dOr, dNot, dTru, dCons, dNil, dTup, dCall, dCB, dIfS, dSeq, dAsg, dEx, dNext, dBrk, dCnt, dRetN, dIf, gN, dSl, dPart, dNoPart, dChain, bd, rt, endF, wB, wI, on1, on2, stuck, wTru, dSeqI, h, seqOrStr, lotsV, seqOf]
section
variable {S : Sto} {L : List (Str × Int)} {tp gr ac : Nat} {l0 l1 l2 l3 : Int}
theorem d_at {ρ : En} {i j : Nat} (ht : Tape tp gr S) (h : L ≠ []) (hl : L.length ≤ 8) (hi : ρ[i]? = some (some (.obj tp))) (hj : ρ[j]? = some (some (lotsV L))) {x : Str → Nat → Sto → Prop} :
    (dCall 2 (f_u_law_draw) (dCons (dVar i) (dCons (dCB (on1 wLen) (dCons (dVar j) dNil)) dNil)) ρ S).post (fun w S' => (∃ c : Nat, w = .int c ∧ c < L.length) ∧ Tape tp gr S' ∧ Mv [tp, gr] S S') x := by
  have lpos : 0 < L.length := List.length_pos_iff.mpr h
  rw [p_call, p_cons, p_var hi, p_cons, p_cb, p_cons, p_var hj, p_nil]
  refine post_of_eq (w := .int (L.map lotW).length) (S := S) rfl ?_
  rw [p_nil, List.length_map]
  refine ⟨rfl, (d_draw ht (by omega) (by omega)).imp fun w S4 hv t4 m4 => ?_⟩
  obtain ⟨r, rfl, r0, r1⟩ := hv
  exact ⟨⟨r.toNat, by congr 1; omega, by omega⟩, t4, m4⟩
theorem d_between (ht : Tape tp gr S) (hA : Askd ac l0 l1 l2 l3 S) (n1 : ac ≠ tp) (n2 : ac ≠ gr) (g : Good L) (h : L ≠ []) (hl : L.length ≤ 8) :
    (f_u_law_between [.obj tp, .obj ac, lotsV L] S).post (fun w S' => w = .bl true ∧ Tape tp gr S' ∧ Askd ac l0 l1 l2 l3 S' ∧ Mv [tp, gr, ac] S S') fun _ _ _ => False := by
  have hl' : L.length ≤ 1000 := by omega
  rw [run_u_law_between]
  unfold d_u_law_between
  rw [post_endF]
  refine seq_asg (fun w S' => (∃ c : Nat, w = .int c ∧ c < L.length) ∧ Tape tp gr S' ∧ Mv [tp, gr] S S') (d_at ht h hl rfl rfl) ?_
  rintro _ S1 ⟨⟨c, rfl, hc⟩, t1, m1⟩
  refine seq_asg (fun w S' => w = lotsV (twoL L) ∧ Pre S1 S') ?_ ?_
  · refine lc_pure (fun d => lotW (((L[d]?).getD ("", 0)).1, 2)) (items := L.map lotW) (gd := fun _ => True) (lots_it rfl) (by simpa using hl') (fun _ _ => trivial) (fun d w S' hw _ => ?_) fun S' p => ⟨?_, p⟩
    · rw [List.getElem?_map] at hw
      cases e : L[d]? with
      | none => rw [e] at hw; cases hw
      | some q =>
        rw [e] at hw
        cases hw
        simp [dRet, dAndV, dOrV, dNotV, dUn, dOp, dVar, dC, dB, dAnd, dOr, dNot, dTru, dCons, dNil, dTup, dCall, dCB, dIfS, dSeq, dAsg, dEx, dNext, dBrk, dCnt, dRetN, dIf, gN, dSl, dPart, dNoPart, dChain, bd, rt, endF, wB, wI, on1, on2, stuck, wTru, wipeW, wIx, lotW, atI_0]
    · unfold lotsV twoL
      congr 1
      rw [List.length_map, List.map_map]
      apply List.ext_getElem?
      intro d
      rw [List.getElem?_map, List.getElem?_map]
      by_cases hd : d < L.length
      · rw [List.getElem?_range hd, List.getElem?_eq_getElem hd, Option.map_some, Option.map_some, List.getElem?_eq_getElem hd]
        rfl
      · rw [List.getElem?_eq_none (by simpa using hd), List.getElem?_eq_none (by omega)]
        rfl
  rintro _ S2 ⟨rfl, p2⟩
  refine seq_asg (fun w S' => w = iv (L.map fun _ => 1) ∧ Pre S2 S') (lc_const (lots_it rfl) hl') ?_
  rintro _ S3 ⟨rfl, p3⟩
  refine seq_asg (fun w S' => w = iv (L.map fun _ => 0) ∧ Pre S3 S') (lc_const (lots_it rfl) hl') ?_
  rintro _ S4 ⟨rfl, p4⟩
  refine seq_asg (fun w S' => w = iv (L.map fun _ => 2) ∧ Pre S4 S') (lc_const (lots_it rfl) hl') ?_
  rintro _ S5 ⟨rfl, p5⟩
  have pp := p2.trans (p3.trans (p4.trans p5))
  have t5 := t1.pre pp
  have A5 := (hA.mv m1 (by simp [n1, n2])).pre pp
  have m5 : Mv [tp, gr, ac] S S5 := (m1.mono (js := [tp, gr, ac]) (by simp +contextual)).trans pp.mv
  refine seq_for (items := ([(1, true), (0, false)] : List (Int × Bool)).map fun q => W.tup [iv (L.map fun _ => q.1), .bl q.2]) (gd := fun _ => True) (fun S' => S5 = S') ?_ ?_
  · simp only [post_seq, p_ret, p_asg, p_ex, p_op, p_un, p_cb, p_cons, p_nil, p_c, p_call, p_if, p_b, p_tru, p_not, p_and, p_or, p_tup, p_lst, p_next, p_sl, p_no, p_part, p_for, p_rng, p_seqI, post_endF, dVar, List.getElem?_cons_zero, List.getElem?_cons_succ, List.set_cons_zero, List.set_cons_succ, post_rt, List.length_cons, List.length_nil, Nat.zero_add, Nat.reduceAdd, true_and, on1, on2]
    exact ⟨by decide, by decide, by decide, (post_rt (x := fun _ _ _ => False)).mpr ⟨rfl, rfl⟩⟩
  rintro _ rfl
  refine forD_post (fun items ρ S' => ∃ (Q : List (Int × Bool)) (y9 y10 y11 y12 y13 y14 : Option W), items = Q.map (fun q => W.tup [iv (L.map fun _ => q.1), .bl q.2]) ∧ (∀ q ∈ Q, q.1 = 0 ∨ q.1 = 1) ∧
    ρ = [some (.obj tp), some (.obj ac), some (lotsV L), some (.int c), some (lotsV (twoL L)), none, some (iv (L.map fun _ => 1)), some (iv (L.map fun _ => 0)), some (iv (L.map fun _ => 2)), y9, y10, y11, y12, y13, y14] ∧ Mv [ac] S5 S' ∧ Askd ac l0 l1 l2 l3 S') ?_ ?_ _ _ _
    ⟨[(1, true), (0, false)], none, none, none, none, none, none, rfl, by simp, rfl, Mv.refl, A5⟩
  · rintro w ws ρ S' ⟨Q, y9, y10, y11, y12, y13, y14, hi, hQ, rfl, m6, A6⟩
    refine ⟨trivial, ?_⟩
    cases Q with
    | nil => cases hi
    | cons q Q =>
      simp only [List.map_cons, List.cons.injEq] at hi
      obtain ⟨rfl, rfl⟩ := hi
      have hq := hQ q (by simp)
      refine post_of_eq (w := [some (.obj tp), some (.obj ac), some (lotsV L), some (.int c), some (lotsV (twoL L)), none, some (iv (L.map fun _ => 1)), some (iv (L.map fun _ => 0)), some (iv (L.map fun _ => 2)), some (W.tup [iv (L.map fun _ => q.1), .bl q.2]), y10, y11, y12, y13, y14]) (S := S') rfl ?_
      refine seq_asg (fun w S2 => w = iv (L.map fun _ => q.1) ∧ S' = S2) (post_of_eq (w := iv (L.map fun _ => q.1)) (S := S') (by simp [dRet, dAndV, dOrV, dNotV, dUn, dOp, dVar, dC, dB, dAnd, dOr, dNot, dTru, dCons, dNil, dTup, dCall, dCB, dIfS, dSeq, dAsg, dEx, dNext, dBrk, dCnt, dRetN, dIf, gN, dSl, dPart, dNoPart, dChain, bd, rt, endF, wB, wI, on1, on2, stuck, wTru, wIx, atI_0]) ⟨rfl, rfl⟩) ?_
      rintro _ _ ⟨rfl, rfl⟩
      refine seq_asg (fun w S2 => w = .tup (((L.map fun _ => q.1).map W.int).set c (.bl q.2)) ∧ S' = S2) ?_ ?_
      · rw [p_call, p_cons, p_var rfl, p_cons, p_var rfl, p_cons, p_op, p_var rfl, p_c]
        refine post_of_eq (w := .bl q.2) (S := S') (by simp [dRet, dAndV, dOrV, dNotV, dUn, dOp, dVar, dC, dB, dAnd, dOr, dNot, dTru, dCons, dNil, dTup, dCall, dCB, dIfS, dSeq, dAsg, dEx, dNext, dBrk, dCnt, dRetN, dIf, gN, dSl, dPart, dNoPart, dChain, bd, rt, endF, wB, wI, on1, on2, stuck, wTru, wIx, atI_1]) ?_
        rw [p_nil]
        exact ⟨rfl, s_with (by simpa using hc) (by simpa using hl') ⟨rfl, rfl⟩⟩
      rintro _ _ ⟨rfl, rfl⟩
      have hcf : cfault ((twoL L).map (·.2)) (.tup (((L.map fun _ => q.1).map W.int).set c (.bl q.2))) = some (c : Int) := by
        obtain ⟨s, es⟩ := get_of (show c < ((twoL L).map (·.2)).length by unfold twoL; simpa using hc)
        exact cf_set (by rw [two_sizes]; exact fit_const (by omega) (by omega)) es rfl
      rw [p_for]
      refine post_of_eq (w := (rngW 0 2, fun _ => True)) (S := S') rfl ?_
      refine forD_post (fun items ρ S2 => ∃ (y12 y13 y14 : Option W), ρ = [some (.obj tp), some (.obj ac), some (lotsV L), some (.int c), some (lotsV (twoL L)), none, some (iv (L.map fun _ => 1)), some (iv (L.map fun _ => 0)), some (iv (L.map fun _ => 2)), some (W.tup [iv (L.map fun _ => q.1), .bl q.2]), some (iv (L.map fun _ => q.1)), some (.tup (((L.map fun _ => q.1).map W.int).set c (.bl q.2))), y12, y13, y14] ∧ Mv [ac] S5 S2 ∧ Askd ac l0 l1 l2 l3 S2) ?_ ?_ _ _ _
        ⟨y12, y13, y14, rfl, m6, A6⟩
      · rintro w us ρ S2 ⟨y12, y13, y14, rfl, m7, A7⟩
        refine ⟨trivial, ?_⟩
        refine post_of_eq (w := [some (.obj tp), some (.obj ac), some (lotsV L), some (.int c), some (lotsV (twoL L)), none, some (iv (L.map fun _ => 1)), some (iv (L.map fun _ => 0)), some (iv (L.map fun _ => 2)), some (W.tup [iv (L.map fun _ => q.1), .bl q.2]), some (iv (L.map fun _ => q.1)), some (.tup (((L.map fun _ => q.1).map W.int).set c (.bl q.2))), some w, y13, y14]) (S := S2) rfl ?_
        refine between_in g h hl' hq (fun S' _ => ty_set rfl) hcf A7 fun y S3 m8 A8 => ?_
        exact ⟨_, _, _, rfl, m7.trans m8, A8⟩
      · rintro ρ S2 ⟨y12, y13, y14, rfl, m7, A7⟩
        exact ⟨trivial, Q, _, _, _, _, _, _, rfl, fun r hr => hQ r (by simp [hr]), rfl, m7, A7⟩
  · rintro ρ S' ⟨Q, y9, y10, y11, y12, y13, y14, hi, hQ, rfl, m6, A6⟩
    refine ⟨trivial, ?_⟩
    have e : ∀ ρ : En, dRet (dC (.bl true)) ρ S' = .ok (.rtn (.bl true)) S' := fun _ => rfl
    refine post_of_eq (e _) ?_
    exact ⟨rfl, t5.mv m6 (by simp; omega) (by simp; omega), A6, m5.trans (m6.mono (js := [tp, gr, ac]) (by simp +contextual))⟩
end
end MP

set_option Elab.async false
set_option linter.all false
set_option maxRecDepth 100000
set_option maxHeartbeats 4000000
namespace MP
open PySem PySem.Spec PyProof.Rows L2 GxR Gx He
theorem fit_of : ∀ {sz a : List Int}, a.length = sz.length → (∀ (d : Nat) (s u : Int), sz[d]? = some s → a[d]? = some u → 0 ≤ u ∧ u ≤ s) → Fit sz a
  | [], [], _, _ => .nil
  | s :: sz, u :: a, hl, h => .cons (h 0 s u rfl rfl).1 (h 0 s u rfl rfl).2 (fit_of (by simpa using hl) fun d t v h1 h2 => h (d + 1) t v (by simpa using h1) (by simpa using h2))
/-- tuple([a draw for i in it]) -/
theorem lc_draw {it : DI} {i : Nat} {d : DE} {vs : List Nat} {ρ : En} {S : Sto} {tp gr : Nat} {items : List W} {gd : Sto → Prop} {hi : Nat → Int} {x : Str → Nat → Sto → Prop} (ht : Tape tp gr S)
    (hit : it ρ S = .ok (items, gd) S) (hlen : items.length ≤ 1000) (hgd : ∀ S', gd S')
    (hstep : ∀ c w S', items[c]? = some w → Tape tp gr S' → (d ((wipeW ρ vs).set i (some w)) S').post (fun y S2 => InR 0 (hi c) y ∧ Tape tp gr S2 ∧ Mv [tp, gr] S' S2) fun _ _ _ => False) :
    (dCB (on1 wTupOf) (dCons (dLc it (gN i) dYes d vs) dNil) ρ S).post (fun w S' => (∃ a : List Int, w = iv a ∧ a.length = items.length ∧ ∀ d u, a[d]? = some u → 0 ≤ u ∧ u ≤ hi d) ∧ Tape tp gr S' ∧ Mv [tp, gr] S S') x := by
  have lt := ht.lt
  refine lc_tup (fun c acc S' => (∃ a : List Int, acc = a.map W.int ∧ a.length = c ∧ ∀ d u, a[d]? = some u → 0 ≤ u ∧ u ≤ hi d) ∧ Tape tp gr S' ∧ Mv [tp, gr] S S') hit hlen
    ⟨⟨[], rfl, rfl, by simp⟩, ht.pre ⟨_, rfl⟩, Pre.mv ⟨_, rfl⟩⟩ (fun c acc S' o h => ⟨h.1, h.2.1.set (by omega) (by omega), h.2.2.setN (Nat.le_refl _)⟩) (fun _ _ S' _ => hgd S') (fun c w acc S' hw h => ?_) fun acc S' h => ?_
  · obtain ⟨⟨a, rfl, hl, hb⟩, t1, m1⟩ := h
    refine post_imp (hstep c w S' hw t1) (fun y S2 q => ?_) fun _ _ _ z => z
    obtain ⟨⟨r, rfl, r0, r1⟩, t2, m2⟩ := q
    refine ⟨⟨⟨a ++ [r], by simp, by simp [hl], fun d u hd => ?_⟩, t2, m1.trans m2⟩, fun o ho => m2.2 _ _ (by simp; omega) ho⟩
    by_cases hdl : d < a.length
    · rw [List.getElem?_append_left hdl] at hd
      exact hb d u hd
    · rw [List.getElem?_append_right (by omega)] at hd
      by_cases e : d = a.length
      · subst e
        rw [Nat.sub_self] at hd
        cases hd
        rw [hl]
        exact ⟨r0, r1⟩
      · rw [List.getElem?_eq_none (by simp; omega)] at hd
        cases hd
  · obtain ⟨⟨a, rfl, hl, hb⟩, t1, m1⟩ := h
    exact ⟨⟨a, rfl, hl, hb⟩, t1, m1⟩
section
variable {S : Sto} {L : List (Str × Int)} {a : List Int} {tp gr : Nat}
/-- one = tuple([_law_upto(tape, lot[1]) for lot in lots]) -/
theorem d_one {ρ : En} {jt jl i : Nat} (ht : Tape tp gr S) (g : Good L) (hl : L.length ≤ 8) (h1 : ρ[jt]? = some (some (.obj tp))) (h2 : ρ[jl]? = some (some (lotsV L))) (hi : i < ρ.length) (hne : jt ≠ i) {x : Str → Nat → Sto → Prop} :
    (dCB (on1 wTupOf) (dCons (dLc (dSeqI (dVar jl)) (gN i) dYes (dCall 2 (f_u_law_upto) (dCons (dVar jt) (dCons (dOp wIx (dVar i) (dC (.int 1))) dNil))) [i]) dNil) ρ S).post (fun w S' => (∃ a, w = iv a ∧ Fit (L.map (·.2)) a) ∧ Tape tp gr S' ∧ Mv [tp, gr] S S') x := by
  refine post_imp (lc_draw (x := x) (hi := fun c => ((L.map (·.2))[c]?).getD 0) ht (lots_it h2) (by simp; omega) (fun _ => trivial) fun c w S' hw t1 => ?_) (fun w S' q => ?_) fun _ _ _ z => z
  · rw [List.getElem?_map] at hw
    cases e : L[c]? with
    | none => rw [e] at hw; cases hw
    | some p =>
      rw [e] at hw
      cases hw
      have gs := g.size p (List.mem_of_getElem? e)
      have v1 : ((wipeW ρ [i]).set i (some (lotW p)))[jt]? = some (some (.obj tp)) := by
        rw [List.getElem?_set_ne (Ne.symm hne)]
        show (ρ.set i none)[jt]? = _
        rw [List.getElem?_set_ne (Ne.symm hne)]
        exact h1
      have v2 : ((wipeW ρ [i]).set i (some (lotW p)))[i]? = some (some (lotW p)) := by
        rw [List.getElem?_set_self (by show i < (ρ.set i none).length; simpa using hi)]
      rw [p_call, p_cons, p_var v1, p_cons, p_op, p_var v2, p_c]
      refine post_of_eq (w := .int p.2) (S := S') (by simp [dRet, dAndV, dOrV, dNotV, dUn, dOp, dVar, dC, dB, dAnd, dOr, dNot, dTru, dCons, dNil, dTup, dCall, dCB, dIfS, dSeq, dAsg, dEx, dNext, dBrk, dCnt, dRetN, dIf, gN, dSl, dPart, dNoPart, dChain, bd, rt, endF, wB, wI, on1, on2, stuck, wTru, wIx, lotW, atI_1]) ?_
      rw [p_nil]
      refine ⟨rfl, (d_upto t1 (by omega) gs.2).imp fun w S2 hv t2 m2 => ⟨?_, t2, m2⟩⟩
      have : ((L.map (·.2))[c]?).getD 0 = p.2 := by rw [List.getElem?_map, e]; rfl
      rw [this]
      exact hv
  · obtain ⟨⟨a, rfl, hlen, hb⟩, t, m⟩ := q
    refine ⟨⟨a, rfl, fit_of (by simpa using hlen) fun d s u h1 h2 => ?_⟩, t, m⟩
    have := hb d u h2
    rw [h1] at this
    exact this
end
end MP

set_option Elab.async false
set_option linter.all false
set_option maxRecDepth 100000
set_option maxHeartbeats 4000000
namespace MP
open PySem PySem.Spec PyProof.Rows L2 GxR Gx He
section
variable {S : Sto} {L : List (Str × Int)} {a : List Int} {tp gr : Nat}
/-- two = tuple([_law_second(tape, lots[at][1], one[at]) for at in range(len(lots))]) -/
theorem d_two {ρ : En} {jt jl jo i : Nat} (ht : Tape tp gr S) (g : Good L) (hl : L.length ≤ 8) (fa : Fit (L.map (·.2)) a) (h1 : ρ[jt]? = some (some (.obj tp))) (h2 : ρ[jl]? = some (some (lotsV L))) (h3 : ρ[jo]? = some (some (iv a))) (hi : i < ρ.length) (n1 : jt ≠ i) (n2 : jl ≠ i) (n3 : jo ≠ i) {x : Str → Nat → Sto → Prop} :
    (dCB (on1 wTupOf) (dCons (dLc (dRng1 (dCons (dCB (on1 wLen) (dCons (dVar jl) dNil)) dNil)) (gN i) dYes (dCall 3 (f_u_law_second) (dCons (dVar jt) (dCons (dOp wIx (dOp wIx (dVar jl) (dVar i)) (dC (.int 1))) (dCons (dOp wIx (dVar jo) (dVar i)) dNil)))) [i]) dNil) ρ S).post (fun w S' => (∃ b, w = iv b ∧ Fit (L.map (·.2)) b) ∧ Tape tp gr S' ∧ Mv [tp, gr] S S') x := by
  have hit := rng_it (ρ := ρ) (S := S) (d := dVar jl) (l := L.map lotW) (by simp [dRet, dAndV, dOrV, dNotV, dUn, dOp, dVar, dC, dB, dAnd, dOr, dNot, dTru, dCons, dNil, dTup, dCall, dCB, dIfS, dSeq, dAsg, dEx, dNext, dBrk, dCnt, dRetN, dIf, gN, dSl, dPart, dNoPart, dChain, bd, rt, endF, wB, wI, on1, on2, stuck, wTru, h2, lotsV]) (by simp; omega)
  rw [List.length_map] at hit
  refine post_imp (lc_draw (x := x) (hi := fun c => ((L.map (·.2))[c]?).getD 0) ht hit (by rw [rng_len]; omega) (fun _ => trivial) fun c w S' hw t1 => ?_) (fun w S' q => ?_) fun _ _ _ z => z
  · obtain ⟨hc, rfl⟩ := rng_at hw
    obtain ⟨p, e⟩ := get_of hc
    obtain ⟨u, e2⟩ := get_of (show c < a.length by rw [fa.len]; simpa using hc)
    have es : (L.map (·.2))[c]? = some p.2 := by rw [List.getElem?_map, e]; rfl
    have gs := g.size p (List.mem_of_getElem? e)
    have hu := fa.get es e2
    have keep : ∀ {j : Nat} {o : Option W}, ρ[j]? = some o → j ≠ i → ((wipeW ρ [i]).set i (some (.int (c : Int))))[j]? = some o := fun {j o} h hn => by
      rw [List.getElem?_set_ne (Ne.symm hn)]
      show (ρ.set i none)[j]? = _
      rw [List.getElem?_set_ne (Ne.symm hn)]
      exact h
    have v : ((wipeW ρ [i]).set i (some (.int (c : Int))))[i]? = some (some (.int (c : Int))) := by
      rw [List.getElem?_set_self (by show i < (ρ.set i none).length; simpa using hi)]
    rw [p_call, p_cons, p_var (keep h1 n1), p_cons, p_op, p_op, p_var (keep h2 n2), p_var v, wIx_lots e, post_rt, p_c]
    refine post_of_eq (w := .int p.2) (S := S') (by simp [dRet, dAndV, dOrV, dNotV, dUn, dOp, dVar, dC, dB, dAnd, dOr, dNot, dTru, dCons, dNil, dTup, dCall, dCB, dIfS, dSeq, dAsg, dEx, dNext, dBrk, dCnt, dRetN, dIf, gN, dSl, dPart, dNoPart, dChain, bd, rt, endF, wB, wI, on1, on2, stuck, wTru, wIx, lotW, atI_1]) ?_
    rw [p_cons, p_op, p_var (keep h3 n3), p_var v, wIx_iv e2, post_rt, p_nil]
    refine ⟨rfl, (d_second t1 hu.1 hu.2 gs.2).imp fun w S2 hv t2 m2 => ⟨?_, t2, m2⟩⟩
    rw [es]
    exact hv
  · obtain ⟨⟨b, rfl, hlen, hb⟩, t, m⟩ := q
    refine ⟨⟨b, rfl, fit_of (by rw [hlen, rng_len]; simp) fun d s u h1 h2 => ?_⟩, t, m⟩
    have := hb d u h2
    rw [h1] at this
    exact this
end
end MP

set_option Elab.async false
set_option linter.all false
set_option maxRecDepth 100000
set_option maxHeartbeats 4000000
namespace MP
open PySem PySem.Spec PyProof.Rows L2 GxR Gx He
def SmallOk : Prop := ∀ {S : Sto} {L : List (Str × Int)} {tp gr ac : Nat} {l0 l1 l2 l3 : Int}, Tape tp gr S → Askd ac l0 l1 l2 l3 S → ac ≠ tp → ac ≠ gr → Good L → L ≠ [] → L.length ≤ 8 →
  (f_u_law_small [.obj tp, .obj ac, lotsV L] S).post (fun w S' => w = .bl true ∧ Tape tp gr S' ∧ Askd ac l0 l1 (l2 + 1) l3 S' ∧ Mv [tp, gr, ac] S S') fun _ _ _ => False
def DoorsOk : Prop := ∀ {S : Sto} {L : List (Str × Int)} {a : List Int} {tp gr ac : Nat} {l0 l1 l2 l3 : Int}, Tape tp gr S → Askd ac l0 l1 l2 l3 S → ac ≠ tp → ac ≠ gr → Good L → L ≠ [] → L.length ≤ 8 → Fit (L.map (·.2)) a →
  (f_u_law_doors [.obj tp, .obj ac, lotsV L, iv a] S).post (fun w S' => w = .bl true ∧ Tape tp gr S' ∧ Askd ac l0 l1 l2 (l3 + 1) S' ∧ Mv [tp, gr, ac] S S') fun _ _ _ => False
theorem min4 {n0 n1 n2 n3 : Int} (h0 : 1 ≤ n0) (h1 : 1 ≤ n1) (h2 : 1 ≤ n2) (h3 : 1 ≤ n3) : ∃ m, [n0, n1, n2, n3].min? = some m ∧ 1 ≤ m := by
  refine ⟨min (min (min n0 n1) n2) n3, rfl, by omega⟩
theorem q_minL {S : Sto} {ac : Nat} (h : Askd ac 1 1 1 1 S) : ∃ m, wMinL (.obj ac) S = .ok (.int m) S ∧ 1 ≤ m := by
  obtain ⟨n0, n1, n2, n3, e, r0, r1, r2, r3⟩ := h
  obtain ⟨m, hm, h1⟩ := min4 r0 r1 r2 r3
  refine ⟨m, ?_, h1⟩
  have : (intsW [W.int n0, .int n1, .int n2, .int n3]).bind List.min? = some m := by
    have q := intsW_map [n0, n1, n2, n3]
    simp only [List.map_cons, List.map_nil] at q
    rw [q]
    exact hm
  unfold wMinL
  simp only [e, this]
theorem d_law_of (hs : SmallOk) (hd : DoorsOk) {S : Sto} {sc : W} {ns : List Int} {gd : Sto → Prop} (hn : ns.length ≤ 63) (h1 : seqOrStr sc S = .ok (ns.map W.int, gd) S) (h2 : ∀ S', Pre S S' → gd S') (h3 : ∀ S', Pre S S' → seqOrStr sc S' = .ok (ns.map W.int, gd) S') :
    (f_law [sc] S).post (fun w _ => w = .bl true) fun _ _ _ => False := by
  rw [run_law]
  unfold d_law
  rw [post_endF]
  refine seq_asg (fun w S' => (∃ tp gr, w = .obj tp ∧ Tape tp gr S' ∧ S.length ≤ tp ∧ S.length ≤ gr) ∧ Pre S S') ?_ ?_
  · rw [p_call, p_cons, p_var rfl, p_nil]
    exact ⟨rfl, s_tape hn h1 h2 h3⟩
  rintro _ S1 ⟨⟨tp, gr, rfl, t1, _, _⟩, p1⟩
  have lt1 := t1.lt
  refine seq_asg (fun w S' => w = .obj S1.length ∧ S1 ++ [.lst [.int 0, .int 0, .int 0, .int 0]] = S') (post_of_eq (w := .obj S1.length) (S := S1 ++ [.lst [.int 0, .int 0, .int 0, .int 0]]) (by simp [dRet, dAndV, dOrV, dNotV, dUn, dOp, dVar, dC, dB, dAnd, dOr, dNot, dTru, dCons, dNil, dTup, dCall, dCB, dIfS, dSeq, dAsg, dEx, dNext, dBrk, dCnt, dRetN, dIf, gN, dSl, dPart, dNoPart, dChain, bd, rt, endF, wB, wI, on1, on2, stuck, wTru, dLst, mk]) ⟨rfl, rfl⟩) ?_
  rintro _ _ ⟨rfl, rfl⟩
  obtain ⟨ac, hac⟩ : ∃ ac, S1.length = ac := ⟨_, rfl⟩
  have A2 : Askd ac 0 0 0 0 (S1 ++ [.lst [.int 0, .int 0, .int 0, .int 0]]) := ⟨0, 0, 0, 0, by rw [← hac]; simp, by decide, by decide, by decide, by decide⟩
  have t2 := t1.pre (S' := S1 ++ [.lst [.int 0, .int 0, .int 0, .int 0]]) ⟨_, rfl⟩
  obtain ⟨S2, hS2⟩ : ∃ S2, S1 ++ [SO.lst [.int 0, .int 0, .int 0, .int 0]] = S2 := ⟨_, rfl⟩
  rw [hS2] at A2 t2 ⊢
  rw [hac]
  have n1 : ac ≠ tp := by omega
  have n2 : ac ≠ gr := by omega
  refine seq_asg (fun w S' => (∃ L, w = lotsV L ∧ Good L ∧ L ≠ [] ∧ L.length ≤ 8) ∧ Tape tp gr S' ∧ Askd ac 0 0 0 0 S') ?_ ?_
  · rw [p_call, p_cons, p_var rfl, p_cons, p_op, p_c, p_call, p_cons, p_var rfl, p_cons, p_c, p_nil]
    refine ⟨rfl, (d_draw t2 (by decide) (by decide)).imp fun w S3 hv t3 m3 => ?_⟩
    obtain ⟨r, rfl, r0, r1⟩ := hv
    obtain ⟨m, hm⟩ : ∃ m : Nat, 1 + r = m := ⟨(1 + r).toNat, by omega⟩
    rw [q_add, p_nil, hm]
    refine ⟨rfl, (d_lots t3 (by omega)).imp fun w S4 hv t4 m4 => ?_⟩
    obtain ⟨L, rfl, g, hl⟩ := hv
    exact ⟨⟨L, rfl, g, fun e => by rw [e] at hl; simp at hl; omega, by omega⟩, t4, A2.mv (m3.trans m4) (by simp [n1, n2])⟩
  rintro _ S3 ⟨⟨L, rfl, g, h, hl⟩, t3, A3⟩
  have hl' : L.length ≤ 1000 := by omega
  refine seq_asg (fun w S' => (∃ a, w = iv a ∧ Fit (L.map (·.2)) a) ∧ Tape tp gr S' ∧ Mv [tp, gr] S3 S') (d_one t3 g hl rfl rfl (by simp) (by decide)) ?_
  with_reducible rintro _ S4 ⟨⟨a, rfl, fa⟩, t4, m4⟩
  have A4 := A3.mv m4 (by simp [n1, n2])
  with_reducible refine no_implicit_lambda% (seq_asg (fun w S' => (∃ a, w = iv a ∧ Fit (L.map (·.2)) a) ∧ Tape tp gr S' ∧ Mv [tp, gr] S4 S') (d_two t4 g hl fa rfl rfl rfl (by simp) (by decide) (by decide) (by decide)) ?_)
  rintro _ S5 ⟨⟨b, rfl, fb⟩, t5, m5⟩
  have A5 := A4.mv m5 (by simp [n1, n2])
  refine seq_chk (fun S' => Tape tp gr S' ∧ Askd ac 1 1 0 0 S') ?_ ?_
  · rw [p_call, p_cons, p_var rfl, p_cons, p_var rfl, p_cons, p_var rfl, p_cons, p_var rfl, p_cons, p_var rfl, p_nil]
    exact ⟨rfl, post_imp (d_pair t5 A5 n1 n2 g h hl fa fb) (fun w S' q => ⟨q.1, q.2.1, q.2.2.1⟩) fun _ _ _ z => z⟩
  rintro S6 ⟨t6, A6⟩
  refine seq_chk2 (fun S' => Pre S6 S') (fun S' => Pre S6 S') ?_ ?_ ?_
  · rw [p_call, p_cons, p_var rfl, p_cons, p_var rfl, p_cons, p_var rfl, p_nil]
    exact ⟨rfl, d_first_last g h hl' fa fb⟩
  · intro S7 p7
    rw [p_call, p_cons, p_var rfl, p_cons, p_var rfl, p_cons, p_var rfl, p_nil]
    exact ⟨rfl, post_imp (d_first_last g h hl' fb fa) (fun w S' q => ⟨q.1, p7.trans q.2⟩) fun _ _ _ z => z⟩
  rintro S7 p7
  refine seq_chk (fun S' => Tape tp gr S' ∧ Askd ac 1 1 1 0 S') ?_ ?_
  · rw [p_call, p_cons, p_var rfl, p_cons, p_var rfl, p_cons, p_var rfl, p_nil]
    exact ⟨rfl, post_imp (hs (t6.pre p7) (A6.pre p7) n1 n2 g h hl) (fun w S' q => ⟨q.1, q.2.1, q.2.2.1⟩) fun _ _ _ z => z⟩
  rintro S8 ⟨t8, A8⟩
  refine seq_chk2 (fun S' => Tape tp gr S' ∧ Askd ac 1 1 1 1 S') (fun S' => Tape tp gr S' ∧ Askd ac 1 1 1 1 S') ?_ ?_ ?_
  · rw [p_call, p_cons, p_var rfl, p_cons, p_var rfl, p_cons, p_var rfl, p_cons, p_var rfl, p_nil]
    exact ⟨rfl, post_imp (hd t8 A8 n1 n2 g h hl fa) (fun w S' q => ⟨q.1, q.2.1, q.2.2.1⟩) fun _ _ _ z => z⟩
  · rintro S9 ⟨t9, A9⟩
    rw [p_call, p_cons, p_var rfl, p_cons, p_var rfl, p_cons, p_var rfl, p_nil]
    exact ⟨rfl, post_imp (d_between t9 A9 n1 n2 g h hl) (fun w S' q => ⟨q.1, q.2.1, q.2.2.1⟩) fun _ _ _ z => z⟩
  rintro S9 ⟨t9, A9⟩
  refine seq_chk (fun S' => Askd ac 1 1 1 1 S') ?_ ?_
  · rw [p_call, p_cons, p_var rfl, p_cons, p_var rfl, p_cons, p_var rfl, p_nil]
    exact ⟨rfl, a_least g h hl' fa fb fun S' p => ⟨rfl, A9.pre p⟩⟩
  rintro S10 A10
  obtain ⟨m, hm, hm1⟩ := q_minL A10
  rw [p_ret, p_op, p_cb, p_cons, p_var rfl, p_nil]
  refine post_of_eq (r := wMinL (.obj ac) S10) hm ?_
  rw [p_c, q_gt]
  have : decide ((0 : Int) < m) = true := by simp; omega
  rw [this]
end MP

set_option Elab.async false
set_option linter.all false
set_option maxRecDepth 100000
set_option maxHeartbeats 4000000
namespace MP
open PySem PySem.Spec PyProof.Rows L2 GxR Gx He
theorem pure1_of (hs : SmallOk) (hd : DoorsOk) : ∀ ns : List Int, ns.length ≤ 63 → (∀ z ∈ ns, Builtin.Int.intBits z ≤ 1048576) → (f_law [.obj 0] [.ro (ns.map W.int)]).post (fun w _ => w = .bl true) fun _ _ _ => False := by
  intro ns hn _
  have e : ∀ S' : Sto, S'[0]? = some (.ro (ns.map W.int)) → seqOrStr (.obj 0) S' = .ok (ns.map W.int, fun S' => S'[0]? = some (.ro (ns.map W.int))) S' := fun S' h => by
    unfold seqOrStr seqOf
    simp only [h]
  exact d_law_of hs hd hn (e _ rfl) (fun S' p => p.get rfl) fun S' p => e S' (p.get rfl)
theorem pure2_of (hs : SmallOk) (hd : DoorsOk) : ∀ ns : List Int, ns.length ≤ 63 → (∀ z ∈ ns, Builtin.Int.intBits z ≤ 1048576) → (f_law [.kl (ns.map W.int)] []).post (fun w _ => w = .bl true) fun _ _ _ => False := by
  intro ns hn _
  exact d_law_of (gd := fun _ => True) hs hd hn rfl (fun _ _ => trivial) fun _ _ => rfl
end MP

set_option Elab.async false
set_option linter.all false
set_option maxRecDepth 100000
set_option maxHeartbeats 4000000
namespace MP
open PySem PySem.Spec PyProof.Rows L2 GxR Gx He
/-- tuple([d for i in it]), where the list gone through is made by drawing -/
theorem lc_tupS {it : DI} {i : Nat} {d : DE} {vs : List Nat} {ρ : En} {S S1 : Sto} {items : List W} {gd : Sto → Prop} {k : W → Sto → Prop} {x : Str → Nat → Sto → Prop} (J : Nat → List W → Sto → Prop)
    (hit : it ρ S = .ok (items, gd) S1) (hlen : items.length ≤ 1000) (h0 : J 0 [] (S1 ++ [.lst []])) (hset : ∀ c acc S' o, J c acc S' → J c acc (S'.set S1.length o)) (hgd : ∀ c acc S', J c acc S' → gd S')
    (hstep : ∀ c w acc S', items[c]? = some w → J c acc S' → (d ((wipeW ρ vs).set i (some w)) S').post (fun y S2 => J (c + 1) (acc ++ [y]) S2 ∧ ∀ o, S'[S1.length]? = some o → S2[S1.length]? = some o) fun _ _ _ => False)
    (hk : ∀ acc S', J items.length acc S' → k (.tup acc) S') : (dCB (on1 wTupOf) (dCons (dLc it (gN i) dYes d vs) dNil) ρ S).post k x := by
  rw [p_cb, p_cons]
  unfold dLc
  rw [post_bd, hit, post_ok]
  refine lcD_post (fun its S' => ∃ c acc, its = items.drop c ∧ c ≤ items.length ∧ acc.length = c ∧ S'[S1.length]? = some (.lst acc) ∧ J c acc S') ?_ ?_ _ _ ⟨0, [], rfl, Nat.zero_le _, rfl, by simp, h0⟩
  · rintro w ws S' ⟨c, acc, hi, hc, ha, hn, hJ⟩
    refine ⟨hgd _ _ _ hJ, ?_⟩
    have hlt : c < items.length := by
      apply Classical.byContradiction
      intro e
      rw [List.drop_eq_nil_of_le (by omega)] at hi
      cases hi
    rw [List.drop_eq_getElem_cons hlt] at hi
    simp only [List.cons.injEq] at hi
    obtain ⟨rfl, rfl⟩ := hi
    unfold stepD
    rw [post_bd]
    refine noX_of ?_
    show (bd (noX (dYes _)) _ S').post _ _
    rw [post_bd]
    refine noX_of ?_
    show ((if true = true then _ else _ : M (Option W)) S').post _ _
    rw [if_pos rfl, post_bd]
    refine noX_of (post_imp (hstep c _ acc S' (List.getElem?_eq_getElem hlt) hJ) (fun y S2 ⟨q1, q2⟩ => ?_) fun _ _ _ z => z)
    have hn2 := q2 _ hn
    exact ⟨acc, hn2, by omega, c + 1, acc ++ [y], rfl, hlt, by simp; omega, set_eq hn2, hset _ _ _ _ q1⟩
  · rintro S' ⟨c, acc, hi, hc, ha, hn, hJ⟩
    refine ⟨hgd _ _ _ hJ, ?_⟩
    have hc' : c = items.length := by
      have := congrArg List.length hi
      rw [List.length_drop] at this
      simp at this
      omega
    subst hc'
    rw [p_nil]
    show (wTupOf (.obj S1.length) S').post _ _
    rw [q_tupO hn, post_ok]
    exact hk _ _ hJ
theorem post_ex {α : Type} {r : R α} {k : α → Sto → Prop} (h : r.post k fun _ _ _ => False) : ∃ w S', r = .ok w S' ∧ k w S' := by
  cases r with
  | stuck => unfold R.post at h; exact h.elim
  | ok a S' => rw [post_ok] at h; exact ⟨a, S', rfl, h⟩
  | exn c n S' => unfold R.post at h; exact h.elim
theorem cut_front {l : List W} {n : Nat} : cutW l none (some (n : Int)) = l.take n := by
  unfold cutW
  have h1 : HT.sIx l.length 0 none = 0 := rfl
  have h2 : HT.sIx l.length l.length (some (n : Int)) = min n l.length := by
    show (if (n : Int) < 0 then ((n : Int) + ((l.length : Nat) : Int)).toNat else min (n : Int).toNat l.length) = _
    rw [if_neg (by omega)]
    rfl
  show List.take (HT.sIx l.length l.length (some (n : Int)) - HT.sIx l.length 0 none) (List.drop (HT.sIx l.length 0 none) l) = _
  rw [h1, h2, Nat.sub_zero, List.drop_zero]
  by_cases c : n ≤ l.length
  · rw [Nat.min_eq_left c]
  · rw [Nat.min_eq_right (by omega), List.take_length, List.take_of_length_le (by omega)]
theorem Good.sized {L R : List (Str × Int)} (g : Good L) (h1 : R.map (·.1) = L.map (·.1)) (h2 : ∀ p ∈ R, 1 ≤ p.2 ∧ p.2 ≤ 1000000000000) : Good R := by
  refine ⟨fun p hp => ?_, h2, by rw [h1]; exact g.once⟩
  have : p.1 ∈ L.map (·.1) := by rw [← h1]; exact List.mem_map.mpr ⟨p, hp, rfl⟩
  obtain ⟨q, hq, e⟩ := List.mem_map.mp this
  rw [← e]
  exact g.word q hq
theorem Good.take {L : List (Str × Int)} (g : Good L) (n : Nat) : Good (L.take n) :=
  ⟨fun p hp => g.word p (List.mem_of_mem_take hp), fun p hp => g.size p (List.mem_of_mem_take hp), by rw [List.map_take]; exact g.once.sublist (List.take_sublist _ _)⟩
section
variable {S : Sto} {L : List (Str × Int)} {tp gr : Nat}
/-- one to three of the lots, with sizes up to five -/
def RoomOf (L : List (Str × Int)) (w : W) : Prop := ∃ R, w = lotsV R ∧ Good R ∧ R ≠ [] ∧ R.length ≤ 8 ∧ ∀ p ∈ R, p.2 ≤ 5
theorem d_room {ρ : En} {jt jl i : Nat} (ht : Tape tp gr S) (g : Good L) (h : L ≠ []) (hl : L.length ≤ 8) (h1 : ρ[jt]? = some (some (.obj tp))) (h2 : ρ[jl]? = some (some (lotsV L))) (hi : i < ρ.length) (hne : jt ≠ i) {x : Str → Nat → Sto → Prop} :
    (dCB (on1 wTupOf) (dCons (dLc (dSeqI (dSl wSl (dVar jl) dNoPart (dPart (dOp wAdd (dC (.int 1)) (dCall 2 (f_u_law_draw) (dCons (dVar jt) (dCons (dC (.int 3)) dNil))))))) (gN i) dYes (dTup (dCons (dOp wIx (dVar i) (dC (.int 0))) (dCons (dOp wAdd (dC (.int 1)) (dCall 2 (f_u_law_draw) (dCons (dVar jt) (dCons (dC (.int 5)) dNil)))) dNil))) [i]) dNil) ρ S).post
      (fun w S' => RoomOf L w ∧ Tape tp gr S' ∧ Mv [tp, gr] S S') x := by
  obtain ⟨p, S1, e1, ⟨n, rfl, hn1, hn3⟩, t1, m1⟩ : ∃ p S1, dSeqI (dSl wSl (dVar jl) dNoPart (dPart (dOp wAdd (dC (.int 1)) (dCall 2 (f_u_law_draw) (dCons (dVar jt) (dCons (dC (.int 3)) dNil)))))) ρ S = .ok p S1 ∧
      (∃ n : Nat, p = ((L.take n).map lotW, fun _ => True) ∧ 1 ≤ n ∧ n ≤ 3) ∧ Tape tp gr S1 ∧ Mv [tp, gr] S S1 := by
    refine post_ex ?_
    rw [p_seqI, p_sl, p_var h2, p_no, p_part, p_op, p_c, p_call, p_cons, p_var h1, p_cons, p_c, p_nil]
    refine ⟨rfl, (d_draw ht (by decide) (by decide)).imp fun w S1 hv t1 m1 => ?_⟩
    obtain ⟨r, rfl, r0, r1⟩ := hv
    rw [q_add]
    obtain ⟨m, hm⟩ : ∃ m : Nat, 1 + r = m := ⟨(1 + r).toNat, by omega⟩
    refine ⟨_, rfl, ?_⟩
    rw [hm]
    refine post_of_eq (r := wSl (lotsV L) none (some (m : Int)) S1) (w := .tup ((L.map lotW).take m)) (S := S1) ?_ ?_
    · show rt (W.tup (cutW (L.map lotW) none (some (m : Int)))) S1 = _
      rw [cut_front]
      rfl
    · refine post_of_eq (r := seqOrStr (.tup ((L.map lotW).take m)) S1) (w := ((L.map lotW).take m, fun _ => True)) (S := S1) rfl ?_
      exact ⟨⟨m, by rw [List.map_take], by omega, by omega⟩, t1, m1⟩
  have lt1 := t1.lt
  have gt := g.take n
  obtain ⟨K, hK⟩ : ∃ K, L.take n = K := ⟨_, rfl⟩
  rw [hK] at gt e1
  have hKn : K ≠ [] := by
    rw [← hK]
    cases L with
    | nil => exact absurd rfl h
    | cons p L =>
      obtain ⟨m, rfl⟩ : ∃ m, n = m + 1 := ⟨n - 1, by omega⟩
      simp
  have hK8 : K.length ≤ 8 := by rw [← hK, List.length_take]; omega
  refine lc_tupS (fun c acc S' => (∃ R : List (Str × Int), acc = R.map lotW ∧ R.map (·.1) = (K.take c).map (·.1) ∧ ∀ p ∈ R, 1 ≤ p.2 ∧ p.2 ≤ 5) ∧ Tape tp gr S' ∧ Mv [tp, gr] S1 S') e1 (by simp; omega)
    ⟨⟨[], rfl, rfl, by simp⟩, t1.pre ⟨_, rfl⟩, Pre.mv ⟨_, rfl⟩⟩ (fun c acc S' o h => ⟨h.1, h.2.1.set (by omega) (by omega), h.2.2.setN (Nat.le_refl _)⟩) (fun _ _ _ _ => trivial) (fun c w acc S' hw h => ?_) fun acc S' h => ?_
  · obtain ⟨⟨R, rfl, hm, hs⟩, t2, m2⟩ := h
    rw [List.getElem?_map] at hw
    cases e : K[c]? with
    | none => rw [e] at hw; cases hw
    | some p =>
      rw [e] at hw
      cases hw
      have v1 : ((wipeW ρ [i]).set i (some (lotW p)))[jt]? = some (some (.obj tp)) := by
        rw [List.getElem?_set_ne (Ne.symm hne)]
        show (ρ.set i none)[jt]? = _
        rw [List.getElem?_set_ne (Ne.symm hne)]
        exact h1
      have v2 : ((wipeW ρ [i]).set i (some (lotW p)))[i]? = some (some (lotW p)) := by
        rw [List.getElem?_set_self (by show i < (ρ.set i none).length; simpa using hi)]
      rw [p_tup, p_cons, p_op, p_var v2, p_c]
      refine post_of_eq (w := .str p.1) (S := S') (by simp [dRet, dAndV, dOrV, dNotV, dUn, dOp, dVar, dC, dB, dAnd, dOr, dNot, dTru, dCons, dNil, dTup, dCall, dCB, dIfS, dSeq, dAsg, dEx, dNext, dBrk, dCnt, dRetN, dIf, gN, dSl, dPart, dNoPart, dChain, bd, rt, endF, wB, wI, on1, on2, stuck, wTru, wIx, lotW, atI_0]) ?_
      rw [p_cons, p_op, p_c, p_call, p_cons, p_var v1, p_cons, p_c, p_nil]
      refine ⟨rfl, (d_draw t2 (by decide) (by decide)).imp fun w S2 hv t3 m3 => ?_⟩
      obtain ⟨r, rfl, r0, r1⟩ := hv
      rw [q_add, p_nil]
      refine ⟨by simp, ⟨⟨R ++ [(p.1, 1 + r)], by simp [lotW], ?_, ?_⟩, t3, m2.trans m3⟩, fun o ho => m3.2 _ _ (by simp; omega) ho⟩
      · have hc : c < K.length := (List.getElem?_eq_some_iff.mp e).1
        rw [List.map_append, hm, List.take_succ, e]
        simp
      · intro q hq
        rcases List.mem_append.mp hq with a | a
        · exact hs q a
        · rw [List.mem_singleton.mp a]
          exact ⟨by show 1 ≤ 1 + r; omega, by show 1 + r ≤ 5; omega⟩
  · obtain ⟨⟨R, rfl, hm, hs⟩, t2, m2⟩ := h
    rw [List.length_map, List.take_length] at hm
    have hRl : R.length = K.length := by have := congrArg List.length hm; simpa using this
    exact ⟨⟨R, rfl, gt.sized hm fun p hp => by have := hs p hp; omega, fun e => hKn (List.eq_nil_of_length_eq_zero (by rw [← hRl, e]; rfl)), by omega, fun p hp => (hs p hp).2⟩, t2, m1.trans m2⟩
end
end MP

set_option Elab.async false
set_option linter.all false
set_option maxRecDepth 100000
set_option maxHeartbeats 4000000
namespace MP
open PySem PySem.Spec PyProof.Rows L2 GxR Gx He
/-- [d for i in it] -/
theorem lc_lst {it : DI} {i : Nat} {d : DE} {vs : List Nat} {ρ : En} {S S1 : Sto} {items : List W} {gd : Sto → Prop} {k : W → Sto → Prop} {x : Str → Nat → Sto → Prop} (J : Nat → List W → Sto → Prop)
    (hit : it ρ S = .ok (items, gd) S1) (hlen : items.length ≤ 1000) (h0 : J 0 [] (S1 ++ [.lst []])) (hset : ∀ c acc S' o, J c acc S' → J c acc (S'.set S1.length o)) (hgd : ∀ c acc S', J c acc S' → gd S')
    (hstep : ∀ c w acc S', items[c]? = some w → J c acc S' → (d ((wipeW ρ vs).set i (some w)) S').post (fun y S2 => J (c + 1) (acc ++ [y]) S2 ∧ ∀ o, S'[S1.length]? = some o → S2[S1.length]? = some o) fun _ _ _ => False)
    (hk : ∀ acc S', J items.length acc S' → S'[S1.length]? = some (.lst acc) → k (.obj S1.length) S') : (dLc it (gN i) dYes d vs ρ S).post k x := by
  unfold dLc
  rw [post_bd, hit, post_ok]
  refine lcD_post (fun its S' => ∃ c acc, its = items.drop c ∧ c ≤ items.length ∧ acc.length = c ∧ S'[S1.length]? = some (.lst acc) ∧ J c acc S') ?_ ?_ _ _ ⟨0, [], rfl, Nat.zero_le _, rfl, by simp, h0⟩
  · rintro w ws S' ⟨c, acc, hi, hc, ha, hn, hJ⟩
    refine ⟨hgd _ _ _ hJ, ?_⟩
    have hlt : c < items.length := by
      apply Classical.byContradiction
      intro e
      rw [List.drop_eq_nil_of_le (by omega)] at hi
      cases hi
    rw [List.drop_eq_getElem_cons hlt] at hi
    simp only [List.cons.injEq] at hi
    obtain ⟨rfl, rfl⟩ := hi
    unfold stepD
    rw [post_bd]
    refine noX_of ?_
    show (bd (noX (dYes _)) _ S').post _ _
    rw [post_bd]
    refine noX_of ?_
    show ((if true = true then _ else _ : M (Option W)) S').post _ _
    rw [if_pos rfl, post_bd]
    refine noX_of (post_imp (hstep c _ acc S' (List.getElem?_eq_getElem hlt) hJ) (fun y S2 ⟨q1, q2⟩ => ?_) fun _ _ _ z => z)
    have hn2 := q2 _ hn
    exact ⟨acc, hn2, by omega, c + 1, acc ++ [y], rfl, hlt, by simp; omega, set_eq hn2, hset _ _ _ _ q1⟩
  · rintro S' ⟨c, acc, hi, hc, ha, hn, hJ⟩
    refine ⟨hgd _ _ _ hJ, ?_⟩
    have hc' : c = items.length := by
      have := congrArg List.length hi
      rw [List.length_drop] at this
      simp at this
      omega
    subst hc'
    exact hk _ _ hJ hn
/-- what falls, as a mask of the lot -/
def Falls (sz f : List Int) : Prop := f.length = sz.length ∧ ∀ (d : Nat) (s u : Int), sz[d]? = some s → f[d]? = some u → 0 ≤ u ∧ u < ((2 ^ s.toNat : Nat) : Int)
theorem and_in : ((List.range 6).all fun size => (List.range 32).all fun r => decide (0 ≤ Builtin.bitAnd (r : Int) (((2 ^ size : Nat) : Int) - 1)) && decide (Builtin.bitAnd (r : Int) (((2 ^ size : Nat) : Int) - 1) < ((2 ^ size : Nat) : Int))) = true := by decide +kernel
theorem and_at {size : Nat} {r : Int} (h : size ≤ 5) (h0 : 0 ≤ r) (h1 : r ≤ 31) : 0 ≤ Builtin.bitAnd r (((2 ^ size : Nat) : Int) - 1) ∧ Builtin.bitAnd r (((2 ^ size : Nat) : Int) - 1) < ((2 ^ size : Nat) : Int) := by
  obtain ⟨m, rfl⟩ : ∃ m : Nat, r = m := ⟨r.toNat, by omega⟩
  have a := List.all_eq_true.mp and_in size (by simp; omega)
  have b := List.all_eq_true.mp a m (by simp; omega)
  simpa using b
theorem q_band {S : Sto} {i j : Int} {k : W → Sto → Prop} {x : Str → Nat → Sto → Prop} : (wBand (.int i) (.int j) S).post k x ↔ k (.int (Builtin.bitAnd i j)) S := by
  have e : wBand (.int i) (.int j) S = .ok (.int (Builtin.bitAnd i j)) S := rfl
  rw [e, post_ok]
section
variable {S : Sto} {L : List (Str × Int)} {tp gr : Nat}
theorem d_fall {ρ : En} {jt jl i : Nat} (ht : Tape tp gr S) (g : Good L) (hl : L.length ≤ 8) (h5 : ∀ p ∈ L, p.2 ≤ 5) (h1 : ρ[jt]? = some (some (.obj tp))) (h2 : ρ[jl]? = some (some (lotsV L))) (hi : i < ρ.length) (hne : jt ≠ i) {x : Str → Nat → Sto → Prop} :
    (dLc (dSeqI (dVar jl)) (gN i) dYes (dOp wBand (dCall 2 (f_u_law_draw) (dCons (dVar jt) (dCons (dOp wPow (dC (.int 2)) (dC (.int 5))) dNil))) (dOp wSub (dOp wIx (dTup (dCons (dC (.int 1)) (dCons (dC (.int 2)) (dCons (dC (.int 4)) (dCons (dC (.int 8)) (dCons (dC (.int 16)) (dCons (dC (.int 32)) dNil))))))) (dOp wIx (dVar i) (dC (.int 1)))) (dC (.int 1)))) [i] ρ S).post
      (fun w S' => (∃ n f, w = .obj n ∧ S.length ≤ n ∧ S'[n]? = some (.lst (f.map W.int)) ∧ Falls (L.map (·.2)) f) ∧ Tape tp gr S' ∧ Mv [tp, gr] S S') x := by
  have lt := ht.lt
  refine lc_lst (fun c acc S' => (∃ f : List Int, acc = f.map W.int ∧ f.length = c ∧ ∀ (d : Nat) (s u : Int), (L.map (·.2))[d]? = some s → f[d]? = some u → 0 ≤ u ∧ u < ((2 ^ s.toNat : Nat) : Int)) ∧ Tape tp gr S' ∧ Mv [tp, gr] S S') (lots_it h2) (by simp; omega)
    ⟨⟨[], rfl, rfl, by simp⟩, ht.pre ⟨_, rfl⟩, Pre.mv ⟨_, rfl⟩⟩ (fun c acc S' o h => ⟨h.1, h.2.1.set (by omega) (by omega), h.2.2.setN (Nat.le_refl _)⟩) (fun _ _ _ _ => trivial) (fun c w acc S' hw h => ?_) fun acc S' h hn => ?_
  · obtain ⟨⟨f, rfl, hf, hb⟩, t1, m1⟩ := h
    rw [List.getElem?_map] at hw
    cases e : L[c]? with
    | none => rw [e] at hw; cases hw
    | some p =>
      rw [e] at hw
      cases hw
      have gs := g.size p (List.mem_of_getElem? e)
      have g5 := h5 p (List.mem_of_getElem? e)
      have v1 : ((wipeW ρ [i]).set i (some (lotW p)))[jt]? = some (some (.obj tp)) := by
        rw [List.getElem?_set_ne (Ne.symm hne)]
        show (ρ.set i none)[jt]? = _
        rw [List.getElem?_set_ne (Ne.symm hne)]
        exact h1
      have v2 : ((wipeW ρ [i]).set i (some (lotW p)))[i]? = some (some (lotW p)) := by
        rw [List.getElem?_set_self (by show i < (ρ.set i none).length; simpa using hi)]
      obtain ⟨size, hsz⟩ : ∃ size : Nat, p.2 = size := ⟨p.2.toNat, by omega⟩
      have hs5 : size ≤ 5 := by omega
      rw [p_op, p_call, p_cons, p_var v1, p_cons, p_op, p_c, p_c, q_pow ⟨by decide, by decide, by decide⟩, p_nil]
      refine ⟨rfl, (d_draw t1 (by decide) (by decide)).imp fun w S2 hv t2 m2 => ?_⟩
      obtain ⟨r, rfl, r0, r1⟩ := hv
      have r31 : r ≤ 31 := r1
      rw [p_op, p_op, p_tup, p_cons, p_c, p_cons, p_c, p_cons, p_c, p_cons, p_c, p_cons, p_c, p_cons, p_c, p_nil]
      refine ⟨by decide, ?_⟩
      rw [p_op, p_var v2, p_c]
      refine post_of_eq (w := .int (size : Int)) (S := S2) (by simp [dRet, dAndV, dOrV, dNotV, dUn, dOp, dVar, dC, dB, dAnd, dOr, dNot, dTru, dCons, dNil, dTup, dCall, dCB, dIfS, dSeq, dAsg, dEx, dNext, dBrk, dCnt, dRetN, dIf, gN, dSl, dPart, dNoPart, dChain, bd, rt, endF, wB, wI, on1, on2, stuck, wTru, wIx, lotW, atI_1, hsz]) ?_
      have i' : wIx (.tup [.int 1, .int 2, .int 4, .int 8, .int 16, .int 32]) (.int (size : Int)) S2 = .ok (.int ((2 ^ size : Nat) : Int)) S2 := ivx (S := S2) (pows_at hs5)
      refine post_of_eq i' ?_
      rw [p_c, q_sub, q_band]
      refine ⟨⟨⟨f ++ [Builtin.bitAnd r (((2 ^ size : Nat) : Int) - 1)], by simp, by simp [hf], fun d s u hd hu => ?_⟩, t2, m1.trans m2⟩, fun o ho => m2.2 _ _ (by simp; omega) ho⟩
      by_cases hdl : d < f.length
      · rw [List.getElem?_append_left hdl] at hu
        exact hb d s u hd hu
      · rw [List.getElem?_append_right (by omega)] at hu
        by_cases ed : d = f.length
        · subst ed
          rw [Nat.sub_self] at hu
          cases hu
          rw [hf, List.getElem?_map, e] at hd
          cases hd
          show 0 ≤ _ ∧ _ < ((2 ^ p.2.toNat : Nat) : Int)
          rw [hsz, Int.toNat_natCast]
          exact and_at hs5 r0 r31
        · rw [List.getElem?_eq_none (by simp; omega)] at hu
          cases hu
  · obtain ⟨⟨f, rfl, hf, hb⟩, t1, m1⟩ := h
    exact ⟨⟨_, f, rfl, Nat.le_refl _, hn, by simpa using hf, hb⟩, t1, m1⟩
/-- one = tuple([_law_draw(tape, lot[1] + 1) for lot in room]) -/
theorem d_oneR {ρ : En} {jt jl i : Nat} (ht : Tape tp gr S) (g : Good L) (hl : L.length ≤ 8) (h1 : ρ[jt]? = some (some (.obj tp))) (h2 : ρ[jl]? = some (some (lotsV L))) (hi : i < ρ.length) (hne : jt ≠ i) {x : Str → Nat → Sto → Prop} :
    (dCB (on1 wTupOf) (dCons (dLc (dSeqI (dVar jl)) (gN i) dYes (dCall 2 (f_u_law_draw) (dCons (dVar jt) (dCons (dOp wAdd (dOp wIx (dVar i) (dC (.int 1))) (dC (.int 1))) dNil))) [i]) dNil) ρ S).post (fun w S' => (∃ a, w = iv a ∧ Fit (L.map (·.2)) a) ∧ Tape tp gr S' ∧ Mv [tp, gr] S S') x := by
  refine post_imp (lc_draw (x := x) (hi := fun c => ((L.map (·.2))[c]?).getD 0) ht (lots_it h2) (by simp; omega) (fun _ => trivial) fun c w S' hw t1 => ?_) (fun w S' q => ?_) fun _ _ _ z => z
  · rw [List.getElem?_map] at hw
    cases e : L[c]? with
    | none => rw [e] at hw; cases hw
    | some p =>
      rw [e] at hw
      cases hw
      have gs := g.size p (List.mem_of_getElem? e)
      have v1 : ((wipeW ρ [i]).set i (some (lotW p)))[jt]? = some (some (.obj tp)) := by
        rw [List.getElem?_set_ne (Ne.symm hne)]
        show (ρ.set i none)[jt]? = _
        rw [List.getElem?_set_ne (Ne.symm hne)]
        exact h1
      have v2 : ((wipeW ρ [i]).set i (some (lotW p)))[i]? = some (some (lotW p)) := by
        rw [List.getElem?_set_self (by show i < (ρ.set i none).length; simpa using hi)]
      rw [p_call, p_cons, p_var v1, p_cons, p_op, p_op, p_var v2, p_c]
      refine post_of_eq (w := .int p.2) (S := S') (by simp [dRet, dAndV, dOrV, dNotV, dUn, dOp, dVar, dC, dB, dAnd, dOr, dNot, dTru, dCons, dNil, dTup, dCall, dCB, dIfS, dSeq, dAsg, dEx, dNext, dBrk, dCnt, dRetN, dIf, gN, dSl, dPart, dNoPart, dChain, bd, rt, endF, wB, wI, on1, on2, stuck, wTru, wIx, lotW, atI_1]) ?_
      rw [p_c, q_add, p_nil]
      refine ⟨rfl, (d_draw t1 (by omega) (by omega)).imp fun w S2 hv t2 m2 => ⟨?_, t2, m2⟩⟩
      have : ((L.map (·.2))[c]?).getD 0 = p.2 := by rw [List.getElem?_map, e]; rfl
      rw [this]
      obtain ⟨r, rfl, r0, r1⟩ := hv
      exact ⟨r, rfl, r0, by omega⟩
  · obtain ⟨⟨a, rfl, hlen, hb⟩, t, m⟩ := q
    refine ⟨⟨a, rfl, fit_of (by simpa using hlen) fun d s u h1 h2 => ?_⟩, t, m⟩
    have := hb d u h2
    rw [h1] at this
    exact this
end
end MP

set_option Elab.async false
set_option linter.all false
set_option maxRecDepth 100000
set_option maxHeartbeats 4000000
namespace MP
open PySem PySem.Spec PyProof.Rows L2 GxR Gx He
theorem below_snoc : ∀ {x y : List Int} {a b : Int}, x.length = y.length → belowB (x ++ [a]) (y ++ [b]) = (belowB x y && decide (a ≤ b))
  | [], [], a, b, _ => by
    show (decide (a ≤ b) && belowB [] []) = (belowB [] [] && decide (a ≤ b))
    show (decide (a ≤ b) && true) = (true && decide (a ≤ b))
    simp
  | x :: xs, y :: ys, a, b, h => by
    rw [List.cons_append, List.cons_append, belowB_cons, belowB_cons, below_snoc (by simpa using h), Bool.and_assoc]
theorem q_andT {i : Nat} {b : DE} {ρ : En} {S : Sto} (h : ρ[i]? = some (some (.bl true))) : dAndV (dVar i) b ρ S = b ρ S := by
  have e : dVar i ρ S = .ok (.bl true) S := by unfold dVar; rw [h]; rfl
  unfold dAndV bd
  simp only [e]
  rfl
theorem q_andF {i : Nat} {b : DE} {ρ : En} {S : Sto} (h : ρ[i]? = some (some (.bl false))) : dAndV (dVar i) b ρ S = .ok (.bl false) S := by
  have e : dVar i ρ S = .ok (.bl false) S := by unfold dVar; rw [h]; rfl
  unfold dAndV bd
  simp only [e]
  rfl
theorem ix_lst {n c : Nat} {l : List W} {w : W} {S : Sto} (h : S[n]? = some (.lst l)) (hc : l[c]? = some w) : wIx (.obj n) (.int (c : Int)) S = .ok w S := by
  have a : atI l (c : Int) = some w := by rw [atI_nat]; exact hc
  simp [dRet, dAndV, dOrV, dNotV, dUn, dOp, dVar, dC, dB, dAnd, dOr, dNot, dTru, dCons, dNil, dTup, dCall, dCB, dIfS, dSeq, dAsg, dEx, dNext, dBrk, dCnt, dRetN, dIf, gN, dSl, dPart, dNoPart, dChain, bd, rt, endF, wB, wI, on1, on2, stuck, wTru, wIx, h, a]
theorem take_suc {α : Type} {l : List α} {c : Nat} {a : α} (h : l[c]? = some a) : l.take (c + 1) = l.take c ++ [a] := by
  rw [List.take_succ, h]
  rfl
section
variable {S : Sto} {L : List (Str × Int)} {a b f : List Int} {nf nd : Nat} {e0 e1 e2 e4 e5 e12 : Option W}
theorem loop_small (g : Good L) (hl : L.length ≤ 8) (h5 : ∀ p ∈ L, p.2 ≤ 5) (fa : Fit (L.map (·.2)) a) (fb : Fit (L.map (·.2)) b) (hf : Falls (L.map (·.2)) f) (hnf : S[nf]? = some (.lst (f.map W.int))) (hnd : S[nd]? = some (.lst [])) (hne : nf ≠ nd)
    {y8 : Option W} {k : Fl → Sto → Prop} {x : Str → Nat → Sto → Prop}
    (hk : ∀ y8 S', Mv [nd] S S' → S'[nd]? = some (.lst ((commonL (L.map (·.2)) a b).map W.int)) → k (.nx [e0, e1, e2, some (lotsV L), e4, e5, some (iv a), some (iv b), y8, some (.obj nf), some (.obj nd), some (.bl (belowB (commonL (L.map (·.2)) a b) (f.map bitsI))), e12]) S') :
    (forD (gN 8) (dSeq (dEx (tyW isL wApp (dVar 10) (dCons (dCall 3 (f_u_law_fewest) (dCons (dOp wIx (dOp wIx (dVar 3) (dVar 8)) (dC (.int 1))) (dCons (dOp wIx (dVar 6) (dVar 8)) (dCons (dOp wIx (dVar 7) (dVar 8)) dNil)))) dNil)))
      (dAsg (dAndV (dVar 11) (dCall 4 (f_u_law_fits) (dCons (dOp wIx (dOp wIx (dVar 3) (dVar 8)) (dC (.int 1))) (dCons (dOp wIx (dVar 6) (dVar 8)) (dCons (dOp wIx (dVar 7) (dVar 8)) (dCons (dOp wIx (dVar 9) (dVar 8)) dNil)))))) (gN 11)))
      (fun _ => True) (rngW 0 L.length) [e0, e1, e2, some (lotsV L), e4, e5, some (iv a), some (iv b), y8, some (.obj nf), some (.obj nd), some (.bl true), e12] S).post k x := by
  obtain ⟨sz, hsz⟩ : ∃ sz, L.map (·.2) = sz := ⟨_, rfl⟩
  have hlen : sz.length = L.length := by rw [← hsz]; simp
  rw [hsz] at fa fb hf hk
  have la := fa.len
  have lb := fb.len
  have lc := common_len la lb
  have lf := hf.1
  refine forD_post (fun items ρ S' => ∃ c y8, c ≤ L.length ∧ items = (rngW 0 L.length).drop c ∧ ρ = [e0, e1, e2, some (lotsV L), e4, e5, some (iv a), some (iv b), y8, some (.obj nf), some (.obj nd), some (.bl (belowB ((commonL sz a b).take c) ((f.map bitsI).take c))), e12] ∧
    S'[nd]? = some (.lst (((commonL sz a b).take c).map W.int)) ∧ Mv [nd] S S') ?_ ?_ _ _ _ ⟨0, y8, Nat.zero_le _, by simp, by simp [belowB], by simpa using hnd, Mv.refl⟩
  · rintro w ws ρ S' ⟨c, y, hc, hi, rfl, hn, m1⟩
    refine ⟨trivial, ?_⟩
    have hlt : c < L.length := by
      apply Classical.byContradiction
      intro e
      rw [List.drop_eq_nil_of_le (by rw [rng_len]; omega)] at hi
      cases hi
    rw [List.drop_eq_getElem_cons (by rw [rng_len]; exact hlt)] at hi
    simp only [List.cons.injEq] at hi
    obtain ⟨hw, rfl⟩ := hi
    have : w = .int c := (rng_at (n := L.length) (c := c) (by rw [hw]; exact List.getElem?_eq_getElem _)).2
    subst this
    obtain ⟨p, ep⟩ := get_of hlt
    obtain ⟨u, eu⟩ := get_of (show c < a.length by omega)
    obtain ⟨v, ev⟩ := get_of (show c < b.length by omega)
    obtain ⟨q, eq⟩ := get_of (show c < f.length by omega)
    have es : sz[c]? = some p.2 := by rw [← hsz, List.getElem?_map, ep]; rfl
    have gs := g.size p (List.mem_of_getElem? ep)
    have g5 := h5 p (List.mem_of_getElem? ep)
    have hu := fa.get es eu
    have hv := fb.get es ev
    have hq := hf.2 c p.2 q es eq
    obtain ⟨size, hs⟩ : ∃ size : Nat, p.2 = size := ⟨p.2.toNat, by omega⟩
    obtain ⟨un, hun⟩ : ∃ un : Nat, u = un := ⟨u.toNat, by omega⟩
    obtain ⟨vn, hvn⟩ : ∃ vn : Nat, v = vn := ⟨v.toNat, by omega⟩
    obtain ⟨qn, hqn⟩ : ∃ qn : Nat, q = qn := ⟨q.toNat, by omega⟩
    have s5 : size ≤ 5 := by omega
    have hq2 : qn < 2 ^ size := by
      have := hq.2
      rw [hs, Int.toNat_natCast, hqn] at this
      exact_mod_cast this
    have few := few_eq (size := size) (f := un) (s := vn) s5 (by omega) (by omega)
    have fit := fit_eq (size := size) (f := un) (s := vn) (fall := qn) s5 (by omega) (by omega) hq2
    have cg := common_get es eu ev
    rw [hs, hun, hvn] at cg
    have bg : (f.map bitsI)[c]? = some (bitsI (qn : Int)) := by rw [List.getElem?_map, eq, hqn]; rfl
    have fg : (f.map W.int)[c]? = some (.int (qn : Int)) := by rw [List.getElem?_map, eq, hqn]; rfl
    rw [hun] at eu
    rw [hvn] at ev
    have hnf1 := m1.2 nf _ (by simpa using hne) hnf
    show (rt _ S').post _ _
    rw [post_rt]
    have v3 : ∀ z, ([e0, e1, e2, some (lotsV L), e4, e5, some (iv a), some (iv b), some (.int (c : Int)), some (.obj nf), some (.obj nd), some (.bl z), e12] : En)[3]? = some (some (lotsV L)) := fun _ => rfl
    have main : ∀ z : Bool, z = belowB ((commonL sz a b).take c) ((f.map bitsI).take c) → (dSeq (dEx (tyW isL wApp (dVar 10) (dCons (dCall 3 (f_u_law_fewest) (dCons (dOp wIx (dOp wIx (dVar 3) (dVar 8)) (dC (.int 1))) (dCons (dOp wIx (dVar 6) (dVar 8)) (dCons (dOp wIx (dVar 7) (dVar 8)) dNil)))) dNil)))
      (dAsg (dAndV (dVar 11) (dCall 4 (f_u_law_fits) (dCons (dOp wIx (dOp wIx (dVar 3) (dVar 8)) (dC (.int 1))) (dCons (dOp wIx (dVar 6) (dVar 8)) (dCons (dOp wIx (dVar 7) (dVar 8)) (dCons (dOp wIx (dVar 9) (dVar 8)) dNil)))))) (gN 11)) [e0, e1, e2, some (lotsV L), e4, e5, some (iv a), some (iv b), some (.int (c : Int)), some (.obj nf), some (.obj nd), some (.bl z), e12] S').post
      (fun fl S2 => ∃ S3, S3[nd]? = some (.lst (((commonL sz a b).take (c + 1)).map W.int)) ∧ Mv [nd] S S2 ∧ S2 = S3 ∧ fl = .nx [e0, e1, e2, some (lotsV L), e4, e5, some (iv a), some (iv b), some (.int (c : Int)), some (.obj nf), some (.obj nd), some (.bl (belowB ((commonL sz a b).take (c + 1)) ((f.map bitsI).take (c + 1)))), e12]) x := by
      intro z hz
      have hz2 : belowB ((commonL sz a b).take (c + 1)) ((f.map bitsI).take (c + 1)) = (z && decide (mx0 ((un : Int) + vn - size) ≤ bitsI (qn : Int))) := by
        rw [take_suc cg, take_suc bg, below_snoc (by rw [List.length_take, List.length_take]; simp; omega), hz]
      rw [post_seq, p_ex, p_ty, p_var rfl]
      refine post_of_eq (q_isL hn) ?_
      rw [p_cons, p_call, p_cons, p_op, p_op, p_var rfl, p_var rfl, wIx_lots ep, post_rt, p_c]
      refine post_of_eq (w := .int (size : Int)) (S := S') (by simp [dRet, dAndV, dOrV, dNotV, dUn, dOp, dVar, dC, dB, dAnd, dOr, dNot, dTru, dCons, dNil, dTup, dCall, dCB, dIfS, dSeq, dAsg, dEx, dNext, dBrk, dCnt, dRetN, dIf, gN, dSl, dPart, dNoPart, dChain, bd, rt, endF, wB, wI, on1, on2, stuck, wTru, wIx, lotW, atI_1, hs]) ?_
      rw [p_cons, p_op, p_var rfl, p_var rfl, wIx_iv eu, post_rt, p_cons, p_op, p_var rfl, p_var rfl, wIx_iv ev, post_rt, p_nil]
      refine ⟨rfl, s_fewest s5 fun S2 p2 => ?_⟩
      rw [p_nil]
      have hn2 := p2.get hn
      refine post_of_eq (q_app hn2 (by rw [List.length_map, List.length_take]; omega)) ?_
      obtain ⟨S3, hS3⟩ : ∃ S3, S2.set nd (.lst (((commonL sz a b).take c).map W.int ++ [.int (fewI size un vn)])) = S3 := ⟨_, rfl⟩
      rw [hS3]
      have hn3 : S3[nd]? = some (.lst (((commonL sz a b).take (c + 1)).map W.int)) := by
        rw [← hS3, set_eq hn2, take_suc cg, few]
        simp
      have m3 : Mv [nd] S S3 := (m1.trans p2.mv).trans (by rw [← hS3]; exact Mv.set (by simp))
      have hnf3 := m3.2 nf _ (by simpa using hne) hnf
      show (dAsg _ (gN 11) [e0, e1, e2, some (lotsV L), e4, e5, some (iv a), some (iv b), some (.int (c : Int)), some (.obj nf), some (.obj nd), some (.bl z), e12] S3).post _ _
      rw [p_asg]
      cases z with
      | false =>
        refine post_of_eq (q_andF rfl) ?_
        rw [hz2]
        exact ⟨S3, hn3, m3, rfl, rfl⟩
      | true =>
        rw [q_andT rfl, p_call, p_cons, p_op, p_op, p_var rfl, p_var rfl, wIx_lots ep, post_rt, p_c]
        refine post_of_eq (w := .int (size : Int)) (S := S3) (by simp [dRet, dAndV, dOrV, dNotV, dUn, dOp, dVar, dC, dB, dAnd, dOr, dNot, dTru, dCons, dNil, dTup, dCall, dCB, dIfS, dSeq, dAsg, dEx, dNext, dBrk, dCnt, dRetN, dIf, gN, dSl, dPart, dNoPart, dChain, bd, rt, endF, wB, wI, on1, on2, stuck, wTru, wIx, lotW, atI_1, hs]) ?_
        rw [p_cons, p_op, p_var rfl, p_var rfl, wIx_iv eu, post_rt, p_cons, p_op, p_var rfl, p_var rfl, wIx_iv ev, post_rt, p_cons, p_op, p_var rfl, p_var rfl]
        refine post_of_eq (ix_lst hnf3 fg) ?_
        rw [p_nil]
        refine ⟨rfl, s_fits s5 fun S4 p4 => ?_⟩
        rw [hz2, fit, Bool.true_and]
        exact ⟨S4, p4.get hn3, m3.trans p4.mv, rfl, rfl⟩
    refine post_imp (main _ rfl) (fun fl S2 q => ?_) fun _ _ _ z => z
    obtain ⟨_, h1, h2, rfl, rfl⟩ := q
    exact ⟨c + 1, _, hlt, rfl, rfl, h1, h2⟩
  · rintro ρ S' ⟨c, y, hc, hi, rfl, hn, m1⟩
    refine ⟨trivial, ?_⟩
    have hc' : c = L.length := by
      have := congrArg List.length hi
      rw [List.length_drop, rng_len] at this
      simp at this
      omega
    subst hc'
    have t1 : (commonL sz a b).take L.length = commonL sz a b := List.take_of_length_le (by omega)
    have t2 : (f.map bitsI).take L.length = f.map bitsI := List.take_of_length_le (by simp; omega)
    rw [t1, t2]
    rw [t1] at hn
    exact hk _ _ m1 hn
end
end MP

set_option Elab.async false
set_option linter.all false
set_option maxRecDepth 100000
set_option maxHeartbeats 4000000
namespace MP
open PySem PySem.Spec PyProof.Rows L2 GxR Gx He
theorem ix4_2 {a b c d : W} : atI [a, b, c, d] 2 = some c := rfl
theorem ix4_3 {a b c d : W} : atI [a, b, c, d] 3 = some d := rfl
/-- the last statement of a body: if not d: return False -/
theorem end_chk {d : DE} {ρ : En} {S : Sto} {k : Fl → Sto → Prop} {x : Str → Nat → Sto → Prop} (v : Sto → Prop) (h1 : (d ρ S).post (fun w S' => w = .bl true ∧ v S') fun _ _ _ => False) (h2 : ∀ S', v S' → k (.nx ρ) S') : (dIfS (dNot (dTru d)) (dRet (dC (.bl false))) dNext ρ S).post k x := by
  rw [p_if, p_not, p_tru]
  refine post_imp h1 (fun w S' h => ?_) fun _ _ _ z => z.elim
  obtain ⟨rfl, hv⟩ := h
  refine post_of_eq (r := wTru (.bl true) S') rfl ?_
  show (if (!true) = true then _ else _)
  rw [if_neg (by decide)]
  refine post_of_eq (r := dNext ρ S') (w := .nx ρ) (S := S') rfl ?_
  exact h2 S' hv
theorem Pre.len {S S' : Sto} (p : Pre S S') : S.length ≤ S'.length := by
  obtain ⟨e, rfl⟩ := p
  simp
theorem bits_fit {sz f : List Int} (h : Falls sz f) (h0 : ∀ s ∈ sz, 0 ≤ s ∧ s ≤ 5) : Fit sz (f.map bitsI) := by
  refine fit_of (by simpa using h.1) fun d s u h1 h2 => ?_
  rw [List.getElem?_map] at h2
  cases e : f[d]? with
  | none => rw [e] at h2; cases h2
  | some q =>
    rw [e] at h2
    cases h2
    have hs := h0 s (List.mem_of_getElem? h1)
    have hq := h.2 d s q h1 e
    obtain ⟨size, rfl⟩ : ∃ size : Nat, s = size := ⟨s.toNat, by omega⟩
    obtain ⟨qn, rfl⟩ : ∃ qn : Nat, q = qn := ⟨q.toNat, by omega⟩
    rw [Int.toNat_natCast] at hq
    exact bits_in (by omega) (by exact_mod_cast hq.2)
section
variable {S : Sto} {L : List (Str × Int)} {tp gr ac : Nat} {l0 l1 l2 l3 : Int} {e2 y4 y5 y6 y7 y8 y9 y10 y11 y12 : Option W}
theorem small_body (ht : Tape tp gr S) (hA : Askd ac l0 l1 l2 l3 S) (n1 : ac ≠ tp) (n2 : ac ≠ gr) (g : Good L) (h : L ≠ []) (hl : L.length ≤ 8) (h5 : ∀ p ∈ L, p.2 ≤ 5) {b : DS}
    (hb : b = (dSeq (dAsg (dCB (on1 wTupOf) (dCons (dLc (dSeqI (dVar 3)) (gN 4) dYes (dCall 2 (f_u_law_draw) (dCons (dVar 0) (dCons (dOp wAdd (dOp wIx (dVar 4) (dC (.int 1))) (dC (.int 1))) dNil))) [4]) dNil)) (gN 6))
    (dSeq (dAsg (dCB (on1 wTupOf) (dCons (dLc (dRng1 (dCons (dCB (on1 wLen) (dCons (dVar 3) dNil)) dNil)) (gN 8) dYes (dCall 3 (f_u_law_second) (dCons (dVar 0) (dCons (dOp wIx (dOp wIx (dVar 3) (dVar 8)) (dC (.int 1))) (dCons (dOp wIx (dVar 6) (dVar 8)) dNil)))) [8]) dNil)) (gN 7))
    (dSeq (dAsg (dLc (dSeqI (dVar 3)) (gN 4) dYes (dOp wBand (dCall 2 (f_u_law_draw) (dCons (dVar 0) (dCons (dOp wPow (dC (.int 2)) (dC (.int 5))) dNil))) (dOp wSub (dOp wIx (dTup (dCons (dC (.int 1)) (dCons (dC (.int 2)) (dCons (dC (.int 4)) (dCons (dC (.int 8)) (dCons (dC (.int 16)) (dCons (dC (.int 32)) dNil))))))) (dOp wIx (dVar 4) (dC (.int 1)))) (dC (.int 1)))) [4]) (gN 9))
    (dSeq (dAsg (dLst dNil) (gN 10))
    (dSeq (dAsg (dC (.bl true)) (gN 11))
    (dSeq (dFor (dRng1 (dCons (dCB (on1 wLen) (dCons (dVar 3) dNil)) dNil)) (gN 8) (dSeq (dEx (tyW isL wApp (dVar 10) (dCons (dCall 3 (f_u_law_fewest) (dCons (dOp wIx (dOp wIx (dVar 3) (dVar 8)) (dC (.int 1))) (dCons (dOp wIx (dVar 6) (dVar 8)) (dCons (dOp wIx (dVar 7) (dVar 8)) dNil)))) dNil)))
    (dAsg (dAndV (dVar 11) (dCall 4 (f_u_law_fits) (dCons (dOp wIx (dOp wIx (dVar 3) (dVar 8)) (dC (.int 1))) (dCons (dOp wIx (dVar 6) (dVar 8)) (dCons (dOp wIx (dVar 7) (dVar 8)) (dCons (dOp wIx (dVar 9) (dVar 8)) dNil)))))) (gN 11))))
    (dSeq (dIfS (dNot (dTru (dCall 2 (f_u_law_same) (dCons (dCall 4 (f_u_law_told) (dCons (dC (.str "least")) (dCons (dVar 3) (dCons (dVar 6) (dCons (dVar 7) dNil))))) (dCons (dTup (dCons (dC (.str "told")) (dCons (dCB (on1 wTupOf) (dCons (dVar 10) dNil)) dNil))) dNil))))) (dRet (dC (.bl false))) dNext)
    (dSeq (dAsg (dOp wAdd (dOp wIx (dVar 1) (dC (.int 2))) (dC (.int 1))) (fun v ρ S => noEx (gSubW (dVar 1) (dC (.int 2)) v ρ S)))
    (dSeq (dIfS (dNot (dTru (dCall 2 (f_u_law_same) (dCons (dCall 4 (f_u_law_told) (dCons (dC (.str "below")) (dCons (dVar 3) (dCons (dCB (on1 wTupOf) (dCons (dVar 10) dNil)) (dCons (dCB (on1 wTupOf) (dCons (dLc (dSeqI (dVar 9)) (gN 12) dYes (dCall 1 (f_u_law_bits) (dCons (dVar 12) dNil)) [12]) dNil)) dNil))))) (dCons (dTup (dCons (dC (.str "told")) (dCons (dVar 11) dNil))) dNil))))) (dRet (dC (.bl false))) dNext)
    (dIfS (dNot (dTru (dCall 3 (f_u_law_first_last) (dCons (dVar 3) (dCons (dVar 6) (dCons (dVar 7) dNil)))))) (dRet (dC (.bl false))) dNext))))))))))) {x : Str → Nat → Sto → Prop} :
    (b [some (.obj tp), some (.obj ac), e2, some (lotsV L), y4, y5, y6, y7, y8, y9, y10, y11, y12] S).post (fun fl S' => (∃ y6 y7 y8 y9 y10 y11 y12, fl = .nx [some (.obj tp), some (.obj ac), e2, some (lotsV L), y4, y5, y6, y7, y8, y9, y10, y11, y12]) ∧ Tape tp gr S' ∧ Askd ac l0 l1 (l2 + 1) l3 S' ∧ Mv [tp, gr, ac] S S') x := by
  subst hb
  obtain ⟨sz, hsz⟩ : ∃ sz, L.map (·.2) = sz := ⟨_, rfl⟩
  have hlen : sz.length = L.length := by rw [← hsz]; simp
  have hl' : L.length ≤ 1000 := by omega
  have hs05 : ∀ s ∈ sz, 0 ≤ s ∧ s ≤ 5 := fun s hs => by
    rw [← hsz] at hs
    obtain ⟨p, hp, rfl⟩ := List.mem_map.mp hs
    have := g.size p hp
    have := h5 p hp
    omega
  have sub : ∀ {S S' : Sto}, Mv [tp, gr] S S' → Mv [tp, gr, ac] S S' := fun m => m.mono (by simp +contextual)
  refine seq_asg (fun w S' => (∃ a, w = iv a ∧ Fit (L.map (·.2)) a) ∧ Tape tp gr S' ∧ Mv [tp, gr] S S') (d_oneR ht g hl rfl rfl (by simp) (by decide)) ?_
  with_reducible rintro _ S1 ⟨⟨a, rfl, fa⟩, t1, m1⟩
  with_reducible refine no_implicit_lambda% (seq_asg (fun w S' => (∃ a, w = iv a ∧ Fit (L.map (·.2)) a) ∧ Tape tp gr S' ∧ Mv [tp, gr] S1 S') (d_two t1 g hl fa rfl rfl rfl (by simp) (by decide) (by decide) (by decide)) ?_)
  rintro _ S2 ⟨⟨c, rfl, fc⟩, t2, m2⟩
  refine seq_asg (fun w S' => (∃ n f, w = .obj n ∧ S2.length ≤ n ∧ S'[n]? = some (.lst (f.map W.int)) ∧ Falls (L.map (·.2)) f) ∧ Tape tp gr S' ∧ Mv [tp, gr] S2 S') (d_fall t2 g hl h5 rfl rfl (by simp) (by decide)) ?_
  with_reducible rintro _ S3 ⟨⟨nf, f, rfl, hnf, hf, ff⟩, t3, m3⟩
  have lt3 := t3.lt
  have A3 : Askd ac l0 l1 l2 l3 S3 := ((hA.mv m1 (by simp [n1, n2])).mv m2 (by simp [n1, n2])).mv m3 (by simp [n1, n2])
  have mm3 : Mv [tp, gr, ac] S S3 := sub ((m1.trans m2).trans m3)
  with_reducible refine no_implicit_lambda% (seq_asg (fun w S' => w = .obj S3.length ∧ S3 ++ [.lst []] = S') (post_of_eq (w := .obj S3.length) (S := S3 ++ [.lst []]) (by simp [dRet, dAndV, dOrV, dNotV, dUn, dOp, dVar, dC, dB, dAnd, dOr, dNot, dTru, dCons, dNil, dTup, dCall, dCB, dIfS, dSeq, dAsg, dEx, dNext, dBrk, dCnt, dRetN, dIf, gN, dSl, dPart, dNoPart, dChain, bd, rt, endF, wB, wI, on1, on2, stuck, wTru, dLst, mk]) ⟨rfl, rfl⟩) ?_)
  with_reducible rintro _ _ ⟨rfl, rfl⟩
  with_reducible obtain ⟨nd, hnd⟩ : ∃ nd, S3.length = nd := ⟨_, rfl⟩
  have p4 : Pre S3 (S3 ++ [.lst []]) := ⟨_, rfl⟩
  have hd4 : (S3 ++ [SO.lst []])[nd]? = some (.lst []) := by rw [← hnd]; simp
  with_reducible obtain ⟨S4, hS4⟩ : ∃ S4, S3 ++ [SO.lst []] = S4 := ⟨_, rfl⟩
  rw [hS4] at p4 hd4 ⊢
  rw [hnd]
  have hnf3 : nf < S3.length := (List.getElem?_eq_some_iff.mp hf).1
  have lt2 := t2.lt
  have hac2 : ac < S2.length := by
    obtain ⟨m0, _, _, _, e, _⟩ := (hA.mv m1 (by simp [n1, n2])).mv m2 (by simp [n1, n2])
    exact (List.getElem?_eq_some_iff.mp e).1
  have A4 := A3.pre p4
  have t4 := t3.pre p4
  with_reducible refine no_implicit_lambda% (seq_asg (fun w S' => w = .bl true ∧ S4 = S') (post_of_eq (w := .bl true) (S := S4) rfl ⟨rfl, rfl⟩) ?_)
  with_reducible rintro _ _ ⟨rfl, rfl⟩
  with_reducible refine no_implicit_lambda% (seq_for (items := rngW 0 L.length) (gd := fun _ => True) (fun S' => S4 = S') ?_ ?_)
  · have e := rng_it (ρ := [some (W.obj tp), some (.obj ac), e2, some (lotsV L), y4, y5, some (iv a), some (iv c), y8, some (.obj nf), some (.obj nd), some (.bl true), y12]) (S := S4) (d := dVar 3) (l := L.map lotW) (by simp [dRet, dAndV, dOrV, dNotV, dUn, dOp, dVar, dC, dB, dAnd, dOr, dNot, dTru, dCons, dNil, dTup, dCall, dCB, dIfS, dSeq, dAsg, dEx, dNext, dBrk, dCnt, dRetN, dIf, gN, dSl, dPart, dNoPart, dChain, bd, rt, endF, wB, wI, on1, on2, stuck, wTru, lotsV]) (by simpa using hl')
    rw [List.length_map] at e
    with_reducible refine post_of_eq (w := (rngW 0 L.length, fun _ => True)) (S := S4) ?_ ⟨rfl, rfl⟩
    exact e
  rintro _ rfl
  refine loop_small g hl h5 fa fc ff (p4.get hf) hd4 (by omega) fun y8' S5 m5 hd5 => ?_
  have t5 : Tape tp gr S5 := t4.mv m5 (by simp; omega) (by simp; omega)
  have A5 : Askd ac l0 l1 l2 l3 S5 := A4.mv m5 (by simp; omega)
  have hf5 := m5.2 nf _ (by simp; omega) (p4.get hf)
  have nfge : tp ≠ nf ∧ gr ≠ nf ∧ ac ≠ nf := by omega
  have mm5 : Mv [tp, gr, ac] S S5 := by
    refine mm3.trans ⟨Nat.le_trans p4.len m5.1, fun i o hi hg => ?_⟩
    have : i < S3.length := (List.getElem?_eq_some_iff.mp hg).1
    exact m5.2 i o (by simp; omega) (p4.get hg)
  have FC := fa.common fc
  have LC := FC.len
  have dp : Dp 8 (.tup [.str "told", iv (commonL (L.map (·.2)) a c)]) := dp_told (dp_iv (by rw [LC]; simpa using hl'))
  refine seq_chk (fun S' => Pre S5 S') ?_ ?_
  · rw [p_call, p_cons, p_call, p_cons, p_c, p_cons, p_var rfl, p_cons, p_var rfl, p_cons, p_var rfl, p_nil]
    refine ⟨rfl, t_least g h hl' fa fc fun S6 p6 => ?_⟩
    rw [p_cons, p_tup, p_cons, p_c, p_cons, p_cb, p_cons, p_var rfl, p_nil]
    refine post_of_eq (r := wTupOf (.obj nd) S6) (q_tupO (p6.get hd5)) ?_
    rw [p_nil]
    refine ⟨by simp, ?_⟩
    rw [p_nil]
    exact ⟨rfl, post_of_eq (q_same dp) ⟨rfl, p6⟩⟩
  rintro S6 p6
  obtain ⟨n0, m0, k0, j0, e, r0, r1, r2, r3⟩ := A5.pre p6
  refine post_seq_nx (ρ' := [some (.obj tp), some (.obj ac), e2, some (lotsV L), y4, y5, some (iv a), some (iv c), y8', some (.obj nf), some (.obj nd), some (.bl (belowB (commonL (L.map (·.2)) a c) (f.map bitsI))), y12]) (S' := S6.set ac (.lst [.int n0, .int m0, .int (k0 + 1), .int j0])) (by simp [dRet, dAndV, dOrV, dNotV, dUn, dOp, dVar, dC, dB, dAnd, dOr, dNot, dTru, dCons, dNil, dTup, dCall, dCB, dIfS, dSeq, dAsg, dEx, dNext, dBrk, dCnt, dRetN, dIf, gN, dSl, dPart, dNoPart, dChain, bd, rt, endF, wB, wI, on1, on2, stuck, wTru, wInt, wIx, e, ix4_2, wAdd, gSubW, noEx, wSet, ixN]) ?_
  have A7 : Askd ac l0 l1 (l2 + 1) l3 (S6.set ac (.lst [.int n0, .int m0, .int (k0 + 1), .int j0])) := ⟨n0, m0, k0 + 1, j0, set_eq e, r0, r1, by omega, r3⟩
  have t7 := (t5.pre p6).set (o := .lst [.int n0, .int m0, .int (k0 + 1), .int j0]) n1 n2
  have m7 : Mv [tp, gr, ac] S (S6.set ac (.lst [.int n0, .int m0, .int (k0 + 1), .int j0])) := (mm5.trans p6.mv).trans (Mv.set (by simp))
  have hd7 : (S6.set ac (.lst [.int n0, .int m0, .int (k0 + 1), .int j0]))[nd]? = some (.lst ((commonL (L.map (·.2)) a c).map W.int)) := by
    rw [set_ne (by omega)]
    exact p6.get hd5
  have hf7 : (S6.set ac (.lst [.int n0, .int m0, .int (k0 + 1), .int j0]))[nf]? = some (.lst (f.map W.int)) := by
    rw [set_ne (by omega)]
    exact p6.get hf5
  obtain ⟨S7, hS7⟩ : ∃ S7, S6.set ac (.lst [.int n0, .int m0, .int (k0 + 1), .int j0]) = S7 := ⟨_, rfl⟩
  rw [hS7] at A7 t7 m7 hd7 hf7 ⊢
  have BF : Fit (L.map (·.2)) (f.map bitsI) := bits_fit ff (by rw [hsz]; exact hs05)
  have lfb : f.length ≤ 1000 := by rw [ff.1]; simpa using hl'
  refine seq_chk (fun S' => Pre S7 S') ?_ ?_
  · rw [p_call, p_cons, p_call, p_cons, p_c, p_cons, p_var rfl, p_cons, p_cb, p_cons, p_var rfl, p_nil]
    refine post_of_eq (r := wTupOf (.obj nd) S7) (q_tupO hd7) ?_
    rw [p_cons]
    refine lc_pure (fun c => .int (((f.map bitsI)[c]?).getD 0)) (items := f.map W.int) (gd := fun S' => S'[nf]? = some (.lst (f.map W.int))) (by simp [dRet, dAndV, dOrV, dNotV, dUn, dOp, dVar, dC, dB, dAnd, dOr, dNot, dTru, dCons, dNil, dTup, dCall, dCB, dIfS, dSeq, dAsg, dEx, dNext, dBrk, dCnt, dRetN, dIf, gN, dSl, dPart, dNoPart, dChain, bd, rt, endF, wB, wI, on1, on2, stuck, wTru, dSeqI, seq_lst hf7]) (by simpa using lfb) (fun S' p => p.get hf7) (fun d w S' hw _ => ?_) fun S8 p8 => ?_
    · rw [List.getElem?_map] at hw
      cases e : f[d]? with
      | none => rw [e] at hw; cases hw
      | some q =>
        rw [e] at hw
        cases hw
        simp [dRet, dAndV, dOrV, dNotV, dUn, dOp, dVar, dC, dB, dAnd, dOr, dNot, dTru, dCons, dNil, dTup, dCall, dCB, dIfS, dSeq, dAsg, dEx, dNext, dBrk, dCnt, dRetN, dIf, gN, dSl, dPart, dNoPart, dChain, bd, rt, endF, wB, wI, on1, on2, stuck, wTru, wipeW, e_bits, e]
    · rw [range_iv (l := f.map bitsI) (by simp) fun d z hz => by rw [hz]; rfl, p_nil]
      refine ⟨rfl, t_below g h hl' FC BF fun S9 p9 => ?_⟩
      rw [p_cons, p_tup, p_cons, p_c, p_cons, p_var rfl, p_nil]
      refine ⟨by simp, ?_⟩
      rw [p_nil]
      exact ⟨rfl, post_of_eq (q_same (dp_told trivial)) ⟨rfl, p8.trans p9⟩⟩
  rintro S8 p8
  refine end_chk (fun S' => Pre S8 S') ?_ ?_
  · rw [p_call, p_cons, p_var rfl, p_cons, p_var rfl, p_cons, p_var rfl, p_nil]
    exact ⟨rfl, d_first_last g h hl' fa fc⟩
  rintro S9 p9
  have p79 := p8.trans p9
  exact ⟨⟨_, _, _, _, _, _, _, rfl⟩, t7.pre p79, A7.pre p79, m7.trans p79.mv⟩
end
theorem small_ok : SmallOk := by
  intro S L tp gr ac l0 l1 l2 l3 ht hA n1 n2 g h hl
  rw [run_u_law_small]
  unfold d_u_law_small
  rw [post_endF]
  have sub : ∀ {S S' : Sto}, Mv [tp, gr] S S' → Mv [tp, gr, ac] S S' := fun m => m.mono (by simp +contextual)
  refine seq_asg (fun w S' => RoomOf L w ∧ Tape tp gr S' ∧ Mv [tp, gr] S S') (d_room ht g h hl rfl rfl (by simp) (by decide)) ?_
  rintro _ S1 ⟨⟨R, rfl, gR, hR, hR8, hR5⟩, t1, m1⟩
  have A1 := hA.mv m1 (by simp [n1, n2])
  refine seq_for (items := rngW 0 3) (gd := fun _ => True) (fun S' => S1 = S') ?_ ?_
  · rw [p_rng, p_cons, p_c, p_nil]
    exact ⟨3, rfl, by decide, rfl, rfl⟩
  rintro _ rfl
  refine forD_post (fun items ρ S' => ∃ c : Nat, c ≤ 3 ∧ items = (rngW 0 3).drop c ∧ (∃ y4 y5 y6 y7 y8 y9 y10 y11 y12, ρ = [some (.obj tp), some (.obj ac), some (lotsV L), some (lotsV R), y4, y5, y6, y7, y8, y9, y10, y11, y12]) ∧ Tape tp gr S' ∧ Askd ac l0 l1 (l2 + c) l3 S' ∧ Mv [tp, gr, ac] S S') ?_ ?_ _ _ _
    ⟨0, by decide, rfl, ⟨_, _, _, _, _, _, _, _, _, rfl⟩, t1, by simpa using A1, sub m1⟩
  · rintro w ws ρ S' ⟨c, hc, hi, ⟨y4, y5, y6, y7, y8, y9, y10, y11, y12, rfl⟩, t2, A2, m2⟩
    refine ⟨trivial, ?_⟩
    have hlt : c < 3 := by
      apply Classical.byContradiction
      intro e
      rw [List.drop_eq_nil_of_le (by rw [rng_len]; omega)] at hi
      cases hi
    rw [List.drop_eq_getElem_cons (by rw [rng_len]; exact hlt)] at hi
    simp only [List.cons.injEq] at hi
    obtain ⟨hw, rfl⟩ := hi
    refine post_of_eq (r := gN 5 w [some (.obj tp), some (.obj ac), some (lotsV L), some (lotsV R), y4, y5, y6, y7, y8, y9, y10, y11, y12] S') (w := [some (.obj tp), some (.obj ac), some (lotsV L), some (lotsV R), y4, some w, y6, y7, y8, y9, y10, y11, y12]) (S := S') rfl ?_
    refine post_imp (small_body t2 A2 n1 n2 gR hR hR8 hR5 rfl) (fun fl S3 q => ?_) fun _ _ _ z => z
    obtain ⟨⟨z6, z7, z8, z9, z10, z11, z12, rfl⟩, t3, A3, m3⟩ := q
    exact ⟨c + 1, hlt, rfl, ⟨_, _, _, _, _, _, _, _, _, rfl⟩, t3, A3.le (by omega) (by omega) (by omega) (by omega), m2.trans m3⟩
  · rintro ρ S' ⟨c, hc, hi, ⟨y4, y5, y6, y7, y8, y9, y10, y11, y12, rfl⟩, t2, A2, m2⟩
    refine ⟨trivial, ?_⟩
    have hc' : c = 3 := by
      have := congrArg List.length hi
      rw [List.length_drop, rng_len] at this
      simp at this
      omega
    subst hc'
    refine post_of_eq (r := dRet (dC (.bl true)) _ S') (w := .rtn (.bl true)) (S := S') rfl ?_
    exact ⟨rfl, t2, A2.le (by omega) (by omega) (by omega) (by omega), m2⟩
end MP

set_option Elab.async false
set_option linter.all false
set_option maxRecDepth 100000
set_option maxHeartbeats 4000000
namespace MP
open PySem PySem.Spec PyProof.Rows L2 GxR Gx He
theorem forD_inv {i : Nat} {s : DS} {gd : Sto → Prop} {items : List W} {ρ : En} {S : Sto} {k : Fl → Sto → Prop} {x : Str → Nat → Sto → Prop} (I : En → Sto → Prop) (h0 : I ρ S) (hg : ∀ ρ S, I ρ S → gd S)
    (hs : ∀ w ∈ items, ∀ ρ S, I ρ S → (s (ρ.set i (some w)) S).post (fun fl S' => ∃ ρ', fl = .nx ρ' ∧ I ρ' S') fun _ _ _ => False) (hk : ∀ ρ S, I ρ S → k (.nx ρ) S) : (forD (gN i) s gd items ρ S).post k x := by
  refine forD_post (fun its ρ S' => (∀ w ∈ its, w ∈ items) ∧ I ρ S') ?_ ?_ _ _ _ ⟨fun _ h => h, h0⟩
  · rintro w ws ρ S' ⟨hi, hI⟩
    refine ⟨hg _ _ hI, ?_⟩
    refine post_of_eq (r := gN i w ρ S') (w := ρ.set i (some w)) (S := S') rfl ?_
    refine post_imp (hs w (hi w (by simp)) ρ S' hI) (fun fl S2 q => ?_) fun _ _ _ z => z.elim
    obtain ⟨ρ', rfl, hI2⟩ := q
    exact ⟨fun v hv => hi v (by simp [hv]), hI2⟩
  · rintro ρ S' ⟨_, hI⟩
    exact ⟨hg _ _ hI, hk _ _ hI⟩
def wrW (p : W × Int) : W := .tup [p.1, .int p.2]
theorem ixw0 {p : W × Int} {S : Sto} : wIx (wrW p) (.int 0) S = .ok p.1 S := by
  unfold wIx wrW
  simp only [atI_0]
  rfl
theorem ixw1 {p : W × Int} {S : Sto} : wIx (wrW p) (.int 1) S = .ok (.int p.2) S := by
  unfold wIx wrW
  simp only [atI_1]
  rfl
/-- wrong counts, with the place that is told -/
structure Bad (M : List Nat) (S : Sto) (sz : List Int) (p : W × Int) : Prop where
  ty : ∀ S', Mv M S S' → Ty1 S' p.1
  cf : cfault sz p.1 = some p.2
theorem Bad.mv {M : List Nat} {S S' : Sto} {sz : List Int} {p : W × Int} (h : Bad M S sz p) (m : Mv M S S') : Bad M S' sz p := ⟨fun S2 m2 => h.ty S2 (m.trans m2), h.cf⟩
section
variable {S : Sto} {L : List (Str × Int)} {a : List Int} {p : W × Int} {ws : List (W × Int)} {tp gr ac nl : Nat} {l0 l1 l2 l3 : Int} {e4 e5 e6 e8 e10 e11 e12 e13 : Option W}
theorem which_two {o : W} (g : Good L) (h : L ≠ []) (hl : L.length ≤ 1000) (fa : Fit (L.map (·.2)) a) (hp : ∀ S', Pre S S' → Ty1 S' p.1) (hc : cfault (L.map (·.2)) p.1 = some p.2) (ho : ∀ S', Pre S S' → Ty1 S' o)
    {e0 e1 : Option W} {k : Fl → Sto → Prop} {x : Str → Nat → Sto → Prop}
    (hk : ∀ e11 S', Pre S S' → k (.nx [e0, e1, some (lotsV L), some (iv a), e4, e5, e6, some (.obj nl), e8, some (wrW p), some o, e11, e12, e13]) S') :
    (forD (gN 11) (dSeq (dIfS (dNot (dTru (dCall 2 (f_u_law_same) (dCons (dCall 4 (f_u_law_told) (dCons (dVar 11) (dCons (dVar 2) (dCons (dOp wIx (dVar 9) (dC (.int 0))) (dCons (dVar 3) dNil))))) (dCons (dTup (dCons (dC (.str "counts")) (dCons (dOp wIx (dVar 9) (dC (.int 1))) dNil))) dNil))))) (dRet (dC (.bl false))) dNext)
    (dSeq (dIfS (dNot (dTru (dCall 2 (f_u_law_same) (dCons (dCall 4 (f_u_law_told) (dCons (dVar 11) (dCons (dVar 2) (dCons (dVar 3) (dCons (dOp wIx (dVar 9) (dC (.int 0))) dNil))))) (dCons (dTup (dCons (dC (.str "counts")) (dCons (dOp wIx (dVar 9) (dC (.int 1))) dNil))) dNil))))) (dRet (dC (.bl false))) dNext)
    (dIfS (dNot (dTru (dCall 2 (f_u_law_same) (dCons (dCall 4 (f_u_law_told) (dCons (dVar 11) (dCons (dVar 2) (dCons (dOp wIx (dVar 9) (dC (.int 0))) (dCons (dVar 10) dNil))))) (dCons (dTup (dCons (dC (.str "counts")) (dCons (dOp wIx (dVar 9) (dC (.int 1))) dNil))) dNil))))) (dRet (dC (.bl false))) dNext)))
      (fun _ => True) ((["least", "below"] : List Str).map W.str) [e0, e1, some (lotsV L), some (iv a), e4, e5, e6, some (.obj nl), e8, some (wrW p), some o, e11, e12, e13] S).post k x := by
  refine forD_inv (fun ρ S' => (∃ e11, ρ = [e0, e1, some (lotsV L), some (iv a), e4, e5, e6, some (.obj nl), e8, some (wrW p), some o, e11, e12, e13]) ∧ Pre S S') ⟨⟨_, rfl⟩, Pre.refl⟩ (fun _ _ _ => trivial) ?_ ?_
  · rintro w hw ρ S1 ⟨⟨y, rfl⟩, p1⟩
    obtain ⟨z, hz, rfl⟩ := List.mem_map.mp hw
    have hz4 : z ∈ (["least", "below", "outside", "first"] : List Str) := by
      simp only [List.mem_cons, List.not_mem_nil, or_false] at hz
      rcases hz with rfl | rfl <;> decide
    have red : ([e0, e1, some (lotsV L), some (iv a), e4, e5, e6, some (.obj nl), e8, some (wrW p), some o, y, e12, e13] : En).set 11 (some (.str z)) = [e0, e1, some (lotsV L), some (iv a), e4, e5, e6, some (.obj nl), e8, some (wrW p), some o, some (.str z), e12, e13] := rfl
    rw [red]
    refine seq_chk (fun S' => Pre S S') ?_ ?_
    · rw [p_call, p_cons, p_call, p_cons, p_var rfl, p_cons, p_var rfl, p_cons, p_op, p_var rfl, p_c]
      refine post_of_eq ixw0 ?_
      rw [p_cons, p_var rfl, p_nil]
      refine ⟨rfl, t_bad1 hz4 g h hl (hp _ p1) ty_iv hc fun S2 p2 => ?_⟩
      rw [p_cons, p_tup, p_cons, p_c, p_cons, p_op, p_var rfl, p_c]
      refine post_of_eq ixw1 ?_
      rw [p_nil]
      refine ⟨by simp, ?_⟩
      rw [p_nil]
      exact ⟨rfl, post_of_eq (q_same dp_counts) ⟨rfl, p1.trans p2⟩⟩
    intro S2 p2
    refine seq_chk (fun S' => Pre S S') ?_ ?_
    · rw [p_call, p_cons, p_call, p_cons, p_var rfl, p_cons, p_var rfl, p_cons, p_var rfl, p_cons, p_op, p_var rfl, p_c]
      refine post_of_eq ixw0 ?_
      rw [p_nil]
      refine ⟨rfl, t_bad2 hz g h hl fa (hp _ p2) hc fun S3 p3 => ?_⟩
      rw [p_cons, p_tup, p_cons, p_c, p_cons, p_op, p_var rfl, p_c]
      refine post_of_eq ixw1 ?_
      rw [p_nil]
      refine ⟨by simp, ?_⟩
      rw [p_nil]
      exact ⟨rfl, post_of_eq (q_same dp_counts) ⟨rfl, p2.trans p3⟩⟩
    intro S3 p3
    refine end_chk (fun S' => Pre S S') ?_ ?_
    · rw [p_call, p_cons, p_call, p_cons, p_var rfl, p_cons, p_var rfl, p_cons, p_op, p_var rfl, p_c]
      refine post_of_eq ixw0 ?_
      rw [p_cons, p_var rfl, p_nil]
      refine ⟨rfl, t_bad1 hz4 g h hl (hp _ p3) (ho _ p3) hc fun S4 p4 => ?_⟩
      rw [p_cons, p_tup, p_cons, p_c, p_cons, p_op, p_var rfl, p_c]
      refine post_of_eq ixw1 ?_
      rw [p_nil]
      refine ⟨by simp, ?_⟩
      rw [p_nil]
      exact ⟨rfl, post_of_eq (q_same dp_counts) ⟨rfl, p3.trans p4⟩⟩
    intro S4 p4
    exact ⟨_, rfl, ⟨_, rfl⟩, p4⟩
  · rintro ρ S1 ⟨⟨y, rfl⟩, p1⟩
    exact hk _ _ p1
theorem which_one {o : W} (g : Good L) (h : L ≠ []) (hl : L.length ≤ 1000) (hp : ∀ S', Pre S S' → Ty1 S' p.1) (hc : cfault (L.map (·.2)) p.1 = some p.2)
    {e0 e1 e3 : Option W} {k : Fl → Sto → Prop} {x : Str → Nat → Sto → Prop}
    (hk : ∀ e11 S', Pre S S' → k (.nx [e0, e1, some (lotsV L), e3, e4, e5, e6, some (.obj nl), e8, some (wrW p), some o, e11, e12, e13]) S') :
    (forD (gN 11) (dIfS (dNot (dTru (dCall 2 (f_u_law_same) (dCons (dCall 4 (f_u_law_told) (dCons (dVar 11) (dCons (dVar 2) (dCons (dOp wIx (dVar 9) (dC (.int 0))) (dCons (dC (.int 0)) dNil))))) (dCons (dTup (dCons (dC (.str "counts")) (dCons (dOp wIx (dVar 9) (dC (.int 1))) dNil))) dNil))))) (dRet (dC (.bl false))) dNext)
      (fun _ => True) ((["outside", "first"] : List Str).map W.str) [e0, e1, some (lotsV L), e3, e4, e5, e6, some (.obj nl), e8, some (wrW p), some o, e11, e12, e13] S).post k x := by
  refine forD_inv (fun ρ S' => (∃ e11, ρ = [e0, e1, some (lotsV L), e3, e4, e5, e6, some (.obj nl), e8, some (wrW p), some o, e11, e12, e13]) ∧ Pre S S') ⟨⟨_, rfl⟩, Pre.refl⟩ (fun _ _ _ => trivial) ?_ ?_
  · rintro w hw ρ S1 ⟨⟨y, rfl⟩, p1⟩
    obtain ⟨z, hz, rfl⟩ := List.mem_map.mp hw
    have hz4 : z ∈ (["least", "below", "outside", "first"] : List Str) := by
      simp only [List.mem_cons, List.not_mem_nil, or_false] at hz
      rcases hz with rfl | rfl <;> decide
    have red : ([e0, e1, some (lotsV L), e3, e4, e5, e6, some (.obj nl), e8, some (wrW p), some o, y, e12, e13] : En).set 11 (some (.str z)) = [e0, e1, some (lotsV L), e3, e4, e5, e6, some (.obj nl), e8, some (wrW p), some o, some (.str z), e12, e13] := rfl
    rw [red]
    refine end_chk (fun S' => Pre S S') ?_ ?_
    · rw [p_call, p_cons, p_call, p_cons, p_var rfl, p_cons, p_var rfl, p_cons, p_op, p_var rfl, p_c]
      refine post_of_eq ixw0 ?_
      rw [p_cons, p_c, p_nil]
      refine ⟨rfl, t_bad1 hz4 g h hl (hp _ p1) ty1_int hc fun S2 p2 => ?_⟩
      rw [p_cons, p_tup, p_cons, p_c, p_cons, p_op, p_var rfl, p_c]
      refine post_of_eq ixw1 ?_
      rw [p_nil]
      refine ⟨by simp, ?_⟩
      rw [p_nil]
      exact ⟨rfl, post_of_eq (q_same dp_counts) ⟨rfl, p1.trans p2⟩⟩
    intro S4 p4
    exact ⟨_, rfl, ⟨_, rfl⟩, p4⟩
  · rintro ρ S1 ⟨⟨y, rfl⟩, p1⟩
    exact hk _ _ p1
/-- one wrong, through all doors -/
theorem bad_in (ht : Tape tp gr S) (hA : Askd ac l0 l1 l2 l3 S) (n1 : ac ≠ tp) (n2 : ac ≠ gr) (n3 : nl ≠ tp) (n4 : nl ≠ gr) (n5 : nl ≠ ac) (g : Good L) (h : L ≠ []) (hl : L.length ≤ 1000) (fa : Fit (L.map (·.2)) a)
    (hws : S[nl]? = some (.lst (ws.map wrW))) (hw1 : ws ≠ []) (hw2 : ws.length ≤ 1000) (hB : ∀ q ∈ ws, Bad [tp, gr, ac, nl] S (L.map (·.2)) q) (hp : p ∈ ws) {b : DS}
    (hb : b = (dSeq (dAsg (dOp wAdd (dOp wIx (dVar 1) (dC (.int 3))) (dC (.int 1))) (fun v ρ S => noEx (gSubW (dVar 1) (dC (.int 3)) v ρ S)))
    (dSeq (dAsg (dOp wIx (dOp wIx (dVar 7) (dCall 2 (f_u_law_draw) (dCons (dVar 0) (dCons (dCB (on1 wLen) (dCons (dVar 7) dNil)) dNil)))) (dC (.int 0))) (gN 10))
    (dSeq (dFor (dSeqI (dTup (dCons (dC (.str "least")) (dCons (dC (.str "below")) dNil)))) (gN 11) (dSeq (dIfS (dNot (dTru (dCall 2 (f_u_law_same) (dCons (dCall 4 (f_u_law_told) (dCons (dVar 11) (dCons (dVar 2) (dCons (dOp wIx (dVar 9) (dC (.int 0))) (dCons (dVar 3) dNil))))) (dCons (dTup (dCons (dC (.str "counts")) (dCons (dOp wIx (dVar 9) (dC (.int 1))) dNil))) dNil))))) (dRet (dC (.bl false))) dNext)
    (dSeq (dIfS (dNot (dTru (dCall 2 (f_u_law_same) (dCons (dCall 4 (f_u_law_told) (dCons (dVar 11) (dCons (dVar 2) (dCons (dVar 3) (dCons (dOp wIx (dVar 9) (dC (.int 0))) dNil))))) (dCons (dTup (dCons (dC (.str "counts")) (dCons (dOp wIx (dVar 9) (dC (.int 1))) dNil))) dNil))))) (dRet (dC (.bl false))) dNext)
    (dIfS (dNot (dTru (dCall 2 (f_u_law_same) (dCons (dCall 4 (f_u_law_told) (dCons (dVar 11) (dCons (dVar 2) (dCons (dOp wIx (dVar 9) (dC (.int 0))) (dCons (dVar 10) dNil))))) (dCons (dTup (dCons (dC (.str "counts")) (dCons (dOp wIx (dVar 9) (dC (.int 1))) dNil))) dNil))))) (dRet (dC (.bl false))) dNext))))
    (dFor (dSeqI (dTup (dCons (dC (.str "outside")) (dCons (dC (.str "first")) dNil)))) (gN 11) (dIfS (dNot (dTru (dCall 2 (f_u_law_same) (dCons (dCall 4 (f_u_law_told) (dCons (dVar 11) (dCons (dVar 2) (dCons (dOp wIx (dVar 9) (dC (.int 0))) (dCons (dC (.int 0)) dNil))))) (dCons (dTup (dCons (dC (.str "counts")) (dCons (dOp wIx (dVar 9) (dC (.int 1))) dNil))) dNil))))) (dRet (dC (.bl false))) dNext)))))) {x : Str → Nat → Sto → Prop} :
    (b [some (.obj tp), some (.obj ac), some (lotsV L), some (iv a), e4, e5, e6, some (.obj nl), e8, some (wrW p), e10, e11, e12, e13] S).post (fun fl S' => (∃ e10 e11, fl = .nx [some (.obj tp), some (.obj ac), some (lotsV L), some (iv a), e4, e5, e6, some (.obj nl), e8, some (wrW p), e10, e11, e12, e13]) ∧ Tape tp gr S' ∧ Askd ac l0 l1 l2 (l3 + 1) S' ∧ Mv [tp, gr, ac] S S') x := by
  subst hb
  have M : ∀ {S S' : Sto}, Mv [tp, gr, ac] S S' → Mv [tp, gr, ac, nl] S S' := fun m => m.mono (by simp +contextual)
  have M2 : ∀ {S S' : Sto}, Mv [tp, gr] S S' → Mv [tp, gr, ac] S S' := fun m => m.mono (by simp +contextual)
  have lpos : 0 < ws.length := List.length_pos_iff.mpr hw1
  obtain ⟨n0, m0, k0, j0, e, r0, r1, r2, r3⟩ := hA
  refine post_seq_nx (ρ' := [some (.obj tp), some (.obj ac), some (lotsV L), some (iv a), e4, e5, e6, some (.obj nl), e8, some (wrW p), e10, e11, e12, e13]) (S' := S.set ac (.lst [.int n0, .int m0, .int k0, .int (j0 + 1)])) (by simp [dRet, dAndV, dOrV, dNotV, dUn, dOp, dVar, dC, dB, dAnd, dOr, dNot, dTru, dCons, dNil, dTup, dCall, dCB, dIfS, dSeq, dAsg, dEx, dNext, dBrk, dCnt, dRetN, dIf, gN, dSl, dPart, dNoPart, dChain, bd, rt, endF, wB, wI, on1, on2, stuck, wTru, wInt, wIx, e, ix4_3, wAdd, gSubW, noEx, wSet, ixN]) ?_
  have A1 : Askd ac l0 l1 l2 (l3 + 1) (S.set ac (.lst [.int n0, .int m0, .int k0, .int (j0 + 1)])) := ⟨n0, m0, k0, j0 + 1, set_eq e, r0, r1, r2, by omega⟩
  have t1 := ht.set (o := .lst [.int n0, .int m0, .int k0, .int (j0 + 1)]) n1 n2
  have m1 : Mv [tp, gr, ac] S (S.set ac (.lst [.int n0, .int m0, .int k0, .int (j0 + 1)])) := Mv.set (by simp)
  obtain ⟨S1, hS1⟩ : ∃ S1, S.set ac (.lst [.int n0, .int m0, .int k0, .int (j0 + 1)]) = S1 := ⟨_, rfl⟩
  rw [hS1] at A1 t1 m1 ⊢
  have hws1 := m1.2 nl _ (by simp [n3, n4, n5]) hws
  refine seq_asg (fun w S' => (∃ q ∈ ws, w = q.1) ∧ Tape tp gr S' ∧ Mv [tp, gr] S1 S') ?_ ?_
  · rw [p_op, p_op, p_var rfl, p_call, p_cons, p_var rfl, p_cons, p_cb, p_cons, p_var rfl, p_nil]
    refine post_of_eq (w := .int (ws.length : Nat)) (S := S1) (by simp [dRet, dAndV, dOrV, dNotV, dUn, dOp, dVar, dC, dB, dAnd, dOr, dNot, dTru, dCons, dNil, dTup, dCall, dCB, dIfS, dSeq, dAsg, dEx, dNext, dBrk, dCnt, dRetN, dIf, gN, dSl, dPart, dNoPart, dChain, bd, rt, endF, wB, wI, on1, on2, stuck, wTru, wLen, hws1]) ?_
    rw [p_nil]
    refine ⟨rfl, (d_draw t1 (by omega) (by omega)).imp fun w S2 hv t2 m2 => ?_⟩
    obtain ⟨r, rfl, q0, q1⟩ := hv
    obtain ⟨m, rfl⟩ : ∃ m : Nat, r = m := ⟨r.toNat, by omega⟩
    obtain ⟨q, hq⟩ := get_of (show m < ws.length by omega)
    have hws2 := m2.2 nl _ (by simp [n3, n4]) hws1
    refine post_of_eq (ix_lst hws2 (w := wrW q) (by rw [List.getElem?_map, hq]; rfl)) ?_
    rw [p_c]
    refine post_of_eq ixw0 ?_
    exact ⟨⟨q, List.mem_of_getElem? hq, rfl⟩, t2, m2⟩
  rintro _ S2 ⟨⟨q, hq, rfl⟩, t2, m2⟩
  have A2 := A1.mv m2 (by simp [n1, n2])
  have m12 : Mv [tp, gr, ac] S S2 := m1.trans (M2 m2)
  refine seq_for (items := (["least", "below"] : List Str).map W.str) (gd := fun _ => True) (fun S' => S2 = S') ?_ ?_
  · simp only [post_seq, p_ret, p_asg, p_ex, p_op, p_un, p_cb, p_cons, p_nil, p_c, p_call, p_if, p_b, p_tru, p_not, p_and, p_or, p_tup, p_lst, p_next, p_sl, p_no, p_part, p_for, p_rng, p_seqI, post_endF, dVar, List.getElem?_cons_zero, List.getElem?_cons_succ, List.set_cons_zero, List.set_cons_succ, post_rt, List.length_cons, List.length_nil, Nat.zero_add, Nat.reduceAdd, true_and, on1, on2]
    exact ⟨by decide, (post_rt (x := fun _ _ _ => False)).mpr ⟨rfl, rfl⟩⟩
  rintro _ rfl
  refine which_two g h hl fa (fun S' pp => (hB p hp).ty S' (M (m12.trans pp.mv))) (hB p hp).cf (fun S' pp => (hB q hq).ty S' (M (m12.trans pp.mv))) fun y S3 p3 => ?_
  show ((dFor _ _ _) _ S3).post _ _
  rw [p_for]
  simp only [post_seq, p_ret, p_asg, p_ex, p_op, p_un, p_cb, p_cons, p_nil, p_c, p_call, p_if, p_b, p_tru, p_not, p_and, p_or, p_tup, p_lst, p_next, p_sl, p_no, p_part, p_for, p_rng, p_seqI, post_endF, dVar, List.getElem?_cons_zero, List.getElem?_cons_succ, List.set_cons_zero, List.set_cons_succ, post_rt, List.length_cons, List.length_nil, Nat.zero_add, Nat.reduceAdd, true_and, on1, on2]
  refine ⟨by decide, ?_⟩
  refine post_of_eq (w := ((["outside", "first"] : List Str).map W.str, fun _ => True)) (S := S3) rfl ?_
  refine which_one g h hl (fun S' pp => (hB p hp).ty S' (M (m12.trans (p3.trans pp).mv))) (hB p hp).cf fun y S4 p4 => ?_
  have p34 := p3.trans p4
  exact ⟨⟨_, _, rfl⟩, t2.pre p34, A2.pre p34, m12.trans p34.mv⟩
end
end MP

set_option Elab.async false
set_option linter.all false
set_option maxRecDepth 100000
set_option maxHeartbeats 4000000
namespace MP
open PySem PySem.Spec PyProof.Rows L2 GxR Gx He
theorem forD_cnt {i : Nat} {s : DS} {gd : Sto → Prop} {items : List W} {ρ : En} {S : Sto} {k : Fl → Sto → Prop} {x : Str → Nat → Sto → Prop} (I : Nat → En → Sto → Prop) (h0 : I 0 ρ S) (hg : ∀ n ρ S, I n ρ S → gd S)
    (hs : ∀ w ∈ items, ∀ n ρ S, I n ρ S → n < items.length → (s (ρ.set i (some w)) S).post (fun fl S' => ∃ ρ', fl = .nx ρ' ∧ I (n + 1) ρ' S') fun _ _ _ => False) (hk : ∀ ρ S, I items.length ρ S → k (.nx ρ) S) : (forD (gN i) s gd items ρ S).post k x := by
  refine forD_post (fun its ρ S' => ∃ n, n + its.length = items.length ∧ (∀ w ∈ its, w ∈ items) ∧ I n ρ S') ?_ ?_ _ _ _ ⟨0, by simp, fun _ h => h, h0⟩
  · rintro w ws ρ S' ⟨n, hn, hi, hI⟩
    refine ⟨hg _ _ _ hI, ?_⟩
    rw [List.length_cons] at hn
    refine post_of_eq (r := gN i w ρ S') (w := ρ.set i (some w)) (S := S') rfl ?_
    refine post_imp (hs w (hi w (by simp)) n ρ S' hI (by omega)) (fun fl S2 q => ?_) fun _ _ _ z => z.elim
    obtain ⟨ρ', rfl, hI2⟩ := q
    exact ⟨n + 1, by omega, fun v hv => hi v (by simp [hv]), hI2⟩
  · rintro ρ S' ⟨n, hn, _, hI⟩
    have : n = items.length := by simpa using hn
    subst this
    exact ⟨hg _ _ _ hI, hk _ _ hI⟩
theorem cf_str {sz : List Int} {z : Str} : cfault sz (.str z) = some (-1) := rfl
theorem cf_non {sz : List Int} : cfault sz .non = some (-1) := rfl
theorem cf_obj {sz : List Int} {n : Nat} : cfault sz (.obj n) = some (-1) := rfl
theorem ty1_lit {S : Sto} {w : W} (h : match w with | .obj _ => False | .exc _ _ _ _ => False | .tup _ => False | _ => True) : Ty1 S w := by
  cases w with
  | obj n => exact h.elim
  | exc _ _ _ _ => exact h.elim
  | tup l => exact h.elim
  | _ => exact ⟨rfl, fun l e => (nomatch e)⟩
theorem ty1_ints {S : Sto} {l : List W} (h : ∀ x ∈ l, ∃ z : Int, x = .int z) : Ty1 S (.tup l) := by
  refine ⟨rfl, fun m e x hx => ?_⟩
  cases e
  obtain ⟨z, rfl⟩ := h x hx
  rfl
theorem ty1_obj {S : Sto} {n : Nat} {l : List W} (h : S[n]? = some (.lst l)) : Ty1 S (.obj n) := by
  refine ⟨?_, fun l e => by cases e⟩
  show (tyOf (.obj n) S).isSome = true
  unfold tyOf
  simp only [h]
  rfl
theorem mem_int {a : List Int} {x : W} (h : x ∈ a.map W.int) : ∃ z : Int, x = .int z := by
  obtain ⟨z, _, rfl⟩ := List.mem_map.mp h
  exact ⟨z, rfl⟩
theorem cut_last {l : List W} : cutW l none (some (-1)) = l.take (l.length - 1) := by
  unfold cutW
  have h2 : HT.sIx l.length l.length (some (-1)) = l.length - 1 := by
    show (if (-1 : Int) < 0 then ((-1 : Int) + ((l.length : Nat) : Int)).toNat else min (-1 : Int).toNat l.length) = _
    rw [if_pos (by decide)]
    omega
  rw [h2, show HT.sIx l.length 0 none = 0 from rfl]
  rfl
section
variable {S : Sto} {L : List (Str × Int)} {a : List Int} {ρ : En} {j2 j3 : Nat} {x : Str → Nat → Sto → Prop}
theorem first_six (hl : L.length ≤ 8) (h : L ≠ []) (fa : Fit (L.map (·.2)) a) (h2 : ρ[j2]? = some (some (lotsV L))) (h3 : ρ[j3]? = some (some (iv a))) :
    (dLst (dCons (dTup (dCons (dCB (on1 wLstOf) (dCons (dVar j3) dNil)) (dCons (dOp wSub (dC (.int 0)) (dC (.int 1))) dNil))) (dCons (dTup (dCons (dOp wAdd (dVar j3) (dTup (dCons (dC (.int 0)) dNil))) (dCons (dOp wSub (dC (.int 0)) (dC (.int 1))) dNil))) (dCons (dTup (dCons (dSl wSl (dVar j3) dNoPart (dPart (dUn wNeg (dC (.int 1))))) (dCons (dOp wSub (dC (.int 0)) (dC (.int 1))) dNil))) (dCons (dTup (dCons (dTup dNil) (dCons (dOp wSub (dC (.int 0)) (dC (.int 1))) dNil))) (dCons (dTup (dCons (dC .non) (dCons (dOp wSub (dC (.int 0)) (dC (.int 1))) dNil))) (dCons (dTup (dCons (dSl wSl (dC (.str "abcdefgh")) dNoPart (dPart (dCB (on1 wLen) (dCons (dVar j2) dNil)))) (dCons (dOp wSub (dC (.int 0)) (dC (.int 1))) dNil))) dNil)))))) ρ S).post
      (fun w S' => ∃ (nl : Nat) (ws : List (W × Int)), w = .obj nl ∧ S.length ≤ nl ∧ S'[nl]? = some (.lst (ws.map wrW)) ∧ ws.length = 6 ∧ (∀ M : List Nat, (∀ m ∈ M, m < S.length ∨ m = nl) → ∀ q ∈ ws, Bad M S' (L.map (·.2)) q) ∧ Pre S S') x := by
  have la := fa.len
  rw [List.length_map] at la
  have lpos : 0 < L.length := List.length_pos_iff.mpr h
  rw [p_lst, p_cons, p_tup, p_cons, p_cb, p_cons, p_var h3, p_nil]
  refine post_of_eq (r := on1 wLstOf [iv a] S) (w := .obj S.length) (S := S ++ [.lst (a.map W.int)]) rfl ?_
  rw [p_cons, p_op, p_c, p_c, q_sub, p_nil]
  refine ⟨by simp, ?_⟩
  rw [p_cons, p_tup, p_cons, p_op, p_var h3, p_tup, p_cons, p_c, p_nil]
  refine ⟨by simp, post_of_eq (q_addT (i := a.map W.int) (j := [.int 0]) (by simp; omega)) ?_⟩
  rw [p_cons, p_op, p_c, p_c, q_sub, p_nil]
  refine ⟨by simp, ?_⟩
  rw [p_cons, p_tup, p_cons, p_sl, p_var h3, p_no, p_part, p_un, p_c]
  refine post_of_eq (r := wNeg (.int 1) _) (w := .int (-1)) rfl ?_
  refine ⟨-1, rfl, ?_⟩
  refine post_of_eq (r := wSl (iv a) none (some (-1)) _) (w := .tup (cutW (a.map W.int) none (some (-1)))) rfl ?_
  rw [p_cons, p_op, p_c, p_c, q_sub, p_nil]
  refine ⟨by simp, ?_⟩
  rw [p_cons, p_tup, p_cons, p_tup, p_nil]
  refine ⟨by simp, ?_⟩
  rw [p_cons, p_op, p_c, p_c, q_sub, p_nil]
  refine ⟨by simp, ?_⟩
  rw [p_cons, p_tup, p_cons, p_c, p_cons, p_op, p_c, p_c, q_sub, p_nil]
  refine ⟨by simp, ?_⟩
  rw [p_cons, p_tup, p_cons, p_sl, p_c, p_no, p_part, p_cb, p_cons, p_var h2, p_nil]
  refine post_of_eq (r := on1 wLen [lotsV L] _) (w := .int (L.map lotW).length) rfl ?_
  refine ⟨_, rfl, ?_⟩
  obtain ⟨z, hz⟩ : ∃ z, wSl (.str "abcdefgh") none (some ((L.map lotW).length : Int)) (S ++ [.lst (a.map W.int)]) = .ok (.str z) (S ++ [.lst (a.map W.int)]) := by
    refine ⟨cutS "abcdefgh" none (some ((L.map lotW).length : Int)), ?_⟩
    show (if ("abcdefgh" : Str).length ≤ 100000 then rt (W.str (cutS "abcdefgh" none (some ((L.map lotW).length : Int)))) else stuck : M W) _ = _
    rw [if_pos (by decide)]
    rfl
  refine post_of_eq hz ?_
  rw [p_cons, p_op, p_c, p_c, q_sub, p_nil]
  refine ⟨by simp, ?_⟩
  rw [p_nil]
  refine ⟨by simp, S.length + 1, [(.obj S.length, -1), (.tup (a.map W.int ++ [.int 0]), -1), (.tup (cutW (a.map W.int) none (some (-1))), -1), (.tup [], -1), (.non, -1), (.str z, -1)], by simp, by omega, ?_, rfl, ?_, ⟨[.lst (a.map W.int), .lst _], by simp; rfl⟩⟩
  · rw [List.getElem?_append_right (by simp)]
    simp [wrW]
  · intro M hM q hq
    simp only [List.mem_cons, List.not_mem_nil, or_false] at hq
    rcases hq with rfl | rfl | rfl | rfl | rfl | rfl
    · refine ⟨fun S' m => ?_, cf_obj⟩
      refine ty1_obj (l := a.map W.int) (m.2 _ _ (fun hm => ?_) (by simp [List.getElem?_append]))
      rcases hM _ hm with q | q <;> omega
    · refine ⟨fun S' m => ty1_ints fun y hy => ?_, cf_len (by simp; omega)⟩
      rcases List.mem_append.mp hy with q | q
      · exact mem_int q
      · exact ⟨0, List.mem_singleton.mp q⟩
    · refine ⟨fun S' m => ty1_ints fun y hy => ?_, cf_len (by rw [cut_last, List.length_take]; simp; omega)⟩
      rw [cut_last] at hy
      exact mem_int (List.mem_of_mem_take hy)
    · exact ⟨fun S' m => ty1_ints (by simp), cf_len (by simp; omega)⟩
    · exact ⟨fun S' m => ty1_lit trivial, cf_non⟩
    · exact ⟨fun S' m => ty1_lit trivial, cf_str⟩
/-- ten items that are no number of the lot -/
theorem ten_items {s : Int} {j5 : Nat} (hs1 : 1 ≤ s) (hs2 : s ≤ 1000000000000) (h5 : ρ[j5]? = some (some (.int s))) :
    (dSeqI (dTup (dCons (dOp wAdd (dVar j5) (dC (.int 1))) (dCons (dOp wSub (dC (.int 0)) (dC (.int 1))) (dCons (dC (.bl true)) (dCons (dC (.bl false)) (dCons (dC .non) (dCons (dC (.str "0")) (dCons (dTup (dCons (dC (.int 0)) dNil)) (dCons (dLst (dCons (dC (.int 0)) dNil)) (dCons (dOp wSub (dC (.int 0)) (dVar j5)) (dCons (dOp wPow (dC (.int 10)) (dC (.int 30))) dNil))))))))))) ρ S).post
      (fun p S' => ∃ Z, p = (Z, fun _ => True) ∧ S' = S ++ [.lst [.int 0]] ∧ Z.length = 10 ∧ ∀ z ∈ Z, numOk z s = false ∧ ∀ M : List Nat, (∀ m ∈ M, m < S.length) → ∀ S2, Mv M S' S2 → Ty S2 z) x := by
  rw [p_seqI, p_tup, p_cons, p_op, p_var h5, p_c, q_add, p_cons, p_op, p_c, p_c, q_sub, p_cons, p_c, p_cons, p_c, p_cons, p_c, p_cons, p_c, p_cons, p_tup, p_cons, p_c, p_nil]
  refine ⟨by simp, ?_⟩
  rw [p_cons, p_lst, p_cons, p_c, p_nil]
  refine ⟨by simp, ?_⟩
  rw [p_cons, p_op, p_c, p_var h5, q_sub, p_cons, p_op, p_c, p_c, q_pow ⟨by decide, by decide, by decide⟩, p_nil]
  refine ⟨by simp, ?_⟩
  refine post_of_eq (r := seqOrStr (.tup _) _) rfl ?_
  refine ⟨_, rfl, rfl, rfl, ?_⟩
  have big : (10 : Int) ^ (30 : Int).toNat = 1000000000000000000000000000000 := by decide +kernel
  rw [big]
  intro z hz
  simp only [List.mem_cons, List.not_mem_nil, or_false] at hz
  rcases hz with rfl | rfl | rfl | rfl | rfl | rfl | rfl | rfl | rfl | rfl
  · exact ⟨by simp [numOk]; omega, fun M hM S2 m => rfl⟩
  · exact ⟨by simp [numOk], fun M hM S2 m => rfl⟩
  · exact ⟨rfl, fun M hM S2 m => rfl⟩
  · exact ⟨rfl, fun M hM S2 m => rfl⟩
  · exact ⟨rfl, fun M hM S2 m => rfl⟩
  · exact ⟨rfl, fun M hM S2 m => rfl⟩
  · exact ⟨rfl, fun M hM S2 m => rfl⟩
  · refine ⟨rfl, fun M hM S2 m => (ty1_obj (l := [.int 0]) (m.2 _ _ (fun hm => ?_) (by simp))).1⟩
    have := hM _ hm
    omega
  · exact ⟨by simp [numOk]; omega, fun M hM S2 m => rfl⟩
  · exact ⟨by simp [numOk]; omega, fun M hM S2 m => rfl⟩
end
end MP

set_option Elab.async false
set_option linter.all false
set_option maxRecDepth 100000
set_option maxHeartbeats 4000000
namespace MP
open PySem PySem.Spec PyProof.Rows L2 GxR Gx He
/-- wrong lots, with the place and the word that are told -/
def wlW (t : W × Int × Str) : W := .tup [t.1, .int t.2.1, .str t.2.2]
theorem ixl0 {t : W × Int × Str} {S : Sto} : wIx (wlW t) (.int 0) S = .ok t.1 S := by
  unfold wIx wlW
  simp only [atI_0]
  rfl
theorem ixl1 {t : W × Int × Str} {S : Sto} : wIx (wlW t) (.int 1) S = .ok (.int t.2.1) S := by
  unfold wIx wlW
  simp only [atI_1]
  rfl
theorem atI_2 {a b c : W} : atI [a, b, c] 2 = some c := rfl
theorem ixl2 {t : W × Int × Str} {S : Sto} : wIx (wlW t) (.int 2) S = .ok (.str t.2.2) S := by
  unfold wIx wlW
  simp only [atI_2]
  rfl
structure BadL (M : List Nat) (S : Sto) (t : W × Int × Str) : Prop where
  ty : ∀ S', Mv M S S' → LotsTy S' t.1
  cf : lotsFault t.1 = some t.2
theorem lots_lit {S : Sto} {w : W} (h : match w with | .obj _ => False | .exc _ _ _ _ => False | .tup _ => False | _ => True) : LotsTy S w := by
  cases w with
  | obj n => exact h.elim
  | exc _ _ _ _ => exact h.elim
  | tup l => exact h.elim
  | _ => exact ⟨rfl, fun l e => (nomatch e)⟩
theorem lots_nil {S : Sto} : LotsTy S (.tup []) := ⟨rfl, fun l e => by cases e; exact ⟨by simp, by simp⟩⟩
theorem lots_obj {S : Sto} {n : Nat} {l : List W} (h : S[n]? = some (.lst l)) : LotsTy S (.obj n) := ⟨(ty1_obj h).1, fun l e => by cases e⟩
theorem lots_set {S : Sto} {L : List (Str × Int)} {c : Nat} {bad : W} (g : Good L) (hl : L.length ≤ 1000) (h : Ty1 S bad ∧ ∀ m, bad = .tup m → ∀ x ∈ m, Short x) : LotsTy S (.tup ((L.map lotW).set c bad)) := by
  refine ⟨rfl, fun l e => ?_⟩
  cases e
  refine ⟨by simpa using hl, fun lot hm => ?_⟩
  rcases List.mem_or_eq_of_mem_set hm with q | q
  · exact ((ty_good (S := S) g hl).all _ rfl).2 lot q
  · rw [q]; exact h
theorem lots_two {S : Sto} {p : Str × Int} (h : wordB p.1 = true) : LotsTy S (.tup [lotW p, lotW p]) := by
  have one : Ty1 S (lotW p) ∧ ∀ m, lotW p = .tup m → ∀ x ∈ m, Short x := by
    refine ⟨⟨rfl, fun m e x hx => ?_⟩, fun m e x hx z ez => ?_⟩
    · cases e
      simp only [List.mem_cons, List.not_mem_nil, or_false] at hx
      rcases hx with rfl | rfl <;> rfl
    · cases e
      simp only [List.mem_cons, List.not_mem_nil, or_false] at hx
      rcases hx with rfl | rfl
      · cases ez
        have := wordB_len h
        omega
      · cases ez
  refine ⟨rfl, fun l e => ?_⟩
  cases e
  refine ⟨by simp, fun lot hm => ?_⟩
  simp only [List.mem_cons, List.not_mem_nil, or_false] at hm
  rcases hm with rfl | rfl <;> exact one
theorem pair_ty {S : Sto} {z : Str} {w : W} (h : z.length ≤ 100000) (hw : Ty S w) (hs : ∀ y, w ≠ .str y) : Ty1 S (.tup [.str z, w]) ∧ ∀ m, W.tup [.str z, w] = .tup m → ∀ x ∈ m, Short x := by
  refine ⟨⟨rfl, fun m e x hx => ?_⟩, fun m e x hx y ey => ?_⟩
  · cases e
    simp only [List.mem_cons, List.not_mem_nil, or_false] at hx
    rcases hx with rfl | rfl
    · rfl
    · exact hw
  · cases e
    simp only [List.mem_cons, List.not_mem_nil, or_false] at hx
    rcases hx with rfl | rfl
    · cases ey; exact h
    · exact absurd ey (hs y)
section
variable {S : Sto} {L : List (Str × Int)} {a : List Int} {ρ : En} {j2 j4 j5 : Nat} {c : Nat} {p : Str × Int} {x : Str → Nat → Sto → Prop}
theorem eight_items (g : Good L) (hl : L.length ≤ 8) (ep : L[c]? = some p) (h2 : ρ[j2]? = some (some (lotsV L))) (h4 : ρ[j4]? = some (some (.int (c : Int)))) (h5 : ρ[j5]? = some (some (.int p.2))) :
    (dSeqI (dTup (dCons (dTup (dCons (dCB (on1 wLstOf) (dCons (dVar j2) dNil)) (dCons (dOp wSub (dC (.int 0)) (dC (.int 1))) (dCons (dC (.str "shape")) dNil)))) (dCons (dTup (dCons (dTup dNil) (dCons (dOp wSub (dC (.int 0)) (dC (.int 1))) (dCons (dC (.str "shape")) dNil)))) (dCons (dTup (dCons (dC .non) (dCons (dOp wSub (dC (.int 0)) (dC (.int 1))) (dCons (dC (.str "shape")) dNil)))) (dCons (dTup (dCons (dOp wAdd (dSl wSl (dVar j2) dNoPart (dPart (dC (.int 1)))) (dSl wSl (dVar j2) dNoPart (dPart (dC (.int 1))))) (dCons (dC (.int 1)) (dCons (dC (.str "twice")) dNil)))) (dCons (dTup (dCons (dCall 3 (f_u_law_with) (dCons (dVar j2) (dCons (dVar j4) (dCons (dTup (dCons (dOp wIx (dOp wIx (dVar j2) (dVar j4)) (dC (.int 0))) (dCons (dC (.int 0)) dNil))) dNil)))) (dCons (dVar j4) (dCons (dC (.str "size")) dNil)))) (dCons (dTup (dCons (dCall 3 (f_u_law_with) (dCons (dVar j2) (dCons (dVar j4) (dCons (dTup (dCons (dOp wIx (dOp wIx (dVar j2) (dVar j4)) (dC (.int 0))) (dCons (dC (.bl true)) dNil))) dNil)))) (dCons (dVar j4) (dCons (dC (.str "size")) dNil)))) (dCons (dTup (dCons (dCall 3 (f_u_law_with) (dCons (dVar j2) (dCons (dVar j4) (dCons (dTup (dCons (dC (.str "most")) (dCons (dVar j5) dNil))) dNil)))) (dCons (dVar j4) (dCons (dC (.str "word")) dNil)))) (dCons (dTup (dCons (dCall 3 (f_u_law_with) (dCons (dVar j2) (dCons (dVar j4) (dCons (dLst (dCons (dOp wIx (dOp wIx (dVar j2) (dVar j4)) (dC (.int 0))) (dCons (dVar j5) dNil))) dNil)))) (dCons (dVar j4) (dCons (dC (.str "shape")) dNil)))) dNil))))))))) ρ S).post
      (fun q S' => ∃ T : List (W × Int × Str), q = (T.map wlW, fun _ => True) ∧ Pre S S' ∧ ∀ t ∈ T, ∀ M : List Nat, (∀ m ∈ M, m < S.length) → BadL M S' t) x := by
  have hc : c < L.length := (List.getElem?_eq_some_iff.mp ep).1
  have hp := List.mem_of_getElem? ep
  have gw := g.word p hp
  have gl := wordB_len gw
  have gs := g.size p hp
  have hl' : L.length ≤ 1000 := by omega
  have word : ∀ S' : Sto, wIx (lotW p) (.int 0) S' = .ok (.str p.1) S' := fun S' => by simp [dRet, dAndV, dOrV, dNotV, dUn, dOp, dVar, dC, dB, dAnd, dOr, dNot, dTru, dCons, dNil, dTup, dCall, dCB, dIfS, dSeq, dAsg, dEx, dNext, dBrk, dCnt, dRetN, dIf, gN, dSl, dPart, dNoPart, dChain, bd, rt, endF, wB, wI, on1, on2, stuck, wTru, wIx, lotW, atI_0]
  obtain ⟨p0, L0, hL0⟩ : ∃ p0 L0, L = p0 :: L0 := by
    cases L with
    | nil => simp at hc
    | cons p0 L0 => exact ⟨p0, L0, rfl⟩
  have hp0 : p0 ∈ L := by rw [hL0]; simp
  have cut1 : ∀ S' : Sto, wSl (lotsV L) none (some 1) S' = .ok (.tup [lotW p0]) S' := fun S' => by
    show rt (W.tup (cutW (L.map lotW) none (some ((1 : Nat) : Int)))) S' = _
    rw [cut_front, hL0]
    rfl
  obtain ⟨S1, hS1⟩ : ∃ S1, S ++ [SO.lst (L.map lotW)] = S1 := ⟨_, rfl⟩
  obtain ⟨S2, hS2⟩ : ∃ S2, S1 ++ [SO.lst [.str p.1, .int p.2]] = S2 := ⟨_, rfl⟩
  rw [p_seqI, p_tup, p_cons, p_tup, p_cons, p_cb, p_cons, p_var h2, p_nil]
  refine post_of_eq (r := on1 wLstOf [lotsV L] S) (w := .obj S.length) (S := S1) (by rw [← hS1]; rfl) ?_
  rw [p_cons, p_op, p_c, p_c, q_sub, p_cons, p_c, p_nil]
  refine ⟨by simp, ?_⟩
  rw [p_cons, p_tup, p_cons, p_tup, p_nil]
  refine ⟨by simp, ?_⟩
  rw [p_cons, p_op, p_c, p_c, q_sub, p_cons, p_c, p_nil]
  refine ⟨by simp, ?_⟩
  rw [p_cons, p_tup, p_cons, p_c, p_cons, p_op, p_c, p_c, q_sub, p_cons, p_c, p_nil]
  refine ⟨by simp, ?_⟩
  rw [p_cons, p_tup, p_cons, p_op, p_sl, p_var h2, p_no, p_part, p_c]
  refine ⟨1, rfl, post_of_eq (cut1 S1) ?_⟩
  rw [p_sl, p_var h2, p_no, p_part, p_c]
  refine ⟨1, rfl, post_of_eq (cut1 S1) ?_⟩
  refine post_of_eq (q_addT (i := [lotW p0]) (j := [lotW p0]) (by simp)) ?_
  rw [p_cons, p_c, p_cons, p_c, p_nil]
  refine ⟨by simp, ?_⟩
  rw [p_cons, p_tup, p_cons, p_call, p_cons, p_var h2, p_cons, p_var h4, p_cons, p_tup, p_cons, p_op, p_op, p_var h2, p_var h4, wIx_lots ep, post_rt, p_c]
  refine post_of_eq (word S1) ?_
  rw [p_cons, p_c, p_nil]
  refine ⟨by simp, ?_⟩
  rw [p_nil]
  refine ⟨rfl, s_with (by simpa using hc) (by simpa using hl') ?_⟩
  rw [p_cons, p_var h4, p_cons, p_c, p_nil]
  refine ⟨by simp, ?_⟩
  rw [p_cons, p_tup, p_cons, p_call, p_cons, p_var h2, p_cons, p_var h4, p_cons, p_tup, p_cons, p_op, p_op, p_var h2, p_var h4, wIx_lots ep, post_rt, p_c]
  refine post_of_eq (word S1) ?_
  rw [p_cons, p_c, p_nil]
  refine ⟨by simp, ?_⟩
  rw [p_nil]
  refine ⟨rfl, s_with (by simpa using hc) (by simpa using hl') ?_⟩
  rw [p_cons, p_var h4, p_cons, p_c, p_nil]
  refine ⟨by simp, ?_⟩
  rw [p_cons, p_tup, p_cons, p_call, p_cons, p_var h2, p_cons, p_var h4, p_cons, p_tup, p_cons, p_c, p_cons, p_var h5, p_nil]
  refine ⟨by simp, ?_⟩
  rw [p_nil]
  refine ⟨rfl, s_with (by simpa using hc) (by simpa using hl') ?_⟩
  rw [p_cons, p_var h4, p_cons, p_c, p_nil]
  refine ⟨by simp, ?_⟩
  rw [p_cons, p_tup, p_cons, p_call, p_cons, p_var h2, p_cons, p_var h4, p_cons, p_lst, p_cons, p_op, p_op, p_var h2, p_var h4, wIx_lots ep, post_rt, p_c]
  refine post_of_eq (word S1) ?_
  rw [p_cons, p_var h5, p_nil]
  refine ⟨by simp, ?_⟩
  rw [p_nil, hS2]
  refine ⟨rfl, s_with (by simpa using hc) (by simpa using hl') ?_⟩
  rw [p_cons, p_var h4, p_cons, p_c, p_nil]
  refine ⟨by simp, ?_⟩
  rw [p_nil]
  refine ⟨by simp, ?_⟩
  refine post_of_eq (r := seqOrStr (.tup _) _) rfl ?_
  have g1 : S2[S.length]? = some (.lst (L.map lotW)) := by rw [← hS2, ← hS1]; simp [List.getElem?_append]
  have g2 : S2[S1.length]? = some (.lst [.str p.1, .int p.2]) := by rw [← hS2]; simp
  have l1 : S1.length = S.length + 1 := by rw [← hS1]; simp
  refine ⟨[(.obj S.length, -1, "shape"), (.tup [], -1, "shape"), (.non, -1, "shape"), (.tup [lotW p0, lotW p0], 1, "twice"), (.tup ((L.map lotW).set c (.tup [.str p.1, .int 0])), c, "size"), (.tup ((L.map lotW).set c (.tup [.str p.1, .bl true])), c, "size"),
    (.tup ((L.map lotW).set c (.tup [.str "most", .int p.2])), c, "word"), (.tup ((L.map lotW).set c (.obj S1.length)), c, "shape")], rfl, ⟨[.lst (L.map lotW), .lst [.str p.1, .int p.2]], by rw [← hS2, ← hS1]; simp⟩, ?_⟩
  intro t ht M hM
  simp only [List.mem_cons, List.not_mem_nil, or_false] at ht
  rcases ht with rfl | rfl | rfl | rfl | rfl | rfl | rfl | rfl
  · refine ⟨fun S' m => lots_obj (m.2 _ _ (fun hm => ?_) g1), lf_obj⟩
    have := hM _ hm
    omega
  · exact ⟨fun S' m => lots_nil, lf_nil⟩
  · exact ⟨fun S' m => lots_lit trivial, lf_non⟩
  · exact ⟨fun S' m => lots_two (g.word p0 hp0), lf_twice (g.word p0 hp0) (g.size p0 hp0).1⟩
  · exact ⟨fun S' m => lots_set g hl' (pair_ty (by omega) rfl (fun y e => by cases e)), fault_set g ep fun kvs hk => lb_zero gw hk⟩
  · exact ⟨fun S' m => lots_set g hl' (pair_ty (by omega) rfl (fun y e => by cases e)), fault_set g ep fun kvs hk => lb_true gw hk⟩
  · exact ⟨fun S' m => lots_set g hl' (pair_ty (by decide) rfl (fun y e => by cases e)), fault_set g ep fun kvs hk => lb_most⟩
  · refine ⟨fun S' m => lots_set g hl' ⟨ty1_obj (m.2 _ _ (fun hm => ?_) g2), fun m e => by cases e⟩, fault_set g ep fun kvs hk => lb_obj⟩
    have := hM _ hm
    omega
end
end MP

set_option Elab.async false
set_option linter.all false
set_option maxRecDepth 100000
set_option maxHeartbeats 4000000
namespace MP
open PySem PySem.Spec PyProof.Rows L2 GxR Gx He
theorem end_chk2 {d d2 : DE} {ρ : En} {S : Sto} {k : Fl → Sto → Prop} {x : Str → Nat → Sto → Prop} (v v2 : Sto → Prop) (h1 : (d ρ S).post (fun w S' => w = .bl true ∧ v S') fun _ _ _ => False) (h1' : ∀ S', v S' → (d2 ρ S').post (fun w S' => w = .bl true ∧ v2 S') fun _ _ _ => False) (h2 : ∀ S', v2 S' → k (.nx ρ) S') :
    (dIfS (dOr (dNot (dTru d)) (dNot (dTru d2))) (dRet (dC (.bl false))) dNext ρ S).post k x := by
  rw [p_if, p_or, p_not, p_tru]
  refine post_imp h1 (fun w S' h => ?_) fun _ _ _ z => z.elim
  obtain ⟨rfl, hv⟩ := h
  refine post_of_eq (r := wTru (.bl true) S') rfl ?_
  show (if (!true) = true then _ else _)
  rw [if_neg (by decide), p_not, p_tru]
  refine post_imp (h1' S' hv) (fun w S2 h => ?_) fun _ _ _ z => z.elim
  obtain ⟨rfl, hv2⟩ := h
  refine post_of_eq (r := wTru (.bl true) S2) rfl ?_
  show (if (!true) = true then _ else _)
  rw [if_neg (by decide)]
  refine post_of_eq (r := dNext ρ S2) (w := .nx ρ) (S := S2) rfl ?_
  exact h2 S2 hv2
section
variable {S : Sto} {a : List Int} {t : W × Int × Str} {e0 e1 e2 e4 e5 e6 e7 e8 e9 e10 e11 e13 : Option W}
/-- wrong lots, through all six doors -/
theorem which_six (ht : ∀ S', Pre S S' → LotsTy S' t.1) (hc : lotsFault t.1 = some t.2) {k : Fl → Sto → Prop} {x : Str → Nat → Sto → Prop}
    (hk : ∀ e11 e13 S', Pre S S' → k (.nx [e0, e1, e2, some (iv a), e4, e5, e6, e7, e8, e9, e10, e11, some (wlW t), e13]) S') :
    (forD (gN 11) (dSeq (dAsg (dTup (dCons (dC (.str "lots")) (dCons (dOp wIx (dVar 12) (dC (.int 1))) (dCons (dOp wIx (dVar 12) (dC (.int 2))) dNil)))) (gN 13))
      (dIfS (dOr (dNot (dTru (dCall 2 (f_u_law_same) (dCons (dCall 4 (f_u_law_told) (dCons (dVar 11) (dCons (dOp wIx (dVar 12) (dC (.int 0))) (dCons (dVar 3) (dCons (dVar 3) dNil))))) (dCons (dVar 13) dNil))))) (dNot (dTru (dCall 2 (f_u_law_same) (dCons (dCall 4 (f_u_law_told) (dCons (dVar 11) (dCons (dOp wIx (dVar 12) (dC (.int 0))) (dCons (dC .non) (dCons (dVar 3) dNil))))) (dCons (dVar 13) dNil)))))) (dRet (dC (.bl false))) dNext))
      (fun _ => True) (six.map W.str) [e0, e1, e2, some (iv a), e4, e5, e6, e7, e8, e9, e10, e11, some (wlW t), e13] S).post k x := by
  refine forD_inv (fun ρ S' => (∃ e11 e13, ρ = [e0, e1, e2, some (iv a), e4, e5, e6, e7, e8, e9, e10, e11, some (wlW t), e13]) ∧ Pre S S') ⟨⟨_, _, rfl⟩, Pre.refl⟩ (fun _ _ _ => trivial) ?_ ?_
  · rintro w hw ρ S1 ⟨⟨y, y13, rfl⟩, p1⟩
    obtain ⟨z, hz, rfl⟩ := List.mem_map.mp hw
    have red : ([e0, e1, e2, some (iv a), e4, e5, e6, e7, e8, e9, e10, y, some (wlW t), y13] : En).set 11 (some (.str z)) = [e0, e1, e2, some (iv a), e4, e5, e6, e7, e8, e9, e10, some (.str z), some (wlW t), y13] := rfl
    rw [red]
    refine seq_asg (fun w S' => w = .tup [.str "lots", .int t.2.1, .str t.2.2] ∧ S1 = S') ?_ ?_
    · rw [p_tup, p_cons, p_c, p_cons, p_op, p_var rfl, p_c]
      refine post_of_eq ixl1 ?_
      rw [p_cons, p_op, p_var rfl, p_c]
      refine post_of_eq ixl2 ?_
      rw [p_nil]
      exact ⟨by simp, rfl, rfl⟩
    rintro _ _ ⟨rfl, rfl⟩
    refine end_chk2 (fun S' => Pre S S') (fun S' => Pre S S') ?_ ?_ ?_
    · rw [p_call, p_cons, p_call, p_cons, p_var rfl, p_cons, p_op, p_var rfl, p_c]
      refine post_of_eq ixl0 ?_
      rw [p_cons, p_var rfl, p_cons, p_var rfl, p_nil]
      refine ⟨rfl, t_lots hz (ht _ p1) ty_iv ty_iv hc fun S2 p2 => ?_⟩
      rw [p_cons, p_var rfl, p_nil]
      exact ⟨rfl, post_of_eq (q_same dp_lots) ⟨rfl, p1.trans p2⟩⟩
    · intro S2 p2
      rw [p_call, p_cons, p_call, p_cons, p_var rfl, p_cons, p_op, p_var rfl, p_c]
      refine post_of_eq ixl0 ?_
      rw [p_cons, p_c, p_cons, p_var rfl, p_nil]
      refine ⟨rfl, t_lots hz (ht _ p2) (ty1_lit trivial) ty_iv hc fun S3 p3 => ?_⟩
      rw [p_cons, p_var rfl, p_nil]
      exact ⟨rfl, post_of_eq (q_same dp_lots) ⟨rfl, p2.trans p3⟩⟩
    intro S4 p4
    exact ⟨_, rfl, ⟨_, _, rfl⟩, p4⟩
  · rintro ρ S1 ⟨⟨y, y13, rfl⟩, p1⟩
    exact hk _ _ _ p1
end
theorem doors_ok : DoorsOk := by
  intro S L a tp gr ac l0 l1 l2 l3 ht hA n1 n2 g h hl fa
  have hl' : L.length ≤ 1000 := by omega
  have la := fa.len
  rw [List.length_map] at la
  have M2 : ∀ {S S' : Sto}, Mv [tp, gr] S S' → Mv [tp, gr, ac] S S' := fun m => m.mono (by simp +contextual)
  rw [run_u_law_doors]
  unfold d_u_law_doors
  rw [post_endF]
  refine seq_asg (fun w S' => (∃ c : Nat, w = .int c ∧ c < L.length) ∧ Tape tp gr S' ∧ Mv [tp, gr] S S') (d_at ht h hl rfl rfl) ?_
  rintro _ S1 ⟨⟨c, rfl, hc⟩, t1, m1⟩
  obtain ⟨p, ep⟩ := get_of hc
  have gs := g.size p (List.mem_of_getElem? ep)
  refine seq_asg (fun w S' => w = .int p.2 ∧ S1 = S') ?_ ?_
  · rw [p_op, p_op, p_var rfl, p_var rfl, wIx_lots ep, post_rt, p_c]
    exact post_of_eq (w := .int p.2) (S := S1) (by simp [dRet, dAndV, dOrV, dNotV, dUn, dOp, dVar, dC, dB, dAnd, dOr, dNot, dTru, dCons, dNil, dTup, dCall, dCB, dIfS, dSeq, dAsg, dEx, dNext, dBrk, dCnt, dRetN, dIf, gN, dSl, dPart, dNoPart, dChain, bd, rt, endF, wB, wI, on1, on2, stuck, wTru, wIx, lotW, atI_1]) ⟨rfl, rfl⟩
  rintro _ _ ⟨rfl, rfl⟩
  refine seq_asg (fun w S' => (∃ d : Nat, w = .int d ∧ c ≤ d ∧ d < L.length) ∧ Tape tp gr S' ∧ Mv [tp, gr] S1 S') ?_ ?_
  · rw [p_op, p_var rfl, p_call, p_cons, p_var rfl, p_cons, p_op, p_cb, p_cons, p_var rfl, p_nil]
    refine post_of_eq (r := on1 wLen [lotsV L] S1) (w := .int (L.map lotW).length) rfl ?_
    rw [p_var rfl, q_sub, p_nil, List.length_map]
    refine ⟨rfl, (d_draw t1 (by omega) (by omega)).imp fun w S2 hv t2 m2 => ?_⟩
    obtain ⟨r, rfl, r0, r1⟩ := hv
    rw [q_add]
    exact ⟨⟨c + r.toNat, by congr 1; omega, by omega, by omega⟩, t2, m2⟩
  rintro _ S2 ⟨⟨d, rfl, hcd, hd⟩, t2, m2⟩
  obtain ⟨q, eq⟩ := get_of hd
  have A2 := (hA.mv m1 (by simp [n1, n2])).mv m2 (by simp [n1, n2])
  have mm2 : Mv [tp, gr, ac] S S2 := M2 (m1.trans m2)
  have lt2 := t2.lt
  have hac : ac < S2.length := by
    obtain ⟨m0, _, _, _, e, _⟩ := A2
    exact (List.getElem?_eq_some_iff.mp e).1
  refine seq_asg (fun w S' => ∃ (nl : Nat) (ws : List (W × Int)), w = .obj nl ∧ S2.length ≤ nl ∧ S'[nl]? = some (.lst (ws.map wrW)) ∧ ws.length = 6 ∧ (∀ M : List Nat, (∀ m ∈ M, m < S2.length ∨ m = nl) → ∀ q ∈ ws, Bad M S' (L.map (·.2)) q) ∧ Pre S2 S') (first_six hl h fa rfl rfl) ?_
  rintro _ S3 ⟨nl, ws, rfl, hnl, hw3, hwl, hB, p3⟩
  have nlt : nl < S3.length := (List.getElem?_eq_some_iff.mp hw3).1
  have n3 : nl ≠ tp := by omega
  have n4 : nl ≠ gr := by omega
  have n5 : nl ≠ ac := by omega
  have B3 := hB [tp, gr, ac, nl] (by simp only [List.mem_cons, List.not_mem_nil, or_false]; rintro m (rfl | rfl | rfl | rfl) <;> omega)
  clear hB
  obtain ⟨s, hs⟩ : ∃ s, p.2 = s := ⟨_, rfl⟩
  rw [hs] at gs ⊢
  obtain ⟨Z, S4, eZ, hS4, hZl, hZ⟩ := (fun h => by
    obtain ⟨pz, S4, e, Z, rfl, h1, h2, h3⟩ := post_ex h
    exact ⟨Z, S4, e, h1, h2, h3⟩ : _ → ∃ Z S4, dSeqI (dTup (dCons (dOp wAdd (dVar 5) (dC (.int 1))) (dCons (dOp wSub (dC (.int 0)) (dC (.int 1))) (dCons (dC (.bl true)) (dCons (dC (.bl false)) (dCons (dC .non) (dCons (dC (.str "0")) (dCons (dTup (dCons (dC (.int 0)) dNil)) (dCons (dLst (dCons (dC (.int 0)) dNil)) (dCons (dOp wSub (dC (.int 0)) (dVar 5)) (dCons (dOp wPow (dC (.int 10)) (dC (.int 30))) dNil))))))))))) [some (.obj tp), some (.obj ac), some (lotsV L), some (iv a), some (.int (c : Int)), some (.int s), some (.int (d : Int)), some (.obj nl), none, none, none, none, none, none] S3 = .ok (Z, fun _ => True) S4 ∧ S4 = S3 ++ [.lst [.int 0]] ∧ Z.length = 10 ∧ ∀ z ∈ Z, numOk z s = false ∧ ∀ M : List Nat, (∀ m ∈ M, m < S3.length) → ∀ S2, Mv M S4 S2 → Ty S2 z)
    (ten_items (j5 := 5) (s := s) (S := S3) (ρ := [some (.obj tp), some (.obj ac), some (lotsV L), some (iv a), some (.int (c : Int)), some (.int s), some (.int (d : Int)), some (.obj nl), none, none, none, none, none, none]) gs.1 gs.2 rfl)
  have p4 : Pre S3 S4 := by rw [hS4]; exact ⟨_, rfl⟩
  have ty4 : ∀ z ∈ Z, ∀ S', Mv [tp, gr, ac, nl] S4 S' → Ty S' z := fun z hz => (hZ z hz).2 _ (by simp only [List.mem_cons, List.not_mem_nil, or_false]; rintro m (rfl | rfl | rfl | rfl) <;> omega)
  have num4 : ∀ z ∈ Z, numOk z s = false := fun z hz => (hZ z hz).1
  clear hZ
  have es : (L.map (·.2))[c]? = some s := by rw [List.getElem?_map, ep, ← hs]; rfl
  have hca : c < a.length := by omega
  have t4 := t2.pre (p3.trans p4)
  have A4 := A2.pre (p3.trans p4)
  have m4 : Mv [tp, gr, ac] S S4 := mm2.trans (p3.trans p4).mv
  refine seq_for (items := Z) (gd := fun _ => True) (fun S' => S4 = S') (post_of_eq eZ ⟨rfl, rfl⟩) ?_
  rintro _ rfl
  have W4 : Mv [nl] S4 S4 := Mv.refl
  refine forD_cnt (fun n ρ S' => (∃ y8, ρ = [some (.obj tp), some (.obj ac), some (lotsV L), some (iv a), some (.int (c : Int)), some (.int s), some (.int (d : Int)), some (.obj nl), y8, none, none, none, none, none]) ∧ Mv [nl] S4 S' ∧
    ∃ ws : List (W × Int), S'[nl]? = some (.lst (ws.map wrW)) ∧ ws.length = 6 + n ∧ ∀ q ∈ ws, Bad [tp, gr, ac, nl] S' (L.map (·.2)) q) ⟨⟨_, rfl⟩, W4, ws, p4.get hw3, hwl, fun q hq => (B3 q hq).mv p4.mv⟩ (fun _ _ _ _ => trivial) ?_ ?_
  · rintro z hz n ρ S5 ⟨⟨y8, rfl⟩, m5, vs, hv5, hvl, B5⟩ hn
    have red : ([some (.obj tp), some (.obj ac), some (lotsV L), some (iv a), some (.int (c : Int)), some (.int s), some (.int (d : Int)), some (.obj nl), y8, none, none, none, none, none] : En).set 8 (some z) = [some (.obj tp), some (.obj ac), some (lotsV L), some (iv a), some (.int (c : Int)), some (.int s), some (.int (d : Int)), some (.obj nl), some z, none, none, none, none, none] := rfl
    rw [red, p_ex, p_ty, p_var rfl]
    refine post_of_eq (q_isL hv5) ?_
    rw [p_cons, p_tup, p_cons, p_call, p_cons, p_var rfl, p_cons, p_var rfl, p_cons, p_var rfl, p_nil]
    refine ⟨rfl, s_with (by simpa using hca) (by simp; omega) ?_⟩
    rw [p_cons, p_var rfl, p_nil]
    refine ⟨by simp, ?_⟩
    rw [p_nil]
    refine post_of_eq (q_app hv5 (by rw [List.length_map]; omega)) ?_
    have mv : Mv [tp, gr, ac, nl] S5 (S5.set nl (.lst (vs.map wrW ++ [.tup [.tup ((a.map W.int).set c z), .int (c : Int)]]))) := Mv.set (by simp)
    refine ⟨_, rfl, ⟨_, rfl⟩, m5.trans (Mv.set (by simp)), vs ++ [(.tup ((a.map W.int).set c z), (c : Int))], ?_, by simp; omega, ?_⟩
    · rw [set_eq hv5, List.map_append]
      rfl
    · intro q hq
      rcases List.mem_append.mp hq with r | r
      · exact (B5 q r).mv mv
      · rw [List.mem_singleton.mp r]
        refine ⟨fun S' m => ty_set (ty4 z hz S' ?_), cf_set fa es (num4 z hz)⟩
        exact ((m5.mono (js := [tp, gr, ac, nl]) (by simp +contextual)).trans mv).trans m
  rintro ρ S5 ⟨⟨y8, rfl⟩, m5, vs, hv5, hvl, B5⟩
  rw [hZl] at hvl
  show ((dSeq _ _) _ S5).post _ _
  rw [post_seq, p_ex, p_ty, p_var rfl]
  refine post_of_eq (q_isL hv5) ?_
  rw [p_cons, p_tup, p_cons, p_call, p_cons, p_call, p_cons, p_var rfl, p_cons, p_var rfl, p_cons, p_op, p_op, p_op, p_var rfl, p_var rfl, wIx_lots eq, post_rt, p_c]
  refine post_of_eq (w := .int q.2) (S := S5) (by simp [dRet, dAndV, dOrV, dNotV, dUn, dOp, dVar, dC, dB, dAnd, dOr, dNot, dTru, dCons, dNil, dTup, dCall, dCB, dIfS, dSeq, dAsg, dEx, dNext, dBrk, dCnt, dRetN, dIf, gN, dSl, dPart, dNoPart, dChain, bd, rt, endF, wB, wI, on1, on2, stuck, wTru, wIx, lotW, atI_1]) ?_
  rw [p_c, q_add, p_nil]
  refine ⟨rfl, s_with (by simp; omega) (by simp; omega) ?_⟩
  rw [p_cons, p_var rfl, p_cons, p_op, p_c, p_c, q_sub, p_nil]
  refine ⟨rfl, s_with (by simp; omega) (by simp; omega) ?_⟩
  rw [p_cons, p_var rfl, p_nil]
  refine ⟨by simp, ?_⟩
  rw [p_nil]
  refine post_of_eq (q_app hv5 (by rw [List.length_map]; omega)) ?_
  obtain ⟨l, hlv⟩ : ∃ l, ((a.map W.int).set d (.int (q.2 + 1))).set c (.int (0 - 1)) = l := ⟨_, rfl⟩
  have lint : ∀ x ∈ l, ∃ z : Int, x = .int z := fun x hx => by
    rw [← hlv] at hx
    rcases List.mem_or_eq_of_mem_set hx with r | r
    · rcases List.mem_or_eq_of_mem_set r with r | r
      · exact mem_int r
      · exact ⟨_, r⟩
    · exact ⟨_, r⟩
  have lcf : cfault (L.map (·.2)) (.tup l) = some (c : Int) := by
    unfold cfault
    have hll : l.length = (L.map (·.2)).length := by rw [← hlv]; simp; omega
    simp only [if_pos hll]
    rw [← hlv, cfK_set (s := s) (by simp; omega) es (fun e t u he h1 h2 => ?_) rfl]
    · simp
    · rw [List.getElem?_set_ne (by omega), List.getElem?_map] at h2
      cases qa : a[e]? with
      | none => rw [qa] at h2; cases h2
      | some z =>
        rw [qa] at h2
        cases h2
        have := fa.get h1 qa
        simp [numOk, this]
  rw [hlv]
  have mv6 : Mv [tp, gr, ac, nl] S5 (S5.set nl (.lst (vs.map wrW ++ [.tup [.tup l, .int (c : Int)]]))) := Mv.set (by simp)
  have hv6 : (S5.set nl (.lst (vs.map wrW ++ [.tup [.tup l, .int (c : Int)]])))[nl]? = some (.lst ((vs ++ [(W.tup l, (c : Int))]).map wrW)) := by
    rw [set_eq hv5, List.map_append]
    rfl
  have B6 : ∀ q ∈ vs ++ [(W.tup l, (c : Int))], Bad [tp, gr, ac, nl] (S5.set nl (.lst (vs.map wrW ++ [.tup [.tup l, .int (c : Int)]]))) (L.map (·.2)) q := fun q hq => by
    rcases List.mem_append.mp hq with r | r
    · exact (B5 q r).mv mv6
    · rw [List.mem_singleton.mp r]
      exact ⟨fun S' m => ty1_ints lint, lcf⟩
  have m56 : Mv [nl] S4 (S5.set nl (.lst (vs.map wrW ++ [.tup [.tup l, .int (c : Int)]]))) := m5.trans (Mv.set (by simp))
  obtain ⟨S6, hS6⟩ : ∃ S6, S5.set nl (.lst (vs.map wrW ++ [.tup [.tup l, .int (c : Int)]])) = S6 := ⟨_, rfl⟩
  rw [hS6] at hv6 B6 m56 ⊢
  obtain ⟨us, hus⟩ : ∃ us, vs ++ [(W.tup l, (c : Int))] = us := ⟨_, rfl⟩
  rw [hus] at hv6 B6
  have hul : us.length = 17 := by rw [← hus, List.length_append, hvl]; rfl
  have une : us ≠ [] := fun e => by rw [e] at hul; simp at hul
  have t6 : Tape tp gr S6 := t4.mv m56 (by simp; omega) (by simp; omega)
  have A6 : Askd ac l0 l1 l2 l3 S6 := A4.mv m56 (by simp; omega)
  have m6 : Mv [tp, gr, ac] S S6 := by
    have k1 : Mv [tp, gr, ac] S2 S6 := by
      refine ⟨Nat.le_trans (p3.trans p4).len m56.1, fun i o hi hg => ?_⟩
      have : i < S2.length := (List.getElem?_eq_some_iff.mp hg).1
      exact m56.2 i o (by simp; omega) ((p3.trans p4).get hg)
    exact mm2.trans k1
  refine seq_for (items := us.map wrW) (gd := fun S' => S'[nl]? = some (.lst (us.map wrW))) (fun S' => S6 = S') ?_ ?_
  · rw [p_seqI, p_var rfl]
    exact post_of_eq (seq_lst hv6) ⟨rfl, rfl⟩
  rintro _ rfl
  refine forD_cnt (fun n ρ S' => (∃ y9 y10 y11, ρ = [some (.obj tp), some (.obj ac), some (lotsV L), some (iv a), some (.int (c : Int)), some (.int s), some (.int (d : Int)), some (.obj nl), y8, y9, y10, y11, none, none]) ∧ Tape tp gr S' ∧ Askd ac l0 l1 l2 (l3 + n) S' ∧ Mv [tp, gr, ac] S6 S')
    ⟨⟨_, _, _, rfl⟩, t6, by simpa using A6, Mv.refl⟩ (fun n ρ S' hI => hI.2.2.2.2 nl _ (by simp [n3, n4, n5]) hv6) ?_ ?_
  · rintro w hw n ρ S7 ⟨⟨y9, y10, y11, rfl⟩, t7, A7, m7⟩ hn
    obtain ⟨r, hr, rfl⟩ := List.mem_map.mp hw
    have red : ([some (.obj tp), some (.obj ac), some (lotsV L), some (iv a), some (.int (c : Int)), some (.int s), some (.int (d : Int)), some (.obj nl), y8, y9, y10, y11, none, none] : En).set 9 (some (wrW r)) = [some (.obj tp), some (.obj ac), some (lotsV L), some (iv a), some (.int (c : Int)), some (.int s), some (.int (d : Int)), some (.obj nl), y8, some (wrW r), y10, y11, none, none] := rfl
    rw [red]
    have m7' : Mv [tp, gr, ac, nl] S6 S7 := m7.mono (by simp +contextual)
    refine post_imp (bad_in (x := fun _ _ _ => False) t7 A7 n1 n2 n3 n4 n5 g h hl' fa (m7.2 nl _ (by simp [n3, n4, n5]) hv6) une (by omega) (fun q hq => (B6 q hq).mv m7') hr rfl) (fun fl S8 q => ?_) fun _ _ _ z => z
    obtain ⟨⟨z10, z11, rfl⟩, t8, A8, m8⟩ := q
    exact ⟨_, rfl, ⟨_, _, _, rfl⟩, t8, A8.le (by omega) (by omega) (by omega) (by omega), m7.trans m8⟩
  rintro ρ S7 ⟨⟨y9, y10, y11, rfl⟩, t7, A7, m7⟩
  rw [List.length_map, hul] at A7
  have A7' : Askd ac l0 l1 l2 (l3 + 1) S7 := A7.le (by omega) (by omega) (by omega) (by omega)
  have mm7 := m6.trans m7
  have lt7 := t7.lt
  have hac7 : ac < S7.length := by
    obtain ⟨m0, _, _, _, e, _⟩ := A7
    exact (List.getElem?_eq_some_iff.mp e).1
  have h5 : ([some (.obj tp), some (.obj ac), some (lotsV L), some (iv a), some (.int (c : Int)), some (.int s), some (.int (d : Int)), some (.obj nl), y8, y9, y10, y11, none, none] : En)[5]? = some (some (.int p.2)) := by rw [hs]; rfl
  obtain ⟨pq, S8, eT, T, rfl, p8, BT⟩ := post_ex (eight_items (S := S7) (j2 := 2) (j4 := 4) (j5 := 5) g hl ep rfl rfl h5)
  have BT' : ∀ t ∈ T, BadL [tp, gr, ac] S8 t := fun t ht => BT t ht _ (by simp only [List.mem_cons, List.not_mem_nil, or_false]; rintro m (rfl | rfl | rfl) <;> omega)
  refine seq_for (items := T.map wlW) (gd := fun _ => True) (fun S' => S8 = S') (post_of_eq eT ⟨rfl, rfl⟩) ?_
  rintro _ rfl
  refine forD_inv (fun ρ S' => (∃ y11 y12 y13, ρ = [some (.obj tp), some (.obj ac), some (lotsV L), some (iv a), some (.int (c : Int)), some (.int s), some (.int (d : Int)), some (.obj nl), y8, y9, y10, y11, y12, y13]) ∧ Pre S8 S') ⟨⟨_, _, _, rfl⟩, Pre.refl⟩ (fun _ _ _ => trivial) ?_ ?_
  · rintro w hw ρ S9 ⟨⟨z11, z12, z13, rfl⟩, p9⟩
    obtain ⟨t, ht, rfl⟩ := List.mem_map.mp hw
    have red : ([some (.obj tp), some (.obj ac), some (lotsV L), some (iv a), some (.int (c : Int)), some (.int s), some (.int (d : Int)), some (.obj nl), y8, y9, y10, z11, z12, z13] : En).set 12 (some (wlW t)) = [some (.obj tp), some (.obj ac), some (lotsV L), some (iv a), some (.int (c : Int)), some (.int s), some (.int (d : Int)), some (.obj nl), y8, y9, y10, z11, some (wlW t), z13] := rfl
    rw [red, p_for]
    simp only [post_seq, p_ret, p_asg, p_ex, p_op, p_un, p_cb, p_cons, p_nil, p_c, p_call, p_if, p_b, p_tru, p_not, p_and, p_or, p_tup, p_lst, p_next, p_sl, p_no, p_part, p_for, p_rng, p_seqI, post_endF, dVar, List.getElem?_cons_zero, List.getElem?_cons_succ, List.set_cons_zero, List.set_cons_succ, post_rt, List.length_cons, List.length_nil, Nat.zero_add, Nat.reduceAdd, true_and, on1, on2]
    refine ⟨by decide, ?_⟩
    refine post_of_eq (w := (six.map W.str, fun _ => True)) (S := S9) rfl ?_
    refine which_six (fun S' pp => (BT' t ht).ty S' (p9.trans pp).mv) (BT' t ht).cf fun e11 e13 S10 p10 => ?_
    exact ⟨_, rfl, ⟨_, _, _, rfl⟩, p9.trans p10⟩
  rintro ρ S9 ⟨⟨z11, z12, z13, rfl⟩, p9⟩
  have e : ∀ ρ : En, dRet (dC (.bl true)) ρ S9 = .ok (.rtn (.bl true)) S9 := fun _ => rfl
  refine post_of_eq (e _) ?_
  have p79 := p8.trans p9
  exact ⟨rfl, t7.pre p79, A7'.pre p79, mm7.trans p79.mv⟩
end MP

set_option Elab.async false
set_option linter.all false
set_option maxRecDepth 100000
set_option maxHeartbeats 4000000
namespace MP
theorem pure1 : ∀ ns : List Int, ns.length ≤ 63 → (∀ z ∈ ns, PySem.Builtin.Int.intBits z ≤ 1048576) → (f_law [.obj 0] [.ro (ns.map W.int)]).post (fun w _ => w = .bl true) fun _ _ _ => False := pure1_of small_ok doors_ok
theorem pure2 : ∀ ns : List Int, ns.length ≤ 63 → (∀ z ∈ ns, PySem.Builtin.Int.intBits z ≤ 1048576) → (f_law [.kl (ns.map W.int)] []).post (fun w _ => w = .bl true) fun _ _ _ => False := pure2_of small_ok doors_ok
end MP

set_option Elab.async false
set_option linter.all false
set_option maxRecDepth 100000
set_option maxHeartbeats 4000000
namespace MP
open PySem PySem.Spec PyProof.Rows L2 GxR Gx He
def fsl_0 : List (PySem.W.Frag → Bool) := [fun K => (Fa.glo "_law_tape").ok K,
  fun K => (Fa.glo "_law_draw").ok K,
  fun K => (Fa.glo "_law_kept").ok K,
  fun K => (Fa.glo "_law_word").ok K,
  fun K => (Fa.glo "_law_size").ok K,
  fun K => (Fa.glo "_law_lots").ok K,
  fun K => (Fa.glo "_law_sizes").ok K,
  fun K => (Fa.glo "_law_with").ok K,
  fun K => (Fa.glo "_law_same").ok K,
  fun K => (Fa.glo "is_tuple").ok K,
  fun K => (Fa.glo "is_word").ok K,
  fun K => (Fa.glo "is_integer").ok K,
  fun K => (Fa.glo "lot_fault").ok K,
  fun K => (Fa.glo "lots_fault").ok K,
  fun K => (Fa.glo "check_lots").ok K,
  fun K => (Fa.glo "is_number").ok K,
  fun K => (Fa.glo "is_number_to").ok K,
  fun K => (Fa.glo "counts_fault").ok K,
  fun K => (Fa.glo "sizes_of").ok K,
  fun K => (Fa.glo "check_counts").ok K,
  fun K => (Fa.glo "common_counts").ok K,
  fun K => (Fa.glo "least_common").ok K,
  fun K => (Fa.glo "is_below").ok K,
  fun K => (Fa.glo "below").ok K,
  fun K => (Fa.glo "rest_counts").ok K,
  fun K => (Fa.glo "outside").ok K,
  fun K => (Fa.glo "first_spans").ok K,
  fun K => (Fa.glo "first_houses").ok K,
  fun K => (Fa.glo "everyone").ok K,
  fun K => (Fa.glo "nobody").ok K,
  fun K => (Fa.glo "_law_told").ok K,
  fun K => (Fa.glo "_law_part").ok K,
  fun K => (Fa.glo "_law_ask_least").ok K,
  fun K => (Fa.glo "_law_is_below").ok K,
  fun K => (Fa.glo "_law_ask_below").ok K,
  fun K => (Fa.glo "_law_pair").ok K,
  fun K => (Fa.glo "_law_first_last").ok K,
  fun K => (Fa.glo "_law_upto").ok K,
  fun K => (Fa.glo "_law_second").ok K,
  fun K => (Fa.glo "_law_bits").ok K]
def fsl_1 : List (PySem.W.Frag → Bool) := [fun K => (Fa.glo "_law_subsets").ok K,
  fun K => (Fa.glo "_law_fewest").ok K,
  fun K => (Fa.glo "_law_fits").ok K,
  fun K => (Fa.glo "_law_small").ok K,
  fun K => (Fa.glo "_law_doors").ok K,
  fun K => (Fa.glo "_law_between").ok K,
  fun K => (Fa.glo "law").ok K,
  fun K => (Fa.glo "AssentError").ok K,
  fun K => (Fa.glo "BadCounts").ok K,
  fun K => (Fa.glo "BadLots").ok K,
  fun K => (Fa.free "abs").ok K,
  fun K => (Fa.free "all").ok K,
  fun K => (Fa.free "bool").ok K,
  fun K => (Fa.free "enumerate").ok K,
  fun K => (Fa.free "int").ok K,
  fun K => (Fa.free "isinstance").ok K,
  fun K => (Fa.free "len").ok K,
  fun K => (Fa.free "list").ok K,
  fun K => (Fa.free "max").ok K,
  fun K => (Fa.free "min").ok K,
  fun K => (Fa.free "range").ok K,
  fun K => (Fa.free "str").ok K,
  fun K => (Fa.free "sum").ok K,
  fun K => (Fa.free "tuple").ok K,
  fun K => (Fa.free "zip").ok K,
  fun K => tupStrB "KEPT_WORDS" ["of", "in", "most", "all", "one", "heavy", "least", "spare", "mirror", "nobody", "manner", "rule", "lot", "trust", "charter", "row", "ask", "echo", "vote", "look", "hold", "change", "to"] K,
  fun K => (Fa.str "LETTERS" "abcdefghijklmnopqrstuvwxyz").ok K,
  fun K => (Fa.str "LETTERS_AND_FIGURES" "abcdefghijklmnopqrstuvwxyz0123456789").ok K,
  fun K => iniB "BadLots" K,
  fun K => xfB K (ga K "BadLots"),
  fun K => (Fa.noat "BadLots" "at").ok K,
  fun K => (Fa.noat "BadLots" "word").ok K,
  fun K => iniB "BadCounts" K,
  fun K => xfB K (ga K "BadCounts"),
  fun K => (Fa.noat "BadCounts" "at").ok K,
  fun K => (Fa.exm "BadLots" "AssentError" true).ok K,
  fun K => (Fa.exm "BadCounts" "AssentError" true).ok K,
  fun K => (Fa.exm "BadLots" "BadCounts" false).ok K,
  fun K => (Fa.exm "BadCounts" "BadCounts" true).ok K,
  fun K => (Fa.exm "BadLots" "BadLots" true).ok K]
def fsl_2 : List (PySem.W.Frag → Bool) := [fun K => (Fa.exm "BadCounts" "BadLots" false).ok K,
  fun K => tabFB "is_word" K,
  fun K => tabFB "sizes_of" K,
  fun K => tabFB "common_counts" K,
  fun K => tabFB "rest_counts" K,
  fun K => tabFB "first_houses" K]
def fsl : List (PySem.W.Frag → Bool) := (fsl_0 : List (PySem.W.Frag → Bool)) ++ (fsl_1 : List (PySem.W.Frag → Bool)) ++ (fsl_2 : List (PySem.W.Frag → Bool))
def fnl_0 : List DefD := [⟨("_law_tape", none), "_law_tape", "_law_tape", defArgs st_u_law_tape, defBody st_u_law_tape, defScope st_u_law_tape, [], []⟩,
  ⟨("_law_draw", none), "_law_draw", "_law_draw", defArgs st_u_law_draw, defBody st_u_law_draw, defScope st_u_law_draw, [], []⟩,
  ⟨("_law_kept", none), "_law_kept", "_law_kept", defArgs st_u_law_kept, defBody st_u_law_kept, defScope st_u_law_kept, [], []⟩,
  ⟨("_law_word", none), "_law_word", "_law_word", defArgs st_u_law_word, defBody st_u_law_word, defScope st_u_law_word, [], []⟩,
  ⟨("_law_size", none), "_law_size", "_law_size", defArgs st_u_law_size, defBody st_u_law_size, defScope st_u_law_size, [], []⟩,
  ⟨("_law_lots", none), "_law_lots", "_law_lots", defArgs st_u_law_lots, defBody st_u_law_lots, defScope st_u_law_lots, [], []⟩,
  ⟨("_law_sizes", none), "_law_sizes", "_law_sizes", defArgs st_u_law_sizes, defBody st_u_law_sizes, defScope st_u_law_sizes, [], []⟩,
  ⟨("_law_with", none), "_law_with", "_law_with", defArgs st_u_law_with, defBody st_u_law_with, defScope st_u_law_with, [], []⟩,
  ⟨("_law_same", none), "_law_same", "_law_same", defArgs st_u_law_same, defBody st_u_law_same, defScope st_u_law_same, [], []⟩,
  ⟨("is_tuple", none), "is_tuple", "is_tuple", defArgs st_is_tuple, defBody st_is_tuple, defScope st_is_tuple, [], []⟩,
  ⟨("is_word", none), "is_word", "is_word", defArgs st_is_word, defBody st_is_word, defScope st_is_word, [], []⟩,
  ⟨("is_integer", none), "is_integer", "is_integer", defArgs st_is_integer, defBody st_is_integer, defScope st_is_integer, [], []⟩,
  ⟨("lot_fault", none), "lot_fault", "lot_fault", defArgs st_lot_fault, defBody st_lot_fault, defScope st_lot_fault, [], []⟩,
  ⟨("lots_fault", none), "lots_fault", "lots_fault", defArgs st_lots_fault, defBody st_lots_fault, defScope st_lots_fault, [], []⟩,
  ⟨("check_lots", none), "check_lots", "check_lots", defArgs st_check_lots, defBody st_check_lots, defScope st_check_lots, [], []⟩,
  ⟨("is_number", none), "is_number", "is_number", defArgs st_is_number, defBody st_is_number, defScope st_is_number, [], []⟩,
  ⟨("is_number_to", none), "is_number_to", "is_number_to", defArgs st_is_number_to, defBody st_is_number_to, defScope st_is_number_to, [], []⟩,
  ⟨("counts_fault", none), "counts_fault", "counts_fault", defArgs st_counts_fault, defBody st_counts_fault, defScope st_counts_fault, [], []⟩,
  ⟨("sizes_of", none), "sizes_of", "sizes_of", defArgs st_sizes_of, defBody st_sizes_of, defScope st_sizes_of, [], []⟩,
  ⟨("check_counts", none), "check_counts", "check_counts", defArgs st_check_counts, defBody st_check_counts, defScope st_check_counts, [], []⟩,
  ⟨("common_counts", none), "common_counts", "common_counts", defArgs st_common_counts, defBody st_common_counts, defScope st_common_counts, [], []⟩,
  ⟨("least_common", none), "least_common", "least_common", defArgs st_least_common, defBody st_least_common, defScope st_least_common, [], []⟩,
  ⟨("is_below", none), "is_below", "is_below", defArgs st_is_below, defBody st_is_below, defScope st_is_below, [], []⟩,
  ⟨("below", none), "below", "below", defArgs st_below, defBody st_below, defScope st_below, [], []⟩,
  ⟨("rest_counts", none), "rest_counts", "rest_counts", defArgs st_rest_counts, defBody st_rest_counts, defScope st_rest_counts, [], []⟩,
  ⟨("outside", none), "outside", "outside", defArgs st_outside, defBody st_outside, defScope st_outside, [], []⟩,
  ⟨("first_spans", none), "first_spans", "first_spans", defArgs st_first_spans, defBody st_first_spans, defScope st_first_spans, [], []⟩,
  ⟨("first_houses", none), "first_houses", "first_houses", defArgs st_first_houses, defBody st_first_houses, defScope st_first_houses, [], []⟩,
  ⟨("everyone", none), "everyone", "everyone", defArgs st_everyone, defBody st_everyone, defScope st_everyone, [], []⟩,
  ⟨("nobody", none), "nobody", "nobody", defArgs st_nobody, defBody st_nobody, defScope st_nobody, [], []⟩,
  ⟨("_law_told", none), "_law_told", "_law_told", defArgs st_u_law_told, defBody st_u_law_told, defScope st_u_law_told, [], []⟩,
  ⟨("_law_part", none), "_law_part", "_law_part", defArgs st_u_law_part, defBody st_u_law_part, defScope st_u_law_part, [], []⟩,
  ⟨("_law_ask_least", none), "_law_ask_least", "_law_ask_least", defArgs st_u_law_ask_least, defBody st_u_law_ask_least, defScope st_u_law_ask_least, [], []⟩,
  ⟨("_law_is_below", none), "_law_is_below", "_law_is_below", defArgs st_u_law_is_below, defBody st_u_law_is_below, defScope st_u_law_is_below, [], []⟩,
  ⟨("_law_ask_below", none), "_law_ask_below", "_law_ask_below", defArgs st_u_law_ask_below, defBody st_u_law_ask_below, defScope st_u_law_ask_below, [], []⟩,
  ⟨("_law_pair", none), "_law_pair", "_law_pair", defArgs st_u_law_pair, defBody st_u_law_pair, defScope st_u_law_pair, [], []⟩,
  ⟨("_law_first_last", none), "_law_first_last", "_law_first_last", defArgs st_u_law_first_last, defBody st_u_law_first_last, defScope st_u_law_first_last, [], []⟩,
  ⟨("_law_upto", none), "_law_upto", "_law_upto", defArgs st_u_law_upto, defBody st_u_law_upto, defScope st_u_law_upto, [], []⟩,
  ⟨("_law_second", none), "_law_second", "_law_second", defArgs st_u_law_second, defBody st_u_law_second, defScope st_u_law_second, [], []⟩,
  ⟨("_law_bits", none), "_law_bits", "_law_bits", defArgs st_u_law_bits, defBody st_u_law_bits, defScope st_u_law_bits, [], []⟩]
def fnl_1 : List DefD := [⟨("_law_subsets", none), "_law_subsets", "_law_subsets", defArgs st_u_law_subsets, defBody st_u_law_subsets, defScope st_u_law_subsets, [], []⟩,
  ⟨("_law_fewest", none), "_law_fewest", "_law_fewest", defArgs st_u_law_fewest, defBody st_u_law_fewest, defScope st_u_law_fewest, [], []⟩,
  ⟨("_law_fits", none), "_law_fits", "_law_fits", defArgs st_u_law_fits, defBody st_u_law_fits, defScope st_u_law_fits, [], []⟩,
  ⟨("_law_small", none), "_law_small", "_law_small", defArgs st_u_law_small, defBody st_u_law_small, defScope st_u_law_small, [], []⟩,
  ⟨("_law_doors", none), "_law_doors", "_law_doors", defArgs st_u_law_doors, defBody st_u_law_doors, defScope st_u_law_doors, [], []⟩,
  ⟨("_law_between", none), "_law_between", "_law_between", defArgs st_u_law_between, defBody st_u_law_between, defScope st_u_law_between, [], []⟩,
  ⟨("law", none), "law", "law", defArgs st_law, defBody st_law, defScope st_law, [], []⟩,
  ⟨("BadLots", some "__init__"), "__init__", "BadLots.__init__", defArgs sI_BadLots, defBody sI_BadLots, defScope sI_BadLots, [], []⟩,
  ⟨("BadCounts", some "__init__"), "__init__", "BadCounts.__init__", defArgs sI_BadCounts, defBody sI_BadCounts, defScope sI_BadCounts, [], []⟩]
def fnl : List DefD := (fnl_0 : List DefD) ++ (fnl_1 : List DefD)
def ask : Ask := ⟨5, tabNames, fsl, fnl⟩
theorem tbs_ask {K : PySem.W.Frag} : tbs ask K = tabs K := rfl
section
variable {K : PySem.W.Frag} {h : Heap} {mg : Str → Option Value}
theorem facts (c : SaysM ask K h) (G : h.Ns mainGlobals mg) : Facts K mg where
  g_u_law_tape := glo_ok c.kin G (c.fact 0)
  d_u_law_tape := c.def_ 0
  g_u_law_draw := glo_ok c.kin G (c.fact 1)
  d_u_law_draw := c.def_ 1
  g_u_law_kept := glo_ok c.kin G (c.fact 2)
  d_u_law_kept := c.def_ 2
  g_u_law_word := glo_ok c.kin G (c.fact 3)
  d_u_law_word := c.def_ 3
  g_u_law_size := glo_ok c.kin G (c.fact 4)
  d_u_law_size := c.def_ 4
  g_u_law_lots := glo_ok c.kin G (c.fact 5)
  d_u_law_lots := c.def_ 5
  g_u_law_sizes := glo_ok c.kin G (c.fact 6)
  d_u_law_sizes := c.def_ 6
  g_u_law_with := glo_ok c.kin G (c.fact 7)
  d_u_law_with := c.def_ 7
  g_u_law_same := glo_ok c.kin G (c.fact 8)
  d_u_law_same := c.def_ 8
  g_is_tuple := glo_ok c.kin G (c.fact 9)
  d_is_tuple := c.def_ 9
  g_is_word := glo_ok c.kin G (c.fact 10)
  d_is_word := c.def_ 10
  g_is_integer := glo_ok c.kin G (c.fact 11)
  d_is_integer := c.def_ 11
  g_lot_fault := glo_ok c.kin G (c.fact 12)
  d_lot_fault := c.def_ 12
  g_lots_fault := glo_ok c.kin G (c.fact 13)
  d_lots_fault := c.def_ 13
  g_check_lots := glo_ok c.kin G (c.fact 14)
  d_check_lots := c.def_ 14
  g_is_number := glo_ok c.kin G (c.fact 15)
  d_is_number := c.def_ 15
  g_is_number_to := glo_ok c.kin G (c.fact 16)
  d_is_number_to := c.def_ 16
  g_counts_fault := glo_ok c.kin G (c.fact 17)
  d_counts_fault := c.def_ 17
  g_sizes_of := glo_ok c.kin G (c.fact 18)
  d_sizes_of := c.def_ 18
  g_check_counts := glo_ok c.kin G (c.fact 19)
  d_check_counts := c.def_ 19
  g_common_counts := glo_ok c.kin G (c.fact 20)
  d_common_counts := c.def_ 20
  g_least_common := glo_ok c.kin G (c.fact 21)
  d_least_common := c.def_ 21
  g_is_below := glo_ok c.kin G (c.fact 22)
  d_is_below := c.def_ 22
  g_below := glo_ok c.kin G (c.fact 23)
  d_below := c.def_ 23
  g_rest_counts := glo_ok c.kin G (c.fact 24)
  d_rest_counts := c.def_ 24
  g_outside := glo_ok c.kin G (c.fact 25)
  d_outside := c.def_ 25
  g_first_spans := glo_ok c.kin G (c.fact 26)
  d_first_spans := c.def_ 26
  g_first_houses := glo_ok c.kin G (c.fact 27)
  d_first_houses := c.def_ 27
  g_everyone := glo_ok c.kin G (c.fact 28)
  d_everyone := c.def_ 28
  g_nobody := glo_ok c.kin G (c.fact 29)
  d_nobody := c.def_ 29
  g_u_law_told := glo_ok c.kin G (c.fact 30)
  d_u_law_told := c.def_ 30
  g_u_law_part := glo_ok c.kin G (c.fact 31)
  d_u_law_part := c.def_ 31
  g_u_law_ask_least := glo_ok c.kin G (c.fact 32)
  d_u_law_ask_least := c.def_ 32
  g_u_law_is_below := glo_ok c.kin G (c.fact 33)
  d_u_law_is_below := c.def_ 33
  g_u_law_ask_below := glo_ok c.kin G (c.fact 34)
  d_u_law_ask_below := c.def_ 34
  g_u_law_pair := glo_ok c.kin G (c.fact 35)
  d_u_law_pair := c.def_ 35
  g_u_law_first_last := glo_ok c.kin G (c.fact 36)
  d_u_law_first_last := c.def_ 36
  g_u_law_upto := glo_ok c.kin G (c.fact 37)
  d_u_law_upto := c.def_ 37
  g_u_law_second := glo_ok c.kin G (c.fact 38)
  d_u_law_second := c.def_ 38
  g_u_law_bits := glo_ok c.kin G (c.fact 39)
  d_u_law_bits := c.def_ 39
  g_u_law_subsets := glo_ok c.kin G (c.fact 40)
  d_u_law_subsets := c.def_ 40
  g_u_law_fewest := glo_ok c.kin G (c.fact 41)
  d_u_law_fewest := c.def_ 41
  g_u_law_fits := glo_ok c.kin G (c.fact 42)
  d_u_law_fits := c.def_ 42
  g_u_law_small := glo_ok c.kin G (c.fact 43)
  d_u_law_small := c.def_ 43
  g_u_law_doors := glo_ok c.kin G (c.fact 44)
  d_u_law_doors := c.def_ 44
  g_u_law_between := glo_ok c.kin G (c.fact 45)
  d_u_law_between := c.def_ 45
  g_law := glo_ok c.kin G (c.fact 46)
  d_law := c.def_ 46
  b_abs := free_ok c.kin G (c.fact 50)
  b_all := free_ok c.kin G (c.fact 51)
  b_bool := free_ok c.kin G (c.fact 52)
  b_enumerate := free_ok c.kin G (c.fact 53)
  b_int := free_ok c.kin G (c.fact 54)
  b_isinstance := free_ok c.kin G (c.fact 55)
  b_len := free_ok c.kin G (c.fact 56)
  b_list := free_ok c.kin G (c.fact 57)
  b_max := free_ok c.kin G (c.fact 58)
  b_min := free_ok c.kin G (c.fact 59)
  b_range := free_ok c.kin G (c.fact 60)
  b_str := free_ok c.kin G (c.fact 61)
  b_sum := free_ok c.kin G (c.fact 62)
  b_tuple := free_ok c.kin G (c.fact 63)
  b_zip := free_ok c.kin G (c.fact 64)
  c_KEPT_WORDS := c_tupStr c.kin G (c.fact 65)
  c_LETTERS := c_str c.kin G (c.fact 66)
  c_LETTERS_AND_FIGURES := c_str c.kin G (c.fact 67)
  g_AssentError := glo_ok c.kin G (c.fact 47)
  g_BadCounts := glo_ok c.kin G (c.fact 48)
  g_BadLots := glo_ok c.kin G (c.fact 49)
  o_BadLots := ini_ok (c.fact 68)
  d_BadLots := c.def_ 47
  na_BadLots_at := eqO_ok (c.fact 70)
  na_BadLots_word := eqO_ok (c.fact 71)
  o_BadCounts := ini_ok (c.fact 72)
  d_BadCounts := c.def_ 48
  na_BadCounts_at := eqO_ok (c.fact 74)
  m_AssentError := by
    intro x C b h1 h2
    unfold et at h1
    unfold mt_AssentError at h2
    by_cases e0 : x = "BadLots"
    · rw [if_pos e0] at h1 h2
      cases h1
      cases h2
      exact exm_ok (c.fact 75)
    rw [if_neg e0] at h1 h2
    by_cases e1 : x = "BadCounts"
    · rw [if_pos e1] at h1 h2
      cases h1
      cases h2
      exact exm_ok (c.fact 76)
    rw [if_neg e1] at h1 h2
    cases h1
  m_BadCounts := by
    intro x C b h1 h2
    unfold et at h1
    unfold mt_BadCounts at h2
    by_cases e0 : x = "BadLots"
    · rw [if_pos e0] at h1 h2
      cases h1
      cases h2
      exact exm_ok (c.fact 77)
    rw [if_neg e0] at h1 h2
    by_cases e1 : x = "BadCounts"
    · rw [if_pos e1] at h1 h2
      cases h1
      cases h2
      exact exm_ok (c.fact 78)
    rw [if_neg e1] at h1 h2
    cases h1
  x_BadCounts := by
    intro x C h1 h2
    unfold et at h1
    unfold mt_BadCounts at h2
    by_cases e0 : x = "BadLots"
    · rw [if_pos e0] at h1 h2
      cases h1
      cases h2
    rw [if_neg e0] at h1 h2
    by_cases e1 : x = "BadCounts"
    · rw [if_pos e1] at h1 h2
      cases h1
      exact xfB_ok (c.fact 73)
    rw [if_neg e1] at h1 h2
    cases h1
  n_BadCounts_at := by
    intro x C h1 h2
    unfold et at h1
    unfold mt_BadCounts at h2
    by_cases e0 : x = "BadLots"
    · rw [if_pos e0] at h1 h2
      cases h1
      cases h2
    rw [if_neg e0] at h1 h2
    by_cases e1 : x = "BadCounts"
    · rw [if_pos e1] at h1 h2
      cases h1
      exact eqO_ok (c.fact 74)
    rw [if_neg e1] at h1 h2
    cases h1
  m_BadLots := by
    intro x C b h1 h2
    unfold et at h1
    unfold mt_BadLots at h2
    by_cases e0 : x = "BadLots"
    · rw [if_pos e0] at h1 h2
      cases h1
      cases h2
      exact exm_ok (c.fact 79)
    rw [if_neg e0] at h1 h2
    by_cases e1 : x = "BadCounts"
    · rw [if_pos e1] at h1 h2
      cases h1
      cases h2
      exact exm_ok (c.fact 80)
    rw [if_neg e1] at h1 h2
    cases h1
  x_BadLots := by
    intro x C h1 h2
    unfold et at h1
    unfold mt_BadLots at h2
    by_cases e0 : x = "BadLots"
    · rw [if_pos e0] at h1 h2
      cases h1
      exact xfB_ok (c.fact 69)
    rw [if_neg e0] at h1 h2
    by_cases e1 : x = "BadCounts"
    · rw [if_pos e1] at h1 h2
      cases h1
      cases h2
    rw [if_neg e1] at h1 h2
    cases h1
  n_BadLots_at := by
    intro x C h1 h2
    unfold et at h1
    unfold mt_BadLots at h2
    by_cases e0 : x = "BadLots"
    · rw [if_pos e0] at h1 h2
      cases h1
      exact eqO_ok (c.fact 70)
    rw [if_neg e0] at h1 h2
    by_cases e1 : x = "BadCounts"
    · rw [if_pos e1] at h1 h2
      cases h1
      cases h2
    rw [if_neg e1] at h1 h2
    cases h1
  n_BadLots_word := by
    intro x C h1 h2
    unfold et at h1
    unfold mt_BadLots at h2
    by_cases e0 : x = "BadLots"
    · rw [if_pos e0] at h1 h2
      cases h1
      exact eqO_ok (c.fact 71)
    rw [if_neg e0] at h1 h2
    by_cases e1 : x = "BadCounts"
    · rw [if_pos e1] at h1 h2
      cases h1
      cases h2
    rw [if_neg e1] at h1 h2
    cases h1
  t_is_word := t_ok (c.fact 81)
  t_sizes_of := t_ok (c.fact 82)
  t_common_counts := t_ok (c.fact 83)
  t_rest_counts := t_ok (c.fact 84)
  t_first_houses := t_ok (c.fact 85)
end
def loose_0 : List Str := ["is_integer",
  "is_number",
  "is_number_to",
  "is_tuple",
  "is_word",
  "counts_fault",
  "is_below",
  "common_counts",
  "rest_counts",
  "lot_fault",
  "lots_fault",
  "check_lots",
  "sizes_of",
  "everyone",
  "nobody",
  "check_counts",
  "below",
  "least_common",
  "outside",
  "first_spans"]
def loose_1 : List Str := ["first_houses",
  "_law_tape",
  "_law_draw",
  "_law_upto",
  "_law_kept",
  "_law_word",
  "_law_size",
  "_law_lots",
  "_law_with",
  "_law_same",
  "_law_told",
  "_law_sizes",
  "_law_part",
  "_law_is_below",
  "_law_bits",
  "_law_subsets",
  "_law_fewest",
  "_law_fits",
  "_law_ask_below",
  "_law_ask_least"]
def loose_2 : List Str := ["_law_second",
  "_law_pair",
  "_law_first_last",
  "_law_small",
  "_law_doors",
  "_law_between",
  "AssentError",
  "DataError",
  "BadLots",
  "BadCounts",
  "KEPT_WORDS",
  "LETTERS",
  "LETTERS_AND_FIGURES"]
def loose : List Str := (loose_0 : List Str) ++ (loose_1 : List Str) ++ (loose_2 : List Str)
abbrev Rw : PySem.W.OpenRow := PySem.W.OpenLaw.row PySem.Challenge.rw_assentwhole_k03_whole_least_common_count
def ob (s : PySem.W.SharedT) : AlM := obsM ask (HandSHeadRun.getT s)
theorem ob_eq (s : PySem.W.SharedT) : ob s = (hookM ask).obs s.abs := obsM_eq (HandSHeadRun.getT_eq s)
theorem run (w : World) : HandSHeadRun.RunEq Rw (PySem.W.view Rw.prog [61]) (hookM ask) ob 4000 loose w := by
  intro os
  kernel_rfl
end MP
open PySem PySem.W PySem.Calls PyProof.Rows in
theorem PySem.Challenge.cw_assentwhole_k03_whole_least_common_count_holds : PySem.Challenge.rw_assentwhole_k03_whole_least_common_count.Holds := by
  w_on; o_law
  refine HandSHeadRun.head_any (r := OpenLaw.row PySem.Challenge.rw_assentwhole_k03_whole_least_common_count) (q := view (OpenLaw.row PySem.Challenge.rw_assentwhole_k03_whole_least_common_count).prog [61]) (H := MP.hookM MP.ask) (ob := MP.ob) (M := 4000) (loose := MP.loose) (d := HandSHeadRun.topDef (OpenLaw.row PySem.Challenge.rw_assentwhole_k03_whole_least_common_count).prog 61) (kwd := []) MP.ob_eq
    (by kernel_rfl) (fun s => by kernel_rfl) MP.run (by kernel_rfl) (by kernel_rfl) (by kernel_rfl) (by rfl) (by first | assumption | decide +kernel) (by decide +kernel) ⟨rfl, rfl, rfl, rfl, rfl, by decide +kernel⟩ ?hw ?hc
  case hw => w_witness2
  case hc =>
    refine MP.walk_mp (l := PySem.Challenge.rw_assentwhole_k03_whole_least_common_count) (k := 16) (x := "script") (a := MP.ask) (F := MP.f_law) (ET := MP.et) rfl (by kernel_rfl) ⟨rfl, by decide, by decide⟩ ?F MP.pure1 MP.pure2
    intro w mg fa h K c G hmg0
    have Z := MP.facts c G
    have hmg : mg ("law" : PySem.Str) = some (.ref fa) := by
      have e : (HandSHeadRun.topDef (OpenLaw.row PySem.Challenge.rw_assentwhole_k03_whole_least_common_count).prog 61).name = ("law" : PySem.Str) := by kernel_rfl
      rw [← e]
      exact hmg0
    have e := hmg.symm.trans Z.g_law
    cases e
    obtain ⟨fd, F⟩ := Z.d_law
    have b := L2.FunD.bindsA (ps := ["script"]) F fun _ _ _ _ _ _ us hl => match us, hl with | [_], _ => rfl
    exact ⟨fd, fun s v => b s [v] rfl, fun base _ _ TB => MP.ok_law Z TB F⟩

