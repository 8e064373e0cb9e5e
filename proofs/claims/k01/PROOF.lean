import PyProof.Rows.All
import Wide.All
import OpenK.AllK
import Wide.FinOn
import HandS.ForMost
import HandS.ForExc
import HandS.Evl
import HandS.Style
import HandS.Deep
import HandS.IsInst
import HandS.LawCells
import HandS.ExcIs
import PySem.Challenge.RW_ringland_k01_spots_and_cells
set_option Elab.async false
set_option linter.all false
set_option maxRecDepth 100000
set_option maxHeartbeats 4000000
/-! Pure data over the hand layer: what an expression is worth as data, told by a Lean function of the frame's data. -/
namespace Rg
open PySem PySem.Spec PyProof.Rows L2
abbrev Ex := Evl.Ex
/-! ### data at a value -/
/-- a list that is read alone (the script, a table of the top) -/
abbrev locked (ds : List PyData) : PyData := .dict [(.none, .list ds)]
mutual
inductive Rp (K : PySem.W.Frag) (H : Hp) : V → PyData → Prop
  | non : Rp K H .non .none
  | bl (b : Bool) : Rp K H (.bl b) (.bool b)
  | int (i : Int) : Rp K H (.int i) (.int i)
  | str (x : Str) : Rp K H (.str x) (.str x)
  | lst {a : Addr} {xs : List V} {ds : List PyData} : H a = some (.lst xs) → RpAll K H xs ds → Rp K H (.ref a) (.list ds)
  | tup {a : Addr} {xs : List V} {ds : List PyData} : SqT K H a xs → RpAll K H xs ds → Rp K H (.ref a) (.tuple ds)
  | loc {a : Addr} {xs : List V} {ds : List PyData} : SqL K H a xs → RpAll K H xs ds → Rp K H (.ref a) (.dict [(.none, .list ds)])
  | dct {a : Addr} : H a = some (.dK []) → Rp K H (.ref a) (.dict [])
inductive RpAll (K : PySem.W.Frag) (H : Hp) : List V → List PyData → Prop
  | nil : RpAll K H [] []
  | cons {v : V} {vs : List V} {d : PyData} {ds : List PyData} : Rp K H v d → RpAll K H vs ds → RpAll K H (v :: vs) (d :: ds)
end
section
variable {K : PySem.W.Frag} {H H' : Hp}
mutual
theorem Rp.mono (e : Ex H H') : ∀ (d : PyData) (v : V), Rp K H v d → Rp K H' v d
  | .none, _, h => by cases h; exact .non
  | .bool _, _, h => by cases h; exact .bl _
  | .int _, _, h => by cases h; exact .int _
  | .str _, _, h => by cases h; exact .str _
  | .list ds, _, h => by
    cases h with
    | lst h1 h2 => exact .lst (e _ _ h1) (RpAll.mono e ds _ h2)
  | .tuple ds, _, h => by
    cases h with
    | tup h1 h2 => exact .tup (Evl.ex_t e h1) (RpAll.mono e ds _ h2)
  | .dict [], _, h => by
    cases h with
    | dct h1 => exact .dct (e _ _ h1)
  | .dict [(.none, .list ds)], _, h => by
    cases h with
    | loc h1 h2 => exact .loc (Evl.ex_l e h1) (RpAll.mono e ds _ h2)
  | .dict ((.none, .list ds) :: p :: r), _, h => by cases h
  | .dict ((.none, .none) :: r), _, h => by cases h
  | .dict ((.none, .bool _) :: r), _, h => by cases h
  | .dict ((.none, .int _) :: r), _, h => by cases h
  | .dict ((.none, .str _) :: r), _, h => by cases h
  | .dict ((.none, .tuple _) :: r), _, h => by cases h
  | .dict ((.none, .dict _) :: r), _, h => by cases h
  | .dict ((.bool _, _) :: r), _, h => by cases h
  | .dict ((.int _, _) :: r), _, h => by cases h
  | .dict ((.str _, _) :: r), _, h => by cases h
  | .dict ((.list _, _) :: r), _, h => by cases h
  | .dict ((.tuple _, _) :: r), _, h => by cases h
  | .dict ((.dict _, _) :: r), _, h => by cases h
theorem RpAll.mono (e : Ex H H') : ∀ (ds : List PyData) (vs : List V), RpAll K H vs ds → RpAll K H' vs ds
  | [], _, h => by cases h; exact .nil
  | d :: ds, _, h => by
    cases h with
    | cons h1 h2 => exact .cons (Rp.mono e d _ h1) (RpAll.mono e ds _ h2)
end
mutual
theorem Rp.dp : ∀ (d : PyData) (v : V), Rp K H v d → d.canLay0 = true → Dp K H v d
  | .none, _, h, _ => by cases h; exact .non
  | .bool _, _, h, _ => by cases h; exact .bl _
  | .int _, _, h, _ => by cases h; exact .int _
  | .str _, _, h, _ => by cases h; exact .str _
  | .list ds, _, h, c => by
    cases h with
    | lst h1 h2 => exact .lst (.inl (.inl h1)) (RpAll.dp ds _ h2 (by simpa [PyData.canLay0] using c))
  | .tuple ds, _, h, c => by
    cases h with
    | tup h1 h2 => exact .tup h1 (RpAll.dp ds _ h2 (by simpa [PyData.canLay0] using c))
  | .dict _, _, _, c => by simp [PyData.canLay0] at c
theorem RpAll.dp : ∀ (ds : List PyData) (vs : List V), RpAll K H vs ds → PyData.canLayAll0 ds = true → DpAll K H vs ds
  | [], _, h, _ => by cases h; exact .nil
  | d :: ds, _, h, c => by
    cases h with
    | cons h1 h2 =>
      have c' : d.canLay0 = true ∧ PyData.canLayAll0 ds = true := by simpa [PyData.canLayAll0] using c
      exact .cons (Rp.dp d _ h1 c'.1) (RpAll.dp ds _ h2 c'.2)
end
/-- data without lists and dicts -/
def flatB : PyData → Bool
  | .none | .bool _ | .int _ | .str _ => true
  | .tuple ds => go ds
  | .list _ | .dict _ => false
where go : List PyData → Bool
  | [] => true
  | d :: ds => flatB d && go ds
/-- what may be hidden: lists -/
def IsL : HO → Prop
  | .lst _ => True
  | _ => False
/-- B is H without some lists -/
structure Hid (B H : Hp) : Prop where
  ex : Ex B H
  ls : ∀ a o, H a = some o → B a = none → IsL o
mutual
theorem Rp.back (e : Hid H' H) : ∀ (d : PyData) (v : V), flatB d = true → Rp K H v d → Rp K H' v d
  | .none, _, _, h => by cases h; exact .non
  | .bool _, _, _, h => by cases h; exact .bl _
  | .int _, _, _, h => by cases h; exact .int _
  | .str _, _, _, h => by cases h; exact .str _
  | .list ds, _, c, h => by simp [flatB] at c
  | .dict ds, _, c, h => by simp [flatB] at c
  | .tuple ds, _, c, h => by
    cases h with
    | @tup a xs _ h1 h2 =>
      refine .tup ?_ (RpAll.back e ds _ (by simpa [flatB] using c) h2)
      rcases h1 with (h1 | ⟨o, h1⟩) | h1
      · refine .inl (.inl ?_)
        cases q : H' a with
        | none => exact (e.ls a _ h1 q).elim
        | some u => exact ((e.ex a u q).symm.trans h1) ▸ rfl
      · refine .inl (.inr ⟨o, ?_⟩)
        cases q : H' a with
        | none => exact (e.ls a _ h1 q).elim
        | some u => exact ((e.ex a u q).symm.trans h1) ▸ rfl
      · exact .inr h1
theorem RpAll.back (e : Hid H' H) : ∀ (ds : List PyData) (vs : List V), flatB.go ds = true → RpAll K H vs ds → RpAll K H' vs ds
  | [], _, _, h => by cases h; exact .nil
  | d :: ds, _, c, h => by
    cases h with
    | cons h1 h2 =>
      have c' : flatB d = true ∧ flatB.go ds = true := by simpa [flatB.go] using c
      exact .cons (Rp.back e d _ c'.1 h1) (RpAll.back e ds _ c'.2 h2)
end
theorem RpAll.len : ∀ {vs : List V} {ds : List PyData}, RpAll K H vs ds → vs.length = ds.length
  | _, _, .nil => rfl
  | _, _, .cons _ t => congrArg (· + 1) (RpAll.len t)
theorem RpAll.get : ∀ {vs : List V} {ds : List PyData} {i : Nat} {d : PyData}, RpAll K H vs ds → ds[i]? = some d → ∃ v, vs[i]? = some v ∧ Rp K H v d
  | _, _, _, _, .nil, e => by simp at e
  | _, _, 0, _, .cons r _, e => by simp at e; subst e; exact ⟨_, rfl, r⟩
  | _, _, i + 1, _, .cons _ t, e => by
    obtain ⟨v, h1, h2⟩ := RpAll.get (i := i) t (by simpa using e)
    exact ⟨v, by simpa using h1, h2⟩
theorem RpAll.get' : ∀ {vs : List V} {ds : List PyData} {i : Nat} {v : V}, RpAll K H vs ds → vs[i]? = some v → ∃ d, ds[i]? = some d ∧ Rp K H v d
  | _, _, _, _, .nil, e => by simp at e
  | _, _, 0, _, .cons r _, e => by simp at e; subst e; exact ⟨_, rfl, r⟩
  | _, _, i + 1, _, .cons _ t, e => by
    obtain ⟨v, h1, h2⟩ := RpAll.get' (i := i) t (by simpa using e)
    exact ⟨v, by simpa using h1, h2⟩
theorem RpAll.append : ∀ {xs ys : List V} {ds es : List PyData}, RpAll K H xs ds → RpAll K H ys es → RpAll K H (xs ++ ys) (ds ++ es)
  | _, _, _, _, .nil, s => s
  | _, _, _, _, .cons r t, s => .cons r (RpAll.append t s)
theorem RpAll.take : ∀ {xs : List V} {ds : List PyData} (n : Nat), RpAll K H xs ds → RpAll K H (xs.take n) (ds.take n)
  | _, _, 0, _ => .nil
  | _, _, _ + 1, .nil => .nil
  | _, _, n + 1, .cons r t => .cons r (RpAll.take n t)
theorem RpAll.drop : ∀ {xs : List V} {ds : List PyData} (n : Nat), RpAll K H xs ds → RpAll K H (xs.drop n) (ds.drop n)
  | _, _, 0, r => r
  | _, _, _ + 1, .nil => .nil
  | _, _, n + 1, .cons _ t => RpAll.drop n t
theorem RpAll.rev : ∀ {xs : List V} {ds : List PyData}, RpAll K H xs ds → RpAll K H xs.reverse ds.reverse
  | _, _, .nil => .nil
  | _, _, .cons r t => by
    rw [List.reverse_cons, List.reverse_cons]
    exact RpAll.append (RpAll.rev t) (.cons r .nil)
theorem RpAll.atI {xs : List V} {ds : List PyData} {i : Int} {d : PyData} (r : RpAll K H xs ds) (h : L2.atI ds i = some d) : ∃ v, L2.atI xs i = some v ∧ Rp K H v d := by
  unfold L2.atI at h ⊢
  rw [r.len]
  cases e : ixN ds.length i with
  | none => rw [e] at h; cases h
  | some j =>
    rw [e] at h
    exact r.get h
end
/-! ### the weakest readings -/
def WE (X : Cx) (e : Expr) : TE := fun σ H Q => ∃ t, PE X e t ∧ t σ H Q
theorem we (X : Cx) (e : Expr) : PE X e (WE X e) := ⟨fun pins s σ H Q I ⟨_, h, q⟩ => h.run pins s σ H Q I q⟩
def WT (X : Cx) (e : Expr) : TT := fun σ H Q => ∃ t, PT X e t ∧ t σ H Q
theorem wt (X : Cx) (e : Expr) : PT X e (WT X e) := ⟨fun pins s σ H Q I ⟨_, h, q⟩ => h.run pins s σ H Q I q⟩
def WA (X : Cx) (es : List Expr) : TA := fun σ H Q => ∃ t, PA X es t ∧ t σ H Q
theorem wa (X : Cx) (es : List Expr) : PA X es (WA X es) := ⟨fun pos pins s σ H Q I ⟨_, h, q⟩ => h.run pos pins s σ H Q I q⟩
def WS (X : Cx) (st : Stmt) : TS := fun D σ H => ∃ t, PS X st t ∧ t D σ H
theorem ws (X : Cx) (st : Stmt) : PS X st (WS X st) := ⟨fun pins s σ H D I ⟨_, h, q⟩ => h.run pins s σ H D I q⟩
def WSs (X : Cx) (st : List Stmt) : TS := fun D σ H => ∃ t, PSs X st t ∧ t D σ H
theorem wss (X : Cx) (st : List Stmt) : PSs X st (WSs X st) := ⟨fun pins s σ H D I ⟨_, h, q⟩ => h.run pins s σ H D I q⟩
/-- with a wish that the reading meets whatever it is -/
theorem WE.mono {X : Cx} {e : Expr} {σ : L2.St} {H : Hp} {Q Q' : VK} (h : WE X e σ H Q) (k : ∀ v H', Q v H' → Q' v H') : WE X e σ H Q' := by
  refine ⟨fun σ' H' Q'' => WE X e σ' H' Q ∧ ∀ v H', Q v H' → Q'' v H', ⟨fun pins s σ' H' Q'' I ⟨h1, h2⟩ => ?_⟩, h, k⟩
  refine thn ((we X e).run pins s σ' H' Q I h1) fun u s' ⟨v, H2, I2, r, q⟩ => ⟨v, H2, I2, r, h2 v H2 q⟩
end Rg
namespace Rg
open PySem PySem.Spec PyProof.Rows L2
/-- H2 is B2 with what H has beyond B -/
structure Over (B H B2 H2 : Hp) : Prop where
  hid : ∀ a o, H a = some o → B a = none → B2 a = none ∧ H2 a = some o
  res : ∀ a, (B a ≠ none ∨ H a = none) → H2 a = B2 a
theorem Over.mk' {B H B2 : Hp} (h : ∀ a o, H a = some o → B a = none → B2 a = none) : ∃ H2, Over B H B2 H2 := by
  refine ⟨fun a => match B a with
    | none => (match H a with
      | some o => some o
      | none => B2 a)
    | some _ => B2 a, fun a o e1 e2 => ⟨h a o e1 e2, ?_⟩, fun a e => ?_⟩
  · simp only [e1, e2]
  · cases q : B a with
    | some u => simp only [q]
    | none =>
      rcases e with e | e
      · exact absurd q e
      · simp only [q, e]
section
variable {B H B2 H2 : Hp}
theorem Over.hids (v : Over B H B2 H2) (d : Hid B H) : Hid B2 H2 := by
  refine ⟨fun a o e => ?_, fun a o e1 e2 => ?_⟩
  · cases q : B a with
    | some u => rw [v.res a (.inl (by rw [q]; intro z; cases z))]; exact e
    | none =>
      cases r : H a with
      | none => rw [v.res a (.inr r)]; exact e
      | some o' => rw [(v.hid a o' r q).1] at e; cases e
  · cases q : B a with
    | some u => rw [v.res a (.inl (by rw [q]; intro z; cases z)), e2] at e1; cases e1
    | none =>
      cases r : H a with
      | none => rw [v.res a (.inr r), e2] at e1; cases e1
      | some o' =>
        rw [(v.hid a o' r q).2] at e1
        cases e1
        exact d.ls a _ r q
theorem Over.exs (v : Over B H B2 H2) (d : Hid B H) (e : Ex B B2) : Ex H H2 := fun a o h => by
  cases q : B a with
  | some u =>
    have h1 : u = o := Option.some.inj ((d.ex a u q).symm.trans h)
    subst h1
    rw [v.res a (.inl (by rw [q]; intro z; cases z))]
    exact e a _ q
  | none => exact (v.hid a o h q).2
end
section
variable {X : Cx} {pins : List (Addr × Obj)} {σ : L2.St} {B H B2 : Hp} {s s' : Shared}
/-- what is hidden, with its objects -/
def hpins (B H : Hp) (h : Heap) : List (Addr × Obj) := (List.range h.objs.size).filterMap fun a => match B a, H a, h.get? a with
  | none, some _, some o => some (a, o)
  | _, _, _ => none
theorem hpins_mem {h : Heap} {a : Addr} {o : HO} {ob : Obj} (h1 : B a = none) (h2 : H a = some o) (h3 : h.get? a = some ob) : (a, ob) ∈ hpins B H h :=
  List.mem_filterMap.mpr ⟨a, List.mem_range.mpr (Heap.lt_size h3), by simp only [h1, h2, h3]⟩
theorem hpins_of {h : Heap} {p : Addr × Obj} (hp : p ∈ hpins B H h) : B p.1 = none ∧ (∃ o, H p.1 = some o) ∧ h.get? p.1 = some p.2 := by
  obtain ⟨a, _, e⟩ := List.mem_filterMap.mp hp
  cases q1 : B a with
  | some u => simp only [q1] at e; cases e
  | none =>
    cases q2 : H a with
    | none => simp only [q1, q2] at e; cases e
    | some o =>
      cases q3 : h.get? a with
      | none => simp only [q1, q2, q3] at e; cases e
      | some ob =>
        simp only [q1, q2, q3, Option.some.injEq] at e
        subst e
        exact ⟨q1, ⟨o, q2⟩, q3⟩
theorem IsL.obj {P : Program} {w : World} {a : Addr} {o : HO} {h : Heap} (l : IsL o) (x : ObjOk P w H h a o) : ∃ ob, h.get? a = some ob ∧ ∀ v, ob.data ≠ .cell v := by
  cases o with
  | lst xs =>
    obtain ⟨_, its, n, _, e⟩ := x
    exact ⟨_, e, fun v z => by cases z⟩
  | _ => exact l.elim
theorem Hid.hok {P : Program} {w : World} {h : Heap} (d : Hid B H) (x : HOk P w H h) : HOk P w B h := fun a o e => by
  refine (x a o (d.ex a o e)).stay (fun _ _ _ q => q) (fun b q => ?_) fun b xs q => ?_
  · cases r : B b with
    | none => exact (d.ls b _ q r).elim
    | some u => rw [Option.some.inj ((d.ex b u r).symm.trans q)]
  · cases r : B b with
    | none => exact (d.ls b _ q r).elim
    | some u => rw [Option.some.inj ((d.ex b u r).symm.trans q)]
theorem Hid.inv (d : Hid B H) (I : Inv X pins σ H s) : Inv X (hpins B H s.heap ++ pins) σ B s := by
  have hn : ∀ a, H a = none → B a = none := fun a e => by
    cases q : B a with
    | none => rfl
    | some u => rw [d.ex a u q] at e; cases e
  have nofs : ∀ a o, H a = some o → a ∉ X.fs := fun a o e hb => by
    obtain ⟨_, ob, ho, _⟩ := I.ok.funs.mem hb
    have := I.base.free a ob ho (I.ok.frf a hb) fun z => I.ok.exfs a z hb
    rw [this] at e; cases e
  refine ⟨I.ok, I.os, I.bare, ⟨I.base.keep, I.base.slot, fun b o e n hx => hn b (I.base.free b o e n hx), I.base.there, fun b xs e => ?_, fun b o u e => ?_, fun b ps e => ?_⟩, I.loc, I.cell, hn _ I.free, fun x c e => hn c (I.freeC x c e), fun p hp => ?_, d.hok I.hok, I.len⟩
  · have h := I.base.tups b xs e
    cases r : B b with
    | none => exact (d.ls b _ h r).elim
    | some u => rw [Option.some.inj ((d.ex b u r).symm.trans h)]
  · have h := I.base.frzs b o u e
    cases r : B b with
    | none => exact (d.ls b _ h r).elim
    | some u => rw [Option.some.inj ((d.ex b u r).symm.trans h)]
  · obtain ⟨m, h⟩ := I.base.tbls b ps e
    refine ⟨m, ?_⟩
    cases r : B b with
    | none => exact (d.ls b _ h r).elim
    | some u => rw [Option.some.inj ((d.ex b u r).symm.trans h)]
  · have old : p ∈ X.pn ++ pins → s.heap.get? p.1 = some p.2 ∧ B p.1 = none ∧ p.1 ≠ X.env.locals ∧ p.1 ∉ X.fs ∧ ∀ v, p.2.data ≠ .cell v := fun z => by
      obtain ⟨a1, a2, a3⟩ := I.pin p z
      exact ⟨a1, hn _ a2, a3⟩
    rcases List.mem_append.mp hp with z | z
    · exact old (List.mem_append_left _ z)
    · rcases List.mem_append.mp z with z | z
      · obtain ⟨e1, ⟨o, e2⟩, e3⟩ := hpins_of z
        obtain ⟨ob, g1, g2⟩ := (d.ls _ _ e2 e1).obj (I.hok _ _ e2)
        rw [e3] at g1
        cases g1
        refine ⟨e3, e1, fun z => ?_, nofs _ _ e2, g2⟩
        rw [z, I.free] at e2
        cases e2
      · exact old (List.mem_append_right _ z)
theorem Hid.outv (d : Hid B H) (I : Inv X pins σ H s) {σ' : L2.St} (I2 : Inv X (hpins B H s.heap ++ pins) σ' B2 s') : ∃ H2, Over B H B2 H2 ∧ Inv X pins σ' H2 s' := by
  have hp : ∀ a o, H a = some o → B a = none → B2 a = none ∧ ∃ ob, s.heap.get? a = some ob ∧ s'.heap.get? a = some ob := fun a o e1 e2 => by
    obtain ⟨ob, g1, _⟩ := (d.ls a o e1 e2).obj (I.hok a o e1)
    obtain ⟨q1, q2, _⟩ := I2.pin (a, ob) (List.mem_append_right _ (List.mem_append_left _ (hpins_mem e2 e1 g1)))
    exact ⟨q2, ob, g1, q1⟩
  obtain ⟨H2, v⟩ := Over.mk' (B := B) (H := H) (B2 := B2) fun a o e1 e2 => (hp a o e1 e2).1
  have d2 := v.hids d
  refine ⟨H2, v, ⟨I2.ok, I2.os, I2.bare, ⟨I2.base.keep, I2.base.slot, fun b o e n hx => ?_, I2.base.there, fun b xs e => d2.ex _ _ (I2.base.tups b xs e), fun b o u e => d2.ex _ _ (I2.base.frzs b o u e), fun b ps e => ?_⟩, I2.loc, I2.cell, ?_, fun x c e => ?_, fun p hpp => ?_, fun a o e => ?_, I2.len⟩⟩
  · have h1 := I2.base.free b o e n hx
    rw [v.res b (.inr (I.base.free b o e n hx))]
    exact h1
  · obtain ⟨m, h⟩ := I2.base.tbls b ps e
    exact ⟨m, d2.ex _ _ h⟩
  · rw [v.res _ (.inr I.free)]
    exact I2.free
  · rw [v.res _ (.inr (I.freeC x c e))]
    exact I2.freeC x c e
  · obtain ⟨a1, a2, a3⟩ := I2.pin p ((List.mem_append.mp hpp).elim (fun z => List.mem_append_left _ z) fun z => List.mem_append_right _ (List.mem_append_right _ z))
    refine ⟨a1, ?_, a3⟩
    rw [v.res _ (.inr (I.pin p hpp).2.1)]
    exact a2
  · by_cases hb : B a = none ∧ H a ≠ none
    · obtain ⟨b1, b2⟩ := hb
      cases q : H a with
      | none => exact absurd q b2
      | some o' =>
        have e' := (v.hid a o' q b1).2
        rw [e] at e'
        cases e'
        obtain ⟨_, ob, g1, g2⟩ := hp a _ q b1
        have l := d.ls a _ q b1
        have ok := I.hok a _ q
        cases o with
        | lst xs =>
          obtain ⟨z, its, n, r, e3⟩ := ok
          rw [g1] at e3
          exact ⟨z, its, n, r, g2.trans e3⟩
        | _ => exact l.elim
    · have e1 : B2 a = some o := by
        rw [← v.res a]
        · exact e
        · cases q : B a with
          | some u => exact .inl (by intro z; cases z)
          | none =>
            refine .inr ?_
            cases r : H a with
            | none => rfl
            | some u => exact absurd ⟨q, by rw [r]; intro z; cases z⟩ hb
      exact (I2.hok a o e1).stay (fun _ _ _ q => q) (fun b q => d2.ex _ _ q) fun b xs q => d2.ex _ _ q
/-- THE FRAME: what an expression does without some lists it does beside them -/
theorem WE.frame {e : Expr} {Q Q' : VK} (d : Hid B H) (h : WE X e σ B Q) (k : ∀ v B2 H2, Q v B2 → Over B H B2 H2 → Q' v H2) : WE X e σ H Q' := by
  refine ⟨fun σ' H' Q'' => ∃ B, Hid B H' ∧ WE X e σ' B Q ∧ ∀ v B2 H2, Q v B2 → Over B H' B2 H2 → Q'' v H2, ⟨fun pins s σ' H' Q'' I hh => ?_⟩, B, d, h, k⟩
  obtain ⟨B, d, h1, h2⟩ := hh
  refine thn ((we X e).run _ s σ' B Q (d.inv I) h1) fun u s' ⟨v, B2, I2, r, q⟩ => ?_
  obtain ⟨H2, ov, I3⟩ := d.outv I I2
  exact ⟨v, H2, I3, r, h2 v B2 H2 q ov⟩
end
end Rg
namespace Rg
open PySem PySem.Spec PyProof.Rows L2
abbrev En := List (Option PyData)
def Rep (K : PySem.W.Frag) (H : Hp) (σ : L2.St) (ρ : En) : Prop := ∀ (i : Nat) (d : PyData), ρ[i]? = some (some d) → ∃ v, σ[i]? = some (some v) ∧ Rp K H v d
theorem Rep.mono {K : PySem.W.Frag} {H H' : Hp} {σ : L2.St} {ρ : En} (r : Rep K H σ ρ) (e : Ex H H') : Rep K H' σ ρ := fun i d h => by
  obtain ⟨v, h1, h2⟩ := r i d h
  exact ⟨v, h1, Rp.mono e d v h2⟩
/-- an expression is worth f of the frame's data -/
def Sem (X : Cx) (e : Expr) (f : En → Option PyData) : Prop :=
  ∀ (σ : L2.St) (H : Hp) (ρ : En) (d : PyData), Rep X.K H σ ρ → f ρ = some d → ∀ Q : VK, (∀ v H2, Ex H H2 → Rp X.K H2 v d → Q v H2) → WE X e σ H Q
/-- .. a new list of f's items, which nobody else holds -/
def SemF (X : Cx) (e : Expr) (f : En → Option (List PyData)) : Prop :=
  ∀ (σ : L2.St) (H : Hp) (ρ : En) (ds : List PyData), Rep X.K H σ ρ → f ρ = some ds → ∀ Q : VK, (∀ p B xs, Ex H B → B p = none → RpAll X.K B xs ds → Q (.ref p) (upd B p (.lst xs))) → WE X e σ H Q
def SemT (X : Cx) (e : Expr) (f : En → Option Bool) : Prop :=
  ∀ (σ : L2.St) (H : Hp) (ρ : En) (b : Bool), Rep X.K H σ ρ → f ρ = some b → ∀ Q : Bool → Hp → Prop, (∀ H2, Ex H H2 → Q b H2) → WT X e σ H Q
/-- a chain of and, or whatever its whole -/
def WW (X : Cx) (e : Expr) : TT := fun σ H Q => ∃ t, PW X e t ∧ t σ H Q
theorem ww (X : Cx) (e : Expr) : PW X e (WW X e) := ⟨fun w pins s σ H Q I ⟨_, h, q⟩ => h.run w pins s σ H Q I q⟩
def SemW (X : Cx) (e : Expr) (f : En → Option Bool) : Prop :=
  ∀ (σ : L2.St) (H : Hp) (ρ : En) (b : Bool), Rep X.K H σ ρ → f ρ = some b → ∀ Q : Bool → Hp → Prop, (∀ H2, Ex H H2 → Q b H2) → WW X e σ H Q
def SemA (X : Cx) (es : List Expr) (f : En → Option (List PyData)) : Prop :=
  ∀ (σ : L2.St) (H : Hp) (ρ : En) (ds : List PyData), Rep X.K H σ ρ → f ρ = some ds → ∀ Q : List V → Hp → Prop, (∀ vs H2, Ex H H2 → RpAll X.K H2 vs ds → Q vs H2) → WA X es σ H Q
/-- a part of a slice -/
def WO (X : Cx) (e : Option Expr) : TO := fun σ H Q => ∃ t, PO X e t ∧ t σ H Q
def SemO (X : Cx) (e : Option Expr) (f : En → Option (Option Int)) : Prop :=
  ∀ (σ : L2.St) (H : Hp) (ρ : En) (o : Option Int), Rep X.K H σ ρ → f ρ = some o → ∀ Q : Option Int → Hp → Prop, (∀ H2, Ex H H2 → Q o H2) → WO X e σ H Q
section
variable {X : Cx} {a b c e : Expr} {f g h : En → Option PyData} {pos : Pos}
theorem ExR (H : Hp) : Ex H H := Evl.Ex.refl H
theorem Sem.imp {g : En → Option PyData} (s : Sem X e f) (h : ∀ ρ d, g ρ = some d → f ρ = some d) : Sem X e g := fun σ H ρ d r e' Q k => s σ H ρ d r (h ρ d e') Q k
def asL (f : En → Option (List PyData)) : En → Option PyData := fun ρ => (f ρ).map .list
theorem SemF.sem {f : En → Option (List PyData)} (s : SemF X e f) : Sem X e (asL f) := fun σ H ρ d r e Q k => by
  unfold asL at e
  cases q : f ρ with
  | none => rw [q] at e; cases e
  | some ds =>
    rw [q] at e
    cases e
    exact s σ H ρ ds r q Q fun p B xs e1 e2 e3 => k _ _ (e1.trans (Evl.Ex.new e2)) (.lst upd_same (RpAll.mono (Evl.Ex.new e2) _ _ e3))
/-! ### names, constants -/
def vr (i : Nat) : En → Option PyData := fun ρ => match ρ[i]? with
  | some (some d) => some d
  | _ => none
theorem vr_some {i : Nat} {ρ : En} {d : PyData} (h : vr i ρ = some d) : ρ[i]? = some (some d) := by
  unfold vr at h
  split at h
  · rename_i d' q
    cases h
    exact q
  · cases h
theorem s_var {i : Nat} {x : Str} (hN : X.N[i]? = some x) (hv : Vis X.env.scope x) (hd : (x == ("__debug__" : Str)) = false := by decide) (hcd : (x == ("__classdict__" : Str)) = false := by decide) : Sem X (.Name x pos) (vr i) := fun σ H ρ d r e Q k => by
  obtain ⟨v, h1, h2⟩ := r i d (vr_some e)
  exact ⟨_, pe_var hN hv hd hcd, v, h1, k v H (ExR H) h2⟩
def ct (d : PyData) : En → Option PyData := fun _ => some d
theorem s_int {i j} : Sem X (.Constant (.int i) j pos) (ct (.int i)) := fun σ H ρ d r e Q k => by
  cases e
  exact ⟨_, pe_int, k _ H (ExR H) (.int i)⟩
theorem s_bl {i j} : Sem X (.Constant (.bool i) j pos) (ct (.bool i)) := fun σ H ρ d r e Q k => by
  cases e
  exact ⟨_, pe_bl, k _ H (ExR H) (.bl i)⟩
theorem s_str {i j} : Sem X (.Constant (.str i) j pos) (ct (.str i)) := fun σ H ρ d r e Q k => by
  cases e
  exact ⟨_, pe_str, k _ H (ExR H) (.str i)⟩
theorem s_non {j} : Sem X (.Constant .none j pos) (ct .none) := fun σ H ρ d r e Q k => by
  cases e
  exact ⟨_, pe_non, k _ H (ExR H) .non⟩
/-- a constant of the module that holds an int -/
theorem s_globI {x : Str} {i : Int} {u : Value} (hg : Gl X x) (hm : X.mg x = some u) (r : RelV (.int i) u) (hd : (x == ("__debug__" : Str)) = false := by decide) : Sem X (.Name x pos) (ct (.int i)) := fun σ H ρ d _ e Q k => by
  cases e
  exact ⟨_, pe_glob hg hm r hd, k _ H (ExR H) (.int i)⟩
/-! ### two operands -/
def o2 (op : PyData → PyData → Option PyData) (f g : En → Option PyData) : En → Option PyData := fun ρ => (f ρ).bind fun x => (g ρ).bind fun y => op x y
def o1 (op : PyData → Option PyData) (f : En → Option PyData) : En → Option PyData := fun ρ => (f ρ).bind op
theorem o2_some {op : PyData → PyData → Option PyData} {ρ : En} {d : PyData} (h : o2 op f g ρ = some d) : ∃ x y, f ρ = some x ∧ g ρ = some y ∧ op x y = some d := by
  unfold o2 at h
  cases q : f ρ with
  | none => rw [q] at h; cases h
  | some x =>
    rw [q] at h
    cases q2 : g ρ with
    | none => rw [q2] at h; cases h
    | some y =>
      rw [q2] at h
      exact ⟨x, y, rfl, rfl, h⟩
theorem o1_some {op : PyData → Option PyData} {ρ : En} {d : PyData} (h : o1 op f ρ = some d) : ∃ x, f ρ = some x ∧ op x = some d := by
  unfold o1 at h
  cases q : f ρ with
  | none => rw [q] at h; cases h
  | some x =>
    rw [q] at h
    exact ⟨x, rfl, h⟩
/-- what a reading of two values does with data -/
def R2D (K : PySem.W.Frag) (r : R2) (op : PyData → PyData → Option PyData) : Prop :=
  ∀ (x y : V) (H : Hp) (dx dy d : PyData), Rp K H x dx → Rp K H y dy → op dx dy = some d → ∀ Q : VK, (∀ v H2, Ex H H2 → Rp K H2 v d → Q v H2) → r x y H Q
theorem we_pair {σ : L2.St} {H : Hp} {ρ : En} {x y : PyData} (ha : Sem X a f) (hb : Sem X b g) (R : Rep X.K H σ ρ) (h1 : f ρ = some x) (h2 : g ρ = some y) {P : V → V → Hp → Prop}
    (k : ∀ v w H2, Ex H H2 → Rp X.K H2 v x → Rp X.K H2 w y → P v w H2) : WE X a σ H fun v H1 => WE X b σ H1 fun w H2 => P v w H2 :=
  ha σ H ρ x R h1 _ fun v H1 e1 r1 => hb σ H1 ρ y (R.mono e1) h2 _ fun w H2 e2 r2 => k v w H2 (e1.trans e2) (Rp.mono e2 _ _ r1) r2
theorem s_op {op : Operator} {r : R2} {o : PyData → PyData → Option PyData} (ho : OpR X (binaryOp op) r) (hr : R2D X.K r o) (ha : Sem X a f) (hb : Sem X b g) : Sem X (.BinOp a op b pos) (o2 o f g) := fun σ H ρ d R e Q k => by
  obtain ⟨x, y, h1, h2, h3⟩ := o2_some e
  exact ⟨_, pe_op ho (we X a) (we X b), we_pair ha hb R h1 h2 fun v w H2 e' r1 r2 => hr v w H2 x y d r1 r2 h3 Q fun z H3 e3 r3 => k z H3 (e'.trans e3) r3⟩
theorem s_cmp {op : CmpOp} {r : R2} {o : PyData → PyData → Option PyData} (ho : OpR X (compareOp op) r) (hr : R2D X.K r o) (ha : Sem X a f) (hb : Sem X b g) (hm : behindInMarks op b = false) : Sem X (.Compare a [op] [b] pos) (o2 o f g) := fun σ H ρ d R e Q k => by
  obtain ⟨x, y, h1, h2, h3⟩ := o2_some e
  exact ⟨_, pe_cmpR ho (we X a) (we X b) hm, we_pair ha hb R h1 h2 fun v w H2 e' r1 r2 => hr v w H2 x y d r1 r2 h3 Q fun z H3 e3 r3 => k z H3 (e'.trans e3) r3⟩
/-- a truth as data -/
def tb (f : En → Option PyData) : En → Option Bool := fun ρ => (f ρ).bind fun
  | .bool b => some b
  | _ => none
theorem tb_some {ρ : En} {b : Bool} (h : tb f ρ = some b) : f ρ = some (.bool b) := by
  unfold tb at h
  cases q : f ρ with
  | none => rw [q] at h; cases h
  | some x =>
    rw [q] at h
    cases x <;> first | (cases h; done) | (cases h; rfl)
theorem t_cmp {op : CmpOp} {r : R2} {o : PyData → PyData → Option PyData} (ho : OpR X (compareOp op) r) (hr : R2D X.K r o) (ha : Sem X a f) (hb : Sem X b g) (hm : behindInMarks op b = false) : SemT X (.Compare a [op] [b] pos) (tb (o2 o f g)) := fun σ H ρ d R e Q k => by
  obtain ⟨x, y, h1, h2, h3⟩ := o2_some (tb_some e)
  exact ⟨_, pt_cmpR ho (we X a) (we X b) hm, we_pair ha hb R h1 h2 fun v w H2 e' r1 r2 => hr v w H2 x y (.bool d) r1 r2 h3 _ fun z H3 e3 r3 => by
    cases r3
    exact ⟨d, rfl, k H3 (e'.trans e3)⟩⟩
/-! ### what the operators do with data -/
def dAdd : PyData → PyData → Option PyData
  | .int i, .int j => some (.int (i + j))
  | .list xs, .list ys => if xs.length + ys.length ≤ 100000 then some (.list (xs ++ ys)) else none
  | _, _ => none
def dSub : PyData → PyData → Option PyData
  | .int i, .int j => some (.int (i - j))
  | _, _ => none
def dMul : PyData → PyData → Option PyData
  | .int i, .int j => if (-(2 ^ 64) < i ∧ i < 2 ^ 64) ∨ (-(2 ^ 64) < j ∧ j < 2 ^ 64) then some (.int (i * j)) else none
  | .list xs, .int k => if -(2 ^ 63) ≤ k ∧ k < 2 ^ 63 ∧ xs.length * k.toNat ≤ 100000 then some (.list (List.replicate k.toNat xs).flatten) else none
  | _, _ => none
def dMod : PyData → PyData → Option PyData
  | .int i, .int j => if 0 < j then some (.int (i % j)) else none
  | _, _ => none
def dDiv : PyData → PyData → Option PyData
  | .int i, .int j => if 0 < j ∧ j < 1073741824 then some (.int (i / j)) else none
  | _, _ => none
def dPow : PyData → PyData → Option PyData
  | .int i, .int j => if 0 ≤ j ∧ j ≤ 1000000 ∧ i.natAbs < 2 ^ 64 then some (.int (i ^ j.toNat)) else none
  | _, _ => none
def dLt : PyData → PyData → Option PyData
  | .int i, .int j => some (.bool (decide (i < j)))
  | _, _ => none
def dLe : PyData → PyData → Option PyData
  | .int i, .int j => some (.bool (decide (i ≤ j)))
  | _, _ => none
def dGt : PyData → PyData → Option PyData
  | .int i, .int j => some (.bool (decide (j < i)))
  | _, _ => none
def dGe : PyData → PyData → Option PyData
  | .int i, .int j => some (.bool (decide (j ≤ i)))
  | _, _ => none
def dEq (x y : PyData) : Option PyData := if SeqAt.shaped x = true ∧ SeqAt.shaped y = true then some (.bool (PyData.eqv x y)) else none
def dNe (x y : PyData) : Option PyData := if SeqAt.shaped x = true ∧ SeqAt.shaped y = true then some (.bool (!PyData.eqv x y)) else none
def dIn (x : PyData) : PyData → Option PyData
  | .list ys => if SeqAt.shaped x = true ∧ SeqAt.shaped (.list ys) = true then some (.bool (ys.any fun z => PyData.eqv z x)) else none
  | _ => none
def dNotIn (x : PyData) : PyData → Option PyData
  | .list ys => if SeqAt.shaped x = true ∧ SeqAt.shaped (.list ys) = true then some (.bool (!ys.any fun z => PyData.eqv z x)) else none
  | _ => none
/-- is, of two truths or with None -/
def dIs : PyData → PyData → Option PyData
  | .bool a, .bool b => some (.bool (decide (a = b)))
  | _, _ => none
def dIsNot : PyData → PyData → Option PyData
  | .bool a, .bool b => some (.bool (!decide (a = b)))
  | _, _ => none
def dIdx : PyData → PyData → Option PyData
  | .list xs, .int i => atI xs i
  | .tuple xs, .int i => atI xs i
  | .dict [(.none, .list xs)], .int i => atI xs i
  | _, _ => none
variable {K : PySem.W.Frag}
def rOr (r r' : R2) : R2 := fun x y H Q => r x y H Q ∨ r' x y H Q
theorem OpR.or {fn : Value → Value → PySem.Sem Value} {r r' : R2} (h : OpR X fn r) (h' : OpR X fn r') : OpR X fn (rOr r r') := fun pins s σ H x y v u Q I r1 r2 q => by
  rcases q with q | q
  · exact h pins s σ H x y v u Q I r1 r2 q
  · exact h' pins s σ H x y v u Q I r1 r2 q
theorem sz {n : Nat} (h : n ≤ 100000) : n ≤ sizeLine := Nat.le_trans h (by decide)
theorem d_add : R2D K (rOr (rI0 fun i j => .int (i + j)) rCat) dAdd := fun x y H dx dy d r1 r2 e Q k => by
  unfold dAdd at e
  split at e
  · cases r1; cases r2; cases e
    exact .inl ⟨_, _, rfl, rfl, k _ H (ExR H) (.int _)⟩
  · split at e
    · cases e
      cases r1 with
      | lst h1 a1 =>
        cases r2 with
        | lst h2 a2 =>
          refine .inr ⟨_, _, _, _, rfl, rfl, h1, h2, sz (by rw [a1.len, a2.len]; assumption), fun p hp => k _ _ (Evl.Ex.new hp) (.lst upd_same ?_)⟩
          exact RpAll.mono (Evl.Ex.new hp) _ _ (a1.append a2)
    · cases e
  · cases e
theorem d_sub : R2D K (rI0 fun i j => .int (i - j)) dSub := fun x y H dx dy d r1 r2 e Q k => by
  unfold dSub at e
  split at e
  · cases r1; cases r2; cases e
    exact ⟨_, _, rfl, rfl, k _ H (ExR H) (.int _)⟩
  · cases e
theorem RpAll.rep {H : Hp} {xs : List V} {ds : List PyData} (r : RpAll K H xs ds) : ∀ n, RpAll K H (List.replicate n xs).flatten (List.replicate n ds).flatten
  | 0 => .nil
  | n + 1 => by
    rw [List.replicate_succ, List.replicate_succ, List.flatten_cons, List.flatten_cons]
    exact r.append (RpAll.rep r n)
theorem d_mul : R2D K (rOr (rI CMul fun i j => .int (i * j)) rRep) dMul := fun x y H dx dy d r1 r2 e Q k => by
  unfold dMul at e
  split at e
  · split at e
    · rename_i hc
      cases r1; cases r2; cases e
      exact .inl ⟨_, _, rfl, rfl, hc, k _ H (ExR H) (.int _)⟩
    · cases e
  · split at e
    · rename_i hc
      cases r2; cases e
      cases r1 with
      | lst h1 a1 =>
        refine .inr ⟨_, _, _, rfl, rfl, h1, hc.1, hc.2.1, sz (by rw [a1.len]; exact hc.2.2), fun p hp => k _ _ (Evl.Ex.new hp) (.lst upd_same ?_)⟩
        exact RpAll.mono (Evl.Ex.new hp) _ _ (a1.rep _)
    · cases e
  · cases e
theorem d_mod : R2D K (rI (fun _ j => 0 < j) fun i j => .int (i % j)) dMod := fun x y H dx dy d r1 r2 e Q k => by
  unfold dMod at e
  split at e
  · split at e
    · rename_i hc
      cases r1; cases r2; cases e
      exact ⟨_, _, rfl, rfl, hc, k _ H (ExR H) (.int _)⟩
    · cases e
  · cases e
theorem d_div : R2D K (rI CDiv fun i j => .int (i / j)) dDiv := fun x y H dx dy d r1 r2 e Q k => by
  unfold dDiv at e
  split at e
  · split at e
    · rename_i hc
      cases r1; cases r2; cases e
      exact ⟨_, _, rfl, rfl, hc, k _ H (ExR H) (.int _)⟩
    · cases e
  · cases e
theorem d_pow : R2D K (rI CPow fun i j => .int (i ^ j.toNat)) dPow := fun x y H dx dy d r1 r2 e Q k => by
  unfold dPow at e
  split at e
  · split at e
    · rename_i hc
      cases r1; cases r2; cases e
      exact ⟨_, _, rfl, rfl, hc, k _ H (ExR H) (.int _)⟩
    · cases e
  · cases e
theorem d_lt : R2D K (rI0 fun i j => .bl (decide (i < j))) dLt := fun x y H dx dy d r1 r2 e Q k => by
  unfold dLt at e
  split at e
  · cases r1; cases r2; cases e
    exact ⟨_, _, rfl, rfl, k _ H (ExR H) (.bl _)⟩
  · cases e
theorem d_le : R2D K (rI0 fun i j => .bl (decide (i ≤ j))) dLe := fun x y H dx dy d r1 r2 e Q k => by
  unfold dLe at e
  split at e
  · cases r1; cases r2; cases e
    exact ⟨_, _, rfl, rfl, k _ H (ExR H) (.bl _)⟩
  · cases e
theorem d_gt : R2D K (rI0 fun i j => .bl (decide (j < i))) dGt := fun x y H dx dy d r1 r2 e Q k => by
  unfold dGt at e
  split at e
  · cases r1; cases r2; cases e
    exact ⟨_, _, rfl, rfl, k _ H (ExR H) (.bl _)⟩
  · cases e
theorem d_ge : R2D K (rI0 fun i j => .bl (decide (j ≤ i))) dGe := fun x y H dx dy d r1 r2 e Q k => by
  unfold dGe at e
  split at e
  · cases r1; cases r2; cases e
    exact ⟨_, _, rfl, rfl, k _ H (ExR H) (.bl _)⟩
  · cases e
theorem d_eq : R2D K (rEqD K) dEq := fun x y H dx dy d r1 r2 e Q k => by
  unfold dEq at e
  split at e
  · rename_i hc
    cases e
    exact ⟨_, _, Rp.dp _ _ r1 (SeqAt.canLay_of_shaped hc.1), Rp.dp _ _ r2 (SeqAt.canLay_of_shaped hc.2), hc.1, hc.2, k _ H (ExR H) (.bl _)⟩
  · cases e
theorem d_ne : R2D K (rNeD K) dNe := fun x y H dx dy d r1 r2 e Q k => by
  unfold dNe at e
  split at e
  · rename_i hc
    cases e
    exact ⟨_, _, Rp.dp _ _ r1 (SeqAt.canLay_of_shaped hc.1), Rp.dp _ _ r2 (SeqAt.canLay_of_shaped hc.2), hc.1, hc.2, k _ H (ExR H) (.bl _)⟩
  · cases e
theorem d_in : R2D K (rInD K) dIn := fun x y H dx dy d r1 r2 e Q k => by
  unfold dIn at e
  split at e
  · split at e
    · rename_i hc
      cases e
      exact ⟨_, _, Rp.dp _ _ r1 (SeqAt.canLay_of_shaped hc.1), Rp.dp _ _ r2 (SeqAt.canLay_of_shaped hc.2), hc.1, hc.2, k _ H (ExR H) (.bl _)⟩
    · cases e
  · cases e
theorem d_notIn : R2D K (rNotInD K) dNotIn := fun x y H dx dy d r1 r2 e Q k => by
  unfold dNotIn at e
  split at e
  · split at e
    · rename_i hc
      cases e
      exact ⟨_, _, Rp.dp _ _ r1 (SeqAt.canLay_of_shaped hc.1), Rp.dp _ _ r2 (SeqAt.canLay_of_shaped hc.2), hc.1, hc.2, k _ H (ExR H) (.bl _)⟩
    · cases e
  · cases e
theorem d_is : R2D K rIsB dIs := fun x y H dx dy d r1 r2 e Q k => by
  unfold dIs at e
  split at e
  · cases r1; cases r2; cases e
    exact ⟨_, _, rfl, rfl, k _ H (ExR H) (.bl _)⟩
  · cases e
theorem d_isNot : R2D K rNotB dIsNot := fun x y H dx dy d r1 r2 e Q k => by
  unfold dIsNot at e
  split at e
  · cases r1; cases r2; cases e
    exact ⟨_, _, rfl, rfl, k _ H (ExR H) (.bl _)⟩
  · cases e
theorem d_idx : R2D K (rIx K) dIdx := fun x y H dx dy d r1 r2 e Q k => by
  unfold dIdx at e
  split at e
  · cases r2
    cases r1 with
    | lst h1 a1 =>
      obtain ⟨v, g1, g2⟩ := a1.atI e
      exact .inl ⟨_, _, _, v, rfl, rfl, .inl (.inl h1), g1, k _ H (ExR H) g2⟩
  · cases r2
    cases r1 with
    | tup h1 a1 =>
      obtain ⟨v, g1, g2⟩ := a1.atI e
      exact .inr (.inl ⟨_, _, _, v, rfl, rfl, h1, g1, k _ H (ExR H) g2⟩)
  · cases r2
    cases r1 with
    | loc h1 a1 =>
      obtain ⟨v, g1, g2⟩ := a1.atI e
      exact .inl ⟨_, _, _, v, rfl, rfl, h1, g1, k _ H (ExR H) g2⟩
  · cases e
end
end Rg
namespace Rg
open PySem PySem.Spec PyProof.Rows L2
section
variable {X : Cx} {a b c e : Expr} {es rest : List Expr} {f g h : En → Option PyData} {t u : En → Option Bool} {fs : En → Option (List PyData)} {pos : Pos}
theorem s_idx (ha : Sem X a f) (hb : Sem X b g) (hs : PlainIx b) : Sem X (.Subscript a b pos) (o2 dIdx f g) := fun σ H ρ d R e Q k => by
  obtain ⟨x, y, h1, h2, h3⟩ := o2_some e
  exact ⟨_, pe_ix ix_seq (we X a) (we X b) hs, we_pair ha hb R h1 h2 fun v w H2 e' r1 r2 => d_idx v w H2 x y d r1 r2 h3 Q fun z H3 e3 r3 => k z H3 (e'.trans e3) r3⟩
def dNeg : PyData → Option PyData
  | .int i => some (.int (-i))
  | _ => none
theorem s_neg (ha : Sem X a f) : Sem X (.UnaryOp .USub a pos) (o1 dNeg f) := fun σ H ρ d R e Q k => by
  obtain ⟨x, h1, h2⟩ := o1_some e
  refine ⟨_, pe_un un_neg (we X a), ha σ H ρ x R h1 _ fun v H1 e1 r1 => ?_⟩
  unfold dNeg at h2
  split at h2
  · cases r1; cases h2
    exact ⟨_, rfl, k _ H1 e1 (.int _)⟩
  · cases h2
/-- and, or, not, as values -/
def bAnd (f g : En → Option PyData) : En → Option PyData := fun ρ => (tb f ρ).bind fun c => if c then g ρ else some (.bool false)
def bOr (f g : En → Option PyData) : En → Option PyData := fun ρ => (tb f ρ).bind fun c => if c then some (.bool true) else g ρ
def dNot : PyData → Option PyData
  | .bool b => some (.bool (!b))
  | _ => none
theorem tb_bind {α : Type} {ρ : En} {k : Bool → Option α} {d : α} (h : (tb f ρ).bind k = some d) : ∃ c, f ρ = some (.bool c) ∧ k c = some d := by
  cases q : tb f ρ with
  | none => rw [q] at h; cases h
  | some c =>
    rw [q] at h
    exact ⟨c, tb_some q, h⟩
theorem s_one {op : BoolOp} (ha : Sem X a f) : Sem X (.BoolOp op [a] pos) f := fun σ H ρ d R e Q k => ⟨_, pe_one (we X a), ha σ H ρ d R e Q k⟩
theorem s_and (ha : Sem X a f) (hb : Sem X (.BoolOp .And (b :: rest) pos) g) : Sem X (.BoolOp .And (a :: b :: rest) pos) (bAnd f g) := fun σ H ρ d R e Q k => by
  obtain ⟨c, h1, h2⟩ := tb_bind e
  refine ⟨_, pe_and (we X a) (we X _), ha σ H ρ _ R h1 _ fun v H1 e1 r1 => ?_⟩
  cases r1
  refine ⟨c, rfl, ?_⟩
  cases c with
  | true => exact hb σ H1 ρ d (R.mono e1) h2 Q fun v H2 e2 r2 => k v H2 (e1.trans e2) r2
  | false =>
    cases h2
    exact k _ H1 e1 (.bl false)
theorem s_or (ha : Sem X a f) (hb : Sem X (.BoolOp .Or (b :: rest) pos) g) : Sem X (.BoolOp .Or (a :: b :: rest) pos) (bOr f g) := fun σ H ρ d R e Q k => by
  obtain ⟨c, h1, h2⟩ := tb_bind e
  refine ⟨_, pe_or (we X a) (we X _), ha σ H ρ _ R h1 _ fun v H1 e1 r1 => ?_⟩
  cases r1
  refine ⟨c, rfl, ?_⟩
  cases c with
  | false => exact hb σ H1 ρ d (R.mono e1) h2 Q fun v H2 e2 r2 => k v H2 (e1.trans e2) r2
  | true =>
    cases h2
    exact k _ H1 e1 (.bl true)
theorem s_not (ha : Sem X a f) : Sem X (.UnaryOp .Not a pos) (o1 dNot f) := fun σ H ρ d R e Q k => by
  obtain ⟨x, h1, h2⟩ := o1_some e
  refine ⟨_, pe_not (we X a), ha σ H ρ x R h1 _ fun v H1 e1 r1 => ?_⟩
  unfold dNot at h2
  split at h2
  · cases r1; cases h2
    exact ⟨_, rfl, k _ H1 e1 (.bl _)⟩
  · cases h2
/-! ### tests -/
theorem t_val (ha : Sem X a f) (he : ∀ whole, isTrue a X.env whole = (do let v ← whole; standAt a.pos; holding [v] (truthy v)) := by intro _; rfl) : SemT X a (tb f) := fun σ H ρ d R e Q k =>
  ⟨_, pt_val (we X a) he, ha σ H ρ _ R (tb_some e) _ fun v H1 e1 r1 => by
    cases r1
    exact ⟨d, rfl, k H1 e1⟩⟩
/-- the truth of data -/
def dTru : PyData → Option Bool
  | .none => some false
  | .bool b => some b
  | .int i => some (i != 0)
  | .list xs => some (!xs.isEmpty)
  | .tuple xs => some (!xs.isEmpty)
  | _ => none
def tru (f : En → Option PyData) : En → Option Bool := fun ρ => (f ρ).bind dTru
theorem RpAll.emp {K : PySem.W.Frag} {H : Hp} {xs : List V} {ds : List PyData} (r : RpAll K H xs ds) : xs.isEmpty = ds.isEmpty := by cases r <;> rfl
theorem t_truth (ha : Sem X a f) (he : ∀ whole, isTrue a X.env whole = (do let v ← whole; standAt a.pos; holding [v] (truthy v)) := by intro _; rfl) : SemT X a (tru f) := fun σ H ρ d R e Q k => by
  unfold tru at e
  cases q : f ρ with
  | none => rw [q] at e; cases e
  | some x =>
    rw [q] at e
    refine ⟨_, pt_truth (we X a) he, ha σ H ρ x R q _ fun v H1 e1 r1 => ⟨d, ?_, k H1 e1⟩⟩
    cases x with
    | none => cases r1; cases e; rfl
    | bool b => cases r1; cases e; rfl
    | int i => cases r1; cases e; rfl
    | str s => cases e
    | list xs =>
      cases e
      cases r1 with
      | lst h1 a1 => exact .inl ⟨_, .inl (.inl h1), by rw [a1.emp]⟩
    | tuple xs =>
      cases e
      cases r1 with
      | tup h1 a1 => exact .inr (.inl ⟨_, h1, by rw [a1.emp]⟩)
    | dict xs => cases e
def tNt (t : En → Option Bool) : En → Option Bool := fun ρ => (t ρ).map (!·)
def tAn (t u : En → Option Bool) : En → Option Bool := fun ρ => (t ρ).bind fun c => if c then u ρ else some false
def tOo (t u : En → Option Bool) : En → Option Bool := fun ρ => (t ρ).bind fun c => if c then some true else u ρ
theorem t_not (ha : SemT X a t) : SemT X (.UnaryOp .Not a pos) (tNt t) := fun σ H ρ d R e Q k => by
  unfold tNt at e
  cases q : t ρ with
  | none => rw [q] at e; cases e
  | some x =>
    rw [q] at e
    cases e
    exact ⟨_, pt_not (wt X a), ha σ H ρ x R q _ fun H1 e1 => k H1 e1⟩
theorem w_and1 (ha : SemT X a t) : SemW X (.BoolOp .And [a] pos) t := fun σ H ρ d R e Q k => ⟨_, pw_and1 (wt X a), ha σ H ρ d R e Q k⟩
theorem w_or1 (ha : SemT X a t) : SemW X (.BoolOp .Or [a] pos) t := fun σ H ρ d R e Q k => ⟨_, pw_or1 (wt X a), ha σ H ρ d R e Q k⟩
theorem w_and (ha : SemT X a t) (hb : SemW X (.BoolOp .And (b :: rest) pos) u) : SemW X (.BoolOp .And (a :: b :: rest) pos) (tAn t u) := fun σ H ρ d R e Q k => by
  unfold tAn at e
  cases q : t ρ with
  | none => rw [q] at e; cases e
  | some x =>
    rw [q] at e
    refine ⟨_, pw_and (wt X a) (ww X _), ha σ H ρ x R q _ fun H1 e1 => ?_⟩
    cases x with
    | true => exact hb σ H1 ρ d (R.mono e1) e Q fun H2 e2 => k H2 (e1.trans e2)
    | false =>
      cases e
      exact k H1 e1
theorem w_or (ha : SemT X a t) (hb : SemW X (.BoolOp .Or (b :: rest) pos) u) : SemW X (.BoolOp .Or (a :: b :: rest) pos) (tOo t u) := fun σ H ρ d R e Q k => by
  unfold tOo at e
  cases q : t ρ with
  | none => rw [q] at e; cases e
  | some x =>
    rw [q] at e
    refine ⟨_, pw_or (wt X a) (ww X _), ha σ H ρ x R q _ fun H1 e1 => ?_⟩
    cases x with
    | false => exact hb σ H1 ρ d (R.mono e1) e Q fun H2 e2 => k H2 (e1.trans e2)
    | true =>
      cases e
      exact k H1 e1
theorem semw_t (h : SemW X a t) : SemT X a t := fun σ H ρ d R e Q k => by
  obtain ⟨t, p, q⟩ := h σ H ρ d R e Q k
  exact ⟨t, p.pt, q⟩
/-- a if t else b -/
def fIf (t : En → Option Bool) (f g : En → Option PyData) : En → Option PyData := fun ρ => (t ρ).bind fun c => if c then f ρ else g ρ
theorem s_ife (hc : SemT X c t) (ha : Sem X a f) (hb : Sem X b g) : Sem X (.IfExp c a b pos) (fIf t f g) := fun σ H ρ d R e Q k => by
  unfold fIf at e
  cases q : t ρ with
  | none => rw [q] at e; cases e
  | some x =>
    rw [q] at e
    refine ⟨_, pe_ifExp (wt X c) (we X a) (we X b), hc σ H ρ x R q _ fun H1 e1 => ?_⟩
    cases x with
    | true => exact ha σ H1 ρ d (R.mono e1) e Q fun v H2 e2 r2 => k v H2 (e1.trans e2) r2
    | false => exact hb σ H1 ρ d (R.mono e1) e Q fun v H2 e2 r2 => k v H2 (e1.trans e2) r2
/-- a < b < c -/
def fCh (o o' : PyData → PyData → Option PyData) (f g h : En → Option PyData) : En → Option PyData := fun ρ => (f ρ).bind fun x => (g ρ).bind fun y => (o x y).bind fun
  | .bool true => (h ρ).bind fun z => o' y z
  | .bool false => some (.bool false)
  | _ => none
theorem ch_aux {op op' : CmpOp} {r r' : R2} {o o' : PyData → PyData → Option PyData} (hr : R2D X.K r o) (hr' : R2D X.K r' o') (ha : Sem X a f) (hb : Sem X b g) (hc : Sem X c h)
    {σ : L2.St} {H : Hp} {ρ : En} {d : PyData} (R : Rep X.K H σ ρ) (e : fCh o o' f g h ρ = some d) {Q : VK} (k : ∀ v H2, Ex H H2 → Rp X.K H2 v d → Q v H2) : tChain r r' (WE X a) (WE X b) (WE X c) σ H Q := by
  unfold fCh at e
  cases q1 : f ρ with
  | none => rw [q1] at e; cases e
  | some x =>
    cases q2 : g ρ with
    | none => rw [q1, q2] at e; cases e
    | some y =>
      cases q3 : o x y with
      | none => rw [q1, q2] at e; simp only [Option.bind_some, q3, Option.bind_none] at e; cases e
      | some z =>
        rw [q1, q2] at e
        simp only [Option.bind_some, q3] at e
        refine we_pair ha hb R q1 q2 fun v w H2 e' r1 r2 => hr v w H2 x y z r1 r2 q3 _ fun z' H3 e3 r3 => ?_
        cases z with
        | bool bb =>
          cases r3
          refine ⟨bb, rfl, ?_⟩
          cases bb with
          | false =>
            cases e
            exact k _ H3 (e'.trans e3) (.bl false)
          | true =>
            cases q4 : h ρ with
            | none => rw [q4] at e; cases e
            | some z2 =>
              rw [q4] at e
              exact hc σ H3 ρ z2 (R.mono (e'.trans e3)) q4 _ fun w' H4 e4 r4 => hr' w w' H4 y z2 d (Rp.mono (e3.trans e4) _ _ r2) r4 e Q fun v5 H5 e5 r5 => k v5 H5 ((e'.trans e3).trans (e4.trans e5)) r5
        | _ => cases e
theorem s_chain {op op' : CmpOp} {r r' : R2} {o o' : PyData → PyData → Option PyData} (ho : OpR X (compareOp op) r) (ho' : OpR X (compareOp op') r') (hr : R2D X.K r o) (hr' : R2D X.K r' o') (ha : Sem X a f) (hb : Sem X b g) (hc : Sem X c h)
    (hm : lastMarks [op, op'] [b, c] = false := by with_unfolding_all rfl) : Sem X (.Compare a [op, op'] [b, c] pos) (fCh o o' f g h) := fun σ H ρ d R e Q k =>
  ⟨_, pe_chain ho ho' (we X a) (we X b) (we X c) hm, ch_aux (op := op) (op' := op') hr hr' ha hb hc R e k⟩
theorem t_chain {op op' : CmpOp} {r r' : R2} {o o' : PyData → PyData → Option PyData} (ho : OpR X (compareOp op) r) (ho' : OpR X (compareOp op') r') (hr : R2D X.K r o) (hr' : R2D X.K r' o') (ha : Sem X a f) (hb : Sem X b g) (hc : Sem X c h)
    (hm : lastMarks [op, op'] [b, c] = false := by with_unfolding_all rfl) : SemT X (.Compare a [op, op'] [b, c] pos) (tb (fCh o o' f g h)) := fun σ H ρ d R e Q k =>
  ⟨_, pt_chain ho ho' (we X a) (we X b) (we X c) hm, ch_aux (op := op) (op' := op') hr hr' ha hb hc R (tb_some e) fun v H2 e2 r2 => by
    cases r2
    exact ⟨d, rfl, k H2 e2⟩⟩
/-! ### arguments, displays -/
def aN : En → Option (List PyData) := fun _ => some []
def aC (f : En → Option PyData) (fs : En → Option (List PyData)) : En → Option (List PyData) := fun ρ => (f ρ).bind fun x => (fs ρ).bind fun xs => some (x :: xs)
theorem sa_nil : SemA X [] aN := fun σ H ρ d R e Q k => by
  cases e
  exact ⟨_, pa_nil, k [] H (ExR H) .nil⟩
theorem sa_cons (ha : Sem X e f) (hr : SemA X es fs) (hs : starEach (e :: es) X.env = (false, eval e X.env) :: starEach es X.env := by rfl) : SemA X (e :: es) (aC f fs) := fun σ H ρ d R e' Q k => by
  unfold aC at e'
  cases q : f ρ with
  | none => rw [q] at e'; cases e'
  | some x =>
    cases q2 : fs ρ with
    | none => rw [q, q2] at e'; cases e'
    | some xs =>
      rw [q, q2] at e'
      cases e'
      exact ⟨_, pa_cons (we X e) (wa X es) hs, ha σ H ρ x R q _ fun v H1 e1 r1 => hr σ H1 ρ xs (R.mono e1) q2 _ fun vs H2 e2 r2 => k _ H2 (e1.trans e2) (.cons (Rp.mono e2 _ _ r1) r2)⟩
def dTup (fs : En → Option (List PyData)) : En → Option PyData := fun ρ => (fs ρ).bind fun xs => if xs.length ≤ 100000 then some (.tuple xs) else none
def dLst (fs : En → Option (List PyData)) : En → Option (List PyData) := fun ρ => (fs ρ).bind fun xs => if xs.length ≤ 100000 then some xs else none
theorem s_tup {k} (ha : SemA X es fs) : Sem X (.Tuple es k pos) (dTup fs) := fun σ H ρ d R e Q kk => by
  unfold dTup at e
  cases q : fs ρ with
  | none => rw [q] at e; cases e
  | some xs =>
    rw [q] at e
    simp only [Option.bind_some] at e
    split at e
    · rename_i hl
      cases e
      exact ⟨_, pe_tup (wa X es), ha σ H ρ xs R q _ fun vs H1 e1 r1 => ⟨sz (by rw [r1.len]; exact hl), fun p hp => kk _ _ (e1.trans (Evl.Ex.new hp)) (.tup (.inl (.inl upd_same)) (RpAll.mono (Evl.Ex.new hp) _ _ r1))⟩⟩
    · cases e
theorem sf_lst (ha : SemA X es fs) : SemF X (.List es pos) (dLst fs) := fun σ H ρ d R e Q kk => by
  unfold dLst at e
  cases q : fs ρ with
  | none => rw [q] at e; cases e
  | some xs =>
    rw [q] at e
    simp only [Option.bind_some] at e
    split at e
    · rename_i hl
      cases e
      exact ⟨_, pe_lst (wa X es), ha σ H ρ _ R q _ fun vs H1 e1 r1 => ⟨sz (by have := r1.len; omega), fun p hp => kk p H1 vs e1 hp r1⟩⟩
    · cases e
/-- a new list of two joined -/
def fCat (f g : En → Option PyData) : En → Option (List PyData) := fun ρ => match f ρ, g ρ with
  | some (.list xs), some (.list ys) => if xs.length + ys.length ≤ 100000 then some (xs ++ ys) else none
  | _, _ => none
theorem sf_cat (ha : Sem X a f) (hb : Sem X b g) : SemF X (.BinOp a .Add b pos) (fCat f g) := fun σ H ρ d R e Q k => by
  unfold fCat at e
  split at e
  · rename_i xs ys q1 q2
    split at e
    · rename_i hl
      cases e
      refine ⟨_, pe_op op_cat (we X a) (we X b), we_pair ha hb R q1 q2 fun v w H2 e' r1 r2 => ?_⟩
      cases r1 with
      | lst h1 a1 =>
        cases r2 with
        | lst h2 a2 => exact ⟨_, _, _, _, rfl, rfl, h1, h2, sz (by rw [a1.len, a2.len]; assumption), fun p hp => k p H2 _ e' hp (a1.append a2)⟩
    · cases e
  · cases e
/-! ### slices -/
theorem so_none : SemO X none (fun _ => some none) := fun σ H ρ o R e Q k => by
  cases e
  exact ⟨_, po_none, k H (ExR H)⟩
def oI (f : En → Option PyData) : En → Option (Option Int) := fun ρ => (f ρ).bind fun
  | .int i => some (some i)
  | _ => none
theorem so_some (ha : Sem X a f) : SemO X (some a) (oI f) := fun σ H ρ o R e Q k => by
  unfold oI at e
  cases q : f ρ with
  | none => rw [q] at e; cases e
  | some x =>
    rw [q] at e
    cases x <;> first | (cases e; done) | skip
    cases e
    refine ⟨_, po_some (we X a), ha σ H ρ _ R q _ fun v H1 e1 r1 => ?_⟩
    cases r1
    exact ⟨_, rfl, k H1 e1⟩
def cutD (xs : List PyData) (lo hi : Option Int) : List PyData := (xs.drop (HT.sIx xs.length 0 lo)).take (HT.sIx xs.length xs.length hi - HT.sIx xs.length 0 lo)
theorem RpAll.cut {K : PySem.W.Frag} {H : Hp} {xs : List V} {ds : List PyData} (r : RpAll K H xs ds) (lo hi : Option Int) : RpAll K H (cutV xs lo hi) (cutD ds lo hi) := by
  unfold cutV cutD
  rw [r.len]
  exact (r.drop _).take _
def fSl (f : En → Option PyData) (l u : En → Option (Option Int)) : En → Option (List PyData) := fun ρ => match f ρ, l ρ, u ρ with
  | some (.list xs), some lo, some hi => some (cutD xs lo hi)
  | some (.dict [(.none, .list xs)]), some lo, some hi => some (cutD xs lo hi)
  | _, _, _ => none
theorem wo (e : Option Expr) : PO X e (WO X e) := ⟨fun pins s σ H Q I ⟨_, h, q⟩ => h.run pins s σ H Q I q⟩
theorem sf_sl {lo hi : Option Expr} {l u : En → Option (Option Int)} {p2 : Pos} (ha : Sem X a f) (hl : SemO X lo l) (hu : SemO X hi u) : SemF X (.Subscript a (.Slice lo hi none p2) pos) (fSl f l u) := fun σ H ρ d R e Q k => by
  unfold fSl at e
  have fin : ∀ x d' lo' hi', f ρ = some x → l ρ = some lo' → u ρ = some hi' → (∀ v H', Rp X.K H' v x → ∃ a xs, v = .ref a ∧ SqL X.K H' a xs ∧ RpAll X.K H' xs d') → d = cutD d' lo' hi' → WE X (.Subscript a (.Slice lo hi none p2) pos) σ H Q := by
    intro x d' lo' hi' q1 q2 q3 hx ed
    subst ed
    refine ⟨_, pe_slice sl_list (we X a) (wo lo) (wo hi), ?_⟩
    · refine ha σ H ρ _ R q1 _ fun v H1 e1 r1 => hl σ H1 ρ _ (R.mono e1) q2 _ fun H2 e2 => hu σ H2 ρ _ (R.mono (e1.trans e2)) q3 _ fun H3 e3 => ?_
      obtain ⟨a, xs, rfl, hs, hr⟩ := hx v H3 (Rp.mono (e2.trans e3) _ _ r1)
      exact ⟨a, xs, rfl, hs, fun p hp => k p H3 _ ((e1.trans e2).trans e3) hp (hr.cut _ _)⟩
  split at e
  · rename_i xs lo' hi' q1 q2 q3
    cases e
    exact fin _ xs _ _ q1 q2 q3 (fun v H' r => by cases r with | lst h1 a1 => exact ⟨_, _, rfl, .inl (.inl h1), a1⟩) rfl
  · rename_i xs lo' hi' q1 q2 q3
    cases e
    exact fin _ xs _ _ q1 q2 q3 (fun v H' r => by cases r with | loc h1 a1 => exact ⟨_, _, rfl, h1, a1⟩) rfl
  · cases e
def fRev (f : En → Option PyData) : En → Option (List PyData) := fun ρ => match f ρ with
  | some (.list xs) => some xs.reverse
  | _ => none
theorem sf_rev {k : Nat} {p1 p2 p3 : Pos} (ha : Sem X a f) : SemF X (.Subscript a (.Slice none none (some (.UnaryOp .USub (.Constant (.int 1) k p1) p2)) p3) pos) (fRev f) := fun σ H ρ d R e Q kk => by
  unfold fRev at e
  split at e
  · rename_i xs q
    cases e
    refine ⟨_, pe_revL (we X a), ha σ H ρ _ R q _ fun v H1 e1 r1 => ?_⟩
    cases r1 with
    | lst h1 a1 => exact ⟨_, _, rfl, .inl (.inl h1), fun p hp => kk p H1 _ e1 hp a1.rev⟩
  · cases e
/-! ### calls of built-ins -/
/-- what a call of values does with data -/
def CRD (K : PySem.W.Frag) (r : List V → Hp → VK → Prop) (op : List PyData → Option PyData) : Prop :=
  ∀ (vs : List V) (H : Hp) (ds : List PyData) (d : PyData), RpAll K H vs ds → op ds = some d → ∀ Q : VK, (∀ v H2, Ex H H2 → Rp K H2 v d → Q v H2) → r vs H Q
def cl (op : List PyData → Option PyData) (fs : En → Option (List PyData)) : En → Option PyData := fun ρ => (fs ρ).bind op
theorem cl_some {op : List PyData → Option PyData} {ρ : En} {d : PyData} (h : cl op fs ρ = some d) : ∃ ds, fs ρ = some ds ∧ op ds = some d := by
  unfold cl at h
  cases q : fs ρ with
  | none => rw [q] at h; cases h
  | some x => rw [q] at h; exact ⟨x, rfl, h⟩
theorem s_cb {id : String} {x : Str} {p : Pos} {r : List V → Hp → VK → Prop} {op : List PyData → Option PyData} (hc : CallR X (.builtin id) r) (hr : CRD X.K r op) (hg : Gl X x) (hm : X.mg x = none) (hv : bootBuiltins x = some (.builtin id)) (ha : SemA X (e :: es) fs)
    (hn : x ≠ "__name__" := by decide) (hdb : (x == ("__debug__" : Str)) = false := by decide) (he : starEach (e :: es) X.env = (false, eval e X.env) :: starEach es X.env := by rfl) (hpl : (backTo pos (starEach es X.env)).any (·.1) = false := by rfl) :
    Sem X (.Call (.Name x p) (e :: es) [] pos) (cl op fs) := fun σ H ρ d R e' Q k => by
  obtain ⟨ds, h1, h2⟩ := cl_some e'
  exact ⟨_, pe_callB hc hg hm hv (wa X (e :: es)) hn hdb he hpl, ha σ H ρ ds R h1 _ fun vs H1 e1 r1 => hr vs H1 ds d r1 h2 Q fun v H2 e2 r2 => k v H2 (e1.trans e2) r2⟩
theorem s_cty {T : String} {x : Str} {p : Pos} {r : List V → Hp → VK → Prop} {op : List PyData → Option PyData} (hc : CallR X (.type T) r) (hr : CRD X.K r op) (hg : Gl X x) (hm : X.mg x = none) (hv : bootBuiltins x = some (.type T)) (ha : SemA X (e :: es) fs)
    (hn : x ≠ "__name__" := by decide) (hdb : (x == ("__debug__" : Str)) = false := by decide) (he : starEach (e :: es) X.env = (false, eval e X.env) :: starEach es X.env := by rfl) (hpl : (backTo pos (starEach es X.env)).any (·.1) = false := by rfl) :
    Sem X (.Call (.Name x p) (e :: es) [] pos) (cl op fs) := fun σ H ρ d R e' Q k => by
  obtain ⟨ds, h1, h2⟩ := cl_some e'
  exact ⟨_, pe_callTy hc hg hm hv (wa X (e :: es)) hn hdb he hpl, ha σ H ρ ds R h1 _ fun vs H1 e1 r1 => hr vs H1 ds d r1 h2 Q fun v H2 e2 r2 => k v H2 (e1.trans e2) r2⟩
end
end Rg
namespace Rg
open PySem PySem.Spec PyProof.Rows L2
section
variable {X : Cx} {K : PySem.W.Frag} {a b c e : Expr} {es rest : List Expr} {f g h : En → Option PyData} {t u : En → Option Bool} {fs : En → Option (List PyData)} {pos : Pos}
/-! ### built-ins by data -/
def bLen : List PyData → Option PyData
  | [.list xs] => some (.int xs.length)
  | [.tuple xs] => some (.int xs.length)
  | [.dict [(.none, .list xs)]] => some (.int xs.length)
  | [.str z] => if z.length ≤ 100000 then some (.int z.length) else none
  | _ => none
theorem c_len : CRD K (fun xs H Q => ∃ x n, xs = [x] ∧ LenV K x H n ∧ Q (.int n) H) bLen := fun vs H ds d r e Q k => by
  unfold bLen at e
  split at e
  · cases e
    cases r with
    | cons r1 r2 =>
      cases r2
      cases r1 with
      | lst h1 a1 => exact ⟨_, _, rfl, .inl ⟨_, .inl (.inl h1), rfl⟩, by rw [a1.len]; exact k _ H (ExR H) (.int _)⟩
  · cases e
    cases r with
    | cons r1 r2 =>
      cases r2
      cases r1 with
      | tup h1 a1 => exact ⟨_, _, rfl, .inr ⟨_, h1, rfl⟩, by rw [a1.len]; exact k _ H (ExR H) (.int _)⟩
  · cases e
    cases r with
    | cons r1 r2 =>
      cases r2
      cases r1 with
      | loc h1 a1 => exact ⟨_, _, rfl, .inl ⟨_, h1, rfl⟩, by rw [a1.len]; exact k _ H (ExR H) (.int _)⟩
  · split at e
    · rename_i hz
      cases e
      cases r with
      | cons r1 r2 =>
        cases r2
        cases r1
        exact ⟨_, _, rfl, ⟨sz hz, rfl⟩, k _ H (ExR H) (.int _)⟩
    · cases e
  · cases e
def bAbs : List PyData → Option PyData
  | [.int i] => some (.int (if i < 0 then -i else i))
  | _ => none
theorem c_abs : CRD K (fun xs H Q => ∃ i, xs = [.int i] ∧ Q (.int (if i < 0 then -i else i)) H) bAbs := fun vs H ds d r e Q k => by
  unfold bAbs at e
  split at e
  · cases e
    cases r with
    | cons r1 r2 => cases r2; cases r1; exact ⟨_, rfl, k _ H (ExR H) (.int _)⟩
  · cases e
def bMax : List PyData → Option PyData
  | [.int i, .int j] => some (.int (if j > i then j else i))
  | _ => none
theorem c_max : CRD K (fun xs H Q => ∃ i j, xs = [.int i, .int j] ∧ Q (.int (if j > i then j else i)) H) bMax := fun vs H ds d r e Q k => by
  unfold bMax at e
  split at e
  · cases e
    cases r with
    | cons r1 r2 =>
      cases r2 with
      | cons r2 r3 => cases r3; cases r1; cases r2; exact ⟨_, _, rfl, k _ H (ExR H) (.int _)⟩
  · cases e
def bMin : List PyData → Option PyData
  | [.int i, .int j] => some (.int (if j < i then j else i))
  | _ => none
theorem c_min : CRD K (fun xs H Q => ∃ i j, xs = [.int i, .int j] ∧ Q (.int (if j < i then j else i)) H) bMin := fun vs H ds d r e Q k => by
  unfold bMin at e
  split at e
  · cases e
    cases r with
    | cons r1 r2 =>
      cases r2 with
      | cons r2 r3 => cases r3; cases r1; cases r2; exact ⟨_, _, rfl, k _ H (ExR H) (.int _)⟩
  · cases e
def bInt : List PyData → Option PyData
  | [.int i] => some (.int i)
  | [.bool b] => some (.int (if b then 1 else 0))
  | _ => none
theorem c_int : CRD K (fun xs H Q => (∃ i, xs = [.int i] ∧ Q (.int i) H) ∨ ∃ k, xs = [.bl k] ∧ Q (.int (if k then 1 else 0)) H) bInt := fun vs H ds d r e Q k => by
  unfold bInt at e
  split at e
  · cases e
    cases r with
    | cons r1 r2 => cases r2; cases r1; exact .inl ⟨_, rfl, k _ H (ExR H) (.int _)⟩
  · cases e
    cases r with
    | cons r1 r2 => cases r2; cases r1; exact .inr ⟨_, rfl, k _ H (ExR H) (.int _)⟩
  · cases e
def bTuple : List PyData → Option PyData
  | [.list xs] => some (.tuple xs)
  | [.tuple xs] => some (.tuple xs)
  | _ => none
theorem c_tuple : CRD K (fun xs H Q => ∃ p ys, xs = [.ref p] ∧ ((SqL K H p ys ∧ ∀ l, H l = none → Q (.ref l) (upd H l (.tup ys))) ∨ (SqT K H p ys ∧ Q (.ref p) H))) bTuple := fun vs H ds d r e Q k => by
  unfold bTuple at e
  split at e
  · cases e
    cases r with
    | cons r1 r2 =>
      cases r2
      cases r1 with
      | lst h1 a1 => exact ⟨_, _, rfl, .inl ⟨.inl (.inl h1), fun l hl => k _ _ (Evl.Ex.new hl) (.tup (.inl (.inl upd_same)) (RpAll.mono (Evl.Ex.new hl) _ _ a1))⟩⟩
  · cases e
    cases r with
    | cons r1 r2 =>
      cases r2
      cases r1 with
      | tup h1 a1 => exact ⟨_, _, rfl, .inr ⟨h1, k _ H (ExR H) (.tup h1 a1)⟩⟩
  · cases e
/-- list(xs): a new one -/
def fList (fs : En → Option (List PyData)) : En → Option (List PyData) := fun ρ => (fs ρ).bind fun
  | [.list xs] => some xs
  | [.tuple xs] => some xs
  | [.dict [(.none, .list xs)]] => some xs
  | _ => none
theorem sf_list {x : Str} {p : Pos} (hg : Gl X x) (hm : X.mg x = none) (hv : bootBuiltins x = some (.type "list")) (ha : SemA X (e :: es) fs)
    (hn : x ≠ "__name__" := by decide) (hdb : (x == ("__debug__" : Str)) = false := by decide) (he : starEach (e :: es) X.env = (false, eval e X.env) :: starEach es X.env := by rfl) (hpl : (backTo pos (starEach es X.env)).any (·.1) = false := by rfl) :
    SemF X (.Call (.Name x p) (e :: es) [] pos) (fList fs) := fun σ H ρ d R e' Q k => by
  unfold fList at e'
  cases q : fs ρ with
  | none => rw [q] at e'; cases e'
  | some xs =>
    rw [q] at e'
    simp only [Option.bind_some] at e'
    refine ⟨_, pe_callTy call_list_of hg hm hv (wa X (e :: es)) hn hdb he hpl, ha σ H ρ _ R q _ fun vs H1 e1 r1 => ?_⟩
    split at e'
    · cases e'
      cases r1 with
      | cons r1 r2 =>
        cases r2
        cases r1 with
        | lst h1 a1 => exact ⟨_, _, rfl, .inl (.inl (.inl h1)), fun l hl => k l H1 _ e1 hl a1⟩
    · cases e'
      cases r1 with
      | cons r1 r2 =>
        cases r2
        cases r1 with
        | tup h1 a1 => exact ⟨_, _, rfl, .inr h1, fun l hl => k l H1 _ e1 hl a1⟩
    · cases e'
      cases r1 with
      | cons r1 r2 =>
        cases r2
        cases r1 with
        | loc h1 a1 => exact ⟨_, _, rfl, .inl h1, fun l hl => k l H1 _ e1 hl a1⟩
    · cases e'
/-! ### isinstance with a built-in type -/
def tyN : PyData → String
  | .none => "NoneType"
  | .bool _ => "bool"
  | .int _ => "int"
  | .str _ => "str"
  | .list _ => "list"
  | .tuple _ => "tuple"
  | .dict [] => "dict"
  | .dict _ => "list"
theorem SqT.ty {H : Hp} {a : Addr} {xs : List V} (h : SqT K H a xs) : TyX K H (.ref a) (.type "tuple") := by
  rcases h with (h | ⟨o, h⟩) | ⟨o, its, n, h, h2, _⟩
  · exact .base (.tup h)
  · exact .fTuple h
  · exact .kTuple h h2
theorem SqL.ty {H : Hp} {a : Addr} {xs : List V} (h : SqL K H a xs) : TyX K H (.ref a) (.type "list") := by
  rcases h with (h | ⟨o, h⟩) | ⟨o, its, n, h, h2, _⟩
  · exact .base (.lst h)
  · exact .base (.frz h)
  · exact .kList h h2
theorem Rp.ty {H : Hp} {v : V} {d : PyData} (r : Rp K H v d) : TyX K H v (.type (tyN d)) := by
  cases r with
  | non => exact .base .non
  | bl b => exact .base (.bl b)
  | int i => exact .base (.int i)
  | str i => exact .base (.str i)
  | lst h _ => exact .base (.lst h)
  | tup h _ => exact SqT.ty h
  | loc h _ => exact SqL.ty h
  | dct h => exact .base (.dK h)
def dIsi (T : String) (d : PyData) : Option PyData := (kitB (tyN d) T).map .bool
/-- isinstance(a, T), T the name x of a built-in type -/
theorem s_isi {T : String} {p q : Pos} {y : Str} (hg : Gl X "isinstance") (hm : X.mg "isinstance" = none) (hgT : Gl X y) (hmT : X.mg y = none) (hvT : bootBuiltins y = some (.type T)) (ha : Sem X a f)
    (hnT : y ≠ "__name__" := by decide) (hdT : (y == ("__debug__" : Str)) = false := by decide)
    (he : starEach [a, .Name y q] X.env = (false, eval a X.env) :: starEach [.Name y q] X.env := by rfl) (hpl : (backTo pos (starEach [.Name y q] X.env)).any (·.1) = false := by rfl) (he2 : starEach [.Name y q] X.env = (false, eval (.Name y q) X.env) :: starEach [] X.env := by rfl) :
    Sem X (.Call (.Name "isinstance" p) [a, .Name y q] [] pos) (o1 (dIsi T) f) := fun σ H ρ d R e' Q k => by
  obtain ⟨z, h1, h2⟩ := o1_some e'
  refine ⟨_, pe_callB call_isi hg hm (by decide +kernel) (pa_cons (we X a) (pa_cons (pe_bltn (v := .ty T) hgT hmT hvT rfl hnT hdT) pa_nil he2) he) (by decide) (by decide) he hpl, ha σ H ρ _ R h1 _ fun v H1 e1 r1 => ?_⟩
  unfold dIsi at h2
  cases q : kitB (tyN z) T with
  | none => rw [q] at h2; cases h2
  | some bb =>
    rw [q] at h2
    cases h2
    exact ⟨v, .ty T, _, .type T, bb, rfl, .ty T, Rp.ty r1, kit_ty q, k _ H1 e1 (.bl bb)⟩
/-! ### own defs -/
/-- called with such data it hands back g of them -/
def SpD (K : PySem.W.Frag) (g : List PyData → Option PyData) : Sp := fun vs H Q _ => ∃ ds d, RpAll K H vs ds ∧ g ds = some d ∧ ∀ v H2, Ex H H2 → Rp K H2 v d → Q v H2
/-- .. a new list -/
def SpF (K : PySem.W.Frag) (g : List PyData → Option (List PyData)) : Sp := fun vs H Q _ => ∃ ds es, RpAll K H vs ds ∧ g ds = some es ∧ ∀ p B xs, Ex H B → B p = none → RpAll K B xs es → Q (.ref p) (upd B p (.lst xs))
theorem spF_D {g : List PyData → Option (List PyData)} : ∀ vs H Q E, SpD K (fun ds => (g ds).map .list) vs H Q E → SpF K g vs H Q E := fun vs H Q E ⟨ds, d, r, e, k⟩ => by
  cases q : g ds with
  | none => simp only [q] at e; cases e
  | some es =>
    simp only [q] at e
    cases e
    exact ⟨ds, es, r, q, fun p B xs e1 e2 e3 => k _ _ (e1.trans (Evl.Ex.new e2)) (.lst upd_same (RpAll.mono (Evl.Ex.new e2) _ _ e3))⟩
/-- a def of the text that keeps a promise, as it is called here -/
structure FnX (X : Cx) (x : Str) (sp : Sp) : Prop where
  ex : ∃ (CX : CXT) (k : Nat) (f : Addr) (fd : FuncData) (ps : List Str) (E : XK), FnOk X.prog X.w X.K X.mg X.base CX k f fd ps sp ∧ Room k X.A ∧ X.mg x = some (.ref f) ∧ PySem.W.keepIn X.K (.ref f) = true ∧ Binds X.K fd ps [] ∧ Passes CX X E
theorem s_call {x : Str} {p : Pos} {G : List PyData → Option PyData} (F : FnX X x (SpD X.K G)) (hg : Gl X x) (ha : SemA X (e :: es) fs) (hdb : (x == ("__debug__" : Str)) = false := by decide) (he : starEach (e :: es) X.env = (false, eval e X.env) :: starEach es X.env := by rfl) (hpl : (backTo pos (starEach es X.env)).any (·.1) = false := by rfl) :
    Sem X (.Call (.Name x p) (e :: es) [] pos) (cl G fs) := fun σ H ρ d R e' Q k => by
  obtain ⟨ds, h1, h2⟩ := cl_some e'
  obtain ⟨CX, j, fa, fd, ps, E, hF, hr, hm, hk, hb, hx⟩ := F.ex
  refine ⟨_, pe_call hF hr hg hm hk hb .nil hx (wa X (e :: es)) hdb he hpl, ha σ H ρ ds R h1 _ fun vs H1 e1 r1 => ?_⟩
  rw [List.append_nil]
  exact ⟨ds, d, r1, h2, fun v H2 e2 r2 => k v H2 (e1.trans e2) r2⟩
theorem s_call0 {x : Str} {p : Pos} {G : List PyData → Option PyData} (F : FnX X x (SpD X.K G)) (hg : Gl X x) (hdb : (x == ("__debug__" : Str)) = false := by decide) : Sem X (.Call (.Name x p) [] [] pos) (cl G aN) := fun σ H ρ d R e' Q k => by
  obtain ⟨ds, h1, h2⟩ := cl_some e'
  cases h1
  obtain ⟨CX, j, fa, fd, ps, E, hF, hr, hm, hk, hb, hx⟩ := F.ex
  exact ⟨_, pe_call0 hF hr hg hm hk hb .nil hx hdb, [], d, .nil, h2, fun v H2 e2 r2 => k v H2 e2 r2⟩
def clF (op : List PyData → Option (List PyData)) (fs : En → Option (List PyData)) : En → Option (List PyData) := fun ρ => (fs ρ).bind op
theorem clF_some {op : List PyData → Option (List PyData)} {ρ : En} {d : List PyData} (h : clF op fs ρ = some d) : ∃ ds, fs ρ = some ds ∧ op ds = some d := by
  unfold clF at h
  cases q : fs ρ with
  | none => rw [q] at h; cases h
  | some x => rw [q] at h; exact ⟨x, rfl, h⟩
theorem sf_call {x : Str} {p : Pos} {G : List PyData → Option (List PyData)} (F : FnX X x (SpF X.K G)) (hg : Gl X x) (ha : SemA X (e :: es) fs) (hdb : (x == ("__debug__" : Str)) = false := by decide) (he : starEach (e :: es) X.env = (false, eval e X.env) :: starEach es X.env := by rfl) (hpl : (backTo pos (starEach es X.env)).any (·.1) = false := by rfl) :
    SemF X (.Call (.Name x p) (e :: es) [] pos) (clF G fs) := fun σ H ρ d R e' Q k => by
  obtain ⟨ds, h1, h2⟩ := clF_some e'
  obtain ⟨CX, j, fa, fd, ps, E, hF, hr, hm, hk, hb, hx⟩ := F.ex
  refine ⟨_, pe_call hF hr hg hm hk hb .nil hx (wa X (e :: es)) hdb he hpl, ha σ H ρ ds R h1 _ fun vs H1 e1 r1 => ?_⟩
  rw [List.append_nil]
  exact ⟨ds, d, r1, h2, fun p B xs e2 e3 r2 => k p B xs (e1.trans e2) e3 r2⟩
theorem sf_call0 {x : Str} {p : Pos} {G : List PyData → Option (List PyData)} (F : FnX X x (SpF X.K G)) (hg : Gl X x) (hdb : (x == ("__debug__" : Str)) = false := by decide) : SemF X (.Call (.Name x p) [] [] pos) (clF G aN) := fun σ H ρ d R e' Q k => by
  obtain ⟨ds, h1, h2⟩ := clF_some e'
  cases h1
  obtain ⟨CX, j, fa, fd, ps, E, hF, hr, hm, hk, hb, hx⟩ := F.ex
  exact ⟨_, pe_call0 hF hr hg hm hk hb .nil hx hdb, [], d, .nil, h2, fun p B xs e2 e3 r2 => k p B xs e2 e3 r2⟩
end
end Rg
namespace Rg
open PySem PySem.Spec PyProof.Rows L2
/-- a slot: nothing known, data that may be shared, a list that nobody else holds -/
inductive Cl where
  | no | sh (d : PyData) | ow (ds : List PyData)
abbrev Ev := List Cl
def Cl.view : Cl → Option PyData
  | .no => none
  | .sh d => some d
  | .ow ds => some (.list ds)
def Cl.blank : Cl → Option PyData
  | .no => none
  | .sh d => some d
  | .ow _ => none
def view (ρ : Ev) : En := ρ.map Cl.view
def blank (ρ : Ev) : En := ρ.map Cl.blank
inductive Fl where
  | nx (ρ : Ev) | rt (c : Cl) | bk (ρ : Ev) | ct (ρ : Ev)
structure RepO (K : PySem.W.Frag) (H : Hp) (σ : L2.St) (ρ : Ev) (B : Hp) : Prop where
  len : σ.length = ρ.length
  hid : Hid B H
  sh : ∀ (i : Nat) (d : PyData), ρ[i]? = some (.sh d) → ∃ v, σ[i]? = some (some v) ∧ Rp K B v d
  ow : ∀ (i : Nat) (ds : List PyData), ρ[i]? = some (.ow ds) → ∃ l xs, σ[i]? = some (some (.ref l)) ∧ B l = none ∧ H l = some (.lst xs) ∧ RpAll K B xs ds
  inj : ∀ (i j : Nat) (ds es : List PyData) (l : Addr), i ≠ j → ρ[i]? = some (.ow ds) → ρ[j]? = some (.ow es) → σ[i]? = some (some (.ref l)) → σ[j]? = some (some (.ref l)) → False
section
variable {K : PySem.W.Frag} {H H2 B B2 : Hp} {σ : L2.St} {ρ : Ev}
theorem RepO.blank (r : RepO K H σ ρ B) : Rep K B σ (blank ρ) := fun i d h => by
  unfold Rg.blank at h
  rw [List.getElem?_map] at h
  cases q : ρ[i]? with
  | none => rw [q] at h; cases h
  | some c =>
    rw [q] at h
    cases c with
    | no => cases h
    | ow ds => cases h
    | sh d' =>
      cases h
      exact r.sh i d q
theorem RepO.view (r : RepO K H σ ρ B) : Rep K H σ (view ρ) := fun i d h => by
  unfold Rg.view at h
  rw [List.getElem?_map] at h
  cases q : ρ[i]? with
  | none => rw [q] at h; cases h
  | some c =>
    rw [q] at h
    cases c with
    | no => cases h
    | ow ds =>
      cases h
      obtain ⟨l, xs, h1, h2, h3, h4⟩ := r.ow i ds q
      exact ⟨_, h1, .lst h3 (RpAll.mono r.hid.ex _ _ h4)⟩
    | sh d' =>
      cases h
      obtain ⟨v, h1, h2⟩ := r.sh i d q
      exact ⟨v, h1, Rp.mono r.hid.ex _ _ h2⟩
/-- what is known stays behind an extension of the heap beside the hidden lists -/
theorem RepO.over (r : RepO K H σ ρ B) (e : Ex B B2) (v : Over B H B2 H2) : RepO K H2 σ ρ B2 :=
  ⟨r.len, v.hids r.hid, fun i d h => by
    obtain ⟨w, h1, h2⟩ := r.sh i d h
    exact ⟨w, h1, Rp.mono e _ _ h2⟩, fun i ds h => by
    obtain ⟨l, xs, h1, h2, h3, h4⟩ := r.ow i ds h
    exact ⟨l, xs, h1, (v.hid l _ h3 h2).1, (v.hid l _ h3 h2).2, RpAll.mono e _ _ h4⟩, r.inj⟩
/-- the heap grown as a whole: the part without the hidden lists -/
theorem Over.of_ex (d : Hid B H) (e : Ex H H2) : ∃ B2, Over B H B2 H2 ∧ Ex B B2 := by
  refine ⟨fun a => match B a, H a with
    | none, some _ => none
    | _, _ => H2 a, ⟨fun a o h1 h2 => ⟨by simp only [h1, h2], e a o h1⟩, fun a h => ?_⟩, fun a o h => ?_⟩
  · cases q : B a with
    | some u => simp only [q]
    | none =>
      rcases h with h | h
      · exact absurd q h
      · simp only [q, h]
  · simp only [h]
    exact e a o (d.ex a o h)
theorem RepO.ext (r : RepO K H σ ρ B) (e : Ex H H2) : ∃ B2, RepO K H2 σ ρ B2 ∧ Ex B B2 ∧ Hid B2 H2 := by
  obtain ⟨B2, v, e2⟩ := Over.of_ex r.hid e
  exact ⟨B2, r.over e2 v, e2, v.hids r.hid⟩
/-- an owned list is given out: it is shared from here on -/
def freeze1 (i : Nat) (ρ : Ev) : Ev := match ρ[i]? with
  | some (.ow ds) => ρ.set i (.sh (.list ds))
  | _ => ρ
theorem RepO.freeze1 (r : RepO K H σ ρ B) (i : Nat) : ∃ B1, RepO K H σ (freeze1 i ρ) B1 ∧ Ex B B1 := by
  unfold Rg.freeze1
  split
  · rename_i ds q
    obtain ⟨l, xs, h1, h2, h3, h4⟩ := r.ow i ds q
    have en : Ex B (upd B l (.lst xs)) := Evl.Ex.new h2
    have hi : i < ρ.length := (List.getElem?_eq_some_iff.mp q).1
    refine ⟨upd B l (.lst xs), ⟨by rw [List.length_set]; exact r.len, ⟨fun a o e => ?_, fun a o e1 e2 => ?_⟩, fun j d e => ?_, fun j es e => ?_, fun j k es fs m ne e1 e2 e3 e4 => ?_⟩, en⟩
    · by_cases ha : a = l
      · subst ha
        rw [upd_same] at e
        cases e
        exact h3
      · rw [upd_ne ha] at e
        exact r.hid.ex a o e
    · by_cases ha : a = l
      · subst ha
        rw [upd_same] at e2
        cases e2
      · rw [upd_ne ha] at e2
        exact r.hid.ls a o e1 e2
    · by_cases hj : j = i
      · subst hj
        rw [List.getElem?_set_self hi] at e
        cases e
        exact ⟨_, h1, .lst upd_same (RpAll.mono en _ _ h4)⟩
      · rw [List.getElem?_set_ne (Ne.symm hj)] at e
        obtain ⟨v, g1, g2⟩ := r.sh j d e
        exact ⟨v, g1, Rp.mono en _ _ g2⟩
    · by_cases hj : j = i
      · subst hj
        rw [List.getElem?_set_self hi] at e
        cases e
      · rw [List.getElem?_set_ne (Ne.symm hj)] at e
        obtain ⟨m, ys, g1, g2, g3, g4⟩ := r.ow j es e
        have hm : m ≠ l := fun z => by
          subst z
          exact r.inj j i es ds m hj e q g1 h1
        exact ⟨m, ys, g1, by rw [upd_ne hm]; exact g2, g3, RpAll.mono en _ _ g4⟩
    · by_cases hj : j = i
      · subst hj
        rw [List.getElem?_set_self hi] at e1
        cases e1
      · by_cases hk : k = i
        · subst hk
          rw [List.getElem?_set_self hi] at e2
          cases e2
        · rw [List.getElem?_set_ne (Ne.symm hj)] at e1
          rw [List.getElem?_set_ne (Ne.symm hk)] at e2
          exact r.inj j k es fs m ne e1 e2 e3 e4
  · exact ⟨B, r, Evl.Ex.refl B⟩
def freezes (is : List Nat) (ρ : Ev) : Ev := is.foldl (fun ρ i => freeze1 i ρ) ρ
theorem RepO.freezes : ∀ (is : List Nat) {ρ : Ev} {B : Hp}, RepO K H σ ρ B → ∃ B1, RepO K H σ (freezes is ρ) B1 ∧ Ex B B1
  | [], ρ, B, r => ⟨B, r, Evl.Ex.refl B⟩
  | i :: is, ρ, B, r => by
    obtain ⟨B1, r1, e1⟩ := r.freeze1 i
    obtain ⟨B2, r2, e2⟩ := RepO.freezes is r1
    exact ⟨B2, r2, e1.trans e2⟩
/-- a slot stored: shared data -/
theorem RepO.set {v : V} {d : PyData} (r : RepO K H σ ρ B) (j : Nat) (h : Rp K B v d) : RepO K H (σ.set j (some v)) (ρ.set j (.sh d)) B := by
  refine ⟨by rw [List.length_set, List.length_set]; exact r.len, r.hid, fun i d' e => ?_, fun i ds e => ?_, fun i k es fs m ne e1 e2 e3 e4 => ?_⟩
  · by_cases hj : i = j
    · subst hj
      have hi : i < ρ.length := by
        have := (List.getElem?_eq_some_iff.mp e).1
        rw [List.length_set] at this
        exact this
      rw [List.getElem?_set_self hi] at e
      cases e
      exact ⟨v, List.getElem?_set_self (by rw [r.len]; exact hi), h⟩
    · rw [List.getElem?_set_ne (Ne.symm hj)] at e
      obtain ⟨w, g1, g2⟩ := r.sh i d' e
      exact ⟨w, by rw [List.getElem?_set_ne (Ne.symm hj)]; exact g1, g2⟩
  · by_cases hj : i = j
    · subst hj
      have hi : i < ρ.length := by
        have := (List.getElem?_eq_some_iff.mp e).1
        rw [List.length_set] at this
        exact this
      rw [List.getElem?_set_self hi] at e
      cases e
    · rw [List.getElem?_set_ne (Ne.symm hj)] at e
      obtain ⟨l, xs, g1, g2⟩ := r.ow i ds e
      exact ⟨l, xs, by rw [List.getElem?_set_ne (Ne.symm hj)]; exact g1, g2⟩
  · have nn : ∀ i es, (ρ.set j (.sh d))[i]? = some (.ow es) → i ≠ j := fun i es e z => by
      subst z
      have hi : i < ρ.length := by
        have := (List.getElem?_eq_some_iff.mp e).1
        rw [List.length_set] at this
        exact this
      rw [List.getElem?_set_self hi] at e
      cases e
    have n1 := nn i es e1
    have n2 := nn k fs e2
    rw [List.getElem?_set_ne (Ne.symm n1)] at e1 e3
    rw [List.getElem?_set_ne (Ne.symm n2)] at e2 e4
    exact r.inj i k es fs m ne e1 e2 e3 e4
/-- a slot stored: a new list -/
theorem RepO.setF {p : Addr} {xs : List V} {ds : List PyData} (r : RepO K H σ ρ B) (j : Nat) (hp : H p = none) (h : RpAll K B xs ds) : RepO K (upd H p (.lst xs)) (σ.set j (some (.ref p))) (ρ.set j (.ow ds)) B := by
  have hB : B p = none := by
    cases q : B p with
    | none => rfl
    | some u => rw [r.hid.ex p u q] at hp; cases hp
  refine ⟨by rw [List.length_set, List.length_set]; exact r.len, ⟨fun a o e => ?_, fun a o e1 e2 => ?_⟩, fun i d' e => ?_, fun i es e => ?_, fun i k es fs m ne e1 e2 e3 e4 => ?_⟩
  · rw [upd_ne (ne_of_none e hB)]
    exact r.hid.ex a o e
  · by_cases ha : a = p
    · subst ha
      rw [upd_same] at e1
      cases e1
      trivial
    · rw [upd_ne ha] at e1
      exact r.hid.ls a o e1 e2
  · by_cases hj : i = j
    · subst hj
      have hi : i < ρ.length := by
        have := (List.getElem?_eq_some_iff.mp e).1
        rw [List.length_set] at this
        exact this
      rw [List.getElem?_set_self hi] at e
      cases e
    · rw [List.getElem?_set_ne (Ne.symm hj)] at e
      obtain ⟨w, g1, g2⟩ := r.sh i d' e
      exact ⟨w, by rw [List.getElem?_set_ne (Ne.symm hj)]; exact g1, g2⟩
  · by_cases hj : i = j
    · subst hj
      have hi : i < ρ.length := by
        have := (List.getElem?_eq_some_iff.mp e).1
        rw [List.length_set] at this
        exact this
      rw [List.getElem?_set_self hi] at e
      cases e
      exact ⟨p, xs, List.getElem?_set_self (by rw [r.len]; exact hi), hB, upd_same, h⟩
    · rw [List.getElem?_set_ne (Ne.symm hj)] at e
      obtain ⟨l, ys, g1, g2, g3, g4⟩ := r.ow i es e
      exact ⟨l, ys, by rw [List.getElem?_set_ne (Ne.symm hj)]; exact g1, g2, by rw [upd_ne (ne_of_none g3 hp)]; exact g3, g4⟩
  · have old : ∀ i es, i ≠ j → (ρ.set j (.ow ds))[i]? = some (.ow es) → ∀ l, (σ.set j (some (.ref p)))[i]? = some (some (V.ref l)) → l ≠ p ∧ ρ[i]? = some (.ow es) ∧ σ[i]? = some (some (.ref l)) := fun i es n e l e' => by
      rw [List.getElem?_set_ne (Ne.symm n)] at e e'
      obtain ⟨l', ys, g1, g2, g3, g4⟩ := r.ow i es e
      rw [e'] at g1
      cases g1
      exact ⟨ne_of_none g3 hp, e, e'⟩
    have new : ∀ i es, i = j → (ρ.set j (.ow ds))[i]? = some (.ow es) → ∀ l, (σ.set j (some (.ref p)))[i]? = some (some (V.ref l)) → l = p := fun i es n e l e' => by
      subst n
      have hi : i < ρ.length := by
        have := (List.getElem?_eq_some_iff.mp e).1
        rw [List.length_set] at this
        exact this
      rw [List.getElem?_set_self (by rw [r.len]; exact hi)] at e'
      cases e'
      rfl
    by_cases h1 : i = j
    · by_cases h2 : k = j
      · exact ne (h1.trans h2.symm)
      · exact (old k fs h2 e2 m e4).1 (new i es h1 e1 m e3)
    · by_cases h2 : k = j
      · exact (old i es h1 e1 m e3).1 (new k fs h2 e2 m e4)
      · obtain ⟨_, a1, a2⟩ := old i es h1 e1 m e3
        obtain ⟨_, b1, b2⟩ := old k fs h2 e2 m e4
        exact r.inj i k es fs m ne a1 b1 a2 b2
/-- an owned list grows -/
theorem RepO.app {l : Addr} {xs : List V} {ds : List PyData} {v : V} {d : PyData} (r : RepO K H σ ρ B) (i : Nat) (q : ρ[i]? = some (.ow ds)) (h1 : σ[i]? = some (some (.ref l))) (h3 : H l = some (.lst xs)) (hv : Rp K B v d) :
    RepO K (upd H l (.lst (xs ++ [v]))) σ (ρ.set i (.ow (ds ++ [d]))) B := by
  obtain ⟨l', xs', g1, g2, g3, g4⟩ := r.ow i ds q
  rw [h1] at g1
  cases g1
  rw [h3] at g3
  cases g3
  have hi : i < ρ.length := (List.getElem?_eq_some_iff.mp q).1
  refine ⟨by rw [List.length_set]; exact r.len, ⟨fun a o e => ?_, fun a o e1 e2 => ?_⟩, fun j d' e => ?_, fun j es e => ?_, fun j k es fs m ne e1 e2 e3 e4 => ?_⟩
  · rw [upd_ne (ne_of_none e g2)]
    exact r.hid.ex a o e
  · by_cases ha : a = l
    · subst ha
      rw [upd_same] at e1
      cases e1
      trivial
    · rw [upd_ne ha] at e1
      exact r.hid.ls a o e1 e2
  · by_cases hj : j = i
    · subst hj
      rw [List.getElem?_set_self hi] at e
      cases e
    · rw [List.getElem?_set_ne (Ne.symm hj)] at e
      exact r.sh j d' e
  · by_cases hj : j = i
    · subst hj
      rw [List.getElem?_set_self hi] at e
      cases e
      exact ⟨l, _, h1, g2, upd_same, g4.append (.cons hv .nil)⟩
    · rw [List.getElem?_set_ne (Ne.symm hj)] at e
      obtain ⟨m, ys, a1, a2, a3, a4⟩ := r.ow j es e
      have hm : m ≠ l := fun z => by
        subst z
        exact r.inj j i es ds m hj e q a1 h1
      exact ⟨m, ys, a1, a2, by rw [upd_ne hm]; exact a3, a4⟩
  · have old : ∀ (j : Nat) (es : List PyData), (ρ.set i (Cl.ow (ds ++ [d])))[j]? = some (Cl.ow es) → ∃ es' : List PyData, ρ[j]? = some (Cl.ow es') := fun j es e => by
      by_cases hj : j = i
      · subst hj
        exact ⟨ds, q⟩
      · rw [List.getElem?_set_ne (Ne.symm hj)] at e
        exact ⟨es, e⟩
    obtain ⟨es', a1⟩ := old j es e1
    obtain ⟨fs', b1⟩ := old k fs e2
    exact r.inj j k es' fs' m ne a1 b1 e3 e4
end
end Rg
namespace Rg
open PySem PySem.Spec PyProof.Rows L2
/-! ### an expression's worth, and what must be given out for it -/
def need (f : En → Option PyData) (ρ : Ev) : List Nat := (List.range ρ.length).filter fun i => (f (view (ρ.set i .no))).isNone
def ev (f : En → Option PyData) (ρ : Ev) : Option (PyData × Ev) :=
  match f (blank ρ) with
  | some d => some (d, ρ)
  | none => match f (view ρ) with
    | none => none
    | some d => if flatB d then some (d, ρ) else (f (blank (freezes (need f ρ) ρ))).map fun d => (d, freezes (need f ρ) ρ)
def needF (f : En → Option (List PyData)) (ρ : Ev) : List Nat := (List.range ρ.length).filter fun i => (f (view (ρ.set i .no))).isNone
def evF (f : En → Option (List PyData)) (ρ : Ev) : Option (List PyData × Ev) :=
  match f (blank ρ) with
  | some d => some (d, ρ)
  | none => match f (view ρ) with
    | none => none
    | some d => if flatB.go d then some (d, ρ) else (f (blank (freezes (needF f ρ) ρ))).map fun d => (d, freezes (needF f ρ) ρ)
section
variable {X : Cx} {e : Expr} {f : En → Option PyData} {F : En → Option (List PyData)} {H B : Hp} {σ : L2.St} {ρ ρ1 : Ev} {d : PyData} {ds : List PyData} {Q : VK}
theorem ev1 (s : Sem X e f) (r : RepO X.K H σ ρ B) (h : f (blank ρ) = some d) (k : ∀ v H2 B2, RepO X.K H2 σ ρ B2 → Ex B B2 → Rp X.K B2 v d → Q v H2) : WE X e σ H Q :=
  WE.frame (Q := fun v B2 => Ex B B2 ∧ Rp X.K B2 v d) r.hid (s σ B (blank ρ) d r.blank h _ fun v B2 e2 r2 => ⟨e2, r2⟩) fun v B2 H2 q ov => k v H2 B2 (r.over q.1 ov) q.1 q.2
theorem ev2 (s : Sem X e f) (r : RepO X.K H σ ρ B) (h : f (view ρ) = some d) (fl : flatB d = true) (k : ∀ v H2 B2, RepO X.K H2 σ ρ B2 → Ex B B2 → Rp X.K B2 v d → Q v H2) : WE X e σ H Q :=
  s σ H (view ρ) d r.view h Q fun v H2 e2 r2 => by
    obtain ⟨B2, rr, eb, hd⟩ := r.ext e2
    exact k v H2 B2 rr eb (Rp.back hd _ _ fl r2)
theorem ev_ok (s : Sem X e f) (r : RepO X.K H σ ρ B) (h : ev f ρ = some (d, ρ1)) (k : ∀ v H2 B2, RepO X.K H2 σ ρ1 B2 → Ex B B2 → Rp X.K B2 v d → Q v H2) : WE X e σ H Q := by
  unfold ev at h
  split at h
  · rename_i d' q
    cases h
    exact ev1 s r q k
  · split at h
    · cases h
    · rename_i d' q
      split at h
      · rename_i fl
        cases h
        exact ev2 s r q fl k
      · obtain ⟨B1, r1, e1⟩ := r.freezes (need f ρ)
        cases q2 : f (blank (freezes (need f ρ) ρ)) with
        | none => rw [q2] at h; cases h
        | some d2 =>
          rw [q2] at h
          cases h
          exact ev1 s r1 q2 fun v H2 B2 rr ee rv => k v H2 B2 rr (e1.trans ee) rv
/-- a new list -/
theorem evF1 (s : SemF X e F) (r : RepO X.K H σ ρ B) (h : F (blank ρ) = some ds) (k : ∀ p xs H2 B2, RepO X.K H2 σ ρ B2 → Ex B B2 → H2 p = none → RpAll X.K B2 xs ds → Q (.ref p) (upd H2 p (.lst xs))) : WE X e σ H Q := by
  refine WE.frame (B := B) (Q := fun v B3 => ∃ p xs B2, v = .ref p ∧ B3 = upd B2 p (.lst xs) ∧ Ex B B2 ∧ B2 p = none ∧ RpAll X.K B2 xs ds) r.hid (s σ B (blank ρ) ds r.blank h _ fun p B2 xs e2 hp r2 => ⟨p, xs, B2, rfl, rfl, e2, hp, r2⟩) fun v B3 H3 q ov => ?_
  obtain ⟨p, xs, B2, rfl, rfl, e2, hp, r2⟩ := q
  -- H3 without p
  have hBp : B p = none := by
    cases q : B p with
    | none => rfl
    | some u => rw [e2 p u q] at hp; cases hp
  have hHp : H p = none := by
    cases q : H p with
    | none => rfl
    | some u =>
      have := (ov.hid p u q hBp).1
      rw [upd_same] at this
      cases this
  let H2 : Hp := fun a => if a = p then none else H3 a
  have hH2 : H3 = upd H2 p (.lst xs) := by
    funext a
    by_cases ha : a = p
    · rw [ha, upd_same, ov.res p (.inr hHp), upd_same]
    · rw [upd_ne ha]
      show H3 a = if a = p then none else H3 a
      rw [if_neg ha]
  have ov2 : Over B H B2 H2 := ⟨fun a o h1 h2 => by
    have ha : a ≠ p := ne_of_none h1 hHp
    have h3 := ov.hid a o h1 h2
    rw [upd_ne ha] at h3
    refine ⟨h3.1, ?_⟩
    show (if a = p then none else H3 a) = some o
    rw [if_neg ha]
    exact h3.2, fun a h1 => by
    show (if a = p then none else H3 a) = B2 a
    by_cases ha : a = p
    · rw [if_pos ha, ha, hp]
    · rw [if_neg ha, ov.res a h1, upd_ne ha]⟩
  rw [hH2]
  exact k p xs H2 B2 (r.over e2 ov2) e2 (by show (if p = p then none else H3 p) = none; rw [if_pos rfl]) r2
theorem evF2 (s : SemF X e F) (r : RepO X.K H σ ρ B) (h : F (view ρ) = some ds) (fl : flatB.go ds = true) (k : ∀ p xs H2 B2, RepO X.K H2 σ ρ B2 → Ex B B2 → H2 p = none → RpAll X.K B2 xs ds → Q (.ref p) (upd H2 p (.lst xs))) : WE X e σ H Q :=
  s σ H (view ρ) ds r.view h Q fun p H2 xs e2 hp r2 => by
    obtain ⟨B2, rr, eb, hd⟩ := r.ext e2
    exact k p xs H2 B2 rr eb hp (RpAll.back hd _ _ fl r2)
theorem evF_ok (s : SemF X e F) (r : RepO X.K H σ ρ B) (h : evF F ρ = some (ds, ρ1)) (k : ∀ p xs H2 B2, RepO X.K H2 σ ρ1 B2 → Ex B B2 → H2 p = none → RpAll X.K B2 xs ds → Q (.ref p) (upd H2 p (.lst xs))) : WE X e σ H Q := by
  unfold evF at h
  split at h
  · rename_i d' q
    cases h
    exact evF1 s r q k
  · split at h
    · cases h
    · rename_i d' q
      split at h
      · rename_i fl
        cases h
        exact evF2 s r q fl k
      · obtain ⟨B1, r1, e1⟩ := r.freezes (needF F ρ)
        cases q2 : F (blank (freezes (needF F ρ) ρ)) with
        | none => rw [q2] at h; cases h
        | some d2 =>
          rw [q2] at h
          cases h
          exact evF1 s r1 q2 fun p xs H2 B2 rr ee hp rv => k p xs H2 B2 rr (e1.trans ee) hp rv
end
/-! ### statements -/
def Post (K : PySem.W.Frag) (H0 : Hp) (fl : Fl) (D : Ends) : Prop := match fl with
  | .nx ρ => ∀ σ H B, RepO K H σ ρ B → Ex H0 B → D.nx σ H
  | .bk ρ => ∀ σ H B, RepO K H σ ρ B → Ex H0 B → D.bk σ H
  | .ct ρ => ∀ σ H B, RepO K H σ ρ B → Ex H0 B → D.ct σ H
  | .rt (.sh d) => ∀ v H, Ex H0 H → Rp K H v d → D.rt v H
  | .rt (.ow ds) => ∀ p B xs, Ex H0 B → B p = none → RpAll K B xs ds → D.rt (.ref p) (upd B p (.lst xs))
  | .rt .no => False
def SemS (X : Cx) (st : Stmt) (F : Ev → Option Fl) : Prop :=
  ∀ (H0 : Hp) (σ : L2.St) (H B : Hp) (ρ : Ev) (fl : Fl), RepO X.K H σ ρ B → Ex H0 B → F ρ = some fl → ∀ D : Ends, Post X.K H0 fl D → WS X st D σ H
def SemSs (X : Cx) (st : List Stmt) (F : Ev → Option Fl) : Prop :=
  ∀ (H0 : Hp) (σ : L2.St) (H B : Hp) (ρ : Ev) (fl : Fl), RepO X.K H σ ρ B → Ex H0 B → F ρ = some fl → ∀ D : Ends, Post X.K H0 fl D → WSs X st D σ H
def sq (F G : Ev → Option Fl) : Ev → Option Fl := fun ρ => match F ρ with
  | some (.nx ρ') => G ρ'
  | o => o
section
variable {X : Cx} {a b c e : Expr} {es : List Expr} {st : Stmt} {sts rest body orelse : List Stmt} {f g : En → Option PyData} {t : En → Option Bool} {fs : En → Option (List PyData)} {F G : Ev → Option Fl} {pos : Pos}
theorem ss_nil : SemSs X [] (fun ρ => some (.nx ρ)) := fun H0 σ H B ρ fl r e h D p => by
  cases h
  exact ⟨_, pss_nil, p σ H B r e⟩
theorem Post.nx {K : PySem.W.Frag} {H0 : Hp} {fl : Fl} {D : Ends} {N : L2.St → Hp → Prop} (p : Post K H0 fl D) (h : ∀ ρ, fl ≠ .nx ρ) : Post K H0 fl { D with nx := N } := by
  cases fl with
  | nx ρ => exact absurd rfl (h ρ)
  | bk ρ => exact p
  | ct ρ => exact p
  | rt c => cases c <;> exact p
theorem ss_cons (h1 : SemS X st F) (h2 : SemSs X rest G) : SemSs X (st :: rest) (sq F G) := fun H0 σ H B ρ fl r e h D p => by
  refine ⟨_, pss_cons (ws X st) (wss X rest), ?_⟩
  unfold sq at h
  split at h
  · rename_i ρ' q
    exact h1 H0 σ H B ρ _ r e q { D with nx := WSs X rest D } fun σ' H' B' r' e' => h2 H0 σ' H' B' ρ' fl r' e' h D p
  · rename_i o q
    exact h1 H0 σ H B ρ fl r e h { D with nx := WSs X rest D } (p.nx fun ρ' z => q ρ' (by rw [h, z]))
theorem ss_one (h1 : SemS X st F) : SemSs X [st] F := fun H0 σ H B ρ fl r e h D p => ⟨_, pss_one (ws X st), h1 H0 σ H B ρ fl r e h D p⟩
/-- x = e -/
def asg (j : Nat) (f : En → Option PyData) : Ev → Option Fl := fun ρ => (ev f ρ).map fun p => .nx (p.2.set j (.sh p.1))
theorem st_asg {j : Nat} {x : Str} {pos' : Pos} (hN : X.N.Nodup) (hi : X.N[j]? = some x) (hx : Loc X.env.scope x) (he : Sem X e f) (hs : swapsWith e (some (.Name x pos')) pos.line X.env = pure false := by rfl) (hf : X.fn x = true ∨ X.env.scope.names.lookup x = some .local := by first | exact .inl rfl | exact .inr rfl | assumption) :
    SemS X (.Assign [.Name x pos'] e pos) (asg j f) := fun H0 σ H B ρ fl r e0 h D p => by
  unfold asg at h
  cases q : ev f ρ with
  | none => rw [q] at h; cases h
  | some z =>
    obtain ⟨d, ρ1⟩ := z
    rw [q] at h
    cases h
    exact ⟨_, ps_set hN hi hx (we X e) hs hf, ev_ok he r q fun v H2 B2 rr eb rv => p _ H2 B2 (rr.set j rv) (e0.trans eb)⟩
def asgF (j : Nat) (f : En → Option (List PyData)) : Ev → Option Fl := fun ρ => (evF f ρ).map fun p => .nx (p.2.set j (.ow p.1))
theorem st_asgF {j : Nat} {x : Str} {pos' : Pos} (hN : X.N.Nodup) (hi : X.N[j]? = some x) (hx : Loc X.env.scope x) (he : SemF X e fs) (hs : swapsWith e (some (.Name x pos')) pos.line X.env = pure false := by rfl) (hf : X.fn x = true ∨ X.env.scope.names.lookup x = some .local := by first | exact .inl rfl | exact .inr rfl | assumption) :
    SemS X (.Assign [.Name x pos'] e pos) (asgF j fs) := fun H0 σ H B ρ fl r e0 h D p => by
  unfold asgF at h
  cases q : evF fs ρ with
  | none => rw [q] at h; cases h
  | some z =>
    obtain ⟨d, ρ1⟩ := z
    rw [q] at h
    cases h
    exact ⟨_, ps_set hN hi hx (we X e) hs hf, evF_ok he r q fun l xs H2 B2 rr eb hl rv => p _ _ B2 (rr.setF j hl rv) (e0.trans eb)⟩
/-- return e -/
def ret (f : En → Option PyData) : Ev → Option Fl := fun ρ => (f (view ρ)).map fun d => .rt (.sh d)
theorem st_ret (he : Sem X e f) : SemS X (.Return (some e) pos) (ret f) := fun H0 σ H B ρ fl r e0 h D p => by
  unfold ret at h
  cases q : f (view ρ) with
  | none => rw [q] at h; cases h
  | some d =>
    rw [q] at h
    cases h
    exact ⟨_, ps_ret (we X e), he σ H (view ρ) d r.view q _ fun v H2 e2 r2 => p v H2 ((e0.trans r.hid.ex).trans e2) r2⟩
def retF (f : En → Option (List PyData)) : Ev → Option Fl := fun ρ => (f (view ρ)).map fun d => .rt (.ow d)
theorem st_retF (he : SemF X e fs) : SemS X (.Return (some e) pos) (retF fs) := fun H0 σ H B ρ fl r e0 h D p => by
  unfold retF at h
  cases q : fs (view ρ) with
  | none => rw [q] at h; cases h
  | some d =>
    rw [q] at h
    cases h
    exact ⟨_, ps_ret (we X e), he σ H (view ρ) d r.view q _ fun l B2 xs e2 hl r2 => p l B2 xs ((e0.trans r.hid.ex).trans e2) hl r2⟩
/-- return x: a list of its own is handed over -/
def retV (i : Nat) : Ev → Option Fl := fun ρ => match ρ[i]? with
  | some .no => none
  | some c => some (.rt c)
  | none => none
theorem st_retV {i : Nat} {x : Str} {px : Pos} (hN : X.N[i]? = some x) (hv : Vis X.env.scope x) (hd : (x == ("__debug__" : Str)) = false := by decide) (hcd : (x == ("__classdict__" : Str)) = false := by decide) : SemS X (.Return (some (.Name x px)) pos) (retV i) := fun H0 σ H B ρ fl r e0 h D p => by
  unfold retV at h
  split at h
  · cases h
  · rename_i cc hno q
    cases h
    refine ⟨_, ps_ret (pe_var hN hv hd hcd), ?_⟩
    cases cc with
    | no => exact (hno rfl).elim
    | sh d =>
      obtain ⟨v, h1, h2⟩ := r.sh i d q
      exact ⟨v, h1, p v H (e0.trans r.hid.ex) (Rp.mono r.hid.ex _ _ h2)⟩
    | ow ds =>
      obtain ⟨l, xs, h1, h2, h3, h4⟩ := r.ow i ds q
      refine ⟨.ref l, h1, ?_⟩
      have eb : Ex B (fun a => if a = l then none else H a) := fun a o e => by
        show (if a = l then none else H a) = some o
        rw [if_neg (ne_of_none e h2)]
        exact r.hid.ex a o e
      have eH : H = upd (fun a => if a = l then none else H a) l (.lst xs) := by
        funext a
        by_cases ha : a = l
        · rw [ha, upd_same, h3]
        · rw [upd_ne ha]
          show H a = if a = l then none else H a
          rw [if_neg ha]
      rw [eH]
      exact p l _ xs (e0.trans eb) (by show (if l = l then none else H l) = none; rw [if_pos rfl]) (RpAll.mono eb _ _ h4)
  · cases h
theorem st_retN : SemS X (.Return none pos) (fun _ => some (.rt (.sh .none))) := fun H0 σ H B ρ fl r e0 h D p => by
  cases h
  exact ⟨_, ps_retN, p .non H (e0.trans r.hid.ex) .non⟩
/-- if -/
def ifF (t : En → Option Bool) (F G : Ev → Option Fl) : Ev → Option Fl := fun ρ => (t (view ρ)).bind fun c => if c then F ρ else G ρ
theorem st_if (hc : SemT X c t) (h1 : SemSs X body F) (h2 : SemSs X orelse G) : SemS X (.If c body orelse pos) (ifF t F G) := fun H0 σ H B ρ fl r e0 h D p => by
  unfold ifF at h
  cases q : t (view ρ) with
  | none => rw [q] at h; cases h
  | some k =>
    rw [q] at h
    refine ⟨_, ps_if (wt X c) (wss X body) (wss X orelse), hc σ H (view ρ) k r.view q _ fun H1 e1 => ?_⟩
    obtain ⟨B2, rr, eb, _⟩ := r.ext e1
    cases k with
    | true => exact h1 H0 σ H1 B2 ρ fl rr (e0.trans eb) h D p
    | false => exact h2 H0 σ H1 B2 ρ fl rr (e0.trans eb) h D p
theorem st_pass : SemS X (.Pass pos) (fun ρ => some (.nx ρ)) := fun H0 σ H B ρ fl r e h D p => by
  cases h
  exact ⟨_, ps_pass, p σ H B r e⟩
theorem st_doc {x j pos'} : SemS X (.Expr (.Constant (.str x) j pos) pos') (fun ρ => some (.nx ρ)) := fun H0 σ H B ρ fl r e h D p => by
  cases h
  exact ⟨_, ps_doc, p σ H B r e⟩
theorem st_break : SemS X (.Break pos) (fun ρ => some (.bk ρ)) := fun H0 σ H B ρ fl r e h D p => by
  cases h
  exact ⟨_, ps_break, p σ H B r e⟩
theorem st_continue : SemS X (.Continue pos) (fun ρ => some (.ct ρ)) := fun H0 σ H B ρ fl r e h D p => by
  cases h
  exact ⟨_, ps_continue, p σ H B r e⟩
/-- a statement that good data never reach -/
theorem st_never : SemS X st (fun _ => none) := fun H0 σ H B ρ fl r e h D p => by cases h
/-- e as a statement -/
def drp (f : En → Option PyData) : Ev → Option Fl := fun ρ => (ev f ρ).map fun p => .nx p.2
theorem st_expr (he : Sem X e f) (hs : swapsWith e none pos.line X.env = pure false := by rfl) : SemS X (.Expr e pos) (drp f) := fun H0 σ H B ρ fl r e0 h D p => by
  unfold drp at h
  cases q : ev f ρ with
  | none => rw [q] at h; cases h
  | some z =>
    obtain ⟨d, ρ1⟩ := z
    rw [q] at h
    cases h
    exact ⟨_, ps_expr (we X e) hs, ev_ok he r q fun v H2 B2 rr eb rv => p _ H2 B2 rr (e0.trans eb)⟩
/-- x.append(e), x a list of its own -/
def app (i : Nat) (f : En → Option PyData) : Ev → Option Fl := fun ρ => match ρ[i]? with
  | some (.ow _) => (ev f ρ).bind fun p => match p.2[i]? with
    | some (.ow ds) => if ds.length < 100000 then some (.nx (p.2.set i (.ow (ds ++ [p.1])))) else none
    | _ => none
  | _ => none
theorem st_app {i : Nat} {x : Str} {px pa' pc : Pos} (hN : X.N[i]? = some x) (hv : Vis X.env.scope x) (he : Sem X e f) (hd : (x == ("__debug__" : Str)) = false := by decide) (hcd : (x == ("__classdict__" : Str)) = false := by decide)
    (hs : swapsWith (.Call (.Attribute (.Name x px) "append" pa') [e] [] pc) none pos.line X.env = pure false := by rfl) (hpl : starEach [e] X.env = (false, eval e X.env) :: starEach [] X.env := by rfl)
    (hb : ∀ {to : TE} {t : TA}, PE X (.Name x px) to → PA X [e] t → PE X (.Call (.Attribute (.Name x px) "append" pa') [e] [] pc) (tBM X.K "list" rAppend to t) := by intro _ _ h1 h2; exact pe_bm PySem.F.plainAttrs_list PySem.F.slot_list_append PySem.F.type_list_append mt_append h1 h2) :
    SemS X (.Expr (.Call (.Attribute (.Name x px) "append" pa') [e] [] pc) pos) (app i f) := fun H0 σ H B ρ fl r e0 h D p => by
  unfold app at h
  split at h
  · rename_i ds0 q0
    cases q : ev f ρ with
    | none => rw [q] at h; cases h
    | some z =>
      obtain ⟨d, ρ1⟩ := z
      rw [q] at h
      simp only [Option.bind_some] at h
      split at h
      · rename_i ds q1
        split at h
        · rename_i hl
          cases h
          obtain ⟨l, xs0, h1, h2, h3, h4⟩ := r.ow i ds0 q0
          refine ⟨_, ps_expr (hb (pe_var hN hv hd hcd) (pa_cons (we X e) pa_nil hpl)) hs, .ref l, h1, .inl ⟨rfl, xs0, .inl (.inl h3)⟩, ev_ok he r q fun v H2 B2 rr eb rv => ?_⟩
          obtain ⟨l', xs, g1, g2, g3, g4⟩ := rr.ow i ds q1
          rw [h1] at g1
          cases g1
          exact ⟨l, xs, v, rfl, rfl, g3, Nat.lt_of_lt_of_le (by rw [g4.len]; exact hl) (by decide), p σ _ B2 (rr.app i q1 h1 g3 rv) (e0.trans eb)⟩
        · cases h
      · cases h
  · cases h
/-- x += e, of ints -/
def augI (op : Int → Int → Int) (i : Nat) (f : En → Option PyData) : Ev → Option Fl := fun ρ => match ρ[i]? with
  | some (.sh (.int a)) => match f (view ρ) with
    | some (.int b) => some (.nx (ρ.set i (.sh (.int (op a b)))))
    | _ => none
  | _ => none
theorem st_aug {i : Nat} {x : Str} {o : Operator} {op : Int → Int → Int} {pos' : Pos} (ho : PIp X o (ipI op)) (hN : X.N.Nodup) (hi : X.N[i]? = some x) (hx : Loc X.env.scope x) (he : Sem X e f) (hf : X.fn x = true ∨ X.env.scope.names.lookup x = some .local := by first | exact .inl rfl | exact .inr rfl | assumption) :
    SemS X (.AugAssign (.Name x pos') o e pos) (augI op i f) := fun H0 σ H B ρ fl r e0 h D p => by
  unfold augI at h
  split at h
  · rename_i aa q
    split at h
    · rename_i bb q2
      cases h
      obtain ⟨v, h1, h2⟩ := r.sh i _ q
      cases h2
      refine ⟨_, ps_aug hN hi hx (we X e) ho hf, _, h1, he σ H (view ρ) _ r.view q2 _ fun w H2 e2 r2 => ?_⟩
      cases r2
      obtain ⟨B2, rr, eb, _⟩ := r.ext e2
      exact ⟨aa, bb, rfl, rfl, p _ H2 B2 (rr.set i (.int _)) (e0.trans eb)⟩
    · cases h
  · cases h
end
end Rg
namespace Rg
open PySem PySem.Spec PyProof.Rows L2
/-- J walks the data ds, whatever is laid beside B -/
def JOk (K : PySem.W.Frag) (J : It) (B0 : Hp) (ds : List PyData) : Prop :=
  ∀ (i : Nat) (B H : Hp), Ex B0 B → Hid B H → (ds.length ≤ i → J.stop i H) ∧ (i < ds.length → J.go i H ∧ ∀ x H', J.yld i H x H' → ∃ B' d, Over B H B' H' ∧ Ex B B' ∧ ds[i]? = some d ∧ Rp K B' x d)
theorem Over.refl {B H : Hp} (d : Hid B H) : Over B H B H := ⟨fun a o h1 h2 => ⟨h2, h1⟩, fun a h => by
  rcases h with h | h
  · cases q : B a with
    | none => exact absurd q h
    | some u => exact d.ex a u q
  · cases q : B a with
    | none => exact h
    | some u => rw [d.ex a u q] at h; cases h⟩
theorem j_list {K : PySem.W.Frag} {B0 : Hp} {a : Addr} {xs : List V} {ds : List PyData} (h : SqL K B0 a xs) (r : RpAll K B0 xs ds) : JOk K (Itl K a) B0 ds := fun i B H e d => by
  have hH : SqL K H a xs := Evl.ex_l (e.trans d.ex) h
  refine ⟨fun hi => ⟨xs, hH, by rw [r.len]; exact hi⟩, fun hi => ?_⟩
  obtain ⟨v, g1, g2⟩ := r.get (List.getElem?_eq_getElem hi)
  refine ⟨⟨xs, v, hH, g1⟩, fun x H' ⟨e1, e2⟩ => ?_⟩
  subst e1
  have e3 := e2 xs hH
  rw [g1] at e3
  cases e3
  exact ⟨B, _, Over.refl d, Evl.Ex.refl B, List.getElem?_eq_getElem hi, Rp.mono e _ _ g2⟩
theorem j_tup {K : PySem.W.Frag} {B0 : Hp} {a : Addr} {xs : List V} {ds : List PyData} (h : SqT K B0 a xs) (r : RpAll K B0 xs ds) : JOk K (Itt K a) B0 ds := fun i B H e d => by
  have hH : SqT K H a xs := Evl.ex_t (e.trans d.ex) h
  refine ⟨fun hi => ⟨xs, hH, by rw [r.len]; exact hi⟩, fun hi => ?_⟩
  obtain ⟨v, g1, g2⟩ := r.get (List.getElem?_eq_getElem hi)
  refine ⟨⟨xs, v, hH, g1⟩, fun x H' ⟨e1, e2⟩ => ?_⟩
  subst e1
  have e3 := e2 xs hH
  rw [g1] at e3
  cases e3
  exact ⟨B, _, Over.refl d, Evl.Ex.refl B, List.getElem?_eq_getElem hi, Rp.mono e _ _ g2⟩
/-- lo, lo + 1, .. (n of them) -/
def rngD (lo : Int) (n : Nat) : List PyData := (List.range n).map fun (i : Nat) => .int (lo + (i : Int))
theorem rngD_len (lo : Int) (n : Nat) : (rngD lo n).length = n := by simp [rngD]
theorem rngD_get {lo : Int} {n i : Nat} (h : i < n) : (rngD lo n)[i]? = some (.int (lo + (i : Int))) := by simp [rngD, h]
theorem j_range {K : PySem.W.Frag} {B0 : Hp} {lo : Int} {n : Nat} : JOk K (Itr lo n) B0 (rngD lo n) := fun i B H e d => by
  refine ⟨fun hi => ?_, fun hi => ⟨?_, fun x H' ⟨e1, e2⟩ => ?_⟩⟩
  · rw [rngD_len] at hi
    exact hi
  · rw [rngD_len] at hi
    exact hi
  · rw [rngD_len] at hi
    subst e1 e2
    exact ⟨B, _, Over.refl d, Evl.Ex.refl B, rngD_get hi, .int _⟩
/-- what a for's target does with an item -/
def TgOk (X : Cx) (tg : Expr) (g : PyData → Ev → Option Ev) : Prop := ∃ t, PG X tg t ∧ ∀ (v : V) (d : PyData) (σ : L2.St) (H B : Hp) (ρ ρ' : Ev), RepO X.K H σ ρ B → Rp X.K B v d → g d ρ = some ρ' → ∀ Q : L2.St → Hp → Prop, (∀ σ', RepO X.K H σ' ρ' B → Q σ' H) → t v σ H Q
section
variable {X : Cx} {a b c e : Expr} {es : List Expr} {body : List Stmt} {f g : En → Option PyData} {t : En → Option Bool} {fs : En → Option (List PyData)} {F G : Ev → Option Fl} {pos : Pos}
def tgN (j : Nat) : PyData → Ev → Option Ev := fun d ρ => some (ρ.set j (.sh d))
theorem tg_name {j : Nat} {x : Str} (hN : X.N.Nodup) (hi : X.N[j]? = some x) (hx : Loc X.env.scope x) (hf : X.fn x = true ∨ X.env.scope.names.lookup x = some .local := by first | exact .inl rfl | exact .inr rfl | assumption) : TgOk X (.Name x pos) (tgN j) :=
  ⟨_, pg_name hN hi hx hf, fun v d σ H B ρ ρ' r rv h Q k => by
    cases h
    exact k _ (r.set j rv)⟩
def tg2 (i j : Nat) : PyData → Ev → Option Ev := fun d ρ => match d with
  | .tuple [x, y] => some ((ρ.set i (.sh x)).set j (.sh y))
  | _ => none
theorem tg_2 {i j : Nat} {x y : Str} {k : Nat} {p1 p2 : Pos} (hc : X.calm = true) (hN : X.N.Nodup) (hi : X.N[i]? = some x) (hx : Loc X.env.scope x) (hj : X.N[j]? = some y) (hy : Loc X.env.scope y)
    (hs : (assignEach [.Name x p1, .Name y p2] X.env).map (·.2) = assign (.Name x p1) X.env :: (assignEach [.Name y p2] X.env).map (·.2) := by rfl) (hs2 : (assignEach [.Name y p2] X.env).map (·.2) = assign (.Name y p2) X.env :: (assignEach [] X.env).map (·.2) := by rfl)
    (hn : (assignEach [.Name x p1, .Name y p2] X.env).length = 2 := by rfl) (hst : (assignEach [.Name x p1, .Name y p2] X.env).findIdx? (·.1) = none := by rfl)
    (hf : X.fn x = true ∨ X.env.scope.names.lookup x = some .local := by first | exact .inl rfl | exact .inr rfl | assumption) (hf2 : X.fn y = true ∨ X.env.scope.names.lookup y = some .local := by first | exact .inl rfl | exact .inr rfl | assumption) :
    TgOk X (.Tuple [.Name x p1, .Name y p2] k pos) (tg2 i j) :=
  ⟨_, pg_tup hc (pgs_cons (pg_name hN hi hx hf) (pgs_cons (pg_name hN hj hy hf2) pgs_nil hs2) hs) hn hst, fun v d σ H B ρ ρ' r rv h Q k => by
    unfold tg2 at h
    split at h
    · rename_i d1 d2
      cases h
      cases rv with
      | tup h1 a1 =>
        cases a1 with
        | cons r1 a2 =>
          cases a2 with
          | cons r2 a3 =>
            cases a3
            exact ⟨_, _, rfl, Evl.ex_t r.hid.ex h1, rfl, _, _, rfl, _, _, rfl, rfl, k _ ((r.set i r1).set j r2)⟩
    · cases h⟩
def tg3 (i j l : Nat) : PyData → Ev → Option Ev := fun d ρ => match d with
  | .tuple [x, y, z] => some (((ρ.set i (.sh x)).set j (.sh y)).set l (.sh z))
  | _ => none
theorem tg_3 {i j l : Nat} {x y z : Str} {k : Nat} {p1 p2 p3 : Pos} (hc : X.calm = true) (hN : X.N.Nodup) (hi : X.N[i]? = some x) (hx : Loc X.env.scope x) (hj : X.N[j]? = some y) (hy : Loc X.env.scope y) (hl : X.N[l]? = some z) (hz : Loc X.env.scope z)
    (hs : (assignEach [.Name x p1, .Name y p2, .Name z p3] X.env).map (·.2) = assign (.Name x p1) X.env :: (assignEach [.Name y p2, .Name z p3] X.env).map (·.2) := by rfl) (hs2 : (assignEach [.Name y p2, .Name z p3] X.env).map (·.2) = assign (.Name y p2) X.env :: (assignEach [.Name z p3] X.env).map (·.2) := by rfl)
    (hs3 : (assignEach [.Name z p3] X.env).map (·.2) = assign (.Name z p3) X.env :: (assignEach [] X.env).map (·.2) := by rfl)
    (hn : (assignEach [.Name x p1, .Name y p2, .Name z p3] X.env).length = 3 := by rfl) (hst : (assignEach [.Name x p1, .Name y p2, .Name z p3] X.env).findIdx? (·.1) = none := by rfl)
    (hf : X.fn x = true ∨ X.env.scope.names.lookup x = some .local := by first | exact .inl rfl | exact .inr rfl | assumption) (hf2 : X.fn y = true ∨ X.env.scope.names.lookup y = some .local := by first | exact .inl rfl | exact .inr rfl | assumption) (hf3 : X.fn z = true ∨ X.env.scope.names.lookup z = some .local := by first | exact .inl rfl | exact .inr rfl | assumption) :
    TgOk X (.Tuple [.Name x p1, .Name y p2, .Name z p3] k pos) (tg3 i j l) :=
  ⟨_, pg_tup hc (pgs_cons (pg_name hN hi hx hf) (pgs_cons (pg_name hN hj hy hf2) (pgs_cons (pg_name hN hl hz hf3) pgs_nil hs3) hs2) hs) hn hst, fun v d σ H B ρ ρ' r rv h Q k => by
    unfold tg3 at h
    split at h
    · rename_i d1 d2 d3
      cases h
      cases rv with
      | tup h1 a1 =>
        cases a1 with
        | cons r1 a2 =>
          cases a2 with
          | cons r2 a3 =>
            cases a3 with
            | cons r3 a4 =>
              cases a4
              exact ⟨_, _, rfl, Evl.ex_t r.hid.ex h1, rfl, _, _, rfl, _, _, rfl, _, _, rfl, rfl, k _ (((r.set i r1).set j r2).set l r3)⟩
    · cases h⟩
/-- a, b = e -/
def asgT (g : PyData → Ev → Option Ev) (f : En → Option PyData) : Ev → Option Fl := fun ρ => (ev f ρ).bind fun p => (g p.1 p.2).map .nx
theorem st_asgT {tg : Expr} {g : PyData → Ev → Option Ev} (ht : TgOk X tg g) (he : Sem X e f) (hs : swapsWithSole [tg] e pos.line X.env = pure false := by rfl) (hw : swappedStores [tg] e X.env = pure none := by rfl) (h1 : (assignEach [tg] X.env).map (·.2) = [assign tg X.env] := by rfl) : SemS X (.Assign [tg] e pos) (asgT g f) := fun H0 σ H B ρ fl r e0 h D p => by
  unfold asgT at h
  cases q : ev f ρ with
  | none => rw [q] at h; cases h
  | some z =>
    obtain ⟨d, ρ1⟩ := z
    rw [q] at h
    simp only [Option.bind_some] at h
    cases q2 : g d ρ1 with
    | none => rw [q2] at h; cases h
    | some ρ2 =>
      rw [q2] at h
      cases h
      obtain ⟨tt, hp, hk⟩ := ht
      exact ⟨_, ps_asg (we X e) hp hs hw h1, ev_ok he r q fun v H2 B2 rr eb rv => hk v d σ H2 B2 ρ1 ρ2 rr rv q2 _ fun σ' r3 => p σ' H2 B2 r3 (e0.trans eb)⟩
/-! ### for -/
def forR (g : PyData → Ev → Option Ev) (F : Ev → Option Fl) : List PyData → Ev → Option Fl
  | [], ρ => some (.nx ρ)
  | d :: ds, ρ => match g d ρ with
    | none => none
    | some ρ1 => match F ρ1 with
      | some (.nx ρ2) => forR g F ds ρ2
      | some (.ct ρ2) => forR g F ds ρ2
      | some (.bk ρ2) => some (.nx ρ2)
      | some (.rt c) => some (.rt c)
      | none => none
theorem Post.up {K : PySem.W.Frag} {H0 B : Hp} {fl : Fl} {D : Ends} (p : Post K H0 fl D) (e : Ex H0 B) : Post K B fl D := by
  cases fl with
  | nx ρ => exact fun σ H B' r e' => p σ H B' r (e.trans e')
  | bk ρ => exact fun σ H B' r e' => p σ H B' r (e.trans e')
  | ct ρ => exact fun σ H B' r e' => p σ H B' r (e.trans e')
  | rt c =>
    cases c with
    | no => exact p
    | sh d => exact fun v H e' r => p v H (e.trans e') r
    | ow ds => exact fun l B' xs e' hl r => p l B' xs (e.trans e') hl r
theorem for_core {gg : TG} {g : PyData → Ev → Option Ev} {H0 : Hp} {J : It} {ds : List PyData} {fl : Fl} {ρ : Ev} {σ : L2.St} {H B : Hp} {D : Ends}
    (hk : ∀ (v : V) (d : PyData) (σ : L2.St) (H B : Hp) (ρ ρ' : Ev), RepO X.K H σ ρ B → Rp X.K B v d → g d ρ = some ρ' → ∀ Q : L2.St → Hp → Prop, (∀ σ', RepO X.K H σ' ρ' B → Q σ' H) → gg v σ H Q)
    (hb : SemSs X body F) (j : JOk X.K J B ds) (r : RepO X.K H σ ρ B) (e0 : Ex H0 B) (h : forR g F ds ρ = some fl) (p : Post X.K H0 fl D) :
    ∃ W : Nat → Nat → L2.St → Hp → Prop, (∃ m, W 0 m σ H) ∧ ∀ i m σ H, W i m σ H →
      (J.stop i H ∧ D.nx σ H) ∨ (J.go i H ∧ ∃ N : L2.St → Hp → Prop, (∀ σ' H', N σ' H' → ∃ m', m' < m ∧ W (i + 1) m' σ' H') ∧ ∀ x H', J.yld i H x H' → gg x σ H' fun σ2 H2 => WSs X body { D with nx := N, ct := N, bk := D.nx } σ2 H2) := by
  refine ⟨fun i m σ' H' => m = ds.length - i ∧ i ≤ ds.length ∧ ∃ ρ' B', RepO X.K H' σ' ρ' B' ∧ Ex B B' ∧ forR g F (ds.drop i) ρ' = some fl, ⟨ds.length, by simp, Nat.zero_le _, ρ, B, r, Evl.Ex.refl B, by simpa using h⟩, ?_⟩
  rintro i m σ' H' ⟨rfl, hi, ρ', B', r', eb, h'⟩
  by_cases hlt : i < ds.length
  · obtain ⟨hgo, hy⟩ := (j i B' H' eb r'.hid).2 hlt
    refine .inr ⟨hgo, fun σ2 H2 => ∃ ρ2 B2, RepO X.K H2 σ2 ρ2 B2 ∧ Ex B B2 ∧ forR g F (ds.drop (i + 1)) ρ2 = some fl, fun σ2 H2 ⟨ρ2, B2, a1, a2, a3⟩ => ⟨ds.length - (i + 1), by omega, rfl, by omega, ρ2, B2, a1, a2, a3⟩, fun x H2 yd => ?_⟩
    obtain ⟨B2, d, ov, e2, gd, rd⟩ := hy x H2 yd
    have ed : ds.drop i = d :: ds.drop (i + 1) := by
      rw [List.drop_eq_getElem_cons hlt]
      have := List.getElem?_eq_getElem hlt
      rw [gd] at this
      rw [← Option.some.inj this]
    rw [ed] at h'
    have r2 := r'.over e2 ov
    have e02 : Ex H0 B2 := (e0.trans eb).trans e2
    unfold forR at h'
    cases q : g d ρ' with
    | none => rw [q] at h'; cases h'
    | some ρ1 =>
      rw [q] at h'
      simp only at h'
      refine hk x d σ' H2 B2 ρ' ρ1 r2 rd q _ fun σ3 r3 => ?_
      cases q3 : F ρ1 with
      | none => rw [q3] at h'; cases h'
      | some fl2 =>
        rw [q3] at h'
        refine hb B σ3 H2 B2 ρ1 fl2 r3 (eb.trans e2) q3 _ ?_
        have p' := p.up e0
        cases fl2 with
        | nx ρ2 =>
          intro σ4 H4 B4 r4 e4
          exact ⟨ρ2, B4, r4, e4, h'⟩
        | ct ρ2 =>
          intro σ4 H4 B4 r4 e4
          exact ⟨ρ2, B4, r4, e4, h'⟩
        | bk ρ2 =>
          cases h'
          exact p'
        | rt cc =>
          cases h'
          cases cc <;> exact p'
  · have e : i = ds.length := by omega
    subst e
    refine .inl ⟨(j ds.length B' H' eb r'.hid).1 (Nat.le_refl _), ?_⟩
    rw [List.drop_length] at h'
    cases h'
    exact p σ' H' B' r' (e0.trans eb)
/-- for over a list -/
def forL (g : PyData → Ev → Option Ev) (f : En → Option PyData) (F : Ev → Option Fl) : Ev → Option Fl := fun ρ => (ev f ρ).bind fun p => match p.1 with
  | .list ds => forR g F ds p.2
  | .dict [(.none, .list ds)] => forR g F ds p.2
  | _ => none
theorem st_forL {tg iter : Expr} {g : PyData → Ev → Option Ev} (hp : PassesOwn (model X.prog X.w) X.A X.env X.xe) (hc : X.calm = true) (hi : Sem X iter f) (ht : TgOk X tg g) (hb : SemSs X body F) (hs : ∀ x, foldedSetIterable iter X.env x = pure x := by intro _; rfl) :
    SemS X (.For tg iter body [] pos) (forL g f F) := fun H0 σ H B ρ fl r e0 h D p => by
  unfold forL at h
  cases q : ev f ρ with
  | none => rw [q] at h; cases h
  | some z =>
    obtain ⟨d, ρ1⟩ := z
    rw [q] at h
    simp only [Option.bind_some] at h
    obtain ⟨gg, hgg, hk⟩ := ht
    refine ⟨_, ps_for hp hc (pi_list (we X iter)) hgg (wss X body) hs, ev_ok hi r q fun v H2 B2 rr eb rv => ?_⟩
    split at h
    · rename_i ds
      cases rv with
      | lst h1 a1 => exact ⟨_, rfl, ⟨_, .inl (.inl (rr.hid.ex _ _ h1))⟩, for_core hk hb (j_list (.inl (.inl h1)) a1) rr (e0.trans eb) h p⟩
    · rename_i ds
      cases rv with
      | loc h1 a1 => exact ⟨_, rfl, ⟨_, Evl.ex_l rr.hid.ex h1⟩, for_core hk hb (j_list h1 a1) rr (e0.trans eb) h p⟩
    · cases h
/-- .. over a tuple -/
def forT (g : PyData → Ev → Option Ev) (f : En → Option PyData) (F : Ev → Option Fl) : Ev → Option Fl := fun ρ => (ev f ρ).bind fun p => match p.1 with
  | .tuple ds => forR g F ds p.2
  | _ => none
theorem st_forT {tg iter : Expr} {g : PyData → Ev → Option Ev} (hp : PassesOwn (model X.prog X.w) X.A X.env X.xe) (hc : X.calm = true) (hi : Sem X iter f) (ht : TgOk X tg g) (hb : SemSs X body F) (hs : ∀ x, foldedSetIterable iter X.env x = pure x := by intro _; rfl) :
    SemS X (.For tg iter body [] pos) (forT g f F) := fun H0 σ H B ρ fl r e0 h D p => by
  unfold forT at h
  cases q : ev f ρ with
  | none => rw [q] at h; cases h
  | some z =>
    obtain ⟨d, ρ1⟩ := z
    rw [q] at h
    simp only [Option.bind_some] at h
    obtain ⟨gg, hgg, hk⟩ := ht
    refine ⟨_, ps_for hp hc (pi_tup (we X iter)) hgg (wss X body) hs, ev_ok hi r q fun v H2 B2 rr eb rv => ?_⟩
    split at h
    · rename_i ds
      cases rv with
      | tup h1 a1 => exact ⟨_, rfl, ⟨_, Evl.ex_t rr.hid.ex h1⟩, for_core hk hb (j_tup h1 a1) rr (e0.trans eb) h p⟩
    · cases h
/-- .. over range(n), range(a, b) -/
def rngI1 (fs : En → Option (List PyData)) : En → Option (List PyData) := fun ρ => (fs ρ).bind fun
  | [.int n] => if -(2 ^ 62) ≤ n ∧ n < 2 ^ 62 then some (rngD 0 n.toNat) else none
  | _ => none
def rngI2 (fs : En → Option (List PyData)) : En → Option (List PyData) := fun ρ => (fs ρ).bind fun
  | [.int a, .int n] => if -(2 ^ 62) ≤ a ∧ a < 2 ^ 62 ∧ -(2 ^ 62) ≤ n ∧ n < 2 ^ 62 then some (rngD a (n - a).toNat) else none
  | _ => none
def forG (g : PyData → Ev → Option Ev) (fi : En → Option (List PyData)) (F : Ev → Option Fl) : Ev → Option Fl := fun ρ => (fi (view ρ)).bind fun ds => forR g F ds ρ
theorem st_forG1 {tg : Expr} {g : PyData → Ev → Option Ev} {p0 p1 : Pos} (hp : PassesOwn (model X.prog X.w) X.A X.env X.xe) (hc : X.calm = true) (hg : Gl X "range") (hm : X.mg "range" = none) (ha : SemA X [a] fs) (ht : TgOk X tg g) (hb : SemSs X body F)
    (hst : starEach [a] X.env = [(false, eval a X.env)] := by rfl) (hs : ∀ x, foldedSetIterable (.Call (.Name "range" p0) [a] [] p1) X.env x = pure x := by intro _; rfl) : SemS X (.For tg (.Call (.Name "range" p0) [a] [] p1) body [] pos) (forG g (rngI1 fs) F) := fun H0 σ H B ρ fl r e0 h D p => by
  unfold forG rngI1 at h
  cases q : fs (view ρ) with
  | none => rw [q] at h; cases h
  | some xs =>
    rw [q] at h
    simp only [Option.bind_some] at h
    obtain ⟨gg, hgg, hk⟩ := ht
    refine ⟨_, ps_for hp hc (pi_range1 hg hm (wa X [a]) hst) hgg (wss X body) hs, ha σ H (view ρ) xs r.view q _ fun vs H2 e2 r2 => ?_⟩
    obtain ⟨B2, rr, eb, _⟩ := r.ext e2
    split at h
    · rename_i n
      split at h
      · rename_i hn
        cases r2 with
        | cons r1 r3 =>
          cases r3
          cases r1
          exact ⟨_, rfl, hn.1, hn.2, for_core hk hb (j_range (lo := 0)) rr (e0.trans eb) h p⟩
      · cases h
    · cases h
theorem st_forG2 {tg : Expr} {g : PyData → Ev → Option Ev} {p0 p1 : Pos} (hp : PassesOwn (model X.prog X.w) X.A X.env X.xe) (hc : X.calm = true) (hg : Gl X "range") (hm : X.mg "range" = none) (ha : SemA X [a, b] fs) (ht : TgOk X tg g) (hb : SemSs X body F)
    (hst : starEach [a, b] X.env = [(false, eval a X.env), (false, eval b X.env)] := by rfl) (hs2 : starEach [b] X.env = [(false, eval b X.env)] := by rfl) (hs : ∀ x, foldedSetIterable (.Call (.Name "range" p0) [a, b] [] p1) X.env x = pure x := by intro _; rfl) : SemS X (.For tg (.Call (.Name "range" p0) [a, b] [] p1) body [] pos) (forG g (rngI2 fs) F) := fun H0 σ H B ρ fl r e0 h D p => by
  unfold forG rngI2 at h
  cases q : fs (view ρ) with
  | none => rw [q] at h; cases h
  | some xs =>
    rw [q] at h
    simp only [Option.bind_some] at h
    obtain ⟨gg, hgg, hk⟩ := ht
    refine ⟨_, ps_for hp hc (pi_range2 hg hm (wa X [a, b]) hst hs2) hgg (wss X body) hs, ha σ H (view ρ) xs r.view q _ fun vs H2 e2 r2 => ?_⟩
    obtain ⟨B2, rr, eb, _⟩ := r.ext e2
    split at h
    · rename_i lo n
      split at h
      · rename_i hn
        cases r2 with
        | cons r1 r3 =>
          cases r3 with
          | cons r3 r4 =>
            cases r4
            cases r1
            cases r3
            exact ⟨_, _, rfl, hn, for_core hk hb (j_range (lo := lo)) rr (e0.trans eb) h p⟩
      · cases h
    · cases h
/-- while, at most n turns -/
def whF (n : Nat) (t : En → Option Bool) (F : Ev → Option Fl) (ρ : Ev) : Option Fl := match n with
  | 0 => none
  | n + 1 => match t (view ρ) with
    | none => none
    | some false => some (.nx ρ)
    | some true => match F ρ with
      | some (.nx ρ2) => whF n t F ρ2
      | some (.ct ρ2) => whF n t F ρ2
      | some (.bk ρ2) => some (.nx ρ2)
      | some (.rt c) => some (.rt c)
      | none => none
theorem st_while (n : Nat) (hp : PassesOwn (model X.prog X.w) X.A X.env X.xe) (hc : SemT X c t) (hb : SemSs X body F) : SemS X (.While c body [] pos) (whF n t F) := fun H0 σ H B ρ fl r e0 h D p => by
  refine ⟨_, ps_while hp (wt X c) (wss X body), ?_⟩
  refine ⟨fun m σ' H' => ∃ ρ' B', RepO X.K H' σ' ρ' B' ∧ Ex B B' ∧ whF m t F ρ' = some fl, ⟨n, ρ, B, r, Evl.Ex.refl B, h⟩, ?_⟩
  rintro m σ' H' ⟨ρ', B', r', eb, h'⟩
  cases m with
  | zero => cases h'
  | succ m =>
    unfold whF at h'
    cases q : t (view ρ') with
    | none => rw [q] at h'; cases h'
    | some k =>
      rw [q] at h'
      refine hc σ' H' (view ρ') k r'.view q _ fun H2 e2 => ?_
      obtain ⟨B2, rr, eb2, _⟩ := r'.ext e2
      cases k with
      | false =>
        cases h'
        show D.nx σ' H2
        exact p σ' H2 B2 rr ((e0.trans eb).trans eb2)
      | true =>
        show ∃ N : L2.St → Hp → Prop, _ ∧ _
        simp only at h'
        refine ⟨fun σ2 H2 => ∃ ρ2 B2, RepO X.K H2 σ2 ρ2 B2 ∧ Ex B B2 ∧ whF m t F ρ2 = some fl, fun σ2 H2 hh => ⟨m, Nat.lt_succ_self m, hh⟩, ?_⟩
        cases q3 : F ρ' with
        | none => rw [q3] at h'; cases h'
        | some fl2 =>
          rw [q3] at h'
          have p' := p.up e0
          refine hb B σ' H2 B2 ρ' fl2 rr (eb.trans eb2) q3 _ ?_
          cases fl2 with
          | nx ρ2 =>
            intro σ4 H4 B4 r4 e4
            exact ⟨ρ2, B4, r4, e4, h'⟩
          | ct ρ2 =>
            intro σ4 H4 B4 r4 e4
            exact ⟨ρ2, B4, r4, e4, h'⟩
          | bk ρ2 =>
            cases h'
            exact p'
          | rt cc =>
            cases h'
            cases cc <;> exact p'
end
end Rg
namespace Rg
open PySem PySem.Spec PyProof.Rows L2
def ini (n : Nat) (ds : List PyData) : Ev := ds.map .sh ++ List.replicate (n - ds.length) .no
def out : Option Fl → Option PyData
  | some (.rt (.sh d)) => some d
  | some (.rt (.ow ds)) => some (.list ds)
  | some (.nx _) => some .none
  | _ => none
def outF : Option Fl → Option (List PyData)
  | some (.rt (.ow ds)) => some ds
  | _ => none
/-- a def's worth, by its body's -/
def run (n np : Nat) (F : Ev → Option Fl) : List PyData → Option PyData := fun ds => if ds.length = np then out (F (ini n ds)) else none
def runF (n np : Nat) (F : Ev → Option Fl) : List PyData → Option (List PyData) := fun ds => if ds.length = np then outF (F (ini n ds)) else none
theorem rep_ini {K : PySem.W.Frag} {H : Hp} {N : List Str} {vs : List V} {ds : List PyData} (r : RpAll K H vs ds) (h : ds.length ≤ N.length) : RepO K H (L2.start N vs) (ini N.length ds) H := by
  have hl := r.len
  have hlen : (ini N.length ds).length = N.length := by
    unfold ini
    rw [List.length_append, List.length_map, List.length_replicate]
    omega
  have get : ∀ (i : Nat) (c : Cl), (ini N.length ds)[i]? = some c → c = .no ∨ ∃ d, ds[i]? = some d ∧ c = .sh d := fun i c e => by
    unfold ini at e
    by_cases hi : i < (ds.map Cl.sh).length
    · rw [List.getElem?_append_left hi, List.getElem?_map] at e
      rw [List.length_map] at hi
      rw [List.getElem?_eq_getElem hi] at e
      exact .inr ⟨_, List.getElem?_eq_getElem hi, (Option.some.inj e).symm⟩
    · rw [List.getElem?_append_right (by omega), List.getElem?_replicate] at e
      split at e
      · exact .inl (Option.some.inj e).symm
      · cases e
  refine ⟨?_, ⟨Evl.Ex.refl H, fun a o e1 e2 => by rw [e1] at e2; cases e2⟩, fun i d e => ?_, fun i es e => ?_, fun i j es fs l ne e1 _ _ _ => ?_⟩
  · rw [hlen]
    unfold L2.start
    rw [List.length_append, List.length_map, List.length_replicate]
    omega
  · rcases get i _ e with h1 | ⟨d', h1, h2⟩
    · cases h1
    · cases h2
      obtain ⟨v, g1, g2⟩ := r.get h1
      refine ⟨v, ?_, g2⟩
      unfold L2.start
      have hi := (List.getElem?_eq_some_iff.mp g1).1
      rw [List.getElem?_append_left (by rw [List.length_map]; exact hi), List.getElem?_map, g1]
      rfl
  · rcases get i _ e with h1 | ⟨d', h1, h2⟩
    · cases h1
    · cases h2
  · rcases get i _ e1 with h1 | ⟨d', h1, h2⟩
    · cases h1
    · cases h2
section
variable {P : Program} {w : World} {K : PySem.W.Frag} {mg : Str → Option Value} {base : Heap}
theorem fn_sem {x qual : Str} {st : Stmt} {f : Addr} {fd : FuncData} {N ps : List Str} {k : Nat} {B : Ev → Option Fl} (F : Fun K x qual st f fd) (S : FnScope N ps (defScope st)) (hl : ps.length ≤ N.length)
    (hb : ∀ (cdv : Value) (A : Around) (outer : List Env) (s : Shared) (H : Hp) (E : XK), Room k (A.deeper (envOfC qual (defScope st) s.heap.objs.size f cdv)) → SemSs (cxOf CX0 P w K mg base N qual (defScope st) f cdv A outer s H E).nox (defBody st) B) :
    FnOk P w K mg base CX0 (k + 1) f fd ps (SpD K (run N.length ps.length B)) := by
  refine F.ok S (fun vs H Q E h => ?_) (fun cdv A outer s H vs Q E hr h => ?_)
  · obtain ⟨ds, d, r, e, _⟩ := h
    unfold run at e
    split at e
    · rename_i hh
      rw [r.len, hh]
    · cases e
  · obtain ⟨ds, d, r, e, q⟩ := h
    unfold run at e
    split at e
    · rename_i hh
      cases q0 : B (ini N.length ds) with
      | none => rw [q0] at e; cases e
      | some fl =>
        rw [q0] at e
        refine hb cdv A outer s H E hr H (L2.start N vs) H H (ini N.length ds) fl (rep_ini r (by omega)) (Evl.Ex.refl H) q0 _ ?_
        cases fl with
        | nx ρ =>
          cases e
          exact fun σ H' B' r' e' => q _ _ (e'.trans r'.hid.ex) .non
        | bk ρ => cases e
        | ct ρ => cases e
        | rt c =>
          cases c with
          | no => cases e
          | sh d' =>
            cases e
            exact fun v H' e' r' => q v H' e' r'
          | ow es =>
            cases e
            exact fun p B' xs e' hp r' => q _ _ (e'.trans (Evl.Ex.new hp)) (.lst upd_same (RpAll.mono (Evl.Ex.new hp) _ _ r'))
    · cases e
theorem fn_semF {x qual : Str} {st : Stmt} {f : Addr} {fd : FuncData} {N ps : List Str} {k : Nat} {B : Ev → Option Fl} (F : Fun K x qual st f fd) (S : FnScope N ps (defScope st)) (hl : ps.length ≤ N.length)
    (hb : ∀ (cdv : Value) (A : Around) (outer : List Env) (s : Shared) (H : Hp) (E : XK), Room k (A.deeper (envOfC qual (defScope st) s.heap.objs.size f cdv)) → SemSs (cxOf CX0 P w K mg base N qual (defScope st) f cdv A outer s H E).nox (defBody st) B) :
    FnOk P w K mg base CX0 (k + 1) f fd ps (SpF K (runF N.length ps.length B)) := by
  refine F.ok S (fun vs H Q E h => ?_) (fun cdv A outer s H vs Q E hr h => ?_)
  · obtain ⟨ds, d, r, e, _⟩ := h
    unfold runF at e
    split at e
    · rename_i hh
      rw [r.len, hh]
    · cases e
  · obtain ⟨ds, d, r, e, q⟩ := h
    unfold runF at e
    split at e
    · rename_i hh
      cases q0 : B (ini N.length ds) with
      | none => rw [q0] at e; cases e
      | some fl =>
        rw [q0] at e
        refine hb cdv A outer s H E hr H (L2.start N vs) H H (ini N.length ds) fl (rep_ini r (by omega)) (Evl.Ex.refl H) q0 _ ?_
        cases fl with
        | nx ρ => cases e
        | bk ρ => cases e
        | ct ρ => cases e
        | rt c =>
          cases c with
          | no => cases e
          | sh d' => cases e
          | ow es =>
            cases e
            exact fun p B' xs e' hp r' => q p B' xs e' hp r'
    · cases e
/-- the promise told by a function of one's own -/
theorem SpD.imp {g g' : List PyData → Option PyData} {CX : CXT} {k : Nat} {f : Addr} {fd : FuncData} {ps : List Str} (F : FnOk P w K mg base CX k f fd ps (SpD K g)) (h : ∀ ds d, g' ds = some d → g ds = some d) : FnOk P w K mg base CX k f fd ps (SpD K g') :=
  F.imp fun vs H Q E ⟨ds, d, r, e, q⟩ => ⟨ds, d, r, h ds d e, q⟩
theorem SpF.imp {g g' : List PyData → Option (List PyData)} {CX : CXT} {k : Nat} {f : Addr} {fd : FuncData} {ps : List Str} (F : FnOk P w K mg base CX k f fd ps (SpF K g)) (h : ∀ ds d, g' ds = some d → g ds = some d) : FnOk P w K mg base CX k f fd ps (SpF K g') :=
  F.imp fun vs H Q E ⟨ds, d, r, e, q⟩ => ⟨ds, d, r, h ds d e, q⟩
end
/-! ### comprehensions -/
/-- a comprehension's tests -/
def WTs (X : Cx) (ifs : List Expr) : TT := fun σ H Q => ∃ t, PTs X ifs t ∧ t σ H Q
theorem wts (X : Cx) (ifs : List Expr) : PTs X ifs (WTs X ifs) := ⟨fun pins s σ H Q I ⟨_, h, q⟩ => h.run pins s σ H Q I q⟩
def SemTs (X : Cx) (ifs : List Expr) (f : En → Option Bool) : Prop :=
  ∀ (σ : L2.St) (H : Hp) (ρ : En) (b : Bool), Rep X.K H σ ρ → f ρ = some b → ∀ Q : Bool → Hp → Prop, (∀ H2, Ex H H2 → Q b H2) → WTs X ifs σ H Q
theorem ts_nil {X : Cx} : SemTs X [] (fun _ => some true) := fun σ H ρ b r e Q k => by
  cases e
  exact ⟨_, pts_nil, k H (Evl.Ex.refl H)⟩
theorem ts_one {X : Cx} {c : Expr} {t : En → Option Bool} (h : SemT X c t) : SemTs X [c] t := fun σ H ρ b r e Q k => ⟨_, pts_one (wt X c), h σ H ρ b r e Q k⟩
/-- the items that a comprehension gives, da what it has -/
def lcR (j : Nat) (t : En → Option Bool) (f : En → Option PyData) (ρ : En) : List PyData → List PyData → Option (List PyData)
  | da, [] => some da
  | da, d :: ds => (t (ρ.set j (some d))).bind fun b => if b then (f (ρ.set j (some d))).bind fun y => if da.length < 100000 then lcR j t f ρ (da ++ [y]) ds else none else lcR j t f ρ da ds
section
variable {X : Cx}
theorem Rep.wipe {K : PySem.W.Frag} {H : Hp} {σ : L2.St} {ρ : En} (r : Rep K H σ ρ) (j : Nat) : Rep K H (σ.set j none) (ρ.set j none) := fun i d h => by
  by_cases hj : i = j
  · subst hj
    have hi : i < ρ.length := by
      have := (List.getElem?_eq_some_iff.mp h).1
      rw [List.length_set] at this
      exact this
    rw [List.getElem?_set_self hi] at h
    cases h
  · rw [List.getElem?_set_ne (Ne.symm hj)] at h
    rw [List.getElem?_set_ne (Ne.symm hj)]
    exact r i d h
theorem Rep.put {K : PySem.W.Frag} {H : Hp} {σ : L2.St} {ρ : En} {v : V} {d : PyData} (r : Rep K H σ ρ) (j : Nat) (hj : j < σ.length) (h : Rp K H v d) : Rep K H (σ.set j (some v)) (ρ.set j (some d)) := fun i d' e => by
  by_cases hi : i = j
  · subst hi
    have hi : i < ρ.length := by
      have := (List.getElem?_eq_some_iff.mp e).1
      rw [List.length_set] at this
      exact this
    rw [List.getElem?_set_self hi] at e
    cases e
    exact ⟨v, List.getElem?_set_self hj, h⟩
  · rw [List.getElem?_set_ne (Ne.symm hi)] at e
    rw [List.getElem?_set_ne (Ne.symm hi)]
    exact r i d' e
/-- the block's frames, whatever they are -/
def WEb (X : Cx) (scope : Scope) (e : Expr) : TE := fun σ H Q => ∀ (s : Shared) (H' : Hp) (C : Addr) (cl : List (Str × Addr)) (fp : List Addr), WE (X.blk s H' scope (compEnvC scope cl C X.env) fp) e σ H Q
def WTb (X : Cx) (scope : Scope) (ifs : List Expr) : TT := fun σ H Q => ∀ (s : Shared) (H' : Hp) (C : Addr) (cl : List (Str × Addr)) (fp : List Addr), WTs (X.blk s H' scope (compEnvC scope cl C X.env) fp) ifs σ H Q
theorem hid1 {B : Hp} {D : Addr} {xs : List V} (h : B D = none) : Hid B (upd B D (.lst xs)) := ⟨Evl.Ex.new h, fun a o e1 e2 => by
  by_cases ha : a = D
  · subst ha
    rw [upd_same] at e1
    cases e1
    trivial
  · rw [upd_ne ha, e2] at e1
    cases e1⟩
theorem over1 {B B2 H2 : Hp} {D : Addr} {xs : List V} (h : B D = none) (v : Over B (upd B D (.lst xs)) B2 H2) : B2 D = none ∧ H2 = upd B2 D (.lst xs) := by
  obtain ⟨h1, h2⟩ := v.hid D _ upd_same h
  refine ⟨h1, ?_⟩
  funext a
  by_cases ha : a = D
  · rw [ha, upd_same, h2]
  · rw [upd_ne ha]
    refine v.res a ?_
    rw [upd_ne ha]
    cases q : B a with
    | none => exact .inr rfl
    | some u => exact .inl (by intro z; cases z)
/-- one turn's end: the test, the element -/
theorem lc_turn {scope : Scope} {elt : Expr} {ifs : List Expr} {t : En → Option Bool} {f : En → Option PyData} {σ : L2.St} {ρ : En} {B : Hp} {D : Addr} {acc : List V} {da : List PyData} {b : Bool}
    (ht : ∀ (s : Shared) (H' : Hp) (C : Addr) (cl : List (Str × Addr)) (fp : List Addr), SemTs (X.blk s H' scope (compEnvC scope cl C X.env) fp) ifs t)
    (he : ∀ (s : Shared) (H' : Hp) (C : Addr) (cl : List (Str × Addr)) (fp : List Addr), Sem (X.blk s H' scope (compEnvC scope cl C X.env) fp) elt f)
    (hD : B D = none) (r : Rep X.K B σ ρ) (ra : RpAll X.K B acc da) (hl : da.length < 100000) (q : t ρ = some b) {N : Hp → Prop} (h0 : b = false → ∀ B2, Ex B B2 → B2 D = none → N (upd B2 D (.lst acc)))
    (h1 : b = true → ∃ y, f ρ = some y ∧ ∀ B2 v, Ex B B2 → B2 D = none → RpAll X.K B2 (acc ++ [v]) (da ++ [y]) → N (upd B2 D (.lst (acc ++ [v])))) :
    WTb X scope ifs σ (upd B D (.lst acc)) fun b H3 => if b = true then WEb X scope elt σ H3 fun y H4 => ∃ acc, H4 D = some (.lst acc) ∧ acc.length < sizeLine ∧ N (upd H4 D (.lst (acc ++ [y]))) else N H3 := by
  intro s H' C cl fp
  refine ht s H' C cl fp σ _ ρ b (r.mono (Evl.Ex.new hD)) q _ fun H3 e3 => ?_
  obtain ⟨B3, ov, eb⟩ := Over.of_ex (hid1 hD) e3
  obtain ⟨hD3, rfl⟩ := over1 hD ov
  cases b with
  | false => exact h0 rfl B3 eb hD3
  | true =>
    obtain ⟨y, hy, hk⟩ := h1 rfl
    show WEb X scope elt σ (upd B3 D (.lst acc)) _
    intro s H' C cl fp
    refine WE.frame (Q := fun v B4 => Ex B3 B4 ∧ Rp X.K B4 v y) (hid1 hD3) (he s H' C cl fp σ B3 ρ y (r.mono eb) hy _ fun v B4 e4 r4 => ⟨e4, r4⟩) fun v B4 H4 ⟨e4, r4⟩ ov4 => ?_
    obtain ⟨hD4, rfl⟩ := over1 hD3 ov4
    refine ⟨acc, upd_same, Nat.lt_of_lt_of_le (by rw [ra.len]; exact hl) (by decide), ?_⟩
    rw [upd_upd]
    exact hk B4 v (eb.trans e4) hD4 ((RpAll.mono (eb.trans e4) _ _ ra).append (.cons r4 .nil))
end
end Rg
namespace Rg
open PySem PySem.Spec PyProof.Rows L2
section
variable {X : Cx} {elt iter a b : Expr} {ifs : List Expr} {scope : Scope} {pos px p0 p1 : Pos} {fi : En → Option PyData} {fs : En → Option (List PyData)} {t : En → Option Bool} {f : En → Option PyData} {j : Nat} {x : Str}
theorem pe_b (s : Shared) (H : Hp) (C : Addr) (cl : List (Str × Addr)) (fp : List Addr) : PE (X.blk s H scope (compEnvC scope cl C X.env) fp) elt (WEb X scope elt) := ⟨fun pins s' σ H' Q I h => (we _ _).run pins s' σ H' Q I (h s H C cl fp)⟩
theorem pt_b (s : Shared) (H : Hp) (C : Addr) (cl : List (Str × Addr)) (fp : List Addr) : PTs (X.blk s H scope (compEnvC scope cl C X.env) fp) ifs (WTb X scope ifs) := ⟨fun pins s' σ H' Q I h => (wts _ _).run pins s' σ H' Q I (h s H C cl fp)⟩
/-- what a comprehension's core asks of its source -/
theorem lc_core' {J : It} {ds es : List PyData} {σ : L2.St} {H : Hp} {ρ : En} {Q : VK} (hj : j < X.N.length → j < σ.length) (hjN : j < X.N.length)
    (ht : ∀ (s : Shared) (H' : Hp) (C : Addr) (cl : List (Str × Addr)) (fp : List Addr), SemTs (X.blk s H' scope (compEnvC scope cl C X.env) fp) ifs t)
    (he : ∀ (s : Shared) (H' : Hp) (C : Addr) (cl : List (Str × Addr)) (fp : List Addr), Sem (X.blk s H' scope (compEnvC scope cl C X.env) fp) elt f)
    (R : Rep X.K H σ ρ) (jk : JOk X.K J H ds) (h : lcR j t f (ρ.set j none) [] ds = some es)
    (k : ∀ p B xs, Ex H B → B p = none → RpAll X.K B xs es → Q (.ref p) (upd B p (.lst xs))) (D : Addr) (hD : H D = none) :
    ∃ W : Nat → Nat → Hp → Prop, (∃ m, W 0 m (upd H D (.lst []))) ∧ ∀ i m H, W i m H →
      (J.stop i H ∧ Q (.ref D) H) ∨ (J.go i H ∧ ∃ Nx : Hp → Prop, (∀ H', Nx H' → ∃ m', m' < m ∧ W (i + 1) m' H') ∧ ∀ x H', J.yld i H x H' → gName j x (wipe σ [j]) H' fun σ2 H2 => wipe σ2 [j] = wipe σ [j] ∧ WTb X scope ifs σ2 H2 fun b H3 =>
        if b = true then WEb X scope elt σ2 H3 fun y H4 => ∃ acc, H4 D = some (.lst acc) ∧ acc.length < sizeLine ∧ Nx (upd H4 D (.lst (acc ++ [y]))) else Nx H3) := by
  have hjs := hj hjN
  refine ⟨fun i m H' => m = ds.length - i ∧ i ≤ ds.length ∧ ∃ B acc da, B D = none ∧ H' = upd B D (.lst acc) ∧ Ex H B ∧ RpAll X.K B acc da ∧ lcR j t f (ρ.set j none) da (ds.drop i) = some es,
    ⟨ds.length, by simp, Nat.zero_le _, H, [], [], hD, rfl, Evl.Ex.refl H, .nil, by simpa using h⟩, ?_⟩
  rintro i m H' ⟨rfl, hi, B, acc, da, hB, rfl, eb, ra, h'⟩
  by_cases hlt : i < ds.length
  · obtain ⟨hgo, hy⟩ := (jk i B _ eb (hid1 hB)).2 hlt
    refine .inr ⟨hgo, fun H2 => ∃ B acc da, B D = none ∧ H2 = upd B D (.lst acc) ∧ Ex H B ∧ RpAll X.K B acc da ∧ lcR j t f (ρ.set j none) da (ds.drop (i + 1)) = some es, fun H2 ⟨B2, acc2, da2, a1, a2, a3, a4, a5⟩ => ⟨ds.length - (i + 1), by omega, rfl, by omega, B2, acc2, da2, a1, a2, a3, a4, a5⟩, fun x H2 yd => ?_⟩
    obtain ⟨B2, d, ov, e2, gd, rd⟩ := hy x H2 yd
    obtain ⟨hB2, rfl⟩ := over1 hB ov
    have ed : ds.drop i = d :: ds.drop (i + 1) := by
      rw [List.drop_eq_getElem_cons hlt]
      have := List.getElem?_eq_getElem hlt
      rw [gd] at this
      rw [← Option.some.inj this]
    rw [ed] at h'
    unfold lcR at h'
    refine ⟨by show ((σ.set j none).set j (some x)).set j none = σ.set j none; rw [List.set_set, List.set_set], ?_⟩
    have R2 : Rep X.K B2 ((σ.set j none).set j (some x)) ((ρ.set j none).set j (some d)) := ((R.mono (eb.trans e2)).wipe j).put j (by rw [List.length_set]; exact hjs) rd
    cases q : t ((ρ.set j none).set j (some d)) with
    | none => rw [q] at h'; cases h'
    | some bb =>
      rw [q] at h'
      simp only [Option.bind_some] at h'
      by_cases hl : da.length < 100000
      · refine lc_turn (ρ := (ρ.set j none).set j (some d)) ht he hB2 R2 (RpAll.mono e2 _ _ ra) hl q (fun hb B3 e3 h3 => ?_) fun hb => ?_
        · subst hb
          exact ⟨B3, acc, da, h3, rfl, (eb.trans e2).trans e3, RpAll.mono (e2.trans e3) _ _ ra, h'⟩
        · subst hb
          simp only [if_true] at h'
          cases q2 : f ((ρ.set j none).set j (some d)) with
          | none => rw [q2] at h'; cases h'
          | some y =>
            rw [q2] at h'
            simp only [Option.bind_some, if_pos hl] at h'
            exact ⟨y, rfl, fun B3 v e3 h3 r3 => ⟨B3, acc ++ [v], da ++ [y], h3, rfl, (eb.trans e2).trans e3, r3, h'⟩⟩
      · -- a list that long: only tests that refuse
        intro s H' C cl fp
        refine ht s H' C cl fp _ _ _ bb (R2.mono (Evl.Ex.new hB2)) q _ fun H3 e3 => ?_
        obtain ⟨B3, ov3, eb3⟩ := Over.of_ex (hid1 hB2) e3
        obtain ⟨hD3, rfl⟩ := over1 hB2 ov3
        cases bb with
        | false => exact ⟨B3, acc, da, hD3, rfl, (eb.trans e2).trans eb3, RpAll.mono (e2.trans eb3) _ _ ra, h'⟩
        | true =>
          simp only [if_true, if_neg hl] at h'
          cases q2 : f ((ρ.set j none).set j (some d)) with
          | none => rw [q2] at h'; cases h'
          | some y => rw [q2] at h'; cases h'
  · have e : i = ds.length := by omega
    subst e
    refine .inl ⟨(jk ds.length B _ eb (hid1 hB)).1 (Nat.le_refl _), ?_⟩
    rw [List.drop_length] at h'
    unfold lcR at h'
    cases h'
    exact k D B acc eb hB ra
def fLcL (j : Nat) (fi : En → Option PyData) (t : En → Option Bool) (f : En → Option PyData) : En → Option (List PyData) := fun ρ => (fi ρ).bind fun
  | .list ds => lcR j t f (ρ.set j none) [] ds
  | .dict [(.none, .list ds)] => lcR j t f (ρ.set j none) [] ds
  | _ => none
def fLcG (j : Nat) (fi : En → Option (List PyData)) (t : En → Option Bool) (f : En → Option PyData) : En → Option (List PyData) := fun ρ => (fi ρ).bind fun ds => lcR j t f (ρ.set j none) [] ds
/-- frames that are as long as the names -/
def SemFl (X : Cx) (e : Expr) (f : En → Option (List PyData)) : Prop :=
  ∀ (σ : L2.St) (H : Hp) (ρ : En) (ds : List PyData), σ.length = X.N.length → Rep X.K H σ ρ → f ρ = some ds → ∀ Q : VK, (∀ p B xs, Ex H B → B p = none → RpAll X.K B xs ds → Q (.ref p) (upd B p (.lst xs))) → WE X e σ H Q
theorem semFl (h : SemFl X elt fs) : SemF X elt fs := fun σ H ρ ds r e Q k => by
  refine ⟨fun σ' H' Q' => ∃ ρ', Rep X.K H' σ' ρ' ∧ fs ρ' = some ds ∧ ∀ p B xs, Ex H' B → B p = none → RpAll X.K B xs ds → Q' (.ref p) (upd B p (.lst xs)), ⟨fun pins s σ' H' Q' I ⟨ρ', r', e', k'⟩ => ?_⟩, ρ, r, e, k⟩
  exact (we X elt).run pins s σ' H' Q' I (h σ' H' ρ' ds I.len r' e' Q' k')
theorem sf_lcL (hc : X.calm = true) (hN : X.N.Nodup) (hi : Sem X iter fi) (ok : BlkOk X.N X.env.scope scope [(x, j)]) (hx : X.N[j]? = some x) (hlx : ∀ (s : Shared) (H' : Hp) (C : Addr) (cl : List (Str × Addr)) (fp : List Addr), PG (X.blk s H' scope (compEnvC scope cl C X.env) fp) (.Name x px) (gName j))
    (ht : ∀ (s : Shared) (H' : Hp) (C : Addr) (cl : List (Str × Addr)) (fp : List Addr), SemTs (X.blk s H' scope (compEnvC scope cl C X.env) fp) ifs t)
    (he : ∀ (s : Shared) (H' : Hp) (C : Addr) (cl : List (Str × Addr)) (fp : List Addr), Sem (X.blk s H' scope (compEnvC scope cl C X.env) fp) elt f) (hs : ∀ v, foldedSetIterable iter X.env v = pure v := by intro _; rfl) :
    SemF X (.ListComp elt [⟨.Name x px, iter, ifs, 0⟩] scope pos) (fLcL j fi t f) := semFl fun σ H ρ ds hlen R e Q k => by
  have hjN : j < X.N.length := (List.getElem?_eq_some_iff.mp hx).1
  refine ⟨_, pe_lc (own := [(x, j)]) hc hN (pi_list (we X iter)) ok hlx pt_b pe_b hs, ?_⟩
  unfold fLcL at e
  cases q : fi ρ with
  | none => rw [q] at e; cases e
  | some z =>
    rw [q] at e
    simp only [Option.bind_some] at e
    refine hi σ H ρ z R q _ fun v H1 e1 r1 => ?_
    split at e
    · rename_i xs
      cases r1 with
      | lst h1 a1 => exact ⟨_, rfl, ⟨_, .inl (.inl h1)⟩, fun D hD => lc_core' (fun h => by rw [hlen]; exact h) hjN ht he (R.mono e1) (j_list (.inl (.inl h1)) a1) e (fun p B xs e2 hp r2 => k p B xs (e1.trans e2) hp r2) D hD⟩
    · rename_i xs
      cases r1 with
      | loc h1 a1 => exact ⟨_, rfl, ⟨_, h1⟩, fun D hD => lc_core' (fun h => by rw [hlen]; exact h) hjN ht he (R.mono e1) (j_list h1 a1) e (fun p B xs e2 hp r2 => k p B xs (e1.trans e2) hp r2) D hD⟩
    · cases e
theorem sf_lcG1 (hc : X.calm = true) (hN : X.N.Nodup) (hg : Gl X "range") (hm : X.mg "range" = none) (ha : SemA X [a] fs) (ok : BlkOk X.N X.env.scope scope [(x, j)]) (hx : X.N[j]? = some x) (hlx : ∀ (s : Shared) (H' : Hp) (C : Addr) (cl : List (Str × Addr)) (fp : List Addr), PG (X.blk s H' scope (compEnvC scope cl C X.env) fp) (.Name x px) (gName j))
    (ht : ∀ (s : Shared) (H' : Hp) (C : Addr) (cl : List (Str × Addr)) (fp : List Addr), SemTs (X.blk s H' scope (compEnvC scope cl C X.env) fp) ifs t)
    (he : ∀ (s : Shared) (H' : Hp) (C : Addr) (cl : List (Str × Addr)) (fp : List Addr), Sem (X.blk s H' scope (compEnvC scope cl C X.env) fp) elt f)
    (hst : starEach [a] X.env = [(false, eval a X.env)] := by rfl) (hs : ∀ v, foldedSetIterable (.Call (.Name "range" p0) [a] [] p1) X.env v = pure v := by intro _; rfl) :
    SemF X (.ListComp elt [⟨.Name x px, .Call (.Name "range" p0) [a] [] p1, ifs, 0⟩] scope pos) (fLcG j (rngI1 fs) t f) := semFl fun σ H ρ ds hlen R e Q k => by
  have hjN : j < X.N.length := (List.getElem?_eq_some_iff.mp hx).1
  refine ⟨_, pe_lc (own := [(x, j)]) hc hN (pi_range1 hg hm (wa X [a]) hst) ok hlx pt_b pe_b hs, ?_⟩
  unfold fLcG rngI1 at e
  cases q : fs ρ with
  | none => rw [q] at e; cases e
  | some z =>
    rw [q] at e
    simp only [Option.bind_some] at e
    refine ha σ H ρ z R q _ fun vs H1 e1 r1 => ?_
    split at e
    · rename_i n
      split at e
      · rename_i hn
        simp only [Option.bind_some] at e
        cases r1 with
        | cons r1 r3 =>
          cases r3
          cases r1
          exact ⟨_, rfl, hn.1, hn.2, fun D hD => lc_core' (fun h => by rw [hlen]; exact h) hjN ht he (R.mono e1) (j_range (lo := 0)) e (fun p B xs e2 hp r2 => k p B xs (e1.trans e2) hp r2) D hD⟩
      · cases e
    · cases e
end
end Rg
namespace Rg
open PySem PySem.Spec PyProof.Rows L2
section
variable {X : Cx} {a b c e : Expr} {es : List Expr} {f g h : En → Option PyData} {fs : En → Option (List PyData)} {pos : Pos}
theorem sv (i : Nat) {x : Str} (hN : X.N[i]? = some x := by rfl) (hv : Vis X.env.scope x := by first | exact Or.inl rfl | exact Or.inr (Or.inl rfl) | exact Or.inr (Or.inr rfl)) (hd : (x == ("__debug__" : Str)) = false := by decide) (hcd : (x == ("__classdict__" : Str)) = false := by decide) : Sem X (.Name x pos) (vr i) := s_var hN hv hd hcd
theorem s_add (ha : Sem X a f) (hb : Sem X b g) : Sem X (.BinOp a .Add b pos) (o2 dAdd f g) := s_op (OpR.or op_add op_cat) d_add ha hb
theorem s_sub (ha : Sem X a f) (hb : Sem X b g) : Sem X (.BinOp a .Sub b pos) (o2 dSub f g) := s_op op_sub d_sub ha hb
theorem s_mul (ha : Sem X a f) (hb : Sem X b g) : Sem X (.BinOp a .Mult b pos) (o2 dMul f g) := s_op (OpR.or op_mul op_rep) d_mul ha hb
theorem s_mod (ha : Sem X a f) (hb : Sem X b g) : Sem X (.BinOp a .Mod b pos) (o2 dMod f g) := s_op op_mod d_mod ha hb
theorem s_div (ha : Sem X a f) (hb : Sem X b g) : Sem X (.BinOp a .FloorDiv b pos) (o2 dDiv f g) := s_op op_fdiv d_div ha hb
theorem s_pow (ha : Sem X a f) (hb : Sem X b g) : Sem X (.BinOp a .Pow b pos) (o2 dPow f g) := s_op op_pow d_pow ha hb
theorem s_lt (ha : Sem X a f) (hb : Sem X b g) : Sem X (.Compare a [.Lt] [b] pos) (o2 dLt f g) := s_cmp op_lt d_lt ha hb (nomark _)
theorem s_le (ha : Sem X a f) (hb : Sem X b g) : Sem X (.Compare a [.LtE] [b] pos) (o2 dLe f g) := s_cmp op_le d_le ha hb (nomark _)
theorem s_gt (ha : Sem X a f) (hb : Sem X b g) : Sem X (.Compare a [.Gt] [b] pos) (o2 dGt f g) := s_cmp op_gt d_gt ha hb (nomark _)
theorem s_ge (ha : Sem X a f) (hb : Sem X b g) : Sem X (.Compare a [.GtE] [b] pos) (o2 dGe f g) := s_cmp op_ge d_ge ha hb (nomark _)
theorem s_is (ha : Sem X a f) (hb : Sem X b g) : Sem X (.Compare a [.Is] [b] pos) (o2 dIs f g) := s_cmp op_isBl d_is ha hb (nomark _)
theorem s_isNot (ha : Sem X a f) (hb : Sem X b g) : Sem X (.Compare a [.IsNot] [b] pos) (o2 dIsNot f g) := s_cmp op_notBl d_isNot ha hb (nomark _)
theorem s_eq (hu : X.A.units + 64 < cLine) (ha : Sem X a f) (hb : Sem X b g) : Sem X (.Compare a [.Eq] [b] pos) (o2 dEq f g) := s_cmp (op_eqD hu) d_eq ha hb (nomark _)
theorem s_ne (hu : X.A.units + 64 < cLine) (ha : Sem X a f) (hb : Sem X b g) : Sem X (.Compare a [.NotEq] [b] pos) (o2 dNe f g) := s_cmp (op_neD hu) d_ne ha hb (nomark _)
theorem s_in (hu : X.A.units + 65 < cLine) (ha : Sem X a f) (hb : Sem X b g) (hm : behindInMarks .In b = false := by rfl) : Sem X (.Compare a [.In] [b] pos) (o2 dIn f g) := s_cmp (op_inD hu) d_in ha hb hm
theorem s_notIn (hu : X.A.units + 65 < cLine) (ha : Sem X a f) (hb : Sem X b g) (hm : behindInMarks .NotIn b = false := by rfl) : Sem X (.Compare a [.NotIn] [b] pos) (o2 dNotIn f g) := s_cmp (op_notInD hu) d_notIn ha hb hm
theorem t_lt (ha : Sem X a f) (hb : Sem X b g) : SemT X (.Compare a [.Lt] [b] pos) (tb (o2 dLt f g)) := t_cmp op_lt d_lt ha hb (nomark _)
theorem t_le (ha : Sem X a f) (hb : Sem X b g) : SemT X (.Compare a [.LtE] [b] pos) (tb (o2 dLe f g)) := t_cmp op_le d_le ha hb (nomark _)
theorem t_gt (ha : Sem X a f) (hb : Sem X b g) : SemT X (.Compare a [.Gt] [b] pos) (tb (o2 dGt f g)) := t_cmp op_gt d_gt ha hb (nomark _)
theorem t_ge (ha : Sem X a f) (hb : Sem X b g) : SemT X (.Compare a [.GtE] [b] pos) (tb (o2 dGe f g)) := t_cmp op_ge d_ge ha hb (nomark _)
theorem t_is (ha : Sem X a f) (hb : Sem X b g) : SemT X (.Compare a [.Is] [b] pos) (tb (o2 dIs f g)) := t_cmp op_isBl d_is ha hb (nomark _)
theorem t_isNot (ha : Sem X a f) (hb : Sem X b g) : SemT X (.Compare a [.IsNot] [b] pos) (tb (o2 dIsNot f g)) := t_cmp op_notBl d_isNot ha hb (nomark _)
theorem t_eq (hu : X.A.units + 64 < cLine) (ha : Sem X a f) (hb : Sem X b g) : SemT X (.Compare a [.Eq] [b] pos) (tb (o2 dEq f g)) := t_cmp (op_eqD hu) d_eq ha hb (nomark _)
theorem t_ne (hu : X.A.units + 64 < cLine) (ha : Sem X a f) (hb : Sem X b g) : SemT X (.Compare a [.NotEq] [b] pos) (tb (o2 dNe f g)) := t_cmp (op_neD hu) d_ne ha hb (nomark _)
theorem t_in (hu : X.A.units + 65 < cLine) (ha : Sem X a f) (hb : Sem X b g) (hm : behindInMarks .In b = false := by rfl) : SemT X (.Compare a [.In] [b] pos) (tb (o2 dIn f g)) := t_cmp (op_inD hu) d_in ha hb hm
theorem t_notIn (hu : X.A.units + 65 < cLine) (ha : Sem X a f) (hb : Sem X b g) (hm : behindInMarks .NotIn b = false := by rfl) : SemT X (.Compare a [.NotIn] [b] pos) (tb (o2 dNotIn f g)) := t_cmp (op_notInD hu) d_notIn ha hb hm
end
section
variable {P : Program} {w : World} {K : PySem.W.Frag} {mg : Str → Option Value} {base : Heap}
/-- a def of the text as its callers see it -/
structure Cal (P : Program) (w : World) (K : PySem.W.Frag) (mg : Str → Option Value) (base : Heap) (x : Str) (k : Nat) (sp : Sp) : Prop where
  ex : ∃ (f : Addr) (fd : FuncData) (ps : List Str), FnOk P w K mg base CX0 k f fd ps sp ∧ mg x = some (.ref f) ∧ PySem.W.keepIn K (.ref f) = true ∧ Binds K fd ps []
theorem Cal.fnx {X : Cx} {x : Str} {k j : Nat} {sp : Sp} (c : Cal X.prog X.w X.K X.mg X.base x k sp) (hr : Room j X.A) (h : k ≤ j) : FnX X x sp := by
  obtain ⟨f, fd, ps, F, m, kp, b⟩ := c.ex
  exact ⟨CX0, k, f, fd, ps, E0, F, hr.mono h, m, kp, b, pass0⟩
/-- where a def stands -/
structure At (K : PySem.W.Frag) (mg : Str → Option Value) (x : Str) (st : Stmt) (ps : List Str) : Prop where
  ex : ∃ (f : Addr) (fd : FuncData), Fun K x x st f fd ∧ mg x = some (.ref f) ∧ Binds K fd ps []
theorem At.cal {x : Str} {st : Stmt} {N ps : List Str} {k : Nat} {B : Ev → Option Fl} {g : List PyData → Option PyData} (a : At K mg x st ps) (S : FnScope N ps (defScope st)) (hl : ps.length ≤ N.length)
    (hb : ∀ (f : Addr) (cdv : Value) (A : Around) (outer : List Env) (s : Shared) (H : Hp) (E : XK), Room k (A.deeper (envOfC x (defScope st) s.heap.objs.size f cdv)) → SemSs (cxOf CX0 P w K mg base N x (defScope st) f cdv A outer s H E).nox (defBody st) B)
    (hg : ∀ ds d, g ds = some d → run N.length ps.length B ds = some d) : Cal P w K mg base x (k + 1) (SpD K g) := by
  obtain ⟨f, fd, F, m, b⟩ := a.ex
  exact ⟨f, fd, ps, SpD.imp (fn_sem F S hl (hb f)) hg, m, F.kp, b⟩
theorem At.calF {x : Str} {st : Stmt} {N ps : List Str} {k : Nat} {B : Ev → Option Fl} {g : List PyData → Option (List PyData)} (a : At K mg x st ps) (S : FnScope N ps (defScope st)) (hl : ps.length ≤ N.length)
    (hb : ∀ (f : Addr) (cdv : Value) (A : Around) (outer : List Env) (s : Shared) (H : Hp) (E : XK), Room k (A.deeper (envOfC x (defScope st) s.heap.objs.size f cdv)) → SemSs (cxOf CX0 P w K mg base N x (defScope st) f cdv A outer s H E).nox (defBody st) B)
    (hg : ∀ ds d, g ds = some d → runF N.length ps.length B ds = some d) : Cal P w K mg base x (k + 1) (SpF K g) := by
  obtain ⟨f, fd, F, m, b⟩ := a.ex
  exact ⟨f, fd, ps, SpF.imp (fn_semF F S hl (hb f)) hg, m, F.kp, b⟩
/-- a new list's def, seen as one that hands back data -/
theorem Cal.D {x : Str} {k : Nat} {g : List PyData → Option (List PyData)} (c : Cal P w K mg base x k (SpF K g)) : Cal P w K mg base x k (SpD K fun ds => (g ds).map .list) := by
  obtain ⟨f, fd, ps, F, m, kp, b⟩ := c.ex
  exact ⟨f, fd, ps, F.imp spF_D, m, kp, b⟩
theorem hu65 {k : Nat} {A : Around} (r : Room k A) : A.units + 65 < cLine := by have := r.un; omega
end
end Rg
namespace Rg
open PySem PySem.Spec PyProof.Rows L2
section
variable {X : Cx} {elt a b : Expr} {ifs ifs1 : List Expr} {scope : Scope} {pos px py p0 p1 p2 p3 : Pos} {fs fs1 : En → Option (List PyData)} {t t1 : En → Option Bool} {f : En → Option PyData} {i j : Nat} {x y : Str}
def WAb (X : Cx) (scope : Scope) (es : List Expr) : TA := fun σ H Q => ∀ (s : Shared) (H' : Hp) (C : Addr) (cl : List (Str × Addr)) (fp : List Addr), WA (X.blk s H' scope (compEnvC scope cl C X.env) fp) es σ H Q
theorem pa_b {es : List Expr} (s : Shared) (H : Hp) (C : Addr) (cl : List (Str × Addr)) (fp : List Addr) : PA (X.blk s H scope (compEnvC scope cl C X.env) fp) es (WAb X scope es) := ⟨fun pos pins s' σ H' Q I h => (wa _ _).run pos pins s' σ H' Q I (h s H C cl fp)⟩
/-- the inner walk of a comprehension of two -/
theorem lc_inner {J : It} {ds da da' : List PyData} {σ : L2.St} {B : Hp} {ρ : En} {D : Addr} {acc : List V} {Nx : Hp → Prop} (hjs : j < σ.length)
    (ht : ∀ (s : Shared) (H' : Hp) (C : Addr) (cl : List (Str × Addr)) (fp : List Addr), SemTs (X.blk s H' scope (compEnvC scope cl C X.env) fp) ifs t)
    (he : ∀ (s : Shared) (H' : Hp) (C : Addr) (cl : List (Str × Addr)) (fp : List Addr), Sem (X.blk s H' scope (compEnvC scope cl C X.env) fp) elt f)
    (R : Rep X.K B σ ρ) (jk : JOk X.K J B ds) (h : lcR j t f (ρ.set j none) da ds = some da') (hB : B D = none) (ra : RpAll X.K B acc da)
    (k : ∀ B2 acc2, Ex B B2 → B2 D = none → RpAll X.K B2 acc2 da' → Nx (upd B2 D (.lst acc2))) :
    ∃ W : Nat → Nat → Hp → Prop, (∃ m, W 0 m (upd B D (.lst acc))) ∧ ∀ i m H, W i m H →
      (J.stop i H ∧ Nx H) ∨ (J.go i H ∧ ∃ Nx1 : Hp → Prop, (∀ H', Nx1 H' → ∃ m', m' < m ∧ W (i + 1) m' H') ∧ ∀ x H', J.yld i H x H' → gName j x (wipe σ [j]) H' fun σ2 H2 => wipe σ2 [j] = wipe σ [j] ∧ WTb X scope ifs σ2 H2 fun b H3 =>
        if b = true then WEb X scope elt σ2 H3 fun y H4 => ∃ acc, H4 D = some (.lst acc) ∧ acc.length < sizeLine ∧ Nx1 (upd H4 D (.lst (acc ++ [y]))) else Nx1 H3) := by
  refine ⟨fun i m H' => m = ds.length - i ∧ i ≤ ds.length ∧ ∃ B1 acc da1, B1 D = none ∧ H' = upd B1 D (.lst acc) ∧ Ex B B1 ∧ RpAll X.K B1 acc da1 ∧ lcR j t f (ρ.set j none) da1 (ds.drop i) = some da',
    ⟨ds.length, by simp, Nat.zero_le _, B, acc, da, hB, rfl, Evl.Ex.refl B, ra, by simpa using h⟩, ?_⟩
  rintro i m H' ⟨rfl, hi, B1, acc, da, hB1, rfl, eb, ra, h'⟩
  by_cases hlt : i < ds.length
  · obtain ⟨hgo, hy⟩ := (jk i B1 _ eb (hid1 hB1)).2 hlt
    refine .inr ⟨hgo, fun H2 => ∃ B2 acc da1, B2 D = none ∧ H2 = upd B2 D (.lst acc) ∧ Ex B B2 ∧ RpAll X.K B2 acc da1 ∧ lcR j t f (ρ.set j none) da1 (ds.drop (i + 1)) = some da', fun H2 ⟨B2, acc2, da2, a1, a2, a3, a4, a5⟩ => ⟨ds.length - (i + 1), by omega, rfl, by omega, B2, acc2, da2, a1, a2, a3, a4, a5⟩, fun x H2 yd => ?_⟩
    obtain ⟨B2, d, ov, e2, gd, rd⟩ := hy x H2 yd
    obtain ⟨hB2, rfl⟩ := over1 hB1 ov
    have ed : ds.drop i = d :: ds.drop (i + 1) := by
      rw [List.drop_eq_getElem_cons hlt]
      have := List.getElem?_eq_getElem hlt
      rw [gd] at this
      rw [← Option.some.inj this]
    rw [ed] at h'
    unfold lcR at h'
    refine ⟨by show ((σ.set j none).set j (some x)).set j none = σ.set j none; rw [List.set_set, List.set_set], ?_⟩
    have R2 : Rep X.K B2 ((σ.set j none).set j (some x)) ((ρ.set j none).set j (some d)) := ((R.mono (eb.trans e2)).wipe j).put j (by rw [List.length_set]; exact hjs) rd
    cases q : t ((ρ.set j none).set j (some d)) with
    | none => rw [q] at h'; cases h'
    | some bb =>
      rw [q] at h'
      simp only [Option.bind_some] at h'
      by_cases hl : da.length < 100000
      · refine lc_turn (ρ := (ρ.set j none).set j (some d)) ht he hB2 R2 (RpAll.mono e2 _ _ ra) hl q (fun hb B3 e3 h3 => ?_) fun hb => ?_
        · subst hb
          exact ⟨B3, acc, da, h3, rfl, (eb.trans e2).trans e3, RpAll.mono (e2.trans e3) _ _ ra, h'⟩
        · subst hb
          simp only [if_true] at h'
          cases q2 : f ((ρ.set j none).set j (some d)) with
          | none => rw [q2] at h'; cases h'
          | some y =>
            rw [q2] at h'
            simp only [Option.bind_some, if_pos hl] at h'
            exact ⟨y, rfl, fun B3 v e3 h3 r3 => ⟨B3, acc ++ [v], da ++ [y], h3, rfl, (eb.trans e2).trans e3, r3, h'⟩⟩
      · intro s H' C cl fp
        refine ht s H' C cl fp _ _ _ bb (R2.mono (Evl.Ex.new hB2)) q _ fun H3 e3 => ?_
        obtain ⟨B3, ov3, eb3⟩ := Over.of_ex (hid1 hB2) e3
        obtain ⟨hD3, rfl⟩ := over1 hB2 ov3
        cases bb with
        | false => exact ⟨B3, acc, da, hD3, rfl, (eb.trans e2).trans eb3, RpAll.mono (e2.trans eb3) _ _ ra, h'⟩
        | true =>
          simp only [if_true, if_neg hl] at h'
          cases q2 : f ((ρ.set j none).set j (some d)) with
          | none => rw [q2] at h'; cases h'
          | some y => rw [q2] at h'; cases h'
  · have e : i = ds.length := by omega
    subst e
    refine .inl ⟨(jk ds.length B1 _ eb (hid1 hB1)).1 (Nat.le_refl _), ?_⟩
    rw [List.drop_length] at h'
    unfold lcR at h'
    cases h'
    exact k B1 acc eb hB1 ra
/-- [f for x in .. for y in range(..) if t] -/
def lcR2 (i j : Nat) (fi1 : En → Option (List PyData)) (t : En → Option Bool) (f : En → Option PyData) (ρ : En) : List PyData → List PyData → Option (List PyData)
  | da, [] => some da
  | da, d :: ds => (fi1 (ρ.set i (some d))).bind fun ds1 => (lcR j t f ((ρ.set i (some d)).set j none) da ds1).bind fun da' => lcR2 i j fi1 t f ρ da' ds
def fLcG2 (i j : Nat) (fi fi1 : En → Option (List PyData)) (t : En → Option Bool) (f : En → Option PyData) : En → Option (List PyData) := fun ρ => (fi ρ).bind fun ds => lcR2 i j fi1 t f ((ρ.set j none).set i none) [] ds
theorem rngI1_some {ρ : En} {ds : List PyData} (h : rngI1 fs ρ = some ds) : ∃ n : Int, fs ρ = some [.int n] ∧ (-(2 ^ 62) ≤ n ∧ n < 2 ^ 62) ∧ ds = rngD 0 n.toNat := by
  unfold rngI1 at h
  cases q : fs ρ with
  | none => rw [q] at h; cases h
  | some z =>
    rw [q] at h
    simp only [Option.bind_some] at h
    split at h
    · split at h
      · rename_i hn
        cases h
        exact ⟨_, rfl, hn, rfl⟩
      · cases h
    · cases h
theorem tYes_if {σ : L2.St} {H : Hp} {A B : Hp → Prop} (h : A H) : tYes σ H (fun b H3 => if b = true then A H3 else B H3) := by
  show (if true = true then A H else B H)
  rw [if_pos rfl]
  exact h
theorem set_lem {α : Type} (σ : List (Option α)) (v : Option α) (hij : i ≠ j) : ((((σ.set j none).set i none).set i v).set j none).set i none = (σ.set j none).set i none := by
  rw [List.set_set, List.set_comm _ _ hij, List.set_set, List.set_set]
theorem sf_lcGG (hc : X.calm = true) (hN : X.N.Nodup) (hg : Gl X "range") (hm : X.mg "range" = none) (ha : SemA X [a] fs) (ok : BlkOk X.N X.env.scope scope [(x, i), (y, j)]) (hij : i ≠ j) (hx : X.N[i]? = some x) (hy : X.N[j]? = some y)
    (hlx : ∀ (s : Shared) (H' : Hp) (C : Addr) (cl : List (Str × Addr)) (fp : List Addr), PG (X.blk s H' scope (compEnvC scope cl C X.env) fp) (.Name x px) (gName i))
    (hly : ∀ (s : Shared) (H' : Hp) (C : Addr) (cl : List (Str × Addr)) (fp : List Addr), PG (X.blk s H' scope (compEnvC scope cl C X.env) fp) (.Name y py) (gName j))
    (hg1 : ∀ (s : Shared) (H' : Hp) (C : Addr) (cl : List (Str × Addr)) (fp : List Addr), Gl (X.blk s H' scope (compEnvC scope cl C X.env) fp) "range")
    (hb : ∀ (s : Shared) (H' : Hp) (C : Addr) (cl : List (Str × Addr)) (fp : List Addr), SemA (X.blk s H' scope (compEnvC scope cl C X.env) fp) [b] fs1)
    (ht : ∀ (s : Shared) (H' : Hp) (C : Addr) (cl : List (Str × Addr)) (fp : List Addr), SemTs (X.blk s H' scope (compEnvC scope cl C X.env) fp) ifs1 t)
    (he : ∀ (s : Shared) (H' : Hp) (C : Addr) (cl : List (Str × Addr)) (fp : List Addr), Sem (X.blk s H' scope (compEnvC scope cl C X.env) fp) elt f)
    (hst : starEach [a] X.env = [(false, eval a X.env)] := by rfl) (hs : ∀ v, foldedSetIterable (.Call (.Name "range" p0) [a] [] p1) X.env v = pure v := by intro _; rfl)
    (hst1 : ∀ env, starEach [b] env = [(false, eval b env)] := by intro _; rfl) (hs1 : ∀ env v, foldedSetIterable (.Call (.Name "range" p2) [b] [] p3) env v = pure v := by intro _ _; rfl) :
    SemF X (.ListComp elt [⟨.Name x px, .Call (.Name "range" p0) [a] [] p1, [], 0⟩, ⟨.Name y py, .Call (.Name "range" p2) [b] [] p3, ifs1, 0⟩] scope pos) (fLcG2 i j (rngI1 fs) (rngI1 fs1) t f) := semFl fun σ H ρ ds hlen R e Q k => by
  have hiN : i < σ.length := by rw [hlen]; exact (List.getElem?_eq_some_iff.mp hx).1
  have hjN : j < σ.length := by rw [hlen]; exact (List.getElem?_eq_some_iff.mp hy).1
  refine ⟨_, pe_lc2 (own := [(x, i), (y, j)]) (vs1 := [j]) hc hN (pi_range1 hg hm (wa X [a]) hst) ok (by simp) hlx (fun _ _ _ _ _ => pts_nil) (fun s H' C cl fp => pi_range1 (hg1 s H' C cl fp) hm (pa_b s H' C cl fp) (hst1 _)) hly pt_b pe_b hs hs1, ?_⟩
  unfold fLcG2 at e
  cases q : rngI1 fs ρ with
  | none => rw [q] at e; cases e
  | some z =>
    rw [q] at e
    simp only [Option.bind_some] at e
    obtain ⟨n, q0, hn, rfl⟩ := rngI1_some q
    refine ha σ H ρ _ R q0 _ fun vs H1 e1 r1 => ?_
    · · · cases r1 with
        | cons r1 r3 =>
          cases r3
          cases r1
          refine ⟨_, rfl, hn.1, hn.2, fun D hD => ?_⟩
          have R1 := R.mono e1
          refine ⟨fun m k H' => k = n.toNat - m ∧ m ≤ n.toNat ∧ ∃ B acc da, B D = none ∧ H' = upd B D (.lst acc) ∧ Ex H1 B ∧ RpAll X.K B acc da ∧ lcR2 i j (rngI1 fs1) t f ((ρ.set j none).set i none) da ((rngD 0 n.toNat).drop m) = some ds,
            ⟨n.toNat, by simp, Nat.zero_le _, H1, [], [], hD, rfl, Evl.Ex.refl H1, .nil, by simpa using e⟩, ?_⟩
          rintro m kk H' ⟨rfl, hm', B, acc, da, hB, rfl, eb, ra, h'⟩
          by_cases hlt : m < n.toNat
          · refine .inr ⟨hlt, fun H2 => ∃ B acc da, B D = none ∧ H2 = upd B D (.lst acc) ∧ Ex H1 B ∧ RpAll X.K B acc da ∧ lcR2 i j (rngI1 fs1) t f ((ρ.set j none).set i none) da ((rngD 0 n.toNat).drop (m + 1)) = some ds, fun H2 ⟨B2, acc2, da2, a1, a2, a3, a4, a5⟩ => ⟨n.toNat - (m + 1), by omega, rfl, by omega, B2, acc2, da2, a1, a2, a3, a4, a5⟩, fun v H2 yd => ?_⟩
            obtain ⟨rfl, rfl⟩ := yd
            have ed : (rngD 0 n.toNat).drop m = .int (0 + (m : Int)) :: (rngD 0 n.toNat).drop (m + 1) := by
              have hl : m < (rngD 0 n.toNat).length := by rw [rngD_len]; exact hlt
              rw [List.drop_eq_getElem_cons hl]
              have g := rngD_get (lo := 0) hlt
              rw [List.getElem?_eq_getElem hl] at g
              rw [Option.some.inj g]
            rw [ed] at h'
            unfold lcR2 at h'
            have R2 : Rep X.K B (((σ.set j none).set i none).set i (some (.int (0 + (m : Int))))) (((ρ.set j none).set i none).set i (some (.int (0 + (m : Int))))) := (((R1.mono eb).wipe j).wipe i).put i (by rw [List.length_set, List.length_set]; exact hiN) (.int _)
            refine ⟨?_, ?_⟩
            · show (((((σ.set j none).set i none).set i (some (V.int (0 + (m : Int))))).set j none).set i none) = (σ.set j none).set i none
              exact set_lem σ _ hij
            · refine tYes_if ?_
              cases q1 : rngI1 fs1 (((ρ.set j none).set i none).set i (some (.int (0 + (m : Int))))) with
              | none => rw [q1] at h'; cases h'
              | some z1 =>
                rw [q1] at h'
                simp only [Option.bind_some] at h'
                obtain ⟨n1, q3, hn1, rfl⟩ := rngI1_some q1
                intro s H' C cl fp
                refine hb s H' C cl fp _ (upd B D (.lst acc)) _ _ (R2.mono (Evl.Ex.new (o := HO.lst acc) hB)) q3 _ fun vs H3 e3 r3 => ?_
                obtain ⟨B3, ov, eb3⟩ := Over.of_ex (hid1 hB) e3
                obtain ⟨hD3, rfl⟩ := over1 hB ov
                cases r3 with
                | cons r4 r5 =>
                  cases r5
                  cases r4
                  cases q2 : lcR j t f ((((ρ.set j none).set i none).set i (some (.int (0 + (m : Int))))).set j none) da (rngD 0 n1.toNat) with
                  | none => rw [q2] at h'; cases h'
                  | some da' =>
                    rw [q2] at h'
                    refine ⟨_, rfl, hn1.1, hn1.2, ?_⟩
                    exact lc_inner (by show j < (((σ.set j none).set i none).set i (some (V.int (0 + (m : Int))))).length; rw [List.length_set, List.length_set, List.length_set]; exact hjN) ht he (R2.mono eb3) (j_range (lo := 0)) q2 hD3 (RpAll.mono eb3 _ _ ra) fun B2 acc2 ee hh rr => ⟨B2, acc2, da', hh, rfl, (eb.trans eb3).trans ee, rr, h'⟩
          · have e : m = n.toNat := by omega
            subst e
            refine .inl ⟨Nat.le_refl _, ?_⟩
            rw [List.drop_eq_nil_of_le (by rw [rngD_len]; exact Nat.le_refl _)] at h'
            unfold lcR2 at h'
            cases h'
            exact k D B acc (e1.trans eb) hB ra
end
end Rg
namespace Rg
open PySem PySem.Spec PyProof.Rows L2
/-- called with such data it lets out an error of the class at C -/
def SpR (K : PySem.W.Frag) (bad : List PyData → Bool) (C : Addr) : Sp := fun vs H _ E => ∃ ds, RpAll K H vs ds ∧ bad ds = true ∧ ∀ H', Ex H H' → E (.ref C) none H'
/-- an own error over ValueError, as the top has made it -/
structure ExO (K : PySem.W.Frag) (mg : Str → Option Value) (x : Str) (C : Addr) : Prop where
  g : mg x = some (.ref C)
  x : PySem.W.excIn K C [.type "ValueError", .type "Exception", .type "BaseException", .type "object"] "ValueError.__new__" = true
  k : PySem.W.keepIn K (.ref C) = true
  b : PySem.W.subIn K (.ref C) (.type "BaseException") = some true
  t : PySem.W.typeIn K (.ref C) = some (.type "type")
  d : PySem.W.hasDictIn K C = true
/-- if c: raise X("..") at a def's head -/
theorem raise_if {P : Program} {w : World} {K : PySem.W.Frag} {mg : Str → Option Value} {base : Heap} {x qual : Str} {f : Addr} {fd : FuncData} {N ps : List Str} {k : Nat} {st : Stmt} {c : Expr} {rest : List Stmt} {y m : Str} {j : Nat} {p p2 pc pr pi : Pos} {C : Addr} {t : En → Option Bool} {bad : List PyData → Bool}
    (F : Fun K x qual st f fd) (S : FnScope N ps (defScope st)) (hl : ps.length ≤ N.length) (eb : defBody st = .If c [.Raise (some (.Call (.Name y p) [.Constant (.str m) j p2] [] pc)) none pr] [] pi :: rest) (hg : (defScope st).names.lookup y = some .globalImplicit) (hy : (y == ("__debug__" : Str)) = false) (O : ExO K mg y C)
    (ht : ∀ (cdv : Value) (A : Around) (outer : List Env) (s : Shared) (H : Hp) (E : XK), Room k (A.deeper (envOfC qual (defScope st) s.heap.objs.size f cdv)) → SemT (cxOf (L2.CX P w) P w K mg base N qual (defScope st) f cdv A outer s H E) c t)
    (hb : ∀ ds, bad ds = true → ds.length = ps.length ∧ t (view (ini N.length ds)) = some true) : FnOk P w K mg base (L2.CX P w) (k + 1) f fd ps (SpR K bad C) := by
  refine F.okX S (fun vs H Q E h => ?_) (fun cdv A outer s H vs Q E hr h => ?_)
  · obtain ⟨ds, r, e, _⟩ := h
    rw [r.len, (hb ds e).1]
  · obtain ⟨ds, r, e, q⟩ := h
    obtain ⟨h1, h2⟩ := hb ds e
    rw [eb]
    refine ⟨_, pss_cons (ps_if (wt _ c) (pss_one (ps_raise rfl (takes_of rfl rfl rfl rfl) (pmk_own PySem.F.excBase_ValueError O.x O.g O.k (raises_own O.b O.t) hg hy))) pss_nil) pss_never, ?_⟩
    refine ht cdv A outer s H E hr (L2.start N vs) H _ true (rep_ini r (by omega)).view h2 _ fun H2 e2 => ?_
    exact iteT (q H2 e2)
section
variable {K : PySem.W.Frag} {C D : Addr} {b : Bool} {T : String}
theorem cls_some (d : PySem.W.hasDictIn K C = true) : (PySem.W.clsIn K C).isSome = true := by
  obtain ⟨cd, hc, _⟩ := PySem.W.any_some d
  rw [hc]
  rfl
theorem kit_self : PySem.W.kitOne K (.ref D) (.ref D) = some true := by
  unfold PySem.W.kitOne
  rw [if_pos (by simp)]
theorem kit_ref (ne : (Value.ref D == Value.ref C) = false) (d : PySem.W.hasDictIn K C = true) (t : PySem.W.typeIn K (.ref C) = some (.type "type")) (s : PySem.W.subIn K (.ref D) (.ref C) = some b) : PySem.W.kitOne K (.ref D) (.ref C) = some b := by
  unfold PySem.W.kitOne
  rw [ne, if_neg Bool.false_ne_true]
  show (if ((PySem.W.clsIn K C).isSome && PySem.W.typeIn K (.ref C) == some (.type "type")) = true then PySem.W.subIn K (.ref D) (.ref C) else none) = some b
  rw [if_pos (by rw [cls_some d, t]; rfl), s]
theorem kit_val (s : PySem.W.subIn K (.ref D) (.type T) = some b) (m : PySem.W.kitMeta T = true) : PySem.W.kitOne K (.ref D) (.type T) = some b := by
  unfold PySem.W.kitOne
  rw [if_neg (show ¬ (Value.ref D == Value.type T) = true from fun z => by cases (beq_iff_eq.mp z))]
  show (if PySem.W.kitMeta T = true then PySem.W.subIn K (.ref D) (.type T) else none) = some b
  rw [if_pos m, s]
end
end Rg
namespace Rg
open PySem PySem.Spec PyProof.Rows L2
mutual
def peq : PyData → PyData → Bool
  | .none, .none => true
  | .bool a, .bool b => a == b
  | .int i, .int j => decide (i = j)
  | .str x, .str y => decide (x = y)
  | .list xs, .list ys => peqL xs ys
  | .tuple xs, .tuple ys => peqL xs ys
  | _, _ => false
def peqL : List PyData → List PyData → Bool
  | [], [] => true
  | x :: xs, y :: ys => peq x y && peqL xs ys
  | _, _ => false
end
mutual
theorem peq_eq : ∀ x y : PyData, peq x y = true → x = y
  | .none, y, h => by cases y <;> first | rfl | (simp [peq] at h; done)
  | .bool a, y, h => by cases y <;> first | (simp [peq] at h; done) | (simp [peq] at h; rw [h])
  | .int a, y, h => by cases y <;> first | (simp [peq] at h; done) | (simp [peq] at h; rw [h])
  | .str a, y, h => by cases y <;> first | (simp [peq] at h; done) | (simp [peq] at h; rw [h])
  | .list xs, y, h => by
    cases y with
    | list ys => rw [peqL_eq xs ys (by simpa [peq] using h)]
    | _ => simp [peq] at h
  | .tuple xs, y, h => by
    cases y with
    | tuple ys => rw [peqL_eq xs ys (by simpa [peq] using h)]
    | _ => simp [peq] at h
  | .dict a, y, h => by cases y <;> simp [peq] at h
theorem peqL_eq : ∀ xs ys : List PyData, peqL xs ys = true → xs = ys
  | [], ys, h => by
    cases ys with
    | nil => rfl
    | cons y ys => simp [peqL] at h
  | x :: xs, ys, h => by
    cases ys with
    | nil => simp [peqL] at h
    | cons y ys =>
      have h' : peq x y = true ∧ peqL xs ys = true := by simpa [peqL] using h
      rw [peq_eq x y h'.1, peqL_eq xs ys h'.2]
end
/-- an answer is this one -/
def isD (o : Option PyData) (d : PyData) : Bool := match o with
  | some x => peq x d
  | none => false
def isL (o : Option (List PyData)) (d : List PyData) : Bool := match o with
  | some x => peqL x d
  | none => false
theorem isD_eq {o : Option PyData} {d : PyData} (h : isD o d = true) : o = some d := by
  cases o with
  | none => cases h
  | some x => rw [peq_eq x d h]
theorem isL_eq {o : Option (List PyData)} {d : List PyData} (h : isL o d = true) : o = some d := by
  cases o with
  | none => cases h
  | some x => rw [peqL_eq x d h]
section
variable {f g h : En → Option PyData} {t u : En → Option Bool} {fs : En → Option (List PyData)} {ρ : En} {x y d : PyData} {xs ds : List PyData} {b c : Bool}
theorem o2_eq {op : PyData → PyData → Option PyData} (h1 : f ρ = some x) (h2 : g ρ = some y) (h3 : op x y = some d) : o2 op f g ρ = some d := by
  unfold o2
  rw [h1, Option.bind_some, h2, Option.bind_some, h3]
theorem o1_eq {op : PyData → Option PyData} (h1 : f ρ = some x) (h3 : op x = some d) : o1 op f ρ = some d := by
  unfold o1
  rw [h1, Option.bind_some, h3]
theorem cl_eq {op : List PyData → Option PyData} (h1 : fs ρ = some xs) (h3 : op xs = some d) : cl op fs ρ = some d := by
  unfold cl
  rw [h1, Option.bind_some, h3]
theorem clF_eq {op : List PyData → Option (List PyData)} (h1 : fs ρ = some xs) (h3 : op xs = some ds) : clF op fs ρ = some ds := by
  unfold clF
  rw [h1, Option.bind_some, h3]
theorem aC_eq (h1 : f ρ = some x) (h2 : fs ρ = some xs) : aC f fs ρ = some (x :: xs) := by
  unfold aC
  rw [h1, Option.bind_some, h2, Option.bind_some]
theorem dTup_eq (h1 : fs ρ = some xs) (h2 : xs.length ≤ 100000) : dTup fs ρ = some (.tuple xs) := by
  unfold dTup
  rw [h1, Option.bind_some, if_pos h2]
theorem dLst_eq (h1 : fs ρ = some xs) (h2 : xs.length ≤ 100000) : dLst fs ρ = some xs := by
  unfold dLst
  rw [h1, Option.bind_some, if_pos h2]
theorem asL_eq (h1 : fs ρ = some xs) : asL fs ρ = some (.list xs) := by
  unfold asL
  rw [h1, Option.map_some]
theorem tb_eq (h1 : f ρ = some (.bool b)) : tb f ρ = some b := by
  unfold tb
  rw [h1, Option.bind_some]
theorem tru_eq (h1 : f ρ = some x) (h2 : dTru x = some b) : tru f ρ = some b := by
  unfold tru
  rw [h1, Option.bind_some, h2]
theorem tNt_eq (h1 : t ρ = some b) : tNt t ρ = some (!b) := by
  unfold tNt
  rw [h1, Option.map_some]
theorem tAn_eq (h1 : t ρ = some b) (h2 : b = true → u ρ = some c) : tAn t u ρ = some (b && c) := by
  unfold tAn
  rw [h1, Option.bind_some]
  cases b with
  | true => rw [if_pos rfl, h2 rfl]; rfl
  | false => rfl
theorem tOo_eq (h1 : t ρ = some b) (h2 : b = false → u ρ = some c) : tOo t u ρ = some (b || c) := by
  unfold tOo
  rw [h1, Option.bind_some]
  cases b with
  | true => rfl
  | false => rw [if_neg Bool.false_ne_true, h2 rfl]; rfl
theorem bAnd_eq {b c : Bool} (h1 : f ρ = some (.bool b)) (h2 : b = true → g ρ = some (.bool c)) : bAnd f g ρ = some (.bool (b && c)) := by
  unfold bAnd
  rw [tb_eq h1, Option.bind_some]
  cases b with
  | true => rw [if_pos rfl, h2 rfl]; rfl
  | false => rfl
theorem bOr_eq {b c : Bool} (h1 : f ρ = some (.bool b)) (h2 : b = false → g ρ = some (.bool c)) : bOr f g ρ = some (.bool (b || c)) := by
  unfold bOr
  rw [tb_eq h1, Option.bind_some]
  cases b with
  | true => rfl
  | false => rw [if_neg Bool.false_ne_true, h2 rfl]; rfl
theorem fIf_eq (h1 : t ρ = some b) (h2 : b = true → f ρ = some d) (h3 : b = false → g ρ = some d) : fIf t f g ρ = some d := by
  unfold fIf
  rw [h1, Option.bind_some]
  cases b with
  | true => rw [if_pos rfl, h2 rfl]
  | false => rw [if_neg Bool.false_ne_true, h3 rfl]
end
section
variable {f : En → Option PyData} {t : En → Option Bool} {fs : En → Option (List PyData)} {F G : Ev → Option Fl} {ρ ρ' : Ev} {d : PyData} {ds : List PyData} {j : Nat} {c : Cl}
theorem sq_nx (h : F ρ = some (.nx ρ')) : sq F G ρ = G ρ' := by
  unfold sq
  rw [h]
theorem sq_rt (h : F ρ = some (.rt c)) : sq F G ρ = some (.rt c) := by
  unfold sq
  rw [h]
theorem ifF_t (h : t (view ρ) = some true) : ifF t F G ρ = F ρ := by
  unfold ifF
  rw [h]
  rfl
theorem ifF_f (h : t (view ρ) = some false) : ifF t F G ρ = G ρ := by
  unfold ifF
  rw [h]
  rfl
theorem asg_b (h : f (blank ρ) = some d) : asg j f ρ = some (.nx (ρ.set j (.sh d))) := by
  unfold asg ev
  rw [h]
  rfl
theorem asg_v (h0 : f (blank ρ) = none) (h : f (view ρ) = some d) (hf : flatB d = true) : asg j f ρ = some (.nx (ρ.set j (.sh d))) := by
  unfold asg ev
  rw [h0, h]
  simp only [hf, if_true]
  rfl
theorem asgF_b (h : fs (blank ρ) = some ds) : asgF j fs ρ = some (.nx (ρ.set j (.ow ds))) := by
  unfold asgF evF
  rw [h]
  rfl
theorem asgF_v (h0 : fs (blank ρ) = none) (h : fs (view ρ) = some ds) (hf : flatB.go ds = true) : asgF j fs ρ = some (.nx (ρ.set j (.ow ds))) := by
  unfold asgF evF
  rw [h0, h]
  simp only [hf, if_true]
  rfl
theorem ret_eq (h : f (view ρ) = some d) : ret f ρ = some (.rt (.sh d)) := by
  unfold ret
  rw [h]
  rfl
theorem retF_eq (h : fs (view ρ) = some ds) : retF fs ρ = some (.rt (.ow ds)) := by
  unfold retF
  rw [h]
  rfl
end
abbrev I2 (x y : Int) : PyData := .tuple [.int x, .int y]
end Rg
namespace Rk
open PySem PySem.Spec PyProof.Rows L2 Rg
def topS (i : Nat) : Stmt := PySem.Challenge.pw_ringland_k01_spots_and_cells.main.body.getD i (.Pass ⟨0, 0, 0, 0⟩)
structure Tx (K : PySem.W.Frag) (mg : Str → Option Value) : Prop where
  b_bool : mg "bool" = none
  b_int : mg "int" = none
  b_isinstance : mg "isinstance" = none
  b_len : mg "len" = none
  b_list : mg "list" = none
  b_range : mg "range" = none
  b_tuple : mg "tuple" = none
  k_MOST : ∃ t, mg "MOST" = some (.int 12 t)
/-! ### is_number -/
abbrev st_is_number : Stmt := topS 6
theorem sc_is_number : FnScope ["thing"] ["thing"] (defScope st_is_number) := ⟨rfl, rfl, rfl, by decide +kernel, rfl, by decide +kernel, by decide +kernel⟩
def F_is_number : Ev → Option Fl := (sq (ifF (tOo (tNt (tru (o1 (dIsi "int") (vr 0)))) (tru (o1 (dIsi "bool") (vr 0)))) (ret (ct (.bool false))) (fun ρ => some (.nx ρ))) (ret (fCh dLe dLe (ct (.int 0)) (vr 0) (ct (.int 12)))))
def g_is_number : List PyData → Option PyData := run 1 1 F_is_number
theorem h_is_number : ∀ ds d, g_is_number ds = some d → run 1 1 F_is_number ds = some d := fun _ _ h => h
section
variable {P : Program} {w : World} {K : PySem.W.Frag} {mg : Str → Option Value} {base : Heap}
theorem ok_is_number (T : Tx K mg) (A : At K mg "is_number" st_is_number ["thing"]) : Cal P w K mg base "is_number" 1 (SpD K g_is_number) := by
  obtain ⟨_, t_MOST⟩ := T.k_MOST
  exact A.cal (B := F_is_number) (k := 0) sc_is_number (by decide) (fun f cdv A outer s H E hr => (ss_cons (st_if (semw_t (w_or (t_not (t_truth (s_isi (by rfl) T.b_isinstance (by rfl) T.b_int (by decide +kernel) (sv 0)))) (w_or1 (t_truth (s_isi (by rfl) T.b_isinstance (by rfl) T.b_bool (by decide +kernel) (sv 0)))))) (ss_one (st_ret s_bl)) ss_nil) (ss_one (st_ret (s_chain op_le op_le d_le d_le s_int (sv 0) (s_globI (by rfl) t_MOST ⟨_, rfl⟩)))))) h_is_number
end
/-! ### is_place -/
abbrev st_is_place : Stmt := topS 7
theorem sc_is_place : FnScope ["thing", "x", "y"] ["thing"] (defScope st_is_place) := ⟨rfl, rfl, rfl, by decide +kernel, rfl, by decide +kernel, by decide +kernel⟩
def F_is_place : Ev → Option Fl := (sq (ifF (tOo (tNt (tru (o1 (dIsi "tuple") (vr 0)))) (tb (o2 dNe (cl bLen (aC (vr 0) aN)) (ct (.int 2))))) (ret (ct (.bool false))) (fun ρ => some (.nx ρ))) (sq (asgT (tg2 1 2) (vr 0)) (ret (bAnd (cl g_is_number (aC (vr 1) aN)) (cl g_is_number (aC (vr 2) aN))))))
def g_is_place : List PyData → Option PyData := run 3 1 F_is_place
theorem h_is_place : ∀ ds d, g_is_place ds = some d → run 3 1 F_is_place ds = some d := fun _ _ h => h
section
variable {P : Program} {w : World} {K : PySem.W.Frag} {mg : Str → Option Value} {base : Heap}
theorem ok_is_place (T : Tx K mg) (A : At K mg "is_place" st_is_place ["thing"]) (c_is_number : Cal P w K mg base "is_number" 1 (SpD K g_is_number)) : Cal P w K mg base "is_place" 2 (SpD K g_is_place) := by
  exact A.cal (B := F_is_place) (k := 1) sc_is_place (by decide) (fun f cdv A outer s H E hr => (ss_cons (st_if (semw_t (w_or (t_not (t_truth (s_isi (by rfl) T.b_isinstance (by rfl) T.b_tuple (by decide +kernel) (sv 0)))) (w_or1 (t_ne hr.units (s_cb call_len c_len (by rfl) T.b_len (by decide +kernel) (sa_cons (sv 0) sa_nil)) s_int)))) (ss_one (st_ret s_bl)) ss_nil) (ss_cons (st_asgT (tg_2 rfl sc_is_place.nd rfl (by first | exact Or.inl rfl | exact Or.inr rfl) rfl (by first | exact Or.inl rfl | exact Or.inr rfl)) (sv 0)) (ss_one (st_ret (s_and (s_call (c_is_number.fnx hr (by decide)) (by rfl) (sa_cons (sv 1) sa_nil)) (s_one (s_call (c_is_number.fnx hr (by decide)) (by rfl) (sa_cons (sv 2) sa_nil))))))))) h_is_place
end
/-! ### is_spot -/
abbrev st_is_spot : Stmt := topS 8
theorem sc_is_spot : FnScope ["thing", "x", "y"] ["thing"] (defScope st_is_spot) := ⟨rfl, rfl, rfl, by decide +kernel, rfl, by decide +kernel, by decide +kernel⟩
def F_is_spot : Ev → Option Fl := (sq (ifF (tNt (tru (cl g_is_place (aC (vr 0) aN)))) (ret (ct (.bool false))) (fun ρ => some (.nx ρ))) (sq (asgT (tg2 1 2) (vr 0)) (ret (bOr (bAnd (o2 dEq (o2 dMod (vr 1) (ct (.int 2))) (ct (.int 1))) (o2 dEq (o2 dMod (vr 2) (ct (.int 4))) (ct (.int 2)))) (bAnd (o2 dEq (o2 dMod (vr 1) (ct (.int 4))) (ct (.int 2))) (o2 dEq (o2 dMod (vr 2) (ct (.int 2))) (ct (.int 1))))))))
def g_is_spot : List PyData → Option PyData := run 3 1 F_is_spot
theorem h_is_spot : ∀ ds d, g_is_spot ds = some d → run 3 1 F_is_spot ds = some d := fun _ _ h => h
section
variable {P : Program} {w : World} {K : PySem.W.Frag} {mg : Str → Option Value} {base : Heap}
theorem ok_is_spot (T : Tx K mg) (A : At K mg "is_spot" st_is_spot ["thing"]) (c_is_place : Cal P w K mg base "is_place" 2 (SpD K g_is_place)) : Cal P w K mg base "is_spot" 3 (SpD K g_is_spot) := by
  exact A.cal (B := F_is_spot) (k := 2) sc_is_spot (by decide) (fun f cdv A outer s H E hr => (ss_cons (st_if (t_not (t_truth (s_call (c_is_place.fnx hr (by decide)) (by rfl) (sa_cons (sv 0) sa_nil)))) (ss_one (st_ret s_bl)) ss_nil) (ss_cons (st_asgT (tg_2 rfl sc_is_spot.nd rfl (by first | exact Or.inl rfl | exact Or.inr rfl) rfl (by first | exact Or.inl rfl | exact Or.inr rfl)) (sv 0)) (ss_one (st_ret (s_or (s_and (s_eq hr.units (s_mod (sv 1) s_int) s_int) (s_one (s_eq hr.units (s_mod (sv 2) s_int) s_int))) (s_one (s_and (s_eq hr.units (s_mod (sv 1) s_int) s_int) (s_one (s_eq hr.units (s_mod (sv 2) s_int) s_int)))))))))) h_is_spot
end
/-! ### all_spots -/
abbrev st_all_spots : Stmt := topS 9
theorem sc_all_spots : FnScope ["x", "y"] [] (defScope st_all_spots) := ⟨rfl, rfl, rfl, by decide +kernel, rfl, by decide +kernel, by decide +kernel⟩
def F_all_spots : Ev → Option Fl := (retF (fLcG2 0 1 (rngI1 (aC (o2 dAdd (ct (.int 12)) (ct (.int 1))) aN)) (rngI1 (aC (o2 dAdd (ct (.int 12)) (ct (.int 1))) aN)) (tru (cl g_is_spot (aC (dTup (aC (vr 0) (aC (vr 1) aN))) aN))) (dTup (aC (vr 0) (aC (vr 1) aN)))))
def g_all_spots : List PyData → Option (List PyData) := runF 2 0 F_all_spots
theorem h_all_spots : ∀ ds d, g_all_spots ds = some d → runF 2 0 F_all_spots ds = some d := fun _ _ h => h
section
variable {P : Program} {w : World} {K : PySem.W.Frag} {mg : Str → Option Value} {base : Heap}
theorem ok_all_spots (T : Tx K mg) (A : At K mg "all_spots" st_all_spots []) (c_is_spot : Cal P w K mg base "is_spot" 3 (SpD K g_is_spot)) : Cal P w K mg base "all_spots" 4 (SpF K g_all_spots) := by
  obtain ⟨_, t_MOST⟩ := T.k_MOST
  exact A.calF (B := F_all_spots) (k := 3) sc_all_spots (by decide) (fun f cdv A outer s H E hr => (ss_one (st_retF (sf_lcGG rfl sc_all_spots.nd (by rfl) T.b_range (sa_cons (s_add (s_globI (by rfl) t_MOST ⟨_, rfl⟩) s_int) sa_nil) (blkOk_by (own := [("x", 0), ("y", 1)]) (N := ["x", "y"]) (sc := defScope st_all_spots) (by decide +kernel)) (by decide) rfl rfl (fun _ _ _ _ _ => pg_name sc_all_spots.nd rfl (by first | exact Or.inl rfl | exact Or.inr rfl)) (fun _ _ _ _ _ => pg_name sc_all_spots.nd rfl (by first | exact Or.inl rfl | exact Or.inr rfl)) (fun _ _ _ _ _ => rfl) (fun _ _ _ _ _ => (sa_cons (s_add (s_globI (by rfl) t_MOST ⟨_, rfl⟩) s_int) sa_nil)) (fun _ _ _ _ _ => (ts_one (t_truth (s_call (c_is_spot.fnx hr (by decide)) (by rfl) (sa_cons (s_tup (sa_cons (sv 0) (sa_cons (sv 1) sa_nil))) sa_nil))))) (fun _ _ _ _ _ => (s_tup (sa_cons (sv 0) (sa_cons (sv 1) sa_nil)))))))) h_all_spots
end
/-! ### middle -/
abbrev st_middle : Stmt := topS 10
theorem sc_middle : FnScope ["number"] ["number"] (defScope st_middle) := ⟨rfl, rfl, rfl, by decide +kernel, rfl, by decide +kernel, by decide +kernel⟩
def F_middle : Ev → Option Fl := (ret (o2 dAdd (o2 dMul (o2 dDiv (vr 0) (ct (.int 4))) (ct (.int 4))) (ct (.int 2))))
def g_middle : List PyData → Option PyData := run 1 1 F_middle
theorem h_middle : ∀ ds d, g_middle ds = some d → run 1 1 F_middle ds = some d := fun _ _ h => h
section
variable {P : Program} {w : World} {K : PySem.W.Frag} {mg : Str → Option Value} {base : Heap}
theorem ok_middle (T : Tx K mg) (A : At K mg "middle" st_middle ["number"]) : Cal P w K mg base "middle" 1 (SpD K g_middle) := by
  exact A.cal (B := F_middle) (k := 0) sc_middle (by decide) (fun f cdv A outer s H E hr => (ss_one (st_ret (s_add (s_mul (s_div (sv 0) s_int) s_int) s_int)))) h_middle
end
/-! ### cell_of -/
abbrev st_cell_of : Stmt := topS 11
theorem sc_cell_of : FnScope ["spot", "x", "y", "middle_x", "middle_y", "out_x", "out_y", "right", "left"] ["spot"] (defScope st_cell_of) := ⟨rfl, rfl, rfl, by decide +kernel, rfl, by decide +kernel, by decide +kernel⟩
def F_cell_of : Ev → Option Fl := (sq (ifF (tNt (tru (cl g_is_spot (aC (vr 0) aN)))) (fun _ => none) (fun ρ => some (.nx ρ))) (sq (asgT (tg2 1 2) (vr 0)) (sq (asg 3 (cl g_middle (aC (vr 1) aN))) (sq (asg 4 (cl g_middle (aC (vr 2) aN))) (sq (asg 5 (o2 dMul (ct (.int 2)) (o2 dSub (vr 1) (vr 3)))) (sq (asg 6 (o2 dMul (ct (.int 2)) (o2 dSub (vr 2) (vr 4)))) (sq (asg 7 (dTup (aC (o2 dAdd (o2 dAdd (vr 3) (vr 5)) (vr 6)) (aC (o2 dSub (o2 dAdd (vr 4) (vr 6)) (vr 5)) aN)))) (sq (asg 8 (dTup (aC (o2 dSub (o2 dAdd (vr 3) (vr 5)) (vr 6)) (aC (o2 dAdd (o2 dAdd (vr 4) (vr 6)) (vr 5)) aN)))) (retF (dLst (aC (vr 7) (aC (vr 8) (aC (dTup (aC (vr 3) (aC (vr 4) aN))) aN)))))))))))))
def g_cell_of : List PyData → Option (List PyData) := runF 9 1 F_cell_of
theorem h_cell_of : ∀ ds d, g_cell_of ds = some d → runF 9 1 F_cell_of ds = some d := fun _ _ h => h
section
variable {P : Program} {w : World} {K : PySem.W.Frag} {mg : Str → Option Value} {base : Heap}
theorem ok_cell_of (T : Tx K mg) (A : At K mg "cell_of" st_cell_of ["spot"]) (c_is_spot : Cal P w K mg base "is_spot" 3 (SpD K g_is_spot)) (c_middle : Cal P w K mg base "middle" 1 (SpD K g_middle)) : Cal P w K mg base "cell_of" 4 (SpF K g_cell_of) := by
  exact A.calF (B := F_cell_of) (k := 3) sc_cell_of (by decide) (fun f cdv A outer s H E hr => (ss_cons (st_if (t_not (t_truth (s_call (c_is_spot.fnx hr (by decide)) (by rfl) (sa_cons (sv 0) sa_nil)))) (ss_one st_never) ss_nil) (ss_cons (st_asgT (tg_2 rfl sc_cell_of.nd rfl (by first | exact Or.inl rfl | exact Or.inr rfl) rfl (by first | exact Or.inl rfl | exact Or.inr rfl)) (sv 0)) (ss_cons (st_asg (j := 3) sc_cell_of.nd rfl (by first | exact Or.inl rfl | exact Or.inr rfl) (s_call (c_middle.fnx hr (by decide)) (by rfl) (sa_cons (sv 1) sa_nil))) (ss_cons (st_asg (j := 4) sc_cell_of.nd rfl (by first | exact Or.inl rfl | exact Or.inr rfl) (s_call (c_middle.fnx hr (by decide)) (by rfl) (sa_cons (sv 2) sa_nil))) (ss_cons (st_asg (j := 5) sc_cell_of.nd rfl (by first | exact Or.inl rfl | exact Or.inr rfl) (s_mul s_int (s_sub (sv 1) (sv 3)))) (ss_cons (st_asg (j := 6) sc_cell_of.nd rfl (by first | exact Or.inl rfl | exact Or.inr rfl) (s_mul s_int (s_sub (sv 2) (sv 4)))) (ss_cons (st_asg (j := 7) sc_cell_of.nd rfl (by first | exact Or.inl rfl | exact Or.inr rfl) (s_tup (sa_cons (s_add (s_add (sv 3) (sv 5)) (sv 6)) (sa_cons (s_sub (s_add (sv 4) (sv 6)) (sv 5)) sa_nil)))) (ss_cons (st_asg (j := 8) sc_cell_of.nd rfl (by first | exact Or.inl rfl | exact Or.inr rfl) (s_tup (sa_cons (s_sub (s_add (sv 3) (sv 5)) (sv 6)) (sa_cons (s_add (s_add (sv 4) (sv 6)) (sv 5)) sa_nil)))) (ss_one (st_retF (sf_lst (sa_cons (sv 7) (sa_cons (sv 8) (sa_cons (s_tup (sa_cons (sv 3) (sa_cons (sv 4) sa_nil))) sa_nil))))))))))))))) h_cell_of
end
/-! ### _law_whole -/
abbrev st__law_whole : Stmt := topS 13
theorem sc__law_whole : FnScope ["_law_found"] ["_law_found"] (defScope st__law_whole) := ⟨rfl, rfl, rfl, by decide +kernel, rfl, by decide +kernel, by decide +kernel⟩
def F__law_whole : Ev → Option Fl := (ret (bAnd (o1 (dIsi "int") (vr 0)) (o1 dNot (o1 (dIsi "bool") (vr 0)))))
def g__law_whole : List PyData → Option PyData := run 1 1 F__law_whole
theorem h__law_whole : ∀ ds d, g__law_whole ds = some d → run 1 1 F__law_whole ds = some d := fun _ _ h => h
section
variable {P : Program} {w : World} {K : PySem.W.Frag} {mg : Str → Option Value} {base : Heap}
theorem ok__law_whole (T : Tx K mg) (A : At K mg "_law_whole" st__law_whole ["_law_found"]) : Cal P w K mg base "_law_whole" 1 (SpD K g__law_whole) := by
  exact A.cal (B := F__law_whole) (k := 0) sc__law_whole (by decide) (fun f cdv A outer s H E hr => (ss_one (st_ret (s_and (s_isi (by rfl) T.b_isinstance (by rfl) T.b_int (by decide +kernel) (sv 0)) (s_one (s_not (s_isi (by rfl) T.b_isinstance (by rfl) T.b_bool (by decide +kernel) (sv 0)))))))) h__law_whole
end
/-! ### _law_cell_at -/
abbrev st__law_cell_at : Stmt := topS 14
theorem sc__law_cell_at : FnScope ["_law_script", "_law_k"] ["_law_script", "_law_k"] (defScope st__law_cell_at) := ⟨rfl, rfl, rfl, by decide +kernel, rfl, by decide +kernel, by decide +kernel⟩
def F__law_cell_at : Ev → Option Fl := (sq (ifF (tb (o2 dLt (vr 1) (cl bLen (aC (vr 0) aN)))) (ret (o2 dIdx (vr 0) (vr 1))) (fun ρ => some (.nx ρ))) (ret (ct (.int 0))))
def g__law_cell_at : List PyData → Option PyData := run 2 2 F__law_cell_at
theorem h__law_cell_at : ∀ ds d, g__law_cell_at ds = some d → run 2 2 F__law_cell_at ds = some d := fun _ _ h => h
section
variable {P : Program} {w : World} {K : PySem.W.Frag} {mg : Str → Option Value} {base : Heap}
theorem ok__law_cell_at (T : Tx K mg) (A : At K mg "_law_cell_at" st__law_cell_at ["_law_script", "_law_k"]) : Cal P w K mg base "_law_cell_at" 1 (SpD K g__law_cell_at) := by
  exact A.cal (B := F__law_cell_at) (k := 0) sc__law_cell_at (by decide) (fun f cdv A outer s H E hr => (ss_cons (st_if (t_lt (sv 1) (s_cb call_len c_len (by rfl) T.b_len (by decide +kernel) (sa_cons (sv 0) sa_nil))) (ss_one (st_ret (s_idx (sv 0) (sv 1) (fun _ _ => rfl)))) ss_nil) (ss_one (st_ret s_int)))) h__law_cell_at
end
/-! ### _law_is_spot -/
abbrev st__law_is_spot : Stmt := topS 15
theorem sc__law_is_spot : FnScope ["_law_x", "_law_y"] ["_law_x", "_law_y"] (defScope st__law_is_spot) := ⟨rfl, rfl, rfl, by decide +kernel, rfl, by decide +kernel, by decide +kernel⟩
def F__law_is_spot : Ev → Option Fl := (ret (bOr (bAnd (o2 dEq (o2 dMod (vr 0) (ct (.int 2))) (ct (.int 1))) (o2 dEq (o2 dMod (vr 1) (ct (.int 4))) (ct (.int 2)))) (bAnd (o2 dEq (o2 dMod (vr 1) (ct (.int 2))) (ct (.int 1))) (o2 dEq (o2 dMod (vr 0) (ct (.int 4))) (ct (.int 2))))))
def g__law_is_spot : List PyData → Option PyData := run 2 2 F__law_is_spot
theorem h__law_is_spot : ∀ ds d, g__law_is_spot ds = some d → run 2 2 F__law_is_spot ds = some d := fun _ _ h => h
section
variable {P : Program} {w : World} {K : PySem.W.Frag} {mg : Str → Option Value} {base : Heap}
theorem ok__law_is_spot (T : Tx K mg) (A : At K mg "_law_is_spot" st__law_is_spot ["_law_x", "_law_y"]) : Cal P w K mg base "_law_is_spot" 1 (SpD K g__law_is_spot) := by
  exact A.cal (B := F__law_is_spot) (k := 0) sc__law_is_spot (by decide) (fun f cdv A outer s H E hr => (ss_one (st_ret (s_or (s_and (s_eq hr.units (s_mod (sv 0) s_int) s_int) (s_one (s_eq hr.units (s_mod (sv 1) s_int) s_int))) (s_one (s_and (s_eq hr.units (s_mod (sv 1) s_int) s_int) (s_one (s_eq hr.units (s_mod (sv 0) s_int) s_int)))))))) h__law_is_spot
end
/-! ### _law_places -/
abbrev st__law_places : Stmt := topS 16
theorem sc__law_places : FnScope ["_law_found", "_law_size", "_law_place"] ["_law_found", "_law_size"] (defScope st__law_places) := ⟨rfl, rfl, rfl, by decide +kernel, rfl, by decide +kernel, by decide +kernel⟩
def F__law_places : Ev → Option Fl := (sq (ifF (tOo (tNt (tru (o1 (dIsi "list") (vr 0)))) (tb (o2 dNe (cl bLen (aC (vr 0) aN)) (vr 1)))) (ret (ct (.bool false))) (fun ρ => some (.nx ρ))) (sq (forL (tgN 2) (vr 0) (ifF (tOo (tNt (tru (o1 (dIsi "tuple") (vr 2)))) (tOo (tb (o2 dNe (cl bLen (aC (vr 2) aN)) (ct (.int 2)))) (tOo (tNt (tru (cl g__law_whole (aC (o2 dIdx (vr 2) (ct (.int 0))) aN)))) (tNt (tru (cl g__law_whole (aC (o2 dIdx (vr 2) (ct (.int 1))) aN))))))) (ret (ct (.bool false))) (fun ρ => some (.nx ρ)))) (ret (ct (.bool true)))))
def g__law_places : List PyData → Option PyData := run 3 2 F__law_places
theorem h__law_places : ∀ ds d, g__law_places ds = some d → run 3 2 F__law_places ds = some d := fun _ _ h => h
section
variable {P : Program} {w : World} {K : PySem.W.Frag} {mg : Str → Option Value} {base : Heap}
theorem ok__law_places (T : Tx K mg) (A : At K mg "_law_places" st__law_places ["_law_found", "_law_size"]) (c__law_whole : Cal P w K mg base "_law_whole" 1 (SpD K g__law_whole)) : Cal P w K mg base "_law_places" 2 (SpD K g__law_places) := by
  exact A.cal (B := F__law_places) (k := 1) sc__law_places (by decide) (fun f cdv A outer s H E hr => (ss_cons (st_if (semw_t (w_or (t_not (t_truth (s_isi (by rfl) T.b_isinstance (by rfl) T.b_list (by decide +kernel) (sv 0)))) (w_or1 (t_ne hr.units (s_cb call_len c_len (by rfl) T.b_len (by decide +kernel) (sa_cons (sv 0) sa_nil)) (sv 1))))) (ss_one (st_ret s_bl)) ss_nil) (ss_cons (st_forL PassesOwn.never rfl (sv 0) (tg_name sc__law_places.nd rfl (by first | exact Or.inl rfl | exact Or.inr rfl)) (ss_one (st_if (semw_t (w_or (t_not (t_truth (s_isi (by rfl) T.b_isinstance (by rfl) T.b_tuple (by decide +kernel) (sv 2)))) (w_or (t_ne hr.units (s_cb call_len c_len (by rfl) T.b_len (by decide +kernel) (sa_cons (sv 2) sa_nil)) s_int) (w_or (t_not (t_truth (s_call (c__law_whole.fnx hr (by decide)) (by rfl) (sa_cons (s_idx (sv 2) s_int (fun _ _ => rfl)) sa_nil)))) (w_or1 (t_not (t_truth (s_call (c__law_whole.fnx hr (by decide)) (by rfl) (sa_cons (s_idx (sv 2) s_int (fun _ _ => rfl)) sa_nil))))))))) (ss_one (st_ret s_bl)) ss_nil))) (ss_one (st_ret s_bl))))) h__law_places
end
/-! ### _law_left -/
abbrev st__law_left : Stmt := topS 17
theorem sc__law_left : FnScope ["_law_one", "_law_other_here", "_law_spot", "_law_wide"] ["_law_one", "_law_other_here", "_law_spot"] (defScope st__law_left) := ⟨rfl, rfl, rfl, by decide +kernel, rfl, by decide +kernel, by decide +kernel⟩
def F__law_left : Ev → Option Fl := (sq (asg 3 (o2 dMul (o2 dSub (o2 dIdx (vr 1) (ct (.int 0))) (o2 dIdx (vr 0) (ct (.int 0)))) (o2 dSub (o2 dIdx (vr 2) (ct (.int 1))) (o2 dIdx (vr 0) (ct (.int 1)))))) (ret (o2 dSub (vr 3) (o2 dMul (o2 dSub (o2 dIdx (vr 1) (ct (.int 1))) (o2 dIdx (vr 0) (ct (.int 1)))) (o2 dSub (o2 dIdx (vr 2) (ct (.int 0))) (o2 dIdx (vr 0) (ct (.int 0))))))))
def g__law_left : List PyData → Option PyData := run 4 3 F__law_left
theorem h__law_left : ∀ ds d, g__law_left ds = some d → run 4 3 F__law_left ds = some d := fun _ _ h => h
section
variable {P : Program} {w : World} {K : PySem.W.Frag} {mg : Str → Option Value} {base : Heap}
theorem ok__law_left (T : Tx K mg) (A : At K mg "_law_left" st__law_left ["_law_one", "_law_other_here", "_law_spot"]) : Cal P w K mg base "_law_left" 1 (SpD K g__law_left) := by
  exact A.cal (B := F__law_left) (k := 0) sc__law_left (by decide) (fun f cdv A outer s H E hr => (ss_cons (st_asg (j := 3) sc__law_left.nd rfl (by first | exact Or.inl rfl | exact Or.inr rfl) (s_mul (s_sub (s_idx (sv 1) s_int (fun _ _ => rfl)) (s_idx (sv 0) s_int (fun _ _ => rfl))) (s_sub (s_idx (sv 2) s_int (fun _ _ => rfl)) (s_idx (sv 0) s_int (fun _ _ => rfl))))) (ss_one (st_ret (s_sub (sv 3) (s_mul (s_sub (s_idx (sv 1) s_int (fun _ _ => rfl)) (s_idx (sv 0) s_int (fun _ _ => rfl))) (s_sub (s_idx (sv 2) s_int (fun _ _ => rfl)) (s_idx (sv 0) s_int (fun _ _ => rfl))))))))) h__law_left
end
/-! ### _law_refused -/
abbrev st__law_refused : Stmt := topS 18
theorem sc__law_refused : FnScope ["_law_thing", "e"] ["_law_thing"] (defScope st__law_refused) := ⟨rfl, rfl, rfl, by decide +kernel, rfl, by decide +kernel, by decide +kernel⟩
/-- not a spot -/
def bad_cell_of (ds : List PyData) : Bool := match ds with
  | [d] => match g_is_spot [d] with
    | some (.bool false) => true
    | _ => false
  | _ => false
def g__law_refused : List PyData → Option PyData := fun ds => if bad_cell_of ds then some (.bool true) else none
theorem bad_one {ds : List PyData} (h : bad_cell_of ds = true) : ∃ d, ds = [d] ∧ g_is_spot [d] = some (.bool false) := by
  unfold bad_cell_of at h
  split at h
  · split at h
    · exact ⟨_, rfl, by assumption⟩
    · cases h
  · cases h
/-- the three errors -/
structure Errs (K : PySem.W.Frag) (mg : Str → Option Value) (CS CR CB : Addr) : Prop where
  oS : ExO K mg "ShapeError" CS
  oB : ExO K mg "BadSpot" CB
  gR : mg "BadRings" = some (.ref CR)
  ec : ExcC K CB
  m1 : PySem.W.exmOne K (.ref CB) (.ref CS) = some true
  i1 : PySem.W.kitOne K (.ref CB) (.ref CB) = some true
  i2 : PySem.W.kitOne K (.ref CB) (.type "ValueError") = some true
  i3 : PySem.W.kitOne K (.ref CB) (.ref CR) = some false
section
variable {P : Program} {w : World} {K : PySem.W.Frag} {mg : Str → Option Value} {base : Heap}
theorem bad_cell (A0 : At K mg "cell_of" st_cell_of ["spot"]) {CB : Addr} (O : ExO K mg "BadSpot" CB) (c_is_spot : Cal P w K mg base "is_spot" 3 (SpD K g_is_spot)) : ∃ f fd, FnOk P w K mg base (L2.CX P w) 4 f fd ["spot"] (SpR K bad_cell_of CB) ∧ mg "cell_of" = some (.ref f) ∧ PySem.W.keepIn K (.ref f) = true ∧ Binds K fd ["spot"] [] := by
  obtain ⟨f, fd, F, m, b⟩ := A0.ex
  refine ⟨f, fd, raise_if (k := 3) F sc_cell_of (by decide) rfl rfl (by decide) O (fun cdv A outer s H E hr => (t_not (t_truth (s_call (c_is_spot.fnx hr (by decide)) (by rfl) (sa_cons (sv 0) sa_nil))))) (fun ds h => ?_), m, F.kp, b⟩
  obtain ⟨d, rfl, h2⟩ := bad_one h
  refine ⟨rfl, ?_⟩
  have hv : (aC (vr 0) aN) (view (ini 9 [d])) = some [d] := rfl
  show tNt (tru (cl g_is_spot (aC (vr 0) aN))) (view (ini 9 [d])) = some true
  unfold tNt tru cl
  rw [hv]
  simp only [Option.bind_some, h2, dTru, Option.map_some]
  rfl
theorem ok__law_refused {CS CR CB : Addr} (T : Tx K mg) (A : At K mg "_law_refused" st__law_refused ["_law_thing"]) (A0 : At K mg "cell_of" st_cell_of ["spot"]) (R : Errs K mg CS CR CB) (c_is_spot : Cal P w K mg base "is_spot" 3 (SpD K g_is_spot)) (mv : mg "ValueError" = none) : Cal P w K mg base "_law_refused" 5 (SpD K g__law_refused) := by
  obtain ⟨fc, fdc, FC, mc, kc, bc⟩ := bad_cell (P := P) (w := w) (base := base) A0 R.oB c_is_spot
  obtain ⟨f, fd, F, m, b⟩ := A.ex
  refine ⟨f, fd, ["_law_thing"], ?_, m, F.kp, b⟩
  refine F.ok sc__law_refused (fun vs H Q E h => ?_) (fun cdv A outer s H vs Q E hr h => ?_)
  · obtain ⟨ds, d, r, e, _⟩ := h
    unfold g__law_refused at e
    split at e
    · rename_i hb
      obtain ⟨d, rfl, _⟩ := bad_one hb
      rw [r.len]
      rfl
    · cases e
  · obtain ⟨ds, d, r, e, q⟩ := h
    unfold g__law_refused at e
    split at e
    · rename_i hb
      cases e
      obtain ⟨d, rfl, h2⟩ := bad_one hb
      refine ⟨_, pss_cons (ps_try_as (i := 1) rfl rfl sc__law_refused.nd rfl rfl ⟨rfl, by decide, .inl R.oS.g⟩ takes0
        (fun W pn xe tk _ => pss_one (ps_expr (pe_callS FC hr rfl mc kc bc (fun σ => passAt tk σ) (pa_cons (pv 0) pa_nil))))
        (ts := fun a cls dd D σ H => (cls = .ref CB ∧ dd = none) ∧ tRet (tAndV (tCB (rIsE K CB a) (tCons (tVar 1) (tCons (tC (.ref CB)) tNil))) (tAndV (tCB (rIsE K CB a) (tCons (tVar 1) (tCons (tC (.ty "ValueError")) tNil))) (tNotV (tCB (rIsE K CB a) (tCons (tVar 1) (tCons (tC (.ref CR)) tNil)))))) D σ H)
        (fun a oe cls dd pn hz hf => ⟨fun pins s σ H D I hh => ?_⟩)) pss_never, ?_⟩
      · obtain ⟨⟨rfl, rfl⟩, hh⟩ := hh
        exact (pss_one (ps_ret (pe_and (pe_callB (call_isE R.ec hz hf) (by rfl) T.b_isinstance (by decide +kernel) (pa_cons (pv 1) (pa_cons (pe_glob (v := .ref CB) (by rfl) R.oB.g rfl) pa_nil)))
          (pe_and (pe_callB (call_isE R.ec hz hf) (by rfl) T.b_isinstance (by decide +kernel) (pa_cons (pv 1) (pa_cons (pe_bltn (v := .ty "ValueError") (by rfl) mv (by decide +kernel) rfl) pa_nil)))
          (pe_one (pe_not (pe_callB (call_isE R.ec hz hf) (by rfl) T.b_isinstance (by decide +kernel) (pa_cons (pv 1) (pa_cons (pe_glob (v := .ref CR) (by rfl) R.gR rfl) pa_nil))))))))).run pins s σ H D I hh
      · cases r with
        | cons r1 r2 =>
          cases r2
          refine ⟨_, rfl, [d], .cons r1 .nil, hb, fun H' e' => ?_⟩
          refine ⟨true, R.m1, fun _ a ha => ?_, fun z => Bool.noConfusion z⟩
          refine ⟨⟨rfl, rfl⟩, ?_⟩
          refine ⟨_, rfl, ⟨.ref CB, _, true, rfl, fun u z => z, R.i1, ?_⟩⟩
          refine ⟨true, rfl, iteT ?_⟩
          refine ⟨_, rfl, ⟨.ty "ValueError", _, true, rfl, fun u z => z, R.i2, ?_⟩⟩
          refine ⟨true, rfl, iteT ?_⟩
          refine ⟨_, rfl, ⟨.ref CR, _, false, rfl, fun u z => z, R.i3, ?_⟩⟩
          refine ⟨false, rfl, ?_⟩
          exact q _ _ e' (.bl true)
    · cases e
end
section
variable {P : Program} {w : World} {K : PySem.W.Frag} {mg : Str → Option Value} {base : Heap}
end
/-! ### _law_is_cell -/
abbrev st__law_is_cell : Stmt := topS 19
theorem sc__law_is_cell : FnScope ["_law_found", "_law_spot", "_law_k", "_law_left_here"] ["_law_found", "_law_spot"] (defScope st__law_is_cell) := ⟨rfl, rfl, rfl, by decide +kernel, rfl, by decide +kernel, by decide +kernel⟩
def F__law_is_cell : Ev → Option Fl := (sq (ifF (tNt (tru (cl g__law_places (aC (vr 0) (aC (ct (.int 3)) aN))))) (ret (ct (.bool false))) (fun ρ => some (.nx ρ))) (sq (forG (tgN 2) (rngI1 (aC (ct (.int 3)) aN)) (sq (asg 3 (o2 dIdx (asL (dLst (aC (ct (.int 0)) (aC (ct (.int 0)) (aC (ct (.int 2)) aN))))) (vr 2))) (ifF (tOo (tb (o2 dNe (o2 dMod (o2 dIdx (o2 dIdx (vr 0) (vr 2)) (ct (.int 0))) (ct (.int 4))) (vr 3))) (tOo (tb (o2 dNe (o2 dMod (o2 dIdx (o2 dIdx (vr 0) (vr 2)) (ct (.int 1))) (ct (.int 4))) (vr 3))) (tb (o2 dLe (cl g__law_left (aC (o2 dIdx (vr 0) (o2 dSub (vr 2) (ct (.int 1)))) (aC (o2 dIdx (vr 0) (vr 2)) (aC (vr 1) aN)))) (ct (.int 0)))))) (ret (ct (.bool false))) (fun ρ => some (.nx ρ))))) (ret (o2 dEq (cl g__law_left (aC (o2 dIdx (vr 0) (ct (.int 0))) (aC (o2 dIdx (vr 0) (ct (.int 1))) (aC (o2 dIdx (vr 0) (ct (.int 2))) aN)))) (ct (.int 8))))))
def g__law_is_cell : List PyData → Option PyData := run 4 2 F__law_is_cell
theorem h__law_is_cell : ∀ ds d, g__law_is_cell ds = some d → run 4 2 F__law_is_cell ds = some d := fun _ _ h => h
section
variable {P : Program} {w : World} {K : PySem.W.Frag} {mg : Str → Option Value} {base : Heap}
theorem ok__law_is_cell (T : Tx K mg) (A : At K mg "_law_is_cell" st__law_is_cell ["_law_found", "_law_spot"]) (c__law_places : Cal P w K mg base "_law_places" 2 (SpD K g__law_places)) (c__law_left : Cal P w K mg base "_law_left" 1 (SpD K g__law_left)) : Cal P w K mg base "_law_is_cell" 3 (SpD K g__law_is_cell) := by
  exact A.cal (B := F__law_is_cell) (k := 2) sc__law_is_cell (by decide) (fun f cdv A outer s H E hr => (ss_cons (st_if (t_not (t_truth (s_call (c__law_places.fnx hr (by decide)) (by rfl) (sa_cons (sv 0) (sa_cons s_int sa_nil))))) (ss_one (st_ret s_bl)) ss_nil) (ss_cons (st_forG1 PassesOwn.never rfl (by rfl) T.b_range (sa_cons s_int sa_nil) (tg_name sc__law_is_cell.nd rfl (by first | exact Or.inl rfl | exact Or.inr rfl)) (ss_cons (st_asg (j := 3) sc__law_is_cell.nd rfl (by first | exact Or.inl rfl | exact Or.inr rfl) (s_idx (SemF.sem (sf_lst (sa_cons s_int (sa_cons s_int (sa_cons s_int sa_nil))))) (sv 2) (fun _ _ => rfl))) (ss_one (st_if (semw_t (w_or (t_ne hr.units (s_mod (s_idx (s_idx (sv 0) (sv 2) (fun _ _ => rfl)) s_int (fun _ _ => rfl)) s_int) (sv 3)) (w_or (t_ne hr.units (s_mod (s_idx (s_idx (sv 0) (sv 2) (fun _ _ => rfl)) s_int (fun _ _ => rfl)) s_int) (sv 3)) (w_or1 (t_le (s_call (c__law_left.fnx hr (by decide)) (by rfl) (sa_cons (s_idx (sv 0) (s_sub (sv 2) s_int) (fun _ _ => rfl)) (sa_cons (s_idx (sv 0) (sv 2) (fun _ _ => rfl)) (sa_cons (sv 1) sa_nil)))) s_int))))) (ss_one (st_ret s_bl)) ss_nil)))) (ss_one (st_ret (s_eq hr.units (s_call (c__law_left.fnx hr (by decide)) (by rfl) (sa_cons (s_idx (sv 0) s_int (fun _ _ => rfl)) (sa_cons (s_idx (sv 0) s_int (fun _ _ => rfl)) (sa_cons (s_idx (sv 0) s_int (fun _ _ => rfl)) sa_nil)))) s_int)))))) h__law_is_cell
end
/-! ### _law_spots -/
abbrev st__law_spots : Stmt := topS 20
theorem sc__law_spots : FnScope ["_law_found", "_law_x", "_law_y"] [] (defScope st__law_spots) := ⟨rfl, rfl, rfl, by decide +kernel, rfl, by decide +kernel, by decide +kernel⟩
def F__law_spots : Ev → Option Fl := (sq (asgF 0 (dLst aN)) (sq (forG (tgN 1) (rngI1 (aC (ct (.int 13)) aN)) (asgF 0 (fCat (vr 0) (asL (fLcG 2 (rngI1 (aC (ct (.int 13)) aN)) (tru (cl g__law_is_spot (aC (vr 1) (aC (vr 2) aN)))) (dTup (aC (vr 1) (aC (vr 2) aN)))))))) (retV 0)))
def g__law_spots : List PyData → Option (List PyData) := runF 3 0 F__law_spots
theorem h__law_spots : ∀ ds d, g__law_spots ds = some d → runF 3 0 F__law_spots ds = some d := fun _ _ h => h
section
variable {P : Program} {w : World} {K : PySem.W.Frag} {mg : Str → Option Value} {base : Heap}
theorem ok__law_spots (T : Tx K mg) (A : At K mg "_law_spots" st__law_spots []) (c__law_is_spot : Cal P w K mg base "_law_is_spot" 1 (SpD K g__law_is_spot)) : Cal P w K mg base "_law_spots" 2 (SpF K g__law_spots) := by
  exact A.calF (B := F__law_spots) (k := 1) sc__law_spots (by decide) (fun f cdv A outer s H E hr => (ss_cons (st_asgF (j := 0) sc__law_spots.nd rfl (by first | exact Or.inl rfl | exact Or.inr rfl) (sf_lst sa_nil)) (ss_cons (st_forG1 PassesOwn.never rfl (by rfl) T.b_range (sa_cons s_int sa_nil) (tg_name sc__law_spots.nd rfl (by first | exact Or.inl rfl | exact Or.inr rfl)) (ss_one (st_asgF (j := 0) sc__law_spots.nd rfl (by first | exact Or.inl rfl | exact Or.inr rfl) (sf_cat (sv 0) (SemF.sem (sf_lcG1 rfl sc__law_spots.nd (by rfl) T.b_range (sa_cons s_int sa_nil) (blkOk_by (own := [("_law_y", 2)]) (N := ["_law_found", "_law_x", "_law_y"]) (sc := defScope st__law_spots) (by decide +kernel)) rfl (fun _ _ _ _ _ => pg_name sc__law_spots.nd rfl (by first | exact Or.inl rfl | exact Or.inr rfl)) (fun _ _ _ _ _ => (ts_one (t_truth (s_call (c__law_is_spot.fnx hr (by decide)) (by rfl) (sa_cons (sv 1) (sa_cons (sv 2) sa_nil)))))) (fun _ _ _ _ _ => (s_tup (sa_cons (sv 1) (sa_cons (sv 2) sa_nil)))))))))) (ss_one (st_retV (i := 0) rfl (by first | exact Or.inl rfl | exact Or.inr (Or.inl rfl))))))) h__law_spots
end
/-! ### _law_other -/
abbrev st__law_other : Stmt := topS 21
theorem sc__law_other : FnScope ["_law_cell_number", "_law_far", "_law_some"] ["_law_cell_number"] (defScope st__law_other) := ⟨rfl, rfl, rfl, by decide +kernel, rfl, by decide +kernel, by decide +kernel⟩
def F__law_other : Ev → Option Fl := (sq (asg 1 (o2 dMod (o2 dDiv (vr 0) (ct (.int 12))) (o2 dPow (ct (.int 10)) (ct (.int 20))))) (sq (asgF 2 (dLst (aC (ct .none) (aC (ct (.int 5)) (aC (ct (.str (Str.ofString "ab"))) (aC (asL (dLst (aC (ct (.int 1)) (aC (ct (.int 2)) aN)))) (aC (dTup (aC (ct (.int 1)) aN)) (aC (dTup (aC (ct (.int 1)) (aC (ct (.int 2)) (aC (ct (.int 3)) aN)))) (aC (dTup (aC (ct (.bool true)) (aC (ct (.int 2)) aN))) (aC (dTup (aC (ct (.int 2)) (aC (ct (.bool true)) aN))) aN)))))))))) (ret (o2 dIdx (asL (fCat (vr 2) (asL (dLst (aC (dTup (aC (o1 dNeg (ct (.int 1))) (aC (ct (.int 2)) aN))) (aC (dTup (aC (ct (.int 13)) (aC (ct (.int 2)) aN))) (aC (dTup (aC (ct (.int 1)) (aC (o2 dAdd (ct (.int 14)) (vr 1)) aN))) (aC (dTup (aC (o2 dSub (o1 dNeg (ct (.int 1))) (vr 1)) (aC (ct (.int 2)) aN))) aN)))))))) (o2 dMod (vr 0) (ct (.int 12)))))))
def g__law_other : List PyData → Option PyData := run 3 1 F__law_other
theorem h__law_other : ∀ ds d, g__law_other ds = some d → run 3 1 F__law_other ds = some d := fun _ _ h => h
section
variable {P : Program} {w : World} {K : PySem.W.Frag} {mg : Str → Option Value} {base : Heap}
theorem ok__law_other (T : Tx K mg) (A : At K mg "_law_other" st__law_other ["_law_cell_number"]) : Cal P w K mg base "_law_other" 1 (SpD K g__law_other) := by
  exact A.cal (B := F__law_other) (k := 0) sc__law_other (by decide) (fun f cdv A outer s H E hr => (ss_cons (st_asg (j := 1) sc__law_other.nd rfl (by first | exact Or.inl rfl | exact Or.inr rfl) (s_mod (s_div (sv 0) s_int) (s_pow s_int s_int))) (ss_cons (st_asgF (j := 2) sc__law_other.nd rfl (by first | exact Or.inl rfl | exact Or.inr rfl) (sf_lst (sa_cons s_non (sa_cons s_int (sa_cons s_str (sa_cons (SemF.sem (sf_lst (sa_cons s_int (sa_cons s_int sa_nil)))) (sa_cons (s_tup (sa_cons s_int sa_nil)) (sa_cons (s_tup (sa_cons s_int (sa_cons s_int (sa_cons s_int sa_nil)))) (sa_cons (s_tup (sa_cons s_bl (sa_cons s_int sa_nil))) (sa_cons (s_tup (sa_cons s_int (sa_cons s_bl sa_nil))) sa_nil)))))))))) (ss_one (st_ret (s_idx (SemF.sem (sf_cat (sv 2) (SemF.sem (sf_lst (sa_cons (s_tup (sa_cons (s_neg s_int) (sa_cons s_int sa_nil))) (sa_cons (s_tup (sa_cons s_int (sa_cons s_int sa_nil))) (sa_cons (s_tup (sa_cons s_int (sa_cons (s_add s_int (sv 1)) sa_nil))) (sa_cons (s_tup (sa_cons (s_sub (s_neg s_int) (sv 1)) (sa_cons s_int sa_nil))) sa_nil)))))))) (s_mod (sv 0) s_int) (fun _ _ => rfl))))))) h__law_other
end
/-! ### law -/
abbrev st_law : Stmt := topS 22
theorem sc_law : FnScope ["_law_script", "_law_spots_here", "_law_found", "_law_place"] ["_law_script"] (defScope st_law) := ⟨rfl, rfl, rfl, by decide +kernel, rfl, by decide +kernel, by decide +kernel⟩
def F_law : Ev → Option Fl := (sq (asgF 1 (clF g__law_spots aN)) (sq (asgF 2 (clF g_all_spots aN)) (sq (ifF (tOo (tNt (tru (cl g__law_places (aC (vr 2) (aC (cl bLen (aC (vr 1) aN)) aN))))) (tOo (tb (o2 dNe (vr 2) (vr 1))) (tOo (tNt (tru (cl g__law_whole (aC (ct (.int 12)) aN)))) (tb (o2 dNe (ct (.int 12)) (ct (.int 12))))))) (ret (ct (.bool false))) (fun ρ => some (.nx ρ))) (sq (app 2 (dTup (aC (ct (.int 1)) (aC (ct (.int 2)) aN)))) (sq (ifF (tb (o2 dNe (asL (clF g_all_spots aN)) (vr 1))) (ret (ct (.bool false))) (fun ρ => some (.nx ρ))) (sq (asg 3 (dTup (aC (o2 dMod (cl g__law_cell_at (aC (vr 0) (aC (ct (.int 0)) aN))) (ct (.int 13))) (aC (o2 dMod (cl g__law_cell_at (aC (vr 0) (aC (ct (.int 1)) aN))) (ct (.int 13))) aN)))) (sq (ifF (tb (o2 dEq (o2 dMod (cl g__law_cell_at (aC (vr 0) (aC (ct (.int 2)) aN))) (ct (.int 3))) (ct (.int 1)))) (ret (cl g__law_refused (aC (cl g__law_other (aC (o2 dDiv (cl g__law_cell_at (aC (vr 0) (aC (ct (.int 2)) aN))) (ct (.int 3))) aN)) aN))) (fun ρ => some (.nx ρ))) (sq (ifF (tb (o2 dEq (o2 dMod (cl g__law_cell_at (aC (vr 0) (aC (ct (.int 2)) aN))) (ct (.int 3))) (ct (.int 2)))) (asg 3 (o2 dIdx (vr 1) (o2 dMod (cl g__law_cell_at (aC (vr 0) (aC (ct (.int 0)) aN))) (cl bLen (aC (vr 1) aN))))) (fun ρ => some (.nx ρ))) (sq (ifF (tb (o2 dNotIn (vr 3) (vr 1))) (ret (cl g__law_refused (aC (vr 3) aN))) (fun ρ => some (.nx ρ))) (sq (asgF 2 (clF g_cell_of (aC (vr 3) aN))) (sq (ifF (tNt (tru (cl g__law_is_cell (aC (vr 2) (aC (vr 3) aN))))) (ret (ct (.bool false))) (fun ρ => some (.nx ρ))) (sq (app 2 (dTup (aC (ct (.int 0)) (aC (ct (.int 0)) aN)))) (ret (cl g__law_is_cell (aC (asL (clF g_cell_of (aC (vr 3) aN))) (aC (vr 3) aN))))))))))))))))
def F_law_s0 : Ev → Option Fl := (asgF 1 (clF g__law_spots aN))
def F_law_s1 : Ev → Option Fl := (asgF 2 (clF g_all_spots aN))
def F_law_s2 : Ev → Option Fl := (ifF (tOo (tNt (tru (cl g__law_places (aC (vr 2) (aC (cl bLen (aC (vr 1) aN)) aN))))) (tOo (tb (o2 dNe (vr 2) (vr 1))) (tOo (tNt (tru (cl g__law_whole (aC (ct (.int 12)) aN)))) (tb (o2 dNe (ct (.int 12)) (ct (.int 12))))))) (ret (ct (.bool false))) (fun ρ => some (.nx ρ)))
def F_law_s3 : Ev → Option Fl := (app 2 (dTup (aC (ct (.int 1)) (aC (ct (.int 2)) aN))))
def F_law_s4 : Ev → Option Fl := (ifF (tb (o2 dNe (asL (clF g_all_spots aN)) (vr 1))) (ret (ct (.bool false))) (fun ρ => some (.nx ρ)))
def F_law_s5 : Ev → Option Fl := (asg 3 (dTup (aC (o2 dMod (cl g__law_cell_at (aC (vr 0) (aC (ct (.int 0)) aN))) (ct (.int 13))) (aC (o2 dMod (cl g__law_cell_at (aC (vr 0) (aC (ct (.int 1)) aN))) (ct (.int 13))) aN))))
def F_law_s6 : Ev → Option Fl := (ifF (tb (o2 dEq (o2 dMod (cl g__law_cell_at (aC (vr 0) (aC (ct (.int 2)) aN))) (ct (.int 3))) (ct (.int 1)))) (ret (cl g__law_refused (aC (cl g__law_other (aC (o2 dDiv (cl g__law_cell_at (aC (vr 0) (aC (ct (.int 2)) aN))) (ct (.int 3))) aN)) aN))) (fun ρ => some (.nx ρ)))
def F_law_s7 : Ev → Option Fl := (ifF (tb (o2 dEq (o2 dMod (cl g__law_cell_at (aC (vr 0) (aC (ct (.int 2)) aN))) (ct (.int 3))) (ct (.int 2)))) (asg 3 (o2 dIdx (vr 1) (o2 dMod (cl g__law_cell_at (aC (vr 0) (aC (ct (.int 0)) aN))) (cl bLen (aC (vr 1) aN))))) (fun ρ => some (.nx ρ)))
def F_law_s8 : Ev → Option Fl := (ifF (tb (o2 dNotIn (vr 3) (vr 1))) (ret (cl g__law_refused (aC (vr 3) aN))) (fun ρ => some (.nx ρ)))
def F_law_s9 : Ev → Option Fl := (asgF 2 (clF g_cell_of (aC (vr 3) aN)))
def F_law_s10 : Ev → Option Fl := (ifF (tNt (tru (cl g__law_is_cell (aC (vr 2) (aC (vr 3) aN))))) (ret (ct (.bool false))) (fun ρ => some (.nx ρ)))
def F_law_s11 : Ev → Option Fl := (app 2 (dTup (aC (ct (.int 0)) (aC (ct (.int 0)) aN))))
def F_law_s12 : Ev → Option Fl := (ret (cl g__law_is_cell (aC (asL (clF g_cell_of (aC (vr 3) aN))) (aC (vr 3) aN))))
def F_law_r12 : Ev → Option Fl := F_law_s12
def F_law_r11 : Ev → Option Fl := sq F_law_s11 F_law_r12
def F_law_r10 : Ev → Option Fl := sq F_law_s10 F_law_r11
def F_law_r9 : Ev → Option Fl := sq F_law_s9 F_law_r10
def F_law_r8 : Ev → Option Fl := sq F_law_s8 F_law_r9
def F_law_r7 : Ev → Option Fl := sq F_law_s7 F_law_r8
def F_law_r6 : Ev → Option Fl := sq F_law_s6 F_law_r7
def F_law_r5 : Ev → Option Fl := sq F_law_s5 F_law_r6
def F_law_r4 : Ev → Option Fl := sq F_law_s4 F_law_r5
def F_law_r3 : Ev → Option Fl := sq F_law_s3 F_law_r4
def F_law_r2 : Ev → Option Fl := sq F_law_s2 F_law_r3
def F_law_r1 : Ev → Option Fl := sq F_law_s1 F_law_r2
def F_law_r0 : Ev → Option Fl := sq F_law_s0 F_law_r1
theorem F_law_split : F_law = F_law_r0 := rfl
def g_law : List PyData → Option PyData := run 4 1 F_law
theorem h_law : ∀ ds d, g_law ds = some d → run 4 1 F_law ds = some d := fun _ _ h => h
section
variable {P : Program} {w : World} {K : PySem.W.Frag} {mg : Str → Option Value} {base : Heap}
theorem okF_law {f : Addr} {fd : FuncData} (T : Tx K mg) (F : Fun K "law" "law" st_law f fd) (c__law_spots : Cal P w K mg base "_law_spots" 2 (SpF K g__law_spots)) (c_all_spots : Cal P w K mg base "all_spots" 4 (SpF K g_all_spots)) (c__law_places : Cal P w K mg base "_law_places" 2 (SpD K g__law_places)) (c__law_whole : Cal P w K mg base "_law_whole" 1 (SpD K g__law_whole)) (c__law_cell_at : Cal P w K mg base "_law_cell_at" 1 (SpD K g__law_cell_at)) (c__law_refused : Cal P w K mg base "_law_refused" 5 (SpD K g__law_refused)) (c__law_other : Cal P w K mg base "_law_other" 1 (SpD K g__law_other)) (c_cell_of : Cal P w K mg base "cell_of" 4 (SpF K g_cell_of)) (c__law_is_cell : Cal P w K mg base "_law_is_cell" 3 (SpD K g__law_is_cell)) : FnOk P w K mg base CX0 6 f fd ["_law_script"] (SpD K g_law) := by
  obtain ⟨_, t_MOST⟩ := T.k_MOST
  exact SpD.imp (fn_sem (B := F_law) (k := 5) F sc_law (by decide) (fun cdv A outer s H E hr => (ss_cons (st_asgF (j := 1) sc_law.nd rfl (by first | exact Or.inl rfl | exact Or.inr rfl) (sf_call0 (c__law_spots.fnx hr (by decide)) (by rfl))) (ss_cons (st_asgF (j := 2) sc_law.nd rfl (by first | exact Or.inl rfl | exact Or.inr rfl) (sf_call0 (c_all_spots.fnx hr (by decide)) (by rfl))) (ss_cons (st_if (semw_t (w_or (t_not (t_truth (s_call (c__law_places.fnx hr (by decide)) (by rfl) (sa_cons (sv 2) (sa_cons (s_cb call_len c_len (by rfl) T.b_len (by decide +kernel) (sa_cons (sv 1) sa_nil)) sa_nil))))) (w_or (t_ne hr.units (sv 2) (sv 1)) (w_or (t_not (t_truth (s_call (c__law_whole.fnx hr (by decide)) (by rfl) (sa_cons (s_globI (by rfl) t_MOST ⟨_, rfl⟩) sa_nil)))) (w_or1 (t_ne hr.units (s_globI (by rfl) t_MOST ⟨_, rfl⟩) s_int)))))) (ss_one (st_ret s_bl)) ss_nil) (ss_cons (st_app (i := 2) rfl (by first | exact Or.inl rfl | exact Or.inr (Or.inl rfl)) (s_tup (sa_cons s_int (sa_cons s_int sa_nil)))) (ss_cons (st_if (t_ne hr.units (SemF.sem (sf_call0 (c_all_spots.fnx hr (by decide)) (by rfl))) (sv 1)) (ss_one (st_ret s_bl)) ss_nil) (ss_cons (st_asg (j := 3) sc_law.nd rfl (by first | exact Or.inl rfl | exact Or.inr rfl) (s_tup (sa_cons (s_mod (s_call (c__law_cell_at.fnx hr (by decide)) (by rfl) (sa_cons (sv 0) (sa_cons s_int sa_nil))) s_int) (sa_cons (s_mod (s_call (c__law_cell_at.fnx hr (by decide)) (by rfl) (sa_cons (sv 0) (sa_cons s_int sa_nil))) s_int) sa_nil)))) (ss_cons (st_if (t_eq hr.units (s_mod (s_call (c__law_cell_at.fnx hr (by decide)) (by rfl) (sa_cons (sv 0) (sa_cons s_int sa_nil))) s_int) s_int) (ss_one (st_ret (s_call (c__law_refused.fnx hr (by decide)) (by rfl) (sa_cons (s_call (c__law_other.fnx hr (by decide)) (by rfl) (sa_cons (s_div (s_call (c__law_cell_at.fnx hr (by decide)) (by rfl) (sa_cons (sv 0) (sa_cons s_int sa_nil))) s_int) sa_nil)) sa_nil)))) ss_nil) (ss_cons (st_if (t_eq hr.units (s_mod (s_call (c__law_cell_at.fnx hr (by decide)) (by rfl) (sa_cons (sv 0) (sa_cons s_int sa_nil))) s_int) s_int) (ss_one (st_asg (j := 3) sc_law.nd rfl (by first | exact Or.inl rfl | exact Or.inr rfl) (s_idx (sv 1) (s_mod (s_call (c__law_cell_at.fnx hr (by decide)) (by rfl) (sa_cons (sv 0) (sa_cons s_int sa_nil))) (s_cb call_len c_len (by rfl) T.b_len (by decide +kernel) (sa_cons (sv 1) sa_nil))) (fun _ _ => rfl)))) ss_nil) (ss_cons (st_if (t_notIn (hu65 hr) (sv 3) (sv 1)) (ss_one (st_ret (s_call (c__law_refused.fnx hr (by decide)) (by rfl) (sa_cons (sv 3) sa_nil)))) ss_nil) (ss_cons (st_asgF (j := 2) sc_law.nd rfl (by first | exact Or.inl rfl | exact Or.inr rfl) (sf_call (c_cell_of.fnx hr (by decide)) (by rfl) (sa_cons (sv 3) sa_nil))) (ss_cons (st_if (t_not (t_truth (s_call (c__law_is_cell.fnx hr (by decide)) (by rfl) (sa_cons (sv 2) (sa_cons (sv 3) sa_nil))))) (ss_one (st_ret s_bl)) ss_nil) (ss_cons (st_app (i := 2) rfl (by first | exact Or.inl rfl | exact Or.inr (Or.inl rfl)) (s_tup (sa_cons s_int (sa_cons s_int sa_nil)))) (ss_one (st_ret (s_call (c__law_is_cell.fnx hr (by decide)) (by rfl) (sa_cons (SemF.sem (sf_call (c_cell_of.fnx hr (by decide)) (by rfl) (sa_cons (sv 3) sa_nil))) (sa_cons (sv 3) sa_nil))))))))))))))))))) h_law
end
end Rk
namespace Rk
open PySem PySem.Spec PyProof.Rows L2 Rg
def spotsL : List PyData := (List.range 13).flatMap fun (x : Nat) => (List.range 13).filterMap fun (y : Nat) => if (x % 2 = 1 ∧ y % 4 = 2) ∨ (y % 2 = 1 ∧ x % 4 = 2) then some (I2 (x : Int) (y : Int)) else none
theorem e1 : g__law_spots [] = some spotsL := isL_eq (by decide +kernel)
theorem e2 : g_all_spots [] = some spotsL := isL_eq (by decide +kernel)
theorem cell_at (ns : List Int) (k : Nat) : g__law_cell_at [locked (ns.map .int), .int (k : Int)] = some (.int (ns.getD k 0)) := by
  have hlen : bLen [locked (ns.map .int)] = some (.int (ns.length : Int)) := by
    show some (PyData.int ((ns.map PyData.int).length : Int)) = _
    rw [List.length_map]
  have hv : (tb (o2 dLt (vr 1) (cl bLen (aC (vr 0) aN)))) [some (locked (ns.map .int)), some (.int (k : Int))] = some (decide ((k : Int) < (ns.length : Int))) := by
    show ((bLen [locked (ns.map .int)]).bind fun y => dLt (.int (k : Int)) y).bind _ = _
    rw [hlen]
    rfl
  by_cases hk : k < ns.length
  · have hd : decide ((k : Int) < (ns.length : Int)) = true := decide_eq_true (by omega)
    show out (sq (ifF _ _ _) _ [Cl.sh (locked (ns.map .int)), Cl.sh (.int (k : Int))]) = _
    have h1 : ifF (tb (o2 dLt (vr 1) (cl bLen (aC (vr 0) aN)))) (ret (o2 dIdx (vr 0) (vr 1))) (fun ρ => some (.nx ρ)) [Cl.sh (locked (ns.map .int)), Cl.sh (.int (k : Int))] = some (.rt (.sh (.int (ns.getD k 0)))) := by
      unfold ifF
      rw [show view [Cl.sh (locked (ns.map .int)), Cl.sh (.int (k : Int))] = [some (locked (ns.map .int)), some (.int (k : Int))] from rfl, hv, hd]
      show (dIdx (locked (ns.map .int)) (.int (k : Int))).map (fun d => Fl.rt (.sh d)) = _
      show (atI (ns.map PyData.int) ((k : Nat) : Int)).map (fun d => Fl.rt (.sh d)) = _
      rw [atI_nat (v := .int (ns.getD k 0)) (by rw [List.getElem?_map, List.getElem?_eq_getElem hk, List.getD_eq_getElem?_getD, List.getElem?_eq_getElem hk]; rfl)]
      rfl
    rw [sq_rt h1]
    rfl
  · have hd : decide ((k : Int) < (ns.length : Int)) = false := decide_eq_false (by omega)
    show out (sq (ifF _ _ _) _ [Cl.sh (locked (ns.map .int)), Cl.sh (.int (k : Int))]) = _
    have h1 : ifF (tb (o2 dLt (vr 1) (cl bLen (aC (vr 0) aN)))) (ret (o2 dIdx (vr 0) (vr 1))) (fun ρ => some (.nx ρ)) [Cl.sh (locked (ns.map .int)), Cl.sh (.int (k : Int))] = some (.nx [Cl.sh (locked (ns.map .int)), Cl.sh (.int (k : Int))]) := by
      unfold ifF
      rw [show view [Cl.sh (locked (ns.map .int)), Cl.sh (.int (k : Int))] = [some (locked (ns.map .int)), some (.int (k : Int))] from rfl, hv, hd]
      rfl
    rw [sq_nx h1, List.getD_eq_getElem?_getD, List.getElem?_eq_none (by omega)]
    rfl
/-- a place of the tail: all is well -/
theorem tail_all : ∀ S : PyData, ((List.range 13).all fun (x : Nat) => (List.range 13).all fun (y : Nat) => isD (out (F_law_r8 [Cl.sh S, .ow spotsL, .ow (spotsL ++ [I2 1 2]), .sh (I2 (x : Int) (y : Int))])) (.bool true)) = true := by
  intro S
  kernel_rfl
end Rk
namespace Rk
open PySem PySem.Spec PyProof.Rows L2 Rg
/-! ### what is no place -/
theorem num_far {i : Int} (h : ¬ (0 ≤ i ∧ i ≤ 12)) : g_is_number [.int i] = some (.bool false) := by
  have h1 : g_is_number [.int i] = out ((fCh dLe dLe (ct (.int 0)) (vr 0) (ct (.int 12)) [some (.int i)]).map fun d => Fl.rt (.sh d)) := by
    show out (sq (ifF _ (ret _) _) (ret (fCh dLe dLe (ct (.int 0)) (vr 0) (ct (.int 12)))) [Cl.sh (.int i)]) = _
    have e0 : ifF (tOo (tNt (tru (o1 (dIsi "int") (vr 0)))) (tru (o1 (dIsi "bool") (vr 0)))) (ret (ct (.bool false))) (fun ρ => some (.nx ρ)) [Cl.sh (.int i)] = some (.nx [Cl.sh (.int i)]) := by
      unfold ifF
      rw [show (tOo (tNt (tru (o1 (dIsi "int") (vr 0)))) (tru (o1 (dIsi "bool") (vr 0)))) (view [Cl.sh (.int i)]) = some false by kernel_rfl]
      rfl
    rw [sq_nx e0]
    rfl
  rw [h1]
  by_cases h0 : 0 ≤ i
  · have h12 : ¬ i ≤ 12 := fun z => h ⟨h0, z⟩
    simp [fCh, ct, vr, dLe, h0, h12, out]
  · simp [fCh, ct, vr, dLe, h0, out]
theorem place_far {x y : Int} (h : ¬ (0 ≤ x ∧ x ≤ 12) ∨ ((0 ≤ x ∧ x ≤ 12) ∧ g_is_number [.int x] = some (.bool true) ∧ ¬ (0 ≤ y ∧ y ≤ 12))) : g_is_place [I2 x y] = some (.bool false) := by
  have e0 : F_is_place (ini 3 [I2 x y]) = (bAnd (cl g_is_number (aC (vr 1) aN)) (cl g_is_number (aC (vr 2) aN)) [some (I2 x y), some (.int x), some (.int y)]).map fun d => Fl.rt (.sh d) := by
    have e1 : ifF (tOo (tNt (tru (o1 (dIsi "tuple") (vr 0)))) (tb (o2 dNe (cl bLen (aC (vr 0) aN)) (ct (.int 2))))) (ret (ct (.bool false))) (fun ρ => some (.nx ρ)) (ini 3 [I2 x y]) = some (.nx [Cl.sh (I2 x y), .no, .no]) := by
      unfold ifF
      rw [show (tOo (tNt (tru (o1 (dIsi "tuple") (vr 0)))) (tb (o2 dNe (cl bLen (aC (vr 0) aN)) (ct (.int 2))))) (view (ini 3 [I2 x y])) = some false by kernel_rfl]
      rfl
    unfold F_is_place
    rw [sq_nx e1]
    rfl
  show out (F_is_place (ini 3 [I2 x y])) = _
  rw [e0]
  unfold bAnd cl aC aN vr tb
  simp only [List.getElem?_cons_zero, List.getElem?_cons_succ, Option.bind_some]
  rcases h with h | ⟨_, h1, h2⟩
  · rw [num_far h]
    rfl
  · rw [h1, num_far h2]
    rfl
theorem spot_far {x y : Int} (h : g_is_place [I2 x y] = some (.bool false)) : bad_cell_of [I2 x y] = true := by
  have e : g_is_spot [I2 x y] = some (.bool false) := by
    show out (F_is_spot (ini 3 [I2 x y])) = _
    have e1 : ifF (tNt (tru (cl g_is_place (aC (vr 0) aN)))) (ret (ct (.bool false))) (fun ρ => some (.nx ρ)) (ini 3 [I2 x y]) = some (.rt (.sh (.bool false))) := by
      unfold ifF
      rw [show (tNt (tru (cl g_is_place (aC (vr 0) aN)))) (view (ini 3 [I2 x y])) = some true by
        show ((g_is_place [I2 x y]).bind dTru).map _ = _
        rw [h]
        rfl]
      rfl
    unfold F_is_spot
    rw [sq_rt e1]
    rfl
  unfold bad_cell_of
  simp only [e]
/-! ### the other things -/
def others (far : Int) : List PyData := [.none, .int 5, .str (Str.ofString "ab"), .list [.int 1, .int 2], .tuple [.int 1], .tuple [.int 1, .int 2, .int 3], .tuple [.bool true, .int 2], .tuple [.int 2, .bool true], I2 (-1) 2, I2 13 2, I2 1 (14 + far), I2 (-1 - far) 2]
theorem other_eq (n : Int) : g__law_other [.int n] = atI (others (n / 12 % 100000000000000000000)) (n % 12) := by
  have e1 : asg 1 (o2 dMod (o2 dDiv (vr 0) (ct (.int 12))) (o2 dPow (ct (.int 10)) (ct (.int 20)))) (ini 3 [.int n]) = some (.nx [Cl.sh (.int n), .sh (.int (n / 12 % 100000000000000000000)), .no]) := by kernel_rfl
  show out (F__law_other (ini 3 [.int n])) = _
  unfold F__law_other
  rw [sq_nx e1]
  generalize n / 12 % 100000000000000000000 = far
  have e2 : out (ret (o2 dIdx (asL (fCat (vr 2) (asL (dLst (aC (dTup (aC (o1 dNeg (ct (.int 1))) (aC (ct (.int 2)) aN))) (aC (dTup (aC (ct (.int 13)) (aC (ct (.int 2)) aN))) (aC (dTup (aC (ct (.int 1)) (aC (o2 dAdd (ct (.int 14)) (vr 1)) aN))) (aC (dTup (aC (o2 dSub (o1 dNeg (ct (.int 1))) (vr 1)) (aC (ct (.int 2)) aN))) aN)))))))) (o2 dMod (vr 0) (ct (.int 12)))) [Cl.sh (.int n), .sh (.int far), .ow [.none, .int 5, .str (Str.ofString "ab"), .list [.int 1, .int 2], .tuple [.int 1], .tuple [.int 1, .int 2, .int 3], .tuple [.bool true, .int 2], .tuple [.int 2, .bool true]]]) = atI (others far) (n % 12) := by
    show out ((dIdx (.list (others far)) (.int (n % 12))).map fun d => Fl.rt (.sh d)) = _
    show out ((atI (others far) (n % 12)).map fun d => Fl.rt (.sh d)) = _
    cases atI (others far) (n % 12) <;> rfl
  rw [← e2]
  rfl
theorem other_bad (n : Int) : ∃ d, g__law_other [.int n] = some d ∧ bad_cell_of [d] = true := by
  rw [other_eq]
  have hf : 0 ≤ n / 12 % 100000000000000000000 := Int.emod_nonneg _ (by decide)
  generalize n / 12 % 100000000000000000000 = far at hf
  have h0 : 0 ≤ n % 12 := Int.emod_nonneg _ (by decide)
  have h1 : n % 12 < 12 := Int.emod_lt_of_pos _ (by decide)
  generalize n % 12 = k at h0 h1
  obtain ⟨m, rfl⟩ : ∃ m : Nat, k = (m : Int) := ⟨k.toNat, by omega⟩
  have hm : m < 12 := by omega
  have far1 : bad_cell_of [I2 1 (14 + far)] = true := spot_far (place_far (.inr ⟨by decide, by kernel_rfl, by omega⟩))
  have far2 : bad_cell_of [I2 (-1 - far) 2] = true := spot_far (place_far (.inl (by omega)))
  have hg : ∀ d, (others far)[m]? = some d → atI (others far) ((m : Nat) : Int) = some d := fun d h => atI_nat h
  rcases (by omega : m = 0 ∨ m = 1 ∨ m = 2 ∨ m = 3 ∨ m = 4 ∨ m = 5 ∨ m = 6 ∨ m = 7 ∨ m = 8 ∨ m = 9 ∨ m = 10 ∨ m = 11) with rfl | rfl | rfl | rfl | rfl | rfl | rfl | rfl | rfl | rfl | rfl | rfl
  · exact ⟨_, hg _ rfl, by decide +kernel⟩
  · exact ⟨_, hg _ rfl, by decide +kernel⟩
  · exact ⟨_, hg _ rfl, by decide +kernel⟩
  · exact ⟨_, hg _ rfl, by decide +kernel⟩
  · exact ⟨_, hg _ rfl, by decide +kernel⟩
  · exact ⟨_, hg _ rfl, by decide +kernel⟩
  · exact ⟨_, hg _ rfl, by decide +kernel⟩
  · exact ⟨_, hg _ rfl, by decide +kernel⟩
  · exact ⟨_, hg _ rfl, by decide +kernel⟩
  · exact ⟨_, hg _ rfl, by decide +kernel⟩
  · exact ⟨_, hg _ rfl, far1⟩
  · exact ⟨_, hg _ rfl, far2⟩
/-! ### the law -/
theorem law_true (ns : List Int) : g_law [locked (ns.map .int)] = some (.bool true) := by
  have c0 := cell_at ns 0
  have c1 := cell_at ns 1
  have c2 := cell_at ns 2
  generalize locked (ns.map .int) = S at c0 c1 c2
  generalize ns.getD 0 0 = x0 at c0
  generalize ns.getD 1 0 = x1 at c1
  generalize ns.getD 2 0 = x2 at c2
  have c0 : g__law_cell_at [S, .int 0] = some (.int x0) := c0
  have c1 : g__law_cell_at [S, .int 1] = some (.int x1) := c1
  have c2 : g__law_cell_at [S, .int 2] = some (.int x2) := c2
  show out (F_law (ini 4 [S])) = _
  rw [F_law_split]
  have s0 : F_law_s0 (ini 4 [S]) = some (.nx [Cl.sh S, .ow spotsL, .no, .no]) := by
    show ((evF (clF g__law_spots aN) (ini 4 [S])).map fun p => Fl.nx (p.2.set 1 (.ow p.1))) = _
    have e : (clF g__law_spots aN) (blank (ini 4 [S])) = some spotsL := e1
    unfold evF
    rw [e]
    rfl
  have s1 : F_law_s1 [Cl.sh S, .ow spotsL, .no, .no] = some (.nx [Cl.sh S, .ow spotsL, .ow spotsL, .no]) := by
    show ((evF (clF g_all_spots aN) [Cl.sh S, .ow spotsL, .no, .no]).map fun p => Fl.nx (p.2.set 2 (.ow p.1))) = _
    have e : (clF g_all_spots aN) (blank [Cl.sh S, .ow spotsL, .no, .no]) = some spotsL := e2
    unfold evF
    rw [e]
    rfl
  have s2 : F_law_s2 [Cl.sh S, .ow spotsL, .ow spotsL, .no] = some (.nx [Cl.sh S, .ow spotsL, .ow spotsL, .no]) := by kernel_rfl
  have s3 : F_law_s3 [Cl.sh S, .ow spotsL, .ow spotsL, .no] = some (.nx [Cl.sh S, .ow spotsL, .ow (spotsL ++ [I2 1 2]), .no]) := by kernel_rfl
  have s4 : F_law_s4 [Cl.sh S, .ow spotsL, .ow (spotsL ++ [I2 1 2]), .no] = some (.nx [Cl.sh S, .ow spotsL, .ow (spotsL ++ [I2 1 2]), .no]) := by kernel_rfl
  have s5 : F_law_s5 [Cl.sh S, .ow spotsL, .ow (spotsL ++ [I2 1 2]), .no] = some (.nx [Cl.sh S, .ow spotsL, .ow (spotsL ++ [I2 1 2]), .sh (I2 (x0 % 13) (x1 % 13))]) := by
    exact asg_b (dTup_eq (aC_eq (o2_eq (cl_eq (xs := [S, .int 0]) rfl c0) rfl rfl) (aC_eq (o2_eq (cl_eq (xs := [S, .int 1]) rfl c1) rfl rfl) rfl)) (by show 2 ≤ 100000; decide))
  have tail : ∀ x y : Int, 0 ≤ x → x < 13 → 0 ≤ y → y < 13 → out (F_law_r8 [Cl.sh S, .ow spotsL, .ow (spotsL ++ [I2 1 2]), .sh (I2 x y)]) = some (.bool true) := fun x y h1 h2 h3 h4 => by
    have t := tail_all S
    rw [List.all_eq_true] at t
    have t1 := t x.toNat (List.mem_range.mpr (by omega))
    rw [List.all_eq_true] at t1
    have t2 := isD_eq (t1 y.toNat (List.mem_range.mpr (by omega)))
    rw [Int.toNat_of_nonneg h1, Int.toNat_of_nonneg h3] at t2
    exact t2
  have m0 : 0 ≤ x2 % 3 := Int.emod_nonneg _ (by decide)
  have m1 : x2 % 3 < 3 := Int.emod_lt_of_pos _ (by decide)
  have p0 : 0 ≤ x0 % 13 := Int.emod_nonneg _ (by decide)
  have p1 : x0 % 13 < 13 := Int.emod_lt_of_pos _ (by decide)
  have q0 : 0 ≤ x1 % 13 := Int.emod_nonneg _ (by decide)
  have q1 : x1 % 13 < 13 := Int.emod_lt_of_pos _ (by decide)
  have cond : ∀ (k : Int) (pl : Cl), (tb (o2 dEq (o2 dMod (cl g__law_cell_at (aC (vr 0) (aC (ct (.int 2)) aN))) (ct (.int 3))) (ct (.int k)))) (view [Cl.sh S, .ow spotsL, .ow (spotsL ++ [I2 1 2]), pl]) = some (x2 % 3 == k) := fun k pl => by
    exact tb_eq (o2_eq (o2_eq (cl_eq (xs := [S, .int 2]) rfl c2) rfl rfl) rfl rfl)
  show out (sq F_law_s0 (sq F_law_s1 (sq F_law_s2 (sq F_law_s3 (sq F_law_s4 (sq F_law_s5 (sq F_law_s6 (sq F_law_s7 F_law_r8))))))) (ini 4 [S])) = _
  rw [sq_nx s0, sq_nx s1, sq_nx s2, sq_nx s3, sq_nx s4, sq_nx s5]
  by_cases h1 : x2 % 3 = 1
  · have s6 : F_law_s6 [Cl.sh S, .ow spotsL, .ow (spotsL ++ [I2 1 2]), .sh (I2 (x0 % 13) (x1 % 13))] = some (.rt (.sh (.bool true))) := by
      obtain ⟨d, hd, hb⟩ := other_bad (x2 / 3)
      have hr : g__law_refused [d] = some (.bool true) := by
        unfold g__law_refused
        rw [if_pos hb]
      exact (ifF_t ((cond 1 _).trans (congrArg some (beq_iff_eq.mpr h1)))).trans (ret_eq (cl_eq (xs := [d]) (aC_eq (cl_eq (xs := [.int (x2 / 3)]) (aC_eq (o2_eq (cl_eq (xs := [S, .int 2]) rfl c2) rfl rfl) rfl) hd) rfl) hr))
    rw [sq_rt s6]
    rfl
  · have s6 : F_law_s6 [Cl.sh S, .ow spotsL, .ow (spotsL ++ [I2 1 2]), .sh (I2 (x0 % 13) (x1 % 13))] = some (.nx [Cl.sh S, .ow spotsL, .ow (spotsL ++ [I2 1 2]), .sh (I2 (x0 % 13) (x1 % 13))]) := by
      exact (ifF_f ((cond 1 _).trans (congrArg some (beq_eq_false_iff_ne.mpr h1)))).trans rfl
    rw [sq_nx s6]
    by_cases h2 : x2 % 3 = 2
    · have spot : ∀ k : Nat, k < 36 → ∃ x y : Int, (0 ≤ x ∧ x < 13 ∧ 0 ≤ y ∧ y < 13) ∧ atI spotsL (k : Int) = some (I2 x y) := fun k hk => by
        have al : ((List.range 36).all fun (k : Nat) => match spotsL[k]? with
          | some (.tuple [.int x, .int y]) => decide (0 ≤ x) && decide (x < 13) && decide (0 ≤ y) && decide (y < 13)
          | _ => false) = true := by decide +kernel
        rw [List.all_eq_true] at al
        have a := al k (List.mem_range.mpr hk)
        split at a
        · rename_i x y hs
          simp only [Bool.and_eq_true, decide_eq_true_eq] at a
          exact ⟨x, y, ⟨a.1.1.1, a.1.1.2, a.1.2, a.2⟩, atI_nat hs⟩
        · cases a
      obtain ⟨x, y, ⟨b1, b2, b3, b4⟩, hs⟩ := spot (x0 % 36).toNat (by have := Int.emod_nonneg x0 (show (36 : Int) ≠ 0 by decide); have := Int.emod_lt_of_pos x0 (show (0 : Int) < 36 by decide); omega)
      rw [Int.toNat_of_nonneg (Int.emod_nonneg x0 (by decide))] at hs
      have s7 : F_law_s7 [Cl.sh S, .ow spotsL, .ow (spotsL ++ [I2 1 2]), .sh (I2 (x0 % 13) (x1 % 13))] = some (.nx [Cl.sh S, .ow spotsL, .ow (spotsL ++ [I2 1 2]), .sh (I2 x y)]) := by
        have len : (cl bLen (aC (vr 1) aN)) (view [Cl.sh S, .ow spotsL, .ow (spotsL ++ [I2 1 2]), .sh (I2 (x0 % 13) (x1 % 13))]) = some (.int 36) := by kernel_rfl
        exact (ifF_t ((cond 2 _).trans (congrArg some (beq_iff_eq.mpr h2)))).trans (asg_v rfl (o2_eq rfl (o2_eq (cl_eq (xs := [S, .int 0]) rfl c0) len rfl) hs) rfl)
      rw [sq_nx s7]
      exact tail x y b1 b2 b3 b4
    · have s7 : F_law_s7 [Cl.sh S, .ow spotsL, .ow (spotsL ++ [I2 1 2]), .sh (I2 (x0 % 13) (x1 % 13))] = some (.nx [Cl.sh S, .ow spotsL, .ow (spotsL ++ [I2 1 2]), .sh (I2 (x0 % 13) (x1 % 13))]) := by
        exact (ifF_f ((cond 2 _).trans (congrArg some (beq_eq_false_iff_ne.mpr h2)))).trans rfl
      rw [sq_nx s7]
      exact tail _ _ p0 p1 q0 q1
end Rk
namespace Rk
open PySem PySem.Spec PyProof.Rows L2 Rg
/-! ### the end -/
def spLaw (K : PySem.W.Frag) : Sp := fun vs H Q _ => ∃ (a : Addr) (ns : List Int), vs = [.ref a] ∧ SqL K H a (ns.map V.int) ∧ ns.length ≤ 63 ∧ ∀ H', Q (.bl true) H'
theorem law_sp {K : PySem.W.Frag} : ∀ vs H Q E, spLaw K vs H Q E → SpD K g_law vs H Q E := fun vs H Q E ⟨a, ns, h1, h2, _, q⟩ => by
  subst h1
  have hall : ∀ ns : List Int, RpAll K H (ns.map V.int) (ns.map PyData.int) := fun ns => by
    induction ns with
    | nil => exact .nil
    | cons n ns ih => exact .cons (.int n) ih
  refine ⟨[locked (ns.map .int)], .bool true, .cons (.loc h2 (hall ns)) .nil, law_true ns, fun v H2 e r => ?_⟩
  cases r
  exact q H2
theorem all_mk {l : PySem.W.OpenLaw} {w : World} {K : PySem.W.Frag} {h : Heap} {mg : Str → Option Value} {fa : Addr} (X : K.In h) (G : h.Ns mainGlobals mg) (hfa : mg "law" = some (.ref fa)) {f0 : Addr} {od0 an0 : Option Addr} {sl0 : Array (Option Value)} {oc0 kV0 dc0 pm0 cd0 ct0 : Value} {f1 : Addr} {od1 an1 : Option Addr} {sl1 : Array (Option Value)} {oc1 kV1 dc1 pm1 cd1 ct1 : Value} {f2 : Addr} {od2 an2 : Option Addr} {sl2 : Array (Option Value)} {oc2 kV2 dc2 pm2 cd2 ct2 : Value} {f3 : Addr} {od3 an3 : Option Addr} {sl3 : Array (Option Value)} {oc3 kV3 dc3 pm3 cd3 ct3 : Value} {f4 : Addr} {od4 an4 : Option Addr} {sl4 : Array (Option Value)} {oc4 kV4 dc4 pm4 cd4 ct4 : Value} {f5 : Addr} {od5 an5 : Option Addr} {sl5 : Array (Option Value)} {oc5 kV5 dc5 pm5 cd5 ct5 : Value} {f6 : Addr} {od6 an6 : Option Addr} {sl6 : Array (Option Value)} {oc6 kV6 dc6 pm6 cd6 ct6 : Value} {f7 : Addr} {od7 an7 : Option Addr} {sl7 : Array (Option Value)} {oc7 kV7 dc7 pm7 cd7 ct7 : Value} {f8 : Addr} {od8 an8 : Option Addr} {sl8 : Array (Option Value)} {oc8 kV8 dc8 pm8 cd8 ct8 : Value} {f9 : Addr} {od9 an9 : Option Addr} {sl9 : Array (Option Value)} {oc9 kV9 dc9 pm9 cd9 ct9 : Value} {f10 : Addr} {od10 an10 : Option Addr} {sl10 : Array (Option Value)} {oc10 kV10 dc10 pm10 cd10 ct10 : Value} {f11 : Addr} {od11 an11 : Option Addr} {sl11 : Array (Option Value)} {oc11 kV11 dc11 pm11 cd11 ct11 : Value} {f12 : Addr} {od12 an12 : Option Addr} {sl12 : Array (Option Value)} {oc12 kV12 dc12 pm12 cd12 ct12 : Value} {f13 : Addr} {od13 an13 : Option Addr} {sl13 : Array (Option Value)} {oc13 kV13 dc13 pm13 cd13 ct13 : Value} {f14 : Addr} {od14 an14 : Option Addr} {sl14 : Array (Option Value)} {oc14 kV14 dc14 pm14 cd14 ct14 : Value} {f15 : Addr} {od15 an15 : Option Addr} {sl15 : Array (Option Value)} {oc15 kV15 dc15 pm15 cd15 ct15 : Value} {t_MOST : Tok} {CS CR CB : Addr}
    (a0 : PySem.W.nsIn K mainGlobals "is_number" = some (some (.ref f0))) (l0 : K.lookup f0 = some ⟨oc0, od0, .func (PySem.W.fnOf "is_number" "is_number" (defArgs st_is_number) (defBody st_is_number) (defScope st_is_number) .none kV0 dc0 pm0 an0 cd0 ct0), sl0⟩) (c0 : PySem.W.codeIn K cd0 "is_number" = true) (k0 : PySem.W.keepIn K (.ref f0) = true)
    (a1 : PySem.W.nsIn K mainGlobals "is_place" = some (some (.ref f1))) (l1 : K.lookup f1 = some ⟨oc1, od1, .func (PySem.W.fnOf "is_place" "is_place" (defArgs st_is_place) (defBody st_is_place) (defScope st_is_place) .none kV1 dc1 pm1 an1 cd1 ct1), sl1⟩) (c1 : PySem.W.codeIn K cd1 "is_place" = true) (k1 : PySem.W.keepIn K (.ref f1) = true)
    (a2 : PySem.W.nsIn K mainGlobals "is_spot" = some (some (.ref f2))) (l2 : K.lookup f2 = some ⟨oc2, od2, .func (PySem.W.fnOf "is_spot" "is_spot" (defArgs st_is_spot) (defBody st_is_spot) (defScope st_is_spot) .none kV2 dc2 pm2 an2 cd2 ct2), sl2⟩) (c2 : PySem.W.codeIn K cd2 "is_spot" = true) (k2 : PySem.W.keepIn K (.ref f2) = true)
    (a3 : PySem.W.nsIn K mainGlobals "all_spots" = some (some (.ref f3))) (l3 : K.lookup f3 = some ⟨oc3, od3, .func (PySem.W.fnOf "all_spots" "all_spots" (defArgs st_all_spots) (defBody st_all_spots) (defScope st_all_spots) .none kV3 dc3 pm3 an3 cd3 ct3), sl3⟩) (c3 : PySem.W.codeIn K cd3 "all_spots" = true) (k3 : PySem.W.keepIn K (.ref f3) = true)
    (a4 : PySem.W.nsIn K mainGlobals "middle" = some (some (.ref f4))) (l4 : K.lookup f4 = some ⟨oc4, od4, .func (PySem.W.fnOf "middle" "middle" (defArgs st_middle) (defBody st_middle) (defScope st_middle) .none kV4 dc4 pm4 an4 cd4 ct4), sl4⟩) (c4 : PySem.W.codeIn K cd4 "middle" = true) (k4 : PySem.W.keepIn K (.ref f4) = true)
    (a5 : PySem.W.nsIn K mainGlobals "cell_of" = some (some (.ref f5))) (l5 : K.lookup f5 = some ⟨oc5, od5, .func (PySem.W.fnOf "cell_of" "cell_of" (defArgs st_cell_of) (defBody st_cell_of) (defScope st_cell_of) .none kV5 dc5 pm5 an5 cd5 ct5), sl5⟩) (c5 : PySem.W.codeIn K cd5 "cell_of" = true) (k5 : PySem.W.keepIn K (.ref f5) = true)
    (a6 : PySem.W.nsIn K mainGlobals "_law_whole" = some (some (.ref f6))) (l6 : K.lookup f6 = some ⟨oc6, od6, .func (PySem.W.fnOf "_law_whole" "_law_whole" (defArgs st__law_whole) (defBody st__law_whole) (defScope st__law_whole) .none kV6 dc6 pm6 an6 cd6 ct6), sl6⟩) (c6 : PySem.W.codeIn K cd6 "_law_whole" = true) (k6 : PySem.W.keepIn K (.ref f6) = true)
    (a7 : PySem.W.nsIn K mainGlobals "_law_cell_at" = some (some (.ref f7))) (l7 : K.lookup f7 = some ⟨oc7, od7, .func (PySem.W.fnOf "_law_cell_at" "_law_cell_at" (defArgs st__law_cell_at) (defBody st__law_cell_at) (defScope st__law_cell_at) .none kV7 dc7 pm7 an7 cd7 ct7), sl7⟩) (c7 : PySem.W.codeIn K cd7 "_law_cell_at" = true) (k7 : PySem.W.keepIn K (.ref f7) = true)
    (a8 : PySem.W.nsIn K mainGlobals "_law_is_spot" = some (some (.ref f8))) (l8 : K.lookup f8 = some ⟨oc8, od8, .func (PySem.W.fnOf "_law_is_spot" "_law_is_spot" (defArgs st__law_is_spot) (defBody st__law_is_spot) (defScope st__law_is_spot) .none kV8 dc8 pm8 an8 cd8 ct8), sl8⟩) (c8 : PySem.W.codeIn K cd8 "_law_is_spot" = true) (k8 : PySem.W.keepIn K (.ref f8) = true)
    (a9 : PySem.W.nsIn K mainGlobals "_law_places" = some (some (.ref f9))) (l9 : K.lookup f9 = some ⟨oc9, od9, .func (PySem.W.fnOf "_law_places" "_law_places" (defArgs st__law_places) (defBody st__law_places) (defScope st__law_places) .none kV9 dc9 pm9 an9 cd9 ct9), sl9⟩) (c9 : PySem.W.codeIn K cd9 "_law_places" = true) (k9 : PySem.W.keepIn K (.ref f9) = true)
    (a10 : PySem.W.nsIn K mainGlobals "_law_left" = some (some (.ref f10))) (l10 : K.lookup f10 = some ⟨oc10, od10, .func (PySem.W.fnOf "_law_left" "_law_left" (defArgs st__law_left) (defBody st__law_left) (defScope st__law_left) .none kV10 dc10 pm10 an10 cd10 ct10), sl10⟩) (c10 : PySem.W.codeIn K cd10 "_law_left" = true) (k10 : PySem.W.keepIn K (.ref f10) = true)
    (a11 : PySem.W.nsIn K mainGlobals "_law_refused" = some (some (.ref f11))) (l11 : K.lookup f11 = some ⟨oc11, od11, .func (PySem.W.fnOf "_law_refused" "_law_refused" (defArgs st__law_refused) (defBody st__law_refused) (defScope st__law_refused) .none kV11 dc11 pm11 an11 cd11 ct11), sl11⟩) (c11 : PySem.W.codeIn K cd11 "_law_refused" = true) (k11 : PySem.W.keepIn K (.ref f11) = true)
    (a12 : PySem.W.nsIn K mainGlobals "_law_is_cell" = some (some (.ref f12))) (l12 : K.lookup f12 = some ⟨oc12, od12, .func (PySem.W.fnOf "_law_is_cell" "_law_is_cell" (defArgs st__law_is_cell) (defBody st__law_is_cell) (defScope st__law_is_cell) .none kV12 dc12 pm12 an12 cd12 ct12), sl12⟩) (c12 : PySem.W.codeIn K cd12 "_law_is_cell" = true) (k12 : PySem.W.keepIn K (.ref f12) = true)
    (a13 : PySem.W.nsIn K mainGlobals "_law_spots" = some (some (.ref f13))) (l13 : K.lookup f13 = some ⟨oc13, od13, .func (PySem.W.fnOf "_law_spots" "_law_spots" (defArgs st__law_spots) (defBody st__law_spots) (defScope st__law_spots) .none kV13 dc13 pm13 an13 cd13 ct13), sl13⟩) (c13 : PySem.W.codeIn K cd13 "_law_spots" = true) (k13 : PySem.W.keepIn K (.ref f13) = true)
    (a14 : PySem.W.nsIn K mainGlobals "_law_other" = some (some (.ref f14))) (l14 : K.lookup f14 = some ⟨oc14, od14, .func (PySem.W.fnOf "_law_other" "_law_other" (defArgs st__law_other) (defBody st__law_other) (defScope st__law_other) .none kV14 dc14 pm14 an14 cd14 ct14), sl14⟩) (c14 : PySem.W.codeIn K cd14 "_law_other" = true) (k14 : PySem.W.keepIn K (.ref f14) = true)
    (a15 : PySem.W.nsIn K mainGlobals "law" = some (some (.ref f15))) (l15 : K.lookup f15 = some ⟨oc15, od15, .func (PySem.W.fnOf "law" "law" (defArgs st_law) (defBody st_law) (defScope st_law) .none kV15 dc15 pm15 an15 cd15 ct15), sl15⟩) (c15 : PySem.W.codeIn K cd15 "law" = true) (k15 : PySem.W.keepIn K (.ref f15) = true) (z_ValueError : PySem.W.nsIn K mainGlobals "ValueError" = some none) (z_bool : PySem.W.nsIn K mainGlobals "bool" = some none) (z_int : PySem.W.nsIn K mainGlobals "int" = some none) (z_isinstance : PySem.W.nsIn K mainGlobals "isinstance" = some none) (z_len : PySem.W.nsIn K mainGlobals "len" = some none) (z_list : PySem.W.nsIn K mainGlobals "list" = some none) (z_range : PySem.W.nsIn K mainGlobals "range" = some none) (z_tuple : PySem.W.nsIn K mainGlobals "tuple" = some none) (y_MOST : PySem.W.nsIn K mainGlobals "MOST" = some (some (.int 12 t_MOST)))
    (g_CS : PySem.W.nsIn K mainGlobals "ShapeError" = some (some (.ref CS))) (x_CS : PySem.W.excIn K CS [.type "ValueError", .type "Exception", .type "BaseException", .type "object"] "ValueError.__new__" = true) (kk_CS : PySem.W.keepIn K (.ref CS) = true) (bb_CS : PySem.W.subIn K (.ref CS) (.type "BaseException") = some true) (tt_CS : PySem.W.typeIn K (.ref CS) = some (.type "type")) (dd_CS : PySem.W.hasDictIn K CS = true) (g_CB : PySem.W.nsIn K mainGlobals "BadSpot" = some (some (.ref CB))) (x_CB : PySem.W.excIn K CB [.type "ValueError", .type "Exception", .type "BaseException", .type "object"] "ValueError.__new__" = true) (kk_CB : PySem.W.keepIn K (.ref CB) = true) (bb_CB : PySem.W.subIn K (.ref CB) (.type "BaseException") = some true) (tt_CB : PySem.W.typeIn K (.ref CB) = some (.type "type")) (dd_CB : PySem.W.hasDictIn K CB = true) (g_CR : PySem.W.nsIn K mainGlobals "BadRings" = some (some (.ref CR))) (x_CR : PySem.W.excIn K CR [.type "ValueError", .type "Exception", .type "BaseException", .type "object"] "ValueError.__new__" = true) (kk_CR : PySem.W.keepIn K (.ref CR) = true) (bb_CR : PySem.W.subIn K (.ref CR) (.type "BaseException") = some true) (tt_CR : PySem.W.typeIn K (.ref CR) = some (.type "type")) (dd_CR : PySem.W.hasDictIn K CR = true) (e1 : PySem.W.findIn K (.ref CB) "__getattribute__" = some (some (.builtin "BaseException.__getattribute__"))) (e2 : PySem.W.findIn K (.ref CB) "__getattr__" = some none) (e3 : PySem.W.findIn K (.ref CB) "__class__" = some (some (.builtin "object.__class__"))) (e4 : PySem.W.specialIn K (.builtin "object.__class__") "__get__" = some (some (.builtin "getset_descriptor.__get__"))) (e5 : PySem.W.takesIn K (.builtin "object.__class__") = some true) (e6 : PySem.W.mroIn K CB (.type "object") = some true) (sBS : PySem.W.subIn K (.ref CB) (.ref CS) = some true) (sBR : PySem.W.subIn K (.ref CB) (.ref CR) = some false) (sBV : PySem.W.subIn K (.ref CB) (.type "ValueError") = some true) (nBR : (Value.ref CB == Value.ref CR) = false) :
    ∃ fd : FuncData, (∀ (s : Shared) (v : Value), BindsTo s fd ⟨[v], []⟩ [("_law_script", v)]) ∧ ∀ base : Heap, K.In base → base.Ns mainGlobals mg → FnOk l.prog w K mg base CX0 6 fa fd ["_law_script"] (spLaw K) := by
  have e := hfa.symm.trans (PySem.W.mg_of X G a15)
  cases e
  have T : Tx K mg := ⟨PySem.W.mg_none_of X G z_bool, PySem.W.mg_none_of X G z_int, PySem.W.mg_none_of X G z_isinstance, PySem.W.mg_none_of X G z_len, PySem.W.mg_none_of X G z_list, PySem.W.mg_none_of X G z_range, PySem.W.mg_none_of X G z_tuple, ⟨_, PySem.W.mg_of X G y_MOST⟩⟩
  have F0 := fun_mk (st := st_is_number) l0 c0 k0
  have A_is_number : At K mg "is_number" st_is_number ["thing"] := ⟨_, _, F0, PySem.W.mg_of X G a0, F0.binds fun _ _ _ _ _ _ us hl => match us, hl with | [_], _ => rfl⟩
  have F1 := fun_mk (st := st_is_place) l1 c1 k1
  have A_is_place : At K mg "is_place" st_is_place ["thing"] := ⟨_, _, F1, PySem.W.mg_of X G a1, F1.binds fun _ _ _ _ _ _ us hl => match us, hl with | [_], _ => rfl⟩
  have F2 := fun_mk (st := st_is_spot) l2 c2 k2
  have A_is_spot : At K mg "is_spot" st_is_spot ["thing"] := ⟨_, _, F2, PySem.W.mg_of X G a2, F2.binds fun _ _ _ _ _ _ us hl => match us, hl with | [_], _ => rfl⟩
  have F3 := fun_mk (st := st_all_spots) l3 c3 k3
  have A_all_spots : At K mg "all_spots" st_all_spots [] := ⟨_, _, F3, PySem.W.mg_of X G a3, F3.binds fun _ _ _ _ _ _ us hl => match us, hl with | [], _ => rfl⟩
  have F4 := fun_mk (st := st_middle) l4 c4 k4
  have A_middle : At K mg "middle" st_middle ["number"] := ⟨_, _, F4, PySem.W.mg_of X G a4, F4.binds fun _ _ _ _ _ _ us hl => match us, hl with | [_], _ => rfl⟩
  have F5 := fun_mk (st := st_cell_of) l5 c5 k5
  have A_cell_of : At K mg "cell_of" st_cell_of ["spot"] := ⟨_, _, F5, PySem.W.mg_of X G a5, F5.binds fun _ _ _ _ _ _ us hl => match us, hl with | [_], _ => rfl⟩
  have F6 := fun_mk (st := st__law_whole) l6 c6 k6
  have A__law_whole : At K mg "_law_whole" st__law_whole ["_law_found"] := ⟨_, _, F6, PySem.W.mg_of X G a6, F6.binds fun _ _ _ _ _ _ us hl => match us, hl with | [_], _ => rfl⟩
  have F7 := fun_mk (st := st__law_cell_at) l7 c7 k7
  have A__law_cell_at : At K mg "_law_cell_at" st__law_cell_at ["_law_script", "_law_k"] := ⟨_, _, F7, PySem.W.mg_of X G a7, F7.binds fun _ _ _ _ _ _ us hl => match us, hl with | [_, _], _ => rfl⟩
  have F8 := fun_mk (st := st__law_is_spot) l8 c8 k8
  have A__law_is_spot : At K mg "_law_is_spot" st__law_is_spot ["_law_x", "_law_y"] := ⟨_, _, F8, PySem.W.mg_of X G a8, F8.binds fun _ _ _ _ _ _ us hl => match us, hl with | [_, _], _ => rfl⟩
  have F9 := fun_mk (st := st__law_places) l9 c9 k9
  have A__law_places : At K mg "_law_places" st__law_places ["_law_found", "_law_size"] := ⟨_, _, F9, PySem.W.mg_of X G a9, F9.binds fun _ _ _ _ _ _ us hl => match us, hl with | [_, _], _ => rfl⟩
  have F10 := fun_mk (st := st__law_left) l10 c10 k10
  have A__law_left : At K mg "_law_left" st__law_left ["_law_one", "_law_other_here", "_law_spot"] := ⟨_, _, F10, PySem.W.mg_of X G a10, F10.binds fun _ _ _ _ _ _ us hl => match us, hl with | [_, _, _], _ => rfl⟩
  have F11 := fun_mk (st := st__law_refused) l11 c11 k11
  have A__law_refused : At K mg "_law_refused" st__law_refused ["_law_thing"] := ⟨_, _, F11, PySem.W.mg_of X G a11, F11.binds fun _ _ _ _ _ _ us hl => match us, hl with | [_], _ => rfl⟩
  have F12 := fun_mk (st := st__law_is_cell) l12 c12 k12
  have A__law_is_cell : At K mg "_law_is_cell" st__law_is_cell ["_law_found", "_law_spot"] := ⟨_, _, F12, PySem.W.mg_of X G a12, F12.binds fun _ _ _ _ _ _ us hl => match us, hl with | [_, _], _ => rfl⟩
  have F13 := fun_mk (st := st__law_spots) l13 c13 k13
  have A__law_spots : At K mg "_law_spots" st__law_spots [] := ⟨_, _, F13, PySem.W.mg_of X G a13, F13.binds fun _ _ _ _ _ _ us hl => match us, hl with | [], _ => rfl⟩
  have F14 := fun_mk (st := st__law_other) l14 c14 k14
  have A__law_other : At K mg "_law_other" st__law_other ["_law_cell_number"] := ⟨_, _, F14, PySem.W.mg_of X G a14, F14.binds fun _ _ _ _ _ _ us hl => match us, hl with | [_], _ => rfl⟩
  have F15 := fun_mk (st := st_law) l15 c15 k15
  have R : Errs K mg CS CR CB := ⟨⟨PySem.W.mg_of X G g_CS, x_CS, kk_CS, bb_CS, tt_CS, dd_CS⟩, ⟨PySem.W.mg_of X G g_CB, x_CB, kk_CB, bb_CB, tt_CB, dd_CB⟩, PySem.W.mg_of X G g_CR, ⟨e1, e2, bb_CB, dd_CB, e3, e4, e5, e6⟩, PySem.W.exm_ref bb_CS dd_CS tt_CS sBS, kit_self, kit_val sBV (by decide +kernel), kit_ref nBR dd_CR tt_CR sBR⟩
  refine ⟨PySem.W.fnOf "law" "law" (defArgs st_law) (defBody st_law) (defScope st_law) .none kV15 dc15 pm15 an15 cd15 ct15, fun s v => .of_eq rfl, fun base _ _ => ?_⟩
  have c_is_number := ok_is_number (P := l.prog) (w := w) (base := base) T A_is_number
  have c_is_place := ok_is_place (P := l.prog) (w := w) (base := base) T A_is_place c_is_number
  have c_is_spot := ok_is_spot (P := l.prog) (w := w) (base := base) T A_is_spot c_is_place
  have c_all_spots := ok_all_spots (P := l.prog) (w := w) (base := base) T A_all_spots c_is_spot
  have c_middle := ok_middle (P := l.prog) (w := w) (base := base) T A_middle
  have c_cell_of := ok_cell_of (P := l.prog) (w := w) (base := base) T A_cell_of c_is_spot c_middle
  have c__law_whole := ok__law_whole (P := l.prog) (w := w) (base := base) T A__law_whole
  have c__law_cell_at := ok__law_cell_at (P := l.prog) (w := w) (base := base) T A__law_cell_at
  have c__law_is_spot := ok__law_is_spot (P := l.prog) (w := w) (base := base) T A__law_is_spot
  have c__law_places := ok__law_places (P := l.prog) (w := w) (base := base) T A__law_places c__law_whole
  have c__law_left := ok__law_left (P := l.prog) (w := w) (base := base) T A__law_left
  have c__law_refused := ok__law_refused (P := l.prog) (w := w) (base := base) T A__law_refused A_cell_of R c_is_spot (PySem.W.mg_none_of X G z_ValueError)
  have c__law_is_cell := ok__law_is_cell (P := l.prog) (w := w) (base := base) T A__law_is_cell c__law_places c__law_left
  have c__law_spots := ok__law_spots (P := l.prog) (w := w) (base := base) T A__law_spots c__law_is_spot
  have c__law_other := ok__law_other (P := l.prog) (w := w) (base := base) T A__law_other
  exact (okF_law T F15 c__law_spots c_all_spots c__law_places c__law_whole c__law_cell_at c__law_refused c__law_other c_cell_of c__law_is_cell).imp law_sp
end Rk
open PySem PySem.W PyProof.Rows
set_option maxHeartbeats 0 in
theorem PySem.Challenge.cw_ringland_k01_spots_and_cells_holds : PySem.Challenge.rw_ringland_k01_spots_and_cells.Holds := by
  w_on; o_law; k_head; (case hw => w_witness2)
  k_fill
  refine L2.walk_of (l := PySem.Challenge.rw_ringland_k01_spots_and_cells) (n := 63) (k := 6) (x := "_law_script") (CX := fun _ => L2.CX0) (sp := fun w => Rk.spLaw _) rfl (by decide) rfl ⟨rfl, by decide, by decide⟩ (fun w h Y => PySem.W.kIn_of Y) ?F (fun _ _ a ns hl _ hS => ⟨a, ns, rfl, hS, hl, fun _ => rfl⟩) (fun _ _ _ _ _ h => h)
  case F =>
    intro w mg fa h KX G hmg
    refine' Rk.all_mk KX G hmg ?a0 ?l0 ?c0 ?k0 ?a1 ?l1 ?c1 ?k1 ?a2 ?l2 ?c2 ?k2 ?a3 ?l3 ?c3 ?k3 ?a4 ?l4 ?c4 ?k4 ?a5 ?l5 ?c5 ?k5 ?a6 ?l6 ?c6 ?k6 ?a7 ?l7 ?c7 ?k7 ?a8 ?l8 ?c8 ?k8 ?a9 ?l9 ?c9 ?k9 ?a10 ?l10 ?c10 ?k10 ?a11 ?l11 ?c11 ?k11 ?a12 ?l12 ?c12 ?k12 ?a13 ?l13 ?c13 ?k13 ?a14 ?l14 ?c14 ?k14 ?a15 ?l15 ?c15 ?k15 ?z_ValueError ?z_bool ?z_int ?z_isinstance ?z_len ?z_list ?z_range ?z_tuple ?y_MOST ?g_CS ?x_CS ?kk_CS ?bb_CS ?tt_CS ?dd_CS ?g_CB ?x_CB ?kk_CB ?bb_CB ?tt_CB ?dd_CB ?g_CR ?x_CR ?kk_CR ?bb_CR ?tt_CR ?dd_CR ?e1 ?e2 ?e3 ?e4 ?e5 ?e6 ?sBS ?sBR ?sBV ?nBR
    (case a0 => k_is); (case l0 => k_is); (case c0 => k_is); (case k0 => k_is); (case a1 => k_is); (case l1 => k_is); (case c1 => k_is); (case k1 => k_is); (case a2 => k_is); (case l2 => k_is); (case c2 => k_is); (case k2 => k_is); (case a3 => k_is); (case l3 => k_is); (case c3 => k_is); (case k3 => k_is); (case a4 => k_is); (case l4 => k_is); (case c4 => k_is); (case k4 => k_is); (case a5 => k_is); (case l5 => k_is); (case c5 => k_is); (case k5 => k_is); (case a6 => k_is); (case l6 => k_is); (case c6 => k_is); (case k6 => k_is); (case a7 => k_is); (case l7 => k_is); (case c7 => k_is); (case k7 => k_is); (case a8 => k_is); (case l8 => k_is); (case c8 => k_is); (case k8 => k_is); (case a9 => k_is); (case l9 => k_is); (case c9 => k_is); (case k9 => k_is); (case a10 => k_is); (case l10 => k_is); (case c10 => k_is); (case k10 => k_is); (case a11 => k_is); (case l11 => k_is); (case c11 => k_is); (case k11 => k_is); (case a12 => k_is); (case l12 => k_is); (case c12 => k_is); (case k12 => k_is); (case a13 => k_is); (case l13 => k_is); (case c13 => k_is); (case k13 => k_is); (case a14 => k_is); (case l14 => k_is); (case c14 => k_is); (case k14 => k_is); (case a15 => k_is); (case l15 => k_is); (case c15 => k_is); (case k15 => k_is); (case z_ValueError => k_is); (case z_bool => k_is); (case z_int => k_is); (case z_isinstance => k_is); (case z_len => k_is); (case z_list => k_is); (case z_range => k_is); (case z_tuple => k_is); (case y_MOST => k_is); (case g_CS => k_is); (case x_CS => k_exc); (case kk_CS => k_is); (case bb_CS => k_is); (case tt_CS => k_is); (case dd_CS => k_is); (case g_CB => k_is); (case x_CB => k_exc); (case kk_CB => k_is); (case bb_CB => k_is); (case tt_CB => k_is); (case dd_CB => k_is); (case g_CR => k_is); (case x_CR => k_exc); (case kk_CR => k_is); (case bb_CR => k_is); (case tt_CR => k_is); (case dd_CR => k_is); (case e1 => k_is); (case e2 => k_is); (case e3 => k_is); (case e4 => k_is); (case e5 => k_is); (case e6 => k_is); (case sBS => k_is); (case sBR => k_is); (case sBV => k_is); (case nBR => rfl)
