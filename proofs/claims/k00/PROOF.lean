import PyProof.Rows.All
import Wide.All
import OpenK.AllK
import Wide.FinOn
import HandS.ForMost
import HandS.ForExc
import HandS.CallSlots
import HandS.TryMany
import HandS.ExcField
import HandS.ExcInit
import HandS.IsInst
import HandS.Text
import PyProof.ReprRoads
import KE.DataMinMax
import KE.SortData
import HandS.TupAny
import HandS.TupLe
import HandS.TupMul
import HandS.Deep
import HandS.Conv
import HandS.Codes
import HandS.Remove
import PyProof.P3In
import KE.DataAny
import HandS.More
import HandS.Small
import HandS.Comp
import HandS.Iter
import HandS.Zip
import HandS.Style
import PyProof.Seq
import HandS.Flow
import KE.GoesEnum
import HandS.DictComp
import KE.DataFind
import HandS.Sort
import HandS.ExcSuper
import HandS.ExcIs
import KE.KExcInit
import KE.KExcIs
import HandS.ExcOwn
import HandS.MakeKwOnly
import HandS.SortKw
import HandS.HeadWalk
import HandS.WordsExc
import HandS.Words
import HandS.Ends
import PyProof.Rows.ReprOcc
import PySem.Challenge.RW_lateno_k00_whole_errors_and_what_they_ke
set_option Elab.async false
set_option linter.all false
set_option maxRecDepth 100000
/-! Values by value (tuples) and by place (lists, dicts, instances), and how they stand in the layer's heap. -/
namespace Ev
open PySem PySem.Spec PyProof.Rows L2

/-- a value: a tuple is its items, so is a list that nobody may change (rol); all else that stands in the heap is a place -/
inductive AV where
  | non | bl (b : Bool) | int (i : Int) | str (x : Str) | tup (xs : List AV) | rol (xs : List AV) | loc (n : Nat)
  deriving Repr, Inhabited
/-- what stands at a place -/
inductive AO where
  | lst (xs : List AV) | dk (kvs : List (Key × AV)) | dt (kvs : List (List Key × AV)) | ins (c : Nat) (fs : List (Str × AV))
  deriving Inhabited
abbrev AH := List AO

mutual
def AV.beq : AV → AV → Bool
  | .non, .non => true
  | .bl a, .bl b => a == b
  | .int a, .int b => decide (a = b)
  | .str a, .str b => decide (a = b)
  | .tup a, .tup b => AV.beqs a b
  | .rol a, .rol b => AV.beqs a b
  | .loc a, .loc b => decide (a = b)
  | _, _ => false
def AV.beqs : List AV → List AV → Bool
  | [], [] => true
  | a :: r, b :: s => AV.beq a b && AV.beqs r s
  | _, _ => false
end
mutual
theorem AV.beq_eq : ∀ a b : AV, AV.beq a b = true → a = b
  | .non, b, h => by cases b <;> simp_all [AV.beq]
  | .bl a, b, h => by cases b <;> simp_all [AV.beq]
  | .int a, b, h => by cases b <;> simp_all [AV.beq]
  | .str a, b, h => by cases b <;> simp_all [AV.beq]
  | .loc a, b, h => by cases b <;> simp_all [AV.beq]
  | .tup a, b, h => by
    cases b with
    | tup b => rw [AV.beqs_eq a b (by simpa [AV.beq] using h)]
    | _ => simp [AV.beq] at h
  | .rol a, b, h => by
    cases b with
    | rol b => rw [AV.beqs_eq a b (by simpa [AV.beq] using h)]
    | _ => simp [AV.beq] at h
theorem AV.beqs_eq : ∀ a b : List AV, AV.beqs a b = true → a = b
  | [], b, h => by cases b <;> simp_all [AV.beqs]
  | x :: r, b, h => by
    cases b with
    | nil => simp [AV.beqs] at h
    | cons y s =>
      simp only [AV.beqs, Bool.and_eq_true] at h
      rw [AV.beq_eq x y h.1, AV.beqs_eq r s h.2]
end
mutual
theorem AV.beq_refl : ∀ a : AV, AV.beq a a = true
  | .non => rfl
  | .bl a => by simp [AV.beq]
  | .int a => by simp [AV.beq]
  | .str a => by simp [AV.beq]
  | .loc a => by simp [AV.beq]
  | .tup a => by simp [AV.beq, AV.beqs_refl a]
  | .rol a => by simp [AV.beq, AV.beqs_refl a]
theorem AV.beqs_refl : ∀ a : List AV, AV.beqs a a = true
  | [] => rfl
  | x :: r => by simp [AV.beqs, AV.beq_refl x, AV.beqs_refl r]
end
instance : DecidableEq AV := fun a b => if h : AV.beq a b = true then isTrue (AV.beq_eq a b h) else isFalse fun e => h (e ▸ AV.beq_refl a)

/-- tuples and what is locked stay -/
structure Ext (H H' : Hp) : Prop where
  tup : ∀ a xs, H a = some (.tup xs) → H' a = some (.tup xs)
  frz : ∀ a o u, H a = some (.frz o u) → H' a = some (.frz o u)
  xd : ∀ a fs, H a = some (.xd fs) → H' a = some (.xd fs)
theorem Ext.refl (H : Hp) : Ext H H := ⟨fun _ _ h => h, fun _ _ _ h => h, fun _ _ h => h⟩
theorem Ext.trans {H H1 H2 : Hp} (a : Ext H H1) (b : Ext H1 H2) : Ext H H2 := ⟨fun c x h => b.tup c x (a.tup c x h), fun c o u h => b.frz c o u (a.frz c o u h), fun c x h => b.xd c x (a.xd c x h)⟩
theorem Ext.sqT {K : PySem.W.Frag} {H H' : Hp} (e : Ext H H') {a : Addr} {xs : List V} (h : SqT K H a xs) : SqT K H' a xs := by
  rcases h with (h | ⟨o, h⟩) | h
  · exact .inl (.inl (e.tup _ _ h))
  · exact .inl (.inr ⟨o, e.frz _ _ _ h⟩)
  · exact .inr h
theorem Ext.laid {H : Hp} {p : Addr} {o : HO} (h : H p = none) : Ext H (upd H p o) :=
  ⟨fun a xs e => by rw [upd_ne (ne_of_none e h)]; exact e, fun a ob u e => by rw [upd_ne (ne_of_none e h)]; exact e, fun a xs e => by rw [upd_ne (ne_of_none e h)]; exact e⟩
theorem Ext.put {H : Hp} {p : Addr} {o old : HO} (h : H p = some old) (m : Mut (some old)) : Ext H (upd H p o) := by
  refine ⟨fun a xs e => ?_, fun a ob u e => ?_, fun a xs e => ?_⟩
  · have ne : a ≠ p := fun z => by subst z; rw [h] at e; cases e; exact m
    rw [upd_ne ne]; exact e
  · have ne : a ≠ p := fun z => by subst z; rw [h] at e; cases e; exact m
    rw [upd_ne ne]; exact e
  · have ne : a ≠ p := fun z => by subst z; rw [h] at e; cases e; exact m
    rw [upd_ne ne]; exact e

/-- a locked list, or one of the module's -/
def FzL (K : PySem.W.Frag) (H : Hp) (a : Addr) (xs : List V) : Prop := (∃ o, H a = some (.frz o (.lst xs))) ∨ SqL K (fun _ => none) a xs
theorem FzL.sq {K : PySem.W.Frag} {H : Hp} {a : Addr} {xs : List V} (h : FzL K H a xs) : SqL K H a xs := by
  rcases h with h | (h | ⟨o, h⟩) | h
  · exact .inl (.inr h)
  · cases h
  · cases h
  · exact .inr h
theorem FzL.ext {K : PySem.W.Frag} {H H' : Hp} (e : Ext H H') {a : Addr} {xs : List V} (h : FzL K H a xs) : FzL K H' a xs := by
  rcases h with ⟨o, h⟩ | h
  · exact .inl ⟨o, e.frz _ _ _ h⟩
  · exact .inr h

/-! ### a value of ours and a value of the layer -/
mutual
inductive RV (K : PySem.W.Frag) (ρ : List Addr) (H : Hp) : AV → V → Prop
  | non : RV K ρ H .non .non
  | bl (b : Bool) : RV K ρ H (.bl b) (.bl b)
  | int (i : Int) : RV K ρ H (.int i) (.int i)
  | str (x : Str) : RV K ρ H (.str x) (.str x)
  | tup {a : Addr} {xs : List AV} {ys : List V} : H a = some (.tup ys) → RVs K ρ H xs ys → RV K ρ H (.tup xs) (.ref a)
  | rol {a : Addr} {xs : List AV} {ys : List V} : FzL K H a ys → RVs K ρ H xs ys → RV K ρ H (.rol xs) (.ref a)
  | loc {n : Nat} {a : Addr} : ρ[n]? = some a → RV K ρ H (.loc n) (.ref a)
inductive RVs (K : PySem.W.Frag) (ρ : List Addr) (H : Hp) : List AV → List V → Prop
  | nil : RVs K ρ H [] []
  | cons {x : AV} {y : V} {xs : List AV} {ys : List V} : RV K ρ H x y → RVs K ρ H xs ys → RVs K ρ H (x :: xs) (y :: ys)
end

theorem get_app {ρ : List Addr} {n : Nat} {a : Addr} (h : ρ[n]? = some a) (ρ' : List Addr) : (ρ ++ ρ')[n]? = some a := by
  have hl := (List.getElem?_eq_some_iff.mp h).1
  rw [List.getElem?_append_left hl]; exact h
mutual
theorem RV.mono {K : PySem.W.Frag} {ρ : List Addr} {H H' : Hp} (ρ' : List Addr) (e : Ext H H') : ∀ {x : AV} {v : V}, RV K ρ H x v → RV K (ρ ++ ρ') H' x v
  | _, _, .non => .non
  | _, _, .bl b => .bl b
  | _, _, .int i => .int i
  | _, _, .str x => .str x
  | _, _, .tup h r => .tup (e.tup _ _ h) (RVs.mono ρ' e r)
  | _, _, .rol h r => .rol (h.ext e) (RVs.mono ρ' e r)
  | _, _, .loc h => .loc (get_app h ρ')
theorem RVs.mono {K : PySem.W.Frag} {ρ : List Addr} {H H' : Hp} (ρ' : List Addr) (e : Ext H H') : ∀ {x : List AV} {v : List V}, RVs K ρ H x v → RVs K (ρ ++ ρ') H' x v
  | _, _, .nil => .nil
  | _, _, .cons h r => .cons (RV.mono ρ' e h) (RVs.mono ρ' e r)
end
section
variable {K : PySem.W.Frag} {ρ : List Addr} {H H' : Hp}
theorem RV.ext (e : Ext H H') {x : AV} {v : V} (r : RV K ρ H x v) : RV K ρ H' x v := by
  have := RV.mono [] e r
  rwa [List.append_nil] at this
theorem RVs.ext (e : Ext H H') {x : List AV} {v : List V} (r : RVs K ρ H x v) : RVs K ρ H' x v := by
  have := RVs.mono [] e r
  rwa [List.append_nil] at this
theorem RVs.length : ∀ {xs : List AV} {ys : List V}, RVs K ρ H xs ys → xs.length = ys.length
  | _, _, .nil => rfl
  | _, _, .cons _ t => by simp [RVs.length t]
theorem RVs.get : ∀ {xs : List AV} {ys : List V} {i : Nat} {x : AV}, RVs K ρ H xs ys → xs[i]? = some x → ∃ y, ys[i]? = some y ∧ RV K ρ H x y
  | _, _, _, _, .nil, e => by simp at e
  | _, _, 0, _, .cons r _, e => by simp at e; subst e; exact ⟨_, by simp, r⟩
  | _, _, i + 1, x, .cons _ t, e => by
    obtain ⟨u, h1, h2⟩ := RVs.get (i := i) (x := x) t (by simpa using e)
    exact ⟨u, by simpa using h1, h2⟩
theorem RVs.set {x : AV} {y : V} (r : RV K ρ H x y) : ∀ {xs : List AV} {ys : List V} (i : Nat), RVs K ρ H xs ys → RVs K ρ H (xs.set i x) (ys.set i y)
  | _, _, _, .nil => .nil
  | _, _, 0, .cons _ t => .cons r t
  | _, _, i + 1, .cons q t => .cons q (RVs.set r i t)
theorem RVs.append : ∀ {xs xs' : List AV} {ys ys' : List V}, RVs K ρ H xs ys → RVs K ρ H xs' ys' → RVs K ρ H (xs ++ xs') (ys ++ ys')
  | _, _, _, _, .nil, s => s
  | _, _, _, _, .cons r t, s => .cons r (RVs.append t s)
theorem RVs.take : ∀ {xs : List AV} {ys : List V} (n : Nat), RVs K ρ H xs ys → RVs K ρ H (xs.take n) (ys.take n)
  | _, _, 0, _ => by simp; exact .nil
  | _, _, _ + 1, .nil => by simp; exact .nil
  | _, _, n + 1, .cons r t => .cons r (RVs.take n t)
theorem RVs.drop : ∀ {xs : List AV} {ys : List V} (n : Nat), RVs K ρ H xs ys → RVs K ρ H (xs.drop n) (ys.drop n)
  | _, _, 0, r => r
  | _, _, _ + 1, .nil => by simp; exact .nil
  | _, _, n + 1, .cons _ t => RVs.drop n t
theorem RVs.of_get : ∀ {xs : List AV} {ys : List V}, xs.length = ys.length → (∀ (i : Nat) (x : AV), xs[i]? = some x → ∃ y, ys[i]? = some y ∧ RV K ρ H x y) → RVs K ρ H xs ys
  | [], [], _, _ => .nil
  | [], _ :: _, h, _ => by simp at h
  | _ :: _, [], h, _ => by simp at h
  | x :: xs, y :: ys, h, g => by
    obtain ⟨y', e, r⟩ := g 0 x (by simp)
    have e' : y = y' := by simpa using e
    subst e'
    exact .cons r (RVs.of_get (by simpa using h) fun i x hx => by simpa using g (i + 1) x (by simpa using hx))
end

/-! ### attributes, dicts -/
inductive RP {κ : Type} (K : PySem.W.Frag) (ρ : List Addr) (H : Hp) : List (κ × AV) → List (κ × V) → Prop
  | nil : RP K ρ H [] []
  | cons {k : κ} {x : AV} {y : V} {xs : List (κ × AV)} {ys : List (κ × V)} : RV K ρ H x y → RP K ρ H xs ys → RP K ρ H ((k, x) :: xs) ((k, y) :: ys)
theorem RP.mono {κ : Type} {K : PySem.W.Frag} {ρ : List Addr} {H H' : Hp} (ρ' : List Addr) (e : Ext H H') : ∀ {x : List (κ × AV)} {v : List (κ × V)}, RP K ρ H x v → RP K (ρ ++ ρ') H' x v
  | _, _, .nil => .nil
  | _, _, .cons h r => .cons (h.mono ρ' e) (RP.mono ρ' e r)

/-- what stands at a -/
def RO (K : PySem.W.Frag) (C : Nat → Addr) (ρ : List Addr) (H : Hp) (a : Addr) : AO → Prop
  | .lst xs => ∃ ys, H a = some (.lst ys) ∧ RVs K ρ H xs ys
  | .dk kvs => ∃ ys, H a = some (.dK ys) ∧ RP K ρ H kvs ys
  | .dt kvs => ∃ ys, H a = some (.dT ys) ∧ RP K ρ H kvs ys
  | .ins c fs => ∃ dx ys, H a = some (.ins (C c) dx ys) ∧ RP K ρ H fs ys
theorem RO.mut {K : PySem.W.Frag} {C : Nat → Addr} {ρ : List Addr} {H : Hp} {a : Addr} : ∀ {o : AO}, RO K C ρ H a o → ∃ u, H a = some u ∧ Mut (some u)
  | .lst _, ⟨_, h, _⟩ => ⟨_, h, trivial⟩
  | .dk _, ⟨_, h, _⟩ => ⟨_, h, trivial⟩
  | .dt _, ⟨_, h, _⟩ => ⟨_, h, trivial⟩
  | .ins _ _, ⟨_, _, h, _⟩ => ⟨_, h, trivial⟩
/-- kept where the object at a is as it was -/
theorem RO.mono {K : PySem.W.Frag} {C : Nat → Addr} {ρ : List Addr} {H H' : Hp} {a : Addr} (ρ' : List Addr) (e : Ext H H') : ∀ {o : AO}, RO K C ρ H a o → H' a = H a → RO K C (ρ ++ ρ') H' a o
  | .lst _, ⟨ys, h, r⟩, k => ⟨ys, k.trans h, r.mono ρ' e⟩
  | .dk _, ⟨ys, h, r⟩, k => ⟨ys, k.trans h, r.mono ρ' e⟩
  | .dt _, ⟨ys, h, r⟩, k => ⟨ys, k.trans h, r.mono ρ' e⟩
  | .ins _ _, ⟨dx, ys, h, r⟩, k => ⟨dx, ys, k.trans h, r.mono ρ' e⟩

structure SR (K : PySem.W.Frag) (C : Nat → Addr) (ρ : List Addr) (h : AH) (H : Hp) : Prop where
  len : h.length = ρ.length
  nd : ρ.Nodup
  obj : ∀ (n : Nat) (o : AO) (a : Addr), h[n]? = some o → ρ[n]? = some a → RO K C ρ H a o
/-- what isn't at a place stays; new places are new -/
structure Fr (ρ ρ' : List Addr) (H H' : Hp) : Prop where
  keep : ∀ a u, H a = some u → a ∉ ρ → H' a = some u
  new : ∀ a ∈ ρ', H a = none
  dom : ∀ a u, H a = some u → ∃ u', H' a = some u'
theorem Fr.refl (ρ : List Addr) (H : Hp) : Fr ρ [] H H := ⟨fun _ _ h _ => h, fun _ h => absurd h (by simp), fun _ u h => ⟨u, h⟩⟩
theorem Fr.trans {ρ ρ1 ρ2 : List Addr} {H H1 H2 : Hp} (f : Fr ρ ρ1 H H1) (g : Fr (ρ ++ ρ1) ρ2 H1 H2) : Fr ρ (ρ1 ++ ρ2) H H2 := by
  refine ⟨fun a u e n => g.keep a u (f.keep a u e n) ?_, fun a m => ?_, fun a u e => ?_⟩
  · intro z
    rcases List.mem_append.mp z with z | z
    · exact n z
    · have := f.new a z
      rw [e] at this; cases this
  · rcases List.mem_append.mp m with z | z
    · exact f.new a z
    · cases q : H a with
      | none => rfl
      | some u =>
        obtain ⟨u', e'⟩ := f.dom a u q
        have := g.new a z
        rw [e'] at this; cases this
  · obtain ⟨u', e'⟩ := f.dom a u e
    exact g.dom a u' e'
/-- a new object, at a place or at none -/
theorem Fr.laid {ρ ρ' : List Addr} {H : Hp} {p : Addr} {o : HO} (h : H p = none) (hs : ∀ a ∈ ρ', a = p) : Fr ρ ρ' H (upd H p o) := by
  refine ⟨fun a u e _ => by rw [upd_ne (ne_of_none e h)]; exact e, fun a m => by rw [hs a m]; exact h, fun a u e => ⟨u, by rw [upd_ne (ne_of_none e h)]; exact e⟩⟩
theorem Fr.put {ρ : List Addr} {H : Hp} {p : Addr} {o : HO} (h : p ∈ ρ) : Fr ρ [] H (upd H p o) := by
  refine ⟨fun a u e n => ?_, fun _ h => absurd h (by simp), fun a u e => ?_⟩
  · have ne : a ≠ p := fun z => n (by rw [z]; exact h)
    rw [upd_ne ne]; exact e
  by_cases z : a = p
  · subst z; exact ⟨o, upd_same⟩
  · exact ⟨u, by rw [upd_ne z]; exact e⟩
section
variable {K : PySem.W.Frag} {C : Nat → Addr} {ρ : List Addr} {h : AH} {H : Hp}
theorem SR.at (s : SR K C ρ h H) {n : Nat} {o : AO} (e : h[n]? = some o) : ∃ a, ρ[n]? = some a ∧ RO K C ρ H a o := by
  have hl := (List.getElem?_eq_some_iff.mp e).1
  rw [s.len] at hl
  exact ⟨ρ[n], by simp [hl], s.obj n o _ e (by simp [hl])⟩
/-- every place is taken -/
theorem SR.stands (s : SR K C ρ h H) {a : Addr} (m : a ∈ ρ) : ∃ u, H a = some u ∧ Mut (some u) := by
  obtain ⟨n, e⟩ := List.mem_iff_getElem?.mp m
  have hl := (List.getElem?_eq_some_iff.mp e).1
  rw [← s.len] at hl
  exact (s.obj n h[n] a (by simp [hl]) e).mut
theorem SR.fresh (s : SR K C ρ h H) {p : Addr} (hp : H p = none) : p ∉ ρ := fun m => by
  obtain ⟨u, e, _⟩ := s.stands m
  rw [hp] at e; cases e
/-- a place for an object that isn't one yet -/
theorem SR.add (s : SR K C ρ h H) {p : Addr} {o : AO} (hp : p ∉ ρ) (new : RO K C (ρ ++ [p]) H p o) : SR K C (ρ ++ [p]) (h ++ [o]) H := by
  refine ⟨by simp [s.len], ?_, fun n o' a e1 e2 => ?_⟩
  · rw [List.nodup_append]
    exact ⟨s.nd, by simp, fun a ha b hb z => hp (by simp at hb; rw [← hb, ← z]; exact ha)⟩
  · by_cases hn : n < h.length
    · rw [List.getElem?_append_left hn] at e1
      rw [List.getElem?_append_left (by rw [← s.len]; exact hn)] at e2
      exact (s.obj n o' a e1 e2).mono [p] (Ext.refl H) rfl
    · have hle : h.length ≤ n := Nat.le_of_not_lt hn
      rw [List.getElem?_append_right hle] at e1
      rw [List.getElem?_append_right (by rw [← s.len]; exact hle), ← s.len] at e2
      have z : n - h.length = 0 := by
        have := (List.getElem?_eq_some_iff.mp e1).1
        simp at this
        omega
      rw [z] at e1 e2
      simp at e1 e2
      rw [← e1, ← e2]
      exact new
/-- kept where no place's object changes -/
theorem SR.keep {H' : Hp} (s : SR K C ρ h H) (e : Ext H H') (k : ∀ a ∈ ρ, H' a = H a) : SR K C ρ h H' := by
  refine ⟨s.len, s.nd, fun n o a e1 e2 => ?_⟩
  have := (s.obj n o a e1 e2).mono [] e (k a (List.mem_of_getElem? e2))
  rwa [List.append_nil] at this
/-- a new object, not at a place -/
theorem SR.off (s : SR K C ρ h H) {p : Addr} {u : HO} (hp : H p = none) : SR K C ρ h (upd H p u) :=
  s.keep (Ext.laid hp) fun a m => upd_ne fun z => s.fresh hp (z ▸ m)
theorem SR.tup (s : SR K C ρ h H) {p : Addr} {xs : List V} (hp : H p = none) : SR K C ρ h (upd H p (.tup xs)) := s.off hp
/-- a new object -/
theorem SR.laid (s : SR K C ρ h H) {p : Addr} {u : HO} {o : AO} (hp : H p = none) (new : RO K C (ρ ++ [p]) (upd H p u) p o) : SR K C (ρ ++ [p]) (h ++ [o]) (upd H p u) :=
  (s.off hp).add (s.fresh hp) new
/-- an object changed -/
theorem SR.put (s : SR K C ρ h H) {n : Nat} {a : Addr} {u : HO} {o o' : AO} (e : h[n]? = some o) (ha : ρ[n]? = some a) (new : RO K C ρ (upd H a u) a o') : SR K C ρ (h.set n o') (upd H a u) := by
  obtain ⟨u0, hu0, mu⟩ := (s.obj n o a e ha).mut
  have hn := (List.getElem?_eq_some_iff.mp e).1
  refine ⟨by simp [s.len], s.nd, fun m o2 b e2 hb => ?_⟩
  by_cases hm : m = n
  · subst hm
    rw [List.getElem?_set_self hn] at e2
    rw [ha] at hb; cases hb; cases e2
    exact new
  · rw [List.getElem?_set_ne (Ne.symm hm)] at e2
    have ne : b ≠ a := fun z => hm (by
      subst z
      have h1 := (List.getElem?_eq_some_iff.mp hb)
      have h2 := (List.getElem?_eq_some_iff.mp ha)
      obtain ⟨l1, q1⟩ := h1
      obtain ⟨l2, q2⟩ := h2
      exact (List.getElem_inj s.nd).mp (q1.trans q2.symm))
    have := (s.obj m o2 b e2 hb).mono [] (Ext.put (o := u) hu0 mu) (upd_ne ne)
    rwa [List.append_nil] at this
theorem SR.ext_put (s : SR K C ρ h H) {n : Nat} {a : Addr} {u : HO} {o : AO} (e : h[n]? = some o) (ha : ρ[n]? = some a) : Ext H (upd H a u) := by
  obtain ⟨u0, hu0, mu⟩ := (s.obj n o a e ha).mut
  exact Ext.put hu0 mu
end
end Ev

set_option Elab.async false
set_option linter.all false
set_option maxRecDepth 100000
/-! The small language, and what it means. -/
namespace Ev
open PySem PySem.Spec PyProof.Rows L2

/-- what came: a value and the places | an own error with its attributes | nothing is said -/
inductive Res (α : Type) where
  | ok (a : α) (h : AH) | ex (c : Nat) (fs : List (Str × AV)) (h : AH) | no
def Res.bind {α β : Type} (r : Res α) (f : α → AH → Res β) : Res β := match r with
  | .ok a h => f a h
  | .ex c fs h => .ex c fs h
  | .no => .no
abbrev Sl := List (Option AV)
/-- behind a statement -/
inductive Out where
  | nx (σ : Sl) (h : AH) | rt (v : AV) (h : AH) | bk (σ : Sl) (h : AH) | ct (σ : Sl) (h : AH) | ex (c : Nat) (fs : List (Str × AV)) (σ : Sl) (h : AH) | no

inductive Tg where
  | nm (i : Nat) | tup (ts : List Tg)
  deriving Repr
/-- built-in functions of values -/
inductive Pr where
  | len | abs | int | bool | tuple | list | all | any | sum | sorted | min | max | repr
  deriving Repr, DecidableEq
/-- methods of built-in types -/
inductive Mt where
  | append | extend | pop | get | insert | remove | index | join
  deriving Repr, DecidableEq

mutual
inductive E where
  | var (i : Nat) | cst (v : AV)
  | bin (op : Operator) (a b : E) | neg (a : E)
  | cmp (op : CmpOp) (a b : E) | chain (op op' : CmpOp) (a b c : E) | isN (yes : Bool) (a : E)
  | and (a b : E) | or (a b : E) | not (a : E) | ite (t a b : E)
  | idx (a i : E) | slc (a : E) (lo hi : Option E) | fld (a : E) (f : Str)
  | xfld (f : Str) | xis (c : Nat) | xmk (c : Nat) (F : Str) (e : E)
  | call (f : Nat) (es : List E) | mk (c f : Nat) (es : List E) | meth (c : Nat) (m : Str) (f : Nat) (o : E) (es : List E)
  | pr (p : Pr) (es : List E) | mt (m : Mt) (o : E) (es : List E) | isi (a : E) (ts : List Nat)
  | tup (es : List E) | lst (es : List E) | dct (es fs : List E)
  | comp (p : Option Pr) (own : List Nat) (t : Tg) (it : It) (cs : List E) (e : E)
  | rngv (p : Pr) (a : E)
  | dcmp (own : List Nat) (t : Tg) (it : It) (cs : List E) (k e : E)
  | inr (a : E) (es : List E)
inductive It where
  | seq (e : E) | rng (a : E) | rng2 (a b : E) | enum (a : E) | zip (a b : E) | enz (a b : E)
end
mutual
inductive S where
  | expr (e : E) | set (t : Tg) (e : E) | setu (ts : List Tg) (e : E) | set2 (t u : Tg) (e : E) | par (i j : Nat) (a b : E) | par3 (i j l : Nat) (a b c : E) | put (o i e : E) | fld (o : E) (f : Str) (e : E) | aug (i : Nat) (op : Operator) (e : E) | augp (o i : E) (op : Operator) (e : E)
  | ret (e : E) | ite (t : E) (a b : List S) | for_ (t : Tg) (it : It) (b : List S) | whl (t : E) (b : List S)
  | brk | ctn | pass | nev | rse (c : Nat) (f : Option Str) (e : E) | try_ (b : List S) (hs : List Hd)
inductive Hd where
  | mk (c : Nat) (n : Option Nat) (b : List S)
end

def putA {κ : Type} [DecidableEq κ] (kvs : List (κ × AV)) (k : κ) (v : AV) : List (κ × AV) :=
  if (kvs.any fun p => decide (p.1 = k)) = true then kvs.map (fun p => if p.1 = k then (p.1, v) else p) else kvs ++ [(k, v)]
/-! ### operators by values -/
abbrev intOp (g : Int → Int → Int) (C : Int → Int → Bool) (a b : AV) (h : AH) : Res AV := match a, b with
  | .int i, .int j => if C i j then .ok (.int (g i j)) h else .no
  | _, _ => .no
def small (i : Int) : Bool := decide (-(2 ^ 64) < i) && decide (i < 2 ^ 64)
def fewMul (i j : Int) : Bool := small i || small j
def powOk (i j : Int) : Bool := decide (0 ≤ j) && decide (j ≤ 1000000) && decide (i.natAbs < 2 ^ 64)
def divOk (_ j : Int) : Bool := decide (j ≠ 0) && decide (j.natAbs < 1073741824)
def strRep (x : Str) (k : Nat) : Str := ⟨(List.replicate k x.cps.toList).flatten.toArray⟩
def binOp (op : Operator) (a b : AV) (h : AH) : Res AV := match op with
  | .Add => match a, b with
    | .int i, .int j => .ok (.int (i + j)) h
    | .str i, .str j => if i.length + j.length ≤ sizeLine then .ok (.str (i ++ j)) h else .no
    | .tup xs, .tup ys => if xs.length + ys.length ≤ sizeLine then .ok (.tup (xs ++ ys)) h else .no
    | .loc n, .loc m => match h[n]?, h[m]? with
      | some (.lst xs), some (.lst ys) => if xs.length + ys.length ≤ sizeLine then .ok (.loc h.length) (h ++ [.lst (xs ++ ys)]) else .no
      | _, _ => .no
    | _, _ => .no
  | .Sub => intOp (· - ·) (fun _ _ => true) a b h
  | .Mult => match a, b with
    | .int i, .int j => if fewMul i j then .ok (.int (i * j)) h else .no
    | .str x, .int k => if -1000 ≤ k ∧ k ≤ 1000 ∧ x.length ≤ 1000 then .ok (.str (strRep x k.toNat)) h else .no
    | .loc n, .int k => match h[n]? with
      | some (.lst xs) => if xs.length * k.toNat ≤ sizeLine && decide (k < 2 ^ 62) && decide (-(2 ^ 62) < k) then .ok (.loc h.length) (h ++ [.lst (List.replicate k.toNat xs).flatten]) else .no
      | _ => .no
    | .tup xs, .int k => if -1000 ≤ k ∧ k ≤ 1000 ∧ xs.length ≤ 1000 then .ok (.tup (List.replicate k.toNat xs).flatten) h else .no
    | _, _ => .no
  | .FloorDiv => intOp Int.fdiv divOk a b h
  | .Mod => intOp Int.fmod (fun _ j => decide (j ≠ 0)) a b h
  | .Pow => intOp (fun i j => i ^ j.toNat) powOk a b h
  | .LShift => intOp (fun i j => i * 2 ^ j.toNat) powOk a b h
  | .BitAnd => intOp Builtin.bitAnd (fun _ _ => true) a b h
  | .BitOr => intOp Builtin.bitOr (fun _ _ => true) a b h
  | _ => .no

/-- as data: lists by what they hold -/
def AV.dat (h : AH) : Nat → AV → Option PyData
  | 0, _ => none
  | _ + 1, .non => some .none
  | _ + 1, .bl b => some (.bool b)
  | _ + 1, .int i => some (.int i)
  | _ + 1, .str x => if PyData.strOk x then some (.str x) else none
  | k + 1, .tup xs => (xs.mapM fun x => AV.dat h k x).map .tuple
  | k + 1, .rol xs => (xs.mapM fun x => AV.dat h k x).map .list
  | k + 1, .loc n => match h[n]? with
    | some (.lst xs) => (xs.mapM fun x => AV.dat h k x).map .list
    | _ => none
def eqDeep (a b : AV) (h : AH) : Option Bool := match a.dat h 40, b.dat h 40 with
  | some d, some e => some (PyData.eqv d e)
  | _, _ => none
def lexLe : List Int → List Int → Bool
  | [], _ => true
  | _ :: _, [] => false
  | a :: r, b :: s => if a = b then lexLe r s else decide (a ≤ b)
def AV.ints : List AV → Option (List Int)
  | [] => some []
  | .int i :: r => (AV.ints r).map (i :: ·)
  | _ => none
def AV.keyOf : AV → Option Key
  | .int i => some (.inl i)
  | .str x => some (.inr x)
  | _ => none
def inSeq (a : AV) (xs : List AV) (h : AH) : Option Bool := match a.dat h 40, xs.mapM (fun x => AV.dat h 40 x) with
  | some d, some ds => some (ds.any fun z => PyData.eqv z d)
  | _, _ => none
def inOp (a b : AV) (h : AH) : Option Bool := match b with
  | .tup xs => inSeq a xs h
  | .rol xs => inSeq a xs h
  | .loc n => match h[n]? with
    | some (.lst xs) => inSeq a xs h
    | some (.dk kvs) => (a.keyOf).map fun k => kvs.any fun p => decide (p.1 = k)
    | some (.dt kvs) => match a with
      | .tup xs => (xs.mapM AV.keyOf).map fun k => kvs.any fun p => decide (p.1 = k)
      | _ => none
    | _ => none
  | _ => none
def cmpOp (op : CmpOp) (a b : AV) (h : AH) : Res AV := match op with
  | .Eq => match eqDeep a b h with
    | some r => .ok (.bl r) h
    | none => .no
  | .NotEq => match eqDeep a b h with
    | some r => .ok (.bl (!r)) h
    | none => .no
  | .Lt => match a, b with
    | .int i, .int j => .ok (.bl (decide (i < j))) h
    | .str i, .str j => .ok (.bl (decide (i.cps.toList < j.cps.toList))) h
    | _, _ => .no
  | .LtE => match a, b with
    | .int i, .int j => .ok (.bl (decide (i ≤ j))) h
    | .str i, .str j => .ok (.bl (!decide (j.cps.toList < i.cps.toList))) h
    | .tup xs, .tup ys => match AV.ints xs, AV.ints ys with
      | some is, some js => .ok (.bl (lexLe is js)) h
      | _, _ => .no
    | _, _ => .no
  | .Gt => match a, b with
    | .int i, .int j => .ok (.bl (decide (j < i))) h
    | _, _ => .no
  | .GtE => match a, b with
    | .int i, .int j => .ok (.bl (decide (j ≤ i))) h
    | _, _ => .no
  | .In => match inOp a b h with
    | some r => .ok (.bl r) h
    | none => .no
  | .NotIn => match inOp a b h with
    | some r => .ok (.bl (!r)) h
    | none => .no
  | _ => .no
def truth (a : AV) (h : AH) : Option Bool := match a with
  | .non => some false
  | .bl b => some b
  | .int i => some (i != 0)
  | .str x => if x.length ≤ sizeLine then some (x.length != 0) else none
  | .tup xs => some (!xs.isEmpty)
  | .rol xs => some (!xs.isEmpty)
  | .loc n => match h[n]? with
    | some (.lst xs) => some (!xs.isEmpty)
    | some (.dk kvs) => some (!kvs.isEmpty)
    | _ => none
def idxOp (a i : AV) (h : AH) : Res AV := match a with
  | .tup xs => match i with
    | .int k => match atI xs k with
      | some v => .ok v h
      | none => .no
    | _ => .no
  | .rol xs => match i with
    | .int k => match atI xs k with
      | some v => .ok v h
      | none => .no
    | _ => .no
  | .str z => match i with
    | .int k => if z.length ≤ sizeLine then (match atI z.cps.toList k with
      | some c => .ok (.str ⟨#[c]⟩) h
      | none => .no) else .no
    | _ => .no
  | .loc n => match h[n]? with
    | some (.lst xs) => match i with
      | .int k => match atI xs k with
        | some v => .ok v h
        | none => .no
      | _ => .no
    | some (.dk kvs) => match i.keyOf with
      | some k => match kvs.find? fun p => decide (p.1 = k) with
        | some p => .ok p.2 h
        | none => .no
      | none => .no
    | _ => .no
  | _ => .no
def optInt (a : Option AV) : Option (Option Int) := match a with
  | none => some none
  | some (.int i) => some (some i)
  | _ => none
def cutA {α : Type} (xs : List α) (lo hi : Option Int) : List α := (xs.drop (HT.sIx xs.length 0 lo)).take (HT.sIx xs.length xs.length hi - HT.sIx xs.length 0 lo)
def slcOp (a : AV) (lo hi : Option Int) (h : AH) : Res AV := match a with
  | .tup xs => .ok (.tup (cutA xs lo hi)) h
  | .rol xs => .ok (.loc h.length) (h ++ [.lst (cutA xs lo hi)])
  | .str z => if z.length ≤ sizeLine then .ok (.str (cutS z lo hi)) h else .no
  | .loc n => match h[n]? with
    | some (.lst xs) => .ok (.loc h.length) (h ++ [.lst (cutA xs lo hi)])
    | _ => .no
  | _ => .no
/-- the items of a list or tuple -/
def itemsOf (a : AV) (h : AH) : Option (List AV) := match a with
  | .tup xs => some xs
  | .rol xs => some xs
  | .loc n => match h[n]? with
    | some (.lst xs) => some xs
    | _ => none
  | _ => none
def boolsOf : List AV → Option (List Bool)
  | [] => some []
  | .bl b :: r => (boolsOf r).map (b :: ·)
  | _ => none
def topOf (i : Int) : List Int → Int
  | [] => i
  | j :: r => topOf (if j > i then j else i) r
/-- data that sorted() and min() take -/
def alikeB (ds : List PyData) : Bool := ds.all fun d => ds.all fun e => PySem.W.alike d e
def sortB (ds : List PyData) : Bool := alikeB ds && ((ds.all fun d => match d with
    | .tuple (_ :: _) => true
    | _ => false) || ds.all fun d => match d with
    | .none => false
    | .tuple _ => false
    | _ => true)
def sortA (zs : List (AV × PyData)) : List (AV × PyData) := zs.mergeSort (PySem.W.dataLe false fun p => p.2)
def datsOf (xs : List AV) (h : AH) : Option (List PyData) := xs.mapM fun x => AV.dat h 40 x
def sortedOp (xs : List AV) (h : AH) : Res AV := match datsOf xs h with
  | some ds => if sortB ds then .ok (.loc h.length) (h ++ [.lst ((sortA (xs.zip ds)).map (·.1))]) else .no
  | none => .no
def minAt (ds : List PyData) : Nat := argBest (fun i j => PySem.W.dataLt (ds.getD i .none) (ds.getD j .none)) (ds.length - 1)
def minB (ds : List PyData) : Bool := decide (0 < ds.length) && alikeB ds && ds.all fun d => match d with
  | .none => false
  | _ => true
def minOp (xs : List AV) (h : AH) : Res AV := match datsOf xs h with
  | some ds => if minB ds then (match xs[minAt ds]? with
    | some v => .ok v h
    | none => .no) else .no
  | none => .no
/-- a built-in that takes a list or a tuple -/
def prSeq (p : Pr) (xs : List AV) (h : AH) : Res AV := match p with
  | .len => .ok (.int xs.length) h
  | .tuple => .ok (.tup xs) h
  | .list => .ok (.loc h.length) (h ++ [.lst xs])
  | .all => match boolsOf xs with
    | some bs => .ok (.bl (bs.all id)) h
    | none => .no
  | .any => match boolsOf xs with
    | some bs => .ok (.bl (bs.any id)) h
    | none => .no
  | .sum => match AV.ints xs with
    | some is => .ok (.int is.sum) h
    | none => .no
  | .max => match AV.ints xs with
    | some (i :: is) => .ok (.int (topOf i is)) h
    | _ => .no
  | _ => .no
def isRef : AV → Bool
  | .loc _ => true
  | .rol _ => true
  | .tup _ => true
  | _ => false
def prBoth (p : Pr) : Bool := match p with
  | .len => true
  | .tuple => true
  | .list => true
  | _ => false
def isLoc : AV → Bool
  | .loc _ => true
  | .rol _ => true
  | _ => false
def seq1 (p : Pr) (a : AV) (h : AH) : Res AV := match itemsOf a h with
  | some xs => if prBoth p || isLoc a then prSeq p xs h else .no
  | none => .no
def prOp (p : Pr) (vs : List AV) (h : AH) : Res AV := match p with
  | .abs => match vs with
    | [.int i] => .ok (.int (if i < 0 then -i else i)) h
    | _ => .no
  | .int => match vs with
    | [.int i] => .ok (.int i) h
    | [.bl b] => .ok (.int (if b then 1 else 0)) h
    | _ => .no
  | .min => match vs with
    | [.int i, .int j] => .ok (.int (if j < i then j else i)) h
    | [a] => if isLoc a then (match itemsOf a h with
      | some xs => minOp xs h
      | none => .no) else .no
    | _ => .no
  | .max => match vs with
    | [.int i, .int j] => .ok (.int (if j > i then j else i)) h
    | [.loc n] => seq1 .max (.loc n) h
    | _ => .no
  | .len => match vs with
    | [.str x] => if x.length ≤ sizeLine then .ok (.int x.length) h else .no
    | [a] => seq1 .len a h
    | _ => .no
  | .tuple => match vs with
    | [a] => seq1 .tuple a h
    | _ => .no
  | .list => match vs with
    | [a] => seq1 .list a h
    | _ => .no
  | .all => match vs with
    | [.tup xs] => prSeq .all xs h
    | [a] => seq1 .all a h
    | _ => .no
  | .any => match vs with
    | [.tup xs] => prSeq .any xs h
    | [a] => seq1 .any a h
    | _ => .no
  | .sum => match vs with
    | [a] => seq1 .sum a h
    | _ => .no
  | .bool => .no
  | .sorted => match vs with
    | [a] => if isLoc a then (match itemsOf a h with
      | some xs => sortedOp xs h
      | none => .no) else .no
    | _ => .no
  | .repr => match vs with
    | [a] => match a.dat h 40 with
      | some d => if d.showable && decide (d.shown.length ≤ sizeLine) then .ok (.str d.shown) h else .no
      | none => .no
    | _ => .no
/-- the first place whose item is equal -/
def placeOf (a : AV) (xs : List AV) (h : AH) : Option Nat := match a.dat h 40, xs.mapM (fun x => AV.dat h 40 x) with
  | some d, some ds => ds.findIdx? fun z => PyData.eqv z d
  | _, _ => none
def appendOp (n : Nat) (xs vs : List AV) (h : AH) : Res AV := match vs with
  | [v] => if xs.length < sizeLine then .ok .non (h.set n (.lst (xs ++ [v]))) else .no
  | _ => .no
def extendOp (n : Nat) (xs vs : List AV) (h : AH) : Res AV := match vs with
  | [.loc b] => match h[b]? with
    | some (.lst ys) => if xs.length + ys.length ≤ sizeLine then .ok .non (h.set n (.lst (xs ++ ys))) else .no
    | _ => .no
  | _ => .no
def popLast (n : Nat) (xs : List AV) (h : AH) : Res AV := match xs[xs.length - 1]? with
  | some v => .ok v (h.set n (.lst xs.dropLast))
  | none => .no
def popAt (n : Nat) (xs : List AV) (i : Int) (h : AH) : Res AV := if -(2 ^ 63) ≤ i ∧ i < 2 ^ 63 then (match seqIndex? i xs.length with
    | some k => match xs[k]? with
      | some v => .ok v (h.set n (.lst (xs.eraseIdx k)))
      | none => .no
    | none => .no) else .no
def popOp (n : Nat) (xs vs : List AV) (h : AH) : Res AV := match vs with
  | [] => popLast n xs h
  | [.int i] => popAt n xs i h
  | _ => .no
def insertOp (n : Nat) (xs vs : List AV) (h : AH) : Res AV := match vs with
  | [.int i, v] => if xs.length < sizeLine ∧ 0 ≤ i ∧ i < 2 ^ 62 then .ok .non (h.set n (.lst (xs.take i.toNat ++ v :: xs.drop i.toNat))) else .no
  | _ => .no
def indexOp (xs vs : List AV) (h : AH) : Res AV := match vs with
  | [v] => match placeOf v xs h with
    | some j => .ok (.int j) h
    | none => .no
  | _ => .no
def removeOp (n : Nat) (xs vs : List AV) (h : AH) : Res AV := match vs with
  | [v] => match placeOf v xs h with
    | some j => .ok .non (h.set n (.lst (xs.eraseIdx j)))
    | none => .no
  | _ => .no
/-- what stands under a key -/
def valA {κ : Type} [DecidableEq κ] (kvs : List (κ × AV)) (k : κ) : Option AV := (kvs.find? fun p => decide (p.1 = k)).map (·.2)
def getT (kvs : List (List Key × AV)) (vs : List AV) (h : AH) : Res AV := match vs with
  | [.tup xs] => match xs.mapM AV.keyOf with
    | some k => .ok ((valA kvs k).getD .non) h
    | none => .no
  | _ => .no
def isTupKey : AV → Bool
  | .tup xs => (xs.mapM AV.keyOf).isSome
  | _ => false
def getK (kvs : List (Key × AV)) (vs : List AV) (h : AH) : Res AV := match vs with
  | [a] => if kvs.isEmpty && isTupKey a then .ok .non h else (match a.keyOf with
    | some k => .ok ((valA kvs k).getD .non) h
    | none => .no)
  | [a, d] => match a.keyOf with
    | some k => .ok ((valA kvs k).getD d) h
    | none => .no
  | _ => .no
def lstOp (m : Mt) (n : Nat) (xs vs : List AV) (h : AH) : Res AV := match m with
  | .append => appendOp n xs vs h
  | .extend => extendOp n xs vs h
  | .pop => popOp n xs vs h
  | .insert => insertOp n xs vs h
  | .index => indexOp xs vs h
  | .remove => removeOp n xs vs h
  | .get => .no
  | .join => .no
def mtOp (m : Mt) (o : AV) (vs : List AV) (h : AH) : Res AV := match o with
  | .loc n => match h[n]? with
    | some (.lst xs) => lstOp m n xs vs h
    | some (.dt kvs) => if m = .get then getT kvs vs h else .no
    | some (.dk kvs) => if m = .get then getK kvs vs h else .no
    | _ => .no
  | _ => .no
/-- the kinds that isinstance is asked about: 0 int, 1 bool, 2 str, 3 list, 4 tuple; 100 + c: instances of class c -/
def isKind (a : AV) (h : AH) (t : Nat) : Option Bool := match a with
  | .non => some false
  | .int _ => some (t == 0)
  | .bl _ => some (t == 0 || t == 1)
  | .str _ => some (t == 2)
  | .tup _ => some (t == 4)
  | .rol _ => some (t == 3)
  | .loc n => match h[n]? with
    | some (.lst _) => some (t == 3)
    | some (.ins c _) => if t = 100 + c then some true else none
    | some (.dk _) => some false
    | some (.dt _) => some false
    | none => none
def isKinds (a : AV) (h : AH) (ts : List Nat) : Option Bool := (ts.mapM (isKind a h)).map (·.any id)
def putOp (o i v : AV) (h : AH) : Option AH := match o with
  | .loc n => match h[n]? with
    | some (.lst xs) => match i with
      | .int k => (ixN xs.length k).map fun j => h.set n (.lst (xs.set j v))
      | _ => none
    | some (.dk kvs) => match i.keyOf with
      | some k => if kvs.length < sizeLine then some (h.set n (.dk (putA kvs k v))) else none
      | none => none
    | some (.dt kvs) => match i with
      | .tup xs => match xs.mapM AV.keyOf with
        | some k => if kvs.length < sizeLine then some (h.set n (.dt (putA kvs k v))) else none
        | none => none
      | _ => none
    | _ => none
  | _ => none

mutual
def putT : Tg → AV → Sl → Option Sl
  | .nm i, v, σ => if i < σ.length then some (σ.set i (some v)) else none
  | .tup ts, .tup xs, σ => putTs ts xs σ
  | .tup _, _, _ => none
def putTs : List Tg → List AV → Sl → Option Sl
  | [], [], σ => some σ
  | t :: ts, x :: xs, σ => (putT t x σ).bind fun σ' => putTs ts xs σ'
  | _, _, _ => none
end

/-! ### what is walked -/
structure Src where
  items : List AV
  watch : List (Nat × List AV)
def still (w : List (Nat × List AV)) (h : AH) : Bool := w.all fun p => match h[p.1]? with
  | some (.lst xs) => AV.beqs xs p.2
  | _ => false
def srcOf (a : AV) (h : AH) : Option Src := match a with
  | .tup xs => some ⟨xs, []⟩
  | .rol xs => some ⟨xs, []⟩
  | .str z => some ⟨z.cps.toList.map fun c => .str ⟨#[c]⟩, []⟩
  | .loc n => match h[n]? with
    | some (.lst xs) => some ⟨xs, [(n, xs)]⟩
    | _ => none
  | _ => none
/-- what a tuple or a list holds -/
def rowOf (v : AV) (h : AH) : Option (List AV) := match v with
  | .tup xs => some xs
  | .rol xs => some xs
  | .loc n => match h[n]? with
    | some (.lst xs) => some xs
    | _ => none
  | _ => none
def rangeL (lo : Int) (n : Nat) : List AV := (List.range n).map fun i => .int (lo + (i : Nat))
def smallR (i : Int) : Bool := decide (-(2 ^ 62) ≤ i) && decide (i < 2 ^ 62)
def enumL (xs : List AV) : List AV := xs.zipIdx.map fun p => .tup [.int (p.2 : Nat), p.1]
def zipL (xs ys : List AV) : List AV := (xs.zip ys).map fun p => .tup [p.1, p.2]

def loopC (w : List (Nat × List AV)) (body : AV → AH → Res (Option AV)) : List AV → List AV → AH → Res (List AV)
  | [], acc, h => if still w h then .ok acc h else .no
  | x :: r, acc, h => if still w h then (match body x h with
    | .ok (some v) h' => if acc.length < sizeLine then loopC w body r (acc ++ [v]) h' else .no
    | .ok none h' => loopC w body r acc h'
    | _ => .no) else .no
def loopD (w : List (Nat × List AV)) (body : AV → AH → Res (Option (AV × AV))) : List AV → List (AV × AV) → AH → Res (List (AV × AV))
  | [], acc, h => if still w h then .ok acc h else .no
  | x :: r, acc, h => if still w h then (match body x h with
    | .ok (some v) h' => if acc.length < sizeLine then loopD w body r (acc ++ [v]) h' else .no
    | .ok none h' => loopD w body r acc h'
    | _ => .no) else .no
def loopS (w : List (Nat × List AV)) (body : AV → Sl → AH → Out) : List AV → Sl → AH → Out
  | [], σ, h => if still w h then .nx σ h else .no
  | x :: r, σ, h => if still w h then (match body x σ h with
    | .nx σ' h' => loopS w body r σ' h'
    | .ct σ' h' => loopS w body r σ' h'
    | .bk σ' h' => .nx σ' h'
    | o => o) else .no
def loopW (test : Sl → AH → Res Bool) (body : Sl → AH → Out) : Nat → Sl → AH → Out
  | 0, _, _ => .no
  | n + 1, σ, h => match test σ h with
    | .ok false h' => .nx σ h'
    | .ok true h' => match body σ h' with
      | .nx σ' h'' => loopW test body n σ' h''
      | .ct σ' h'' => loopW test body n σ' h''
      | .bk σ' h'' => .nx σ' h''
      | o => o
    | .ex c fs h' => .ex c fs σ h'
    | .no => .no
def wipeA : List Nat → Sl → Sl
  | [], σ => σ
  | i :: own, σ => (wipeA own σ).set i none
/-- the dict of key and value pairs: tuple keys, or ints and texts -/
def dictOf (ps : List (AV × AV)) : Option AO := match ps.mapM (fun p => (p.1.keyOf).map fun k => (k, p.2)) with
  | some kvs => some (.dk (kvs.foldl (fun d p => putA d p.1 p.2) []))
  | none => match ps.mapM (fun p => match p.1 with
      | .tup xs => (xs.mapM AV.keyOf).map fun k => (k, p.2)
      | _ => none) with
    | some kvs => some (.dt (kvs.foldl (fun d p => putA d p.1 p.2) []))
    | none => none

structure G where
  fn : Nat → List AV → AH → Res AV
  sub : Nat → Nat → Bool
  atr : Nat → Str → Bool
  fuel : Nat
  xat : Nat → Str → Bool := fun _ _ => false
abbrev Cur := Option (Nat × List (Str × AV))

/-- as a value, and as a test -/
abbrev VT := (Sl → AH → Res AV) × (Sl → AH → Res Bool)
def ofV (f : Sl → AH → Res AV) : VT := (f, fun σ h => (f σ h).bind fun v h1 => match truth v h1 with
  | some b => .ok b h1
  | none => .no)
def isIns (c : Nat) (m : Str) (v : AV) (h : AH) : Bool := match v with
  | .loc n => match h[n]? with
    | some (.ins d fs) => decide (d = c) && (fs.lookup m).isNone
    | _ => false
  | _ => false
/-- the receiver's type -/
def mtTy (m : Mt) (v : AV) (h : AH) : Bool := match v with
  | .loc n => match h[n]? with
    | some (.lst _) => decide (m ≠ .get)
    | some (.dk _) => decide (m = .get)
    | some (.dt _) => decide (m = .get)
    | _ => false
  | _ => false
def fldOp (atr : Nat → Str → Bool) (v : AV) (f : Str) (h : AH) : Res AV := match v with
  | .loc n => match h[n]? with
    | some (.ins c fs) => if atr c f then (match fs.lookup f with
      | some w => .ok w h
      | none => .no) else .no
    | _ => .no
  | _ => .no
def getS (σ : Sl) (i : Nat) (h : AH) : Res AV := match σ[i]? with
  | some (some v) => .ok v h
  | _ => .no
def oInt (v : AV) (h : AH) : Res (Option Int) := match v with
  | .int i => .ok (some i) h
  | _ => .no
def compBody (t : Tg) (own : List Nat) (σ : Sl) (c : Sl → AH → Res Bool) (e : Sl → AH → Res AV) (v : AV) (h2 : AH) : Res (Option AV) := match putT t v (wipeA own σ) with
  | some σ' => (c σ' h2).bind fun b h3 => if b then (e σ' h3).bind fun w h4 => .ok (some w) h4 else .ok none h3
  | none => .no
def dcmpBody (t : Tg) (own : List Nat) (σ : Sl) (c : Sl → AH → Res Bool) (k e : Sl → AH → Res AV) (v : AV) (h2 : AH) : Res (Option (AV × AV)) := match putT t v (wipeA own σ) with
  | some σ' => (c σ' h2).bind fun b h3 => if b then (k σ' h3).bind fun w h4 => (e σ' h4).bind fun u h5 => .ok (some (w, u)) h5 else .ok none h3
  | none => .no
def lay (o : AO) (h : AH) : Res AV := .ok (.loc h.length) (h ++ [o])
/-- a in range(b) -/
def inrOp (u : AV) (ws : List AV) (h : AH) : Res AV := match u, ws with
  | .int i, [.int j] => .ok (.bl (decide (0 ≤ i ∧ i < j))) h
  | _, _ => .no
/-- {} and {k: v} -/
def dctOp (ks vs : List AV) (h : AH) : Res AV := match ks, vs with
  | [], [] => lay (.dk []) h
  | [a], [b] => (match a.keyOf with
    | some k => lay (.dk [(k, b)]) h
    | none => .no)
  | _, _ => .no
mutual
def evP (g : G) (x : Cur) : E → VT
  | .var i => ofV fun σ h => getS σ i h
  | .cst v => ofV fun _ h => .ok v h
  | .bin op a b => ofV fun σ h => ((evP g x a).1 σ h).bind fun v h1 => ((evP g x b).1 σ h1).bind fun w h2 => binOp op v w h2
  | .neg a => ofV fun σ h => ((evP g x a).1 σ h).bind fun v h1 => match v with
    | .int i => .ok (.int (-i)) h1
    | _ => .no
  | .cmp op a b => ofV fun σ h => ((evP g x a).1 σ h).bind fun v h1 => ((evP g x b).1 σ h1).bind fun w h2 => cmpOp op v w h2
  | .chain op op' a b c => ofV fun σ h => ((evP g x a).1 σ h).bind fun u h1 => ((evP g x b).1 σ h1).bind fun v h2 => (cmpOp op u v h2).bind fun r h3 => match r with
    | .bl true => ((evP g x c).1 σ h3).bind fun w h4 => cmpOp op' v w h4
    | .bl false => .ok (.bl false) h3
    | _ => .no
  | .isN y a => ofV fun σ h => ((evP g x a).1 σ h).bind fun v h1 => .ok (.bl (if y then decide (v = .non) else !decide (v = .non))) h1
  | .and a b => (fun σ h => ((evP g x a).1 σ h).bind fun v h1 => match v with
      | .bl true => (evP g x b).1 σ h1
      | .bl false => .ok (.bl false) h1
      | _ => .no,
    fun σ h => ((evP g x a).2 σ h).bind fun c h1 => if c then (evP g x b).2 σ h1 else .ok false h1)
  | .or a b => (fun σ h => ((evP g x a).1 σ h).bind fun v h1 => match v with
      | .bl true => .ok (.bl true) h1
      | .bl false => (evP g x b).1 σ h1
      | _ => .no,
    fun σ h => ((evP g x a).2 σ h).bind fun c h1 => if c then .ok true h1 else (evP g x b).2 σ h1)
  | .not a => (fun σ h => ((evP g x a).1 σ h).bind fun v h1 => match v with
      | .bl c => .ok (.bl (!c)) h1
      | _ => .no,
    fun σ h => ((evP g x a).2 σ h).bind fun c h1 => .ok (!c) h1)
  | .ite t a b => (fun σ h => ((evP g x t).2 σ h).bind fun c h1 => if c then (evP g x a).1 σ h1 else (evP g x b).1 σ h1, fun _ _ => .no)
  | .idx a i => ofV fun σ h => ((evP g x a).1 σ h).bind fun v h1 => ((evP g x i).1 σ h1).bind fun w h2 => idxOp v w h2
  | .slc a lo hi => ofV fun σ h => ((evP g x a).1 σ h).bind fun v h1 => (evO g x lo σ h1).bind fun l h2 => (evO g x hi σ h2).bind fun u h3 => slcOp v l u h3
  | .fld a f => ofV fun σ h => ((evP g x a).1 σ h).bind fun v h1 => fldOp g.atr v f h1
  | .xfld f => ofV fun _ h => match x with
    | some (c, fs) => if g.xat c f then (match fs.lookup f with
      | some w => .ok w h
      | none => .no) else .no
    | none => .no
  | .xis c => ofV fun _ h => match x with
    | some (d, _) => if g.sub d d && g.sub c c then .ok (.bl (g.sub d c)) h else .no
    | none => .no
  | .xmk c F e => ofV fun σ h => ((evP g x e).1 σ h).bind fun v h1 => if g.sub c c && g.xat c F then .ok v h1 else .no
  | .call f es => ofV fun σ h => (evs g x es σ h).bind fun vs h1 => g.fn f vs h1
  | .mk c f es => ofV fun σ h => (evs g x es σ h).bind fun vs h1 => (g.fn f (.loc h1.length :: vs) (h1 ++ [.ins c []])).bind fun v h2 => if v = .non then .ok (.loc h1.length) h2 else .no
  | .meth c m f o es => ofV fun σ h => ((evP g x o).1 σ h).bind fun v h1 => if isIns c m v h1 then (evs g x es σ h1).bind fun vs h2 => g.fn f (v :: vs) h2 else .no
  | .pr p es => ofV fun σ h => (evs g x es σ h).bind fun vs h1 => prOp p vs h1
  | .mt m o es => ofV fun σ h => ((evP g x o).1 σ h).bind fun v h1 => if mtTy m v h1 then (evs g x es σ h1).bind fun vs h2 => mtOp m v vs h2 else .no
  | .isi a ts => ofV fun σ h => ((evP g x a).1 σ h).bind fun v h1 => match isKinds v h1 ts with
    | some b => .ok (.bl b) h1
    | none => .no
  | .tup es => ofV fun σ h => (evs g x es σ h).bind fun vs h1 => if vs.length ≤ sizeLine then .ok (.tup vs) h1 else .no
  | .lst es => ofV fun σ h => (evs g x es σ h).bind fun vs h1 => if vs.length ≤ sizeLine then lay (.lst vs) h1 else .no
  | .dct es fs => ofV fun σ h => (evs g x es σ h).bind fun ks h1 => (evs g x fs σ h1).bind fun vs h2 => dctOp ks vs h2
  | .comp p own t it cs e => ofV fun σ h => (evI g x it σ h).bind fun src h1 => (loopC src.watch (compBody t own σ (evCs g x cs) (evP g x e).1) src.items [] h1).bind fun vs h5 => match p with
      | none => lay (.lst vs) h5
      | some p => prSeq p vs h5
  | .rngv p a => ofV fun σ h => ((evP g x a).1 σ h).bind fun v h1 => match v with
    | .int j => if decide (j ≤ 16777216) && decide (-16777216 ≤ j) then prSeq p (rangeL 0 j.toNat) h1 else .no
    | _ => .no
  | .dcmp own t it cs k e => ofV fun σ h => (evI g x it σ h).bind fun src h1 => (loopD src.watch (dcmpBody t own σ (evCs g x cs) (evP g x k).1 (evP g x e).1) src.items [] h1).bind fun vs h6 => match dictOf vs with
      | some o => lay o h6
      | none => .no
  | .inr a es => ofV fun σ h => ((evP g x a).1 σ h).bind fun u h1 => (evs g x es σ h1).bind fun ws h2 => inrOp u ws h2
def evO (g : G) (x : Cur) : Option E → Sl → AH → Res (Option Int)
  | none, _, h => .ok none h
  | some e, σ, h => ((evP g x e).1 σ h).bind fun v h1 => oInt v h1
def evs (g : G) (x : Cur) : List E → Sl → AH → Res (List AV)
  | [], _, h => .ok [] h
  | e :: es, σ, h => ((evP g x e).1 σ h).bind fun v h1 => (evs g x es σ h1).bind fun vs h2 => .ok (v :: vs) h2
def evCs (g : G) (x : Cur) : List E → Sl → AH → Res Bool
  | [], _, h => .ok true h
  | e :: es, σ, h => ((evP g x e).2 σ h).bind fun b h1 => if b then evCs g x es σ h1 else .ok false h1
def evI (g : G) (x : Cur) : It → Sl → AH → Res Src
  | .seq e, σ, h => ((evP g x e).1 σ h).bind fun v h1 => match srcOf v h1 with
    | some s => .ok s h1
    | none => .no
  | .rng a, σ, h => ((evP g x a).1 σ h).bind fun v h1 => match v with
    | .int j => if smallR j then .ok ⟨rangeL 0 j.toNat, []⟩ h1 else .no
    | _ => .no
  | .rng2 a b, σ, h => ((evP g x a).1 σ h).bind fun v h1 => ((evP g x b).1 σ h1).bind fun w h2 => match v, w with
    | .int i, .int j => if smallR i && smallR j then .ok ⟨rangeL i (j - i).toNat, []⟩ h2 else .no
    | _, _ => .no
  | .enum a, σ, h => ((evP g x a).1 σ h).bind fun v h1 => if isRef v then (match srcOf v h1 with
    | some s => .ok ⟨enumL s.items, s.watch⟩ h1
    | none => .no) else .no
  | .zip a b, σ, h => ((evP g x a).1 σ h).bind fun v h1 => ((evP g x b).1 σ h1).bind fun w h2 => if isRef v && isRef w then (match srcOf v h2, srcOf w h2 with
    | some s, some t => .ok ⟨zipL s.items t.items, s.watch ++ t.watch⟩ h2
    | _, _ => .no) else .no
  | .enz a b, σ, h => ((evP g x a).1 σ h).bind fun v h1 => ((evP g x b).1 σ h1).bind fun w h2 => if isRef v && isRef w then (match srcOf v h2, srcOf w h2 with
    | some s, some t => if s.items.length = t.items.length then .ok ⟨enumL (zipL s.items t.items), s.watch ++ t.watch⟩ h2 else .no
    | _, _ => .no) else .no
end
abbrev ev (g : G) (x : Cur) (e : E) := (evP g x e).1
abbrev evT (g : G) (x : Cur) (e : E) := (evP g x e).2
/-- ints alone: what op= makes of them -/
def augV (op : Operator) (a : Int) (w : AV) : Option Int := match w with
  | .int b => (match op with
    | .Add => some (a + b)
    | .Sub => some (a - b)
    | _ => none)
  | _ => none
/-- an expression as a step of a statement -/
def Res.out (σ : Sl) (r : Res AV) (f : AV → AH → Out) : Out := match r with
  | .ok v h => f v h
  | .ex c fs h => .ex c fs σ h
  | .no => .no
/-- the name of an except clause goes -/
def unO (i : Option Nat) (σ : Sl) : Sl := match i with
  | some j => σ.set j none
  | none => σ
def inO (i : Option Nat) (σ : Sl) : Bool := match i with
  | some j => decide (j < σ.length)
  | none => true
def unS (i : Option Nat) (o : Out) : Out := match o with
  | .nx σ h => .nx (unO i σ) h
  | .bk σ h => .bk (unO i σ) h
  | .ct σ h => .ct (unO i σ) h
  | .rt v h => .rt v h
  | .ex _ _ _ _ => .no
  | .no => .no
mutual
def exS (g : G) (x : Cur) : S → Sl → AH → Out
  | .expr e, σ, h => (ev g x e σ h).out σ fun _ h1 => .nx σ h1
  | .set t e, σ, h => (ev g x e σ h).out σ fun v h1 => match putT t v σ with
    | some σ' => .nx σ' h1
    | none => .no
  | .setu ts e, σ, h => (ev g x e σ h).out σ fun v h1 => match rowOf v h1 with
    | some vs => (match putTs ts vs σ with
      | some σ' => .nx σ' h1
      | none => .no)
    | none => .no
  | .set2 t u e, σ, h => (ev g x e σ h).out σ fun v h1 => match (putT t v σ).bind fun σ' => putT u v σ' with
    | some σ' => .nx σ' h1
    | none => .no
  | .par i j a b, σ, h => (ev g x a σ h).out σ fun v h1 => (ev g x b σ h1).out σ fun w h2 => if i < σ.length ∧ j < σ.length then .nx ((σ.set i (some v)).set j (some w)) h2 else .no
  | .par3 i j l a b c, σ, h => (ev g x a σ h).out σ fun v h1 => (ev g x b σ h1).out σ fun w h2 => (ev g x c σ h2).out σ fun u h3 => if i < σ.length ∧ j < σ.length ∧ l < σ.length then .nx (((σ.set i (some v)).set j (some w)).set l (some u)) h3 else .no
  | .put o i e, σ, h => (ev g x e σ h).out σ fun v h1 => (ev g x o σ h1).out σ fun u h2 => (ev g x i σ h2).out σ fun w h3 => match putOp u w v h3 with
    | some h4 => .nx σ h4
    | none => .no
  | .fld o f e, σ, h => (ev g x e σ h).out σ fun v h1 => (ev g x o σ h1).out σ fun u h2 => match u with
    | .loc n => match h2[n]? with
      | some (.ins c fs) => if g.atr c f = true ∧ fs.length < 1000 ∧ fs.lookup f = none then .nx σ (h2.set n (.ins c (fs ++ [(f, v)]))) else .no
      | _ => .no
    | _ => .no
  | .aug i op e, σ, h => match σ[i]? with
    | some (some (.int a)) => (ev g x e σ h).out σ fun w h1 => match augV op a w with
      | some c => .nx (σ.set i (some (.int c))) h1
      | none => .no
    | _ => .no
  | .augp o i op e, σ, h => (ev g x o σ h).out σ fun u h1 => (ev g x i σ h1).out σ fun w h2 => (idxOp u w h2).out σ fun v h3 => (ev g x e σ h3).out σ fun y h4 => match v with
    | .int a => (match augV op a y with
      | some c => (match putOp u w (.int c) h4 with
        | some h6 => .nx σ h6
        | none => .no)
      | none => .no)
    | _ => .no
  | .ret e, σ, h => (ev g x e σ h).out σ fun v h1 => .rt v h1
  | .ite t a b, σ, h => match evT g x t σ h with
    | .ok c h1 => if c then exB g x a σ h1 else exB g x b σ h1
    | .ex c fs h1 => .ex c fs σ h1
    | .no => .no
  | .for_ t it b, σ, h => match evI g x it σ h with
    | .ok src h1 => loopS src.watch (fun v σ1 h2 => match putT t v σ1 with
      | some σ2 => exB g x b σ2 h2
      | none => .no) src.items σ h1
    | .ex c fs h1 => .ex c fs σ h1
    | .no => .no
  | .whl t b, σ, h => loopW (fun σ1 h1 => evT g x t σ1 h1) (fun σ1 h1 => exB g x b σ1 h1) g.fuel σ h
  | .brk, σ, h => .bk σ h
  | .ctn, σ, h => .ct σ h
  | .pass, σ, h => .nx σ h
  | .nev, _, _ => .no
  | .rse c f e, σ, h => match f with
    | some f => (ev g x e σ h).out σ fun v h1 => .ex c [(f, v)] σ h1
    | none => .ex c [] σ h
  | .try_ b hs, σ, h => match exB g x b σ h with
    | .ex c fs σ1 h1 => exH g hs c fs σ1 h1
    | o => o
def exB (g : G) (x : Cur) : List S → Sl → AH → Out
  | [], σ, h => .nx σ h
  | s :: r, σ, h => match exS g x s σ h with
    | .nx σ1 h1 => exB g x r σ1 h1
    | o => o
def exH (g : G) : List Hd → Nat → List (Str × AV) → Sl → AH → Out
  | [], c, fs, σ, h => .ex c fs σ h
  | .mk d i b :: r, c, fs, σ, h => if g.sub c c && g.sub d d && inO i σ then (if g.sub c d then unS i (exB g (some (c, fs)) b (unO i σ) h) else exH g r c fs σ h) else .no
end
/-- a def -/
structure Df where
  slots : Nat
  pars : Nat
  body : List S
def Df.run (d : Df) (g : G) (vs : List AV) (h : AH) : Res AV :=
  if vs.length = d.pars then (match exB g none d.body (vs.map some ++ List.replicate (d.slots - vs.length) none) h with
    | .nx _ h' => .ok .non h'
    | .rt v h' => .ok v h'
    | .ex c fs _ h' => .ex c fs h'
    | _ => .no) else .no
end Ev

set_option Elab.async false
set_option linter.all false
set_option maxRecDepth 100000
/-! From the text to the small language. -/
namespace Ev
open PySem PySem.Spec PyProof.Rows L2

/-- what the text's top gives -/
structure GE where
  fns : List (Str × Nat)
  exs : List (Str × Nat)
  exf : List Str
  ins : List (Str × Nat × Nat)
  mths : List (Str × Nat × Nat)
  cst : List (Str × AV)
  ex0 : List Nat := []

def visB (sc : Scope) (x : Str) : Bool := match sc.names.lookup x with
  | some .local => true
  | some .cell => true
  | some .free => true
  | _ => false
def locB (sc : Scope) (x : Str) : Bool := match sc.names.lookup x with
  | some .local => true
  | some .cell => true
  | _ => false
def glbB (sc : Scope) (x : Str) : Bool := match sc.names.lookup x with
  | some .globalImplicit => true
  | _ => false
def slotOf (N : List Str) (x : Str) : Option Nat := N.findIdx? fun y => decide (y = x)
def ownOf (N : List Str) (scope : Scope) : List (Str × Nat) := scope.names.filterMap fun p => match p.2 with
  | .local => (slotOf N p.1).map fun i => (p.1, i)
  | .cell => (slotOf N p.1).map fun i => (p.1, i)
  | _ => none
def prName (x : Str) : Option Pr :=
  if x = "len" then some .len else if x = "abs" then some .abs else if x = "int" then some .int else if x = "tuple" then some .tuple else if x = "list" then some .list
  else if x = "all" then some .all else if x = "any" then some .any else if x = "sum" then some .sum else if x = "min" then some .min else if x = "max" then some .max
  else if x = "repr" then some .repr else if x = "sorted" then some .sorted else none
def mtName (x : Str) : Option Mt :=
  if x = "append" then some .append else if x = "extend" then some .extend else if x = "pop" then some .pop else if x = "get" then some .get
  else if x = "insert" then some .insert else if x = "index" then some .index else none
def kindName (x : Str) : Option Nat :=
  if x = "int" then some 0 else if x = "bool" then some 1 else if x = "str" then some 2 else if x = "list" then some 3 else if x = "tuple" then some 4 else none
/-- the prs that take a comprehension's list -/
def prComp (p : Pr) : Bool := match p with
  | .tuple => true
  | .all => true
  | .any => true
  | .sum => true
  | _ => false

section
variable (Γ : GE) (N : List Str)
mutual
def cTg (sc : Scope) : Nat → Expr → Option Tg
  | 0, _ => none
  | k + 1, .Name x _ => if locB sc x then (slotOf N x).map .nm else none
  | k + 1, .Tuple es _ _ => (cTgs sc k es).map .tup
  | _ + 1, _ => none
def cTgs (sc : Scope) : Nat → List Expr → Option (List Tg)
  | 0, _ => none
  | _ + 1, [] => some []
  | k + 1, e :: es => (cTg sc k e).bind fun t => (cTgs sc k es).map fun ts => t :: ts
end
def kindsOf (sc : Scope) : Expr → Option (List Nat)
  | .Name x _ => if glbB sc x then (match kindName x with
    | some t => some [t]
    | none => (Γ.ins.lookup x).map fun p => [100 + p.1]) else none
  | .Tuple es _ _ => es.mapM fun e => match e with
    | .Name x _ => if glbB sc x then kindName x else none
    | _ => none
  | _ => none
mutual
/-- xv: the name of the error that is handled -/
def cE (sc : Scope) (xv : Option Str) : Nat → Expr → Option E
  | 0, _ => none
  | k + 1, .Name x _ => if visB sc x then (slotOf N x).map .var else if glbB sc x then (Γ.cst.lookup x).map .cst else none
  | k + 1, .Constant (.int i) _ _ => some (.cst (.int i))
  | k + 1, .Constant (.bool b) _ _ => some (.cst (.bl b))
  | k + 1, .Constant .none _ _ => some (.cst .non)
  | k + 1, .Constant (.str x) _ _ => some (.cst (.str x))
  | k + 1, .BinOp a op b _ => (cE sc xv k a).bind fun x => (cE sc xv k b).map fun y => .bin op x y
  | k + 1, .UnaryOp .USub a _ => (cE sc xv k a).map .neg
  | k + 1, .UnaryOp .Not a _ => (cE sc xv k a).map .not
  | k + 1, .BoolOp .And [a] _ => cE sc xv k a
  | k + 1, .BoolOp .Or [a] _ => cE sc xv k a
  | k + 1, .BoolOp .And (a :: b :: r) p => (cE sc xv k a).bind fun x => (cE sc xv k (.BoolOp .And (b :: r) p)).map fun y => .and x y
  | k + 1, .BoolOp .Or (a :: b :: r) p => (cE sc xv k a).bind fun x => (cE sc xv k (.BoolOp .Or (b :: r) p)).map fun y => .or x y
  | k + 1, .Compare a [.Is] [.Constant .none _ _] _ => (cE sc xv k a).map (.isN true)
  | k + 1, .Compare a [.IsNot] [.Constant .none _ _] _ => (cE sc xv k a).map (.isN false)
  | k + 1, .Compare a [op] [b] _ => (cE sc xv k a).bind fun x => (cE sc xv k b).map fun y => .cmp op x y
  | k + 1, .Compare a [op, op'] [b, c] _ => (cE sc xv k a).bind fun x => (cE sc xv k b).bind fun y => (cE sc xv k c).map fun z => .chain op op' x y z
  | k + 1, .IfExp t a b _ => (cE sc xv k t).bind fun x => (cE sc xv k a).bind fun y => (cE sc xv k b).map fun z => .ite x y z
  | k + 1, .Subscript a (.Slice lo hi none _) _ => (cE sc xv k a).bind fun x => (cO sc xv k lo).bind fun l => (cO sc xv k hi).map fun u => .slc x l u
  | k + 1, .Subscript a i _ => (cE sc xv k a).bind fun x => (cE sc xv k i).map fun y => .idx x y
  | k + 1, .Attribute (.Name x p) f _ => if xv = some x then some (.xfld f) else (cE sc xv k (.Name x p)).map fun y => .fld y f
  | k + 1, .Attribute e f _ => (cE sc xv k e).map fun y => .fld y f
  | k + 1, .Tuple es _ _ => (cEs sc xv k es).map .tup
  | k + 1, .List es _ => (cEs sc xv k es).map .lst
  | k + 1, .Dict ks vs _ => (ks.mapM id).bind fun ks => (cEs sc xv k ks).bind fun es => (cEs sc xv k vs).map fun fs => .dct es fs
  | k + 1, .ListComp e [⟨t, it, ifs, 0⟩] scope _ => cC sc xv k none e t it ifs scope
  | k + 1, .DictComp a e [⟨t, it, ifs, 0⟩] scope _ => (cI sc xv k it).bind fun i => (cTg N (relS scope sc) k t).bind fun tg => (cEs (relS scope sc) xv k ifs).bind fun cs => (cE (relS scope sc) xv k a).bind fun x => (cE (relS scope sc) xv k e).map fun y => .dcmp ((ownOf N scope).map (·.2)) tg i cs x y
  | k + 1, .Call (.Name x _) es [] _ => if glbB sc x then (match Γ.fns.lookup x with
    | some f => (cEs sc xv k es).map fun vs => .call f vs
    | none => match Γ.ins.lookup x with
      | some (c, f) => (cEs sc xv k es).map fun vs => .mk c f vs
      | none => if x = "isinstance" then (match es with
          | [.Name y p, c] => if xv = some y then (match c with
              | .Name z _ => (Γ.exs.lookup z).map .xis
              | _ => none) else (cE sc xv k (.Name y p)).bind fun v => (kindsOf Γ sc c).map fun ts => .isi v ts
          | [a, c] => (cE sc xv k a).bind fun v => (kindsOf Γ sc c).map fun ts => .isi v ts
          | _ => none)
        else match prName x with
          | some p => match es with
            | [.ListComp e [⟨t, it, ifs, 0⟩] scope _] => if prComp p then cC sc xv k (some p) e t it ifs scope else (cEs sc xv k es).map fun vs => .pr p vs
            | [.Call (.Name y _) [a] [] _] => if y = "range" && glbB sc y && (Γ.fns.lookup y).isNone && (decide (p = .tuple) || decide (p = .list)) then (cE sc xv k a).map (.rngv p) else (cEs sc xv k es).map fun vs => .pr p vs
            | _ => (cEs sc xv k es).map fun vs => .pr p vs
          | none => none) else none
  | k + 1, .Call (.Attribute o m _) es [] _ => (cE sc xv k o).bind fun v => (cEs sc xv k es).bind fun vs => match Γ.mths.lookup m with
    | some (c, f) => some (.meth c m f v vs)
    | none => (mtName m).map fun t => .mt t v vs
  | _ + 1, _ => none
def cC (sc : Scope) (xv : Option Str) : Nat → Option Pr → Expr → Expr → Expr → List Expr → Scope → Option E
  | 0, _, _, _, _, _, _ => none
  | k + 1, p, e, t, it, ifs, scope => (cI sc xv k it).bind fun i => (cTg N (relS scope sc) k t).bind fun tg => (cEs (relS scope sc) xv k ifs).bind fun cs => (cE (relS scope sc) xv k e).map fun y => .comp p ((ownOf N scope).map (·.2)) tg i cs y
def cO (sc : Scope) (xv : Option Str) : Nat → Option Expr → Option (Option E)
  | 0, _ => none
  | _ + 1, none => some none
  | k + 1, some e => (cE sc xv k e).map some
def cEs (sc : Scope) (xv : Option Str) : Nat → List Expr → Option (List E)
  | 0, _ => none
  | _ + 1, [] => some []
  | k + 1, e :: es => (cE sc xv k e).bind fun x => (cEs sc xv k es).map fun xs => x :: xs
def cI (sc : Scope) (xv : Option Str) : Nat → Expr → Option It
  | 0, _ => none
  | k + 1, .Call (.Name x p) [a] [] q => if glbB sc x && (Γ.fns.lookup x).isNone && decide (x = "range") then (cE sc xv k a).map .rng
    else if glbB sc x && (Γ.fns.lookup x).isNone && decide (x = "enumerate") then (cE sc xv k a).map .enum
    else (cE sc xv k (.Call (.Name x p) [a] [] q)).map .seq
  | k + 1, .Call (.Name x p) [a, b] [] q => if glbB sc x && (Γ.fns.lookup x).isNone && decide (x = "range") then (cE sc xv k a).bind fun u => (cE sc xv k b).map fun v => .rng2 u v
    else if glbB sc x && (Γ.fns.lookup x).isNone && decide (x = "zip") then (cE sc xv k a).bind fun u => (cE sc xv k b).map fun v => .zip u v
    else (cE sc xv k (.Call (.Name x p) [a, b] [] q)).map .seq
  | k + 1, e => (cE sc xv k e).map .seq
end
mutual
def cS (sc : Scope) (xv : Option Str) : Nat → Stmt → Option S
  | 0, _ => none
  | k + 1, .Expr e _ => (cE Γ N sc xv k e).map .expr
  | k + 1, .Return none _ => some (.ret (.cst .non))
  | k + 1, .Return (some e) _ => (cE Γ N sc xv k e).map .ret
  | k + 1, .Pass _ => some .pass
  | k + 1, .Break _ => some .brk
  | k + 1, .Continue _ => some .ctn
  | k + 1, .Assign [.Tuple [.Name x _, .Name y _] _ _] (.Tuple [a, b] _ _) _ => (slotOf N x).bind fun i => (slotOf N y).bind fun j => (cE Γ N sc xv k a).bind fun u => (cE Γ N sc xv k b).map fun v => .par i j u v
  | k + 1, .Assign [.Subscript o i _] e _ => (cE Γ N sc xv k o).bind fun u => (cE Γ N sc xv k i).bind fun v => (cE Γ N sc xv k e).map fun w => .put u v w
  | k + 1, .Assign [.Attribute o f _] e _ => (cE Γ N sc xv k o).bind fun u => (cE Γ N sc xv k e).map fun w => .fld u f w
  | k + 1, .Assign [t] e _ => (cTg N sc k t).bind fun tg => (cE Γ N sc xv k e).map fun u => .set tg u
  | k + 1, .Assign [t, u] e _ => (cTg N sc k t).bind fun tg => (cTg N sc k u).bind fun ug => (cE Γ N sc xv k e).map fun v => .set2 tg ug v
  | k + 1, .AugAssign (.Name x _) op e _ => if locB sc x then (slotOf N x).bind fun i => (cE Γ N sc xv k e).map fun u => .aug i op u else none
  | k + 1, .AugAssign (.Subscript o i _) op e _ => (cE Γ N sc xv k o).bind fun u => (cE Γ N sc xv k i).bind fun v => (cE Γ N sc xv k e).map fun w => .augp u v op w
  | k + 1, .If t a b _ => (cE Γ N sc xv k t).bind fun u => (cB sc xv k a).bind fun v => (cB sc xv k b).map fun w => .ite u v w
  | k + 1, .For t it b [] _ => (cTg N sc k t).bind fun tg => (cI Γ N sc xv k it).bind fun i => (cB sc xv k b).map fun v => .for_ tg i v
  | k + 1, .While t b [] _ => (cE Γ N sc xv k t).bind fun u => (cB sc xv k b).map fun v => .whl u v
  | k + 1, .Raise (some (.Call (.Name x _) [e] [] _)) none _ => if glbB sc x then (Γ.exs.lookup x).bind fun c => (Γ.exf[c]?).bind fun f => (cE Γ N sc xv k e).map fun u => .rse c f u else none
  | k + 1, .Try b hs [] [] _ => (cB sc xv k b).bind fun u => (cH sc k hs).map fun v => .try_ u v
  | _ + 1, _ => none
def cB (sc : Scope) (xv : Option Str) : Nat → List Stmt → Option (List S)
  | 0, _ => none
  | _ + 1, [] => some []
  | k + 1, s :: r => (cS sc xv k s).bind fun u => (cB sc xv k r).map fun v => u :: v
def cH (sc : Scope) : Nat → List ExceptHandler → Option (List Hd)
  | 0, _ => none
  | _ + 1, [] => some []
  | k + 1, .ExceptHandler (some (.Name x _)) n b _ :: r => if glbB sc x then (Γ.exs.lookup x).bind fun c => (cB sc n k b).bind fun u => (cH sc k r).map fun v => .mk c (n.bind (slotOf N)) u :: v else none
  | _ + 1, _ => none
end
end
end Ev

set_option Elab.async false
set_option linter.all false
set_option maxRecDepth 100000
/-! What is wanted behind a step of the small language, in the layer's words. -/
namespace Ev
open PySem PySem.Spec L2

structure RS (K : PySem.W.Frag) (ρ : List Addr) (H : Hp) (as : Sl) (σ : St) : Prop where
  len : as.length = σ.length
  at_ : ∀ (i : Nat) (v : AV), as[i]? = some (some v) → ∃ x, σ[i]? = some (some x) ∧ RV K ρ H v x
theorem RS.mono {K : PySem.W.Frag} {ρ : List Addr} {H H' : Hp} {as : Sl} {σ : St} (r : RS K ρ H as σ) (ρ' : List Addr) (e : Ext H H') : RS K (ρ ++ ρ') H' as σ :=
  ⟨r.len, fun i v h => let ⟨x, hx, rv⟩ := r.at_ i v h; ⟨x, hx, rv.mono ρ' e⟩⟩
theorem RS.set {K : PySem.W.Frag} {ρ : List Addr} {H : Hp} {as : Sl} {σ : St} (r : RS K ρ H as σ) {i : Nat} {v : AV} {x : V} (rv : RV K ρ H v x) : RS K ρ H (as.set i (some v)) (σ.set i (some x)) := by
  refine ⟨by simp [r.len], fun j w h => ?_⟩
  by_cases hj : j = i
  · subst hj
    have hl : j < as.length := by
      have := (List.getElem?_eq_some_iff.mp h).1
      simpa using this
    rw [List.getElem?_set_self hl] at h
    cases h
    exact ⟨x, by rw [List.getElem?_set_self (by rw [← r.len]; exact hl)], rv⟩
  · rw [List.getElem?_set_ne (Ne.symm hj)] at h
    obtain ⟨y, hy, ry⟩ := r.at_ j w h
    exact ⟨y, by rw [List.getElem?_set_ne (Ne.symm hj)]; exact hy, ry⟩
theorem RS.none {K : PySem.W.Frag} {ρ : List Addr} {H : Hp} {as : Sl} {σ : St} (r : RS K ρ H as σ) (i : Nat) : RS K ρ H (as.set i none) (σ.set i none) := by
  refine ⟨by simp [r.len], fun j w h => ?_⟩
  by_cases hj : j = i
  · subst hj
    have hl : j < as.length := by
      have := (List.getElem?_eq_some_iff.mp h).1
      simpa using this
    rw [List.getElem?_set_self hl] at h
    cases h
  · rw [List.getElem?_set_ne (Ne.symm hj)] at h
    obtain ⟨y, hy, ry⟩ := r.at_ j w h
    exact ⟨y, by rw [List.getElem?_set_ne (Ne.symm hj)]; exact hy, ry⟩

/-- how a result of ours and one of the layer belong together -/
abbrev Rl (α β : Type) := List Addr → Hp → α → β → Prop
class Mono {α β : Type} (R : Rl α β) : Prop where
  mono : ∀ {ρ : List Addr} {H H' : Hp} {a : α} {b : β} (ρ' : List Addr), Ext H H' → R ρ H a b → R (ρ ++ ρ') H' a b
instance (K : PySem.W.Frag) : Mono (RV K) := ⟨fun ρ' e r => r.mono ρ' e⟩
instance (K : PySem.W.Frag) : Mono (RVs K) := ⟨fun ρ' e r => r.mono ρ' e⟩
/-- equal -/
def RQ {α : Type} : Rl α α := fun _ _ a b => a = b
instance {α : Type} : Mono (RQ (α := α)) := ⟨fun _ _ r => r⟩

/-- the dict of an error, if it has one -/
def xdAt (H : Hp) (d : Option Addr) (ys : List (Str × V)) : Prop := match d with
  | some a => H a = some (.xd ys)
  | none => ys = []
theorem xdAt.ext {H H' : Hp} (e : Ext H H') {d : Option Addr} {ys : List (Str × V)} (h : xdAt H d ys) : xdAt H' d ys := by
  cases d with
  | none => exact h
  | some a => exact e.xd _ _ h
section
variable (K : PySem.W.Frag) (C : Nat → Addr)
def Po {α β : Type} (R : Rl α β) (W : Value → Option Addr → Hp → Prop) (ρ : List Addr) (H : Hp) (r : Res α) (Q : β → Hp → Prop) : Prop := match r with
  | .ok v h' => ∀ (ρ' : List Addr) (H' : Hp) (y : β), SR K C (ρ ++ ρ') h' H' → Ext H H' → Fr ρ ρ' H H' → R (ρ ++ ρ') H' v y → Q y H'
  | .ex c fs h' => ∀ (ρ' : List Addr) (H' : Hp) (d : Option Addr) (ys : List (Str × V)), SR K C (ρ ++ ρ') h' H' → Ext H H' → Fr ρ ρ' H H' → xdAt H' d ys → RP K (ρ ++ ρ') H' fs ys → W (.ref (C c)) d H'
  | .no => False
/-- the state as it stands, and a step from it -/
def At {α β : Type} (R : Rl α β) (W : WX) (f : Sl → AH → Res α) (σ : St) (H : Hp) (Q : β → Hp → Prop) : Prop :=
  ∃ (ρ : List Addr) (as : Sl) (h : AH), RS K ρ H as σ ∧ SR K C ρ h H ∧ Po K C R (fun c d H' => W c d σ H') ρ H (f as h) Q
end
section
variable {K : PySem.W.Frag} {C : Nat → Addr} {α β γ δ : Type} {R : Rl α β} {R' : Rl γ δ} {W : Value → Option Addr → Hp → Prop} {ρ : List Addr} {H : Hp}
theorem Po.mono {r : Res α} {Q : β → Hp → Prop} {H' : Hp} (ρ' : List Addr) (e : Ext H H') (f : Fr ρ ρ' H H') (p : Po K C R W ρ H r Q) : Po K C R W (ρ ++ ρ') H' r Q := by
  cases r with
  | ok v h' =>
    intro ρ2 H2 y s e2 f2 rv
    rw [List.append_assoc] at s rv
    exact p (ρ' ++ ρ2) H2 y s (e.trans e2) (f.trans f2) rv
  | ex c fs h' =>
    intro ρ2 H2 d ys s e2 f2 hd rp
    rw [List.append_assoc] at s rp
    exact p (ρ' ++ ρ2) H2 d ys s (e.trans e2) (f.trans f2) hd rp
  | no => exact p
theorem Po.imp {r : Res α} {Q Q' : β → Hp → Prop} (p : Po K C R W ρ H r Q) (h : ∀ y H', Q y H' → Q' y H') : Po K C R W ρ H r Q' := by
  cases r with
  | ok v h' => exact fun ρ2 H2 y s e f rv => h _ _ (p ρ2 H2 y s e f rv)
  | ex c fs h' => exact p
  | no => exact p
/-- a step and the next one -/
theorem Po.bind {r : Res α} {k : α → AH → Res γ} {Q : δ → Hp → Prop} (p : Po K C R' W ρ H (r.bind k) Q) :
    Po K C R W ρ H r (fun y H1 => ∃ (ρ1 : List Addr) (h1 : AH) (v : α), Ext H H1 ∧ Fr ρ ρ1 H H1 ∧ SR K C (ρ ++ ρ1) h1 H1 ∧ R (ρ ++ ρ1) H1 v y ∧ Po K C R' W (ρ ++ ρ1) H1 (k v h1) Q) := by
  cases r with
  | ok v h' => exact fun ρ2 H2 y s e f rv => ⟨ρ2, h', v, e, f, s, rv, Po.mono (r := k v h') ρ2 e f p⟩
  | ex c fs h' => exact p
  | no => exact p
theorem Po.ok {v : α} {h : AH} {y : β} {Q : β → Hp → Prop} (p : Po K C R W ρ H (.ok v h) Q) (s : SR K C ρ h H) (r : R ρ H v y) : Q y H :=
  p [] H y (by rw [List.append_nil]; exact s) (Ext.refl H) (Fr.refl ρ H) (by rw [List.append_nil]; exact r)
/-- .. a new object -/
theorem Po.new {v : α} {h : AH} {y : β} {Q : β → Hp → Prop} {p' : Addr} {H' : Hp} (p : Po K C R W ρ H (.ok v h) Q) (e : Ext H H') (f : Fr ρ [p'] H H') (s : SR K C (ρ ++ [p']) h H') (r : R (ρ ++ [p']) H' v y) : Q y H' :=
  p [p'] H' y s e f r
theorem Po.same {v : α} {h : AH} {y : β} {Q : β → Hp → Prop} {H' : Hp} (p : Po K C R W ρ H (.ok v h) Q) (e : Ext H H') (f : Fr ρ [] H H') (s : SR K C ρ h H') (r : R ρ H' v y) : Q y H' :=
  p [] H' y (by rw [List.append_nil]; exact s) e f (by rw [List.append_nil]; exact r)
end
theorem RS.wipe {K : PySem.W.Frag} {ρ : List Addr} {H : Hp} {as : Sl} {σ : St} (r : RS K ρ H as σ) : ∀ own : List Nat, RS K ρ H (wipeA own as) (wipe σ own)
  | [] => r
  | i :: own => (RS.wipe r own).none i
end Ev

set_option Elab.async false
set_option linter.all false
set_option maxRecDepth 100000
set_option maxHeartbeats 8000000
/-! Operators by values: ours are the layer's. -/
namespace Ev
open PySem PySem.Spec L2

section
variable {K : PySem.W.Frag} {C : Nat → Addr} {ρ : List Addr} {h : AH} {H : Hp} {W : Value → Option Addr → Hp → Prop} {Q : V → Hp → Prop}
/-- a new tuple -/
theorem Po.tup {xs : List AV} {ys : List V} {p : Addr} (q : Po K C (RV K) W ρ H (.ok (.tup xs) h) Q) (s : SR K C ρ h H) (r : RVs K ρ H xs ys) (hp : H p = none) : Q (.ref p) (upd H p (.tup ys)) :=
  q.same (Ext.laid hp) (Fr.laid hp (by simp)) (s.tup hp) (.tup upd_same (r.ext (Ext.laid hp)))
/-- a new list -/
theorem Po.lst {xs : List AV} {ys : List V} {p : Addr} (q : Po K C (RV K) W ρ H (.ok (.loc h.length) (h ++ [.lst xs])) Q) (s : SR K C ρ h H) (r : RVs K ρ H xs ys) (hp : H p = none) : Q (.ref p) (upd H p (.lst ys)) :=
  q.new (Ext.laid hp) (Fr.laid hp (by simp)) (s.laid hp ⟨ys, upd_same, r.mono [p] (Ext.laid hp)⟩) (.loc (by rw [s.len]; simp))
/-- a list changed -/
theorem Po.put {v : AV} {x : V} {n : Nat} {a : Addr} {xs ys : List AV} {zs : List V} (q : Po K C (RV K) W ρ H (.ok v (h.set n (.lst ys))) Q) (s : SR K C ρ h H) (e : h[n]? = some (.lst xs)) (ha : ρ[n]? = some a) (r : RVs K ρ H ys zs) (rv : RV K ρ H v x) :
    Q x (upd H a (.lst zs)) := by
  have ex : Ext H (upd H a (.lst zs)) := s.ext_put e ha
  exact q.same ex (Fr.put (List.mem_of_getElem? ha)) (s.put e ha ⟨zs, upd_same, r.ext ex⟩) (rv.ext ex)
theorem SR.lst (s : SR K C ρ h H) {n : Nat} {xs : List AV} (e : h[n]? = some (.lst xs)) {v : V} (r : RV K ρ H (.loc n) v) : ∃ a ys, v = .ref a ∧ ρ[n]? = some a ∧ H a = some (.lst ys) ∧ RVs K ρ H xs ys := by
  cases r with
  | loc hn =>
    obtain ⟨ys, hy, ry⟩ := s.obj n _ _ e hn
    exact ⟨_, ys, rfl, hn, hy, ry⟩
/-- a list, read -/
theorem SR.seqL (s : SR K C ρ h H) {n : Nat} {xs : List AV} (e : h[n]? = some (.lst xs)) {v : V} (r : RV K ρ H (.loc n) v) : ∃ a ys, v = .ref a ∧ SqL K H a ys ∧ RVs K ρ H xs ys := by
  obtain ⟨a, ys, h1, _, h3, h4⟩ := s.lst e r
  exact ⟨a, ys, h1, SqL.of h3, h4⟩
theorem rol_inj {xs : List AV} {v : V} (r : RV K ρ H (.rol xs) v) : ∃ a ys, v = .ref a ∧ SqL K H a ys ∧ RVs K ρ H xs ys := by
  cases r with
  | rol hq rr => exact ⟨_, _, rfl, hq.sq, rr⟩
/-- .. or a tuple -/
theorem SR.items (s : SR K C ρ h H) {a : AV} {xs : List AV} (e : itemsOf a h = some xs) {v : V} (r : RV K ρ H a v) : ∃ p ys, v = .ref p ∧ ((isLoc a = true ∧ SqL K H p ys) ∨ (isLoc a = false ∧ SqT K H p ys)) ∧ RVs K ρ H xs ys := by
  cases a with
  | tup zs =>
    have e' : zs = xs := by simpa [itemsOf] using e
    subst e'
    cases r with
    | tup hq rr => exact ⟨_, _, rfl, .inr ⟨rfl, SqT.of hq⟩, rr⟩
  | rol zs =>
    have e' : zs = xs := by simpa [itemsOf] using e
    subst e'
    obtain ⟨p, ys, h1, h2, h3⟩ := rol_inj r
    exact ⟨p, ys, h1, .inl ⟨rfl, h2⟩, h3⟩
  | loc n =>
    simp only [itemsOf] at e
    split at e
    · next xs' he =>
      have e' : xs' = xs := Option.some.inj e
      subst e'
      obtain ⟨p, ys, h1, h2, h3⟩ := s.seqL he r
      exact ⟨p, ys, h1, .inl ⟨rfl, h2⟩, h3⟩
    · cases e
  | _ => simp [itemsOf] at e

/-! ### data -/
theorem mapM_cons_some {α β : Type} {f : α → Option β} {x : α} {xs : List α} {r : List β} (e : (x :: xs).mapM f = some r) : ∃ y ys, f x = some y ∧ xs.mapM f = some ys ∧ r = y :: ys := by
  simp only [List.mapM_cons, Option.bind_eq_bind, Option.bind_eq_some_iff] at e
  obtain ⟨y, hy, ys, hys, e⟩ := e
  exact ⟨y, ys, hy, hys, (Option.some.inj e).symm⟩
theorem mapM_nil_some {α β : Type} {f : α → Option β} {r : List β} (e : ([] : List α).mapM f = some r) : r = [] := by
  simpa using e.symm
mutual
theorem dat_dp (s : SR K C ρ h H) : ∀ (k : Nat) {a : AV} {d : PyData} {v : V}, AV.dat h k a = some d → RV K ρ H a v → Dp K H v d ∧ d.canLay0 = true ∧ d.depth ≤ k
  | 0, _, _, _, e, _ => by simp [AV.dat] at e
  | k + 1, .non, d, v, e, r => by
    cases r
    simp [AV.dat] at e; subst e
    exact ⟨.non, by simp [PyData.canLay0], by simp [PyData.depth]⟩
  | k + 1, .bl b, d, v, e, r => by
    cases r
    simp [AV.dat] at e; subst e
    exact ⟨.bl b, by simp [PyData.canLay0], by simp [PyData.depth]⟩
  | k + 1, .int i, d, v, e, r => by
    cases r
    simp [AV.dat] at e; subst e
    exact ⟨.int i, by simp [PyData.canLay0], by simp [PyData.depth]⟩
  | k + 1, .str x, d, v, e, r => by
    cases r
    simp only [AV.dat] at e
    split at e
    · next hx =>
      cases e
      exact ⟨.str x, by simpa [PyData.canLay0] using hx, by simp [PyData.depth]⟩
    · cases e
  | k + 1, .tup xs, d, v, e, r => by
    cases r with
    | tup hq rr =>
      simp only [AV.dat, Option.map_eq_some_iff] at e
      obtain ⟨ds, e, rfl⟩ := e
      obtain ⟨q1, q2, q3⟩ := dats_dp s k xs e rr
      exact ⟨.tup (SqT.of hq) q1, by simpa [PyData.canLay0] using q2, by simp only [PyData.depth]; omega⟩
  | k + 1, .rol xs, d, v, e, r => by
    obtain ⟨a, ys, rfl, hq, rr⟩ := rol_inj r
    simp only [AV.dat, Option.map_eq_some_iff] at e
    obtain ⟨ds, e, rfl⟩ := e
    obtain ⟨q1, q2, q3⟩ := dats_dp s k xs e rr
    exact ⟨.lst hq q1, by simpa [PyData.canLay0] using q2, by simp only [PyData.depth]; omega⟩
  | k + 1, .loc n, d, v, e, r => by
    simp only [AV.dat] at e
    split at e
    · next xs he =>
      simp only [Option.map_eq_some_iff] at e
      obtain ⟨ds, e, rfl⟩ := e
      obtain ⟨a, ys, rfl, hq, rr⟩ := s.seqL he r
      obtain ⟨q1, q2, q3⟩ := dats_dp s k xs e rr
      exact ⟨.lst hq q1, by simpa [PyData.canLay0] using q2, by simp only [PyData.depth]; omega⟩
    · cases e
  termination_by k a => (k, 0)
theorem dats_dp (s : SR K C ρ h H) : ∀ (k : Nat) (xs : List AV) {ds : List PyData} {ys : List V}, xs.mapM (fun x => AV.dat h k x) = some ds → RVs K ρ H xs ys → DpAll K H ys ds ∧ PyData.canLayAll0 ds = true ∧ PyData.depthAll ds ≤ k
  | k, [], ds, ys, e, r => by
    cases r
    have := mapM_nil_some e
    subst this
    exact ⟨.nil, by simp [PyData.canLayAll0], by simp [PyData.depthAll]⟩
  | k, x :: xs, ds, ys, e, r => by
    cases r with
    | cons r1 r2 =>
      obtain ⟨d, ds', e1, e2, rfl⟩ := mapM_cons_some e
      obtain ⟨p1, p2, p3⟩ := dat_dp s k e1 r1
      obtain ⟨q1, q2, q3⟩ := dats_dp s k xs e2 r2
      exact ⟨.cons p1 q1, by simp [PyData.canLayAll0, p2, q2], by simp only [PyData.depthAll]; omega⟩
  termination_by k xs => (k, xs.length + 1)
end
theorem shaped_of {d : PyData} (h1 : d.canLay0 = true) {k : Nat} (h2 : d.depth ≤ k) (hk : k ≤ 60 := by decide) : SeqAt.shaped d = true := by
  simp only [SeqAt.shaped, h1, Bool.true_and, decide_eq_true_eq]; omega
end
end Ev

set_option Elab.async false
set_option linter.all false
set_option maxRecDepth 100000
set_option maxHeartbeats 8000000
namespace Ev
open PySem PySem.Spec L2

section
variable {X : Cx} {C : Nat → Addr}
/-- a step by two values -/
def r2 (K : PySem.W.Frag) (C : Nat → Addr) (f : AV → AV → AH → Res AV) : R2 := fun x y H Q =>
  ∃ (ρ : List Addr) (h : AH) (a b : AV) (W : Value → Option Addr → Hp → Prop), SR K C ρ h H ∧ RV K ρ H a x ∧ RV K ρ H b y ∧ Po K C (RV K) W ρ H (f a b h) Q
theorem rvs_nil {K : PySem.W.Frag} {ρ : List Addr} {H : Hp} {xs : List AV} {ys : List V} (r : RVs K ρ H xs ys) : xs = [] ↔ ys = [] := by
  cases r <;> simp
theorem fewMul_ok {i j : Int} (e : fewMul i j = true) : CMul i j := by
  simp only [fewMul, small, Bool.or_eq_true, Bool.and_eq_true, decide_eq_true_eq] at e
  exact e
theorem divOk_ok {i j : Int} (e : divOk i j = true) : CDivN i j := by
  simp only [divOk, Bool.and_eq_true, decide_eq_true_eq] at e
  exact e
theorem powOk_ok {i j : Int} (e : powOk i j = true) : CPow i j := by
  simp only [powOk, Bool.and_eq_true, decide_eq_true_eq] at e
  exact ⟨e.1.1, e.1.2, e.2⟩
theorem intOp_ok {f : Value → Value → Sem Value} {g : Int → Int → Int} {B : Int → Int → Bool} {P : Int → Int → Prop} (ho : OpR X f (rI P fun i j => .int (g i j))) (hB : ∀ i j, B i j = true → P i j) :
    OpR X f (r2 X.K C (intOp g B)) := by
  intro pins s σ H x y v u Q I rx ry ⟨ρ, h, a, b, W, sr, ra, rb, p⟩
  cases a with
  | int i =>
    cases b with
    | int j =>
      cases ra; cases rb
      simp only [intOp] at p
      split at p
      · next hc => exact ho pins s σ H _ _ v u Q I rx ry ⟨i, j, rfl, rfl, hB _ _ hc, p.ok sr (.int _)⟩
      · exact p.elim
    | _ => exact p.elim
  | _ => exact p.elim
theorem rI_of0 {f : Value → Value → Sem Value} {g : Int → Int → V} (ho : OpR X f (rI0 g)) : OpR X f (rI (fun _ _ => True) g) := by
  intro pins s σ H x y v u Q I rx ry ⟨i, j, h1, h2, _, q⟩
  exact ho pins s σ H x y v u Q I rx ry ⟨i, j, h1, h2, q⟩
theorem sqT_inj {K : PySem.W.Frag} {ρ : List Addr} {H : Hp} {xs : List AV} {v : V} (r : RV K ρ H (.tup xs) v) : ∃ a ys, v = .ref a ∧ SqT K H a ys ∧ RVs K ρ H xs ys := by
  cases r with
  | tup hq rr => exact ⟨_, _, rfl, SqT.of hq, rr⟩
theorem tup_inj {K : PySem.W.Frag} {ρ : List Addr} {H : Hp} {xs : List AV} {v : V} (r : RV K ρ H (.tup xs) v) : ∃ a ys, v = .ref a ∧ H a = some (.tup ys) ∧ RVs K ρ H xs ys := by
  cases r with
  | tup hq rr => exact ⟨_, _, rfl, hq, rr⟩
theorem flat_rep {α : Type} (xs : List α) (n : Nat) : (List.replicate n xs).flatten.length = n * xs.length := by
  induction n with
  | zero => simp
  | succ n ih => rw [List.replicate_succ, List.flatten_cons, List.length_append, ih]; rw [Nat.succ_mul]; omega
theorem RVs.rep {K : PySem.W.Frag} {ρ : List Addr} {H : Hp} {xs : List AV} {ys : List V} (r : RVs K ρ H xs ys) : ∀ n, RVs K ρ H (List.replicate n xs).flatten (List.replicate n ys).flatten
  | 0 => .nil
  | n + 1 => by
    rw [List.replicate_succ, List.flatten_cons, List.replicate_succ, List.flatten_cons]
    exact r.append (RVs.rep r n)
theorem RVs.replicate_len {K : PySem.W.Frag} {ρ : List Addr} {H : Hp} {xs : List AV} {ys : List V} (r : RVs K ρ H xs ys) (n : Nat) : xs.length * n = ys.length * n := by rw [r.length]

theorem add_ok : OpR X (binaryOp .Add) (r2 X.K C (binOp .Add)) := by
  intro pins s σ H x y v u Q I rx ry ⟨ρ, h, a, b, W, sr, ra, rb, p⟩
  cases a with
  | int i =>
    cases b with
    | int j =>
      cases ra; cases rb
      exact op_add pins s σ H _ _ v u Q I rx ry ⟨i, j, rfl, rfl, p.ok sr (.int _)⟩
    | _ => exact p.elim
  | str i =>
    cases b with
    | str j =>
      cases ra; cases rb
      simp only [binOp] at p
      split at p
      · next hc => exact op_add_str pins s σ H _ _ v u Q I rx ry ⟨i, j, rfl, rfl, hc, p.ok sr (.str _)⟩
      · exact p.elim
    | _ => exact p.elim
  | tup xs =>
    cases b with
    | tup ys =>
      obtain ⟨a1, vs, rfl, q1, r1⟩ := sqT_inj ra
      obtain ⟨a2, ws, rfl, q2, r2'⟩ := sqT_inj rb
      simp only [binOp] at p
      split at p
      · next hc =>
        refine op_catA pins s σ H _ _ v u Q I rx ry ⟨a1, a2, vs, ws, rfl, rfl, q1, q2, by rw [← r1.length, ← r2'.length]; exact hc, fun e => ?_, fun e1 e2 => ?_, fun _ _ p' hp => ?_⟩
        · have : xs = [] := (rvs_nil r1).mpr e
          subst this
          exact p.ok sr rb
        · have : ys = [] := (rvs_nil r2').mpr e2
          subst this
          rw [List.append_nil] at p
          exact p.ok sr ra
        · exact p.tup sr (r1.append r2') hp
      · exact p.elim
    | _ => exact p.elim
  | loc n =>
    cases b with
    | loc m =>
      simp only [binOp] at p
      split at p
      · next xs ys e1 e2 =>
        split at p
        · next hc =>
          obtain ⟨a1, vs, rfl, _, q1, r1⟩ := sr.lst e1 ra
          obtain ⟨a2, ws, rfl, _, q2, r2'⟩ := sr.lst e2 rb
          exact op_cat pins s σ H _ _ v u Q I rx ry ⟨a1, a2, vs, ws, rfl, rfl, q1, q2, by rw [← r1.length, ← r2'.length]; exact hc, fun p' hp => p.lst sr (r1.append r2') hp⟩
        · exact p.elim
      · exact p.elim
    | _ => exact p.elim
  | _ => exact p.elim

/-! ### comparisons -/
theorem eq_ok (hu : X.A.units + 64 < cLine) : OpR X (compareOp .Eq) (r2 X.K C (cmpOp .Eq)) := by
  intro pins s σ H x y v u Q I rx ry ⟨ρ, h, a, b, W, sr, ra, rb, p⟩
  simp only [cmpOp] at p
  split at p
  · next r e =>
    unfold eqDeep at e
    split at e
    · next d e' h1 h2 =>
      cases e
      obtain ⟨p1, p2, p3⟩ := dat_dp sr 40 h1 ra
      obtain ⟨q1, q2, q3⟩ := dat_dp sr 40 h2 rb
      exact op_eqD hu pins s σ H _ _ v u Q I rx ry ⟨_, _, p1, q1, shaped_of p2 p3, shaped_of q2 q3, p.ok sr (.bl _)⟩
    · cases e
  · exact p.elim
theorem ne_ok (hu : X.A.units + 64 < cLine) : OpR X (compareOp .NotEq) (r2 X.K C (cmpOp .NotEq)) := by
  intro pins s σ H x y v u Q I rx ry ⟨ρ, h, a, b, W, sr, ra, rb, p⟩
  simp only [cmpOp] at p
  split at p
  · next r e =>
    unfold eqDeep at e
    split at e
    · next d e' h1 h2 =>
      cases e
      obtain ⟨p1, p2, p3⟩ := dat_dp sr 40 h1 ra
      obtain ⟨q1, q2, q3⟩ := dat_dp sr 40 h2 rb
      exact op_neD hu pins s σ H _ _ v u Q I rx ry ⟨_, _, p1, q1, shaped_of p2 p3, shaped_of q2 q3, p.ok sr (.bl _)⟩
    · cases e
  · exact p.elim
theorem lt_ok : OpR X (compareOp .Lt) (r2 X.K C (cmpOp .Lt)) := by
  intro pins s σ H x y v u Q I rx ry ⟨ρ, h, a, b, W, sr, ra, rb, p⟩
  cases a with
  | int i =>
    cases b with
    | int j => cases ra; cases rb; exact op_lt pins s σ H _ _ v u Q I rx ry ⟨i, j, rfl, rfl, p.ok sr (.bl _)⟩
    | _ => exact p.elim
  | str i =>
    cases b with
    | str j => cases ra; cases rb; exact op_lt_str pins s σ H _ _ v u Q I rx ry ⟨i, j, rfl, rfl, p.ok sr (.bl _)⟩
    | _ => exact p.elim
  | _ => cases b <;> exact p.elim
theorem gt_ok : OpR X (compareOp .Gt) (r2 X.K C (cmpOp .Gt)) := by
  intro pins s σ H x y v u Q I rx ry ⟨ρ, h, a, b, W, sr, ra, rb, p⟩
  cases a with
  | int i =>
    cases b with
    | int j => cases ra; cases rb; exact op_gt pins s σ H _ _ v u Q I rx ry ⟨i, j, rfl, rfl, p.ok sr (.bl _)⟩
    | _ => exact p.elim
  | _ => cases b <;> exact p.elim
theorem ge_ok : OpR X (compareOp .GtE) (r2 X.K C (cmpOp .GtE)) := by
  intro pins s σ H x y v u Q I rx ry ⟨ρ, h, a, b, W, sr, ra, rb, p⟩
  cases a with
  | int i =>
    cases b with
    | int j => cases ra; cases rb; exact op_ge pins s σ H _ _ v u Q I rx ry ⟨i, j, rfl, rfl, p.ok sr (.bl _)⟩
    | _ => exact p.elim
  | _ => cases b <;> exact p.elim
theorem ints_map {K : PySem.W.Frag} {ρ : List Addr} {H : Hp} : ∀ {xs : List AV} {is : List Int} {ys : List V}, AV.ints xs = some is → RVs K ρ H xs ys → xs = is.map AV.int ∧ ys = is.map V.int
  | [], is, ys, e, r => by
    cases r
    simp [AV.ints] at e; subst e; simp
  | x :: xs, is, ys, e, r => by
    cases x with
    | int i =>
      cases r with
      | cons r1 r2 =>
        cases r1
        simp only [AV.ints, Option.map_eq_some_iff] at e
        obtain ⟨js, e, rfl⟩ := e
        obtain ⟨q1, q2⟩ := ints_map e r2
        subst q1; subst q2
        simp
    | _ => simp [AV.ints] at e
end
end Ev

set_option Elab.async false
set_option linter.all false
set_option maxRecDepth 100000
set_option maxHeartbeats 8000000
namespace Ev
open PySem PySem.Spec L2

section
variable {X : Cx} {C : Nat → Addr}
theorem lex_shift : ∀ (k i : Nat) (e r : Nat → Bool) (z : Bool), Ob.lexAt e r z (i + 1) k = Ob.lexAt (fun j => e (j + 1)) (fun j => r (j + 1)) z i k
  | 0, _, _, _, _ => rfl
  | k + 1, i, e, r, z => by
    rw [Ob.lexAt_succ, Ob.lexAt_succ, lex_shift k (i + 1) e r z]
theorem lexLe_at : ∀ (ns ms : List Int), Ob.lexAt (fun j => decide (ns.getD j 0 = ms.getD j 0)) (fun j => decide (ns.getD j 0 ≤ ms.getD j 0)) (decide (ns.length ≤ ms.length)) 0 (min ns.length ms.length) = lexLe ns ms
  | [], ms => by simp [lexLe, Ob.lexAt_zero]
  | a :: r, [] => by simp [lexLe, Ob.lexAt_zero]
  | a :: r, b :: s => by
    have hm : min (a :: r).length (b :: s).length = min r.length s.length + 1 := by simp only [List.length_cons]; omega
    rw [hm, Ob.lexAt_succ, lex_shift]
    have ih := lexLe_at r s
    by_cases e : a = b
    · subst e
      simp only [List.getD_cons_zero, List.getD_cons_succ, decide_true, if_true, lexLe]
      rw [← ih]
      simp
    · simp [lexLe, e]
theorem le_ok (hu : X.A.units < cLine) : OpR X (compareOp .LtE) (r2 X.K C (cmpOp .LtE)) := by
  intro pins s σ H x y v u Q I rx ry ⟨ρ, h, a, b, W, sr, ra, rb, p⟩
  cases a with
  | int i =>
    cases b with
    | int j => cases ra; cases rb; exact op_le pins s σ H _ _ v u Q I rx ry ⟨i, j, rfl, rfl, p.ok sr (.bl _)⟩
    | _ => exact p.elim
  | str i =>
    cases b with
    | str j => cases ra; cases rb; exact op_le_str pins s σ H _ _ v u Q I rx ry ⟨i, j, rfl, rfl, p.ok sr (.bl _)⟩
    | _ => exact p.elim
  | tup xs =>
    cases b with
    | tup ys =>
      simp only [cmpOp] at p
      split at p
      · next is js e1 e2 =>
        obtain ⟨a1, vs, rfl, q1, r1⟩ := sqT_inj ra
        obtain ⟨a2, ws, rfl, q2, r2'⟩ := sqT_inj rb
        obtain ⟨-, rfl⟩ := ints_map e1 r1
        obtain ⟨-, rfl⟩ := ints_map e2 r2'
        refine op_leT hu pins s σ H _ _ v u Q I rx ry ⟨a1, a2, is, js, rfl, rfl, q1, q2, ?_⟩
        rw [lexLe_at]
        exact p.ok sr (.bl _)
      · exact p.elim
    | _ => exact p.elim
  | _ => cases b <;> exact p.elim

/-! ### in -/
theorem key_v {K : PySem.W.Frag} {ρ : List Addr} {H : Hp} {a : AV} {k : Key} {x : V} (e : a.keyOf = some k) (r : RV K ρ H a x) : x = kV k := by
  cases a with
  | int i => cases r; simp [AV.keyOf] at e; subst e; rfl
  | str z => cases r; simp [AV.keyOf] at e; subst e; rfl
  | _ => simp [AV.keyOf] at e
theorem keys_v {K : PySem.W.Frag} {ρ : List Addr} {H : Hp} : ∀ {xs : List AV} {ks : List Key} {ys : List V}, xs.mapM AV.keyOf = some ks → RVs K ρ H xs ys → ys = ks.map kV
  | [], ks, ys, e, r => by
    cases r
    have := mapM_nil_some e
    subst this; rfl
  | x :: xs, ks, ys, e, r => by
    cases r with
    | cons r1 r2 =>
      obtain ⟨k, ks', e1, e2, rfl⟩ := mapM_cons_some e
      rw [key_v e1 r1, keys_v e2 r2]; rfl
theorem rp_find {κ : Type} [DecidableEq κ] {K : PySem.W.Frag} {ρ : List Addr} {H : Hp} {k : κ} : ∀ {xs : List (κ × AV)} {ys : List (κ × V)}, RP K ρ H xs ys →
    (match xs.find? fun p => decide (p.1 = k) with
      | some p => ∃ v, valV ys k = some v ∧ RV K ρ H p.2 v
      | none => valV ys k = none)
  | _, _, .nil => rfl
  | _, _, .cons (k := k') (x := x) (y := y) (xs := xs) (ys := ys) r t => by
    by_cases e : k' = k
    · subst e
      simp only [List.find?_cons, decide_true]
      exact ⟨y, valV_pos rfl, r⟩
    · have ih := rp_find (k := k) t
      simp only [List.find?_cons, e, decide_false]
      rw [valV_neg e]
      exact ih
theorem rp_any {κ : Type} [DecidableEq κ] {K : PySem.W.Frag} {ρ : List Addr} {H : Hp} {k : κ} : ∀ {xs : List (κ × AV)} {ys : List (κ × V)}, RP K ρ H xs ys → (valV ys k).isSome = xs.any fun p => decide (p.1 = k)
  | _, _, .nil => rfl
  | _, _, .cons (k := k') (x := x) (y := y) (xs := xs) (ys := ys) r t => by
    by_cases e : k' = k
    · subst e
      rw [valV_pos rfl]; simp
    · rw [valV_neg e, rp_any (k := k) t]; simp [e]
/-- the dict of tuple keys, at a place -/
theorem SR.dt {K : PySem.W.Frag} {ρ : List Addr} {h : AH} {H : Hp} (s : SR K C ρ h H) {n : Nat} {kvs : List (List Key × AV)} (e : h[n]? = some (.dt kvs)) {v : V} (r : RV K ρ H (.loc n) v) : ∃ a ys, v = .ref a ∧ ρ[n]? = some a ∧ H a = some (.dT ys) ∧ RP K ρ H kvs ys := by
  cases r with
  | loc hn =>
    obtain ⟨ys, hy, ry⟩ := s.obj n _ _ e hn
    exact ⟨_, ys, rfl, hn, hy, ry⟩
theorem SR.dk {K : PySem.W.Frag} {ρ : List Addr} {h : AH} {H : Hp} (s : SR K C ρ h H) {n : Nat} {kvs : List (Key × AV)} (e : h[n]? = some (.dk kvs)) {v : V} (r : RV K ρ H (.loc n) v) : ∃ a ys, v = .ref a ∧ ρ[n]? = some a ∧ H a = some (.dK ys) ∧ RP K ρ H kvs ys := by
  cases r with
  | loc hn =>
    obtain ⟨ys, hy, ry⟩ := s.obj n _ _ e hn
    exact ⟨_, ys, rfl, hn, hy, ry⟩
theorem SR.ins {K : PySem.W.Frag} {ρ : List Addr} {h : AH} {H : Hp} (s : SR K C ρ h H) {n c : Nat} {fs : List (Str × AV)} (e : h[n]? = some (.ins c fs)) {v : V} (r : RV K ρ H (.loc n) v) : ∃ a dx ys, v = .ref a ∧ ρ[n]? = some a ∧ H a = some (.ins (C c) dx ys) ∧ RP K ρ H fs ys := by
  cases r with
  | loc hn =>
    obtain ⟨dx, ys, hy, ry⟩ := s.obj n _ _ e hn
    exact ⟨_, dx, ys, rfl, hn, hy, ry⟩
end
end Ev

set_option Elab.async false
set_option linter.all false
set_option maxRecDepth 100000
set_option maxHeartbeats 8000000
namespace Ev
open PySem PySem.Spec L2

section
variable {prog : Program} {w : World} {A : Around} {E : Value → Shared → Prop} {s : Shared}
theorem in_tup {c x : Value} {xs : List PyData} {d : PyData} {as bs : List Addr} {Q : Value → Shared → Prop} (rc : Reads s.heap c (.tuple xs) as) (rx : Reads s.heap x d bs) (hxs : PyData.canLayAll0 xs = true)
    (hd : d.canLay0 = true) (hu : A.units + 1 + min (PyData.depthAll xs) d.depth < cLine) (q : Q (.bool (xs.any fun y => PyData.eqv y d)) s) : wpAny (model prog w) A (compareOp .In x c) Q E s := by
  cases rc with
  | tuple h1 h2 h3 h4 => exact SeqAt.in_tupleAt _ ⟨_, h1, h2, _, h3⟩ (SeqAt.items_eqAt h4 rx hxs hd hu) (by rw [SeqAt.any_by_data h4 hxs]; exact q)
theorem notIn_tup {c x : Value} {xs : List PyData} {d : PyData} {as bs : List Addr} {Q : Value → Shared → Prop} (rc : Reads s.heap c (.tuple xs) as) (rx : Reads s.heap x d bs) (hxs : PyData.canLayAll0 xs = true)
    (hd : d.canLay0 = true) (hu : A.units + 1 + min (PyData.depthAll xs) d.depth < cLine) (q : Q (.bool (!xs.any fun y => PyData.eqv y d)) s) : wpAny (model prog w) A (compareOp .NotIn x c) Q E s := by
  cases rc with
  | tuple h1 h2 h3 h4 => exact SeqAt.notIn_tupleAt _ ⟨_, h1, h2, _, h3⟩ (SeqAt.items_eqAt h4 rx hxs hd hu) (by rw [SeqAt.any_by_data h4 hxs]; exact q)
end
section
variable {X : Cx} {C : Nat → Addr}
theorem room_in {A : Around} {da : PyData} {xs : List PyData} (h : da.depth ≤ 40) (hu : A.units + 64 < cLine) : A.units + 1 + min (PyData.depthAll xs) da.depth < cLine := by
  have := Nat.min_le_right (PyData.depthAll xs) da.depth
  omega
/-- where the answer of 'in' comes from -/
theorem in_core (hu : X.A.units + 64 < cLine) {pins : List (Addr × Obj)} {s : Shared} {σ : L2.St} {H : Hp} {x y : V} {v u : Value} (I : Inv X pins σ H s) (rx : RelV x v) (ry : RelV y u) {ρ : List Addr} {h : AH} {a b : AV} (sr : SR X.K C ρ h H)
    (ra : RV X.K ρ H a x) (rb : RV X.K ρ H b y) {r : Bool} (e : inOp a b h = some r) {neg : Bool} {Q : Value → Shared → Prop} (q : ∀ s', Inv X pins σ H s' → Q (.bool (if neg then !r else r)) s') :
    wpAny (model X.prog X.w) X.A (compareOp (if neg then .NotIn else .In) v u) Q X.xe s := by
  have seq : ∀ {xs : List AV} {ys : List V} {k : List PyData → PyData} (hk : k = .list ∨ k = .tuple), inSeq a xs h = some r → RVs X.K ρ H xs ys → (∀ ds, DpAll X.K H ys ds → Dp X.K H y (k ds)) →
      wpAny (model X.prog X.w) X.A (compareOp (if neg then .NotIn else .In) v u) Q X.xe s := by
    intro xs ys k hk e rr mk
    unfold inSeq at e
    split at e
    · next d ds h1 h2 =>
      cases e
      obtain ⟨p1, p2, p3⟩ := dat_dp sr 40 h1 ra
      obtain ⟨q1, q2, q3⟩ := dats_dp sr 40 xs h2 rr
      obtain ⟨as, r1⟩ := Dp.reads I d x v p1 rx
      obtain ⟨bs, r2⟩ := Dp.reads I _ y u (mk ds q1) ry
      have hroom : X.A.units + 1 + min (PyData.depthAll ds) d.depth < cLine := room_in p3 hu
      rcases hk with rfl | rfl
      · cases neg
        · exact SeqAt.in_list_reads r2 r1 q2 p2 hroom (q s I)
        · exact SeqAt.notIn_list_reads r2 r1 q2 p2 hroom (q s I)
      · cases neg
        · exact in_tup r2 r1 q2 p2 hroom (q s I)
        · exact notIn_tup r2 r1 q2 p2 hroom (q s I)
    · cases e
  cases b with
  | tup xs =>
    obtain ⟨a1, ys, rfl, q1, r1⟩ := sqT_inj rb
    exact seq (.inr rfl) e r1 fun ds hd => .tup q1 hd
  | rol xs =>
    obtain ⟨a1, ys, rfl, q1, r1⟩ := rol_inj rb
    exact seq (.inl rfl) e r1 fun ds hd => .lst q1 hd
  | loc n =>
    simp only [inOp] at e
    split at e
    · next xs he =>
      obtain ⟨a1, ys, rfl, q1, r1⟩ := sr.seqL he rb
      exact seq (.inl rfl) e r1 fun ds hd => .lst q1 hd
    · next kvs he =>
      simp only [Option.map_eq_some_iff] at e
      obtain ⟨k, ek, rfl⟩ := e
      obtain ⟨a1, ys, rfl, _, q1, r1⟩ := sr.dk he rb
      have ex := key_v ek ra
      subst ex
      obtain rfl : u = Value.ref a1 := ry
      have hk := rp_any (k := k) r1
      have g : DGet H a1 (kV k) (valV ys k) := .inl ⟨ys, k, .inl q1, rfl, rfl⟩
      cases neg
      · exact d_in (by omega) I g rx fun s' I' => by have := q s' I'; rw [hk]; exact this
      · exact d_notIn (by omega) I g rx fun s' I' => by have := q s' I'; rw [hk]; exact this
    · next kvs he =>
      split at e
      · next xs =>
        simp only [Option.map_eq_some_iff] at e
        obtain ⟨k, ek, rfl⟩ := e
        obtain ⟨a1, ys, rfl, _, q1, r1⟩ := sr.dt he rb
        obtain ⟨a2, zs, rfl, q2, r2'⟩ := tup_inj ra
        have ez := keys_v ek r2'
        subst ez
        obtain rfl : u = Value.ref a1 := ry
        have hk := rp_any (k := k) r1
        have g : DGet H a1 (.ref a2) (valV ys k) := .inr ⟨ys, k, a2, .inl q1, rfl, q2, rfl⟩
        cases neg
        · exact d_in (by omega) I g rx fun s' I' => by have := q s' I'; rw [hk]; exact this
        · exact d_notIn (by omega) I g rx fun s' I' => by have := q s' I'; rw [hk]; exact this
      · cases e
    · cases e
  | _ => simp [inOp] at e
end
end Ev

set_option Elab.async false
set_option linter.all false
set_option maxRecDepth 100000
set_option maxHeartbeats 8000000
namespace Ev
open PySem PySem.Spec L2

section
variable {X : Cx} {C : Nat → Addr}
theorem in_ok (hu : X.A.units + 64 < cLine) : OpR X (compareOp .In) (r2 X.K C (cmpOp .In)) := by
  intro pins s σ H x y v u Q I rx ry ⟨ρ, h, a, b, W, sr, ra, rb, p⟩
  simp only [cmpOp] at p
  split at p
  · next r e => exact in_core (neg := false) hu I rx ry sr ra rb e fun s' I' => ⟨.bl r, H, I', rfl, p.ok sr (.bl _)⟩
  · exact p.elim
theorem notin_ok (hu : X.A.units + 64 < cLine) : OpR X (compareOp .NotIn) (r2 X.K C (cmpOp .NotIn)) := by
  intro pins s σ H x y v u Q I rx ry ⟨ρ, h, a, b, W, sr, ra, rb, p⟩
  simp only [cmpOp] at p
  split at p
  · next r e => exact in_core (neg := true) hu I rx ry sr ra rb e fun s' I' => ⟨.bl (!r), H, I', rfl, p.ok sr (.bl _)⟩
  · exact p.elim
/-- the comparisons of the small language -/
def cmpHas : CmpOp → Bool
  | .Is => false
  | .IsNot => false
  | _ => true
theorem cmp_ok (hu : X.A.units + 64 < cLine) : ∀ op : CmpOp, OpR X (compareOp op) (r2 X.K C (cmpOp op))
  | .Eq => eq_ok hu
  | .NotEq => ne_ok hu
  | .Lt => lt_ok
  | .LtE => le_ok (by omega)
  | .Gt => gt_ok
  | .GtE => ge_ok
  | .In => in_ok hu
  | .NotIn => notin_ok hu
  | .Is => fun pins s σ H x y v u Q I rx ry ⟨ρ, h, a, b, W, sr, ra, rb, p⟩ => p.elim
  | .IsNot => fun pins s σ H x y v u Q I rx ry ⟨ρ, h, a, b, W, sr, ra, rb, p⟩ => p.elim

/-! ### truth -/
theorem rvs_empty {K : PySem.W.Frag} {ρ : List Addr} {H : Hp} {xs : List AV} {ys : List V} (r : RVs K ρ H xs ys) : xs.isEmpty = ys.isEmpty := by cases r <;> rfl
theorem rp_empty {κ : Type} {K : PySem.W.Frag} {ρ : List Addr} {H : Hp} {xs : List (κ × AV)} {ys : List (κ × V)} (r : RP K ρ H xs ys) : xs.isEmpty = ys.isEmpty := by cases r <;> rfl
theorem truth_ok {K : PySem.W.Frag} {ρ : List Addr} {h : AH} {H : Hp} {a : AV} {x : V} {k : Bool} (sr : SR K C ρ h H) (ra : RV K ρ H a x) (e : truth a h = some k) : TruV K x H k := by
  cases a with
  | non => cases ra; exact (Option.some.inj e).symm
  | bl b => cases ra; exact (Option.some.inj e).symm
  | int i => cases ra; simp only [truth, Option.some.injEq] at e; exact e.symm
  | str z =>
    cases ra
    simp only [truth] at e
    split at e
    · next hz =>
      cases e
      refine ⟨hz, ?_⟩
      cases hn : z.length with
      | zero => rfl
      | succ m => show (m + 1 != 0) = (((m + 1 : Nat) : Int) != 0); rw [bne_iff_ne.mpr (Nat.succ_ne_zero m)]; exact (bne_iff_ne.mpr (by omega)).symm
    · cases e
  | tup xs =>
    obtain ⟨a1, ys, rfl, q1, r1⟩ := sqT_inj ra
    simp only [truth, Option.some.injEq] at e
    exact .inr (.inl ⟨ys, q1, by rw [← rvs_empty r1]; exact e.symm⟩)
  | rol xs =>
    obtain ⟨a1, ys, rfl, q1, r1⟩ := rol_inj ra
    simp only [truth, Option.some.injEq] at e
    exact .inl ⟨ys, q1, by rw [← rvs_empty r1]; exact e.symm⟩
  | loc n =>
    simp only [truth] at e
    split at e
    · next xs he =>
      obtain ⟨a1, ys, rfl, q1, r1⟩ := sr.seqL he ra
      exact .inl ⟨ys, q1, by rw [← rvs_empty r1]; exact (Option.some.inj e).symm⟩
    · next kvs he =>
      obtain ⟨a1, ys, rfl, _, q1, r1⟩ := sr.dk he ra
      exact .inr (.inr ⟨ys, q1, by rw [← rp_empty r1]; exact (Option.some.inj e).symm⟩)
    · cases e

/-! ### subscripts -/
theorem atI_rv {K : PySem.W.Frag} {ρ : List Addr} {H : Hp} {xs : List AV} {ys : List V} {k : Int} {v : AV} (r : RVs K ρ H xs ys) (e : atI xs k = some v) : ∃ y, atI ys k = some y ∧ RV K ρ H v y := by
  unfold atI at e ⊢
  rw [Option.bind_eq_some_iff] at e
  obtain ⟨j, e1, e2⟩ := e
  obtain ⟨y, e3, r3⟩ := r.get e2
  exact ⟨y, by rw [← r.length, e1]; exact e3, r3⟩
theorem ix_ok (hu : X.A.units + 1 < cLine) : IxR X (r2 X.K C idxOp) := by
  intro value slice pins s σ H x y v u Q I rx ry ⟨ρ, h, a, b, W, sr, ra, rb, p⟩ hs
  cases a with
  | tup xs =>
    obtain ⟨a1, ys, rfl, q1, r1⟩ := sqT_inj ra
    cases b with
    | int k =>
      cases rb
      simp only [idxOp] at p
      split at p
      · next w e =>
        obtain ⟨z, e2, rz⟩ := atI_rv r1 e
        exact ix_tup value slice pins s σ H _ _ v u Q I rx ry ⟨a1, ys, k, z, rfl, rfl, q1, e2, p.ok sr rz⟩ hs
      · exact p.elim
    | _ => exact p.elim
  | rol xs =>
    obtain ⟨a1, ys, rfl, q1, r1⟩ := rol_inj ra
    cases b with
    | int k =>
      cases rb
      simp only [idxOp] at p
      split at p
      · next w e =>
        obtain ⟨z, e2, rz⟩ := atI_rv r1 e
        exact ix_list value slice pins s σ H _ _ v u Q I rx ry ⟨a1, ys, k, z, rfl, rfl, q1, e2, p.ok sr rz⟩ hs
      · exact p.elim
    | _ => exact p.elim
  | str z =>
    cases b with
    | int k =>
      cases ra; cases rb
      simp only [idxOp] at p
      split at p
      · next hz =>
        split at p
        · next c e => exact ix_str value slice pins s σ H _ _ v u Q I rx ry ⟨z, k, c, rfl, rfl, hz, e, p.ok sr (.str _)⟩ hs
        · exact p.elim
      · exact p.elim
    | _ => exact p.elim
  | loc n =>
    simp only [idxOp] at p
    split at p
    · next xs he =>
      obtain ⟨a1, ys, rfl, q1, r1⟩ := sr.seqL he ra
      cases b with
      | int k =>
        cases rb
        simp only at p
        split at p
        · next w e =>
          obtain ⟨z, e2, rz⟩ := atI_rv r1 e
          exact ix_list value slice pins s σ H _ _ v u Q I rx ry ⟨a1, ys, k, z, rfl, rfl, q1, e2, p.ok sr rz⟩ hs
        · exact p.elim
      | _ => exact p.elim
    · next kvs he =>
      split at p
      · next k ek =>
        obtain ⟨a1, ys, rfl, _, q1, r1⟩ := sr.dk he ra
        have ey := key_v ek rb
        subst ey
        have hf := rp_find (k := k) r1
        split at p
        · next pr ep =>
          rw [ep] at hf
          obtain ⟨z, ez, rz⟩ := hf
          have g : DGet H a1 (kV k) (some z) := .inl ⟨ys, k, .inl q1, rfl, ez.symm⟩
          obtain rfl : v = Value.ref a1 := rx
          exact PyProof.Rows.tail_any (dict_typeIs I g) PySem.F.slot_dict_getitem.lookup (d_getItem hu I g ry fun w' s' I' rw' => ⟨z, H, I', rw', p.ok sr rz⟩) hs
        · exact p.elim
      · exact p.elim
    · exact p.elim
  | _ => exact p.elim
theorem cut_rv {K : PySem.W.Frag} {ρ : List Addr} {H : Hp} {xs : List AV} {ys : List V} (r : RVs K ρ H xs ys) (lo hi : Option Int) : RVs K ρ H (cutA xs lo hi) (cutV ys lo hi) := by
  unfold cutA cutV
  rw [r.length]
  exact (r.drop _).take _
/-- a slice by a value and two bounds -/
def rSl (K : PySem.W.Frag) (C : Nat → Addr) : V → Option Int → Option Int → Hp → VK → Prop := fun x lo hi H Q =>
  ∃ (ρ : List Addr) (h : AH) (a : AV) (W : Value → Option Addr → Hp → Prop), SR K C ρ h H ∧ RV K ρ H a x ∧ Po K C (RV K) W ρ H (slcOp a lo hi h) Q
theorem cut_whole {α : Type} (xs : List α) (lo hi : Option Int) (h1 : HT.sIx xs.length 0 lo = 0) (h2 : HT.sIx xs.length xs.length hi = xs.length) : cutA xs lo hi = xs := by
  unfold cutA
  rw [h1, h2]; simp
theorem sl_ok : SlR X (rSl X.K C) := by
  intro pins s σ H x v vl vu lo hi sl Q I rx hs pl pu ⟨ρ, h, a, W, sr, ra, p⟩
  cases a with
  | tup xs =>
    obtain ⟨a1, ys, rfl, q1, r1⟩ := sqT_inj ra
    refine sl_tupA pins s σ H _ v vl vu lo hi sl Q I rx hs pl pu ⟨a1, ys, rfl, q1, fun ⟨e1, e2⟩ => ?_, fun _ p' hp => Po.tup p sr (cut_rv r1 lo hi) hp⟩
    have : cutA xs lo hi = xs := cut_whole xs lo hi (by rw [r1.length]; exact e1) (by rw [r1.length]; exact e2)
    have p2 : Po X.K C (RV X.K) W ρ H (.ok (.tup (cutA xs lo hi)) h) Q := p
    rw [this] at p2
    exact p2.ok sr ra
  | rol xs =>
    obtain ⟨a1, ys, rfl, q1, r1⟩ := rol_inj ra
    exact sl_list pins s σ H _ v vl vu lo hi sl Q I rx hs pl pu ⟨a1, ys, rfl, q1, fun p' hp => Po.lst p sr (cut_rv r1 lo hi) hp⟩
  | str z =>
    cases ra
    simp only [slcOp] at p
    split at p
    · next hz => exact sl_str pins s σ H _ v vl vu lo hi sl Q I rx hs pl pu ⟨z, rfl, hz, p.ok sr (.str _)⟩
    · exact p.elim
  | loc n =>
    simp only [slcOp] at p
    split at p
    · next xs he =>
      obtain ⟨a1, ys, rfl, q1, r1⟩ := sr.seqL he ra
      exact sl_list pins s σ H _ v vl vu lo hi sl Q I rx hs pl pu ⟨a1, ys, rfl, q1, fun p' hp => Po.lst p sr (cut_rv r1 lo hi) hp⟩
    · exact p.elim
  | _ => exact p.elim
end
end Ev

set_option Elab.async false
set_option linter.all false
set_option maxRecDepth 100000
set_option maxHeartbeats 8000000
namespace Ev
open PySem PySem.Spec L2

section
variable {X : Cx} {C : Nat → Addr}
/-- a call of a built-in by values -/
def rPr (K : PySem.W.Frag) (C : Nat → Addr) (f : List AV → AH → Res AV) : List V → Hp → VK → Prop := fun xs H Q =>
  ∃ (ρ : List Addr) (h : AH) (vs : List AV) (W : Value → Option Addr → Hp → Prop), SR K C ρ h H ∧ RVs K ρ H vs xs ∧ Po K C (RV K) W ρ H (f vs h) Q
theorem one_of {K : PySem.W.Frag} {ρ : List Addr} {H : Hp} {a : AV} {xs : List V} (r : RVs K ρ H [a] xs) : ∃ x, xs = [x] ∧ RV K ρ H a x := by
  cases r with
  | cons r1 r2 => cases r2; exact ⟨_, rfl, r1⟩
theorem two_of {K : PySem.W.Frag} {ρ : List Addr} {H : Hp} {a b : AV} {xs : List V} (r : RVs K ρ H [a, b] xs) : ∃ x y, xs = [x, y] ∧ RV K ρ H a x ∧ RV K ρ H b y := by
  cases r with
  | cons r1 r2 =>
    obtain ⟨y, rfl, r3⟩ := one_of r2
    exact ⟨_, y, rfl, r1, r3⟩
theorem bools_map {K : PySem.W.Frag} {ρ : List Addr} {H : Hp} : ∀ {xs : List AV} {bs : List Bool} {ys : List V}, boolsOf xs = some bs → RVs K ρ H xs ys → ys = bs.map V.bl
  | [], bs, ys, e, r => by
    cases r
    have : bs = [] := (Option.some.inj e).symm
    subst this; rfl
  | x :: xs, bs, ys, e, r => by
    cases x with
    | bl b =>
      cases r with
      | cons r1 r2 =>
        cases r1
        simp only [boolsOf, Option.map_eq_some_iff] at e
        obtain ⟨cs, e, rfl⟩ := e
        rw [bools_map e r2]; rfl
    | _ => simp [boolsOf] at e
/-- one sequence as the argument -/
theorem seq_arg {p : Pr} {ρ : List Addr} {h : AH} {H : Hp} {a : AV} {x : V} {Q : VK} {W : Value → Option Addr → Hp → Prop} (sr : SR X.K C ρ h H) (ra : RV X.K ρ H a x)
    (e : Po X.K C (RV X.K) W ρ H (seq1 p a h) Q) : ∃ xs q ys, x = .ref q ∧ (SqL X.K H q ys ∨ (SqT X.K H q ys ∧ prBoth p = true ∧ a = .tup xs)) ∧ RVs X.K ρ H xs ys ∧ Po X.K C (RV X.K) W ρ H (prSeq p xs h) Q := by
  unfold seq1 at e
  cases hi : itemsOf a h with
  | none => rw [hi] at e; exact e.elim
  | some xs =>
    rw [hi] at e
    by_cases hc : (prBoth p || isLoc a) = true
    · simp only [if_pos hc] at e
      obtain ⟨q, ys, rfl, hq, rr⟩ := sr.items hi ra
      rcases hq with ⟨_, hq⟩ | ⟨hl, hq⟩
      · exact ⟨xs, q, ys, rfl, .inl hq, rr, e⟩
      · refine ⟨xs, q, ys, rfl, .inr ⟨hq, ?_, ?_⟩, rr, e⟩
        · rw [hl, Bool.or_false] at hc; exact hc
        · cases a with
          | tup zs => simp only [itemsOf, Option.some.injEq] at hi; rw [hi]
          | loc n => simp [isLoc] at hl
          | rol n => simp [isLoc] at hl
          | _ => simp [itemsOf] at hi
    · simp only [if_neg hc] at e; exact e.elim
theorem SqL.ofOr {K : PySem.W.Frag} {H : Hp} {q : Addr} {ys : List V} {A : Prop} (h : SqL K H q ys ∨ (SqT K H q ys ∧ A)) : SqL K H q ys ∨ SqT K H q ys := h.imp id And.left

/-- the argument lists for which a built-in of two forms goes by its sequence -/
theorem len_ok : CallR X (.builtin "len") (rPr X.K C (prOp .len)) := by
  intro pins s σ H xs us Q I r ⟨ρ, h, vs, W, sr, rv, p⟩
  match vs, rv, p with
  | [], _, p => exact p.elim
  | a :: _ :: _, _, p => cases a <;> exact p.elim
  | [a], rv, p =>
    obtain ⟨x, rfl, ra⟩ := one_of rv
    cases a with
    | str z =>
      cases ra
      simp only [prOp] at p
      split at p
      · next hz => exact call_len_str pins s σ H _ us Q I r ⟨z, rfl, hz, p.ok sr (.int _)⟩
      · exact p.elim
    | tup zs =>
      obtain ⟨xs, q, ys, rfl, hq, rr, p⟩ := seq_arg (p := .len) sr ra p
      exact call_len_seq pins s σ H _ us Q I r ⟨q, ys, rfl, SqL.ofOr hq, by rw [← rr.length]; exact p.ok sr (.int _)⟩
    | rol n =>
      obtain ⟨xs, q, ys, rfl, hq, rr, p⟩ := seq_arg (p := .len) sr ra p
      exact call_len_seq pins s σ H _ us Q I r ⟨q, ys, rfl, SqL.ofOr hq, by rw [← rr.length]; exact p.ok sr (.int _)⟩
    | loc n =>
      obtain ⟨xs, q, ys, rfl, hq, rr, p⟩ := seq_arg (p := .len) sr ra p
      exact call_len_seq pins s σ H _ us Q I r ⟨q, ys, rfl, SqL.ofOr hq, by rw [← rr.length]; exact p.ok sr (.int _)⟩
    | _ => exact p.elim
theorem abs_ok : CallR X (.builtin "abs") (rPr X.K C (prOp .abs)) := by
  intro pins s σ H xs us Q I r ⟨ρ, h, vs, W, sr, rv, p⟩
  match vs, rv, p with
  | [], _, p => exact p.elim
  | a :: _ :: _, _, p => cases a <;> exact p.elim
  | [a], rv, p =>
    obtain ⟨x, rfl, ra⟩ := one_of rv
    cases a with
    | int i => cases ra; exact call_abs pins s σ H _ us Q I r ⟨i, rfl, p.ok sr (.int _)⟩
    | _ => exact p.elim
theorem int_ok : CallR X (.type "int") (rPr X.K C (prOp .int)) := by
  intro pins s σ H xs us Q I r ⟨ρ, h, vs, W, sr, rv, p⟩
  match vs, rv, p with
  | [], _, p => exact p.elim
  | a :: _ :: _, _, p => cases a <;> exact p.elim
  | [a], rv, p =>
    obtain ⟨x, rfl, ra⟩ := one_of rv
    cases a with
    | int i => cases ra; exact call_int1 pins s σ H _ us Q I r (.inl ⟨i, rfl, p.ok sr (.int _)⟩)
    | bl b => cases ra; exact call_int1 pins s σ H _ us Q I r (.inr ⟨b, rfl, p.ok sr (.int _)⟩)
    | _ => exact p.elim
theorem tuple_ok : CallR X (.type "tuple") (rPr X.K C (prOp .tuple)) := by
  intro pins s σ H xs us Q I r ⟨ρ, h, vs, W, sr, rv, p⟩
  have go : ∀ {a : AV} {x : V}, RV X.K ρ H a x → Vals [x] us → Po X.K C (RV X.K) W ρ H (seq1 .tuple a h) Q → wpAny (model X.prog X.w) X.A (call (.type "tuple") us) (EP X pins σ Q) X.xe s := by
    intro a x ra r p
    obtain ⟨xs, q, ys, rfl, hq, rr, p⟩ := seq_arg (p := .tuple) sr ra p
    rcases hq with hq | ⟨hq, _, ea⟩
    · exact call_tuple_of pins s σ H _ us Q I r ⟨q, ys, rfl, .inl ⟨hq, fun l hl => Po.tup p sr rr hl⟩⟩
    · subst ea
      exact call_tuple_of pins s σ H _ us Q I r ⟨q, ys, rfl, .inr ⟨hq, p.ok sr ra⟩⟩
  match vs, rv, p with
  | [], _, p => exact p.elim
  | _ :: _ :: _, _, p => exact p.elim
  | [a], rv, p =>
    obtain ⟨x, rfl, ra⟩ := one_of rv
    cases a with
    | tup zs => exact go ra r p
    | rol zs => exact go ra r p
    | loc n => exact go ra r p
    | _ => exact p.elim
theorem list_ok : CallR X (.type "list") (rPr X.K C (prOp .list)) := by
  intro pins s σ H xs us Q I r ⟨ρ, h, vs, W, sr, rv, p⟩
  have go : ∀ {a : AV} {x : V}, RV X.K ρ H a x → Vals [x] us → Po X.K C (RV X.K) W ρ H (seq1 .list a h) Q → wpAny (model X.prog X.w) X.A (call (.type "list") us) (EP X pins σ Q) X.xe s := by
    intro a x ra r p
    obtain ⟨xs, q, ys, rfl, hq, rr, p⟩ := seq_arg (p := .list) sr ra p
    exact call_list_of pins s σ H _ us Q I r ⟨q, ys, rfl, SqL.ofOr hq, fun l hl => Po.lst p sr rr hl⟩
  match vs, rv, p with
  | [], _, p => exact p.elim
  | _ :: _ :: _, _, p => exact p.elim
  | [a], rv, p =>
    obtain ⟨x, rfl, ra⟩ := one_of rv
    cases a with
    | tup zs => exact go ra r p
    | rol zs => exact go ra r p
    | loc n => exact go ra r p
    | _ => exact p.elim
/-- a rule for a call with one list as the argument -/
theorem one_list {f : Value} {pr : Pr} (hb : prBoth pr = false) (ho : ∀ (h : AH) (a : AV), isLoc a = false → prOp pr [a] h = .no) (ho2 : ∀ (h : AH) (a : AV), isLoc a = true → prOp pr [a] h = seq1 pr a h) (hn : ∀ (h : AH) (vs : List AV), vs.length ≠ 1 → prOp pr vs h = .no)
    (rule : ∀ (pins : List (Addr × Obj)) (s : Shared) (σ : L2.St) (H : Hp) (us : List Value) (Q : VK) (q : Addr) (ys : List V) (ρ : List Addr) (h : AH) (xs : List AV) (W : Value → Option Addr → Hp → Prop), Inv X pins σ H s → Vals [.ref q] us → SqL X.K H q ys → RVs X.K ρ H xs ys →
      SR X.K C ρ h H → Po X.K C (RV X.K) W ρ H (prSeq pr xs h) Q → wpAny (model X.prog X.w) X.A (call f us) (EP X pins σ Q) X.xe s) : CallR X f (rPr X.K C (prOp pr)) := by
  intro pins s σ H xs us Q I r ⟨ρ, h, vs, W, sr, rv, p⟩
  by_cases hl : vs.length = 1
  · match vs, hl, rv, p with
    | [a], _, rv, p =>
      obtain ⟨x, rfl, ra⟩ := one_of rv
      cases hc : isLoc a with
      | false => rw [ho h a hc] at p; exact p.elim
      | true =>
        rw [ho2 h a hc] at p
        obtain ⟨xs, q, ys, rfl, hq, rr, p⟩ := seq_arg (p := pr) sr ra p
        rcases hq with hq | ⟨_, hb2, _⟩
        · exact rule pins s σ H us Q q ys ρ h xs W I r hq rr sr p
        · rw [hb] at hb2; cases hb2
  · rw [hn h vs hl] at p; exact p.elim
theorem no_one {pr : Pr} (h : AH) (vs : List AV) (hl : vs.length ≠ 1) (hp : pr = .sum) : prOp pr vs h = .no := by
  match vs, hl with
  | [], _ => subst hp <;> rfl
  | [_], hl => exact absurd rfl hl
  | _ :: _ :: _, _ => subst hp <;> rfl
theorem no_flat {pr : Pr} (h : AH) (a : AV) (hc : isLoc a = false) (hp : pr = .sum) : prOp pr [a] h = .no := by
  cases a with
  | loc n => simp [isLoc] at hc
  | rol n => simp [isLoc] at hc
  | tup xs => subst hp <;> rfl
  | _ => subst hp <;> rfl
theorem reads_bools (h : Heap) : ∀ bs : List Bool, ReadsAll h (bs.map Value.bool) (bs.map PyData.bool) []
  | [] => .nil
  | b :: bs => .cons (.bool b) (reads_bools h bs)
theorem plain_bools : ∀ bs : List Bool, PyData.plainAll (bs.map PyData.bool) = true
  | [] => rfl
  | b :: bs => by simp [PyData.plainAll, PyData.plain, plain_bools bs]
theorem truthy_bools (bs : List Bool) : (bs.map PyData.bool).all PyData.truthy = bs.all id ∧ (bs.map PyData.bool).any PyData.truthy = bs.any id := by
  induction bs with
  | nil => exact ⟨rfl, rfl⟩
  | cons b bs ih => simp only [List.map_cons, List.all_cons, List.any_cons, ih.1, ih.2]; exact ⟨rfl, rfl⟩
theorem cr_allT (hc : X.calm = true) : CallR X (.builtin "all") (fun vs H Q => ∃ (a : Addr) (bs : List Bool), vs = [V.ref a] ∧ SqT X.K H a (bs.map V.bl) ∧ Q (.bl (bs.all id)) H) := by
  intro pins s σ H vs us Q I r h
  obtain ⟨a, bs, rfl, hs, q⟩ := h
  obtain ⟨its, rv, hl, _⟩ := I.tuple hs
  rw [Vals.ref1 r]
  have hb := rv.bls
  subst hb
  obtain ⟨o, ho, hcl, n, hd⟩ := hl
  refine PySem.W.all_tuple_data (xs := bs.map PyData.bool) (as := []) (show X.A.handled = none from I.ok.hd hc) ⟨o, ho, hcl, n, hd⟩ (by simpa using reads_bools _ bs) (plain_bools bs) (fun x hx => by obtain ⟨b, _, rfl⟩ := List.mem_map.mp hx; trivial) fun h' tk hk => ?_
  exact ⟨.bl _, H, I.kept hk, by rw [(truthy_bools bs).1]; rfl, q⟩
theorem cr_anyT (hc : X.calm = true) : CallR X (.builtin "any") (fun vs H Q => ∃ (a : Addr) (bs : List Bool), vs = [V.ref a] ∧ SqT X.K H a (bs.map V.bl) ∧ Q (.bl (bs.any id)) H) := by
  intro pins s σ H vs us Q I r h
  obtain ⟨a, bs, rfl, hs, q⟩ := h
  obtain ⟨its, rv, hl, _⟩ := I.tuple hs
  rw [Vals.ref1 r]
  have hb := rv.bls
  subst hb
  obtain ⟨o, ho, hcl, n, hd⟩ := hl
  refine PySem.W.any_tuple_data (xs := bs.map PyData.bool) (as := []) (show X.A.handled = none from I.ok.hd hc) ⟨o, ho, hcl, n, hd⟩ (by simpa using reads_bools _ bs) (plain_bools bs) (fun x hx => by obtain ⟨b, _, rfl⟩ := List.mem_map.mp hx; trivial) fun h' tk hk => ?_
  exact ⟨.bl _, H, I.kept hk, by rw [(truthy_bools bs).2]; rfl, q⟩
theorem all_ok (hc : X.calm = true) : CallR X (.builtin "all") (rPr X.K C (prOp .all)) := by
  intro pins s σ H xs us Q I r ⟨ρ, h, vs, W, sr, rv, p⟩
  by_cases ht : ∃ zs, vs = [.tup zs]
  · obtain ⟨zs, rfl⟩ := ht
    obtain ⟨x, rfl, ra⟩ := one_of rv
    obtain ⟨a, ys, rfl, hq, rr⟩ := sqT_inj ra
    have p : Po X.K C (RV X.K) W ρ H (prSeq .all zs h) Q := p
    simp only [prSeq] at p
    split at p
    · next bs e =>
      have ey := bools_map e rr
      subst ey
      exact cr_allT hc pins s σ H _ us Q I r ⟨a, bs, rfl, hq, p.ok sr (.bl _)⟩
    · exact p.elim
  · by_cases hl : vs.length = 1
    · match vs, hl, rv, p with
      | [a], _, rv, p =>
        obtain ⟨x, rfl, ra⟩ := one_of rv
        have p : Po X.K C (RV X.K) W ρ H (seq1 .all a h) Q := by
          cases a <;> first | exact p | exact absurd ⟨_, rfl⟩ ht
        cases hc2 : isLoc a with
        | false =>
          have : seq1 .all a h = .no := by cases a <;> first | rfl | (simp [isLoc] at hc2) | exact absurd ⟨_, rfl⟩ ht
          rw [this] at p; exact p.elim
        | true =>
          obtain ⟨xs, q, ys, rfl, hq, rr, p⟩ := seq_arg (p := .all) sr ra p
          rcases hq with hq | ⟨_, hb2, _⟩
          · simp only [prSeq] at p
            split at p
            · next bs e =>
              have ey := bools_map e rr
              subst ey
              exact cr_all hc pins s σ H _ us Q I r ⟨q, bs, rfl, hq, p.ok sr (.bl _)⟩
            · exact p.elim
          · cases hb2
    · have : prOp .all vs h = .no := by
        match vs, hl with
        | [], _ => rfl
        | [_], hl => exact absurd rfl hl
        | a :: _ :: _, _ => cases a <;> rfl
      rw [this] at p; exact p.elim
theorem any_ok (hc : X.calm = true) : CallR X (.builtin "any") (rPr X.K C (prOp .any)) := by
  intro pins s σ H xs us Q I r ⟨ρ, h, vs, W, sr, rv, p⟩
  by_cases ht : ∃ zs, vs = [.tup zs]
  · obtain ⟨zs, rfl⟩ := ht
    obtain ⟨x, rfl, ra⟩ := one_of rv
    obtain ⟨a, ys, rfl, hq, rr⟩ := sqT_inj ra
    have p : Po X.K C (RV X.K) W ρ H (prSeq .any zs h) Q := p
    simp only [prSeq] at p
    split at p
    · next bs e =>
      have ey := bools_map e rr
      subst ey
      exact cr_anyT hc pins s σ H _ us Q I r ⟨a, bs, rfl, hq, p.ok sr (.bl _)⟩
    · exact p.elim
  · by_cases hl : vs.length = 1
    · match vs, hl, rv, p with
      | [a], _, rv, p =>
        obtain ⟨x, rfl, ra⟩ := one_of rv
        have p : Po X.K C (RV X.K) W ρ H (seq1 .any a h) Q := by
          cases a <;> first | exact p | exact absurd ⟨_, rfl⟩ ht
        cases hc2 : isLoc a with
        | false =>
          have : seq1 .any a h = .no := by cases a <;> first | rfl | (simp [isLoc] at hc2) | exact absurd ⟨_, rfl⟩ ht
          rw [this] at p; exact p.elim
        | true =>
          obtain ⟨xs, q, ys, rfl, hq, rr, p⟩ := seq_arg (p := .any) sr ra p
          rcases hq with hq | ⟨_, hb2, _⟩
          · simp only [prSeq] at p
            split at p
            · next bs e =>
              have ey := bools_map e rr
              subst ey
              exact cr_any hc pins s σ H _ us Q I r ⟨q, bs, rfl, hq, p.ok sr (.bl _)⟩
            · exact p.elim
          · cases hb2
    · have : prOp .any vs h = .no := by
        match vs, hl with
        | [], _ => rfl
        | [_], hl => exact absurd rfl hl
        | a :: _ :: _, _ => cases a <;> rfl
      rw [this] at p; exact p.elim
theorem sum_ok (hc : X.calm = true) : CallR X (.builtin "sum") (rPr X.K C (prOp .sum)) := by
  refine one_list rfl (fun h a e => no_flat h a e rfl) (fun h n _ => rfl) (fun h vs e => no_one h vs e rfl) fun pins s σ H us Q q ys ρ h xs W I r hq rr sr p => ?_
  simp only [prSeq] at p
  split at p
  · next is e =>
    obtain ⟨-, rfl⟩ := ints_map e rr
    exact cr_sum hc pins s σ H _ us Q I r ⟨q, is, rfl, hq, p.ok sr (.int _)⟩
  · exact p.elim
def min2Op (vs : List AV) (h : AH) : Res AV := match vs with
  | [.int i, .int j] => .ok (.int (if j < i then j else i)) h
  | _ => .no
theorem min_ok (hc : X.calm = true) : CallR X (.builtin "min") (rPr X.K C min2Op) := by
  intro pins s σ H xs us Q I r ⟨ρ, h, vs, W, sr, rv, p⟩
  match vs, rv, p with
  | [.int i, .int j], rv, p =>
    obtain ⟨x, y, rfl, ra, rb⟩ := two_of rv
    cases ra; cases rb
    exact call_min2 hc pins s σ H _ us Q I r ⟨i, j, rfl, p.ok sr (.int _)⟩
theorem topOf_le : ∀ (is : List Int) (i : Int), i ≤ topOf i is ∧ ∀ y ∈ is, y ≤ topOf i is
  | [], i => ⟨Int.le_refl _, by simp⟩
  | j :: r, i => by
    obtain ⟨a, b⟩ := topOf_le r (if j > i then j else i)
    have c : i ≤ (if j > i then j else i) := by split <;> omega
    have d : j ≤ (if j > i then j else i) := by split <;> omega
    refine ⟨Int.le_trans c a, fun y hy => ?_⟩
    rcases List.mem_cons.1 hy with rfl | hy
    · exact Int.le_trans d a
    · exact b y hy
theorem topOf_mem : ∀ (is : List Int) (i : Int), topOf i is ∈ i :: is
  | [], i => by simp [topOf]
  | j :: r, i => by
    have := topOf_mem r (if j > i then j else i)
    show topOf (if j > i then j else i) r ∈ _
    rcases List.mem_cons.1 this with e | e
    · rw [e]; split <;> simp
    · simp [e]
theorem topOf_eq {i m : Int} {is : List Int} (hm : m ∈ i :: is) (hl : ∀ y, y ∈ i :: is → y ≤ m) : m = topOf i is := by
  obtain ⟨a, b⟩ := topOf_le is i
  have c := hl _ (topOf_mem is i)
  rcases List.mem_cons.1 hm with rfl | e
  · omega
  · have := b m e; omega
theorem max_ok (hc : X.calm = true) : CallR X (.builtin "max") (rPr X.K C (prOp .max)) := by
  intro pins s σ H xs us Q I r ⟨ρ, h, vs, W, sr, rv, p⟩
  match vs, rv, p with
  | [.int i, .int j], rv, p =>
    obtain ⟨x, y, rfl, ra, rb⟩ := two_of rv
    cases ra; cases rb
    exact call_max2 hc pins s σ H _ us Q I r ⟨i, j, rfl, p.ok sr (.int _)⟩
  | [.loc n], rv, p =>
    obtain ⟨x, rfl, ra⟩ := one_of rv
    obtain ⟨xs, q, ys, rfl, hq, rr, p⟩ := seq_arg (p := .max) sr ra p
    rcases hq with hq | ⟨_, hb2, _⟩
    · simp only [prSeq] at p
      split at p
      · next i is e =>
        obtain ⟨-, rfl⟩ := ints_map e rr
        refine cr_max hc pins s σ H _ us Q I r ⟨q, i :: is, rfl, hq, by simp, fun m hm hl => ?_⟩
        rw [topOf_eq hm hl]
        exact p.ok sr (.int _)
      · exact p.elim
    · cases hb2
end
end Ev

set_option Elab.async false
set_option linter.all false
set_option maxRecDepth 100000
set_option maxHeartbeats 8000000
namespace Ev
open PySem PySem.Spec L2

section
variable {X : Cx} {C : Nat → Addr}
/-- a method by values -/
def rMt (K : PySem.W.Frag) (C : Nat → Addr) (f : AV → List AV → AH → Res AV) : V → List V → Hp → VK → Prop := fun x xs H Q =>
  ∃ (ρ : List Addr) (h : AH) (o : AV) (vs : List AV) (W : Value → Option Addr → Hp → Prop), SR K C ρ h H ∧ RV K ρ H o x ∧ RVs K ρ H vs xs ∧ Po K C (RV K) W ρ H (f o vs h) Q
/-- the receiver is a list -/
theorem mt_lst {m : Mt} {o : AV} {vs : List AV} {h : AH} {ρ : List Addr} {H : Hp} {W : Value → Option Addr → Hp → Prop} {Q : VK} {x : V} (hm : m ≠ .get) (sr : SR X.K C ρ h H) (ro : RV X.K ρ H o x) (p : Po X.K C (RV X.K) W ρ H (mtOp m o vs h) Q) :
    ∃ n xs a ys, o = .loc n ∧ h[n]? = some (.lst xs) ∧ x = .ref a ∧ ρ[n]? = some a ∧ H a = some (.lst ys) ∧ RVs X.K ρ H xs ys ∧ Po X.K C (RV X.K) W ρ H (lstOp m n xs vs h) Q := by
  cases o with
  | loc n =>
    simp only [mtOp] at p
    split at p
    · next xs he =>
      obtain ⟨a, ys, h1, h2, h3, h4⟩ := sr.lst he ro
      exact ⟨n, xs, a, ys, rfl, he, h1, h2, h3, h4, p⟩
    · rw [if_neg hm] at p; exact p.elim
    · rw [if_neg hm] at p; exact p.elim
    · exact p.elim
  | _ => exact p.elim
theorem append_ok : MtR X "list.append" (rMt X.K C (mtOp .append)) := by
  intro pins s σ H x xs v us Q I rx rs ⟨ρ, h, o, vs, W, sr, ro, rv, p⟩
  obtain ⟨n, zs, a, ys, rfl, he, rfl, ha, hH, rr, p⟩ := mt_lst (by decide) sr ro p
  match vs, rv, p with
  | [w], rv, p =>
    simp only [lstOp, appendOp] at p
    split at p
    · next hz =>
      obtain ⟨y, rfl, ry⟩ := one_of rv
      exact mt_append pins s σ H _ _ v us Q I rx rs ⟨a, ys, y, rfl, rfl, hH, by rw [← rr.length]; exact hz, p.put sr he ha (rr.append (.cons ry .nil)) .non⟩
    · exact p.elim
theorem extend_ok : MtR X "list.extend" (rMt X.K C (mtOp .extend)) := by
  intro pins s σ H x xs v us Q I rx rs ⟨ρ, h, o, vs, W, sr, ro, rv, p⟩
  obtain ⟨n, zs, a, ys, rfl, he, rfl, ha, hH, rr, p⟩ := mt_lst (by decide) sr ro p
  match vs, rv, p with
  | [.loc b], rv, p =>
    simp only [lstOp, extendOp] at p
    split at p
    · next ws hb =>
      split at p
      · next hz =>
        obtain ⟨y, rfl, ry⟩ := one_of rv
        obtain ⟨a2, ys2, rfl, ha2, hH2, rr2⟩ := sr.lst hb ry
        exact mt_extend pins s σ H _ _ v us Q I rx rs ⟨a, a2, ys, ys2, rfl, rfl, hH, hH2, by rw [← rr.length, ← rr2.length]; exact hz, p.put sr he ha (rr.append rr2) .non⟩
      · exact p.elim
    · exact p.elim
theorem RVs.dropLast {K : PySem.W.Frag} {ρ : List Addr} {H : Hp} {xs : List AV} {ys : List V} (r : RVs K ρ H xs ys) : RVs K ρ H xs.dropLast ys.dropLast := by
  rw [List.dropLast_eq_take, List.dropLast_eq_take, r.length]
  exact r.take _
theorem RVs.erase {K : PySem.W.Frag} {ρ : List Addr} {H : Hp} {xs : List AV} {ys : List V} (r : RVs K ρ H xs ys) (k : Nat) : RVs K ρ H (xs.eraseIdx k) (ys.eraseIdx k) := by
  rw [List.eraseIdx_eq_take_drop_succ, List.eraseIdx_eq_take_drop_succ]
  exact (r.take _).append (r.drop _)
theorem pop_ok : MtR X "list.pop" (fun x xs H Q => xs = [] ∧ rMt X.K C (mtOp .pop) x xs H Q) := by
  intro pins s σ H x xs v us Q I rx rs ⟨e0, ρ, h, o, vs, W, sr, ro, rv, p⟩
  obtain ⟨n, zs, a, ys, rfl, he, rfl, ha, hH, rr, p⟩ := mt_lst (by decide) sr ro p
  match vs, rv, p with
  | _ :: _, rv, p => cases rv; cases e0
  | [], rv, p =>
    simp only [lstOp, popOp, popLast] at p
    split at p
    · next w ew =>
      cases rv
      obtain ⟨y, ey, ry⟩ := rr.get ew
      exact mt_pop pins s σ H _ _ v us Q I rx rs ⟨a, ys, y, rfl, rfl, hH, by rw [← rr.length]; exact ey, p.put sr he ha rr.dropLast ry⟩
    · exact p.elim
theorem popAt_ok : MtR X "list.pop" (fun x xs H Q => (∃ y, xs = [y]) ∧ rMt X.K C (mtOp .pop) x xs H Q) := by
  intro pins s σ H x xs v us Q I rx rs ⟨⟨y0, e0⟩, ρ, h, o, vs, W, sr, ro, rv, p⟩
  obtain ⟨n, zs, a, ys, rfl, he, rfl, ha, hH, rr, p⟩ := mt_lst (by decide) sr ro p
  match vs, rv, p with
  | [], rv, p => cases rv; cases e0
  | [.int i], rv, p =>
    simp only [lstOp, popOp, popAt] at p
    split at p
    · next hb =>
      split at p
      · next k hk =>
        split at p
        · next w ew =>
          obtain ⟨y0, rfl, r0⟩ := one_of rv
          cases r0
          obtain ⟨y, ey, ry⟩ := rr.get ew
          exact mt_popAt pins s σ H _ _ v us Q I rx rs ⟨a, ys, i, k, y, rfl, rfl, hH, hb.1, hb.2, by rw [← rr.length]; exact hk, ey, p.put sr he ha (rr.erase k) ry⟩
        · exact p.elim
      · exact p.elim
    · exact p.elim
theorem insert_ok : MtR X "list.insert" (rMt X.K C (mtOp .insert)) := by
  intro pins s σ H x xs v us Q I rx rs ⟨ρ, h, o, vs, W, sr, ro, rv, p⟩
  obtain ⟨n, zs, a, ys, rfl, he, rfl, ha, hH, rr, p⟩ := mt_lst (by decide) sr ro p
  match vs, rv, p with
  | [.int i, w], rv, p =>
    simp only [lstOp, insertOp] at p
    split at p
    · next hb =>
      obtain ⟨y1, y2, rfl, r1, r2⟩ := two_of rv
      cases r1
      refine mt_insert pins s σ H _ _ v us Q I rx rs ⟨a, ys, i, y2, rfl, rfl, hH, by rw [← rr.length]; exact hb.1, hb.2.1, by omega, ?_⟩
      exact p.put sr he ha (by rw [List.append_assoc]; exact (rr.take _).append (.cons r2 (rr.drop _))) .non
    · exact p.elim
theorem index_ok (hu : X.A.units + 65 < cLine) : MtR X "list.index" (rMt X.K C (mtOp .index)) := by
  intro pins s σ H x xs v us Q I rx rs ⟨ρ, h, o, vs, W, sr, ro, rv, p⟩
  obtain ⟨n, zs, a, ys, rfl, he, rfl, ha, hH, rr, p⟩ := mt_lst (by decide) sr ro p
  match vs, rv, p with
  | [w], rv, p =>
    simp only [lstOp, indexOp] at p
    split at p
    · next j hj =>
      unfold placeOf at hj
      split at hj
      · next d ds h1 h2 =>
        obtain ⟨y, rfl, ry⟩ := one_of rv
        obtain ⟨p1, p2, p3⟩ := dat_dp sr 40 h1 ry
        obtain ⟨q1, q2, q3⟩ := dats_dp sr 40 zs h2 rr
        obtain ⟨hlt, hz, hno⟩ := List.findIdx?_eq_some_iff_getElem.mp hj
        refine mt_indexD hu pins s σ H _ _ v us Q I rx rs ⟨a, y, d, ds, j, ds[j], rfl, rfl, .lst (SqL.of hH) q1, p1, shaped_of (k := 41) (by simpa [PyData.canLay0] using q2) (by simp only [PyData.depth]; omega), shaped_of p2 p3, by simp [hlt], hz, fun m z' hm hz' => ?_, p.ok sr (.int _)⟩
        obtain ⟨hl, rfl⟩ := List.getElem?_eq_some_iff.mp hz'
        have := hno m hm
        simpa using this
      · cases hj
    · exact p.elim
end
end Ev

set_option Elab.async false
set_option linter.all false
set_option maxRecDepth 100000
set_option maxHeartbeats 8000000
namespace Ev
open PySem PySem.Spec L2

section
variable {X : Cx} {C : Nat → Addr}
theorem valA_rp {κ : Type} [DecidableEq κ] {K : PySem.W.Frag} {ρ : List Addr} {H : Hp} {xs : List (κ × AV)} {ys : List (κ × V)} (r : RP K ρ H xs ys) (k : κ) {d : AV} {z : V} (rd : RV K ρ H d z) : RV K ρ H ((valA xs k).getD d) ((valV ys k).getD z) := by
  have := rp_find (k := k) r
  unfold valA
  split at this
  · next p e =>
    obtain ⟨v, h1, h2⟩ := this
    rw [e, h1]; exact h2
  · next e => rw [e, this]; exact rd
/-- an empty dict of one kind is one of the other kind, too -/
theorem empty_dT {P : Program} {w : World} {H H' : Hp} {h : Heap} {a : Addr} (x : ObjOk P w H h a (.dK [])) : ObjOk P w H' h a (.dT []) := by
  obtain ⟨z, hd, vs, rel, o, es, ep, h1, h2, h3, h4, h5, h6⟩ := x
  cases rel
  cases h5' : es.toList with
  | nil => exact ⟨Nat.zero_le _, hd, [], .nil, o, es, ep, h1, h2, h3, by rw [h5']; rfl, by simp⟩
  | cons e r => rw [h5'] at h5; cases h5
theorem empty_dK {P : Program} {w : World} {H H' : Hp} {h : Heap} {a : Addr} (x : ObjOk P w H h a (.dT [])) : ObjOk P w H' h a (.dK []) := by
  obtain ⟨z, hd, xs, rel, o, es, ep, h1, h2, h3, h4, h5⟩ := x
  cases rel
  have he : es = #[] := by
    apply Array.toList_inj.mp
    simpa using h4
  subst he
  exact ⟨Nat.zero_le _, hd, [], .nil, o, #[], ep, h1, h2, h3, by intro e he; simp at he, by first | exact .nil | trivial, by simp⟩
theorem recast {pins : List (Addr × Obj)} {s : Shared} {σ : L2.St} {H : Hp} {a : Addr} {u o : HO} (I : Inv X pins σ H s) (e : H a = some u) (mu : Mut (some u)) (hob : ∃ ob, s.heap.get? a = some ob) (new : ObjOk X.prog X.w (upd H a o) s.heap a o) : Inv X pins σ (upd H a o) s :=
  I.write (t' := s.toks) (h' := s.heap) (x := a) (e := a) (by rw [e]; exact mu) (.inl rfl) (fun _ _ _ q => q) hob new
theorem upd_self {H : Hp} {a : Addr} {o u : HO} (e : H a = some o) : upd (upd H a u) a o = H := by
  rw [upd_upd]
  funext b
  unfold upd
  split
  · next h => subst h; exact e.symm
  · rfl
theorem get_ok (hu : X.A.units + 1 < cLine) : MtR X "dict.get" (rMt X.K C (mtOp .get)) := by
  intro pins s σ H x xs v us Q I rx rs ⟨ρ, h, o, vs, W, sr, ro, rv, p⟩
  cases o with
  | loc n =>
    simp only [mtOp] at p
    split at p
    · exact p.elim
    · next kvs he =>
      have p : Po X.K C (RV X.K) W ρ H (getT kvs vs h) Q := by simpa only [if_true] using p
      obtain ⟨a, ys, rfl, ha, hH, rr⟩ := sr.dt he ro
      obtain rfl : v = Value.ref a := rx
      match vs, rv, p with
      | [.tup zs], rv, p =>
        simp only [getT] at p
        split at p
        · next k ek =>
          obtain ⟨y, rfl, ry⟩ := one_of rv
          obtain ⟨b, ws, rfl, hb, rb⟩ := tup_inj ry
          have ew := keys_v ek rb
          subst ew
          obtain ⟨u, rfl, ru⟩ := vals1 rs
          exact d_get1 hu I (.inr ⟨ys, k, b, .inl hH, rfl, hb, rfl⟩) ru fun w' s' I' rw' => ⟨_, H, I', rw', p.ok sr (valA_rp rr k .non)⟩
        · exact p.elim
    · next kvs he =>
      have p : Po X.K C (RV X.K) W ρ H (getK kvs vs h) Q := by simpa only [if_true] using p
      obtain ⟨a, ys, rfl, ha, hH, rr⟩ := sr.dk he ro
      obtain rfl : v = Value.ref a := rx
      match vs, rv, p with
      | [k0], rv, pp =>
        simp only [getK] at pp
        obtain ⟨y, rfl, ry⟩ := one_of rv
        obtain ⟨u, rfl, ru⟩ := vals1 rs
        split at pp
        · next e0 =>
          simp only [Bool.and_eq_true, List.isEmpty_iff] at e0
          obtain ⟨e1, e2⟩ := e0
          cases k0 with
          | tup zs =>
            obtain ⟨k, hz⟩ := Option.isSome_iff_exists.mp (show (zs.mapM AV.keyOf).isSome = true from e2)
            obtain ⟨b, ws, rfl, hb, rb⟩ := tup_inj ry
            have ew := keys_v hz rb
            subst ew
            have ey : ys = [] := by
              cases rr with
              | nil => rfl
              | cons _ _ => cases e1
            subst ey
            have okk := I.hok a _ hH
            have hob : ∃ ob, s.heap.get? a = some ob := by
              obtain ⟨_, _, _, _, o, _, _, h1, _⟩ := okk
              exact ⟨o, h1⟩
            have J := recast I hH trivial hob (empty_dT okk)
            have hb' : upd H a (.dT []) b = some (.tup (k.map kV)) := by
              rw [upd_ne (ne_of hb hH (by intro z; cases z))]; exact hb
            refine d_get1 hu J (.inr ⟨[], k, b, .inl upd_same, rfl, hb', rfl⟩) ru fun w' s' I' rw' => ⟨_, H, ?_, rw', pp.ok sr .non⟩
            have okT := I'.hok a _ upd_same
            have hob' : ∃ ob, s'.heap.get? a = some ob := by
              obtain ⟨_, _, _, _, o, _, _, h1, _⟩ := okT
              exact ⟨o, h1⟩
            have J' := recast I' upd_same trivial hob' (empty_dK okT)
            rwa [upd_self hH] at J'
          | _ => simp [isTupKey] at e2
        · split at pp
          · next k ek =>
            have ey := key_v ek ry
            subst ey
            exact d_get1 hu I (.inl ⟨ys, k, .inl hH, rfl, rfl⟩) ru fun w' s' I' rw' => ⟨_, H, I', rw', pp.ok sr (valA_rp rr k .non)⟩
          · exact pp.elim
      | [k0, d0], rv, pp =>
        simp only [getK] at pp
        obtain ⟨y, y2, rfl, ry, r2'⟩ := two_of rv
        obtain ⟨u, u2, rfl, ru, ru2⟩ := vals2 rs
        split at pp
        · next k ek =>
          have ey := key_v ek ry
          subst ey
          exact d_get2 hu I (.inl ⟨ys, k, .inl hH, rfl, rfl⟩) ru ru2 fun w' s' I' rw' => ⟨_, H, I', rw', pp.ok sr (valA_rp rr k r2')⟩
        · exact pp.elim
    · exact p.elim
  | _ => exact p.elim
end
end Ev

set_option Elab.async false
set_option linter.all false
set_option maxRecDepth 100000
set_option maxHeartbeats 8000000
namespace Ev
open PySem PySem.Spec L2

section
variable {X : Cx} {C : Nat → Addr}
theorem rp_put {κ : Type} [DecidableEq κ] {K : PySem.W.Frag} {ρ : List Addr} {H : Hp} {xs : List (κ × AV)} {ys : List (κ × V)} {k : κ} {v : AV} {y : V} (r : RP K ρ H xs ys) (rv : RV K ρ H v y) : RP K ρ H (putA xs k v) (putK ys k y) := by
  have hany : ∀ {xs : List (κ × AV)} {ys : List (κ × V)}, RP K ρ H xs ys → (xs.any fun p => decide (p.1 = k)) = (ys.any fun kv => decide (kv.1 = k)) := by
    intro xs ys r
    induction r with
    | nil => rfl
    | cons r t ih => simp only [List.any_cons, ih]
  have hmap : ∀ {xs : List (κ × AV)} {ys : List (κ × V)}, RP K ρ H xs ys → RP K ρ H (xs.map (fun p => if p.1 = k then (p.1, v) else p)) (ys.map (fun kv => if kv.1 = k then (kv.1, y) else kv)) := by
    intro xs ys r
    induction r with
    | nil => exact .nil
    | cons r t ih =>
      simp only [List.map_cons]
      split
      · exact .cons rv ih
      · exact .cons r ih
  have happ : ∀ {xs : List (κ × AV)} {ys : List (κ × V)}, RP K ρ H xs ys → RP K ρ H (xs ++ [(k, v)]) (ys ++ [(k, y)]) := by
    intro xs ys r
    induction r with
    | nil => exact .cons rv .nil
    | cons r t ih => exact .cons r ih
  unfold putA putK
  rw [hany r]
  split
  · exact hmap r
  · exact happ r
theorem rp_len {κ : Type} {K : PySem.W.Frag} {ρ : List Addr} {H : Hp} {xs : List (κ × AV)} {ys : List (κ × V)} (r : RP K ρ H xs ys) : xs.length = ys.length := by
  induction r with
  | nil => rfl
  | cons r t ih => simp [ih]
/-- o[i] = v -/
def tPut (K : PySem.W.Frag) (C : Nat → Addr) : TSet := fun o i v H Q =>
  ∃ (ρ : List Addr) (h h' : AH) (a b c : AV), SR K C ρ h H ∧ RV K ρ H a o ∧ RV K ρ H b i ∧ RV K ρ H c v ∧ putOp a b c h = some h' ∧ ∀ H', SR K C ρ h' H' → Ext H H' → Fr ρ [] H H' → Q H'
theorem ixN_len {α β : Type} {xs : List α} {ys : List β} (e : xs.length = ys.length) (k : Int) : ixN xs.length k = ixN ys.length k := by rw [e]
theorem put_ok (hu : X.A.units + 1 < cLine) : PSet X (tPut X.K C) := by
  intro pins s σ H o i v ov iv u Q I ro ri rv ⟨ρ, h, h', a, b, c, sr, ra, rb, rc, e, q⟩
  cases a with
  | loc n =>
    simp only [putOp] at e
    split at e
    · next xs he =>
      obtain ⟨p, ys, rfl, hp, hH, rr⟩ := sr.lst he ra
      cases b with
      | int k =>
        cases rb
        simp only [Option.map_eq_some_iff] at e
        obtain ⟨j, ej, rfl⟩ := e
        have ex : Ext H (upd H p (.lst (ys.set j v))) := sr.ext_put he hp
        exact set_list pins s σ H _ _ v ov iv u Q I ro ri rv ⟨p, ys, k, j, rfl, rfl, hH, by rw [← rr.length]; exact ej, q _ (sr.put he hp ⟨_, upd_same, (rr.set rc j).ext ex⟩) ex (Fr.put (List.mem_of_getElem? hp))⟩
      | _ => cases e
    · next kvs he =>
      obtain ⟨p, ys, rfl, hp, hH, rr⟩ := sr.dk he ra
      split at e
      · next k ek =>
        split at e
        · next hz =>
          cases e
          have ey := key_v ek rb
          subst ey
          have ex : Ext H (upd H p (.dK (putK ys k v))) := sr.ext_put he hp
          have new := (rp_put (k := k) rr rc).mono [] ex
          rw [List.append_nil] at new
          exact set_dict hu pins s σ H _ _ v ov iv u Q I ro ri rv ⟨p, _, rfl, .inl ⟨ys, k, hH, rfl, by rw [← rp_len rr]; exact hz, rfl⟩, q _ (sr.put he hp ⟨_, upd_same, new⟩) ex (Fr.put (List.mem_of_getElem? hp))⟩
        · cases e
      · cases e
    · next kvs he =>
      obtain ⟨p, ys, rfl, hp, hH, rr⟩ := sr.dt he ra
      split at e
      · next zs =>
        split at e
        · next k ek =>
          split at e
          · next hz =>
            cases e
            obtain ⟨b2, ws, rfl, hb, rb2⟩ := tup_inj rb
            have ew := keys_v ek rb2
            subst ew
            have ex : Ext H (upd H p (.dT (putK ys k v))) := sr.ext_put he hp
            have new := (rp_put (k := k) rr rc).mono [] ex
            rw [List.append_nil] at new
            exact set_dict hu pins s σ H _ _ v ov iv u Q I ro ri rv ⟨p, _, rfl, .inr ⟨ys, k, b2, hH, rfl, hb, by rw [← rp_len rr]; exact hz, rfl⟩, q _ (sr.put he hp ⟨_, upd_same, new⟩) ex (Fr.put (List.mem_of_getElem? hp))⟩
          · cases e
        · cases e
      · cases e
    · cases e
  | _ => cases e

/-! ### isinstance -/
def tyName (a : AV) (h : AH) : Option String := match a with
  | .non => some "NoneType"
  | .int _ => some "int"
  | .bl _ => some "bool"
  | .str _ => some "str"
  | .tup _ => some "tuple"
  | .rol _ => some "list"
  | .loc n => match h[n]? with
    | some (.lst _) => some "list"
    | some (.dk _) => some "dict"
    | some (.dt _) => some "dict"
    | _ => none
def kindStr : Nat → String
  | 0 => "int" | 1 => "bool" | 2 => "str" | 3 => "list" | _ => "tuple"
theorem tyx_of {K : PySem.W.Frag} {ρ : List Addr} {h : AH} {H : Hp} {a : AV} {x : V} {T : String} (sr : SR K C ρ h H) (ra : RV K ρ H a x) (e : tyName a h = some T) : TyX K H x (.type T) := by
  cases a with
  | non => cases ra; cases e; exact .base .non
  | bl b => cases ra; cases e; exact .base (.bl b)
  | int i => cases ra; cases e; exact .base (.int i)
  | str z => cases ra; cases e; exact .base (.str z)
  | tup xs =>
    obtain ⟨p, ys, rfl, hq, _⟩ := tup_inj ra
    cases e
    exact .base (.tup hq)
  | rol xs =>
    cases e
    cases ra with
    | rol hy ry =>
      rcases hy with ⟨o, hy⟩ | (hy | ⟨o, hy⟩) | ⟨o, its, m, h1, h2, _⟩
      · exact .base (.frz hy)
      · cases hy
      · cases hy
      · exact .kList h1 h2
  | loc n =>
    simp only [tyName] at e
    split at e
    · next xs he =>
      obtain ⟨p, ys, rfl, _, hq, _⟩ := sr.lst he ra
      cases e
      exact .base (.lst hq)
    · next kvs he =>
      obtain ⟨p, ys, rfl, _, hq, _⟩ := sr.dk he ra
      cases e
      exact .base (.dK hq)
    · next kvs he =>
      obtain ⟨p, ys, rfl, _, hq, _⟩ := sr.dt he ra
      cases e
      exact .base (.dT hq)
    · cases e
theorem kind_ty {a : AV} {h : AH} {t : Nat} {b : Bool} (ht : t < 5) (e : isKind a h t = some b) : ∃ T, tyName a h = some T ∧ kitB T (kindStr t) = some b := by
  have ht : t = 0 ∨ t = 1 ∨ t = 2 ∨ t = 3 ∨ t = 4 := by omega
  cases a with
  | loc n =>
    simp only [isKind] at e
    simp only [tyName]
    split at e
    · next x he => refine ⟨"list", by rw [he], ?_⟩; cases e; rcases ht with rfl | rfl | rfl | rfl | rfl <;> decide +kernel
    · rw [if_neg (by omega)] at e; cases e
    · next x he => refine ⟨"dict", by rw [he], ?_⟩; cases e; rcases ht with rfl | rfl | rfl | rfl | rfl <;> decide +kernel
    · next x he => refine ⟨"dict", by rw [he], ?_⟩; cases e; rcases ht with rfl | rfl | rfl | rfl | rfl <;> decide +kernel
    · cases e
  | non => refine ⟨_, rfl, ?_⟩; cases e; rcases ht with rfl | rfl | rfl | rfl | rfl <;> decide +kernel
  | bl b => refine ⟨_, rfl, ?_⟩; cases e; rcases ht with rfl | rfl | rfl | rfl | rfl <;> decide +kernel
  | int b => refine ⟨_, rfl, ?_⟩; cases e; rcases ht with rfl | rfl | rfl | rfl | rfl <;> decide +kernel
  | str b => refine ⟨_, rfl, ?_⟩; cases e; rcases ht with rfl | rfl | rfl | rfl | rfl <;> decide +kernel
  | rol b => refine ⟨_, rfl, ?_⟩; cases e; rcases ht with rfl | rfl | rfl | rfl | rfl <;> decide +kernel
  | tup b => refine ⟨_, rfl, ?_⟩; cases e; rcases ht with rfl | rfl | rfl | rfl | rfl <;> decide +kernel
end
end Ev

set_option Elab.async false
set_option linter.all false
set_option maxRecDepth 100000
set_option maxHeartbeats 8000000
/-! tuple * int of any size; the other operators. -/
namespace Ev
open PySem PySem.Spec PyProof.Rows L2
theorem mul_same (l : Addr) (items : Array Value) (n : Nat) (dd : Option Addr) (sl : Array (Option Value)) (x : Int) (u : Tok) (c0 : (decide (x < -(2 ^ 63)) || decide (x ≥ 2 ^ 63)) = false) (c1 : (items.isEmpty || x == 1) = true) :
    Meets (Builtin.«tuple.__mul__» ⟨[.ref l, .int x u], []⟩) (fun _ R s => s.heap.get? l = some { cls := .type "tuple", dict := dd, data := .seq items n, slots := sl } ∧ R (.ok (.ret (.ref l))) s) :=
  .of_wp fun prog w A R s h => by
    obtain ⟨hp, g, d, tk, os⟩ := s
    obtain ⟨hl, h⟩ := h
    have idx := AutoSeq1.idx_int
    wp_walk using wpAny_loadPart' hl
    repeat (first
      | (refine wpAny_ite_false (decide_eq_false (by rw [c0]; exact Bool.false_ne_true)) ?_; wp_walk using wpAny_loadPart' hl)
      | (refine wpAny_ite_true (decide_eq_true c1) ?_; wp_walk using wpAny_loadPart' hl))
    exact ⟨_, rfl, h⟩
theorem mul_zero' (l : Addr) (items : Array Value) (n : Nat) (dd : Option Addr) (sl : Array (Option Value)) (x : Int) (u : Tok) (c0 : (decide (x < -(2 ^ 63)) || decide (x ≥ 2 ^ 63)) = false) (c1 : (items.isEmpty || x == 1) = false) (c2 : (decide (x ≤ 0) || items.isEmpty) = true) :
    Meets (Builtin.«tuple.__mul__» ⟨[.ref l, .int x u], []⟩) (fun _ R s => s.heap.get? l = some { cls := .type "tuple", dict := dd, data := .seq items n, slots := sl } ∧
      R (.ok (.ret (Value.ref s.heap.objs.size))) { s with heap := s.heap.push { cls := Value.type "tuple", data := Data.seq #[] }, toks := s.toks }) :=
  .of_wp fun prog w A R s h => by
    obtain ⟨hp, g, d, tk, os⟩ := s
    obtain ⟨hl, h⟩ := h
    have idx := AutoSeq1.idx_int
    wp_walk using wpAny_loadPart' hl
    repeat (first
      | (refine wpAny_ite_false (decide_eq_false (by rw [c0]; exact Bool.false_ne_true)) ?_; wp_walk using wpAny_loadPart' hl)
      | (refine wpAny_ite_false (decide_eq_false (by rw [c1]; exact Bool.false_ne_true)) ?_; wp_walk using wpAny_loadPart' hl)
      | (refine wpAny_ite_true (decide_eq_true c2) ?_; wp_walk using wpAny_loadPart' hl))
    exact ⟨_, rfl, h⟩

section
variable {X : Cx} {C : Nat → Addr}
theorem mulT_ok {pins : List (Addr × Obj)} {s : Shared} {σ : L2.St} {H : Hp} {v u : Value} {Q : VK} {ρ : List Addr} {h : AH} {xs : List AV} {k : Int} {x y : V} {W : Value → Option Addr → Hp → Prop} (I : L2.Inv X pins σ H s) (rx : RelV x v) (ry : RelV y u) (sr : SR X.K C ρ h H)
    (ra : RV X.K ρ H (.tup xs) x) (rb : RV X.K ρ H (.int k) y) (hk : -1000 ≤ k ∧ k ≤ 1000 ∧ xs.length ≤ 1000) (p : Po X.K C (RV X.K) W ρ H (.ok (.tup (List.replicate k.toNat xs).flatten) h) Q) : wpAny (model X.prog X.w) X.A (binaryOp .Mult v u) (EP X pins σ Q) X.xe s := by
  obtain ⟨l, ys, rfl, hq, rr⟩ := sqT_inj ra
  cases rb
  by_cases big : xs ≠ [] ∧ 2 ≤ k
  · refine op_repT pins s σ H _ _ v u Q I rx ry ⟨l, k, ys, rfl, rfl, hq, fun z => big.1 ((rvs_nil rr).mpr z), big.2, hk.2.1, by rw [← rr.length]; exact hk.2.2, fun p' hp => Po.tup p sr (rr.rep _) hp⟩
  obtain rfl : v = Value.ref l := rx
  obtain ⟨t, rfl⟩ : ∃ t, u = Value.int k t := ry
  obtain ⟨its, r, ⟨⟨cls, dd, data, sl⟩, ho, hc, n, hd⟩, hs⟩ := I.tuple hq
  simp only at hc hd
  subst hc hd
  have lens : its.length = xs.length := by rw [rr.length]; exact r.length.symm
  have c0 : (decide (k < -(2 ^ 63)) || decide (k ≥ 2 ^ 63)) = false := by
    rw [decide_eq_false (by omega), decide_eq_false (by omega)] <;> rfl
  have emp : its.toArray.isEmpty = xs.isEmpty := by
    cases its with
    | nil => cases xs with
      | nil => rfl
      | cons _ _ => simp at lens
    | cons _ _ => cases xs with
      | nil => simp at lens
      | cons _ _ => rfl
  by_cases same : (its.toArray.isEmpty || k == 1) = true
  · refine wpAny_binaryOp_repeat_ref (T := "tuple") (U := "int") (by decide) ⟨_, ho, rfl⟩ (fun s' => typeIs_int s' k t) noFill_tuple_mul F.fills_int_mul F.slot_int_rmul repeat_tuple F.slot_int_index.lookup
      (call_meets F.slot_int_rmul (typeIs_int s k t) F.entry_int_rmul (F.args_int_rmul_2 _ _) (int_rmul_tuple k t l its.toArray n dd sl)
        ⟨ho, rfl, ⟨_, ho, rfl⟩, call_meets F.slot_tuple_mul ⟨_, ho, rfl⟩ F.entry_tuple_mul (F.args_tuple_mul_2 _ _) (mul_same l its.toArray n dd sl k t c0 same) ⟨ho, ?_⟩⟩)
    refine ⟨.ref l, H, I, rfl, ?_⟩
    have e : (List.replicate k.toNat xs).flatten = xs := by
      rw [Bool.or_eq_true] at same
      rcases same with z | z
      · rw [emp] at z
        have z := List.isEmpty_iff.mp z
        subst z; simp
      · have z : k = 1 := eq_of_beq z
        subst z; simp
    rw [e] at p
    exact p.ok sr ra
  · have same : (its.toArray.isEmpty || k == 1) = false := by simpa using same
    have nz : ¬ 2 ≤ k := fun z => big ⟨fun e => by subst e; rw [emp] at same; simp at same, z⟩
    have n1 : k ≠ 1 := fun z => by subst z; simp at same
    have c2 : (decide (k ≤ 0) || its.toArray.isEmpty) = true := by rw [decide_eq_true (by omega)]; rfl
    refine wpAny_binaryOp_repeat_ref (T := "tuple") (U := "int") (by decide) ⟨_, ho, rfl⟩ (fun s' => typeIs_int s' k t) noFill_tuple_mul F.fills_int_mul F.slot_int_rmul repeat_tuple F.slot_int_index.lookup
      (call_meets F.slot_int_rmul (typeIs_int s k t) F.entry_int_rmul (F.args_int_rmul_2 _ _) (int_rmul_tuple k t l its.toArray n dd sl)
        ⟨ho, rfl, ⟨_, ho, rfl⟩, call_meets F.slot_tuple_mul ⟨_, ho, rfl⟩ F.entry_tuple_mul (F.args_tuple_mul_2 _ _) (mul_zero' l its.toArray n dd sl k t c0 same c2) ⟨ho, ?_⟩⟩)
    have e : (List.replicate k.toNat xs).flatten = [] := by
      have : k.toNat = 0 := by omega
      rw [this]; simp
    rw [e] at p
    refine ⟨.ref s.heap.objs.size, _, I.laid (t' := s.toks) (o := .tup []) (fun b ob q => Heap.get?_push_of_some _ q) (Nat.le_refl _) ?_, rfl, Po.tup p sr .nil (I.hok.fresh (Nat.le_refl _))⟩
    exact ⟨Nat.zero_le _, _, .nil, IsTup.new _ _⟩
end
end Ev

set_option Elab.async false
set_option linter.all false
set_option maxRecDepth 100000
set_option maxHeartbeats 8000000
namespace Ev
open PySem PySem.Spec L2
section
variable {X : Cx} {C : Nat → Addr}
theorem rep_str (x : Str) (n : Nat) : (List.foldl (fun x1 x2 => x1 ++ x2) #[] (List.replicate n x.cps)) = (List.replicate n x.cps.toList).flatten.toArray := by
  have : ∀ (n : Nat) (acc : Array Nat), (List.foldl (fun x1 x2 => x1 ++ x2) acc (List.replicate n x.cps)) = acc ++ (List.replicate n x.cps.toList).flatten.toArray := by
    intro n
    induction n with
    | zero => intro acc; simp
    | succ n ih =>
      intro acc
      rw [List.replicate_succ, List.foldl_cons, ih, List.replicate_succ, List.flatten_cons]
      apply Array.toList_inj.mp
      simp
  simpa using this n #[]
theorem strMul_ok {pins : List (Addr × Obj)} {s : Shared} {σ : L2.St} {H : Hp} {t u : Tok} {Q : VK} {x : Str} {k : Int} (I : L2.Inv X pins σ H s) (hk : -1000 ≤ k ∧ k ≤ 1000 ∧ x.length ≤ 1000) (q : Q (.str (strRep x k.toNat)) H) :
    wpAny (model X.prog X.w) X.A (binaryOp .Mult (.str x t) (.int k u)) (EP X pins σ Q) X.xe s := by
  have hs : sizeLine = 16777216 := sizeLine_eq
  refine PySem.P.mul_str ?_ ?_ ?_ ?_
  · rw [decide_eq_false (by omega), decide_eq_false (by omega)]; rfl
  · intro h1 h2
    have : (2 ^ 63 - 1 : Int) / k ≥ 1000 := by
      apply (Int.le_ediv_iff_mul_le (by omega)).mpr
      omega
    omega
  · intro h1 h2
    have : x.length * k.toNat ≤ 1000 * 1000 := Nat.mul_le_mul hk.2.2 (by omega)
    first
      | exact decide_eq_false (by omega)
      | (unfold PySem.P.tooLong; exact decide_eq_false (by omega))
      | (simp only [tooLong]; exact decide_eq_false (by omega))
  · by_cases h1 : k < 1
    · rw [if_pos h1]
      have e : strRep x k.toNat = Str.empty := by
        have : k.toNat = 0 := by omega
        rw [this]; simp [strRep, Str.empty]
      rw [e] at q
      exact ⟨Nat.zero_le _, .str Str.empty, H, I.tok _, ⟨_, rfl⟩, q⟩
    · rw [if_neg h1]
      by_cases h2 : (k == 1 || x.length == 0) = true
      · rw [if_pos h2]
        have e : strRep x k.toNat = x := by
          rw [Bool.or_eq_true] at h2
          rcases h2 with z | z
          · have z : k = 1 := eq_of_beq z
            subst z
            simp [strRep]
          · have z : x.length = 0 := eq_of_beq z
            have z : x.cps = #[] := Array.eq_empty_of_size_eq_zero z
            cases x with
            | mk c =>
              simp only at z
              subst z
              simp [strRep]
        rw [e] at q
        exact ⟨.str x, H, I, ⟨_, rfl⟩, q⟩
      · rw [if_neg h2]
        have e : (⟨List.foldl (fun x1 x2 => x1 ++ x2) #[] (List.replicate k.toNat x.cps)⟩ : Str) = strRep x k.toNat := by unfold strRep; rw [rep_str]
        rw [e]
        have le : x.length * k.toNat ≤ 1000 * 1000 := Nat.mul_le_mul hk.2.2 (by omega)
        refine ⟨?_, .str (strRep x k.toNat), H, I.tok _, ⟨_, rfl⟩, q⟩
        show (List.replicate k.toNat x.cps.toList).flatten.toArray.size ≤ sizeLine
        rw [List.size_toArray, flat_rep, Array.length_toList, hs]
        have : x.length = x.cps.size := rfl
        rw [← this, Nat.mul_comm]; omega
theorem mul_ok : OpR X (binaryOp .Mult) (r2 X.K C (binOp .Mult)) := by
  intro pins s σ H x y v u Q I rx ry ⟨ρ, h, a, b, W, sr, ra, rb, p⟩
  cases a with
  | int i =>
    cases b with
    | int j =>
      cases ra; cases rb
      simp only [binOp] at p
      split at p
      · next hc => exact op_mul pins s σ H _ _ v u Q I rx ry ⟨i, j, rfl, rfl, fewMul_ok hc, p.ok sr (.int _)⟩
      · exact p.elim
    | _ => exact p.elim
  | str z =>
    cases b with
    | int k =>
      simp only [binOp] at p
      split at p
      · next hk =>
        cases ra; cases rb
        obtain ⟨t, rfl⟩ := rx
        obtain ⟨t', rfl⟩ := ry
        exact strMul_ok I hk (p.ok sr (.str _))
      · exact p.elim
    | _ => exact p.elim
  | tup xs =>
    cases b with
    | int k =>
      simp only [binOp] at p
      split at p
      · next hk => exact mulT_ok I rx ry sr ra rb hk p
      · exact p.elim
    | _ => exact p.elim
  | loc n =>
    cases b with
    | int k =>
      simp only [binOp] at p
      split at p
      · next xs he =>
        split at p
        · next hk =>
          simp only [Bool.and_eq_true, decide_eq_true_eq] at hk
          obtain ⟨a1, ys, rfl, _, hH, rr⟩ := sr.lst he ra
          cases rb
          refine op_rep pins s σ H _ _ v u Q I rx ry ⟨a1, k, ys, rfl, rfl, hH, by omega, by omega, by rw [← rr.length]; exact hk.1.1, ?_⟩
          exact fun p' hp => Po.lst p sr (rr.rep _) hp
        · exact p.elim
      · exact p.elim
    | _ => exact p.elim
  | _ => exact p.elim
theorem bin_ok : ∀ op : Operator, OpR X (binaryOp op) (r2 X.K C (binOp op))
  | .Add => add_ok
  | .Sub => intOp_ok (rI_of0 op_sub) fun _ _ _ => trivial
  | .Mult => mul_ok
  | .FloorDiv => intOp_ok op_fdivN fun _ _ => divOk_ok
  | .Mod => intOp_ok op_modN fun _ _ e => of_decide_eq_true e
  | .Pow => intOp_ok op_pow fun _ _ => powOk_ok
  | .LShift => intOp_ok op_shl fun _ _ => powOk_ok
  | .BitAnd => intOp_ok (rI_of0 op_and) fun _ _ _ => trivial
  | .BitOr => intOp_ok (rI_of0 op_or) fun _ _ _ => trivial
  | .MatMult => fun _ _ _ _ _ _ _ _ _ _ _ _ ⟨_, _, _, _, _, _, _, _, p⟩ => p.elim
  | .Div => fun _ _ _ _ _ _ _ _ _ _ _ _ ⟨_, _, _, _, _, _, _, _, p⟩ => p.elim
  | .RShift => fun _ _ _ _ _ _ _ _ _ _ _ _ ⟨_, _, _, _, _, _, _, _, p⟩ => p.elim
  | .BitXor => fun _ _ _ _ _ _ _ _ _ _ _ _ ⟨_, _, _, _, _, _, _, _, p⟩ => p.elim
end
end Ev

set_option Elab.async false
set_option linter.all false
set_option maxRecDepth 100000
set_option maxHeartbeats 8000000
namespace Ev
open PySem PySem.Spec L2
section
variable {X : Cx} {C : Nat → Addr}
theorem repr_ok (hg : X.A.guards = some []) (hu : X.A.units + 64 < cLine) : CallR X (.builtin "repr") (rPr X.K C (prOp .repr)) := by
  intro pins s σ H xs us Q I r ⟨ρ, h, vs, W, sr, rv, p⟩
  match vs, rv, p with
  | [], _, p => exact p.elim
  | _ :: _ :: _, _, p => exact p.elim
  | [a], rv, p =>
    simp only [prOp] at p
    split at p
    · next d ed =>
      split at p
      · next hc =>
        simp only [Bool.and_eq_true, decide_eq_true_eq] at hc
        obtain ⟨h2, h3⟩ := hc
        obtain ⟨x, rfl, ra⟩ := one_of rv
        obtain ⟨q1, q2, q3⟩ := dat_dp sr 40 ed ra
        obtain ⟨u, rfl, ru⟩ := vals1 r
        have refs : ∀ b, x = .ref b → wpAny (model X.prog X.w) X.A (call (.builtin "repr") [u]) (EP X pins σ Q) X.xe s := fun b e => by
          subst e
          obtain ⟨as, rd⟩ := Dp.reads I d _ _ q1 ru
          obtain rfl : u = Value.ref b := ru
          have hnd := PyData.hasDict_of_canLay d q2
          refine PySem.repr_of_reads' rd h2 (fun z => by rw [hnd] at z; cases z) hg (by omega) (fun _ _ e => e) (fun h' u tk hk => ?_) h3
          exact ⟨.str d.shown, H, I.kept (t' := tk) hk, ⟨u, rfl⟩, p.ok sr (.str _)⟩
        cases ra with
        | tup _ _ => exact refs _ rfl
        | rol _ _ => exact refs _ rfl
        | loc _ => exact refs _ rfl
        | non =>
          cases ed
          obtain rfl : u = Value.none := ru
          exact PySem.P.repr_of_none ⟨.str _, H, I.tok _, ⟨_, rfl⟩, p.ok sr (.str _)⟩
        | bl b =>
          cases ed
          obtain rfl : u = Value.bool b := ru
          exact PySem.P.repr_of_bool ⟨.str _, H, I.tok _, ⟨_, rfl⟩, by have := p.ok sr (.str _); cases b <;> exact this⟩
        | int i =>
          cases ed
          obtain ⟨t, rfl⟩ := ru
          exact PySem.P.repr_of_int (by simpa [PyData.showable] using h2) ⟨.str _, H, I.tok _, ⟨_, rfl⟩, p.ok sr (.str _)⟩
        | str z =>
          obtain ⟨t, rfl⟩ := ru
          simp only [AV.dat] at ed
          split at ed
          · cases ed
            exact PySem.P.repr_of_str ⟨.str _, H, I.tok _, ⟨_, rfl⟩, p.ok sr (.str _)⟩ h3
          · cases ed
      · exact p.elim
    · exact p.elim
end
end Ev

set_option Elab.async false
set_option linter.all false
set_option maxRecDepth 100000
set_option maxHeartbeats 8000000
/-! isinstance. -/
namespace Ev
open PySem PySem.Spec L2
theorem kinds_any {K : PySem.W.Frag} {a : AV} {h : AH} {T : String} (hT : tyName a h = some T) : ∀ (ts : List Nat) {bs : List Bool}, (∀ t ∈ ts, t < 5) → ts.mapM (isKind a h) = some bs →
    PySem.W.kitAny K (.type T) (ts.map fun t => Value.type (kindStr t)) = some (bs.any id)
  | [], bs, _, e => by
    have := mapM_nil_some e
    subst this
    exact kitAny_nil
  | t :: ts, bs, hl, e => by
    obtain ⟨b, bs', e1, e2, rfl⟩ := mapM_cons_some e
    obtain ⟨T', hT', hk⟩ := kind_ty (hl t (by simp)) e1
    rw [hT] at hT'
    cases hT'
    have hk : PySem.W.kitOne K (.type T) (.type (kindStr t)) = some b := hk
    refine kitAny_cons hk (fun z => ?_) fun z => by simp [z]
    have ih := kinds_any (K := K) hT ts (fun t ht => hl t (by simp [ht])) e2
    rw [ih]; simp [z]
theorem name_one {a : AV} {h : AH} {ts : List Nat} {b : Bool} (hl : ∀ t ∈ ts, t < 5) (hne : ts ≠ []) (e : isKinds a h ts = some b) : ∃ T, tyName a h = some T ∧ ∃ bs, ts.mapM (isKind a h) = some bs ∧ bs.any id = b := by
  unfold isKinds at e
  simp only [Option.map_eq_some_iff] at e
  obtain ⟨bs, e1, e2⟩ := e
  match ts, hne with
  | t :: ts, _ =>
    obtain ⟨b1, bs', e3, _, _⟩ := mapM_cons_some e1
    obtain ⟨T, hT, _⟩ := kind_ty (hl t (by simp)) e3
    exact ⟨T, hT, bs, e1, e2⟩
theorem cls_types : ∀ ts : List Nat, Paired ClsV (ts.map fun t => V.ty (kindStr t)) (ts.map fun t => Value.type (kindStr t))
  | [] => .nil
  | t :: ts => .cons (.ty _) (cls_types ts)
section
variable {X : Cx} {C : Nat → Addr} {W : WX} {a c : Expr} {fa : Sl → AH → Res AV} {pos p : Pos}
/-- isinstance(a, T) -/
theorem ev_isi1 {t : Nat} (ht : t < 5) (ha : PE X a (At X.K C (RV X.K) W fa)) (hc : PE X c (tC (.ty (kindStr t)))) (hg : Gl X "isinstance") (hm : X.mg "isinstance" = none)
    (he : starEach [a, c] X.env = (false, eval a X.env) :: starEach [c] X.env) (he2 : starEach [c] X.env = [(false, eval c X.env)]) :
    PE X (.Call (.Name "isinstance" p) [a, c] [] pos) (At X.K C (RV X.K) W fun σ h => (fa σ h).bind fun v h1 => match isKinds v h1 [t] with
    | some b => .ok (.bl b) h1
    | none => .no) := by
  refine ⟨fun pins s σ H Q I q => ?_⟩
  refine (pe_callB call_isi hg hm PyProof.Rows.boot_isinstance (pa_cons ha (pa_cons hc pa_nil (by rw [he2]; rfl)) he) (by decide) (by decide) he (by rw [he2]; rfl)).run pins s σ H Q I ?_
  obtain ⟨ρ, as, h, rs, sr, p⟩ := q
  refine ⟨ρ, as, h, rs, sr, (Po.bind (R := RV X.K) p).imp fun y H1 ⟨ρ1, h1, v, e, _, s1, r1, p1⟩ => ?_⟩
  split at p1
  · next b eb =>
    obtain ⟨T, hT, bs, e1, e2⟩ := name_one (fun t' m => by simp at m; omega) (by simp) eb
    obtain ⟨b1, bs', e3, e4, rfl⟩ := mapM_cons_some e1
    have := mapM_nil_some e4
    subst this
    obtain ⟨T', hT', hk⟩ := kind_ty ht e3
    rw [hT] at hT'; cases hT'
    have eb1 : b1 = b := by simpa using e2
    subst eb1
    exact ⟨y, .ty (kindStr t), .type T, .type (kindStr t), b1, rfl, .ty _, tyx_of s1 r1 hT, hk, p1.ok s1 (.bl _)⟩
  · exact p1.elim
/-- isinstance(a, (T, ..)) -/
theorem ev_isiN {ts : List Nat} {cs : List Expr} {k} {p2 : Pos} (ht : ∀ t ∈ ts, t < 5) (hne : ts ≠ []) (hz : ts.length ≤ 100) (ha : PE X a (At X.K C (RV X.K) W fa)) (hc : PA X cs (fun _ H Q => Q (ts.map fun t => V.ty (kindStr t)) H)) (hg : Gl X "isinstance") (hm : X.mg "isinstance" = none)
    (he : starEach [a, .Tuple cs k p2] X.env = (false, eval a X.env) :: starEach [.Tuple cs k p2] X.env) :
    PE X (.Call (.Name "isinstance" p) [a, .Tuple cs k p2] [] pos) (At X.K C (RV X.K) W fun σ h => (fa σ h).bind fun v h1 => match isKinds v h1 ts with
    | some b => .ok (.bl b) h1
    | none => .no) := by
  refine ⟨fun pins s σ H Q I q => ?_⟩
  refine (pe_callB call_isiT hg hm PyProof.Rows.boot_isinstance (pa_cons ha (pa_cons (pe_tup hc) pa_nil rfl) he) (by decide) (by decide) he rfl).run pins s σ H Q I ?_
  obtain ⟨ρ, as, h, rs, sr, p⟩ := q
  refine ⟨ρ, as, h, rs, sr, (Po.bind (R := RV X.K) p).imp fun y H1 ⟨ρ1, h1, v, e, _, s1, r1, p1⟩ => ?_⟩
  split at p1
  · next b eb =>
    obtain ⟨T, hT, bs, e1, e2⟩ := name_one ht hne eb
    refine ⟨by rw [List.length_map]; exact Nat.le_trans hz (by decide), fun l hl => ?_⟩
    have ex : Ext H1 (upd H1 l (.tup (ts.map fun t => V.ty (kindStr t)))) := Ext.laid hl
    refine ⟨y, l, _, .type T, _, b, rfl, upd_same, cls_types ts, tyx_of (s1.tup hl) (r1.ext ex) hT, by rw [kinds_any hT ts ht e1, e2], ?_⟩
    exact p1.same ex (Fr.laid hl (by simp)) (s1.tup hl) (.bl _)
  · exact p1.elim
end
end Ev

set_option Elab.async false
set_option linter.all false
set_option maxRecDepth 100000
set_option maxHeartbeats 8000000
/-! Each construct by values. -/
namespace Ev
open PySem PySem.Spec L2

theorem PE.weak {X : Cx} {e : Expr} {t t' : TE} (p : PE X e t) (h : ∀ σ H Q, t' σ H Q → t σ H Q) : PE X e t' := ⟨fun pins s σ H Q I q => p.run pins s σ H Q I (h _ _ _ q)⟩
theorem PT.weak {X : Cx} {e : Expr} {t t' : TT} (p : PT X e t) (h : ∀ σ H Q, t' σ H Q → t σ H Q) : PT X e t' := ⟨fun pins s σ H Q I q => p.run pins s σ H Q I (h _ _ _ q)⟩
theorem PW.weak {X : Cx} {e : Expr} {t t' : TT} (p : PW X e t) (h : ∀ σ H Q, t' σ H Q → t σ H Q) : PW X e t' := ⟨fun w pins s σ H Q I q => p.run w pins s σ H Q I (h _ _ _ q)⟩
theorem PA.weak {X : Cx} {e : List Expr} {t t' : TA} (p : PA X e t) (h : ∀ σ H Q, t' σ H Q → t σ H Q) : PA X e t' := ⟨fun pos pins s σ H Q I q => p.run pos pins s σ H Q I (h _ _ _ q)⟩

section
variable {K : PySem.W.Frag} {C : Nat → Addr} {α β γ δ ε ζ : Type} {R : Rl α β} {R' : Rl γ δ} {W : WX}
/-- where we are behind a step: the frame's slots, the heap, what has come -/
def Bh (K : PySem.W.Frag) (C : Nat → Addr) (R : Rl α β) (R' : Rl γ δ) (W : WX) (k : Sl → α → AH → Res γ) (σ : St) (y : β) (H : Hp) (Q : δ → Hp → Prop) : Prop :=
  ∃ (ρ : List Addr) (as : Sl) (h : AH) (v : α), RS K ρ H as σ ∧ SR K C ρ h H ∧ R ρ H v y ∧ Po K C R' (fun c d H' => W c d σ H') ρ H (k as v h) Q
/-- a step and what follows -/
theorem At.step {f : Sl → AH → Res α} {k : Sl → α → AH → Res γ} {σ : St} {H : Hp} {Q : δ → Hp → Prop} (a : At K C R' W (fun σ h => (f σ h).bind (k σ)) σ H Q) :
    At K C R W f σ H (fun y H1 => Bh K C R R' W k σ y H1 Q) := by
  obtain ⟨ρ, as, h, rs, sr, p⟩ := a
  refine ⟨ρ, as, h, rs, sr, (Po.bind (R := R) p).imp fun y H1 ⟨ρ1, h1, v, e, _, s1, r1, p1⟩ => ?_⟩
  exact ⟨ρ ++ ρ1, as, h1, v, rs.mono ρ1 e, s1, r1, p1⟩
/-- a second step, the first value kept -/
theorem Bh.step [Mono R] {R2 : Rl ε ζ} {f : Sl → AH → Res ε} {k : Sl → α → ε → AH → Res γ} {σ : St} {y : β} {H : Hp} {Q : δ → Hp → Prop}
    (b : Bh K C R R' W (fun σ v h => (f σ h).bind (k σ v)) σ y H Q) :
    At K C R2 W f σ H (fun z H1 => Bh (α := α × ε) (β := β × ζ) K C (fun ρ H a b => R ρ H a.1 b.1 ∧ R2 ρ H a.2 b.2) R' W (fun σ p h => k σ p.1 p.2 h) σ (y, z) H1 Q) := by
  obtain ⟨ρ, as, h, v, rs, sr, r, p⟩ := b
  refine ⟨ρ, as, h, rs, sr, (Po.bind (R := R2) p).imp fun z H1 ⟨ρ1, h1, w, e, _, s1, r1, p1⟩ => ?_⟩
  exact ⟨ρ ++ ρ1, as, h1, (v, w), rs.mono ρ1 e, s1, ⟨Mono.mono ρ1 e r, r1⟩, p1⟩
/-- what follows hangs on a value that is known -/
theorem Bh.at [Mono R] {f : Sl → α → AH → Res γ} {σ : St} {y : β} {H : Hp} {Q : δ → Hp → Prop} {g : Sl → AH → Res γ} (b : Bh K C R R' W f σ y H Q) (h : ∀ as v h ρ, R ρ H v y → f as v h ≠ .no → f as v h = g as h) : At K C R' W g σ H Q := by
  obtain ⟨ρ, as, h1, v, rs, sr, r, p⟩ := b
  refine ⟨ρ, as, h1, rs, sr, ?_⟩
  by_cases z : f as v h1 = .no
  · rw [z] at p; exact p.elim
  · rw [← h as v h1 ρ r z]; exact p
end

section
variable {X : Cx} {C : Nat → Addr} {W : WX} {a b c e : Expr} {fa fb fc : Sl → AH → Res AV} {ta tb : Sl → AH → Res Bool} {pos : Pos}
abbrev PEv (X : Cx) (C : Nat → Addr) (W : WX) (e : Expr) (f : Sl → AH → Res AV) : Prop := PE X e (At X.K C (RV X.K) W f)
abbrev PTv (X : Cx) (C : Nat → Addr) (W : WX) (e : Expr) (f : Sl → AH → Res Bool) : Prop := PT X e (At X.K C RQ W f)
abbrev PWv (X : Cx) (C : Nat → Addr) (W : WX) (e : Expr) (f : Sl → AH → Res Bool) : Prop := PW X e (At X.K C RQ W f)
abbrev PAv (X : Cx) (C : Nat → Addr) (W : WX) (es : List Expr) (f : Sl → AH → Res (List AV)) : Prop := PA X es (At X.K C (RVs X.K) W f)

/-- a value that is at hand -/
theorem At.val {f : Sl → AH → Res AV} {σ : St} {H : Hp} {Q : VK} {v : AV} {x : V} (a : At X.K C (RV X.K) W f σ H Q) (h : ∀ as h, f as h = .ok v h) (r : ∀ ρ, RV X.K ρ H v x) : Q x H := by
  obtain ⟨ρ, as, h1, rs, sr, p⟩ := a
  rw [h] at p
  exact p.ok sr (r ρ)
theorem ev_int {i : Int} {j} : PEv X C W (.Constant (.int i) j pos) (fun _ h => .ok (.int i) h) := PE.weak pe_int fun σ H Q a => a.val (fun _ _ => rfl) fun _ => .int i
theorem ev_bl {i : Bool} {j} : PEv X C W (.Constant (.bool i) j pos) (fun _ h => .ok (.bl i) h) := PE.weak pe_bl fun σ H Q a => a.val (fun _ _ => rfl) fun _ => .bl i
theorem ev_non {j} : PEv X C W (.Constant .none j pos) (fun _ h => .ok .non h) := PE.weak pe_non fun σ H Q a => a.val (fun _ _ => rfl) fun _ => .non
theorem ev_str {i : Str} {j} : PEv X C W (.Constant (.str i) j pos) (fun _ h => .ok (.str i) h) := PE.weak pe_str fun σ H Q a => a.val (fun _ _ => rfl) fun _ => .str i
theorem ev_var {i : Nat} {x : Str} (hN : X.N[i]? = some x) (hv : Vis X.env.scope x) (hd : (x == ("__debug__" : Str)) = false) (hcd : (x == ("__classdict__" : Str)) = false) : PEv X C W (.Name x pos) (fun σ h => getS σ i h) := by
  refine PE.weak (pe_var hN hv hd hcd) fun σ H Q ⟨ρ, as, h, rs, sr, p⟩ => ?_
  simp only [getS] at p
  split at p
  · next v e =>
    obtain ⟨x, hx, rv⟩ := rs.at_ i v e
    exact ⟨x, hx, p.ok sr rv⟩
  · exact p.elim

/-- two values and an operation -/
theorem tOp_of {f : AV → AV → AH → Res AV} {σ : St} {H : Hp} {Q : VK} (a : At X.K C (RV X.K) W (fun σ h => (fa σ h).bind fun v h1 => (fb σ h1).bind fun w h2 => f v w h2) σ H Q) :
    tOp (r2 X.K C f) (At X.K C (RV X.K) W fa) (At X.K C (RV X.K) W fb) σ H Q := by
  have a1 := At.step (R := RV X.K) (k := fun σ v h1 => (fb σ h1).bind fun w h2 => f v w h2) a
  obtain ⟨ρ, as, h, rs, sr, p⟩ := a1
  refine ⟨ρ, as, h, rs, sr, p.imp fun y H1 q => ?_⟩
  have b1 := Bh.step (R2 := RV X.K) (f := fb) (k := fun _ v w h2 => f v w h2) q
  obtain ⟨ρ1, as1, h1, rs1, sr1, p1⟩ := b1
  refine ⟨ρ1, as1, h1, rs1, sr1, p1.imp fun z H2 ⟨ρ2, as2, h2, vw, rs2, sr2, ⟨r1, r2⟩, p2⟩ => ?_⟩
  exact ⟨ρ2, h2, vw.1, vw.2, _, sr2, r1, r2, p2⟩
theorem ev_bin {op : Operator} {f : AV → AV → AH → Res AV} (ho : OpR X (binaryOp op) (r2 X.K C f)) (ha : PEv X C W a fa) (hb : PEv X C W b fb) :
    PEv X C W (.BinOp a op b pos) (fun σ h => (fa σ h).bind fun v h1 => (fb σ h1).bind fun w h2 => f v w h2) := PE.weak (pe_op ho ha hb) fun _ _ _ => tOp_of
theorem ev_cmp {op : CmpOp} (hu : X.A.units + 64 < cLine) (ha : PEv X C W a fa) (hb : PEv X C W b fb) (hm : behindInMarks op b = false) :
    PEv X C W (.Compare a [op] [b] pos) (fun σ h => (fa σ h).bind fun v h1 => (fb σ h1).bind fun w h2 => cmpOp op v w h2) := PE.weak (pe_cmpR (cmp_ok hu op) ha hb hm) fun _ _ _ => tOp_of

/-! ### tests -/
/-- the truth of what comes -/
abbrev tst (f : Sl → AH → Res AV) : Sl → AH → Res Bool := fun σ h => (f σ h).bind fun v h1 => match truth v h1 with
  | some b => .ok b h1
  | none => .no
theorem et_val (ha : PEv X C W a fa) (he : ∀ whole, isTrue a X.env whole = (do let v ← whole; standAt a.pos; holding [v] (truthy v))) : PTv X C W a (tst fa) := by
  refine PT.weak (pt_truth ha he) fun σ H Q q => ?_
  obtain ⟨ρ, as, h, rs, sr, p⟩ := At.step (R := RV X.K) (k := fun _ v h1 => match truth v h1 with | some b => Res.ok b h1 | none => Res.no) q
  refine ⟨ρ, as, h, rs, sr, p.imp fun y H1 ⟨ρ1, as1, h1, v, rs1, sr1, r1, p1⟩ => ?_⟩
  simp only at p1
  split at p1
  · next b e => exact ⟨b, truth_ok sr1 r1 e, p1.ok sr1 rfl⟩
  · exact p1.elim
theorem cmp_bl (op : CmpOp) (v w : AV) (h : AH) : cmpOp op v w h = .no ∨ ∃ b, cmpOp op v w h = .ok (.bl b) h := by
  cases op <;> simp only [cmpOp] <;> (repeat' split) <;> first | (right; exact ⟨_, rfl⟩) | (left; rfl) | (left; trivial)
/-- a test of something whose value is a bool or nothing -/
theorem tTest_of {t : TE} {f : Sl → AH → Res AV} (hw : ∀ σ H Q, At X.K C (RV X.K) W f σ H Q → t σ H Q) {σ : St} {H : Hp} {Q : Bool → Hp → Prop} (q : At X.K C RQ W (tst f) σ H Q)
    (hb : ∀ as h, ∃ g : Prop, (g → ∀ v h', f as h = .ok v h' → ∃ b, v = .bl b) ∧ g) : tTest t σ H Q := by
  refine hw σ H _ ?_
  obtain ⟨ρ, as, h, rs, sr, p⟩ := q
  refine ⟨ρ, as, h, rs, sr, ?_⟩
  obtain ⟨g, hg, gg⟩ := hb as h
  have hv := hg gg
  show Po X.K C (RV X.K) _ ρ H (f as h) _
  have p : Po X.K C RQ _ ρ H ((f as h).bind _) Q := p
  cases ef : f as h with
  | ok v h' =>
    obtain ⟨b, rfl⟩ := hv v h' ef
    rw [ef] at p
    intro ρ2 H2 y s2 e2 f2 rv
    cases rv
    exact ⟨b, rfl, p ρ2 H2 b s2 e2 f2 rfl⟩
  | ex c fs h' => rw [ef] at p; exact p
  | no => rw [ef] at p; exact p.elim
theorem et_cmp {op : CmpOp} (hu : X.A.units + 64 < cLine) (ha : PEv X C W a fa) (hb : PEv X C W b fb) (hm : behindInMarks op b = false) :
    PTv X C W (.Compare a [op] [b] pos) (tst fun σ h => (fa σ h).bind fun v h1 => (fb σ h1).bind fun w h2 => cmpOp op v w h2) := by
  refine PT.weak (pt_cmpR (cmp_ok hu op) ha hb hm) fun σ H Q q => tTest_of (fun _ _ _ => tOp_of) q fun as h => ⟨True, fun _ v h' e => ?_, trivial⟩
  cases e1 : fa as h with
  | ok v1 h1 =>
    rw [e1] at e
    have e : (fb as h1).bind (fun w h2 => cmpOp op v1 w h2) = .ok v h' := e
    cases e2 : fb as h1 with
    | ok v2 h2 =>
      rw [e2] at e
      have e : cmpOp op v1 v2 h2 = .ok v h' := e
      rcases cmp_bl op v1 v2 h2 with z | ⟨b, z⟩
      · rw [z] at e; cases e
      · rw [z] at e; cases e; exact ⟨b, rfl⟩
    | ex _ _ _ => rw [e2] at e; cases e
    | no => rw [e2] at e; cases e
  | ex _ _ _ => rw [e1] at e; cases e
  | no => rw [e1] at e; cases e
end
end Ev

set_option Elab.async false
set_option linter.all false
set_option maxRecDepth 100000
set_option maxHeartbeats 8000000
/-! Each construct by values, on. -/
namespace Ev
open PySem PySem.Spec L2
section
variable {K : PySem.W.Frag} {C : Nat → Addr} {α β γ δ ε ζ : Type} {R : Rl α β} {R' : Rl γ δ} {W : WX}
theorem At.thn {f : Sl → AH → Res α} {k : Sl → α → AH → Res γ} {σ : St} {H : Hp} {Q : δ → Hp → Prop} {S : β → Hp → Prop} (a : At K C R' W (fun σ h => (f σ h).bind (k σ)) σ H Q)
    (hk : ∀ (ρ : List Addr) (as : Sl) (h : AH) (v : α) (y : β) (H1 : Hp), RS K ρ H1 as σ → SR K C ρ h H1 → R ρ H1 v y → Po K C R' (fun c d H' => W c d σ H') ρ H1 (k as v h) Q → S y H1) : At K C R W f σ H S := by
  obtain ⟨ρ, as, h, rs, sr, p⟩ := At.step (R := R) (k := k) a
  exact ⟨ρ, as, h, rs, sr, p.imp fun y H1 ⟨ρ1, as1, h1, v, rs1, sr1, r1, p1⟩ => hk ρ1 as1 h1 v y H1 rs1 sr1 r1 p1⟩
theorem At.mk {f : Sl → AH → Res α} {σ : St} {H : Hp} {Q : β → Hp → Prop} {ρ : List Addr} {as : Sl} {h : AH} (rs : RS K ρ H as σ) (sr : SR K C ρ h H) (p : Po K C R (fun c d H' => W c d σ H') ρ H (f as h) Q) : At K C R W f σ H Q := ⟨ρ, as, h, rs, sr, p⟩
/-- a second step, the first value kept -/
theorem At.thn2 [Mono R] {R2 : Rl ε ζ} {f : Sl → AH → Res ε} {as0 : Sl} {k : α → ε → AH → Res γ} {σ : St} {H : Hp} {Q : δ → Hp → Prop} {S : ζ → Hp → Prop} {ρ : List Addr} {h : AH} {v : α} {y : β}
    (rs : RS K ρ H as0 σ) (sr : SR K C ρ h H) (r : R ρ H v y) (p : Po K C R' (fun c d H' => W c d σ H') ρ H ((f as0 h).bind (k v)) Q)
    (hk : ∀ (ρ1 : List Addr) (h1 : AH) (w : ε) (z : ζ) (H1 : Hp), RS K ρ1 H1 as0 σ → SR K C ρ1 h1 H1 → R ρ1 H1 v y → R2 ρ1 H1 w z → Po K C R' (fun c d H' => W c d σ H') ρ1 H1 (k v w h1) Q → S z H1) : At K C R2 W f σ H S :=
  ⟨ρ, as0, h, rs, sr, (Po.bind (R := R2) p).imp fun z H1 ⟨ρ1, h1, w, e, _, s1, r1, p1⟩ => hk (ρ ++ ρ1) h1 w z H1 (rs.mono ρ1 e) s1 (Mono.mono ρ1 e r) r1 p1⟩
end
section
variable {X : Cx} {C : Nat → Addr} {W : WX} {a b c e : Expr} {es : List Expr} {fa fb fc : Sl → AH → Res AV} {fs : Sl → AH → Res (List AV)} {ta tb : Sl → AH → Res Bool} {pos : Pos}

theorem ev_neg (ha : PEv X C W a fa) : PEv X C W (.UnaryOp .USub a pos) (fun σ h => (fa σ h).bind fun v h1 => match v with
    | .int i => .ok (.int (-i)) h1
    | _ => .no) := by
  refine PE.weak (pe_un un_neg ha) fun σ H Q q => ?_
  refine At.thn (R := RV X.K) q fun ρ as h v y H1 rs sr r p => ?_
  cases v with
  | int i => cases r; exact ⟨i, rfl, p.ok sr (.int _)⟩
  | _ => exact p.elim
theorem ev_isN {j p2} (ha : PEv X C W a fa) : PEv X C W (.Compare a [.Is] [.Constant .none j p2] pos) (fun σ h => (fa σ h).bind fun v h1 => .ok (.bl (if true then decide (v = .non) else !decide (v = .non))) h1) := by
  refine PE.weak (pe_cmp (pc_isN ha) rfl) fun σ H Q q => ?_
  refine At.thn (R := RV X.K) q fun ρ as h v y H1 rs sr r p => ?_
  have e : decide (y = V.non) = decide (v = AV.non) := by cases r <;> simp
  show Q (.bl (decide (y = V.non))) H1
  rw [e]
  exact p.ok sr (.bl _)
theorem ev_notN {j p2} (ha : PEv X C W a fa) : PEv X C W (.Compare a [.IsNot] [.Constant .none j p2] pos) (fun σ h => (fa σ h).bind fun v h1 => .ok (.bl (if false then decide (v = .non) else !decide (v = .non))) h1) := by
  refine PE.weak (pe_cmp (pc_notN ha) rfl) fun σ H Q q => ?_
  refine At.thn (R := RV X.K) q fun ρ as h v y H1 rs sr r p => ?_
  have e : decide (y = V.non) = decide (v = AV.non) := by cases r <;> simp
  show Q (.bl (!decide (y = V.non))) H1
  rw [e]
  exact p.ok sr (.bl _)
theorem bl_of_isN (y : Bool) {f : Sl → AH → Res AV} (as : Sl) (h : AH) : ∀ (v : AV) (h' : AH), ((f as h).bind fun v h1 => Res.ok (AV.bl (if y then decide (v = .non) else !decide (v = .non))) h1) = Res.ok v h' → ∃ b, v = AV.bl b := by
  intro v h' e
  cases e1 : f as h with
  | ok v1 h1 => rw [e1] at e; cases e; exact ⟨_, rfl⟩
  | ex _ _ _ => rw [e1] at e; cases e
  | no => rw [e1] at e; cases e
theorem et_of {t : TE} {f : Sl → AH → Res AV} (hw : ∀ σ H Q, At X.K C (RV X.K) W f σ H Q → t σ H Q) (hb : ∀ as h v h', f as h = .ok v h' → ∃ b, v = .bl b) {σ : St} {H : Hp} {Q : Bool → Hp → Prop} (q : At X.K C RQ W (tst f) σ H Q) : tB t σ H Q :=
  tTest_of hw q fun as h => ⟨True, fun _ => hb as h, trivial⟩
theorem et_isN {j p2} (ha : PEv X C W a fa) : PTv X C W (.Compare a [.Is] [.Constant .none j p2] pos) (tst fun σ h => (fa σ h).bind fun v h1 => .ok (.bl (if true then decide (v = .non) else !decide (v = .non))) h1) := by
  refine PT.weak (pt_cmp (pc_isN ha) rfl) fun σ H Q q => et_of (fun σ H Q q => ?_) (bl_of_isN true) q
  refine At.thn (R := RV X.K) q fun ρ as h v y H1 rs sr r p => ?_
  have e : decide (y = V.non) = decide (v = AV.non) := by cases r <;> simp
  show Q (.bl (decide (y = V.non))) H1
  rw [e]
  exact p.ok sr (.bl _)
theorem et_notN {j p2} (ha : PEv X C W a fa) : PTv X C W (.Compare a [.IsNot] [.Constant .none j p2] pos) (tst fun σ h => (fa σ h).bind fun v h1 => .ok (.bl (if false then decide (v = .non) else !decide (v = .non))) h1) := by
  refine PT.weak (pt_cmp (pc_notN ha) rfl) fun σ H Q q => et_of (fun σ H Q q => ?_) (bl_of_isN false) q
  refine At.thn (R := RV X.K) q fun ρ as h v y H1 rs sr r p => ?_
  have e : decide (y = V.non) = decide (v = AV.non) := by cases r <;> simp
  show Q (.bl (!decide (y = V.non))) H1
  rw [e]
  exact p.ok sr (.bl _)
/-- a op b op' c -/
abbrev chainF (op op' : CmpOp) (fa fb fc : Sl → AH → Res AV) : Sl → AH → Res AV := fun σ h => (fa σ h).bind fun u h1 => (fb σ h1).bind fun v h2 => (cmpOp op u v h2).bind fun r h3 => match r with
    | .bl true => (fc σ h3).bind fun w h4 => cmpOp op' v w h4
    | .bl false => .ok (.bl false) h3
    | _ => .no
theorem chain_of {op op' : CmpOp} {σ : St} {H : Hp} {Q : VK} (q : At X.K C (RV X.K) W (chainF op op' fa fb fc) σ H Q) :
    tChain (r2 X.K C (cmpOp op)) (r2 X.K C (cmpOp op')) (At X.K C (RV X.K) W fa) (At X.K C (RV X.K) W fb) (At X.K C (RV X.K) W fc) σ H Q := by
  refine At.thn (R := RV X.K) q fun ρ as h u x H1 rs sr rx p => ?_
  refine At.thn2 (R := RV X.K) (R2 := RV X.K) (f := fb) (k := fun u v h2 => (cmpOp op u v h2).bind fun r h3 => match r with
    | .bl true => (fc as h3).bind fun w h4 => cmpOp op' v w h4
    | .bl false => .ok (.bl false) h3
    | _ => .no) rs sr rx p fun ρ1 h1 v y H2 rs1 sr1 rx1 ry1 p1 => ?_
  refine ⟨ρ1, h1, u, v, fun c d H' => W c d σ H', sr1, rx1, ry1, (Po.bind (R := RV X.K) p1).imp fun z H3 ⟨ρ2, h2, r, e2, _, sr2, rz, p2⟩ => ?_⟩
  cases r with
  | bl k =>
    cases rz
    refine ⟨k, rfl, ?_⟩
    cases k with
    | false => exact p2.ok sr2 (.bl _)
    | true =>
      refine At.thn2 (R := RV X.K) (R2 := RV X.K) (f := fc) (k := fun v w h4 => cmpOp op' v w h4) (rs1.mono ρ2 e2) sr2 (ry1.mono ρ2 e2) p2 fun ρ3 h3 w z H4 rs3 sr3 ry3 rz3 p3 => ?_
      exact ⟨ρ3, h3, v, w, _, sr3, ry3, rz3, p3⟩
  | _ => exact p2.elim
theorem bl_chain (op op' : CmpOp) (as : Sl) (h : AH) : ∀ v h', chainF op op' fa fb fc as h = .ok v h' → ∃ b, v = .bl b := by
  intro v h' e
  unfold chainF at e
  cases e1 : fa as h with
  | ok u h1 =>
    rw [e1] at e
    cases e2 : fb as h1 with
    | ok u2 h2 =>
      simp only [Res.bind, e2] at e
      rcases cmp_bl op u u2 h2 with z | ⟨k, z⟩
      · rw [z] at e; cases e
      · rw [z] at e
        cases k with
        | false => cases e; exact ⟨_, rfl⟩
        | true =>
          simp only at e
          cases e3 : fc as h2 with
          | ok u3 h3 =>
            rw [e3] at e
            rcases cmp_bl op' u2 u3 h3 with z | ⟨k, z⟩
            · simp only [z] at e; cases e
            · simp only [z] at e; cases e; exact ⟨_, rfl⟩
          | ex _ _ _ => rw [e3] at e; cases e
          | no => rw [e3] at e; cases e
    | ex _ _ _ => simp only [Res.bind, e2] at e; cases e
    | no => simp only [Res.bind, e2] at e; cases e
  | ex _ _ _ => rw [e1] at e; cases e
  | no => rw [e1] at e; cases e
theorem ev_chain {op op' : CmpOp} (hu : X.A.units + 64 < cLine) (ha : PEv X C W a fa) (hb : PEv X C W b fb) (hc : PEv X C W c fc) (hm : lastMarks [op, op'] [b, c] = false) : PEv X C W (.Compare a [op, op'] [b, c] pos) (chainF op op' fa fb fc) :=
  PE.weak (pe_chain (cmp_ok hu op) (cmp_ok hu op') ha hb hc hm) fun _ _ _ => chain_of
theorem et_chain {op op' : CmpOp} (hu : X.A.units + 64 < cLine) (ha : PEv X C W a fa) (hb : PEv X C W b fb) (hc : PEv X C W c fc) (hm : lastMarks [op, op'] [b, c] = false) : PTv X C W (.Compare a [op, op'] [b, c] pos) (tst (chainF op op' fa fb fc)) :=
  PT.weak (pt_chain (cmp_ok hu op) (cmp_ok hu op') ha hb hc hm) fun σ H Q q => et_of (fun _ _ _ => chain_of) (bl_chain op op') q

/-! ### and, or, not, if -/
abbrev andV (fa fb : Sl → AH → Res AV) : Sl → AH → Res AV := fun σ h => (fa σ h).bind fun v h1 => match v with
      | .bl true => fb σ h1
      | .bl false => .ok (.bl false) h1
      | _ => .no
abbrev orV (fa fb : Sl → AH → Res AV) : Sl → AH → Res AV := fun σ h => (fa σ h).bind fun v h1 => match v with
      | .bl true => .ok (.bl true) h1
      | .bl false => fb σ h1
      | _ => .no
theorem ev_and {r : List Expr} (ha : PEv X C W a fa) (hb : PEv X C W (.BoolOp .And (b :: r) pos) fb) : PEv X C W (.BoolOp .And (a :: b :: r) pos) (andV fa fb) := by
  refine PE.weak (pe_and ha hb) fun σ H Q q => ?_
  refine At.thn (R := RV X.K) q fun ρ as h v y H1 rs sr rr p => ?_
  cases v with
  | bl k =>
    cases rr
    refine ⟨k, rfl, ?_⟩
    cases k with
    | true => exact At.mk rs sr p
    | false => exact p.ok sr (.bl _)
  | _ => exact p.elim
theorem ev_or {r : List Expr} (ha : PEv X C W a fa) (hb : PEv X C W (.BoolOp .Or (b :: r) pos) fb) : PEv X C W (.BoolOp .Or (a :: b :: r) pos) (orV fa fb) := by
  refine PE.weak (pe_or ha hb) fun σ H Q q => ?_
  refine At.thn (R := RV X.K) q fun ρ as h v y H1 rs sr rr p => ?_
  cases v with
  | bl k =>
    cases rr
    refine ⟨k, rfl, ?_⟩
    cases k with
    | false => exact At.mk rs sr p
    | true => exact p.ok sr (.bl _)
  | _ => exact p.elim
theorem ew_and {r : List Expr} (ha : PTv X C W a ta) (hb : PWv X C W (.BoolOp .And (b :: r) pos) tb) : PWv X C W (.BoolOp .And (a :: b :: r) pos) (fun σ h => (ta σ h).bind fun c h1 => if c then tb σ h1 else .ok false h1) := by
  refine PW.weak (pw_and ha hb) fun σ H Q q => ?_
  refine At.thn (R := RQ) q fun ρ as h v y H1 rs sr rr p => ?_
  cases rr
  cases v with
  | true => exact At.mk rs sr p
  | false => exact p.ok sr rfl
theorem ew_or {r : List Expr} (ha : PTv X C W a ta) (hb : PWv X C W (.BoolOp .Or (b :: r) pos) tb) : PWv X C W (.BoolOp .Or (a :: b :: r) pos) (fun σ h => (ta σ h).bind fun c h1 => if c then .ok true h1 else tb σ h1) := by
  refine PW.weak (pw_or ha hb) fun σ H Q q => ?_
  refine At.thn (R := RQ) q fun ρ as h v y H1 rs sr rr p => ?_
  cases rr
  cases v with
  | true => exact p.ok sr rfl
  | false => exact At.mk rs sr p
theorem et_not (ha : PTv X C W a ta) : PTv X C W (.UnaryOp .Not a pos) (fun σ h => (ta σ h).bind fun c h1 => .ok (!c) h1) := by
  refine PT.weak (pt_not ha) fun σ H Q q => ?_
  refine At.thn (R := RQ) q fun ρ as h v y H1 rs sr rr p => ?_
  cases rr
  exact p.ok sr rfl
theorem ev_not (ha : PEv X C W a fa) : PEv X C W (.UnaryOp .Not a pos) (fun σ h => (fa σ h).bind fun v h1 => match v with
      | .bl c => .ok (.bl (!c)) h1
      | _ => .no) := by
  refine PE.weak (pe_not ha) fun σ H Q q => ?_
  refine At.thn (R := RV X.K) q fun ρ as h v y H1 rs sr rr p => ?_
  cases v with
  | bl k => cases rr; exact ⟨k, rfl, p.ok sr (.bl _)⟩
  | _ => exact p.elim
theorem ev_ite (hc : PTv X C W c ta) (ha : PEv X C W a fa) (hb : PEv X C W b fb) : PEv X C W (.IfExp c a b pos) (fun σ h => (ta σ h).bind fun k h1 => if k then fa σ h1 else fb σ h1) := by
  refine PE.weak (pe_ifExp hc ha hb) fun σ H Q q => ?_
  refine At.thn (R := RQ) q fun ρ as h v y H1 rs sr rr p => ?_
  cases rr
  cases v with
  | true => exact At.mk rs sr p
  | false => exact At.mk rs sr p

/-! ### subscripts, slices -/
theorem ev_idx (hu : X.A.units + 1 < cLine) (ha : PEv X C W a fa) (hb : PEv X C W b fb) (hs : PlainIx b) : PEv X C W (.Subscript a b pos) (fun σ h => (fa σ h).bind fun v h1 => (fb σ h1).bind fun w h2 => idxOp v w h2) :=
  PE.weak (pe_ix (ix_ok hu) ha hb hs) fun _ _ _ => tOp_of
abbrev POv (X : Cx) (C : Nat → Addr) (W : WX) (e : Option Expr) (f : Sl → AH → Res (Option Int)) : Prop := PO X e (At X.K C RQ W f)
theorem PO.weak {e : Option Expr} {t t' : TO} (p : PO X e t) (h : ∀ σ H Q, t' σ H Q → t σ H Q) : PO X e t' := ⟨fun pins s σ H Q I q => p.run pins s σ H Q I (h _ _ _ q)⟩
theorem eo_none : POv X C W none (fun _ h => .ok none h) := PO.weak po_none fun σ H Q ⟨ρ, as, h, rs, sr, p⟩ => p.ok sr rfl
theorem eo_some (ha : PEv X C W a fa) : POv X C W (some a) (fun σ h => (fa σ h).bind fun v h1 => oInt v h1) := by
  refine PO.weak (po_some ha) fun σ H Q q => ?_
  refine At.thn (R := RV X.K) q fun ρ as h v y H1 rs sr rr p => ?_
  cases v with
  | int i => cases rr; exact ⟨i, rfl, p.ok sr rfl⟩
  | _ => exact p.elim
theorem ev_slc {lo hi : Option Expr} {fl fh : Sl → AH → Res (Option Int)} {p2 : Pos} (ha : PEv X C W a fa) (hl : POv X C W lo fl) (hh : POv X C W hi fh) :
    PEv X C W (.Subscript a (.Slice lo hi none p2) pos) (fun σ h => (fa σ h).bind fun v h1 => (fl σ h1).bind fun l h2 => (fh σ h2).bind fun u h3 => slcOp v l u h3) := by
  refine PE.weak (pe_slice (sl_ok (C := C)) ha hl hh) fun σ H Q q => ?_
  refine At.thn (R := RV X.K) q fun ρ as h v y H1 rs sr rr p => ?_
  refine At.thn2 (R := RV X.K) (R2 := RQ) (f := fl) (k := fun v l h2 => (fh as h2).bind fun u h3 => slcOp v l u h3) rs sr rr p fun ρ1 h1 l z H2 rs1 sr1 rr1 rl p1 => ?_
  cases rl
  refine At.thn2 (R := RV X.K) (R2 := RQ) (f := fh) (k := fun v u h3 => slcOp v l u h3) rs1 sr1 rr1 p1 fun ρ2 h2 u z H3 rs2 sr2 rr2 ru p2 => ?_
  cases ru
  exact ⟨ρ2, h2, v, _, sr2, rr2, p2⟩

/-! ### lists of expressions -/
theorem ea_nil : PAv X C W [] (fun _ h => .ok [] h) := PA.weak pa_nil fun σ H Q ⟨ρ, as, h, rs, sr, p⟩ => p.ok sr .nil
theorem ea_cons (ha : PEv X C W e fa) (hr : PAv X C W es fs) (hs : starEach (e :: es) X.env = (false, eval e X.env) :: starEach es X.env) : PAv X C W (e :: es) (fun σ h => (fa σ h).bind fun v h1 => (fs σ h1).bind fun vs h2 => .ok (v :: vs) h2) := by
  refine PA.weak (pa_cons ha hr hs) fun σ H Q q => ?_
  refine At.thn (R := RV X.K) q fun ρ as h v y H1 rs sr rr p => ?_
  refine At.thn2 (R := RV X.K) (R2 := RVs X.K) (f := fs) (k := fun v vs h2 => .ok (v :: vs) h2) rs sr rr p fun ρ1 h1 vs ys H2 rs1 sr1 rr1 rv p1 => ?_
  exact p1.ok sr1 (.cons rr1 rv)
theorem ev_tup {k} (ha : PAv X C W es fs) : PEv X C W (.Tuple es k pos) (fun σ h => (fs σ h).bind fun vs h1 => if vs.length ≤ sizeLine then .ok (.tup vs) h1 else .no) := by
  refine PE.weak (pe_tup ha) fun σ H Q q => ?_
  refine At.thn (R := RVs X.K) q fun ρ as h v y H1 rs sr rr p => ?_
  split at p
  · next hz => exact ⟨by rw [← rr.length]; exact hz, fun l hl => Po.tup p sr rr hl⟩
  · exact p.elim
theorem ev_lst (ha : PAv X C W es fs) : PEv X C W (.List es pos) (fun σ h => (fs σ h).bind fun vs h1 => if vs.length ≤ sizeLine then lay (.lst vs) h1 else .no) := by
  refine PE.weak (pe_lst ha) fun σ H Q q => ?_
  refine At.thn (R := RVs X.K) q fun ρ as h v y H1 rs sr rr p => ?_
  split at p
  · next hz => exact ⟨by rw [← rr.length]; exact hz, fun l hl => Po.lst p sr rr hl⟩
  · exact p.elim
/-- a built-in function called -/
theorem cb_of {f : List AV → AH → Res AV} {σ : St} {H : Hp} {Q : VK} (q : At X.K C (RV X.K) W (fun σ h => (fs σ h).bind fun vs h1 => f vs h1) σ H Q) : tCB (rPr X.K C f) (At X.K C (RVs X.K) W fs) σ H Q :=
  At.thn (R := RVs X.K) q fun ρ as h v y H1 rs sr rr p => ⟨ρ, h, v, _, sr, rr, p⟩
theorem ev_prB {id : String} {x : Str} {p : Pos} {f : List AV → AH → Res AV} (hc : CallR X (.builtin id) (rPr X.K C f)) (hg : Gl X x) (hm : X.mg x = none) (hv : bootBuiltins x = some (.builtin id)) (ha : PAv X C W (e :: es) fs) (hn : x ≠ "__name__") (hdb : (x == ("__debug__" : Str)) = false)
    (he : starEach (e :: es) X.env = (false, eval e X.env) :: starEach es X.env) (hpl : (backTo pos (starEach es X.env)).any (·.1) = false) : PEv X C W (.Call (.Name x p) (e :: es) [] pos) (fun σ h => (fs σ h).bind fun vs h1 => f vs h1) :=
  PE.weak (pe_callB hc hg hm hv ha hn hdb he hpl) fun _ _ _ => cb_of
theorem ev_prT {id : String} {x : Str} {p : Pos} {f : List AV → AH → Res AV} (hc : CallR X (.type id) (rPr X.K C f)) (hg : Gl X x) (hm : X.mg x = none) (hv : bootBuiltins x = some (.type id)) (ha : PAv X C W (e :: es) fs) (hn : x ≠ "__name__") (hdb : (x == ("__debug__" : Str)) = false)
    (he : starEach (e :: es) X.env = (false, eval e X.env) :: starEach es X.env) (hpl : (backTo pos (starEach es X.env)).any (·.1) = false) : PEv X C W (.Call (.Name x p) (e :: es) [] pos) (fun σ h => (fs σ h).bind fun vs h1 => f vs h1) :=
  PE.weak (pe_callTy hc hg hm hv ha hn hdb he hpl) fun _ _ _ => cb_of
end
end Ev

set_option Elab.async false
set_option linter.all false
set_option maxRecDepth 100000
set_option maxHeartbeats 8000000
/-! Calls, with nothing on the guards' row (so repr has its rule). -/
namespace Ev
open PySem PySem.Spec PyProof.Rows L2

/-- a def's promise where no guard stands -/
structure FnG (P : Program) (wd : World) (K : PySem.W.Frag) (mg : Str → Option Value) (bs : Heap) (CX : CXT) (lv : Nat) (fa : Addr) (fd : FuncData) (pars : List Str) (want : Sp) : Prop where
  many : ∀ {xs : List V} {H : Hp} {Q : VK} {E : XK}, want xs H Q E → xs.length = pars.length
  runs : ∀ {A : Around} {out : List Env} {s : Shared} {H : Hp} {ar : Args} {us : List Value} {xs : List V} {Q : VK} {E : XK}, Room lv A → A.guards = some [] → Env0 P wd K mg bs A out s H →
    BindsTo s fd ar (pars.zip us) → Vals xs us → want xs H Q E → codeAny (model P wd) A (.call (.ref fa) ar) (CR CX out P wd H s Q E) s
theorem FnG.up {P : Program} {wd : World} {K : PySem.W.Frag} {mg : Str → Option Value} {bs : Heap} {CX : CXT} {i j : Nat} {fa : Addr} {fd : FuncData} {pars : List Str} {want : Sp} (F : FnG P wd K mg bs CX i fa fd pars want) (le : i ≤ j) : FnG P wd K mg bs CX j fa fd pars want :=
  ⟨F.many, fun r => F.runs (r.mono le)⟩

section
variable {P : Program} {wd : World} {K : PySem.W.Frag} {mg : Str → Option Value} {bs : Heap} {CX : CXT} {lv : Nat} {fa : Addr} {name qual : Str} {prm : Arguments} {code : List Stmt} {scp : Scope} {d1 d2 dc pm cdv ct cl : Value} {an od : Option Addr}
  {sls : Array (Option Value)} {N pars : List Str} {want : Sp}
/-- a def of the text, by its code -/
theorem fnG_of (at_ : K.lookup fa = some ⟨cl, od, .func (PySem.W.fnOf name qual prm code scp d1 d2 dc pm an cdv ct), sls⟩) (rec_ : PySem.W.codeIn K cdv qual = true) (S : FnScope N pars scp)
    (many : ∀ {xs : List V} {H : Hp} {Q : VK} {E : XK}, want xs H Q E → xs.length = pars.length)
    (does : ∀ (A : Around) (out : List Env) (s : Shared) (H : Hp) (xs : List V) (Q : VK) (E : XK), Room lv (A.deeper (envOfC qual scp s.heap.objs.size fa cdv)) → (A.deeper (envOfC qual scp s.heap.objs.size fa cdv)).guards = some [] → want xs H Q E →
      ∃ t, PSs (cxOf CX P wd K mg bs N qual scp fa cdv A out s H E) code t ∧ t { nx := fun _ H' => Q .non H', rt := Q } (start N xs) H) :
    FnG P wd K mg bs CX (lv + 1) fa (PySem.W.fnOf name qual prm code scp d1 d2 dc pm an cdv ct) pars want := by
  refine ⟨many, fun {A out s H ar us xs Q E} room grd here bind vals want' => ?_⟩
  have inK : K.In s.heap := here.mod.kin.keeps fun b o e => (here.bs b o e).1
  have nol : s.heap.NoLimit := here.mod.nolimit.keeps fun b o e => (here.bs b o e).1
  have kinds : ∀ y ∈ pars.zip us, scp.names.lookup y.1 = some .local ∨ (scp.names.lookup y.1 = some .cell ∧ ((cellsFrom (s.heap.objs.size + 1) scp.names []).lookup y.1).isSome = true) := by
    rintro ⟨x, v⟩ hy
    cases S.par x (List.of_mem_zip hy).1 with
    | inl q => exact .inl q
    | inr q => exact .inr ⟨q, PySem.W.cellsFrom_some _ _ _ (.inl q)⟩
  apply codeAny_call_function room.depth (inK _ _ at_) rfl S.co S.gen rfl (PySem.W.codeRec_of inK rec_) (bind _ _ _ _ _)
  apply wpAny_newFunctionEnv_cells S.kind kinds
  intro env ee s1 ic
  subst ee
  refine ⟨nol.keeps ic.toInCall.keep, codeAny_func ?_⟩
  obtain ⟨t, pt, tw⟩ := does A out s H xs Q E (room.deeper _) grd want'
  have I := inv_start (CX := CX) (E := E) S room.hd here (many want') vals ic
  have done : ∀ {σ' : L2.St} {H' : Hp} {v : V} {u : Value} {s' : Shared}, L2.Inv (cxOf CX P wd K mg bs N qual scp fa cdv A out s H E) [] σ' H' s' → RelV v u → Q v H' → CE out P wd H s Q u s' :=
    fun {σ' H' v u s'} J rv q => ⟨v, H', J.os, J.bare, J.base, J.hok, rv, q⟩
  refine wpAny_mono (pt.run [] s1 (start N xs) H _ I tw) (fun fl s' end_ => ?_) fun _ _ z => z
  cases fl with
  | next => obtain ⟨σ', H', J, q⟩ := end_; exact done (v := V.non) (u := Value.none) J rfl q
  | ret u => obtain ⟨v, σ', H', J, rv, q⟩ := end_; exact done J rv q
  | cont => obtain ⟨_, _, _, q⟩ := end_; cases q
  | brk => obtain ⟨_, _, _, q⟩ := end_; cases q
end

section
variable {X : Cx} {CX : CXT} {lv : Nat} {fa ca : Addr} {fd : FuncData} {pars : List Str} {want : Sp} {E : L2.St → XK} {x m : Str} {p pos apos : Pos} {e o : Expr} {es : List Expr} {to : TE} {t : TA}
theorem run_G {pins : List (Addr × Obj)} {σ : L2.St} {H : Hp} {s : Shared} {Q : VK} {us : List Value} {xs : List V} (F : FnG X.prog X.w X.K X.mg X.base CX lv fa fd pars want) (room : Room lv X.A) (grd : X.A.guards = some []) (bd : Binds X.K fd pars []) (pass : PassesAt CX X σ (E σ))
    (I : L2.Inv X pins σ H s) (r : Vals xs us) (q : want xs H Q (E σ)) : wpAny (model X.prog X.w) X.A (call (.ref fa) us) (EP X pins σ Q) X.xe s := by
  have hm : (us ++ []).length = pars.length := by rw [List.append_nil, ← r.length]; exact F.many q
  have b := bd s us I.kIn hm
  rw [List.append_nil] at b
  refine wpAny_call (codeAny_mono (F.runs room grd I.env0 b r q) fun res s' end_ => ?_)
  match res, end_ with
  | .error e, end_ => exact pass pins H s e s' I end_
  | .ok (.ret u), end_ => exact I.after end_
  | .ok .next, end_ => exact False.elim end_
  | .ok .brk, end_ => exact False.elim end_
  | .ok .cont, end_ => exact False.elim end_
def tG (want : Sp) (E : L2.St → XK) (t : TA) : TE := fun σ H Q => t σ H fun xs H1 => want xs H1 Q (E σ)
theorem pe_G (F : FnG X.prog X.w X.K X.mg X.base CX lv fa fd pars want) (room : Room lv X.A) (grd : X.A.guards = some []) (gl : Gl X x) (is : X.mg x = some (.ref fa)) (kp : PySem.W.keepIn X.K (.ref fa) = true) (bd : Binds X.K fd pars []) (pass : ∀ σ, PassesAt CX X σ (E σ))
    (ha : PA X (e :: es) t) (nd : (x == ("__debug__" : Str)) = false) (st : starEach (e :: es) X.env = (false, eval e X.env) :: starEach es X.env) (pl : (backTo pos (starEach es X.env)).any (·.1) = false) : PE X (.Call (.Name x p) (e :: es) [] pos) (tG want E t) :=
  ⟨fun pins s σ H Q I h => wpAny_Call_Name_kw (ld_glob I gl is (PySem.W.callWith_K (h₀ := X.base) I.ok.mod.kin kp (thn (ha.run pos pins s σ H _ I h) fun us s1 ⟨xs, H1, I1, r, q⟩ => ⟨I1.kIn, run_G F room grd bd (pass σ) I1 r q⟩) st pl) nd)⟩
theorem pe_G0 (F : FnG X.prog X.w X.K X.mg X.base CX lv fa fd pars want) (room : Room lv X.A) (grd : X.A.guards = some []) (gl : Gl X x) (is : X.mg x = some (.ref fa)) (kp : PySem.W.keepIn X.K (.ref fa) = true) (bd : Binds X.K fd pars []) (pass : ∀ σ, PassesAt CX X σ (E σ))
    (nd : (x == ("__debug__" : Str)) = false) : PE X (.Call (.Name x p) [] [] pos) (tG want E tNil) :=
  ⟨fun pins s σ H Q I h => wpAny_Call_Name_kw (ld_glob I gl is (PySem.W.callWith_K0 I.kIn kp (run_G (us := []) F room grd bd (pass σ) I .nil h)) nd)⟩
/-- a method of an instance -/
def tGm (ca : Addr) (m : Str) (want : Sp) (E : L2.St → XK) (to : TE) (t : TA) : TE := fun σ H Q => to σ H fun v H1 => ∃ a dx fs, v = .ref a ∧ H1 a = some (.ins ca dx fs) ∧ fs.lookup m = none ∧ t σ H1 fun xs H2 => want (v :: xs) H2 Q (E σ)
theorem pe_Gm {pl : Sem Bool} (ho : PE X o to) (cls : Cls X.K ca) (me : Meth X.K ca m fa) (F : FnG X.prog X.w X.K X.mg X.base CX lv fa fd pars want) (room : Room lv X.A) (grd : X.A.guards = some []) (bd : Binds X.K fd pars []) (pass : ∀ σ, PassesAt CX X σ (E σ)) (ha : PA X (e :: es) t)
    (st : starEach (e :: es) X.env = (false, eval e X.env) :: starEach es X.env) (np : (backTo pos (starEach es X.env)).any (·.1) = false)
    (form : eval (.Call (.Attribute o m apos) (e :: es) [] pos) X.env = (do
      let ov ← eval o X.env
      standAt apos.atName
      let (f, first) ← holding [ov] (getMethod ov m pl)
      callWith pos f first (backTo pos (starEach (e :: es) X.env)) (backToKw pos (keywordEach [] X.env)))) : PE X (.Call (.Attribute o m apos) (e :: es) [] pos) (tGm ca m want E to t) := by
  refine ⟨fun pins s σ H Q I h => PySem.W.methodCall_KW (pl := pl) (thn (ho.run pins s σ H _ I h) ?_) form⟩
  rintro u s1 ⟨v, H1, I1, rv, a, dx, fs, rfl, ea, l, q⟩
  obtain rfl : u = Value.ref a := rv
  refine getmeth_ok I1 ea cls me l (PySem.W.callWith_K (first := [.ref a]) (h₀ := X.base) I.ok.mod.kin me.kp (thn (ha.run pos pins s1 σ H1 _ I1 q) ?_) st np)
  rintro us s2 ⟨xs, H2, I2, r, q2⟩
  exact ⟨I2.kIn, run_G (us := .ref a :: us) (xs := .ref a :: xs) F room grd bd (pass σ) I2 (.cons rfl r) q2⟩
theorem pe_Gm0 {pl : Sem Bool} (ho : PE X o to) (cls : Cls X.K ca) (me : Meth X.K ca m fa) (F : FnG X.prog X.w X.K X.mg X.base CX lv fa fd pars want) (room : Room lv X.A) (grd : X.A.guards = some []) (bd : Binds X.K fd pars []) (pass : ∀ σ, PassesAt CX X σ (E σ))
    (form : eval (.Call (.Attribute o m apos) [] [] pos) X.env = (do
      let ov ← eval o X.env
      standAt apos.atName
      let (f, first) ← holding [ov] (getMethod ov m pl)
      callWith pos f first (backTo pos (starEach [] X.env)) (backToKw pos (keywordEach [] X.env)))) : PE X (.Call (.Attribute o m apos) [] [] pos) (tGm ca m want E to tNil) := by
  refine ⟨fun pins s σ H Q I h => PySem.W.methodCall_KW (pl := pl) (thn (ho.run pins s σ H _ I h) ?_) form⟩
  rintro u s1 ⟨v, H1, I1, rv, a, dx, fs, rfl, ea, l, q⟩
  obtain rfl : u = Value.ref a := rv
  exact getmeth_ok I1 ea cls me l (PySem.W.callWith_K0 (first := [.ref a]) I1.kIn me.kp (run_G (us := [.ref a]) (xs := [.ref a]) F room grd bd (pass σ) I1 (.cons rfl .nil) q))
/-- a new instance -/
def tGk (ca : Addr) (want : Sp) (E : L2.St → XK) (t : TA) : TE := fun σ H Q => t σ H fun xs H1 => ∀ a dx, H1 a = none → H1 dx = none → dx ≠ a → want (.ref a :: xs) (upd (upd H1 dx (.own a)) a (.ins ca dx [])) (fun v H2 => v = .non ∧ Q (.ref a) H2) (E σ)
theorem grd_make {A : Around} {u : List Value} {kw : List (Str × Value)} {ca : Addr} : (A.under (.builtin "type.__call__" ⟨.ref ca :: u, kw⟩)).guards = A.guards := by
  first | rfl | simp [Around.under, Code.isGuard, guardIds]
theorem run_Gk {pins : List (Addr × Obj)} {σ : L2.St} {H : Hp} {s : Shared} {Q : VK} {us : List Value} {xs : List V} (M : Mk X.K ca fa) (F : FnG X.prog X.w X.K X.mg X.base CX lv fa fd pars want) (room : Room (lv + 1) X.A) (grd : X.A.guards = some []) (bd : Binds X.K fd pars []) (pass : PassesAt CX X σ (E σ))
    (I : L2.Inv X pins σ H s) (r : Vals xs us) (q : ∀ a dx, H a = none → H dx = none → dx ≠ a → want (.ref a :: xs) (upd (upd H dx (.own a)) a (.ins ca dx [])) (fun v H2 => v = .non ∧ Q (.ref a) H2) (E σ)) :
    wpAny (model X.prog X.w) X.A (call (.ref ca) us) (EP X pins σ Q) X.xe s := by
  have q1 := q (s.heap.objs.size + 1) s.heap.objs.size (I.hok.fresh (Nat.le_succ _)) (I.hok.fresh (Nat.le_refl _)) (Nat.ne_of_lt (Nat.lt_succ_self _))
  have J := Inv.made (C := ca) I
  have r1 : Vals (V.ref (s.heap.objs.size + 1) :: xs) (Value.ref (s.heap.objs.size + 1) :: us) := .cons rfl r
  have hm : ((Value.ref (s.heap.objs.size + 1) :: us) ++ []).length = pars.length := by rw [List.append_nil, ← r1.length]; exact F.many q1
  have b := bd _ (Value.ref (s.heap.objs.size + 1) :: us) J.kIn hm
  rw [List.append_nil] at b
  refine wpAny_call (make_map (f := fa) I.kIn M.makes M.init (beq_iff_eq.mp M.fn) (codeAny_mono (F.runs (room.make ca us []) (grd_make.trans grd) (J.env0.make ca us []) b r1 q1) fun res s' end_ => ?_))
  match res, end_ with
  | .error e, end_ => exact pass pins _ _ e s' J end_
  | .ok (.ret u), end_ =>
    obtain ⟨v, H', J2, rv, ev, q3⟩ := J.after end_
    subst ev
    exact ⟨rv, V.ref (s.heap.objs.size + 1), H', J2, rfl, q3⟩
  | .ok .next, end_ => exact False.elim end_
  | .ok .brk, end_ => exact False.elim end_
  | .ok .cont, end_ => exact False.elim end_
theorem pe_Gk (M : Mk X.K ca fa) (F : FnG X.prog X.w X.K X.mg X.base CX lv fa fd pars want) (room : Room (lv + 1) X.A) (grd : X.A.guards = some []) (gl : Gl X x) (is : X.mg x = some (.ref ca)) (bd : Binds X.K fd pars []) (pass : ∀ σ, PassesAt CX X σ (E σ))
    (ha : PA X (e :: es) t) (nd : (x == ("__debug__" : Str)) = false) (st : starEach (e :: es) X.env = (false, eval e X.env) :: starEach es X.env) (pl : (backTo pos (starEach es X.env)).any (·.1) = false) : PE X (.Call (.Name x p) (e :: es) [] pos) (tGk ca want E t) :=
  ⟨fun pins s σ H Q I h => wpAny_Call_Name_kw (ld_glob I gl is (PySem.W.callWith_K (h₀ := X.base) I.ok.mod.kin M.kp (thn (ha.run pos pins s σ H _ I h) fun us s1 ⟨xs, H1, I1, r, q⟩ => ⟨I1.kIn, run_Gk M F room grd bd (pass σ) I1 r q⟩) st pl) nd)⟩
end
end Ev

set_option Elab.async false
set_option linter.all false
set_option maxRecDepth 100000
set_option maxHeartbeats 8000000
/-! What is walked. -/
namespace Ev
open PySem PySem.Spec L2

/-- an iterator of the layer walks what ours tells -/
def Wk (K : PySem.W.Frag) (C : Nat → Addr) : Rl Src L2.It := fun ρ H src J => ∀ (ρ' : List Addr) (h' : AH) (H' : Hp) (i : Nat), SR K C (ρ ++ ρ') h' H' → Ext H H' → still src.watch h' = true →
  (i = src.items.length → J.stop i H') ∧ ∀ v, src.items[i]? = some v → J.go i H' ∧ ∀ x H2, J.yld i H' x H2 → SR K C (ρ ++ ρ') h' H2 ∧ Ext H' H2 ∧ Fr (ρ ++ ρ') [] H' H2 ∧ RV K (ρ ++ ρ') H2 v x
instance (K : PySem.W.Frag) (C : Nat → Addr) : Mono (Wk K C) := ⟨fun ρ1 e w ρ2 h' H' i s e2 st => by rw [List.append_assoc] at s ⊢; exact w (ρ1 ++ ρ2) h' H' i s (e.trans e2) st⟩
section
variable {K : PySem.W.Frag} {C : Nat → Addr} {ρ : List Addr} {H : Hp} {W : WX}
theorem still_one {n : Nat} {xs : List AV} {w : List (Nat × List AV)} {h : AH} (e : still ((n, xs) :: w) h = true) : h[n]? = some (.lst xs) ∧ still w h = true := by
  simp only [still, List.all_cons, Bool.and_eq_true] at e
  obtain ⟨e1, e2⟩ := e
  split at e1
  · next zs he =>
    have := AV.beqs_eq zs xs e1
    subst this
    exact ⟨he, e2⟩
  · cases e1
theorem still_app {w w' : List (Nat × List AV)} {h : AH} (e : still (w ++ w') h = true) : still w h = true ∧ still w' h = true := by
  simpa only [still, List.all_append, Bool.and_eq_true] using e
/-- the items as they stand at each turn, of a list -/
def SeqW (K : PySem.W.Frag) (C : Nat → Addr) (ρ : List Addr) (H : Hp) (s : Src) (P : Hp → List V → Prop) : Prop :=
  ∀ (ρ' : List Addr) (h' : AH) (H' : Hp), SR K C (ρ ++ ρ') h' H' → Ext H H' → still s.watch h' = true → ∃ ys, P H' ys ∧ RVs K (ρ ++ ρ') H' s.items ys
theorem seq_loc {n : Nat} {a : Addr} {xs : List AV} (hn : ρ[n]? = some a) : SeqW K C ρ H ⟨xs, [(n, xs)]⟩ fun H' ys => SqL K H' a ys := by
  intro ρ' h' H' s e st
  obtain ⟨he, _⟩ := still_one st
  obtain ⟨ys, h1, h2⟩ := s.obj n _ a he (get_app hn ρ')
  exact ⟨ys, SqL.of h1, h2⟩
theorem seq_rol {a : Addr} {xs : List AV} {ys : List V} (hq : FzL K H a ys) (rr : RVs K ρ H xs ys) : SeqW K C ρ H ⟨xs, []⟩ fun H' ys => SqL K H' a ys :=
  fun ρ' h' H' s e st => ⟨ys, (hq.ext e).sq, rr.mono ρ' e⟩
theorem seq_tup {a : Addr} {xs : List AV} {ys : List V} (hq : H a = some (.tup ys)) (rr : RVs K ρ H xs ys) : SeqW K C ρ H ⟨xs, []⟩ fun H' ys => SqT K H' a ys :=
  fun ρ' h' H' s e st => ⟨ys, SqT.of (e.tup _ _ hq), rr.mono ρ' e⟩
theorem wk_lst {a : Addr} {s : Src} (w : SeqW K C ρ H s fun H' ys => SqL K H' a ys) : Wk K C ρ H s (Itl K a) := by
  intro ρ' h' H' i sr e st
  obtain ⟨ys, hq, rr⟩ := w ρ' h' H' sr e st
  refine ⟨fun hl => ⟨ys, hq, by rw [← rr.length]; exact Nat.le_of_eq hl.symm⟩, fun v hv => ?_⟩
  obtain ⟨y, hy, ry⟩ := rr.get hv
  refine ⟨⟨ys, y, hq, hy⟩, fun x H2 ⟨e2, z⟩ => ?_⟩
  subst e2
  have := z ys hq
  rw [hy] at this; cases this
  exact ⟨sr, Ext.refl _, Fr.refl _ _, ry⟩
theorem wk_tup {a : Addr} {s : Src} (w : SeqW K C ρ H s fun H' ys => SqT K H' a ys) : Wk K C ρ H s (Itt K a) := by
  intro ρ' h' H' i sr e st
  obtain ⟨ys, hq, rr⟩ := w ρ' h' H' sr e st
  refine ⟨fun hl => ⟨ys, hq, by rw [← rr.length]; exact Nat.le_of_eq hl.symm⟩, fun v hv => ?_⟩
  obtain ⟨y, hy, ry⟩ := rr.get hv
  refine ⟨⟨ys, y, hq, hy⟩, fun x H2 ⟨e2, z⟩ => ?_⟩
  subst e2
  have := z ys hq
  rw [hy] at this; cases this
  exact ⟨sr, Ext.refl _, Fr.refl _ _, ry⟩
theorem wk_str {z : Str} : Wk K C ρ H ⟨z.cps.toList.map fun c => .str ⟨#[c]⟩, []⟩ (Its z) := by
  intro ρ' h' H' i sr e st
  refine ⟨fun hl => (show z.cps.size ≤ i by have q : i = z.cps.size := (by simpa using hl); omega), fun v hv => ?_⟩
  simp only [List.getElem?_map, Option.map_eq_some_iff] at hv
  obtain ⟨c, hc, rfl⟩ := hv
  have hc' : z.cps[i]? = some c := by simpa using hc
  refine ⟨by have := (Array.getElem?_eq_some_iff.mp hc').1; exact this, fun x H2 ⟨e2, c2, h2, e3⟩ => ?_⟩
  subst e2; subst e3
  rw [hc'] at h2; cases h2
  exact ⟨sr, Ext.refl _, Fr.refl _ _, .str _⟩
theorem wk_rng {lo : Int} {n : Nat} : Wk K C ρ H ⟨rangeL lo n, []⟩ (Itr lo n) := by
  intro ρ' h' H' i sr e st
  refine ⟨fun hl => (show n ≤ i by have q : i = n := (by simpa [rangeL] using hl); omega), fun v hv => ?_⟩
  simp only [rangeL, List.getElem?_map, Option.map_eq_some_iff] at hv
  obtain ⟨c, hc, rfl⟩ := hv
  obtain ⟨hlt, ec⟩ := List.getElem?_eq_some_iff.mp hc
  simp only [List.getElem_range] at ec
  subst ec
  refine ⟨(show i < n by simpa using hlt), fun x H2 ⟨e2, e3⟩ => ?_⟩
  subst e2; subst e3
  exact ⟨sr, Ext.refl _, Fr.refl _ _, .int _⟩
/-- each with its number, in a new pair -/
theorem wk_enum {a : Addr} {s : Src} (w : SeqW K C ρ H s fun H' ys => SqL K H' a ys) : Wk K C ρ H ⟨enumL s.items, s.watch⟩ (Ite K a) := by
  intro ρ' h' H' i sr e st
  obtain ⟨ys, hq, rr⟩ := w ρ' h' H' sr e st
  refine ⟨fun hl => ⟨ys, hq, by rw [← rr.length]; have q : i = s.items.length := (by simpa [enumL] using hl); omega⟩, fun v hv => ?_⟩
  simp only [enumL, List.getElem?_map, Option.map_eq_some_iff] at hv
  obtain ⟨⟨u, j⟩, hp, rfl⟩ := hv
  obtain ⟨hlt, ep⟩ := List.getElem?_eq_some_iff.mp hp
  simp only [List.getElem_zipIdx, Prod.mk.injEq] at ep
  obtain ⟨eu, ej⟩ := ep
  have hu : s.items[i]? = some u := by rw [← eu]; simp
  have ej : j = i := by omega
  subst ej
  obtain ⟨y, hy, ry⟩ := rr.get hu
  refine ⟨⟨ys, y, hq, hy⟩, fun x H2 ⟨T, z, e1, hT, e2, hz⟩ => ?_⟩
  subst e1; subst e2
  have := hz ys hq
  rw [hy] at this; cases this
  have ex : Ext H' (upd H' T (.tup [.int (j : Nat), y])) := Ext.laid hT
  exact ⟨sr.tup hT, ex, Fr.laid hT (by simp), .tup upd_same (.cons (.int _) (.cons (ry.ext ex) .nil))⟩
theorem zip_get {xs ys : List AV} {i : Nat} {v : AV} (hv : (zipL xs ys)[i]? = some v) : ∃ x y, xs[i]? = some x ∧ ys[i]? = some y ∧ v = .tup [x, y] := by
  simp only [zipL, List.getElem?_map, Option.map_eq_some_iff] at hv
  obtain ⟨⟨x, y⟩, hp, rfl⟩ := hv
  have := List.getElem?_zip_eq_some.mp hp
  exact ⟨x, y, this.1, this.2, rfl⟩
theorem wk_zipL {a b : Addr} {s t : Src} (w : SeqW K C ρ H s fun H' ys => SqL K H' a ys) (w2 : SeqW K C ρ H t fun H' ys => SqL K H' b ys) : Wk K C ρ H ⟨zipL s.items t.items, s.watch ++ t.watch⟩ (Itz K a b) := by
  intro ρ' h' H' i sr e st
  obtain ⟨st1, st2⟩ := still_app st
  obtain ⟨ys, hq, rr⟩ := w ρ' h' H' sr e st1
  obtain ⟨zs, hq2, rr2⟩ := w2 ρ' h' H' sr e st2
  refine ⟨fun hl => ⟨ys, zs, hq, hq2, ?_⟩, fun v hv => ?_⟩
  · have hl : i = min s.items.length t.items.length := by simpa [zipL] using hl
    rw [← rr.length, ← rr2.length]; omega
  obtain ⟨u1, u2, h1, h2, rfl⟩ := zip_get hv
  obtain ⟨y, hy, ry⟩ := rr.get h1
  obtain ⟨z, hz, rz⟩ := rr2.get h2
  refine ⟨⟨ys, zs, y, z, hq, hq2, hy, hz⟩, fun x H2 ⟨T, p, q, e1, hT, e2, hp, hq'⟩ => ?_⟩
  subst e1; subst e2
  have e3 := hp ys hq
  rw [hy] at e3; cases e3
  have e4 := hq' zs hq2
  rw [hz] at e4; cases e4
  have ex : Ext H' (upd H' T (.tup [y, z])) := Ext.laid hT
  exact ⟨sr.tup hT, ex, Fr.laid hT (by simp), .tup upd_same (.cons (ry.ext ex) (.cons (rz.ext ex) .nil))⟩
theorem wk_zipT {a b : Addr} {s t : Src} (w : SeqW K C ρ H s fun H' ys => SqT K H' a ys) (w2 : SeqW K C ρ H t fun H' ys => SqT K H' b ys) : Wk K C ρ H ⟨zipL s.items t.items, s.watch ++ t.watch⟩ (RZ.ItzT K a b) := by
  intro ρ' h' H' i sr e st
  obtain ⟨st1, st2⟩ := still_app st
  obtain ⟨ys, hq, rr⟩ := w ρ' h' H' sr e st1
  obtain ⟨zs, hq2, rr2⟩ := w2 ρ' h' H' sr e st2
  refine ⟨fun hl => ⟨ys, zs, hq, hq2, ?_⟩, fun v hv => ?_⟩
  · have hl : i = min s.items.length t.items.length := by simpa [zipL] using hl
    rw [← rr.length, ← rr2.length]; omega
  obtain ⟨u1, u2, h1, h2, rfl⟩ := zip_get hv
  obtain ⟨y, hy, ry⟩ := rr.get h1
  obtain ⟨z, hz, rz⟩ := rr2.get h2
  refine ⟨⟨ys, zs, y, z, hq, hq2, hy, hz⟩, fun x H2 ⟨T, p, q, e1, hT, e2, hp, hq'⟩ => ?_⟩
  subst e1; subst e2
  have e3 := hp ys hq
  rw [hy] at e3; cases e3
  have e4 := hq' zs hq2
  rw [hz] at e4; cases e4
  have ex : Ext H' (upd H' T (.tup [y, z])) := Ext.laid hT
  exact ⟨sr.tup hT, ex, Fr.laid hT (by simp), .tup upd_same (.cons (ry.ext ex) (.cons (rz.ext ex) .nil))⟩
end

section
variable {X : Cx} {C : Nat → Addr} {W : WX} {tg a b : Expr} {fa fb : Sl → AH → Res AV} {fs : Sl → AH → Res (List AV)} {pos p : Pos}
abbrev PIv (X : Cx) (C : Nat → Addr) (W : WX) (tg e : Expr) (f : Sl → AH → Res Src) : Prop := PI X tg e (At X.K C (Wk X.K C) W f)
/-- anything that can be walked, by its value -/
theorem ei_seq (ha : PEv X C W a fa) : PIv X C W tg a (fun σ h => (fa σ h).bind fun v h1 => match srcOf v h1 with
    | some s => .ok s h1
    | none => .no) := by
  refine ⟨fun pins s σ H R I q => ?_⟩
  refine L2.thn (ha.run pins s σ H _ I (At.thn (R := RV X.K) (S := fun x H1 => ∃ (ρ : List Addr) (h : AH) (v : AV) (src : Src), SR X.K C ρ h H1 ∧ RV X.K ρ H1 v x ∧ srcOf v h = some src ∧ ∀ J, Wk X.K C ρ H1 src J → R J H1) q fun ρ as h v y H1 rs sr rr p => ?_)) ?_
  · split at p
    · next src es => exact ⟨ρ, h, v, src, sr, rr, es, fun J w => p.ok sr w⟩
    · exact p.elim
  rintro u s1 ⟨x, H1, I1, r1, ρ, h, v, src, sr, rr, es, fin⟩
  cases v with
  | tup xs =>
    obtain ⟨l, ys, rfl, hl, rl⟩ := tup_inj rr
    cases es
    obtain rfl : u = Value.ref l := r1
    obtain ⟨its, rv, p, hz⟩ := I1.tuple (SqT.of hl)
    exact wpAny_pyIter_tuple (show s1.heap.IsTuple l its.toArray from p) (pi_one (tk := s1.toks) I1 _ (turn_tuple l _) ⟨_, Heap.get?_push_size _ rfl, rfl, rfl⟩ (fin _ (wk_tup (seq_tup hl rl))))
  | rol xs =>
    cases es
    cases rr with
    | rol hl rl =>
      obtain rfl := (show u = Value.ref _ from r1)
      obtain ⟨its, rv, p, hz⟩ := I1.list hl.sq
      exact wpAny_pyIter_list p.isList (pi_one (tk := s1.toks) I1 _ (turn_list _ _) ⟨_, Heap.get?_push_size _ rfl, rfl, rfl⟩ (fin _ (wk_lst (seq_rol hl rl))))
  | str z =>
    cases es
    cases rr
    obtain ⟨t, rfl⟩ := r1
    cases az : z.cps.all (· < 128)
    · exact wpAny_pyIter_wide az (pi_one (tk := s1.toks) I1 _ (turn_str _ z t "str_iterator" (.inr rfl)) ⟨_, Heap.get?_push_size _ rfl, rfl, rfl⟩ (fin _ wk_str))
    · exact wpAny_pyIter_ascii az (pi_one (tk := s1.toks) I1 _ (turn_str _ z t "str_ascii_iterator" (.inl rfl)) ⟨_, Heap.get?_push_size _ rfl, rfl, rfl⟩ (fin _ wk_str))
  | loc n =>
    simp only [srcOf] at es
    split at es
    · next xs he =>
      cases es
      obtain ⟨l, ys, rfl, hn, hl, rl⟩ := sr.lst he rr
      obtain rfl : u = Value.ref l := r1
      obtain ⟨its, rv, p, hz⟩ := I1.list (SqL.of hl)
      exact wpAny_pyIter_list p.isList (pi_one (tk := s1.toks) I1 _ (turn_list _ _) ⟨_, Heap.get?_push_size _ rfl, rfl, rfl⟩ (fin _ (wk_lst (seq_loc hn))))
    · cases es
  | _ => cases es
theorem smallR_ok {i : Int} (e : smallR i = true) : -(2 ^ 62) ≤ i ∧ i < 2 ^ 62 := by
  simpa only [smallR, Bool.and_eq_true, decide_eq_true_eq] using e
theorem ei_rng (hg : Gl X "range") (hm : X.mg "range" = none) (ha : PEv X C W a fa) (hs : starEach [a] X.env = [(false, eval a X.env)]) : PIv X C W tg (.Call (.Name "range" p) [a] [] pos) (fun σ h => (fa σ h).bind fun v h1 => match v with
    | .int j => if smallR j then .ok ⟨rangeL 0 j.toNat, []⟩ h1 else .no
    | _ => .no) := by
  refine ⟨fun pins s σ H R I q => (pi_range1 hg hm (pa_cons ha pa_nil hs) hs).run pins s σ H R I ?_⟩
  refine At.thn (R := RV X.K) q fun ρ as h v y H1 rs sr rr p => ?_
  cases v with
  | int j =>
    cases rr
    simp only at p
    split at p
    · next hj =>
      obtain ⟨h1, h2⟩ := smallR_ok hj
      exact ⟨j, rfl, h1, h2, p.ok sr wk_rng⟩
    · exact p.elim
  | _ => exact p.elim
theorem ei_rng2 (hg : Gl X "range") (hm : X.mg "range" = none) (ha : PEv X C W a fa) (hb : PEv X C W b fb) (hs : starEach [a, b] X.env = [(false, eval a X.env), (false, eval b X.env)]) (hs2 : starEach [b] X.env = [(false, eval b X.env)]) :
    PIv X C W tg (.Call (.Name "range" p) [a, b] [] pos) (fun σ h => (fa σ h).bind fun v h1 => (fb σ h1).bind fun w h2 => match v, w with
    | .int i, .int j => if smallR i && smallR j then .ok ⟨rangeL i (j - i).toNat, []⟩ h2 else .no
    | _, _ => .no) := by
  refine ⟨fun pins s σ H R I q => (pi_range2 hg hm (pa_cons ha (pa_cons hb pa_nil hs2) (by rw [hs, hs2])) hs hs2).run pins s σ H R I ?_⟩
  refine At.thn (R := RV X.K) q fun ρ as h v y H1 rs sr rr p => ?_
  refine At.thn2 (R := RV X.K) (R2 := RV X.K) (f := fb) (k := fun v w h2 => match v, w with
    | .int i, .int j => if smallR i && smallR j then Res.ok (Src.mk (rangeL i (j - i).toNat) []) h2 else .no
    | _, _ => .no) rs sr rr p fun ρ1 h1 w z H2 rs1 sr1 r1 r2 p1 => ?_
  cases v with
  | int i =>
    cases w with
    | int j =>
      cases r1; cases r2
      simp only at p1
      split at p1
      · next hj =>
        rw [Bool.and_eq_true] at hj
        obtain ⟨h1, h2⟩ := smallR_ok hj.1
        obtain ⟨h3, h4⟩ := smallR_ok hj.2
        exact ⟨i, j, rfl, ⟨h1, h2, h3, h4⟩, p1.ok sr1 wk_rng⟩
      · exact p1.elim
    | _ => exact p1.elim
  | _ => exact p1.elim
/-- how a list or a tuple is walked, by its value -/
theorem seq_of {K : PySem.W.Frag} {ρ : List Addr} {h : AH} {H : Hp} {v : AV} {x : V} {s : Src} (sr : SR K C ρ h H) (r : RV K ρ H v x) (e : srcOf v h = some s) (nt : isRef v = true) :
    ∃ l ys, x = .ref l ∧ ((isLoc v = true ∧ SqL K H l ys ∧ SeqW K C ρ H s fun H' ys => SqL K H' l ys) ∨ (isLoc v = false ∧ SqT K H l ys ∧ SeqW K C ρ H s fun H' ys => SqT K H' l ys)) := by
  cases v with
  | tup xs =>
    obtain ⟨l, ys, rfl, hl, rl⟩ := tup_inj r
    cases e
    exact ⟨l, ys, rfl, .inr ⟨rfl, SqT.of hl, seq_tup hl rl⟩⟩
  | rol xs =>
    cases e
    cases r with
    | rol hl rl => exact ⟨_, _, rfl, .inl ⟨rfl, hl.sq, seq_rol hl rl⟩⟩
  | loc n =>
    simp only [srcOf] at e
    split at e
    · next xs he =>
      cases e
      obtain ⟨l, ys, rfl, hn, hl, rl⟩ := sr.lst he r
      exact ⟨l, ys, rfl, .inl ⟨rfl, SqL.of hl, seq_loc hn⟩⟩
    · cases e
  | _ => simp [isRef] at nt
end
end Ev

set_option Elab.async false
set_option linter.all false
set_option maxRecDepth 100000
set_option maxHeartbeats 8000000
/-! Targets, comprehensions. -/
namespace Ev
open PySem PySem.Spec L2

mutual
def Tg.slots : Tg → List Nat
  | .nm i => [i]
  | .tup ts => Tg.slotsL ts
def Tg.slotsL : List Tg → List Nat
  | [] => []
  | t :: ts => Tg.slots t ++ Tg.slotsL ts
end
/-- the other slots stay -/
def Stay (ix : List Nat) (σ σ' : L2.St) : Prop := σ'.length = σ.length ∧ ∀ j, j ∉ ix → σ'[j]? = σ[j]?
theorem Stay.refl (σ : L2.St) : Stay [] σ σ := ⟨rfl, fun _ _ => rfl⟩
theorem Stay.trans {a b : List Nat} {σ τ υ : L2.St} (h : Stay a σ τ) (k : Stay b τ υ) : Stay (a ++ b) σ υ :=
  ⟨k.1.trans h.1, fun j n => by simp only [List.mem_append, not_or] at n; rw [k.2 j n.2, h.2 j n.1]⟩
theorem wipe_get {σ : L2.St} : ∀ {own : List Nat} {j : Nat}, j ∈ own → (wipe σ own)[j]? = if j < σ.length then some none else none
  | i :: own, j, h => by
    unfold wipe
    by_cases e : i = j
    · subst e
      rw [List.getElem?_set_self']
      by_cases hl : i < σ.length
      · rw [if_pos hl, List.getElem?_eq_getElem (by rw [wipe_length]; exact hl)]; rfl
      · rw [if_neg hl, List.getElem?_eq_none (by rw [wipe_length]; omega)]; rfl
    · rw [List.getElem?_set_ne e]
      exact wipe_get ((List.mem_cons.mp h).resolve_left fun z => e z.symm)
theorem wipe_off {σ : L2.St} : ∀ {own : List Nat} {j : Nat}, j ∉ own → (wipe σ own)[j]? = σ[j]?
  | [], j, h => rfl
  | i :: own, j, h => by
    unfold wipe
    simp only [List.mem_cons, not_or] at h
    rw [List.getElem?_set_ne (Ne.symm h.1)]
    exact wipe_off h.2
theorem wipe_eq {σ σ' : L2.St} {ix own : List Nat} (h : Stay ix (wipe σ own) σ') (sub : ∀ j ∈ ix, j ∈ own) : wipe σ' own = wipe σ own := by
  have hl : σ'.length = σ.length := by rw [h.1, wipe_length]
  apply List.ext_getElem?
  intro j
  by_cases m : j ∈ own
  · rw [wipe_get m, wipe_get m, hl]
  · rw [wipe_off m, h.2 j fun z => m (sub j z)]

/-- a target, by values -/
def gT (K : PySem.W.Frag) (t : Tg) : TG := fun x σ H Q => ∃ (ρ : List Addr) (as as' : Sl) (a : AV), RS K ρ H as σ ∧ RV K ρ H a x ∧ putT t a as = some as' ∧ ∀ σ', RS K ρ H as' σ' → Stay t.slots σ σ' → Q σ' H
def gTs (K : PySem.W.Frag) (ts : List Tg) : TGs := fun xs σ H Q => ∃ (ρ : List Addr) (as as' : Sl) (vs : List AV), RS K ρ H as σ ∧ RVs K ρ H vs xs ∧ putTs ts vs as = some as' ∧ ∀ σ', RS K ρ H as' σ' → Stay (Tg.slotsL ts) σ σ' → Q σ' H
theorem PG.weak {X : Cx} {e : Expr} {t t' : TG} (p : PG X e t) (h : ∀ x σ H Q, t' x σ H Q → t x σ H Q) : PG X e t' := ⟨fun pins s σ H v u Q I r q => p.run pins s σ H v u Q I r (h _ _ _ _ q)⟩
theorem PGs.weak {X : Cx} {e : List Expr} {t t' : TGs} (p : PGs X e t) (h : ∀ x σ H Q, t' x σ H Q → t x σ H Q) : PGs X e t' := ⟨fun pins s σ H v u Q I r q => p.run pins s σ H v u Q I r (h _ _ _ _ q)⟩
section
variable {X : Cx} {e : Expr} {es : List Expr} {t : Tg} {ts : List Tg} {pos : Pos}
theorem eg_name {i : Nat} {x : Str} (hN : X.N.Nodup) (hi : X.N[i]? = some x) (hx : Loc X.env.scope x) (hf : X.fn x = true ∨ X.env.scope.names.lookup x = some .local) : PG X (.Name x pos) (gT X.K (.nm i)) := by
  refine PG.weak (pg_name hN hi hx hf) fun y σ H Q ⟨ρ, as, as', a, rs, rv, e, q⟩ => ?_
  simp only [putT] at e
  split at e
  · next hl =>
    cases e
    exact q _ (rs.set rv) ⟨by simp, fun j n => by rw [List.getElem?_set_ne]; intro z; exact n (by simp [Tg.slots, z])⟩
  · cases e
theorem egs_nil : PGs X [] (gTs X.K []) := PGs.weak pgs_nil fun xs σ H Q ⟨ρ, as, as', vs, rs, rv, e, q⟩ => by
  cases vs with
  | nil =>
    cases rv
    simp only [putTs, Option.some.injEq] at e
    subst e
    exact ⟨rfl, q σ rs (Stay.refl σ)⟩
  | cons _ _ => simp [putTs] at e
theorem egs_cons (h1 : PG X e (gT X.K t)) (h2 : PGs X es (gTs X.K ts)) (hs : (assignEach (e :: es) X.env).map (·.2) = assign e X.env :: (assignEach es X.env).map (·.2)) : PGs X (e :: es) (gTs X.K (t :: ts)) :=
  PGs.weak (pgs_cons h1 h2 hs) fun xs σ H Q ⟨ρ, as, as', vs, rs, rv, e, q⟩ => by
    cases vs with
    | nil => simp [putTs] at e
    | cons a vs =>
      cases rv with
      | cons r1 r2 =>
        simp only [putTs, Option.bind_eq_some_iff] at e
        obtain ⟨as1, e1, e2⟩ := e
        refine ⟨_, _, rfl, ρ, as, as1, a, rs, r1, e1, fun σ1 rs1 st1 => ⟨ρ, as1, as', vs, rs1, r2, e2, fun σ2 rs2 st2 => q σ2 rs2 (st1.trans st2)⟩⟩
theorem putTs_len : ∀ {ts : List Tg} {vs : List AV} {as as' : Sl}, putTs ts vs as = some as' → vs.length = ts.length
  | [], [], _, _, _ => rfl
  | [], _ :: _, _, _, e => by simp [putTs] at e
  | _ :: _, [], _, _, e => by simp [putTs] at e
  | t :: ts, v :: vs, as, as', e => by
    simp only [putTs, Option.bind_eq_some_iff] at e
    obtain ⟨_, _, e2⟩ := e
    simp [putTs_len e2]
theorem eg_tup {k : Nat} (hc : X.calm = true) (h : PGs X es (gTs X.K ts)) (hn : (assignEach es X.env).length = ts.length) (hst : (assignEach es X.env).findIdx? (·.1) = none) : PG X (.Tuple es k pos) (gT X.K (.tup ts)) :=
  PG.weak (pg_tup hc h hn hst) fun y σ H Q ⟨ρ, as, as', a, rs, rv, e, q⟩ => by
    cases a with
    | tup vs =>
      obtain ⟨l, ys, rfl, hq, rr⟩ := sqT_inj rv
      simp only [putT] at e
      exact ⟨l, ys, rfl, hq, by rw [← rr.length, putTs_len e], ρ, as, as', vs, rs, rr, e, q⟩
    | _ => simp [putT] at e
end

/-! ### the list of a comprehension: not at a place -/
section
variable {K : PySem.W.Frag} {C : Nat → Addr}
def PoL (K : PySem.W.Frag) (C : Nat → Addr) (W : Value → Option Addr → Hp → Prop) (ρ : List Addr) (H : Hp) (r : Res (List AV)) (Q : V → Hp → Prop) : Prop := match r with
  | .ok vs h' => ∀ (ρ' : List Addr) (H' : Hp) (D : Addr) (ys : List V), SR K C (ρ ++ ρ') h' H' → Ext H H' → Fr ρ ρ' H H' → H D = none → D ∉ ρ ++ ρ' → H' D = some (.lst ys) → RVs K (ρ ++ ρ') H' vs ys → Q (.ref D) H'
  | .ex c fs h' => ∀ (ρ' : List Addr) (H' : Hp) (d : Option Addr) (ys : List (Str × V)), SR K C (ρ ++ ρ') h' H' → Ext H H' → Fr ρ ρ' H H' → xdAt H' d ys → RP K (ρ ++ ρ') H' fs ys → W (.ref (C c)) d H'
  | .no => False
def tRaw (K : PySem.W.Frag) (C : Nat → Addr) (W : WX) (f : Sl → AH → Res (List AV)) : TE := fun σ H Q => ∃ (ρ : List Addr) (as : Sl) (h : AH), RS K ρ H as σ ∧ SR K C ρ h H ∧ PoL K C (fun c d H' => W c d σ H') ρ H (f as h) Q
abbrev NoW : WX := fun _ _ _ _ => False
theorem Fr.nil_app {ρ ρ1 : List Addr} {H H' : Hp} (f : Fr ρ (ρ1 ++ []) H H') : Fr ρ ρ1 H H' := by rwa [List.append_nil] at f
theorem tLc_of {W : WX} {t : Tg} {own : List Nat} {fi : Sl → AH → Res Src} {fc : Sl → AH → Res Bool} {fe : Sl → AH → Res AV} (sub : ∀ j ∈ t.slots, j ∈ own) {σ : L2.St} {H : Hp} {Q : VK}
    (q : tRaw K C W (fun σ h => (fi σ h).bind fun src h1 => loopC src.watch (compBody t own σ fc fe) src.items [] h1) σ H Q) :
    tLc (At K C (Wk K C) W fi) (gT K t) (At K C RQ NoW fc) (At K C (RV K) NoW fe) own σ H Q := by
  obtain ⟨ρ, as, h, rs, sr, p⟩ := q
  refine ⟨ρ, as, h, rs, sr, ?_⟩
  cases ei : fi as h with
  | no => simp only [ei, Res.bind] at p; exact p
  | ex c fs h1 => simp only [ei, Res.bind] at p; exact p
  | ok src h1 =>
    simp only [ei, Res.bind] at p
    intro ρ1 H1 J s1 e1 f1 wk D hD
    have hD0 : H D = none := by
      cases z : H D with
      | none => rfl
      | some u =>
        obtain ⟨u', z'⟩ := f1.dom D u z
        rw [hD] at z'; cases z'
    have eL : Ext H1 (upd H1 D (.lst [])) := Ext.laid hD
    refine ⟨fun i m H' => ∃ (ρ2 : List Addr) (acc : List AV) (h' : AH) (ys : List V), m = src.items.length - i ∧ i ≤ src.items.length ∧ SR K C (ρ ++ (ρ1 ++ ρ2)) h' H' ∧ Ext H1 H' ∧ Fr ρ (ρ1 ++ ρ2) H H' ∧ D ∉ ρ ++ (ρ1 ++ ρ2) ∧ H' D = some (.lst ys) ∧
      RVs K (ρ ++ (ρ1 ++ ρ2)) H' acc ys ∧ PoL K C (fun c d H' => W c d σ H') ρ H (loopC src.watch (compBody t own as fc fe) (src.items.drop i) acc h') Q, ⟨_, [], [], h1, [], rfl, Nat.zero_le _, ?_, eL, ?_, ?_, upd_same, .nil, p⟩, ?_⟩
    · rw [List.append_nil]; exact s1.off hD
    · rw [List.append_nil]; exact (f1.trans (Fr.laid (ρ' := []) hD (by simp))).nil_app
    · rw [List.append_nil]; exact s1.fresh hD
    rintro i m H' ⟨ρ2, acc, h', ys, rfl, hi, sr', e', f', nD, hD', ra, p'⟩
    have wk' := wk ρ2 h' H' i (by rw [List.append_assoc]; exact sr') e'
    by_cases end_ : i = src.items.length
    · subst end_
      rw [List.drop_length] at p'
      unfold loopC at p'
      split at p'
      · next st =>
        exact .inl ⟨(wk' st).1 rfl, p' (ρ1 ++ ρ2) H' D ys sr' (e1.trans e') f' hD0 nD hD' ra⟩
      · exact p'.elim
    · have hlt : i < src.items.length := by omega
      rw [List.drop_eq_getElem_cons hlt] at p'
      unfold loopC at p'
      split at p'
      · next st =>
        obtain ⟨hgo, hy⟩ := (wk' st).2 src.items[i] (by simp [hlt])
        refine .inr ⟨hgo, fun H'' => ∃ (ρ3 : List Addr) (acc' : List AV) (h'' : AH) (zs : List V), SR K C (ρ ++ (ρ1 ++ ρ3)) h'' H'' ∧ Ext H1 H'' ∧ Fr ρ (ρ1 ++ ρ3) H H'' ∧ D ∉ ρ ++ (ρ1 ++ ρ3) ∧ H'' D = some (.lst zs) ∧ RVs K (ρ ++ (ρ1 ++ ρ3)) H'' acc' zs ∧
          PoL K C (fun c d H' => W c d σ H') ρ H (loopC src.watch (compBody t own as fc fe) (src.items.drop (i + 1)) acc' h'') Q, ?_, ?_⟩
        · rintro H'' ⟨ρ3, acc', h'', zs, a1, a2, a3, a4, a5, a6, a7⟩
          exact ⟨src.items.length - (i + 1), by omega, ρ3, acc', h'', zs, rfl, hlt, a1, a2, a3, a4, a5, a6, a7⟩
        intro x H2 yl
        obtain ⟨sr2, e2, f2, rx⟩ := hy x H2 yl
        rw [List.append_assoc] at sr2 f2 rx
        have hD2 : H2 D = some (.lst ys) := f2.keep D _ hD' nD
        have F2 : Fr ρ (ρ1 ++ ρ2) H H2 := (f'.trans f2).nil_app
        have E2 : Ext H1 H2 := e'.trans e2
        have ra2 := ra.ext e2
        unfold compBody at p'
        split at p' <;> try exact p'.elim
        all_goals skip
        case h_1 w hw es =>
          cases ep : putT t src.items[i] (wipeA own as) with
          | none => rw [ep] at es; cases es
          | some as' =>
            rw [ep] at es
            simp only at es
            refine ⟨ρ ++ (ρ1 ++ ρ2), wipeA own as, as', src.items[i], ?_, rx, ep, fun σ' rs' stay => ⟨wipe_eq stay sub, ?_⟩⟩
            · exact ((rs.mono (ρ1 ++ ρ2) (e1.trans E2))).wipe own
            refine ⟨ρ ++ (ρ1 ++ ρ2), as', h', rs', sr2, ?_⟩
            cases ec : fc as' h' with
            | no => rw [ec] at es; cases es
            | ex c fs h3 => rw [ec] at es; cases es
            | ok b h3 =>
              simp only [ec, Res.bind] at es
              intro ρ4 H3 b' s3 e3 f3 rb
              obtain rfl : b = b' := rb
              cases b with
              | false => rw [if_neg (by decide)] at es; cases es
              | true =>
                rw [if_pos rfl] at es ⊢
                refine ⟨ρ ++ (ρ1 ++ ρ2) ++ ρ4, as', h3, rs'.mono ρ4 e3, s3, ?_⟩
                cases ee : fe as' h3 with
                | no => rw [ee] at es; cases es
                | ex c fs h4 => rw [ee] at es; cases es
                | ok w1 h4 =>
                  simp only [ee, Res.bind] at es
                  cases es
                  intro ρ5 H4 y s4 e4 f4 ry
                  have nD4 : D ∉ ρ ++ (ρ1 ++ ρ2) ++ ρ4 := by
                    intro z
                    rcases List.mem_append.mp z with z | z
                    · exact nD z
                    · have := f3.new D z
                      rw [hD2] at this; cases this
                  have hD3 : H3 D = some (.lst ys) := f3.keep D _ hD2 nD
                  have hD4 : H4 D = some (.lst ys) := f4.keep D _ hD3 nD4
                  have nD5 : D ∉ ρ ++ (ρ1 ++ ρ2) ++ ρ4 ++ ρ5 := by
                    intro z
                    rcases List.mem_append.mp z with z | z
                    · exact nD4 z
                    · have := f4.new D z
                      rw [hD3] at this; cases this
                  have rr4 := (ra2.mono ρ4 e3).mono ρ5 e4
                  split at p'
                  · next hz =>
                    have eD : Ext H4 (upd H4 D (.lst (ys ++ [y]))) := Ext.put hD4 trivial
                    have as_ : ρ ++ (ρ1 ++ ρ2) ++ ρ4 ++ ρ5 = ρ ++ (ρ1 ++ (ρ2 ++ ρ4 ++ ρ5)) := by simp [List.append_assoc]
                    refine ⟨ys, hD4, by rw [← rr4.length]; exact hz, ρ2 ++ ρ4 ++ ρ5, _, _, ys ++ [y], ?_, ?_, ?_, ?_, upd_same, ?_, p'⟩
                    · rw [← as_]
                      exact s4.keep eD fun a m => upd_ne fun z => nD5 (z ▸ m)
                    · exact ((E2.trans e3).trans e4).trans eD
                    · have FF := ((F2.trans f3).trans (by rw [← List.append_assoc]; exact f4)) 
                      have FF : Fr ρ (ρ1 ++ (ρ2 ++ ρ4 ++ ρ5)) H H4 := by simpa [List.append_assoc] using FF
                      refine ⟨fun a u ea na => ?_, FF.new, fun a u ea => ?_⟩
                      · have ne : a ≠ D := fun z => by subst z; rw [hD0] at ea; cases ea
                        rw [upd_ne ne]; exact FF.keep a u ea na
                      · obtain ⟨u', q'⟩ := FF.dom a u ea
                        have ne : a ≠ D := fun z => by subst z; rw [hD0] at ea; cases ea
                        exact ⟨u', by rw [upd_ne ne]; exact q'⟩
                    · rw [← as_]; exact nD5
                    · rw [← as_]; exact (rr4.append (.cons ry .nil)).ext eD
                  · exact p'.elim
        case h_2 hn es =>
          cases ep : putT t src.items[i] (wipeA own as) with
          | none => rw [ep] at es; cases es
          | some as' =>
            rw [ep] at es
            simp only at es
            refine ⟨ρ ++ (ρ1 ++ ρ2), wipeA own as, as', src.items[i], ?_, rx, ep, fun σ' rs' stay => ⟨wipe_eq stay sub, ?_⟩⟩
            · exact ((rs.mono (ρ1 ++ ρ2) (e1.trans E2))).wipe own
            refine ⟨ρ ++ (ρ1 ++ ρ2), as', h', rs', sr2, ?_⟩
            cases ec : fc as' h' with
            | no => rw [ec] at es; cases es
            | ex c fs h3 => rw [ec] at es; cases es
            | ok b h3 =>
              simp only [ec, Res.bind] at es
              intro ρ4 H3 b' s3 e3 f3 rb
              obtain rfl : b = b' := rb
              cases b with
              | true =>
                rw [if_pos rfl] at es
                cases ee : fe as' h3 with
                | no => rw [ee] at es; cases es
                | ex c fs h4 => rw [ee] at es; cases es
                | ok w1 h4 => rw [ee] at es; cases es
              | false =>
                rw [if_neg (by decide)] at es ⊢
                cases es
                have nD4 : D ∉ ρ ++ (ρ1 ++ ρ2) ++ ρ4 := by
                  intro z
                  rcases List.mem_append.mp z with z | z
                  · exact nD z
                  · have := f3.new D z
                    rw [hD2] at this; cases this
                have as_ : ρ ++ (ρ1 ++ ρ2) ++ ρ4 = ρ ++ (ρ1 ++ (ρ2 ++ ρ4)) := by simp [List.append_assoc]
                refine ⟨ρ2 ++ ρ4, acc, _, ys, ?_, E2.trans e3, ?_, ?_, f3.keep D _ hD2 nD, ?_, p'⟩
                · rw [← as_]; exact s3
                · have FF := F2.trans f3
                  simpa [List.append_assoc] using FF
                · rw [← as_]; exact nD4
                · rw [← as_]; exact ra2.mono ρ4 e3
      · exact p'.elim
end
end Ev

set_option Elab.async false
set_option linter.all false
set_option maxRecDepth 100000
set_option maxHeartbeats 8000000
namespace Ev
open PySem PySem.Spec L2
theorem Res.assoc {α β γ : Type} (r : Res α) (f : α → AH → Res β) (g : β → AH → Res γ) : (r.bind f).bind g = r.bind fun v h => (f v h).bind g := by cases r <;> rfl
theorem one_test {r : Res Bool} : (r.bind fun b h1 => if b then Res.ok true h1 else .ok false h1) = r := by
  cases r with
  | ok b h => cases b <;> rfl
  | _ => rfl
section
variable {X : Cx} {C : Nat → Addr} {W : WX} {elt tg iter c : Expr} {ifs : List Expr} {scope : Scope} {own : List (Str × Nat)} {t : Tg} {fi : Sl → AH → Res Src} {fc : Sl → AH → Res Bool} {fe : Sl → AH → Res AV} {pos : Pos}
abbrev PTsv (X : Cx) (C : Nat → Addr) (W : WX) (es : List Expr) (f : Sl → AH → Res Bool) : Prop := PTs X es (At X.K C RQ W f)
theorem PTs.weak {es : List Expr} {t t' : TT} (p : PTs X es t) (h : ∀ σ H Q, t' σ H Q → t σ H Q) : PTs X es t' := ⟨fun pins s σ H Q I q => p.run pins s σ H Q I (h _ _ _ q)⟩
theorem es_nil : PTsv X C W [] (fun _ h => .ok true h) := PTs.weak pts_nil fun σ H Q ⟨ρ, as, h, rs, sr, p⟩ => p.ok sr rfl
theorem es_one (h : PTv X C W c fc) : PTsv X C W [c] (fun σ h => (fc σ h).bind fun b h1 => if b then .ok true h1 else .ok false h1) := PTs.weak (pts_one h) fun σ H Q ⟨ρ, as, h, rs, sr, p⟩ => by
  exact ⟨ρ, as, h, rs, sr, by simpa only [one_test] using p⟩
abbrev rawF (t : Tg) (own : List Nat) (fi : Sl → AH → Res Src) (fc : Sl → AH → Res Bool) (fe : Sl → AH → Res AV) : Sl → AH → Res (List AV) := fun σ h => (fi σ h).bind fun src h1 => loopC src.watch (compBody t own σ fc fe) src.items [] h1
/-- what is asked of a comprehension's parts -/
structure LcOk (X : Cx) (C : Nat → Addr) (W : WX) (elt tg iter : Expr) (ifs : List Expr) (scope : Scope) (own : List (Str × Nat)) (t : Tg) (fi : Sl → AH → Res Src) (fc : Sl → AH → Res Bool) (fe : Sl → AH → Res AV) : Prop where
  calm : X.calm = true
  nd : X.N.Nodup
  it : PIv X C W tg iter fi
  blk : BlkOk X.N X.env.scope scope own
  sub : ∀ j ∈ t.slots, j ∈ own.map (·.2)
  tg : ∀ (s : Shared) (H : Hp) (D : Addr) (cl : List (Str × Addr)) (fp : List Addr), PG (X.blk s H scope (compEnvC scope cl D X.env) fp) tg (gT X.K t)
  ts : ∀ (s : Shared) (H : Hp) (D : Addr) (cl : List (Str × Addr)) (fp : List Addr), PTs (X.blk s H scope (compEnvC scope cl D X.env) fp) ifs (At X.K C RQ NoW fc)
  el : ∀ (s : Shared) (H : Hp) (D : Addr) (cl : List (Str × Addr)) (fp : List Addr), PE (X.blk s H scope (compEnvC scope cl D X.env) fp) elt (At X.K C (RV X.K) NoW fe)
  set : ∀ x, foldedSetIterable iter X.env x = pure x
theorem lc_raw (k : LcOk X C W elt tg iter ifs scope own t fi fc fe) : PE X (.ListComp elt [⟨tg, iter, ifs, 0⟩] scope pos) (tRaw X.K C W (rawF t (own.map (·.2)) fi fc fe)) :=
  PE.weak (pe_lc k.calm k.nd k.it k.blk k.tg k.ts k.el k.set) fun σ H Q q => tLc_of k.sub q
/-- the list gets its place -/
theorem raw_lay {f : Sl → AH → Res (List AV)} {σ : L2.St} {H : Hp} {Q : VK} {K : PySem.W.Frag} (q : At K C (RV K) W (fun σ h => (f σ h).bind fun vs h5 => lay (.lst vs) h5) σ H Q) : tRaw K C W f σ H Q := by
  obtain ⟨ρ, as, h, rs, sr, p⟩ := q
  refine ⟨ρ, as, h, rs, sr, ?_⟩
  cases e : f as h with
  | no => simp only [e, Res.bind] at p; exact p
  | ex c fs h1 => simp only [e, Res.bind] at p; exact p
  | ok vs h5 =>
    simp only [e, Res.bind, lay] at p
    intro ρ' H' D ys s e1 f1 hD nD hD' rr
    have s2 : SR K C (ρ ++ (ρ' ++ [D])) (h5 ++ [.lst vs]) H' := by
      have := s.add (p := D) (o := .lst vs) nD ⟨ys, hD', rr.mono [D] (Ext.refl _)⟩
      simpa [List.append_assoc] using this
    refine p (ρ' ++ [D]) H' (.ref D) s2 e1 ⟨f1.keep, fun a m => ?_, f1.dom⟩ (.loc ?_)
    · rcases List.mem_append.mp m with z | z
      · exact f1.new a z
      · simp only [List.mem_singleton] at z; rw [z]; exact hD
    · have := s.len
      rw [this, ← List.append_assoc]; simp
theorem ev_lc (k : LcOk X C W elt tg iter ifs scope own t fi fc fe) : PEv X C W (.ListComp elt [⟨tg, iter, ifs, 0⟩] scope pos) (fun σ h => (fi σ h).bind fun src h1 => (loopC src.watch (compBody t (own.map (·.2)) σ fc fe) src.items [] h1).bind fun vs h5 => lay (.lst vs) h5) := by
  refine PE.weak (lc_raw k) fun σ H Q q => raw_lay ?_
  obtain ⟨ρ, as, h, rs, sr, p⟩ := q
  exact ⟨ρ, as, h, rs, sr, by simpa only [rawF, Res.assoc] using p⟩
/-- the list goes to a built-in and is gone -/
theorem raw_call {p : Pr} {f : Sl → AH → Res (List AV)} {r : List V → Hp → VK → Prop} (hr : ∀ (ρ : List Addr) (h : AH) (vs : List AV) (H : Hp) (D : Addr) (ys : List V) (Q : VK) (W : Value → Option Addr → Hp → Prop), SR X.K C ρ h H → H D = some (.lst ys) → RVs X.K ρ H vs ys → Po X.K C (RV X.K) W ρ H (prSeq p vs h) Q → r [.ref D] H Q)
    {σ : L2.St} {H : Hp} {Q : VK} (q : At X.K C (RV X.K) W (fun σ h => (f σ h).bind fun vs h5 => prSeq p vs h5) σ H Q) : tRaw X.K C W f σ H (fun x H1 => r [x] H1 Q) := by
  obtain ⟨ρ, as, h, rs, sr, p⟩ := q
  refine ⟨ρ, as, h, rs, sr, ?_⟩
  cases e : f as h with
  | no => simp only [e, Res.bind] at p; exact p
  | ex c fs h1 => simp only [e, Res.bind] at p; exact p
  | ok vs h5 =>
    simp only [e, Res.bind] at p
    intro ρ' H' D ys s e1 f1 hD nD hD' rr
    exact hr _ h5 vs H' D ys Q _ s hD' rr (p.mono ρ' e1 f1)
theorem lc_prB {id : String} {x : Str} {p : Pos} {pr : Pr} {pos2 : Pos} {r : List V → Hp → VK → Prop} (k : LcOk X C W elt tg iter ifs scope own t fi fc fe) (hc : CallR X (.builtin id) r)
    (hr : ∀ (ρ : List Addr) (h : AH) (vs : List AV) (H : Hp) (D : Addr) (ys : List V) (Q : VK) (W : Value → Option Addr → Hp → Prop), SR X.K C ρ h H → H D = some (.lst ys) → RVs X.K ρ H vs ys → Po X.K C (RV X.K) W ρ H (prSeq pr vs h) Q → r [.ref D] H Q)
    (hg : Gl X x) (hm : X.mg x = none) (hv : bootBuiltins x = some (.builtin id)) (hn : x ≠ "__name__") (hdb : (x == ("__debug__" : Str)) = false) :
    PEv X C W (.Call (.Name x p) [.ListComp elt [⟨tg, iter, ifs, 0⟩] scope pos] [] pos2) (fun σ h => (fi σ h).bind fun src h1 => (loopC src.watch (compBody t (own.map (·.2)) σ fc fe) src.items [] h1).bind fun vs h5 => prSeq pr vs h5) := by
  refine PE.weak (pe_callB hc hg hm hv (pa_cons (lc_raw k) pa_nil rfl) hn hdb rfl rfl) fun σ H Q q => raw_call (p := pr) (r := r) (W := W) hr ?_
  obtain ⟨ρ, as, h, rs, sr, p⟩ := q
  exact ⟨ρ, as, h, rs, sr, by simpa only [rawF, Res.assoc] using p⟩
theorem lc_prT {id : String} {x : Str} {p : Pos} {pr : Pr} {pos2 : Pos} {r : List V → Hp → VK → Prop} (k : LcOk X C W elt tg iter ifs scope own t fi fc fe) (hc : CallR X (.type id) r)
    (hr : ∀ (ρ : List Addr) (h : AH) (vs : List AV) (H : Hp) (D : Addr) (ys : List V) (Q : VK) (W : Value → Option Addr → Hp → Prop), SR X.K C ρ h H → H D = some (.lst ys) → RVs X.K ρ H vs ys → Po X.K C (RV X.K) W ρ H (prSeq pr vs h) Q → r [.ref D] H Q)
    (hg : Gl X x) (hm : X.mg x = none) (hv : bootBuiltins x = some (.type id)) (hn : x ≠ "__name__") (hdb : (x == ("__debug__" : Str)) = false) :
    PEv X C W (.Call (.Name x p) [.ListComp elt [⟨tg, iter, ifs, 0⟩] scope pos] [] pos2) (fun σ h => (fi σ h).bind fun src h1 => (loopC src.watch (compBody t (own.map (·.2)) σ fc fe) src.items [] h1).bind fun vs h5 => prSeq pr vs h5) := by
  refine PE.weak (pe_callTy hc hg hm hv (pa_cons (lc_raw k) pa_nil rfl) hn hdb rfl rfl) fun σ H Q q => raw_call (p := pr) (r := r) (W := W) hr ?_
  obtain ⟨ρ, as, h, rs, sr, p⟩ := q
  exact ⟨ρ, as, h, rs, sr, by simpa only [rawF, Res.assoc] using p⟩
/-- the four that take a comprehension -/
theorem raw_all {ρ : List Addr} {h : AH} {vs : List AV} {H : Hp} {D : Addr} {ys : List V} {Q : VK} {W : Value → Option Addr → Hp → Prop} (s : SR X.K C ρ h H) (hD : H D = some (.lst ys)) (rr : RVs X.K ρ H vs ys) (p : Po X.K C (RV X.K) W ρ H (prSeq .all vs h) Q) : L2.rAll X.K [.ref D] H Q := by
  simp only [prSeq] at p
  split at p
  · next bs e =>
    have := bools_map e rr
    subst this
    exact ⟨D, bs, rfl, SqL.of hD, p.ok s (.bl _)⟩
  · exact p.elim
theorem raw_any {ρ : List Addr} {h : AH} {vs : List AV} {H : Hp} {D : Addr} {ys : List V} {Q : VK} {W : Value → Option Addr → Hp → Prop} (s : SR X.K C ρ h H) (hD : H D = some (.lst ys)) (rr : RVs X.K ρ H vs ys) (p : Po X.K C (RV X.K) W ρ H (prSeq .any vs h) Q) : L2.rAny X.K [.ref D] H Q := by
  simp only [prSeq] at p
  split at p
  · next bs e =>
    have := bools_map e rr
    subst this
    exact ⟨D, bs, rfl, SqL.of hD, p.ok s (.bl _)⟩
  · exact p.elim
theorem raw_sum {ρ : List Addr} {h : AH} {vs : List AV} {H : Hp} {D : Addr} {ys : List V} {Q : VK} {W : Value → Option Addr → Hp → Prop} (s : SR X.K C ρ h H) (hD : H D = some (.lst ys)) (rr : RVs X.K ρ H vs ys) (p : Po X.K C (RV X.K) W ρ H (prSeq .sum vs h) Q) : L2.rSum X.K [.ref D] H Q := by
  simp only [prSeq] at p
  split at p
  · next is e =>
    obtain ⟨-, rfl⟩ := ints_map e rr
    exact ⟨D, is, rfl, SqL.of hD, p.ok s (.int _)⟩
  · exact p.elim
theorem raw_tuple {ρ : List Addr} {h : AH} {vs : List AV} {H : Hp} {D : Addr} {ys : List V} {Q : VK} {W : Value → Option Addr → Hp → Prop} (s : SR X.K C ρ h H) (hD : H D = some (.lst ys)) (rr : RVs X.K ρ H vs ys) (p : Po X.K C (RV X.K) W ρ H (prSeq .tuple vs h) Q) :
    ∃ p ys, [V.ref D] = [.ref p] ∧ ((SqL X.K H p ys ∧ ∀ l, H l = none → Q (.ref l) (upd H l (.tup ys))) ∨ (SqT X.K H p ys ∧ Q (.ref p) H)) :=
  ⟨D, ys, rfl, .inl ⟨SqL.of hD, fun l hl => Po.tup p s rr hl⟩⟩
theorem ev_tuplc {x : Str} {p : Pos} {pos2 : Pos} (k : LcOk X C W elt tg iter ifs scope own t fi fc fe) (hg : Gl X "tuple") (hm : X.mg "tuple" = none) :
    PEv X C W (.Call (.Name "tuple" p) [.ListComp elt [⟨tg, iter, ifs, 0⟩] scope pos] [] pos2) (fun σ h => (fi σ h).bind fun src h1 => (loopC src.watch (compBody t (own.map (·.2)) σ fc fe) src.items [] h1).bind fun vs h5 => prSeq .tuple vs h5) :=
  lc_prT k call_tuple_of (fun ρ h vs H D ys Q W s hD rr p => raw_tuple s hD rr p) hg hm PyProof.Rows.boot_tuple (by decide) (by decide)
theorem ev_alllc {x : Str} {p : Pos} {pos2 : Pos} (k : LcOk X C W elt tg iter ifs scope own t fi fc fe) (hg : Gl X "all") (hm : X.mg "all" = none) (hv : bootBuiltins "all" = some (.builtin "all")) :
    PEv X C W (.Call (.Name "all" p) [.ListComp elt [⟨tg, iter, ifs, 0⟩] scope pos] [] pos2) (fun σ h => (fi σ h).bind fun src h1 => (loopC src.watch (compBody t (own.map (·.2)) σ fc fe) src.items [] h1).bind fun vs h5 => prSeq .all vs h5) :=
  lc_prB k (cr_all k.calm) (fun ρ h vs H D ys Q W s hD rr p => raw_all s hD rr p) hg hm hv (by decide) (by decide)
theorem ev_anylc {x : Str} {p : Pos} {pos2 : Pos} (k : LcOk X C W elt tg iter ifs scope own t fi fc fe) (hg : Gl X "any") (hm : X.mg "any" = none) (hv : bootBuiltins "any" = some (.builtin "any")) :
    PEv X C W (.Call (.Name "any" p) [.ListComp elt [⟨tg, iter, ifs, 0⟩] scope pos] [] pos2) (fun σ h => (fi σ h).bind fun src h1 => (loopC src.watch (compBody t (own.map (·.2)) σ fc fe) src.items [] h1).bind fun vs h5 => prSeq .any vs h5) :=
  lc_prB k (cr_any k.calm) (fun ρ h vs H D ys Q W s hD rr p => raw_any s hD rr p) hg hm hv (by decide) (by decide)
theorem ev_sumlc {x : Str} {p : Pos} {pos2 : Pos} (k : LcOk X C W elt tg iter ifs scope own t fi fc fe) (hg : Gl X "sum") (hm : X.mg "sum" = none) (hv : bootBuiltins "sum" = some (.builtin "sum")) :
    PEv X C W (.Call (.Name "sum" p) [.ListComp elt [⟨tg, iter, ifs, 0⟩] scope pos] [] pos2) (fun σ h => (fi σ h).bind fun src h1 => (loopC src.watch (compBody t (own.map (·.2)) σ fc fe) src.items [] h1).bind fun vs h5 => prSeq .sum vs h5) :=
  lc_prB k (cr_sum k.calm) (fun ρ h vs H D ys Q W s hD rr p => raw_sum s hD rr p) hg hm hv (by decide) (by decide)
end
end Ev

set_option Elab.async false
set_option linter.all false
set_option maxRecDepth 100000
set_option maxHeartbeats 8000000
/-! a, b = v, v a tuple or a list. -/
namespace PySem
open Sem (wp)
section
variable {prog : Program} {w : World} {A : Around} {E : Value → Shared → Prop} {s : Shared}
theorem ev_draw_list {it t : Addr} {items : Array Value} (hne : t ≠ it) : ∀ (n i : Nat) (s : Shared) (Q : List Value → Shared → Prop), s.heap.IsListIter it t i → s.heap.IsList t items → i + n ≤ items.size →
    (∀ h', h'.IsListIter it t (i + n) → Heap.SameBut it s.heap h' → Q ((items.toList.drop i).take n) { s with heap := h' }) → wpAny (model prog w) A (draw (.ref it) n) Q E s
  | 0, i, s, Q, hit, _, _, hQ => by
    show wpAny _ _ (pure []) Q E s
    exact wpAny_pure (by simpa using hQ s.heap hit (Heap.SameBut.refl ..))
  | n + 1, i, s, Q, hit, ht, hle, hQ => by
    have hlt : i < items.size := by omega
    show wpAny _ _ (pyNext (.ref it) >>= _) Q E s
    refine wpAny_bind (wpAny_pyNext_list_item hit ht (x := items[i]) (by simp [hlt]) fun h₁ hit₁ hs₁ => ?_)
    refine wpAny_bind (wpAny_holding (ev_draw_list hne n (i + 1) _ _ hit₁ (ht.extBut hs₁.extBut hne) (by omega) fun h₂ hit₂ hs₂ => wpAny_pure ?_))
    have hd : items.toList.drop i = items[i] :: items.toList.drop (i + 1) := by simp [List.drop_eq_getElem_cons, hlt]
    have := hQ h₂ (by rw [show i + (n + 1) = i + 1 + n by omega]; exact hit₂) (hs₁.trans hs₂)
    rw [hd, List.take_succ_cons] at this
    exact this
theorem ev_unpackItems_list {t : Addr} {items : Array Value} {Q : List Value → Shared → Prop} (hh : A.handled = none) (ht : s.heap.IsList t items)
    (hQ : ∀ h', Heap.ExtBut s.heap.objs.size s.heap h' → Q items.toList { s with heap := h' }) : wpAny (model prog w) A (unpackItems (.ref t) items.size none) Q E s := by
  have hlt : t ≠ s.heap.objs.size := by obtain ⟨o, ho, _⟩ := ht; exact Nat.ne_of_lt (Heap.lt_size ho)
  unfold unpackItems
  refine wpAny_bind ?_
  · unfold notIterableAtAll
    refine wpAny_bind (wpAny_specialOf ht.typeIs slot_list_iter.lookup ?_)
    refine wpAny_pure ?_
    simp only [Bool.false_eq_true, if_false]
    refine wpAny_bind (wpAny_holding (wpAny_pyIter_list ht ?_))
    refine wpAny_bind (wpAny_holding (ev_draw_list hlt items.size 0 _ _ ⟨_, Heap.get?_push_size _ rfl, rfl, rfl⟩ (ht.push _) (by omega) fun h₁ hit₁ hs₁ => ?_))
    have hall : List.take items.size (List.drop 0 items.toList) = items.toList := by
      rw [List.drop_zero]; exact List.take_of_length_le (by simp)
    rw [hall]
    rw [if_neg (by simp)]
    have ht₁ : h₁.IsList t items := (ht.push _).extBut hs₁.extBut hlt
    refine wpAny_bind (wpAny_holding (wpAny_pyNext_list_end hh hit₁ ht₁ (by simp) fun h₂ he₂ => ?_))
    simp only [Option.isSome_none, Bool.false_eq_true, if_false]
    refine wpAny_pure (hQ h₂ fun b o hb e => he₂ b o hb (hs₁.extBut b o hb (Heap.get?_push_of_some _ e)))
theorem ev_assign_Tuple_list {env : Env} {elts : List Expr} {x1} {pos : Pos} {t : Addr} {items : Array Value} {Q : Unit → Shared → Prop} (hh : A.handled = none) (ht : s.heap.IsList t items)
    (hn : (assignEach elts env).length = items.size) (hstar : (assignEach elts env).findIdx? (·.1) = none)
    (h : ∀ h', Heap.ExtBut s.heap.objs.size s.heap h' → wpAny (model prog w) A (assignInOrder ((assignEach elts env).map (·.2)) items.toList) Q E { s with heap := h' }) :
    wpAny (model prog w) A (assign (.Tuple elts x1 pos) env (.ref t)) Q E s := by
  rw [PyProof.Rows.assign_Tuple]
  refine wpAny_bind (wpAny_standAt ?_)
  unfold unpack
  rw [hn, hstar]
  exact wpAny_bind (wpAny_holding (ev_unpackItems_list hh ht h))
end
end PySem
namespace Ev
open PySem PySem.Spec PyProof.Rows L2
section
variable {X : Cx} {es : List Expr} {ts : List Tg} {pos : Pos}
def gTupU (K : PySem.W.Frag) (n : Nat) (t : TGs) : TG := fun v σ H Q => ∃ a xs, v = .ref a ∧ (SqT K H a xs ∨ SqL K H a xs) ∧ xs.length = n ∧ t xs σ H Q
theorem pg_tupU {k : Nat} {t : TGs} {n : Nat} (hc : X.calm = true) (h : PGs X es t) (hn : (assignEach es X.env).length = n) (hst : (assignEach es X.env).findIdx? (·.1) = none) : PG X (.Tuple es k pos) (gTupU X.K n t) := by
  refine ⟨fun pins s σ H v u Q I r hw => ?_⟩
  obtain ⟨a, xs, e1, hq, hl, hw⟩ := hw
  subst e1
  cases r
  rcases hq with hq | hq
  · obtain ⟨its, rv, ht, hz⟩ := I.tuple hq
    refine assign_Tuple_tuple (I.ok.hd hc) ht (by simp [hn, ← hl, rv.length]) hst fun h' hx => ?_
    have I1 : L2.Inv X pins σ H { s with heap := h' } := I.kept (t' := s.toks) fun b o e => hx b o (Nat.ne_of_lt (Heap.lt_size e)) e
    exact h.run pins _ σ H xs _ Q I1 (by simpa using rv) hw
  · obtain ⟨its, rv, ⟨o, n', e1, e2, e3, e4⟩, hz⟩ := I.list hq
    refine ev_assign_Tuple_list (I.ok.hd hc) ⟨o, e1, e2, n', e4⟩ (by simp [hn, ← hl, rv.length]) hst fun h' hx => ?_
    have I1 : L2.Inv X pins σ H { s with heap := h' } := I.kept (t' := s.toks) fun b o e => hx b o (Nat.ne_of_lt (Heap.lt_size e)) e
    exact h.run pins _ σ H xs _ Q I1 (by simpa using rv) hw
/-- by values: what the row holds -/
def gU (K : PySem.W.Frag) (ts : List Tg) : TG := fun x σ H Q => ∃ (ρ : List Addr) (as as' : Sl) (vs : List AV) (q : Addr) (ys : List V), x = .ref q ∧ (SqT K H q ys ∨ SqL K H q ys) ∧ RVs K ρ H vs ys ∧ RS K ρ H as σ ∧ putTs ts vs as = some as' ∧ ∀ σ', RS K ρ H as' σ' → Q σ' H
theorem eg_tupU {k : Nat} (hc : X.calm = true) (h : PGs X es (gTs X.K ts)) (hn : (assignEach es X.env).length = ts.length) (hst : (assignEach es X.env).findIdx? (·.1) = none) : PG X (.Tuple es k pos) (gU X.K ts) :=
  PG.weak (pg_tupU hc h hn hst) fun y σ H Q ⟨ρ, as, as', vs, q, ys, ey, sq, rr, rs, e, k⟩ => ⟨q, ys, ey, sq, by rw [← rr.length, putTs_len e], ρ, as, as', vs, rs, rr, e, fun σ' r _ => k σ' r⟩
/-- what a row holds -/
theorem row_ok {K : PySem.W.Frag} {C : Nat → Addr} {ρ : List Addr} {h : AH} {H : Hp} (s : SR K C ρ h H) {v : AV} {y : V} (r : RV K ρ H v y) {vs : List AV} (e : rowOf v h = some vs) : ∃ q ys, y = .ref q ∧ (SqT K H q ys ∨ SqL K H q ys) ∧ RVs K ρ H vs ys := by
  cases v with
  | tup xs =>
    cases e
    obtain ⟨a, ys, h1, h2, h3⟩ := sqT_inj r
    exact ⟨a, ys, h1, .inl h2, h3⟩
  | rol xs =>
    cases e
    cases r with
    | rol hz rr => exact ⟨_, _, rfl, .inr hz.sq, rr⟩
  | loc n =>
    simp only [rowOf] at e
    split at e
    · next xs hn =>
      cases e
      obtain ⟨a, ys, h1, _, h2, h3⟩ := s.lst hn r
      exact ⟨a, ys, h1, .inr (.inl (.inl h2)), h3⟩
    · cases e
  | non => cases e
  | bl _ => cases e
  | int _ => cases e
  | str _ => cases e
end
end Ev

set_option Elab.async false
set_option linter.all false
set_option maxRecDepth 100000
set_option maxHeartbeats 8000000
/-! Statements by values. -/
namespace Ev
open PySem PySem.Spec L2
section
variable (K : PySem.W.Frag) (C : Nat → Addr)
def PoS (W : WX) (ρ : List Addr) (H : Hp) (o : Out) (D : Ends) : Prop := match o with
  | .nx as h => ∀ (ρ' : List Addr) (H' : Hp) (σ' : L2.St), RS K (ρ ++ ρ') H' as σ' → SR K C (ρ ++ ρ') h H' → Ext H H' → Fr ρ ρ' H H' → D.nx σ' H'
  | .rt v h => ∀ (ρ' : List Addr) (H' : Hp) (y : V), SR K C (ρ ++ ρ') h H' → Ext H H' → Fr ρ ρ' H H' → RV K (ρ ++ ρ') H' v y → D.rt y H'
  | .bk as h => ∀ (ρ' : List Addr) (H' : Hp) (σ' : L2.St), RS K (ρ ++ ρ') H' as σ' → SR K C (ρ ++ ρ') h H' → Ext H H' → Fr ρ ρ' H H' → D.bk σ' H'
  | .ct as h => ∀ (ρ' : List Addr) (H' : Hp) (σ' : L2.St), RS K (ρ ++ ρ') H' as σ' → SR K C (ρ ++ ρ') h H' → Ext H H' → Fr ρ ρ' H H' → D.ct σ' H'
  | .ex c fs as h => ∀ (ρ' : List Addr) (H' : Hp) (σ' : L2.St) (d : Option Addr) (ys : List (Str × V)), RS K (ρ ++ ρ') H' as σ' → SR K C (ρ ++ ρ') h H' → Ext H H' → Fr ρ ρ' H H' → xdAt H' d ys → RP K (ρ ++ ρ') H' fs ys → W (.ref (C c)) d σ' H'
  | .no => False
def AtS (W : WX) (f : Sl → AH → Out) : TS := fun D σ H => ∃ (ρ : List Addr) (as : Sl) (h : AH), RS K ρ H as σ ∧ SR K C ρ h H ∧ PoS K C W ρ H (f as h) D
end
section
variable {K : PySem.W.Frag} {C : Nat → Addr} {W : WX} {ρ : List Addr} {H : Hp}
theorem PoS.mono {o : Out} {D : Ends} {H' : Hp} (ρ' : List Addr) (e : Ext H H') (f : Fr ρ ρ' H H') (p : PoS K C W ρ H o D) : PoS K C W (ρ ++ ρ') H' o D := by
  cases o with
  | nx as h => intro ρ2 H2 σ' rs s e2 f2; rw [List.append_assoc] at rs s; exact p _ _ _ rs s (e.trans e2) (f.trans f2)
  | rt v h => intro ρ2 H2 y s e2 f2 rv; rw [List.append_assoc] at rv s; exact p _ _ _ s (e.trans e2) (f.trans f2) rv
  | bk as h => intro ρ2 H2 σ' rs s e2 f2; rw [List.append_assoc] at rs s; exact p _ _ _ rs s (e.trans e2) (f.trans f2)
  | ct as h => intro ρ2 H2 σ' rs s e2 f2; rw [List.append_assoc] at rs s; exact p _ _ _ rs s (e.trans e2) (f.trans f2)
  | ex c fs as h => intro ρ2 H2 σ' d ys rs s e2 f2 hd rp; rw [List.append_assoc] at rs s rp; exact p _ _ _ d ys rs s (e.trans e2) (f.trans f2) hd rp
  | no => exact p
theorem PoS.nx {as : Sl} {h : AH} {D : Ends} {σ : L2.St} (p : PoS K C W ρ H (.nx as h) D) (rs : RS K ρ H as σ) (s : SR K C ρ h H) : D.nx σ H :=
  p [] H σ (by rw [List.append_nil]; exact rs) (by rw [List.append_nil]; exact s) (Ext.refl H) (Fr.refl ρ H)
theorem PoS.bk {as : Sl} {h : AH} {D : Ends} {σ : L2.St} (p : PoS K C W ρ H (.bk as h) D) (rs : RS K ρ H as σ) (s : SR K C ρ h H) : D.bk σ H :=
  p [] H σ (by rw [List.append_nil]; exact rs) (by rw [List.append_nil]; exact s) (Ext.refl H) (Fr.refl ρ H)
theorem PoS.ct {as : Sl} {h : AH} {D : Ends} {σ : L2.St} (p : PoS K C W ρ H (.ct as h) D) (rs : RS K ρ H as σ) (s : SR K C ρ h H) : D.ct σ H :=
  p [] H σ (by rw [List.append_nil]; exact rs) (by rw [List.append_nil]; exact s) (Ext.refl H) (Fr.refl ρ H)
theorem PoS.rt {v : AV} {y : V} {h : AH} {D : Ends} (p : PoS K C W ρ H (.rt v h) D) (r : RV K ρ H v y) (s : SR K C ρ h H) : D.rt y H :=
  p [] H y (by rw [List.append_nil]; exact s) (Ext.refl H) (Fr.refl ρ H) (by rw [List.append_nil]; exact r)
/-- a value's step within a statement -/
theorem PoS.val {r : Res AV} {f : AV → AH → Out} {D : Ends} {as : Sl} {σ : L2.St} (rs : RS K ρ H as σ) (p : PoS K C W ρ H (r.out as f) D) :
    Po K C (RV K) (fun c d H' => W c d σ H') ρ H r (fun y H1 => ∃ (ρ1 : List Addr) (h1 : AH) (v : AV), Ext H H1 ∧ RS K (ρ ++ ρ1) H1 as σ ∧ SR K C (ρ ++ ρ1) h1 H1 ∧ RV K (ρ ++ ρ1) H1 v y ∧ PoS K C W (ρ ++ ρ1) H1 (f v h1) D) := by
  cases r with
  | ok v h1 => exact fun ρ1 H1 y s e f rv => ⟨ρ1, h1, v, e, rs.mono ρ1 e, s, rv, PoS.mono ρ1 e f p⟩
  | ex c fs h1 => exact fun ρ1 H1 d ys s e f hd rp => p ρ1 H1 σ d ys (rs.mono ρ1 e) s e f hd rp
  | no => exact p
end
section
variable {X : Cx} {C : Nat → Addr} {W : WX} {st : Stmt} {sts : List Stmt} {e e2 : Expr} {fe fe2 : Sl → AH → Res AV} {ft : Sl → AH → Res Bool} {f g : Sl → AH → Out} {pos : Pos}
abbrev PSv (X : Cx) (C : Nat → Addr) (W : WX) (st : Stmt) (f : Sl → AH → Out) : Prop := PS X st (AtS X.K C W f)
abbrev PSsv (X : Cx) (C : Nat → Addr) (W : WX) (st : List Stmt) (f : Sl → AH → Out) : Prop := PSs X st (AtS X.K C W f)
theorem PS.weak {t t' : TS} (p : PS X st t) (h : ∀ D σ H, t' D σ H → t D σ H) : PS X st t' := ⟨fun pins s σ H D I q => p.run pins s σ H D I (h _ _ _ q)⟩
theorem PSs.weak {t t' : TS} (p : PSs X sts t) (h : ∀ D σ H, t' D σ H → t D σ H) : PSs X sts t' := ⟨fun pins s σ H D I q => p.run pins s σ H D I (h _ _ _ q)⟩
theorem xs_nil : PSsv X C W [] (fun σ h => .nx σ h) := PSs.weak pss_nil fun D σ H ⟨ρ, as, h, rs, sr, p⟩ => p.nx rs sr
theorem xs_cons (h1 : PSv X C W st f) (h2 : PSsv X C W sts g) : PSsv X C W (st :: sts) (fun σ h => match f σ h with
    | .nx σ1 h1 => g σ1 h1
    | o => o) := PSs.weak (pss_cons h1 h2) fun D σ H ⟨ρ, as, h, rs, sr, p⟩ => by
  refine ⟨ρ, as, h, rs, sr, ?_⟩
  simp only at p
  cases ef : f as h with
  | nx as1 h1 =>
    rw [ef] at p
    exact fun ρ1 H1 σ1 rs1 s1 e1 f1 => ⟨ρ ++ ρ1, as1, h1, rs1, s1, PoS.mono ρ1 e1 f1 p⟩
  | rt v h1 => rw [ef] at p; exact p
  | bk as1 h1 => rw [ef] at p; exact p
  | ct as1 h1 => rw [ef] at p; exact p
  | ex c fs as1 h1 => rw [ef] at p; exact p
  | no => rw [ef] at p; exact p
theorem xs_pass : PSv X C W (.Pass pos) (fun σ h => .nx σ h) := PS.weak ps_pass fun D σ H ⟨ρ, as, h, rs, sr, p⟩ => p.nx rs sr
theorem xs_brk : PSv X C W (.Break pos) (fun σ h => .bk σ h) := PS.weak ps_break fun D σ H ⟨ρ, as, h, rs, sr, p⟩ => p.bk rs sr
theorem xs_ctn : PSv X C W (.Continue pos) (fun σ h => .ct σ h) := PS.weak ps_continue fun D σ H ⟨ρ, as, h, rs, sr, p⟩ => p.ct rs sr
theorem xs_doc {x j pos'} : PSv X C W (.Expr (.Constant (.str x) j pos) pos') (fun σ h => .nx σ h) := PS.weak ps_doc fun D σ H ⟨ρ, as, h, rs, sr, p⟩ => p.nx rs sr
theorem xs_nev : PSv X C W st (fun _ _ => .no) := PS.weak ps_never fun D σ H ⟨ρ, as, h, rs, sr, p⟩ => p
theorem xs_expr (he : PEv X C W e fe) (hs : swapsWith e none pos.line X.env = pure false) : PSv X C W (.Expr e pos) (fun σ h => (fe σ h).out σ fun _ h1 => .nx σ h1) := PS.weak (ps_expr he hs) fun D σ H ⟨ρ, as, h, rs, sr, p⟩ =>
  ⟨ρ, as, h, rs, sr, (PoS.val rs p).imp fun y H1 ⟨ρ1, h1, v, e1, rs1, s1, rv, p1⟩ => p1.nx rs1 s1⟩
theorem xs_ret (he : PEv X C W e fe) : PSv X C W (.Return (some e) pos) (fun σ h => (fe σ h).out σ fun v h1 => .rt v h1) := PS.weak (ps_ret he) fun D σ H ⟨ρ, as, h, rs, sr, p⟩ =>
  ⟨ρ, as, h, rs, sr, (PoS.val rs p).imp fun y H1 ⟨ρ1, h1, v, e1, rs1, s1, rv, p1⟩ => p1.rt rv s1⟩
theorem xs_retN : PSv X C W (.Return none pos) (fun σ h => (Res.ok AV.non h).out σ fun v h1 => .rt v h1) := PS.weak ps_retN fun D σ H ⟨ρ, as, h, rs, sr, p⟩ => by
  have p : PoS X.K C W ρ H (.rt .non h) D := p
  exact p.rt .non sr
theorem xs_if {a b : List Stmt} (hc : PTv X C W e ft) (ha : PSsv X C W a f) (hb : PSsv X C W b g) : PSv X C W (.If e a b pos) (fun σ h => match ft σ h with
    | .ok c h1 => if c then f σ h1 else g σ h1
    | .ex c fs h1 => .ex c fs σ h1
    | .no => .no) := PS.weak (ps_if hc ha hb) fun D σ H ⟨ρ, as, h, rs, sr, p⟩ => by
  refine ⟨ρ, as, h, rs, sr, ?_⟩
  simp only at p
  cases ef : ft as h with
  | ok c h1 =>
    rw [ef] at p
    intro ρ1 H1 b s1 e1 f1 rb
    obtain rfl : c = b := rb
    cases c with
    | true => exact ⟨ρ ++ ρ1, as, h1, rs.mono ρ1 e1, s1, PoS.mono ρ1 e1 f1 p⟩
    | false => exact ⟨ρ ++ ρ1, as, h1, rs.mono ρ1 e1, s1, PoS.mono ρ1 e1 f1 p⟩
  | ex c fs h1 => rw [ef] at p; exact fun ρ1 H1 d ys s1 e1 f1 hd rp => p ρ1 H1 σ d ys (rs.mono ρ1 e1) s1 e1 f1 hd rp
  | no => rw [ef] at p; exact p
theorem xs_set {tg : Expr} {t : Tg} (he : PEv X C W e fe) (hg : PG X tg (gT X.K t)) (hs : swapsWithSole [tg] e pos.line X.env = pure false) (hw : swappedStores [tg] e X.env = pure none) (h1 : (assignEach [tg] X.env).map (·.2) = [assign tg X.env]) :
    PSv X C W (.Assign [tg] e pos) (fun σ h => (fe σ h).out σ fun v h1 => match putT t v σ with
    | some σ' => .nx σ' h1
    | none => .no) := PS.weak (ps_asg he hg hs hw h1) fun D σ H ⟨ρ, as, h, rs, sr, p⟩ => by
  refine ⟨ρ, as, h, rs, sr, (PoS.val rs p).imp fun y H1 ⟨ρ1, h1, v, e1, rs1, s1, rv, p1⟩ => ?_⟩
  split at p1
  · next as' ep => exact ⟨ρ ++ ρ1, as, as', v, rs1, rv, ep, fun σ' rs' _ => p1.nx rs' s1⟩
  · exact p1.elim
theorem xs_setU {tg : Expr} {ts : List Tg} (he : PEv X C W e fe) (hg : PG X tg (gU X.K ts)) (hs : swapsWithSole [tg] e pos.line X.env = pure false) (hw : swappedStores [tg] e X.env = pure none) (h1 : (assignEach [tg] X.env).map (·.2) = [assign tg X.env]) :
    PSv X C W (.Assign [tg] e pos) (fun σ h => (fe σ h).out σ fun v h1 => match rowOf v h1 with
    | some vs => (match putTs ts vs σ with
      | some σ' => .nx σ' h1
      | none => .no)
    | none => .no) := PS.weak (ps_asg he hg hs hw h1) fun D σ H ⟨ρ, as, h, rs, sr, p⟩ => by
  refine ⟨ρ, as, h, rs, sr, (PoS.val rs p).imp fun y H1 ⟨ρ1, h1, v, e1, rs1, s1, rv, p1⟩ => ?_⟩
  split at p1
  · next vs ev =>
    split at p1
    · next as' ep =>
      obtain ⟨q, ys, ey, sq, rr⟩ := row_ok s1 rv ev
      exact ⟨ρ ++ ρ1, as, as', vs, q, ys, ey, sq, rr, rs1, ep, fun σ' rs' => p1.nx rs' s1⟩
    · exact p1.elim
  · exact p1.elim
theorem xs_par {i j : Nat} {x y : Str} {px py pt : Pos} {kt k2 pt2} (hc : X.calm = true) (hN : X.N.Nodup) (hi : X.N[i]? = some x) (hj : X.N[j]? = some y) (hij : i ≠ j) (hx : X.env.scope.names.lookup x = some .local) (hy : X.env.scope.names.lookup y = some .local)
    (ha : PEv X C W e fe) (hb : PEv X C W e2 fe2) (h1 : starEach [e, e2] X.env = (false, eval e X.env) :: starEach [e2] X.env) (h2 : starEach [e2] X.env = (false, eval e2 X.env) :: starEach [] X.env)
    (hw : swappedStores [.Tuple [.Name x px, .Name y py] kt pt] (.Tuple [e, e2] k2 pt2) X.env = pure (some [x, y])) (hs : swapsWithSole [.Tuple [.Name x px, .Name y py] kt pt] (.Tuple [e, e2] k2 pt2) pos.line X.env = pure false) :
    PSv X C W (.Assign [.Tuple [.Name x px, .Name y py] kt pt] (.Tuple [e, e2] k2 pt2) pos) (fun σ h => (fe σ h).out σ fun v h1 => (fe2 σ h1).out σ fun w h2 => if i < σ.length ∧ j < σ.length then .nx ((σ.set i (some v)).set j (some w)) h2 else .no) :=
  PS.weak (ps_par hc hN hi hj hij hx hy (pa_cons ha (pa_cons hb pa_nil h2) h1) hw hs) fun D σ H ⟨ρ, as, h, rs, sr, p⟩ => by
    refine ⟨ρ, as, h, rs, sr, (PoS.val rs p).imp fun y H1 ⟨ρ1, h1, v, e1, rs1, s1, rv, p1⟩ => ?_⟩
    refine ⟨ρ ++ ρ1, as, h1, rs1, s1, (PoS.val rs1 p1).imp fun z H2 ⟨ρ2, h2, w, e2, rs2, s2, rw', p2⟩ => ?_⟩
    refine ⟨y, z, rfl, ?_⟩
    split at p2
    · exact p2.nx ((rs2.set (rv.mono ρ2 e2)).set rw') s2
    · exact p2.elim
theorem xs_par3 {i j l : Nat} {x y z : Str} {e3 : Expr} {fe3 : Sl → AH → Res AV} {px py pz pt : Pos} {kt k2 pt2} (hc : X.calm = true) (hN : X.N.Nodup) (hi : X.N[i]? = some x) (hj : X.N[j]? = some y) (hl : X.N[l]? = some z) (hij : i ≠ j) (hil : i ≠ l) (hjl : j ≠ l) (hx : X.env.scope.names.lookup x = some .local) (hy : X.env.scope.names.lookup y = some .local) (hz : X.env.scope.names.lookup z = some .local)
    (ha : PEv X C W e fe) (hb : PEv X C W e2 fe2) (hd : PEv X C W e3 fe3) (h1 : starEach [e, e2, e3] X.env = (false, eval e X.env) :: starEach [e2, e3] X.env) (h2 : starEach [e2, e3] X.env = (false, eval e2 X.env) :: starEach [e3] X.env) (h3 : starEach [e3] X.env = (false, eval e3 X.env) :: starEach [] X.env)
    (hw : swappedStores [.Tuple [.Name x px, .Name y py, .Name z pz] kt pt] (.Tuple [e, e2, e3] k2 pt2) X.env = pure (some [x, y, z])) (hs : swapsWithSole [.Tuple [.Name x px, .Name y py, .Name z pz] kt pt] (.Tuple [e, e2, e3] k2 pt2) pos.line X.env = pure false) :
    PSv X C W (.Assign [.Tuple [.Name x px, .Name y py, .Name z pz] kt pt] (.Tuple [e, e2, e3] k2 pt2) pos) (fun σ h => (fe σ h).out σ fun v h1 => (fe2 σ h1).out σ fun w h2 => (fe3 σ h2).out σ fun u h3 => if i < σ.length ∧ j < σ.length ∧ l < σ.length then .nx (((σ.set i (some v)).set j (some w)).set l (some u)) h3 else .no) :=
  PS.weak (ps_par3 hc hN hi hj hl hij hil hjl hx hy hz (pa_cons ha (pa_cons hb (pa_cons hd pa_nil h3) h2) h1) hw hs) fun D σ H ⟨ρ, as, h, rs, sr, p⟩ => by
    refine ⟨ρ, as, h, rs, sr, (PoS.val rs p).imp fun y H1 ⟨ρ1, h1, v, e1, rs1, s1, rv, p1⟩ => ?_⟩
    refine ⟨ρ ++ ρ1, as, h1, rs1, s1, (PoS.val rs1 p1).imp fun z H2 ⟨ρ2, h2, w, e2, rs2, s2, rw', p2⟩ => ?_⟩
    refine ⟨ρ ++ ρ1 ++ ρ2, as, h2, rs2, s2, (PoS.val rs2 p2).imp fun t H3 ⟨ρ3, h3, u, e3, rs3, s3, ru, p3⟩ => ?_⟩
    refine ⟨y, z, t, rfl, ?_⟩
    split at p3
    · exact p3.nx (((rs3.set ((rv.mono ρ2 e2).mono ρ3 e3)).set (rw'.mono ρ3 e3)).set ru) s3
    · exact p3.elim
theorem xs_put {o i : Expr} {fo fi : Sl → AH → Res AV} {p2 : Pos} (hu : X.A.units + 1 < cLine) (he : PEv X C W e fe) (ho : PEv X C W o fo) (hi : PEv X C W i fi)
    (ha : ∀ v, assign (.Subscript o i p2) X.env v = (do
      let ov ← holding [v] (eval o X.env)
      let iv ← holding [v, ov] (eval i X.env)
      standAt p2
      holding [v, ov, iv] (setItem ov iv v)
      release [v, ov, iv] [])) (hs : swapsWithSole [.Subscript o i p2] e pos.line X.env = pure false) (hw : swappedStores [.Subscript o i p2] e X.env = pure none) (h1 : (assignEach [.Subscript o i p2] X.env).map (·.2) = [assign (.Subscript o i p2) X.env]) :
    PSv X C W (.Assign [.Subscript o i p2] e pos) (fun σ h => (fe σ h).out σ fun v h1 => (fo σ h1).out σ fun u h2 => (fi σ h2).out σ fun w h3 => match putOp u w v h3 with
    | some h4 => .nx σ h4
    | none => .no) := PS.weak (ps_asg he (pg_sub ho hi (put_ok (C := C) hu) ha) hs hw h1) fun D σ H ⟨ρ, as, h, rs, sr, p⟩ => by
  refine ⟨ρ, as, h, rs, sr, (PoS.val rs p).imp fun y H1 ⟨ρ1, h1, v, e1, rs1, s1, rv, p1⟩ => ?_⟩
  refine ⟨ρ ++ ρ1, as, h1, rs1, s1, (PoS.val rs1 p1).imp fun z H2 ⟨ρ2, h2, u, e2, rs2, s2, ru, p2⟩ => ?_⟩
  refine ⟨ρ ++ ρ1 ++ ρ2, as, h2, rs2, s2, (PoS.val rs2 p2).imp fun x H3 ⟨ρ3, h3, w, e3, rs3, s3, rw', p3⟩ => ?_⟩
  split at p3
  · next h4 eh => exact ⟨_, h3, h4, u, w, v, s3, ru.mono ρ3 e3, rw', (rv.mono ρ2 e2).mono ρ3 e3, eh, fun H4 s4 e4 f4 => by
      have := p3 [] H4 σ (by rw [List.append_nil]; exact ⟨rs3.len, fun i v hv => let ⟨x, hx, r⟩ := rs3.at_ i v hv; ⟨x, hx, r.ext e4⟩⟩) (by rw [List.append_nil]; exact s4) e4 f4
      exact this⟩
  · exact p3.elim
end
end Ev

set_option Elab.async false
set_option linter.all false
set_option maxRecDepth 100000
set_option maxHeartbeats 8000000
/-! Statements by values, on: two targets, a field set, loops. -/
namespace Ev
open PySem PySem.Spec L2
section
variable {X : Cx} {C : Nat → Addr} {W : WX} {st : Stmt} {sts : List Stmt} {e e2 : Expr} {fe fe2 : Sl → AH → Res AV} {ft : Sl → AH → Res Bool} {f g : Sl → AH → Out} {pos : Pos}
theorem xs_set2 {tg ug : Expr} {t u : Tg} (he : PEv X C W e fe) (hg : PG X tg (gT X.K t)) (hg2 : PG X ug (gT X.K u)) (ha : (assignEach [tg, ug] X.env).map (·.2) = [assign tg X.env, assign ug X.env]) (hw : swappedStores [tg, ug] e X.env = pure none) :
    PSv X C W (.Assign [tg, ug] e pos) (fun σ h => (fe σ h).out σ fun v h1 => match (putT t v σ).bind fun σ' => putT u v σ' with
    | some σ' => .nx σ' h1
    | none => .no) := PS.weak (ps_asg2 he hg hg2 ha hw) fun D σ H ⟨ρ, as, h, rs, sr, p⟩ => by
  refine ⟨ρ, as, h, rs, sr, (PoS.val rs p).imp fun y H1 ⟨ρ1, h1, v, e1, rs1, s1, rv, p1⟩ => ?_⟩
  split at p1
  · next as' ep =>
    rw [Option.bind_eq_some_iff] at ep
    obtain ⟨am, e3, e4⟩ := ep
    exact ⟨ρ ++ ρ1, as, am, v, rs1, rv, e3, fun σ1 rs2 _ => ⟨ρ ++ ρ1, am, as', v, rs2, rv, e4, fun σ2 rs3 _ => p1.nx rs3 s1⟩⟩
  · exact p1.elim
theorem rp_app {κ : Type} {K : PySem.W.Frag} {ρ : List Addr} {H : Hp} : ∀ {xs xs2 : List (κ × AV)} {ys ys2 : List (κ × V)}, RP K ρ H xs ys → RP K ρ H xs2 ys2 → RP K ρ H (xs ++ xs2) (ys ++ ys2)
  | _, _, _, _, .nil, s => s
  | _, _, _, _, .cons r t, s => .cons r (rp_app t s)
theorem rp_none {K : PySem.W.Frag} {ρ : List Addr} {H : Hp} {f : Str} : ∀ {xs : List (Str × AV)} {ys : List (Str × V)}, RP K ρ H xs ys → xs.lookup f = none → ys.lookup f = none
  | _, _, .nil, _ => rfl
  | _, _, .cons (k := k) r t, e => by
    simp only [List.lookup_cons] at e ⊢
    cases hk : (f == k) with
    | true => simp only [hk] at e; cases e
    | false => simp only [hk] at e; exact rp_none t e
theorem rp_lookup {K : PySem.W.Frag} {ρ : List Addr} {H : Hp} {f : Str} {v : AV} : ∀ {xs : List (Str × AV)} {ys : List (Str × V)}, RP K ρ H xs ys → xs.lookup f = some v → ∃ y, ys.lookup f = some y ∧ RV K ρ H v y
  | _, _, .nil, e => by simp at e
  | _, _, .cons (k := k) r t, e => by
    simp only [List.lookup_cons] at e ⊢
    cases hk : (f == k) with
    | true => simp only [hk] at e; cases e; exact ⟨_, rfl, r⟩
    | false => simp only [hk] at e; exact rp_lookup t e
theorem putF_new {f : Str} {y : V} : ∀ {ys : List (Str × V)}, ys.lookup f = none → putF f y ys = ys ++ [(f, y)]
  | [], _ => rfl
  | (k, z) :: r, e => by
    simp only [List.lookup_cons] at e
    split at e
    · cases e
    · next h =>
      have ne : k ≠ f := fun q => by subst q; simp at h
      first
        | (unfold putF; rw [if_neg ne, putF_new e]; rfl)
        | (unfold putF; rw [if_neg (Ne.symm ne), putF_new e]; rfl)
        | (unfold putF; simp only [h]; rw [putF_new e]; rfl)
/-- a field read -/
theorem ev_fld {F : Str} (atr : Nat → Str → Bool) (hcl : ∀ c, atr c F = true → Cls X.K (C c) ∧ NoAttr X.K (C c) F) (he : PEv X C W e fe) (hb : attributeBase e F X.env (eval e X.env) = eval e X.env) :
    PEv X C W (.Attribute e F pos) (fun σ h => (fe σ h).bind fun v h1 => fldOp atr v F h1) := by
  refine PE.weak (pe_fld he hb) fun σ H Q q => ?_
  refine At.thn (R := RV X.K) q fun ρ as h v y H1 rs sr rr p => ?_
  cases v with
  | loc n =>
    simp only [fldOp] at p
    split at p
    · next c fs hn =>
      split at p
      · next ha =>
        split at p
        · next w hw =>
          obtain ⟨a, dx, ys, rfl, _, hH, rp⟩ := sr.ins hn rr
          obtain ⟨y, hy, ry⟩ := rp_lookup rp hw
          obtain ⟨h1, h2⟩ := hcl c ha
          exact ⟨a, C c, dx, ys, y, rfl, hH, h1, h2, hy, p.ok sr ry⟩
        · exact p.elim
      · exact p.elim
    · exact p.elim
  | _ => exact p.elim
/-- a new field set -/
theorem xs_fld {o : Expr} {fo : Sl → AH → Res AV} {F : Str} {p2 : Pos} (atr : Nat → Str → Bool) (hcl : ∀ c, atr c F = true → Cls X.K (C c) ∧ NoAttr X.K (C c) F) (he : PEv X C W e fe) (ho : PEv X C W o fo) (hs : swapsWith e (some (.Attribute o F p2)) pos.line X.env = pure false) :
    PSv X C W (.Assign [.Attribute o F p2] e pos) (fun σ h => (fe σ h).out σ fun v h1 => (fo σ h1).out σ fun u h2 => match u with
    | .loc n => match h2[n]? with
      | some (.ins c fs) => if atr c F = true ∧ fs.length < 1000 ∧ fs.lookup F = none then .nx σ (h2.set n (.ins c (fs ++ [(F, v)]))) else .no
      | _ => .no
    | _ => .no) := PS.weak (ps_fld ho he hs) fun D σ H ⟨ρ, as, h, rs, sr, p⟩ => by
  refine ⟨ρ, as, h, rs, sr, (PoS.val rs p).imp fun y H1 ⟨ρ1, h1, v, e1, rs1, s1, rv, p1⟩ => ?_⟩
  refine ⟨ρ ++ ρ1, as, h1, rs1, s1, (PoS.val rs1 p1).imp fun z H2 ⟨ρ2, h2, u, e2, rs2, s2, ru, p2⟩ => ?_⟩
  cases u with
  | loc n =>
    simp only at p2
    split at p2
    · next c fs hn =>
      split at p2
      · next hc =>
        obtain ⟨ha, hl, hx⟩ := hc
        obtain ⟨a, dx, ys, rfl, hr, hH, rp⟩ := s2.ins hn ru
        obtain ⟨k1, k2⟩ := hcl c ha
        have lens : fs.length = ys.length := rp_len rp
        refine ⟨a, C c, dx, ys, rfl, hH, k1, k2, by rw [← lens]; exact hl, ?_⟩
        rw [putF_new (rp_none rp hx)]
        have ex : Ext H2 (upd H2 a (.ins (C c) dx (ys ++ [(F, y)]))) := s2.ext_put hn hr
        have new := ((rp_app rp (.cons (k := F) (rv.mono ρ2 e2) .nil)).mono [] ex)
        rw [List.append_nil] at new
        have := p2 [] _ σ (by rw [List.append_nil]; exact ⟨rs2.len, fun i v hv => let ⟨x, hx, r⟩ := rs2.at_ i v hv; ⟨x, hx, r.ext ex⟩⟩) (by rw [List.append_nil]; exact s2.put hn hr ⟨dx, _, upd_same, new⟩) ex (Fr.put (List.mem_of_getElem? hr))
        exact this
      · exact p2.elim
    · exact p2.elim
  | _ => exact p2.elim
/-- for -/
theorem xs_for {tg iter : Expr} {t : Tg} {body : List Stmt} {fi : Sl → AH → Res Src} (hp : PassesOwn (model X.prog X.w) X.A X.env X.xe) (hc : X.calm = true) (hi : PIv X C W tg iter fi) (hg : PG X tg (gT X.K t)) (hb : PSsv X C W body f) (hs : ∀ x, foldedSetIterable iter X.env x = pure x) :
    PSv X C W (.For tg iter body [] pos) (fun σ h => match fi σ h with
    | .ok src h1 => loopS src.watch (fun v σ1 h2 => match putT t v σ1 with
      | some σ2 => f σ2 h2
      | none => .no) src.items σ h1
    | .ex c fs h1 => .ex c fs σ h1
    | .no => .no) := PS.weak (ps_for hp hc hi hg hb hs) fun D σ H ⟨ρ, as, h, rs, sr, p⟩ => by
  refine ⟨ρ, as, h, rs, sr, ?_⟩
  simp only at p
  cases ei : fi as h with
  | no => rw [ei] at p; exact p
  | ex c fs h1 => rw [ei] at p; exact fun ρ1 H1 d ys s1 e1 f1 hd rp => p ρ1 H1 σ d ys (rs.mono ρ1 e1) s1 e1 f1 hd rp
  | ok src h1 =>
    rw [ei] at p
    intro ρ1 H1 J s1 e1 f1 wk
    refine ⟨fun i m σ' H' => ∃ (ρ2 : List Addr) (as' : Sl) (h' : AH), m = src.items.length - i ∧ i ≤ src.items.length ∧ RS X.K (ρ ++ ρ1 ++ ρ2) H' as' σ' ∧ SR X.K C (ρ ++ ρ1 ++ ρ2) h' H' ∧ Ext H1 H' ∧
      PoS X.K C W (ρ ++ ρ1 ++ ρ2) H' (loopS src.watch (fun v σ1 h2 => match putT t v σ1 with
        | some σ2 => f σ2 h2
        | none => .no) (src.items.drop i) as' h') D, ⟨_, [], as, h1, rfl, Nat.zero_le _, ?_, ?_, Ext.refl _, ?_⟩, ?_⟩
    · rw [List.append_nil]; exact rs.mono ρ1 e1
    · rw [List.append_nil]; exact s1
    · rw [List.append_nil]; exact PoS.mono ρ1 e1 f1 p
    rintro i m σ' H' ⟨ρ2, as', h', rfl, hi, rs', sr', e', p'⟩
    have wk' := wk ρ2 h' H' i sr' e'
    by_cases end_ : i = src.items.length
    · subst end_
      rw [List.drop_length] at p'
      unfold loopS at p'
      split at p'
      · next st => exact .inl ⟨(wk' st).1 rfl, p'.nx rs' sr'⟩
      · exact p'.elim
    · have hlt : i < src.items.length := by omega
      rw [List.drop_eq_getElem_cons hlt] at p'
      unfold loopS at p'
      split at p'
      · next st =>
        obtain ⟨hgo, hy⟩ := (wk' st).2 src.items[i] (by simp [hlt])
        refine .inr ⟨hgo, fun σ'' H'' => ∃ (ρ3 : List Addr) (as'' : Sl) (h'' : AH), RS X.K (ρ ++ ρ1 ++ ρ3) H'' as'' σ'' ∧ SR X.K C (ρ ++ ρ1 ++ ρ3) h'' H'' ∧ Ext H1 H'' ∧
          PoS X.K C W (ρ ++ ρ1 ++ ρ3) H'' (loopS src.watch (fun v σ1 h2 => match putT t v σ1 with
            | some σ2 => f σ2 h2
            | none => .no) (src.items.drop (i + 1)) as'' h'') D, ?_, ?_⟩
        · rintro σ'' H'' ⟨ρ3, as'', h'', a1, a2, a3, a4⟩
          exact ⟨src.items.length - (i + 1), by omega, ρ3, as'', h'', rfl, hlt, a1, a2, a3, a4⟩
        intro x H2 yl
        obtain ⟨sr2, e2, f2, rx⟩ := hy x H2 yl
        have rs2 : RS X.K (ρ ++ ρ1 ++ ρ2) H2 as' σ' := ⟨rs'.len, fun i v hv => let ⟨x, hx, r⟩ := rs'.at_ i v hv; ⟨x, hx, r.ext e2⟩⟩
        have p2 := PoS.mono [] e2 f2 p'
        rw [List.append_nil] at p2
        cases ep : putT t src.items[i] as' with
        | none => rw [ep] at p2; exact p2.elim
        | some as1 =>
          rw [ep] at p2
          simp only at p2
          refine ⟨ρ ++ ρ1 ++ ρ2, as', as1, src.items[i], rs2, rx, ep, fun σ1 rs3 _ => ⟨ρ ++ ρ1 ++ ρ2, as1, h', rs3, sr2, ?_⟩⟩
          cases ef : f as1 h' with
          | nx as2 h2 =>
            rw [ef] at p2
            intro ρ4 H4 σ4 rs4 s4 e4 f4
            refine ⟨ρ2 ++ ρ4, as2, h2, ?_, ?_, (e'.trans e2).trans e4, ?_⟩
            · rw [← List.append_assoc]; exact rs4
            · rw [← List.append_assoc]; exact s4
            · rw [← List.append_assoc]; exact PoS.mono ρ4 e4 f4 p2
          | ct as2 h2 =>
            rw [ef] at p2
            intro ρ4 H4 σ4 rs4 s4 e4 f4
            refine ⟨ρ2 ++ ρ4, as2, h2, ?_, ?_, (e'.trans e2).trans e4, ?_⟩
            · rw [← List.append_assoc]; exact rs4
            · rw [← List.append_assoc]; exact s4
            · rw [← List.append_assoc]; exact PoS.mono ρ4 e4 f4 p2
          | bk as2 h2 => rw [ef] at p2; exact p2
          | rt v h2 => rw [ef] at p2; exact p2
          | ex c fs as2 h2 => rw [ef] at p2; exact p2
          | no => rw [ef] at p2; exact p2
      · exact p'.elim
/-- while -/
theorem xs_whl {body : List Stmt} {n : Nat} (hp : PassesOwn (model X.prog X.w) X.A X.env X.xe) (hc : PTv X C W e ft) (hb : PSsv X C W body f) : PSv X C W (.While e body [] pos) (fun σ h => loopW ft f n σ h) := PS.weak (ps_while hp hc hb) fun D σ H ⟨ρ, as, h, rs, sr, p⟩ => by
  refine ⟨fun m σ' H' => ∃ (ρ' : List Addr) (as' : Sl) (h' : AH), RS X.K ρ' H' as' σ' ∧ SR X.K C ρ' h' H' ∧ PoS X.K C W ρ' H' (loopW ft f m as' h') D, ⟨n, ρ, as, h, rs, sr, p⟩, ?_⟩
  rintro m σ' H' ⟨ρ', as', h', rs', sr', p'⟩
  cases m with
  | zero => exact p'.elim
  | succ m =>
    refine ⟨ρ', as', h', rs', sr', ?_⟩
    unfold loopW at p'
    cases et : ft as' h' with
    | no => rw [et] at p'; exact p'
    | ex c fs h1 => rw [et] at p'; exact fun ρ1 H1 d ys s1 e1 f1 hd rp => p' ρ1 H1 σ' d ys (rs'.mono ρ1 e1) s1 e1 f1 hd rp
    | ok b h1 =>
      rw [et] at p'
      intro ρ1 H1 b' s1 e1 f1 rb
      obtain rfl : b = b' := rb
      have p1 := PoS.mono ρ1 e1 f1 p'
      have rs1 := rs'.mono ρ1 e1
      cases b with
      | false => exact p1.nx rs1 s1
      | true =>
        simp only at p1
        refine ⟨fun σ'' H'' => ∃ (ρ' : List Addr) (as' : Sl) (h' : AH), RS X.K ρ' H'' as' σ'' ∧ SR X.K C ρ' h' H'' ∧ PoS X.K C W ρ' H'' (loopW ft f m as' h') D, fun σ'' H'' q => ⟨m, Nat.lt_succ_self m, q⟩, ρ' ++ ρ1, as', h1, rs1, s1, ?_⟩
        cases ef : f as' h1 with
        | nx as2 h2 =>
          rw [ef] at p1
          exact fun ρ4 H4 σ4 rs4 s4 e4 f4 => ⟨_, as2, h2, rs4, s4, PoS.mono ρ4 e4 f4 p1⟩
        | ct as2 h2 =>
          rw [ef] at p1
          exact fun ρ4 H4 σ4 rs4 s4 e4 f4 => ⟨_, as2, h2, rs4, s4, PoS.mono ρ4 e4 f4 p1⟩
        | bk as2 h2 => rw [ef] at p1; exact p1
        | rt v h2 => rw [ef] at p1; exact p1
        | ex c fs as2 h2 => rw [ef] at p1; exact p1
        | no => rw [ef] at p1; exact p1
end
end Ev

set_option Elab.async false
set_option linter.all false
set_option maxRecDepth 100000
set_option maxHeartbeats 8000000
/-! name op= value, for ints. -/
namespace Ev
open PySem PySem.Spec L2
section
variable {X : Cx} {C : Nat → Addr} {W : WX} {e : Expr} {fe : Sl → AH → Res AV}
theorem aug_out {i : Nat} {op : Operator} {f : Int → Int → Int} (hf : ∀ a b : Int, augV op a (.int b) = some (f a b)) {D : Ends} {σ : L2.St} {H : Hp}
    (q : ∃ (ρ : List Addr) (as : Sl) (h : AH), RS X.K ρ H as σ ∧ SR X.K C ρ h H ∧ PoS X.K C W ρ H (match as[i]? with
      | some (some (.int a)) => (fe as h).out as fun w h1 => match augV op a w with
        | some c => .nx (as.set i (some (.int c))) h1
        | none => .no
      | _ => .no) D) :
    tAug i (At X.K C (RV X.K) W fe) (ipI f) D σ H := by
  obtain ⟨ρ, as, h, rs, sr, p⟩ := q
  split at p
  · next a ea =>
    obtain ⟨x, ex, rx⟩ := rs.at_ i _ ea
    cases rx
    refine ⟨_, ex, ρ, as, h, rs, sr, (PoS.val rs p).imp fun y H1 ⟨ρ1, h1, v, e1, rs1, s1, rv, p1⟩ => ?_⟩
    split at p1
    · next c ec =>
      cases v with
      | int b =>
        cases rv
        rw [hf] at ec
        cases ec
        exact ⟨a, b, rfl, rfl, p1.nx (rs1.set (.int _)) s1⟩
      | _ => simp [augV] at ec
    · exact p1.elim
  · exact p.elim
theorem xs_aug {i : Nat} {x : Str} {op : Operator} {px pos : Pos} (hN : X.N.Nodup) (hi : X.N[i]? = some x) (hl : X.env.scope.names.lookup x = some .local) (he : PEv X C W e fe) (ho : op = .Add ∨ op = .Sub) :
    PSv X C W (.AugAssign (.Name x px) op e pos) (fun σ h => match σ[i]? with
      | some (some (.int a)) => (fe σ h).out σ fun w h1 => match augV op a w with
        | some c => .nx (σ.set i (some (.int c))) h1
        | none => .no
      | _ => .no) := by
  rcases ho with rfl | rfl
  · exact PS.weak (ps_aug hN hi (.inl hl) he ip_add (.inr hl)) fun D σ H q => aug_out (fun _ _ => rfl) q
  · exact PS.weak (ps_aug hN hi (.inl hl) he ip_sub (.inr hl)) fun D σ H q => aug_out (fun _ _ => rfl) q
end
end Ev

set_option Elab.async false
set_option linter.all false
set_option maxRecDepth 100000
set_option maxHeartbeats 8000000
/-! {} and {k: v}. -/
namespace Ev
open PySem PySem.Spec L2
section
variable {X : Cx} {C : Nat → Addr} {W : WX} {k v : Expr} {fk fv : Sl → AH → Res AV} {pos : Pos}
theorem ev_dct0 : PEv X C W (.Dict [] [] pos) (fun _ h => lay (.dk []) h) := PE.weak pe_dnewK fun σ H Q ⟨ρ, as, h, rs, sr, p⟩ D hD => by
  have p : ∀ (ρ' : List Addr) (H' : Hp) (y : V), SR X.K C (ρ ++ ρ') (h ++ [.dk []]) H' → Ext H H' → Fr ρ ρ' H H' → RV X.K (ρ ++ ρ') H' (.loc h.length) y → Q y H' := p
  refine p [D] (upd H D (.dK [])) (.ref D) (sr.laid hD ⟨[], upd_same, .nil⟩) (Ext.laid hD) (Fr.laid hD (by simp)) (.loc ?_)
  rw [sr.len]; simp
theorem ev_dct1 (hk : PEv X C W k fk) (hv : PEv X C W v fv) : PEv X C W (.Dict [some k] [v] pos) (fun σ h => (fk σ h).bind fun a h1 => (fv σ h1).bind fun b h2 => dctOp [a] [b] h2) :=
  PE.weak (pe_disp (pps_cons hk hv pps_nil) rfl rfl (by simp) (by simp)) fun σ H Q ⟨ρ, as, h, rs, sr, p⟩ D hD => by
  have eD : Ext H (upd H D (.dK [])) := Ext.laid hD
  have fD : Fr ρ [] H (upd H D (.dK [])) := Fr.laid hD (by simp)
  have nD := sr.fresh hD
  have rs0 := rs.mono [] eD
  rw [List.append_nil] at rs0
  refine ⟨ρ, as, h, rs0, sr.off hD, ?_⟩
  cases ek : fk as h with
  | no => simp only [ek, Res.bind] at p; exact p
  | ex c fs h1 =>
    simp only [ek, Res.bind] at p
    exact fun ρ1 H1 d ys s1 e1 f1 hd rp => p ρ1 H1 d ys s1 (eD.trans e1) (fD.trans (by rw [List.append_nil]; exact f1)) hd rp
  | ok a h1 =>
    simp only [ek, Res.bind] at p
    intro ρ1 H1 x s1 e1 f1 rx
    have f1' : Fr ρ ρ1 H H1 := fD.trans (by rw [List.append_nil]; exact f1)
    have nD1 : D ∉ ρ ++ ρ1 := fun m => by
      rcases List.mem_append.mp m with m | m
      · exact nD m
      · have := f1.new D m
        rw [upd_same] at this; cases this
    have hD1 : H1 D = some (.dK []) := f1.keep D _ upd_same nD
    refine ⟨ρ ++ ρ1, as, h1, rs.mono ρ1 (eD.trans e1), s1, ?_⟩
    cases ev_ : fv as h1 with
    | no => simp only [ev_] at p; exact p
    | ex c fs h2 =>
      simp only [ev_] at p
      intro ρ2 H2 d ys s2 e2 f2 hd rp
      rw [List.append_assoc] at s2 rp
      exact p (ρ1 ++ ρ2) H2 d ys s2 ((eD.trans e1).trans e2) (f1'.trans f2) hd rp
    | ok b h2 =>
      simp only [ev_, dctOp] at p
      intro ρ2 H2 y s2 e2 f2 ry
      have nD2 : D ∉ (ρ ++ ρ1) ++ ρ2 := fun m => by
        rcases List.mem_append.mp m with m | m
        · exact nD1 m
        · have := f2.new D m
          rw [hD1] at this; cases this
      have hD2 : H2 D = some (.dK []) := f2.keep D _ hD1 nD1
      split at p
      · next kk ekk =>
        have rx2 : RV X.K ((ρ ++ ρ1) ++ ρ2) H2 a x := rx.mono ρ2 e2
        obtain rfl := key_v ekk rx2
        refine ⟨hD2, [(kk, y)], rfl, by simp, ?_⟩
        have eP : Ext H2 (upd H2 D (.dK [(kk, y)])) := Ext.put hD2 trivial
        have p : ∀ (ρ' : List Addr) (H' : Hp) (y : V), SR X.K C (ρ ++ ρ') (h2 ++ [.dk [(kk, b)]]) H' → Ext H H' → Fr ρ ρ' H H' → RV X.K (ρ ++ ρ') H' (.loc h2.length) y → Q y H' := p
        have sA : SR X.K C (((ρ ++ ρ1) ++ ρ2) ++ [D]) (h2 ++ [.dk [(kk, b)]]) (upd H2 D (.dK [(kk, y)])) :=
          (s2.keep eP fun c m => upd_ne fun z => nD2 (z ▸ m)).add nD2 ⟨[(kk, y)], upd_same, .cons (ry.mono [D] eP) .nil⟩
        have fP : Fr ρ (ρ1 ++ ρ2 ++ [D]) H (upd H2 D (.dK [(kk, y)])) := by
          have f12 : Fr ρ (ρ1 ++ ρ2) H H2 := f1'.trans f2
          refine ⟨fun c u e n => ?_, fun c m => ?_, fun c u e => ?_⟩
          · have ne : c ≠ D := fun z => by rw [z, hD] at e; cases e
            rw [upd_ne ne]; exact f12.keep c u e n
          · rcases List.mem_append.mp m with m | m
            · exact f12.new c m
            · simp at m; rw [m]; exact hD
          · have ne : c ≠ D := fun z => by rw [z, hD] at e; cases e
            rw [upd_ne ne]; exact f12.dom c u e
        have e3 : ((ρ ++ ρ1) ++ ρ2) ++ [D] = ρ ++ (ρ1 ++ ρ2 ++ [D]) := by simp [List.append_assoc]
        have ln := s2.len
        rw [e3] at sA
        refine p _ _ (.ref D) sA (((eD.trans e1).trans e2).trans eP) fP (.loc ?_)
        rw [← e3, ln]
        simp
      · exact p.elim
theorem dct1_eq {g : G} {x : Cur} {a b : E} : (fun σ h => (ev g x a σ h).bind fun u h1 => (ev g x b σ h1).bind fun w h2 => dctOp [u] [w] h2) = ev g x (.dct [a] [b]) := by
  funext σ h
  simp only [ev, evP, ofV, evs]
  cases (evP g x a).1 σ h with
  | ok u h1 => simp only [Res.bind]; cases (evP g x b).1 σ h1 <;> rfl
  | ex => rfl
  | no => rfl
end
end Ev

set_option Elab.async false
set_option linter.all false
set_option maxRecDepth 100000
set_option maxHeartbeats 8000000
/-! zip and enumerate over lists and tuples alike. -/
namespace Ev
open PySem PySem.Spec PyProof.Rows L2

/-- a list (true) or a tuple (false), and its iterator -/
def SqB (K : PySem.W.Frag) (k : Bool) (H : Hp) (a : Addr) (ys : List V) : Prop := match k with
  | true => SqL K H a ys
  | false => SqT K H a ys
def ItB (k : Bool) (h : Heap) (it a : Addr) (i : Nat) : Prop := match k with
  | true => h.IsListIter it a i
  | false => h.IsTupleIter it a i
def IsB (k : Bool) (h : Heap) (a : Addr) (its : Array Value) : Prop := match k with
  | true => h.IsList a its
  | false => h.IsTuple a its
def newB (k : Bool) (a : Addr) : Obj := match k with
  | true => { cls := .type "list_iterator", data := .fields #[.ref a, .int 0 0] }
  | false => { cls := .type "tuple_iterator", data := .fields #[.ref a, .int 0 0] }
theorem ItB.live {k : Bool} {h : Heap} {it a : Addr} {i : Nat} (q : ItB k h it a i) : ∃ o, h.get? it = some o ∧ ∀ v, o.data ≠ .cell v := by
  cases k <;> (obtain ⟨o, h1, _, h2⟩ := q; exact ⟨o, h1, fun v z => by rw [h2] at z; cases z⟩)
theorem ItB.over {k : Bool} {h h' : Heap} {it a : Addr} {i : Nat} (q : ItB k h it a i) (f : ∀ o, h.get? it = some o → h'.get? it = some o) : ItB k h' it a i := by
  cases k
  · exact Heap.IsTupleIter.at q fun o e => f o e
  · exact Heap.IsListIter.at q fun o e => f o e
theorem drawsB {prog : Program} {w : World} {A : Around} (hh : A.handled = none) (k : Bool) (it a : Addr) (ne : a ≠ it) (its : Array Value) :
    Draws prog w A it [it, a] its.size (fun i v => its[i]? = some v) (fun i h => ItB k h it a i ∧ IsB k h a its) := by
  cases k
  · exact Draws.tuple hh it a ne its
  · exact Draws.list hh it a ne its
theorem beginsB (k : Bool) (a : Addr) (its : Array Value) : Begins (.ref a) (newB k a) fun h => IsB k h a its := by
  cases k
  · exact begins_tuple a its
  · exact begins_list a its
theorem newB_at {k : Bool} {h : Heap} {it a : Addr} (e : h.get? it = some (newB k a)) : ItB k h it a 0 := by
  cases k <;> exact ⟨_, e, rfl, rfl⟩
theorem seqB {X : Cx} {pins : List (Addr × Obj)} {σ : L2.St} {H : Hp} {s : Shared} {k : Bool} {a : Addr} {ys : List V} (I : L2.Inv X pins σ H s) (q : SqB X.K k H a ys) : ∃ its, Vals ys its ∧ IsB k s.heap a its.toArray ∧ a < s.heap.objs.size := by
  cases k with
  | true =>
    obtain ⟨its, r, p, _⟩ := I.list q
    obtain ⟨o, e, _⟩ := id p.isList
    exact ⟨its, r, p.isList, Heap.lt_size e⟩
  | false =>
    obtain ⟨its, r, p, _⟩ := I.tuple q
    have p : s.heap.IsTuple a its.toArray := p
    obtain ⟨o, e, _⟩ := id p
    exact ⟨its, r, p, Heap.lt_size e⟩
theorem seqB_inj {X : Cx} {pins : List (Addr × Obj)} {σ : L2.St} {H : Hp} {s : Shared} {k : Bool} {a : Addr} {ys zs : List V} (I : L2.Inv X pins σ H s) (q : SqB X.K k H a ys) (r : SqB X.K k H a zs) : ys = zs := by
  cases k with
  | true => exact I.list_inj q r
  | false => exact I.tuple_inj q r

/-- pairs of what stands in both -/
def ItzM (K : PySem.W.Frag) (k l : Bool) (a b : Addr) : L2.It where
  go i H := ∃ ys zs y z, SqB K k H a ys ∧ SqB K l H b zs ∧ ys[i]? = some y ∧ zs[i]? = some z
  yld i H v H' := ∃ T y z, v = V.ref T ∧ H T = none ∧ H' = upd H T (.tup [y, z]) ∧ (∀ ys, SqB K k H a ys → ys[i]? = some y) ∧ ∀ zs, SqB K l H b zs → zs[i]? = some z
  stop i H := ∃ ys zs, SqB K k H a ys ∧ SqB K l H b zs ∧ i ≤ ys.length ∧ i ≤ zs.length ∧ (ys.length = i ∨ zs.length = i)
def turnM_ {k l : Bool} (z T1 T2 i1 i2 a b : Addr) (i : Nat) (h : Heap) : Prop := IsZip h z T1 T2 .none ∧ IsTupOf2 h T1 (.ref i1) (.ref i2) ∧ (∃ x y, IsTupOf2 h T2 x y) ∧ ItB k h i1 a i ∧ ItB l h i2 b i
theorem turn_zipM {P : Program} {wd : World} {K : PySem.W.Frag} {es : List Expr} {n : Nat} {pt : Pos} {k l : Bool} {a b z T1 T2 i1 i2 : Addr} (S : ZipSep2 z T1 T2 i1 i2 [i1, a] [i2, b]) (ne1 : a ≠ i1) (ne2 : b ≠ i2) (n1z : i1 ≠ z) (n2z : i2 ≠ z) :
    Turn P wd K (.Tuple es n pt) (ItzM K k l a b) [z, T1, T2, i1, i2] z (turnM_ (k := k) (l := l) z T1 T2 i1 i2 a b) where
  mem := List.mem_cons_self
  obj := by
    rintro i h ⟨hz, h1, ⟨x, y, h2⟩, q1, q2⟩ c hc
    simp only [List.mem_cons, List.not_mem_nil, or_false] at hc
    rcases hc with rfl | rfl | rfl | rfl | rfl
    · exact ⟨_, hz, fun v q => by cases q⟩
    · exact ⟨_, h1, fun v q => by cases q⟩
    · exact ⟨_, h2, fun v q => by cases q⟩
    · exact q1.live
    · exact q2.live
  keep := by
    rintro i h h' ⟨hz, h1, ⟨x, y, h2⟩, q1, q2⟩ f
    exact ⟨f _ (by simp) _ hz, f _ (by simp) _ h1, ⟨x, y, f _ (by simp) _ h2⟩, q1.over fun o e => f _ (by simp) o e, q2.over fun o e => f _ (by simp) o e⟩
  item := by
    rintro X rfl rfl rfl calm i pins s σ H E I off ⟨hz, h1, ⟨x, y, h2⟩, q1, q2⟩ ⟨ys, zs, y1, z1, sq1, sq2, g1, g2⟩
    obtain ⟨its, rv, p, _⟩ := seqB I sq1
    obtain ⟨jts, rw', p', _⟩ := seqB I sq2
    obtain ⟨u, hu, ru⟩ := rv.get g1
    obtain ⟨v, hv, rv2⟩ := rw'.get g2
    have l1 : i < its.toArray.size := by have := (List.getElem?_eq_some_iff.mp hu).1; simpa using this
    have l2 : i < jts.toArray.size := by have := (List.getElem?_eq_some_iff.mp hv).1; simpa using this
    have hh : X.A.in1.handled = none := I.ok.hd calm
    refine wpAny_pyNext_zipD2_item S (drawsB hh k i1 a ne1 its.toArray) (drawsB hh l i2 b ne2 jts.toArray) hz h1 h2 ⟨q1, p⟩ ⟨q2, p'⟩ l1 l2 fun x1 x2 h' tk e1 e2 z' t2' s1 s2 nt sz kp => ⟨_, rfl, ?_⟩
    obtain rfl : x1 = u := by have e1' : its[i]? = some x1 := by simpa using e1
                              rw [hu] at e1'; exact (Option.some.inj e1').symm
    obtain rfl : x2 = v := by have e2' : jts[i]? = some x2 := by simpa using e2
                              rw [hv] at e2'; exact (Option.some.inj e2').symm
    have zl : z < s.heap.objs.size := Heap.lt_size hz
    refine wpAny_letOwnedTupleGo_zip (s := { s with heap := h', toks := tk }) z' fun h'' z'' same => ?_
    have here : h''.get? s.heap.objs.size = some { cls := .type "tuple", data := .seq #[x1, x2] } := (same.2 _ (Nat.ne_of_gt zl)).trans nt
    have ob : ObjOk X.prog X.w (upd H s.heap.objs.size (.tup [y1, z1])) h'' s.heap.objs.size (.tup [y1, z1]) := ⟨(by decide : 2 ≤ sizeLine), [x1, x2], .cons ru (.cons rv2 .nil), _, here, rfl, _, rfl⟩
    have out : ∀ c o, c ∉ [z, T1, T2, i1, i2] → s.heap.get? c = some o → h''.get? c = some o := fun c o nc e => by
      simp only [List.mem_cons, List.not_mem_nil, or_false, not_or] at nc
      exact (same.2 c nc.1).trans (kp c o nc.1 nc.2.2.1 nc.2.2.2.1 nc.2.2.2.2 e)
    have J : L2.Inv X pins σ (upd H s.heap.objs.size (.tup [y1, z1])) { s with heap := h'', toks := tk } := I.turnedNew (t' := tk) (ch := [z, T1, T2, i1, i2]) (fun c o nc e => out c o nc e) off (Nat.le_refl _) ob
    have st' : turnM_ (k := k) (l := l) z T1 T2 i1 i2 a b (i + 1) h'' := by
      refine ⟨z'', (same.2 _ S.TIz).trans (kp _ _ S.TIz S.TITO S.TIi1 S.TIi2 h1), ⟨x1, x2, (same.2 _ S.TOz).trans t2'⟩, s1.1.over fun o e => (same.2 _ n1z).trans e, s2.1.over fun o e => (same.2 _ n2z).trans e⟩
    refine ⟨.ref s.heap.objs.size, _, J, rfl, ⟨_, y1, z1, rfl, I.hok.fresh (Nat.le_refl _), rfl, fun us q => by rw [seqB_inj I q sq1]; exact g1, fun us q => by rw [seqB_inj I q sq2]; exact g2⟩, st', fun c hc => ?_⟩
    have cl : c < s.heap.objs.size := by
      simp only [List.mem_cons, List.not_mem_nil, or_false] at hc
      rcases hc with rfl | rfl | rfl | rfl | rfl
      · exact zl
      · exact Heap.lt_size h1
      · exact Heap.lt_size h2
      · obtain ⟨o, e, _⟩ := q1.live; exact Heap.lt_size e
      · obtain ⟨o, e, _⟩ := q2.live; exact Heap.lt_size e
    rw [upd_ne (Nat.ne_of_lt cl)]
    exact (off c hc).1
  done := by
    rintro X rfl rfl rfl calm i pins s σ H E I off ⟨hz, h1, ⟨x, y, h2⟩, q1, q2⟩ ⟨ys, zs, sq1, sq2, m1, m2, fin⟩
    obtain ⟨its, rv, p, _⟩ := seqB I sq1
    obtain ⟨jts, rw', p', _⟩ := seqB I sq2
    have hh : X.A.in1.handled = none := I.ok.hd calm
    have e1 := rv.length
    have e2 := rw'.length
    refine wpAny_pyNext_zipD2_end S (drawsB hh k i1 a ne1 its.toArray) (drawsB hh l i2 b ne2 jts.toArray) hz h1 h2 ⟨q1, p⟩ ⟨q2, p'⟩ (by simp only [List.size_toArray]; omega) (by simp only [List.size_toArray]; omega) (by simp only [List.size_toArray]; omega) fun h' tk kp => ⟨rfl, ?_⟩
    exact I.turnedL (t' := tk) (ch := [z, T1, T2, i1, i2]) (fun c o nc e => by
      simp only [List.mem_cons, List.not_mem_nil, or_false, not_or] at nc
      exact kp c o nc.1 nc.2.2.1 nc.2.2.2.1 nc.2.2.2.2 e) off
  self := fun A i s Q E st q => wpAny_pyIter_zip st.1 q

section
variable {K : PySem.W.Frag} {C : Nat → Addr} {ρ : List Addr} {H : Hp}
theorem wk_zipM {k l : Bool} {a b : Addr} {s t : Src} (w : SeqW K C ρ H s fun H' ys => SqB K k H' a ys) (w2 : SeqW K C ρ H t fun H' ys => SqB K l H' b ys) : Wk K C ρ H ⟨zipL s.items t.items, s.watch ++ t.watch⟩ (ItzM K k l a b) := by
  intro ρ' h' H' i sr e st
  obtain ⟨st1, st2⟩ := still_app st
  obtain ⟨ys, hq, rr⟩ := w ρ' h' H' sr e st1
  obtain ⟨zs, hq2, rr2⟩ := w2 ρ' h' H' sr e st2
  refine ⟨fun hl => ⟨ys, zs, hq, hq2, ?_⟩, fun v hv => ?_⟩
  · have hl : i = min s.items.length t.items.length := by simpa [zipL] using hl
    rw [← rr.length, ← rr2.length]; omega
  obtain ⟨u1, u2, h1, h2, rfl⟩ := zip_get hv
  obtain ⟨y, hy, ry⟩ := rr.get h1
  obtain ⟨z, hz, rz⟩ := rr2.get h2
  refine ⟨⟨ys, zs, y, z, hq, hq2, hy, hz⟩, fun x H2 ⟨T, p, q, e1, hT, e2, hp, hq'⟩ => ?_⟩
  subst e1; subst e2
  have e3 := hp ys hq
  rw [hy] at e3; cases e3
  have e4 := hq' zs hq2
  rw [hz] at e4; cases e4
  have ex : Ext H' (upd H' T (.tup [y, z])) := Ext.laid hT
  exact ⟨sr.tup hT, ex, Fr.laid hT (by simp), .tup upd_same (.cons (ry.ext ex) (.cons (rz.ext ex) .nil))⟩
/-- a list or a tuple, by its value -/
theorem seqB_of {h : AH} {v : AV} {x : V} {s : Src} (sr : SR K C ρ h H) (r : RV K ρ H v x) (e : srcOf v h = some s) (nt : isRef v = true) : ∃ l k ys, x = .ref l ∧ SqB K k H l ys ∧ SeqW K C ρ H s fun H' ys => SqB K k H' l ys := by
  obtain ⟨l, ys, e1, q⟩ := seq_of sr r e nt
  rcases q with ⟨_, a, b⟩ | ⟨_, a, b⟩
  · exact ⟨l, true, ys, e1, a, b⟩
  · exact ⟨l, false, ys, e1, a, b⟩
end
section
variable {X : Cx} {C : Nat → Addr} {W : WX} {a b : Expr} {fa fb : Sl → AH → Res AV} {pos p pt : Pos} {es : List Expr} {n : Nat}
/-- zip, by the two values -/
theorem zip_at {pins : List (Addr × Obj)} {σ : L2.St} {H : Hp} {s : Shared} {R : L2.It → Hp → Prop} {k l : Bool} {q r : Addr} {ys zs : List V} (I : L2.Inv X pins σ H s) (h1 : SqB X.K k H q ys) (h2 : SqB X.K l H r zs) (fin : R (ItzM X.K k l q r) H) :
    wpAny (model X.prog X.w) X.A (call (.type "zip") [.ref q, .ref r]) (fun v s1 => wpAny (model X.prog X.w) X.A (pyIter v) (PIE X pins σ (.Tuple es n pt) R) X.xe s1) X.xe s := by
  obtain ⟨its, rv, p1, l1⟩ := seqB I h1
  obtain ⟨jts, rw', p2, l2⟩ := seqB I h2
  refine zip_begins2 (beginsB k q its.toArray) (beginsB l r jts.toArray) p1 p2 fun h' hz t1 t2 g1 g2 sz kp => wpAny_pyIter_zip hz ?_
  have J : L2.Inv X pins σ H { s with heap := h' } := I.kept (t' := s.toks) kp
  have S := zip_sep2 (N := s.heap.objs.size) (fp1 := [q]) (fp2 := [r]) (by simpa using l1) (by simpa using l2)
  refine ⟨s.heap.objs.size + 4, [s.heap.objs.size + 4, s.heap.objs.size + 2, s.heap.objs.size + 3, s.heap.objs.size, s.heap.objs.size + 1], _, _, H, rfl, J, turn_zipM S (Nat.ne_of_lt l1) (Nat.ne_of_lt (Nat.lt_succ_of_lt l2)) (by simp) (by simp), ⟨hz, t1, ⟨_, _, t2⟩, newB_at g1, newB_at g2⟩, fun c hc => ?_, fin⟩
  have le : s.heap.objs.size ≤ c := by
    simp only [List.mem_cons, List.not_mem_nil, or_false] at hc
    rcases hc with rfl | rfl | rfl | rfl | rfl <;> first | exact Nat.le_refl _ | exact Nat.le_add_right _ _
  exact I.fpOk le (I.hok.fresh le)
theorem ei_zip (hg : Gl X "zip") (hm : X.mg "zip" = none) (ha : PEv X C W a fa) (hb : PEv X C W b fb) (hs : starEach [a, b] X.env = (false, eval a X.env) :: starEach [b] X.env) (hs2 : starEach [b] X.env = (false, eval b X.env) :: starEach [] X.env) :
    PIv X C W (.Tuple es n pt) (.Call (.Name "zip" p) [a, b] [] pos) (fun σ h => (fa σ h).bind fun v h1 => (fb σ h1).bind fun w h2 => if isRef v && isRef w then (match srcOf v h2, srcOf w h2 with
    | some s, some t => .ok ⟨zipL s.items t.items, s.watch ++ t.watch⟩ h2
    | _, _ => .no) else .no) := by
  refine ⟨fun pins s σ H R I q => ?_⟩
  refine Call_ (ld_blt I hg hm boot_zip (PyProof.Rows.callWith_type1 (L2.thn ((pa_cons ha (pa_cons hb pa_nil hs2) hs).run pos pins s σ H (fun xs H1 => ∃ (k l : Bool) (x y : Addr) (ys zs : List V), xs = [.ref x, .ref y] ∧ SqB X.K k H1 x ys ∧ SqB X.K l H1 y zs ∧ R (ItzM X.K k l x y) H1) I ?_) fun us s1 ⟨xs, H1, I1, r1, q1⟩ => ?_) hs (by rw [hs2]; rfl)))
  · refine At.thn (R := RV X.K) q fun ρ as h v y H1 rs sr rr p => ?_
    refine At.thn2 (R := RV X.K) (R2 := RV X.K) (f := fb) (k := fun v w h2 => if isRef v && isRef w then (match srcOf v h2, srcOf w h2 with
      | some s, some t => Res.ok (Src.mk (zipL s.items t.items) (s.watch ++ t.watch)) h2
      | _, _ => .no) else .no) rs sr rr p fun ρ1 h1 w z H2 rs1 sr1 r1 r2 p1 => ?_
    split at p1
    · next hc =>
      rw [Bool.and_eq_true] at hc
      split at p1
      · next src tgt e1 e2 =>
        obtain ⟨x1, k1, ys, rfl, a1, b1⟩ := seqB_of sr1 r1 e1 hc.1
        obtain ⟨x2, k2, zs, rfl, a2, b2⟩ := seqB_of sr1 r2 e2 hc.2
        exact ⟨k1, k2, x1, x2, ys, zs, rfl, a1, a2, p1.ok sr1 (wk_zipM b1 b2)⟩
      · exact p1.elim
    · exact p1.elim
  · obtain ⟨k, l, x, y, ys, zs, rfl, a1, a2, fin⟩ := q1
    obtain ⟨u1, u2, rfl, e1, e2⟩ := vals2 r1
    obtain rfl : u1 = Value.ref x := e1
    obtain rfl : u2 = Value.ref y := e2
    exact zip_at I1 a1 a2 fin
theorem new_enumB (k : Bool) (a : Addr) (its : Array Value) :
    Meets (Builtin.«enumerate.__new__» ⟨[.type "enumerate", .ref a], []⟩) (fun _ R s => IsB k s.heap a its ∧
      R (.ok (.ret (.ref (s.heap.push (newB k a)).objs.size))) { s with heap := (s.heap.push (newB k a)).push { cls := .type "enumerate", data := .fields #[.none, .bool false, .ref s.heap.objs.size, rawInt 0, .none, .none] } }) :=
  .of_wp fun prog w A R s h => by
    obtain ⟨hp, g, d, tk, os⟩ := s; obtain ⟨h1, h⟩ := h
    have hsub := sub_enumerate
    have q1 : ∀ {A' : Around} {E : Value → Shared → Prop} {Q : Value → Shared → Prop}, Q (.ref hp.objs.size) ⟨hp.push (newB k a), g, d, tk, os⟩ → wpAny (model prog w) A' (pyIter (.ref a)) Q E ⟨hp, g, d, tk, os⟩ :=
      fun q => (beginsB k a its).iter prog w _ _ ⟨hp, g, d, tk, os⟩ _ h1 q
    wp_walk using q1
    refine wpAny_stack_any fun st => wpAny_pure ?_
    split
    · rename_i c _ _ _ _ _
      cases (c == Value.type "enumerate")
      · wp_walk using q1
        exact ⟨_, rfl, h⟩
      · wp_walk using q1
        exact ⟨_, rfl, h⟩
    · wp_walk using q1
      exact ⟨_, rfl, h⟩
/-- each with its number -/
def IteM (K : PySem.W.Frag) (k : Bool) (a : Addr) : L2.It where
  go i H := ∃ ys y, SqB K k H a ys ∧ ys[i]? = some y
  yld i H v H' := ∃ T y, v = V.ref T ∧ H T = none ∧ H' = upd H T (.tup [.int (i : Nat), y]) ∧ ∀ ys, SqB K k H a ys → ys[i]? = some y
  stop i H := ∃ ys, SqB K k H a ys ∧ ys.length = i
def turnE_ {k : Bool} (e it a : Addr) (i : Nat) (h : Heap) : Prop := (∃ old, IsEnum h e it ((i : Nat) : Int) old) ∧ ItB k h it a i
theorem turn_enumM {P : Program} {wd : World} {K : PySem.W.Frag} {es : List Expr} {n : Nat} {pt : Pos} {k : Bool} {a e it : Addr} (ne : a ≠ it) (n1 : e ≠ it) (n2 : e ≠ a) : Turn P wd K (.Tuple es n pt) (IteM K k a) [e, it] e (turnE_ (k := k) e it a) where
  mem := List.mem_cons_self
  obj := by
    rintro i h ⟨⟨old, h1⟩, q1⟩ c hc
    simp only [List.mem_cons, List.not_mem_nil, or_false] at hc
    rcases hc with rfl | rfl
    · exact ⟨_, h1, fun v q => by cases q⟩
    · exact q1.live
  keep := by
    rintro i h h' ⟨⟨old, h1⟩, q1⟩ f
    exact ⟨⟨old, f _ (by simp) _ h1⟩, q1.over fun o e => f _ (by simp) o e⟩
  item := by
    rintro X rfl rfl rfl calm i pins s σ H E I off ⟨⟨old, h1⟩, q1⟩ ⟨ys, y1, sq1, g1⟩
    obtain ⟨its, rv, p, _⟩ := seqB I sq1
    obtain ⟨u, hu, ru⟩ := rv.get g1
    have l1 : i < its.toArray.size := by have := (List.getElem?_eq_some_iff.mp hu).1; simpa using this
    have hh : X.A.in1.handled = none := I.ok.hd calm
    refine wpAny_pyNext_enum_itemD (drawsB hh k it a ne its.toArray) h1 ⟨q1, p⟩ l1 n1 (by simp [n1, n2]) fun x1 h' tk e1 out s1 nt sz kp => ⟨_, rfl, ?_⟩
    obtain rfl : x1 = u := by have e1' : its[i]? = some x1 := by simpa using e1
                              rw [hu] at e1'; exact (Option.some.inj e1').symm
    have zl : e < s.heap.objs.size := Heap.lt_size h1
    refine wpAny_letOwnedTupleGo_enum (s := { s with heap := h', toks := tk + 1 }) out fun h'' e'' same => ?_
    have here : h''.get? s.heap.objs.size = some { cls := .type "tuple", data := .seq #[.int i tk, x1] } := (same.2 _ (Nat.ne_of_gt zl)).trans nt
    have ob : ObjOk X.prog X.w (upd H s.heap.objs.size (.tup [.int (i : Nat), y1])) h'' s.heap.objs.size (.tup [.int (i : Nat), y1]) := ⟨(by decide : 2 ≤ sizeLine), [.int i tk, x1], .cons ⟨_, rfl⟩ (.cons ru .nil), _, here, rfl, _, rfl⟩
    have outs : ∀ c o, c ∉ [e, it] → s.heap.get? c = some o → h''.get? c = some o := fun c o nc q => by
      simp only [List.mem_cons, List.not_mem_nil, or_false, not_or] at nc
      exact (same.2 c nc.1).trans (kp c o nc.1 nc.2 q)
    have J : L2.Inv X pins σ (upd H s.heap.objs.size (.tup [.int (i : Nat), y1])) { s with heap := h'', toks := tk + 1 } := I.turnedNew (t' := tk + 1) (ch := [e, it]) (fun c o nc q => outs c o nc q) off (Nat.le_refl _) ob
    have cast_ : ((i + 1 : Nat) : Int) = (i : Int) + 1 := by omega
    refine ⟨.ref s.heap.objs.size, _, J, rfl, ⟨_, y1, rfl, I.hok.fresh (Nat.le_refl _), rfl, fun us q => by rw [seqB_inj I q sq1]; exact g1⟩, ⟨⟨x1, by rw [cast_]; exact e''⟩, s1.1.over fun o q => (same.2 _ (Ne.symm n1)).trans q⟩, fun c hc => ?_⟩
    have cl : c < s.heap.objs.size := by
      simp only [List.mem_cons, List.not_mem_nil, or_false] at hc
      rcases hc with rfl | rfl
      · exact zl
      · obtain ⟨o, e, _⟩ := q1.live; exact Heap.lt_size e
    rw [upd_ne (Nat.ne_of_lt cl)]
    exact (off c hc).1
  done := by
    rintro X rfl rfl rfl calm i pins s σ H E I off ⟨⟨old, h1⟩, q1⟩ ⟨ys, sq1, fin⟩
    obtain ⟨its, rv, p, _⟩ := seqB I sq1
    have hh : X.A.in1.handled = none := I.ok.hd calm
    have e1 := rv.length
    obtain rfl : i = its.toArray.size := by simp only [List.size_toArray]; omega
    refine wpAny_pyNext_enum_endD (drawsB hh k it a ne its.toArray) h1 ⟨q1, p⟩ fun h' kp => ⟨rfl, ?_⟩
    exact I.turnedL (t' := s.toks) (ch := [e, it]) (fun c o nc q => by
      simp only [List.mem_cons, List.not_mem_nil, or_false, not_or] at nc
      exact kp c o nc.2 q) off
  self := fun A i s Q E st q => let ⟨⟨_, h1⟩, _⟩ := st; wpAny_pyIter_enum h1 q
theorem wk_enumM {K : PySem.W.Frag} {C : Nat → Addr} {ρ : List Addr} {H : Hp} {k : Bool} {a : Addr} {s : Src} (w : SeqW K C ρ H s fun H' ys => SqB K k H' a ys) : Wk K C ρ H ⟨enumL s.items, s.watch⟩ (IteM K k a) := by
  intro ρ' h' H' i sr e st
  obtain ⟨ys, hq, rr⟩ := w ρ' h' H' sr e st
  refine ⟨fun hl => ⟨ys, hq, by rw [← rr.length]; have q : i = s.items.length := (by simpa [enumL] using hl); omega⟩, fun v hv => ?_⟩
  simp only [enumL, List.getElem?_map, Option.map_eq_some_iff] at hv
  obtain ⟨⟨u, j⟩, hp, rfl⟩ := hv
  obtain ⟨hlt, ep⟩ := List.getElem?_eq_some_iff.mp hp
  simp only [List.getElem_zipIdx, Prod.mk.injEq] at ep
  obtain ⟨eu, ej⟩ := ep
  have hu : s.items[i]? = some u := by rw [← eu]; simp
  have ej : j = i := by omega
  subst ej
  obtain ⟨y, hy, ry⟩ := rr.get hu
  refine ⟨⟨ys, y, hq, hy⟩, fun x H2 ⟨T, z, e1, hT, e2, hz⟩ => ?_⟩
  subst e1; subst e2
  have := hz ys hq
  rw [hy] at this; cases this
  have ex : Ext H' (upd H' T (.tup [.int (j : Nat), y])) := Ext.laid hT
  exact ⟨sr.tup hT, ex, Fr.laid hT (by simp), .tup upd_same (.cons (.int _) (.cons (ry.ext ex) .nil))⟩
theorem enum_at {pins : List (Addr × Obj)} {σ : L2.St} {H : Hp} {s : Shared} {R : L2.It → Hp → Prop} {k : Bool} {q : Addr} {ys : List V} (I : L2.Inv X pins σ H s) (h1 : SqB X.K k H q ys) (fin : R (IteM X.K k q) H) :
    wpAny (model X.prog X.w) X.A (call (.type "enumerate") [.ref q]) (fun v s1 => wpAny (model X.prog X.w) X.A (pyIter v) (PIE X pins σ (.Tuple es n pt) R) X.xe s1) X.xe s := by
  obtain ⟨its, rv, p1, l1⟩ := seqB I h1
  refine callType_new F.called_enumerate (by decide) (F.typeCall_enumerate_1 _) (F.newCall_enumerate_1 _) (fun obj => F.args_object_init_2 obj _) F.entry_enumerate_new (new_enumB k q its.toArray) ⟨p1, ?_⟩
  have z1 : (s.heap.push (newB k q)).objs.size = s.heap.objs.size + 1 := Heap.size_push ..
  have f1 : (newB k q).isFreed = false := by cases k <;> rfl
  generalize hh : (s.heap.push (newB k q)).push { cls := .type "enumerate", data := .fields #[.none, .bool false, .ref s.heap.objs.size, rawInt 0, .none, .none] } = h'
  have ge : h'.get? (s.heap.objs.size + 1) = some { cls := .type "enumerate", data := .fields #[.none, .bool false, .ref s.heap.objs.size, rawInt 0, .none, .none] } := by rw [← hh, ← z1]; exact Heap.get?_push_size _ rfl
  have gi : h'.get? s.heap.objs.size = some (newB k q) := by rw [← hh]; exact Heap.get?_push_of_some _ (Heap.get?_push_size _ f1)
  have kp : ∀ c o, s.heap.get? c = some o → h'.get? c = some o := fun c o e => by rw [← hh]; exact Heap.get?_push_of_some _ (Heap.get?_push_of_some _ e)
  show _ ∧ _
  rw [z1]
  have J : L2.Inv X pins σ H { s with heap := h' } := I.kept (t' := s.toks) kp
  refine ⟨⟨_, ge, rfl⟩, wpAny_pyIter_enum ge ?_⟩
  refine ⟨s.heap.objs.size + 1, [s.heap.objs.size + 1, s.heap.objs.size], _, _, H, rfl, J, turn_enumM (Nat.ne_of_lt l1) (Nat.succ_ne_self _) (Nat.ne_of_gt (Nat.lt_succ_of_lt l1)), ⟨⟨.none, ge⟩, newB_at gi⟩, fun c hc => ?_, fin⟩
  have le : s.heap.objs.size ≤ c := by
    simp only [List.mem_cons, List.not_mem_nil, or_false] at hc
    rcases hc with rfl | rfl <;> first | exact Nat.le_refl _ | exact Nat.le_add_right _ _
  exact I.fpOk le (I.hok.fresh le)
theorem ei_enum (hg : Gl X "enumerate") (hm : X.mg "enumerate" = none) (ha : PEv X C W a fa) (hs : starEach [a] X.env = (false, eval a X.env) :: starEach [] X.env) :
    PIv X C W (.Tuple es n pt) (.Call (.Name "enumerate" p) [a] [] pos) (fun σ h => (fa σ h).bind fun v h1 => if isRef v then (match srcOf v h1 with
    | some s => .ok ⟨enumL s.items, s.watch⟩ h1
    | none => .no) else .no) := by
  refine ⟨fun pins s σ H R I q => ?_⟩
  refine Call_ (ld_blt I hg hm boot_enumerate (PyProof.Rows.callWith_type1 (L2.thn ((pa_cons ha pa_nil hs).run pos pins s σ H (fun xs H1 => ∃ (k : Bool) (x : Addr) (ys : List V), xs = [.ref x] ∧ SqB X.K k H1 x ys ∧ R (IteM X.K k x) H1) I ?_) fun us s1 ⟨xs, H1, I1, r1, q1⟩ => ?_) hs rfl))
  · refine At.thn (R := RV X.K) q fun ρ as h v y H1 rs sr rr p => ?_
    split at p
    · next hc =>
      split at p
      · next src e1 =>
        obtain ⟨x1, k1, ys, rfl, a1, b1⟩ := seqB_of sr rr e1 hc
        exact ⟨k1, x1, ys, rfl, a1, p.ok sr (wk_enumM b1)⟩
      · exact p.elim
    · exact p.elim
  · obtain ⟨k, x, ys, rfl, a1, fin⟩ := q1
    obtain ⟨u1, rfl, e1⟩ := vals1 r1
    obtain rfl : u1 = Value.ref x := e1
    exact enum_at I1 a1 fin
end
end Ev

set_option Elab.async false
set_option linter.all false
set_option maxRecDepth 100000
set_option maxHeartbeats 8000000
/-! zip while its tuple is held. -/
namespace Ev
open PySem PySem.Spec PyProof.Rows L2
theorem wpAny_lia {M : Model} {A : Around} {E : Value → Shared → Prop} {s : Shared} {a : Addr} {Q : Option Obj → Shared → Prop} (q : Q (s.heap.get? a) s) : wpAny M A (Sem.loadIfAlive a Sem.pure) Q E s := by
  unfold wpAny
  intros
  rw [Sem.wp_loadIfAlive]
  exact q
/-- a zip, whatever became of the tuple that it gave out -/
def IsZipF (h : Heap) (z TI TO : Addr) (f0 f1 : Value) : Prop := h.get? z = some { cls := .type "zip", data := .fields #[f0, f1, .bool false, .ref TI, .ref TO] }
def Out0 (f0 : Value) : Prop := f0 = .none ∨ ∃ T : Nat, f0 = rawInt (T : Int)
theorem free_any {prog : Program} {w : World} {A : Around} {E : Value → Shared → Prop} {s : Shared} {z TI TO : Addr} {f0 f1 : Value} {Q : Bool → Shared → Prop}
    (hz : IsZipF s.heap z TI TO f0 f1) (o : Out0 f0) (qt : Q true s)
    (q : ∀ h' f1, IsZipF h' z TI TO f0 f1 → h'.objs.size = s.heap.objs.size → (∀ c o, c ≠ z → s.heap.get? c = some o → h'.get? c = some o) → Q false { s with heap := h' }) :
    wpAny (model prog w) A (Builtin.SmallTypes.ownedTupleIsFree (.ref z)) Q E s := by
  obtain ⟨hp, g, d, tk, os⟩ := s
  unfold IsZipF at hz
  rcases o with rfl | ⟨T, rfl⟩
  · unfold Builtin.SmallTypes.ownedTupleIsFree
    wp_walk
    exact qt
  unfold Builtin.SmallTypes.ownedTupleIsFree
  wp_walk
  refine wpAny_lia ?_
  rw [show (T : Int).toNat = T from rfl]
  cases hT : hp.get? T with
  | none =>
    simp only [hT, Option.isNone_none, if_true]
    wp_walk
    exact qt
  | some oT =>
    simp only [hT, Option.isNone_some, Bool.false_eq_true, if_false]
    wp_walk
    split
    · wp_walk
      refine q _ (.bool true) ?_ (Heap.size_update ..) (fun c o n e => (Heap.get?_update_ne _ _ _ _ n).trans e)
      exact Heap.get?_update_self _ hz rfl
    · next hn =>
      have : f1 = .bool true := by simpa using hn
      subst this
      wp_walk
      exact q hp (.bool true) hz rfl fun _ _ _ e => e
section
variable {prog : Program} {w : World} {A : Around} {E : Value → Shared → Prop} {s : Shared}
theorem field_at {z : Addr} {k : Nat} {o : Obj} {vs : Array Value} {v : Value} {Q : Value → Shared → Prop} (h : s.heap.get? z = some o) (hd : o.data = .fields vs) (hk : vs[k]? = some v) (q : Q v s) : wpAny (model prog w) A (field (.ref z) k) Q E s := by
  obtain ⟨c, d, dat, sl⟩ := o
  simp only at hd
  subst hd
  wp_walk
  rw [hk]
  exact wpAny_pure q
theorem seqItems_at {z : Addr} {a b : Value} {Q : Option (Array Value) → Shared → Prop} (h : IsTupOf2 s.heap z a b) (q : Q (some #[a, b]) s) : wpAny (model prog w) A (seqItems? (.ref z)) Q E s := by
  obtain ⟨hp, g, d, tk, os⟩ := s
  unfold IsTupOf2 at h
  wp_walk
  exact q
theorem setField_at {z : Addr} {k : Nat} {o : Obj} {vs : Array Value} {v : Value} {Q : Unit → Shared → Prop} (h : s.heap.get? z = some o) (hd : o.data = .fields vs) (hk : k < vs.size) (q : Q () { s with heap := s.heap.update z (Obj.mapFields fun x => x.setIfInBounds k v) }) : wpAny (model prog w) A (setField (.ref z) k v) Q E s := by
  obtain ⟨c, d, dat, sl⟩ := o
  simp only at hd
  subst hd
  obtain ⟨hp, g, d, tk, os⟩ := s
  wp_walk
  exact q
theorem updateSeq_at {z : Addr} {a b c d : Value} {f : Array Value → Array Value} {Q : Unit → Shared → Prop} (h : IsTupOf2 s.heap z a b) (hf : f #[a, b] = #[c, d]) (q : Q () { s with heap := s.heap.update z (Obj.mapSeq f) }) : wpAny (model prog w) A (updateSeq z f) Q E s := by
  obtain ⟨hp, g, dd, tk, os⟩ := s
  unfold IsTupOf2 at h
  wp_walk
  have e : (Obj.mapSeq f { cls := Value.type "tuple", data := Data.seq #[a, b] }).data.pastItsLine = none := by
    unfold Obj.mapSeq
    simp only [hf]
    rfl
  rw [e]
  exact wpAny_pure q
theorem tup_set {h : Heap} {z : Addr} {a b c d : Value} {f : Array Value → Array Value} (e : IsTupOf2 h z a b) (hf : f #[a, b] = #[c, d]) : IsTupOf2 (h.update z (Obj.mapSeq f)) z c d := by
  have := Heap.get?_update_self (a := z) (Obj.mapSeq f) e rfl
  unfold IsTupOf2
  rw [this]
  unfold Obj.mapSeq
  simp only [hf]
  rfl
theorem handOut_at {z a : Addr} {o : Obj} {f0 f1 f2 f3 f4 : Value} {Q : Unit → Shared → Prop} (h : s.heap.get? z = some o) (hc : o = { cls := .type "zip", data := .fields #[f0, f1, f2, f3, f4] }) (q : ∀ h', h'.get? z = some { cls := .type "zip", data := .fields #[rawInt (a : Int), .bool false, f2, f3, f4] } → h'.objs.size = s.heap.objs.size → (∀ c o, c ≠ z → s.heap.get? c = some o → h'.get? c = some o) → Q () { s with heap := h' }) : wpAny (model prog w) A (Builtin.SmallTypes.ownedTupleHandOut (.ref z) (.ref a)) Q E s := by
  subst hc
  unfold Builtin.SmallTypes.ownedTupleHandOut
  have u1 := Heap.get?_update_self (a := z) (Obj.mapFields fun x => x.setIfInBounds 0 (rawInt (a : Int))) h rfl
  refine wpAny_bind (setField_at h rfl (by simp) ?_)
  refine setField_at u1 rfl (by simp [Obj.mapFields]) ?_
  have u2 := Heap.get?_update_self (a := z) (Obj.mapFields fun x => x.setIfInBounds 1 (Value.bool false)) u1 rfl
  refine q _ u2 (by rw [Heap.size_update, Heap.size_update]) fun c o n e => (Heap.get?_update_ne _ _ _ _ n).trans ((Heap.get?_update_ne _ _ _ _ n).trans e)
theorem letGo_at {v : Value} {Q : Unit → Shared → Prop} (q : Q () s) : wpAny (model prog w) A (letGo [v]) Q E s := by
  obtain ⟨hp, g, d, tk, os⟩ := s
  wp_walk
  exact q
end
theorem draw_one {prog : Program} {w : World} {A : Around} {E : Value → Shared → Prop} {s : Shared} {it : Addr} {fp : List Addr} {n i : Nat} {P : Nat → Value → Prop} {St : Nat → Heap → Prop} {Q : Option Value → Shared → Prop} (D : Draws prog w A it fp n P St) (l : i < n) (st : St i s.heap)
   (q : ∀ x h' tk, P i x → St (i + 1) h' → Heap.SameBut it s.heap h' → Q (some x) { s with heap := h', toks := tk }) : wpAny (model prog w) A (do let v ← Builtin.SmallTypes.nextOf (.ref it); pure (some v)) Q E s :=
  wpAny_bind (D.item i s _ _ l st fun x h' tk p st' sb => wpAny_pure (q x h' tk p st' sb))
theorem zip_any2 {prog : Program} {w : World} {A : Around} {E : Value → Shared → Prop} {s : Shared} {z TI TO i1 i2 : Addr} {fp1 fp2 : List Addr} {n1 n2 i : Nat} {P1 P2 : Nat → Value → Prop} {St1 St2 : Nat → Heap → Prop} {f0 f1 a1 a2 : Value} {Q : Value → Shared → Prop}
    (S : ZipSep2 z TI TO i1 i2 fp1 fp2) (D1 : Draws prog w A i1 fp1 n1 P1 St1) (D2 : Draws prog w A i2 fp2 n2 P2 St2)
    (hz : IsZipF s.heap z TI TO f0 f1) (o : Out0 f0) (h1 : IsTupOf2 s.heap TI (.ref i1) (.ref i2)) (h2 : IsTupOf2 s.heap TO a1 a2) (st1 : St1 i s.heap) (st2 : St2 i s.heap) (l1 : i < n1) (l2 : i < n2)
    (q : ∀ (x1 x2 : Value) (h' : Heap) (tk : Nat), P1 i x1 → P2 i x2 → (∃ f0 f1, IsZipF h' z TI TO f0 f1 ∧ Out0 f0) → (∃ a1 a2, IsTupOf2 h' TO a1 a2) → St1 (i + 1) h' → St2 (i + 1) h' → IsTupOf2 h' s.heap.objs.size x1 x2 → h'.objs.size = s.heap.objs.size + 1 →
      (∀ c o, c ≠ z → c ≠ TO → c ≠ i1 → c ≠ i2 → s.heap.get? c = some o → h'.get? c = some o) → Q (.ref s.heap.objs.size) { s with heap := h', toks := tk }) :
    wpAny (model prog w) A (Builtin.«zip.__next__» { pos := [.ref z] }) (fun fin s' => ∃ v, fin = .done (.ret v) ∧ Q v s') E s := by
  obtain ⟨hp, g, d, tk, os⟩ := s
  have fr : ∀ {E : Value → Shared → Prop} {Q : Bool → Shared → Prop}, (Q true ⟨hp, g, d, tk, os⟩ ∧ ∀ h' f1, IsZipF h' z TI TO f0 f1 → h'.objs.size = hp.objs.size → (∀ c o, c ≠ z → hp.get? c = some o → h'.get? c = some o) → Q false ⟨h', g, d, tk, os⟩) → wpAny (model prog w) A (Builtin.SmallTypes.ownedTupleIsFree (.ref z)) Q E ⟨hp, g, d, tk, os⟩ := fun q => free_any (s := ⟨hp, g, d, tk, os⟩) hz o q.1 q.2
  have dr1 : ∀ {h : Heap} {tk : Nat} {E : Value → Shared → Prop} {Q : Value → Shared → Prop}, (St1 i h ∧ ∀ x h' tk', P1 i x → St1 (i + 1) h' → Heap.SameBut i1 h h' → Q x ⟨h', g, d, tk', os⟩) → wpAny (model prog w) A (Builtin.SmallTypes.nextOf (.ref i1)) Q E ⟨h, g, d, tk, os⟩ := fun {h tk E Q} q => D1.item i ⟨h, g, d, tk, os⟩ Q E l1 q.1 fun x h' tk' p st sb => q.2 x h' tk' p st sb
  have dr2 : ∀ {h : Heap} {tk : Nat} {E : Value → Shared → Prop} {Q : Value → Shared → Prop}, (St2 i h ∧ ∀ x h' tk', P2 i x → St2 (i + 1) h' → Heap.SameBut i2 h h' → Q x ⟨h', g, d, tk', os⟩) → wpAny (model prog w) A (Builtin.SmallTypes.nextOf (.ref i2)) Q E ⟨h, g, d, tk, os⟩ := fun {h tk E Q} q => D2.item i ⟨h, g, d, tk, os⟩ Q E l2 q.1 fun x h' tk' p st sb => q.2 x h' tk' p st sb
  unfold IsZipF at hz
  unfold Builtin.«zip.__next__»
  wp_walk using fr
  refine ⟨?_, fun h' f1' hz' sz kp => ?_⟩
  · rw [if_pos rfl]
    simp only [List.zipIdx_cons, List.zipIdx_nil, List.forIn_cons, List.forIn_nil]
    wp_step
    wp_step
    refine wpAny_bind (field_at hz rfl rfl ?_)
    refine wpAny_bind (setField_at hz rfl (by simp) ?_)
    have nz1 : z ≠ i1 := fun e => S.zf1 (e ▸ S.mem1)
    have nz2 : z ≠ i2 := fun e => S.zf2 (e ▸ S.mem2)
    have nT1 : TO ≠ i1 := fun e => S.Tf1 (e ▸ S.mem1)
    have nT2 : TO ≠ i2 := fun e => S.Tf2 (e ▸ S.mem2)
    have u0 := Heap.get?_update_self (a := z) (Obj.mapFields fun x => x.setIfInBounds 0 Value.ellipsis) hz rfl
    have k0 : ∀ c o, c ≠ z → hp.get? c = some o → (hp.update z (Obj.mapFields fun x => x.setIfInBounds 0 Value.ellipsis)).get? c = some o := fun c o n e => (Heap.get?_update_ne _ _ _ _ n).trans e
    have sz0 : (hp.update z (Obj.mapFields fun x => x.setIfInBounds 0 Value.ellipsis)).objs.size = hp.objs.size := Heap.size_update ..
    dsimp only at u0 ⊢
    generalize (hp.update z (Obj.mapFields fun x => x.setIfInBounds 0 Value.ellipsis)) = h' at u0 k0 sz0 ⊢
    refine wpAny_bind (wpAny_bind (wpAny_bind (wpAny_onRaise ?_)))
    refine draw_one D1 l1 (D1.frame i hp h' st1 fun b hb o e => k0 b o (fun q => S.zf1 (q ▸ hb)) e) fun x1 hA tkA p1 sA bA => ?_
    dsimp only
    have sA2 : St2 i hA := D2.frame i hp hA st2 fun b hb o e => (bA.2 b (fun q => S.sep1_2 (q ▸ hb))).trans (k0 b o (fun q => S.zf2 (q ▸ hb)) e)
    have hTO : IsTupOf2 hA TO a1 a2 := (bA.2 TO nT1).trans (k0 TO _ S.TOz h2)
    refine wpAny_bind (seqItems_at hTO ?_)
    dsimp only
    refine wpAny_bind (updateSeq_at (c := x1) (d := a2) hTO (by simp) ?_)
    have tA := tup_set (f := fun x => x.setIfInBounds 0 x1) (c := x1) (d := a2) hTO (by simp)
    have kA : ∀ c, c ≠ TO → (hA.update TO (Obj.mapSeq fun x => x.setIfInBounds 0 x1)).get? c = hA.get? c := fun c n => Heap.get?_update_ne _ _ _ _ n
    have szA : (hA.update TO (Obj.mapSeq fun x => x.setIfInBounds 0 x1)).objs.size = hp.objs.size := (Heap.size_update ..).trans (bA.1.trans sz0)
    dsimp only at tA ⊢
    generalize (hA.update TO (Obj.mapSeq fun x => x.setIfInBounds 0 x1)) = hA' at tA kA szA ⊢
    refine wpAny_bind (letGo_at ?_)
    refine wpAny_pure ?_
    dsimp only
    refine wpAny_bind (wpAny_bind (wpAny_onRaise ?_))
    have sA1 : St1 (i + 1) hA' := D1.frame (i + 1) hA hA' sA fun b hb o e => (kA b (fun q => S.Tf1 (q ▸ hb))).trans e
    have sA2' : St2 i hA' := D2.frame i hA hA' sA2 fun b hb o e => (kA b (fun q => S.Tf2 (q ▸ hb))).trans e
    refine draw_one D2 l2 sA2' fun x2 hB tkB p2 sB bB => ?_
    dsimp only
    have hTO2 : IsTupOf2 hB TO x1 a2 := (bB.2 TO nT2).trans tA
    refine wpAny_bind (seqItems_at hTO2 ?_)
    dsimp only
    refine wpAny_bind (updateSeq_at (c := x1) (d := x2) hTO2 (by simp) ?_)
    have tB := tup_set (f := fun x => x.setIfInBounds 1 x2) (c := x1) (d := x2) hTO2 (by simp)
    have kB : ∀ c, c ≠ TO → (hB.update TO (Obj.mapSeq fun x => x.setIfInBounds 1 x2)).get? c = hB.get? c := fun c n => Heap.get?_update_ne _ _ _ _ n
    have szB : (hB.update TO (Obj.mapSeq fun x => x.setIfInBounds 1 x2)).objs.size = hp.objs.size := (Heap.size_update ..).trans (bB.1.trans szA)
    dsimp only at tB ⊢
    generalize (hB.update TO (Obj.mapSeq fun x => x.setIfInBounds 1 x2)) = hB' at tB kB szB ⊢
    refine wpAny_bind (letGo_at ?_)
    refine wpAny_pure ?_
    dsimp only
    refine wpAny_pure ?_
    dsimp only
    refine wpAny_bind (seqItems_at tB ?_)
    dsimp only
    refine wpAny_bind (wpAny_newTuple (hsz := (by decide : 2 ≤ sizeLine)) ?_)
    have hz3 : hB'.get? z = some { cls := .type "zip", data := .fields #[Value.ellipsis, f1, .bool false, .ref TI, .ref TO] } := (kB z (Ne.symm S.TOz)).trans ((bB.2 z nz2).trans ((kA z (Ne.symm S.TOz)).trans ((bA.2 z nz1).trans u0)))
    have keep : ∀ c o, c ≠ z → c ≠ TO → c ≠ i1 → c ≠ i2 → hp.get? c = some o → hB'.get? c = some o := fun c o n1 n2 n3 n4 e => (kB c n2).trans ((bB.2 c n4).trans ((kA c n2).trans ((bA.2 c n3).trans (k0 c o n1 e))))
    refine wpAny_bind (handOut_at (Heap.get?_push_of_some _ hz3) rfl fun h'' g0 g1 g2 => ?_)
    refine wpAny_pure ⟨_, rfl, ?_⟩
    have zl : z < hp.objs.size := Heap.lt_size hz
    have nz : hp.objs.size ≠ z := Nat.ne_of_gt zl
    have fin := q x1 x2 h'' tkB p1 p2 ⟨_, _, g0, .inr ⟨_, rfl⟩⟩ ⟨x1, x2, g2 TO _ S.TOz (Heap.get?_push_of_some _ tB)⟩
      (D1.frame (i + 1) hA' _ sA1 fun b hb o e => g2 b o (fun q => S.zf1 (q ▸ hb)) (Heap.get?_push_of_some _ ((kB b (fun q => S.Tf1 (q ▸ hb))).trans ((bB.2 b (fun q => S.sep2_1 (q ▸ hb))).trans e))))
      (D2.frame (i + 1) hB _ sB fun b hb o e => g2 b o (fun q => S.zf2 (q ▸ hb)) (Heap.get?_push_of_some _ ((kB b (fun q => S.Tf2 (q ▸ hb))).trans e)))
      (g2 _ _ nz (by show (hB'.push _).get? hp.objs.size = _; rw [← szB]; exact Heap.get?_push_size _ rfl))
      (by show h''.objs.size = _; rw [g1]; show (hB'.push _).objs.size = _; rw [Heap.size_push, szB]) (fun c o n1 n2 n3 n4 e => g2 c o n1 (Heap.get?_push_of_some _ (keep c o n1 n2 n3 n4 e)))
    show Q (.ref hB'.objs.size) _
    rw [szB]
    exact fin
  · rw [if_neg (by decide)]
    dsimp only
    rw [← Array.forIn_toList]
    simp only [List.forIn_cons, List.forIn_nil]
    have nz1 : z ≠ i1 := fun e => S.zf1 (e ▸ S.mem1)
    have nz2 : z ≠ i2 := fun e => S.zf2 (e ▸ S.mem2)
    have nT1 : TO ≠ i1 := fun e => S.Tf1 (e ▸ S.mem1)
    have nT2 : TO ≠ i2 := fun e => S.Tf2 (e ▸ S.mem2)
    refine wpAny_bind (wpAny_bind (wpAny_bind (wpAny_holding ?_)))
    refine draw_one D1 l1 (D1.frame i hp h' st1 fun b hb o e => kp b o (fun q => S.zf1 (q ▸ hb)) e) fun x1 hA tkA p1 sA bA => ?_
    refine wpAny_pure ?_
    dsimp only
    refine wpAny_bind (wpAny_bind (wpAny_holding ?_))
    have sA2 : St2 i hA := D2.frame i hp hA st2 fun b hb o e => (bA.2 b (fun q => S.sep1_2 (q ▸ hb))).trans (kp b o (fun q => S.zf2 (q ▸ hb)) e)
    refine draw_one D2 l2 sA2 fun x2 hB tkB p2 sB bB => ?_
    refine wpAny_pure ?_
    dsimp only
    refine wpAny_pure ?_
    dsimp only
    have sB1 : St1 (i + 1) hB := D1.frame (i + 1) hA hB sA fun b hb o e => (bB.2 b (fun q => S.sep2_1 (q ▸ hb))).trans e
    have szB : hB.objs.size = hp.objs.size := bB.1.trans (bA.1.trans sz)
    have kB : ∀ c o, c ≠ z → c ≠ i1 → c ≠ i2 → hp.get? c = some o → hB.get? c = some o := fun c o n1 n2 n3 e => (bB.2 c n3).trans ((bA.2 c n2).trans (kp c o n1 e))
    refine wpAny_bind (wpAny_newTuple (hsz := (by decide : 2 ≤ sizeLine)) ?_)
    refine wpAny_pure ⟨_, rfl, ?_⟩
    have fin := q x1 x2 (hB.push { cls := .type "tuple", data := .seq #[x1, x2] }) tkB p1 p2 ⟨f0, f1', Heap.get?_push_of_some _ ((bB.2 z nz2).trans ((bA.2 z nz1).trans hz')), o⟩
      ⟨a1, a2, Heap.get?_push_of_some _ (kB TO _ S.TOz nT1 nT2 h2)⟩
      (D1.frame (i + 1) hB _ sB1 fun b _ o e => Heap.get?_push_of_some _ e) (D2.frame (i + 1) hB _ sB fun b _ o e => Heap.get?_push_of_some _ e)
      (by show (hB.push _).get? hp.objs.size = _; rw [← szB]; exact Heap.get?_push_size _ rfl) (by rw [Heap.size_push, szB]) (fun c o n1 _ n3 n4 e => Heap.get?_push_of_some _ (kB c o n1 n3 n4 e))
    show Q (.ref hB.objs.size) _
    rw [szB]
    exact fin
end Ev

set_option Elab.async false
set_option linter.all false
set_option maxRecDepth 100000
set_option maxHeartbeats 8000000
namespace Ev
open PySem PySem.Spec PyProof.Rows L2
theorem nextOf_zip {prog : Program} {w : World} {A : Around} {E : Value → Shared → Prop} {s : Shared} {z TI TO : Addr} {f0 f1 : Value} {Q : Value → Shared → Prop} (hz : IsZipF s.heap z TI TO f0 f1)
    (q : wpAny (model prog w) A.in1 (Builtin.«zip.__next__» { pos := [.ref z] }) (fun fin s' => ∃ v, fin = .done (.ret v) ∧ Q v s') E s) : wpAny (model prog w) A (Builtin.SmallTypes.nextOf (.ref z)) Q E s := by
  obtain ⟨hp, g, d, tk, os⟩ := s
  unfold IsZipF at hz
  unfold Builtin.SmallTypes.nextOf
  have ty : Shared.TypeIs ⟨hp, g, d, tk, os⟩ (.ref z) "zip" := ⟨_, hz, rfl⟩
  refine wpAny_bind (wpAny_callSpecial?_slot ty F.slot_zip_next (wpAny_call (codeAny_call_builtin F.slot_zip_next.plain F.entry_zip_next ?_)))
  refine F.slot_zip_next.check _ _ _ _ _ [] [] _ ty (F.args_zip_next_1 _) ?_
  refine wpAny_mono q (fun fin s' ⟨v, e, qv⟩ => ?_) fun e s' z => z
  subst e
  exact wpAny_pure qv
theorem zip_any2_end {prog : Program} {w : World} {A : Around} {E : Value → Shared → Prop} {s : Shared} {z TI TO i1 i2 : Addr} {fp1 fp2 : List Addr} {n1 : Nat} {P1 : Nat → Value → Prop} {St1 : Nat → Heap → Prop} {f0 f1 a1 a2 : Value} {Q : PySem.Fin → Shared → Prop}
    (S : ZipSep2 z TI TO i1 i2 fp1 fp2) (D1 : Draws prog w A i1 fp1 n1 P1 St1)
    (hz : IsZipF s.heap z TI TO f0 f1) (o : Out0 f0) (h1 : IsTupOf2 s.heap TI (.ref i1) (.ref i2)) (h2 : IsTupOf2 s.heap TO a1 a2) (st1 : St1 n1 s.heap)
    (q : ∀ (h' : Heap) (tk : Nat) (e : Addr), (∀ c o, c ≠ z → c ≠ TO → c ≠ i1 → c ≠ i2 → s.heap.get? c = some o → h'.get? c = some o) → (∃ o, h'.get? e = some o ∧ o.cls = .type "StopIteration") → E (.ref e) { s with heap := h', toks := tk }) :
    wpAny (model prog w) A (Builtin.«zip.__next__» { pos := [.ref z] }) Q E s := by
  obtain ⟨hp, g, d, tk, os⟩ := s
  have fr : ∀ {E : Value → Shared → Prop} {Q : Bool → Shared → Prop}, (Q true ⟨hp, g, d, tk, os⟩ ∧ ∀ h' f1, IsZipF h' z TI TO f0 f1 → h'.objs.size = hp.objs.size → (∀ c o, c ≠ z → hp.get? c = some o → h'.get? c = some o) → Q false ⟨h', g, d, tk, os⟩) → wpAny (model prog w) A (Builtin.SmallTypes.ownedTupleIsFree (.ref z)) Q E ⟨hp, g, d, tk, os⟩ := fun q => free_any (s := ⟨hp, g, d, tk, os⟩) hz o q.1 q.2
  unfold IsZipF at hz
  unfold Builtin.«zip.__next__»
  wp_walk using fr
  have nz1 : z ≠ i1 := fun e => S.zf1 (e ▸ S.mem1)
  refine ⟨?_, fun h' f1' hz' sz kp => ?_⟩
  · rw [if_pos rfl]
    simp only [List.zipIdx_cons, List.zipIdx_nil, List.forIn_cons, List.forIn_nil]
    wp_step
    wp_step
    refine wpAny_bind (field_at hz rfl rfl ?_)
    refine wpAny_bind (setField_at hz rfl (by simp) ?_)
    have u0 := Heap.get?_update_self (a := z) (Obj.mapFields fun x => x.setIfInBounds 0 Value.ellipsis) hz rfl
    have k0 : ∀ c o, c ≠ z → hp.get? c = some o → (hp.update z (Obj.mapFields fun x => x.setIfInBounds 0 Value.ellipsis)).get? c = some o := fun c o n e => (Heap.get?_update_ne _ _ _ _ n).trans e
    dsimp only at u0 ⊢
    generalize (hp.update z (Obj.mapFields fun x => x.setIfInBounds 0 Value.ellipsis)) = h' at u0 k0 ⊢
    refine wpAny_bind (wpAny_bind (wpAny_bind (wpAny_onRaise (wpAny_bind (D1.done _ _ _ (D1.frame n1 hp h' st1 fun b hb o e => k0 b o (fun q => S.zf1 (q ▸ hb)) e) fun h2 e x2 x3 => ?_)))))
    have z2 : h2.get? z = _ := x2 z _ nz1 u0
    refine setField_at z2 rfl (by simp [Obj.mapFields]) ?_
    refine q _ _ e (fun c o n1 n2 n3 n4 eo => (Heap.get?_update_ne _ _ _ _ n1).trans (x2 c o n3 (k0 c o n1 eo))) ?_
    obtain ⟨oe, e1, e2⟩ := x3
    by_cases ez : e = z
    · rw [ez, z2] at e1
      cases e1
      exact absurd e2 (show ¬ (Value.type "zip" = Value.type "StopIteration") by decide)
    · exact ⟨oe, (Heap.get?_update_ne _ _ _ _ ez).trans e1, e2⟩
  · rw [if_neg (by decide)]
    dsimp only
    rw [← Array.forIn_toList]
    simp only [List.forIn_cons, List.forIn_nil]
    refine wpAny_bind (wpAny_bind (wpAny_bind (wpAny_holding (wpAny_bind (D1.done _ _ _ (D1.frame n1 hp h' st1 fun b hb o e => kp b o (fun q => S.zf1 (q ▸ hb)) e) fun h2 e x2 x3 => ?_)))))
    exact q h2 _ e (fun c o n1 n2 n3 n4 eo => x2 c o n3 (kp c o n1 eo)) x3
theorem enum_next {prog : Program} {w : World} {A : Around} {E : Value → Shared → Prop} {s : Shared} {e it : Addr} {c : Int} {old : Value} {R : Value → Shared → Prop} {Q : Value → Shared → Prop} (he : IsEnum s.heap e it c old)
    (inner : ∀ (Q : Value → Shared → Prop), (∀ x s1, R x s1 → Q x s1) → wpAny (model prog w) A (Builtin.SmallTypes.nextOf (.ref it)) Q E s)
    (hR : ∀ x s1, R x s1 → IsEnum s1.heap e it c old)
    (q : ∀ x s1 h' tk, R x s1 → IsEnumOut h' e it (c + 1) x s1.heap.objs.size → h'.get? s1.heap.objs.size = some { cls := .type "tuple", data := .seq #[.int c tk, x] } → h'.objs.size = s1.heap.objs.size + 1 → (∀ b o, b ≠ e → s1.heap.get? b = some o → h'.get? b = some o) →
      Q (.ref s1.heap.objs.size) { s1 with heap := h', toks := tk + 1 }) :
    wpAny (model prog w) A (Builtin.«enumerate.__next__» { pos := [.ref e] }) (fun fin s' => ∃ v, fin = .done (.ret v) ∧ Q v s') E s := by
  obtain ⟨hp, g, d, tk, os⟩ := s
  unfold Builtin.«enumerate.__next__»
  refine wpAny_bind (show wpAny (model prog w) A (pure (Value.ref e, ([] : List Value))) _ _ _ from wpAny_pure ?_)
  refine wpAny_bind (field_at he rfl rfl ?_)
  refine wpAny_bind (inner _ fun x s1 r => ?_)
  have he1 := hR x _ r
  have q1 := q x s1
  obtain ⟨hp1, g1, d1, tk1, os1⟩ := s1
  unfold IsEnum at he1
  wp_walk
  have u1 := Heap.get?_update_self (a := e) (Obj.mapFields fun x => x.setIfInBounds 3 (rawInt (c + 1))) he1 rfl
  have u2 := Heap.get?_update_self (a := e) (Obj.mapFields fun x => x.setIfInBounds 4 Value.none) u1 rfl
  have s2 : ((hp1.update e (Obj.mapFields fun x => x.setIfInBounds 3 (rawInt (c + 1)))).update e (Obj.mapFields fun x => x.setIfInBounds 4 Value.none)).objs.size = hp1.objs.size := by rw [Heap.size_update, Heap.size_update]
  have k2 : ∀ b o, b ≠ e → hp1.get? b = some o → ((hp1.update e (Obj.mapFields fun x => x.setIfInBounds 3 (rawInt (c + 1)))).update e (Obj.mapFields fun x => x.setIfInBounds 4 Value.none)).get? b = some o := fun b o n q => (Heap.get?_update_ne _ _ _ _ n).trans ((Heap.get?_update_ne _ _ _ _ n).trans q)
  dsimp only at u2 s2 k2 ⊢
  generalize ((hp1.update e (Obj.mapFields fun x => x.setIfInBounds 3 (rawInt (c + 1)))).update e (Obj.mapFields fun x => x.setIfInBounds 4 Value.none)) = hp2 at u2 s2 k2 ⊢
  have el : e < hp2.objs.size := Heap.lt_size u2
  have u3 := Heap.get?_push_of_some { cls := Value.type "tuple", data := Data.seq #[Value.int c tk1, x] } u2
  have t3 : (hp2.push { cls := Value.type "tuple", data := Data.seq #[Value.int c tk1, x] }).get? hp2.objs.size = some { cls := Value.type "tuple", data := Data.seq #[Value.int c tk1, x] } := Heap.get?_push_size _ rfl
  have u4 := Heap.get?_update_self (a := e) (Obj.mapFields fun x_1 => x_1.setIfInBounds 5 x) u3 rfl
  have u5 := Heap.get?_update_self (a := e) (Obj.mapFields fun x => x.setIfInBounds 0 (rawInt (hp2.objs.size : Int))) u4 rfl
  have u6 := Heap.get?_update_self (a := e) (Obj.mapFields fun x => x.setIfInBounds 1 (Value.bool false)) u5 rfl
  refine ⟨_, rfl, ?_⟩
  have nse : hp1.objs.size ≠ e := by rw [← s2]; exact Nat.ne_of_gt el
  rw [s2] at u6 ⊢
  refine q1 _ tk1 r u6 ?_ ?_ ?_
  · refine (Heap.get?_update_ne _ _ _ _ nse).trans ((Heap.get?_update_ne _ _ _ _ nse).trans ((Heap.get?_update_ne _ _ _ _ nse).trans ?_))
    rw [← s2]
    exact t3
  · rw [Heap.size_update, Heap.size_update, Heap.size_update, Heap.size_push, s2]
  · intro b o n hb
    exact (Heap.get?_update_ne _ _ _ _ n).trans ((Heap.get?_update_ne _ _ _ _ n).trans ((Heap.get?_update_ne _ _ _ _ n).trans (Heap.get?_push_of_some _ (k2 b o n hb))))
end Ev

set_option Elab.async false
set_option linter.all false
set_option maxRecDepth 100000
set_option maxHeartbeats 8000000
namespace Ev
open PySem PySem.Spec PyProof.Rows L2
section
variable {prog : Program} {w : World} {A : Around} {E : Value → Shared → Prop} {s : Shared} {e it : Addr} {c : Int} {old : Value}
theorem pyNext_enum {Q : Option Value → Shared → Prop} (he : IsEnum s.heap e it c old)
    (q : wpAny (model prog w) A.in1 (Builtin.«enumerate.__next__» { pos := [.ref e] }) (fun fin s' => ∃ v, fin = .done (.ret v) ∧ Q (some v) s') (fun x s' => (∃ o a, x = .ref a ∧ s'.heap.get? a = some o ∧ o.cls = .type "StopIteration") ∧ Q none s') s) : wpAny (model prog w) A (pyNext (.ref e)) Q E s := by
  have ty : s.TypeIs (.ref e) "enumerate" := ⟨_, he, rfl⟩
  unfold pyNext
  refine wpAny_bind (wpAny_attempt (wpAny_callSpecial?_slot ty F.slot_enumerate_next (wpAny_call (codeAny_call_builtin F.slot_enumerate_next.plain F.entry_enumerate_next ?_))))
  refine F.slot_enumerate_next.check _ _ _ _ _ [] [] _ ty (F.args_enumerate_next_1 _) ?_
  refine wpAny_mono q (fun fin s' ⟨v, e, qv⟩ => ?_) fun x s' ⟨⟨o, a, ea, go, co⟩, qn⟩ => ?_
  · subst e
    exact wpAny_pure qv
  · subst ea
    obtain ⟨hp, g, d, tk, os⟩ := s'
    obtain ⟨cl, dd, dat, sl⟩ := o
    simp only at co go
    subst co
    have hs := isSubtype_stop
    wp_walk
    exact qn
end
/-- what enumerate(zip(a, b)) gives out, of rows of one length -/
def ItezM (K : PySem.W.Frag) (k l : Bool) (a b : Addr) : L2.It where
  go i H := ∃ ys zs y z, SqB K k H a ys ∧ SqB K l H b zs ∧ ys[i]? = some y ∧ zs[i]? = some z
  yld i H v H' := ∃ T p y z, v = V.ref T ∧ H p = none ∧ upd H p (.tup [y, z]) T = none ∧ H' = upd (upd H p (.tup [y, z])) T (.tup [.int (i : Nat), .ref p]) ∧ (∀ ys, SqB K k H a ys → ys[i]? = some y) ∧ ∀ zs, SqB K l H b zs → zs[i]? = some z
  stop i H := ∃ ys zs, SqB K k H a ys ∧ SqB K l H b zs ∧ ys.length = i ∧ zs.length = i
def turnEZ_ {k l : Bool} (e z T1 T2 i1 i2 a b : Addr) (i : Nat) (h : Heap) : Prop := (∃ old, IsEnum h e z ((i : Nat) : Int) old) ∧ (∃ f0 f1, IsZipF h z T1 T2 f0 f1 ∧ Out0 f0) ∧ IsTupOf2 h T1 (.ref i1) (.ref i2) ∧ (∃ x y, IsTupOf2 h T2 x y) ∧ ItB k h i1 a i ∧ ItB l h i2 b i
theorem turn_enz {P : Program} {wd : World} {K : PySem.W.Frag} {es : List Expr} {n : Nat} {pt : Pos} {k l : Bool} {a b e z T1 T2 i1 i2 : Addr} (S : ZipSep2 z T1 T2 i1 i2 [i1, a] [i2, b]) (ne1 : a ≠ i1) (ne2 : b ≠ i2) (n1z : i1 ≠ z) (n2z : i2 ≠ z) (ez : e ≠ z) (eT1 : T1 ≠ e) (eT : e ≠ T2) (e1 : e ≠ i1) (e2 : e ≠ i2) :
    Turn P wd K (.Tuple es n pt) (ItezM K k l a b) [e, z, T1, T2, i1, i2] e (turnEZ_ (k := k) (l := l) e z T1 T2 i1 i2 a b) where
  mem := List.mem_cons_self
  obj := by
    rintro i h ⟨⟨old, he⟩, ⟨f0, f1, hz, ho⟩, h1, ⟨x, y, h2⟩, q1, q2⟩ c hc
    simp only [List.mem_cons, List.not_mem_nil, or_false] at hc
    rcases hc with rfl | rfl | rfl | rfl | rfl | rfl
    · exact ⟨_, he, fun v q => by cases q⟩
    · exact ⟨_, hz, fun v q => by cases q⟩
    · exact ⟨_, h1, fun v q => by cases q⟩
    · exact ⟨_, h2, fun v q => by cases q⟩
    · exact q1.live
    · exact q2.live
  keep := by
    rintro i h h' ⟨⟨old, he⟩, ⟨f0, f1, hz, ho⟩, h1, ⟨x, y, h2⟩, q1, q2⟩ f
    exact ⟨⟨old, f _ (by simp) _ he⟩, ⟨f0, f1, f _ (by simp) _ hz, ho⟩, f _ (by simp) _ h1, ⟨x, y, f _ (by simp) _ h2⟩, q1.over fun o e => f _ (by simp) o e, q2.over fun o e => f _ (by simp) o e⟩
  item := by
    rintro X rfl rfl rfl calm i pins s σ H E I off ⟨⟨old, he⟩, ⟨f0, f1, hz, ho⟩, h1, ⟨x, y, h2⟩, q1, q2⟩ ⟨ys, zs, y1, z1, sq1, sq2, g1, g2⟩
    obtain ⟨its, rv, p, _⟩ := seqB I sq1
    obtain ⟨jts, rw', p', _⟩ := seqB I sq2
    obtain ⟨u, hu, ru⟩ := rv.get g1
    obtain ⟨v, hv, rv2⟩ := rw'.get g2
    have l1 : i < its.toArray.size := by have := (List.getElem?_eq_some_iff.mp hu).1; simpa using this
    have l2 : i < jts.toArray.size := by have := (List.getElem?_eq_some_iff.mp hv).1; simpa using this
    have hh : X.A.in1.in1.handled = none := I.ok.hd calm
    have el : e < s.heap.objs.size := Heap.lt_size he
    have zl : z < s.heap.objs.size := Heap.lt_size hz
    have cells : ∀ c ∈ [e, z, T1, T2, i1, i2], c < s.heap.objs.size := fun c hc => by
      simp only [List.mem_cons, List.not_mem_nil, or_false] at hc
      rcases hc with rfl | rfl | rfl | rfl | rfl | rfl
      · exact el
      · exact zl
      · exact Heap.lt_size h1
      · exact Heap.lt_size h2
      · obtain ⟨o, e, _⟩ := q1.live; exact Heap.lt_size e
      · obtain ⟨o, e, _⟩ := q2.live; exact Heap.lt_size e
    refine pyNext_enum he (enum_next (R := fun x1 s1 => ∃ h' tk, x1 = .ref s.heap.objs.size ∧ s1 = { s with heap := h', toks := tk } ∧ (∃ f0 f1, IsZipF h' z T1 T2 f0 f1 ∧ Out0 f0) ∧ (∃ a1 a2, IsTupOf2 h' T2 a1 a2) ∧ ItB k h' i1 a (i + 1) ∧ ItB l h' i2 b (i + 1) ∧ IsTupOf2 h' s.heap.objs.size u v ∧ h'.objs.size = s.heap.objs.size + 1 ∧
      (∀ c o, c ≠ z → c ≠ T2 → c ≠ i1 → c ≠ i2 → s.heap.get? c = some o → h'.get? c = some o)) he ?_ ?_ ?_)
    · intro Q hQ
      refine nextOf_zip hz (zip_any2 S (drawsB hh k i1 a ne1 its.toArray) (drawsB hh l i2 b ne2 jts.toArray) hz ho h1 h2 ⟨q1, p⟩ ⟨q2, p'⟩ l1 l2 fun x1 x2 h' tk r1 r2 z' t2' s1 s2 nt sz kp => hQ _ _ ?_)
      obtain rfl : x1 = u := by have e1' : its[i]? = some x1 := by simpa using r1
                                rw [hu] at e1'; exact (Option.some.inj e1').symm
      obtain rfl : x2 = v := by have e2' : jts[i]? = some x2 := by simpa using r2
                                rw [hv] at e2'; exact (Option.some.inj e2').symm
      exact ⟨h', tk, rfl, rfl, z', t2', s1.1, s2.1, nt, sz, kp⟩
    · rintro x1 s1 ⟨h', tk, rfl, rfl, _, _, _, _, _, _, kp⟩
      exact kp e _ ez eT e1 e2 he
    · rintro x1 s1 h3 tk3 ⟨h', tk, rfl, rfl, ⟨g0, g1', gz, go⟩, ⟨b1, b2, gt⟩, j1, j2, nt, sz, kp⟩ out t3 sz3 kp3
      refine ⟨_, rfl, wpAny_letOwnedTupleGo_enum out fun h4 e4 same => ?_⟩
      have sz' : ({ s with heap := h', toks := tk } : Shared).heap.objs.size = s.heap.objs.size + 1 := sz
      have nm : s.heap.objs.size ∉ [e, z, T1, T2, i1, i2] := fun q => Nat.lt_irrefl _ (cells _ q)
      have ob1 : ObjOk X.prog X.w (upd H s.heap.objs.size (.tup [y1, z1])) h' s.heap.objs.size (.tup [y1, z1]) := ⟨(by decide : 2 ≤ sizeLine), [u, v], .cons ru (.cons rv2 .nil), _, nt, rfl, _, rfl⟩
      have J1 : L2.Inv X pins σ (upd H s.heap.objs.size (.tup [y1, z1])) { s with heap := h', toks := tk } := I.turnedNew (t' := tk) (ch := [e, z, T1, T2, i1, i2]) (fun c o nc e => by
        simp only [List.mem_cons, List.not_mem_nil, or_false, not_or] at nc
        exact kp c o nc.2.1 nc.2.2.2.1 nc.2.2.2.2.1 nc.2.2.2.2.2 e) off (Nat.le_refl _) ob1
      have off1 : ∀ c ∈ [e, z, T1, T2, i1, i2], L2.FpOk X pins (upd H s.heap.objs.size (.tup [y1, z1])) c := fun c hc => ⟨by rw [upd_ne (Nat.ne_of_lt (cells c hc))]; exact (off c hc).1, (off c hc).2⟩
      have nsz : h'.objs.size ≠ e := by rw [sz]; exact Nat.ne_of_gt (Nat.lt_succ_of_lt el)
      have here : h4.get? h'.objs.size = some { cls := .type "tuple", data := .seq #[.int i tk3, .ref s.heap.objs.size] } := (same.2 _ nsz).trans t3
      have ob2 : ObjOk X.prog X.w (upd (upd H s.heap.objs.size (.tup [y1, z1])) h'.objs.size (.tup [.int (i : Nat), .ref s.heap.objs.size])) h4 h'.objs.size (.tup [.int (i : Nat), .ref s.heap.objs.size]) := ⟨(by decide : 2 ≤ sizeLine), [.int i tk3, .ref s.heap.objs.size], .cons ⟨_, rfl⟩ (.cons rfl .nil), _, here, rfl, _, rfl⟩
      have outs : ∀ c o, c ≠ e → h'.get? c = some o → h4.get? c = some o := fun c o nc q => (same.2 c nc).trans (kp3 c o nc q)
      have J2 : L2.Inv X pins σ (upd (upd H s.heap.objs.size (.tup [y1, z1])) h'.objs.size (.tup [.int (i : Nat), .ref s.heap.objs.size])) { s with heap := h4, toks := tk3 + 1 } := J1.turnedNew (t' := tk3 + 1) (ch := [e, z, T1, T2, i1, i2]) (fun c o nc q => by
        simp only [List.mem_cons, List.not_mem_nil, or_false, not_or] at nc
        exact outs c o nc.1 q) off1 (Nat.le_refl _) ob2
      have cast_ : ((i + 1 : Nat) : Int) = (i : Int) + 1 := by omega
      have T1z : IsTupOf2 h' T1 (.ref i1) (.ref i2) := kp T1 _ S.TIz S.TITO S.TIi1 S.TIi2 h1
      refine ⟨.ref h'.objs.size, _, J2, rfl, ⟨_, _, y1, z1, rfl, I.hok.fresh (Nat.le_refl _), J1.hok.fresh (Nat.le_refl _), rfl, fun us q => by rw [seqB_inj I q sq1]; exact g1, fun us q => by rw [seqB_inj I q sq2]; exact g2⟩, ?_, fun c hc => ?_⟩
      · refine ⟨⟨_, by rw [cast_]; exact e4⟩, ⟨g0, g1', outs z _ (Ne.symm ez) gz, go⟩, ?_, ⟨b1, b2, outs T2 _ (Ne.symm eT) gt⟩, j1.over fun o q => outs i1 o (Ne.symm e1) q, j2.over fun o q => outs i2 o (Ne.symm e2) q⟩
        exact outs T1 _ eT1 T1z
      · have cl := cells c hc
        rw [upd_ne (by rw [sz]; exact Nat.ne_of_lt (Nat.lt_succ_of_lt cl)), upd_ne (Nat.ne_of_lt cl)]
        exact (off c hc).1
  done := by
    rintro X rfl rfl rfl calm i pins s σ H E I off ⟨⟨old, he⟩, ⟨f0, f1, hz, ho⟩, h1, ⟨x, y, h2⟩, q1, q2⟩ ⟨ys, zs, sq1, sq2, m1, m2⟩
    obtain ⟨its, rv, p, _⟩ := seqB I sq1
    have hh : X.A.in1.in1.handled = none := I.ok.hd calm
    have le := rv.length
    obtain rfl : i = its.toArray.size := by simp only [List.size_toArray]; omega
    refine pyNext_enum he (enum_next (R := fun _ _ => False) he ?_ (fun _ _ q => q.elim) (fun _ _ _ _ q => q.elim))
    intro Q hQ
    refine nextOf_zip hz (zip_any2_end S (drawsB hh k i1 a ne1 its.toArray) hz ho h1 h2 ⟨q1, p⟩ fun h' tk e3 kp st => ?_)
    obtain ⟨o, go, co⟩ := st
    exact ⟨⟨o, e3, rfl, go, co⟩, rfl, I.turnedL (t' := tk) (ch := [e, z, T1, T2, i1, i2]) (fun c o nc e => by
      simp only [List.mem_cons, List.not_mem_nil, or_false, not_or] at nc
      exact kp c o nc.2.1 nc.2.2.2.1 nc.2.2.2.2.1 nc.2.2.2.2.2 e) off⟩
  self := fun A i s Q E st q => let ⟨⟨_, h1⟩, _⟩ := st; wpAny_pyIter_enum h1 q
end Ev

set_option Elab.async false
set_option linter.all false
set_option maxRecDepth 100000
set_option maxHeartbeats 8000000
namespace Ev
open PySem PySem.Spec PyProof.Rows L2
theorem spl1 {M : Model} {A : Around} {E : Value → Shared → Prop} {s : Shared} {pos : Pos} {m : Sem Value} {Q : List Value → Shared → Prop} (h : wpAny M A m (fun v s1 => Q [v] s1) E s) : wpAny M A (spliced (backTo pos [(false, m)])) Q E s := by
  unfold backTo
  simp only [List.map_cons, List.map_nil]
  unfold spliced
  refine wpAny_bind ?_
  rw [if_neg (by decide)]
  refine thn h fun v s1 q => ?_
  dsimp only
  rw [if_neg (by decide)]
  refine wpAny_bind (wpAny_pure ?_)
  refine wpAny_bind (wpAny_holding (show wpAny M A (pure []) _ E s1 from wpAny_pure ?_))
  exact wpAny_pure q
theorem new_enumZ (z : Addr) :
    Meets (Builtin.«enumerate.__new__» ⟨[.type "enumerate", .ref z], []⟩) (fun _ R s => (∃ TI TO, IsZip s.heap z TI TO .none) ∧
      R (.ok (.ret (.ref s.heap.objs.size))) { s with heap := s.heap.push { cls := .type "enumerate", data := .fields #[.none, .bool false, .ref z, rawInt 0, .none, .none] } }) :=
  .of_wp fun prog w A R s h => by
    obtain ⟨hp, g, d, tk, os⟩ := s; obtain ⟨⟨TI, TO, h1⟩, h⟩ := h
    have hsub := sub_enumerate
    have q1 : ∀ {A' : Around} {E : Value → Shared → Prop} {Q : Value → Shared → Prop}, Q (.ref z) ⟨hp, g, d, tk, os⟩ → wpAny (model prog w) A' (pyIter (.ref z)) Q E ⟨hp, g, d, tk, os⟩ :=
      fun q => wpAny_pyIter_zip h1 q
    wp_walk using q1
    refine wpAny_stack_any fun st => wpAny_pure ?_
    split
    · rename_i c _ _ _ _ _
      cases (c == Value.type "enumerate")
      · wp_walk using q1
        exact ⟨_, rfl, h⟩
      · wp_walk using q1
        exact ⟨_, rfl, h⟩
    · wp_walk using q1
      exact ⟨_, rfl, h⟩
section
variable {X : Cx} {C : Nat → Addr} {W : WX} {a b : Expr} {fa fb : Sl → AH → Res AV} {pos pos2 p p2 pt : Pos} {es : List Expr} {n : Nat}
theorem enz_at {pins : List (Addr × Obj)} {σ : L2.St} {H : Hp} {s : Shared} {R : L2.It → Hp → Prop} {k l : Bool} {q r : Addr} {ys zs : List V} (I : L2.Inv X pins σ H s) (h1 : SqB X.K k H q ys) (h2 : SqB X.K l H r zs) (fin : R (ItezM X.K k l q r) H) :
    wpAny (model X.prog X.w) X.A (call (.type "zip") [.ref q, .ref r]) (fun v s1 => wpAny (model X.prog X.w) X.A (call (.type "enumerate") [v]) (fun u s2 => wpAny (model X.prog X.w) X.A (pyIter u) (PIE X pins σ (.Tuple es n pt) R) X.xe s2) X.xe s1) X.xe s := by
  obtain ⟨its, rv, p1, l1⟩ := seqB I h1
  obtain ⟨jts, rw', p2, l2⟩ := seqB I h2
  refine zip_begins2 (beginsB k q its.toArray) (beginsB l r jts.toArray) p1 p2 fun h' hz t1 t2 g1 g2 sz kp => ?_
  refine callType_new F.called_enumerate (by decide) (F.typeCall_enumerate_1 _) (F.newCall_enumerate_1 _) (fun obj => F.args_object_init_2 obj _) F.entry_enumerate_new (new_enumZ (s.heap.objs.size + 4)) ⟨⟨_, _, hz⟩, ?_⟩
  generalize hh : h'.push { cls := .type "enumerate", data := .fields #[.none, .bool false, .ref (s.heap.objs.size + 4), rawInt 0, .none, .none] } = h2'
  have kp2 : ∀ c o, h'.get? c = some o → h2'.get? c = some o := fun c o e => by rw [← hh]; exact Heap.get?_push_of_some _ e
  have ge : h2'.get? (s.heap.objs.size + 5) = some { cls := .type "enumerate", data := .fields #[.none, .bool false, .ref (s.heap.objs.size + 4), rawInt 0, .none, .none] } := by rw [← hh, ← sz]; exact Heap.get?_push_size _ rfl
  show _ ∧ _
  dsimp only
  rw [sz]
  have J : L2.Inv X pins σ H { s with heap := h2' } := I.kept (t' := s.toks) fun c o e => kp2 c o (kp c o e)
  have S := zip_sep2 (N := s.heap.objs.size) (fp1 := [q]) (fp2 := [r]) (by simpa using l1) (by simpa using l2)
  refine ⟨⟨_, ge, rfl⟩, wpAny_pyIter_enum ge ?_⟩
  refine ⟨s.heap.objs.size + 5, [s.heap.objs.size + 5, s.heap.objs.size + 4, s.heap.objs.size + 2, s.heap.objs.size + 3, s.heap.objs.size, s.heap.objs.size + 1], _, _, H, rfl, J,
    turn_enz S (Nat.ne_of_lt l1) (Nat.ne_of_lt (Nat.lt_succ_of_lt l2)) (by simp) (by simp) (by simp) (by simp) (by simp) (by simp) (by simp),
    ⟨⟨.none, ge⟩, ⟨.none, .bool false, kp2 _ _ hz, .inl rfl⟩, kp2 _ _ t1, ⟨_, _, kp2 _ _ t2⟩, newB_at (kp2 _ _ g1), newB_at (kp2 _ _ g2)⟩, fun c hc => ?_, fin⟩
  have le : s.heap.objs.size ≤ c := by
    simp only [List.mem_cons, List.not_mem_nil, or_false] at hc
    rcases hc with rfl | rfl | rfl | rfl | rfl | rfl <;> first | exact Nat.le_refl _ | exact Nat.le_add_right _ _
  exact I.fpOk le (I.hok.fresh le)
theorem wk_enz {K : PySem.W.Frag} {C : Nat → Addr} {ρ : List Addr} {H : Hp} {k l : Bool} {a b : Addr} {s t : Src} (eq : s.items.length = t.items.length) (w : SeqW K C ρ H s fun H' ys => SqB K k H' a ys) (w2 : SeqW K C ρ H t fun H' ys => SqB K l H' b ys) : Wk K C ρ H ⟨enumL (zipL s.items t.items), s.watch ++ t.watch⟩ (ItezM K k l a b) := by
  intro ρ' h' H' i sr e st
  obtain ⟨st1, st2⟩ := still_app st
  obtain ⟨ys, hq, rr⟩ := w ρ' h' H' sr e st1
  obtain ⟨zs, hq2, rr2⟩ := w2 ρ' h' H' sr e st2
  refine ⟨fun hl => ⟨ys, zs, hq, hq2, ?_, ?_⟩, fun v hv => ?_⟩
  · have hl : i = min s.items.length t.items.length := by simpa [enumL, zipL] using hl
    rw [← rr.length]; omega
  · have hl : i = min s.items.length t.items.length := by simpa [enumL, zipL] using hl
    rw [← rr2.length]; omega
  simp only [enumL, List.getElem?_map, Option.map_eq_some_iff] at hv
  obtain ⟨⟨u, j⟩, hp, rfl⟩ := hv
  obtain ⟨hlt, ep⟩ := List.getElem?_eq_some_iff.mp hp
  simp only [List.getElem_zipIdx, Prod.mk.injEq] at ep
  obtain ⟨eu, ej⟩ := ep
  have hu : (zipL s.items t.items)[i]? = some u := by rw [← eu]; simp
  have ej : j = i := by omega
  subst ej
  obtain ⟨u1, u2, h1, h2, rfl⟩ := zip_get hu
  obtain ⟨y, hy, ry⟩ := rr.get h1
  obtain ⟨z, hz, rz⟩ := rr2.get h2
  refine ⟨⟨ys, zs, y, z, hq, hq2, hy, hz⟩, fun x H2 ⟨T, p, y', z', e1, hp', hT, e2, c1, c2⟩ => ?_⟩
  subst e1; subst e2
  have e3 := c1 ys hq
  rw [hy] at e3; cases e3
  have e4 := c2 zs hq2
  rw [hz] at e4; cases e4
  have ex1 : Ext H' (upd H' p (.tup [y, z])) := Ext.laid hp'
  have ex2 : Ext (upd H' p (.tup [y, z])) (upd (upd H' p (.tup [y, z])) T (.tup [.int (j : Nat), .ref p])) := Ext.laid hT
  have f1 : Fr (ρ ++ ρ') [] H' (upd H' p (.tup [y, z])) := Fr.laid hp' (by simp)
  have f2 : Fr (ρ ++ ρ') [] (upd H' p (.tup [y, z])) (upd (upd H' p (.tup [y, z])) T (.tup [.int (j : Nat), .ref p])) := Fr.laid hT (by simp)
  have nT : T ≠ p := fun q => by rw [q, upd_same] at hT; cases hT
  refine ⟨(sr.tup hp').tup hT, ex1.trans ex2, ?_, .tup upd_same (.cons (.int _) (.cons (.tup (by rw [upd_ne (Ne.symm nT)]; exact upd_same) (.cons ((ry.ext ex1).ext ex2) (.cons ((rz.ext ex1).ext ex2) .nil))) .nil))⟩
  have := f1.trans (ρ2 := []) (by simpa using f2)
  simpa using this
theorem ei_enz (hg : Gl X "enumerate") (hm : X.mg "enumerate" = none) (hgz : Gl X "zip") (hmz : X.mg "zip" = none) (ha : PEv X C W a fa) (hb : PEv X C W b fb) (hs : starEach [a, b] X.env = (false, eval a X.env) :: starEach [b] X.env) (hs2 : starEach [b] X.env = (false, eval b X.env) :: starEach [] X.env) :
    PIv X C W (.Tuple es n pt) (.Call (.Name "enumerate" p) [.Call (.Name "zip" p2) [a, b] [] pos2] [] pos) (fun σ h => (fa σ h).bind fun v h1 => (fb σ h1).bind fun w h2 => if isRef v && isRef w then (match srcOf v h2, srcOf w h2 with
    | some s, some t => if s.items.length = t.items.length then .ok ⟨enumL (zipL s.items t.items), s.watch ++ t.watch⟩ h2 else .no
    | _, _ => .no) else .no) := by
  refine ⟨fun pins s σ H R I q => ?_⟩
  refine Call_ (ld_blt I hg hm boot_enumerate (PyProof.Rows.callWith_type1 (spl1 ?_) rfl rfl))
  refine Call_ (ld_blt I hgz hmz boot_zip (PyProof.Rows.callWith_type1 (L2.thn ((pa_cons ha (pa_cons hb pa_nil hs2) hs).run pos2 pins s σ H (fun xs H1 => ∃ (k l : Bool) (x y : Addr) (ys zs : List V), xs = [.ref x, .ref y] ∧ SqB X.K k H1 x ys ∧ SqB X.K l H1 y zs ∧ R (ItezM X.K k l x y) H1) I ?_) fun us s1 ⟨xs, H1, I1, r1, q1⟩ => ?_) hs (by rw [hs2]; rfl)))
  · refine At.thn (R := RV X.K) q fun ρ as h v y H1 rs sr rr p => ?_
    refine At.thn2 (R := RV X.K) (R2 := RV X.K) (f := fb) (k := fun v w h2 => if isRef v && isRef w then (match srcOf v h2, srcOf w h2 with
      | some s, some t => if s.items.length = t.items.length then Res.ok (Src.mk (enumL (zipL s.items t.items)) (s.watch ++ t.watch)) h2 else .no
      | _, _ => .no) else .no) rs sr rr p fun ρ1 h1 w z H2 rs1 sr1 r1 r2 p1 => ?_
    split at p1
    · next hc =>
      rw [Bool.and_eq_true] at hc
      split at p1
      · next src tgt e1 e2 =>
        split at p1
        · next eq =>
          obtain ⟨x1, k1, ys, rfl, a1, b1⟩ := seqB_of sr1 r1 e1 hc.1
          obtain ⟨x2, k2, zs, rfl, a2, b2⟩ := seqB_of sr1 r2 e2 hc.2
          exact ⟨k1, k2, x1, x2, ys, zs, rfl, a1, a2, p1.ok sr1 (wk_enz eq b1 b2)⟩
        · exact p1.elim
      · exact p1.elim
    · exact p1.elim
  · obtain ⟨k, l, x, y, ys, zs, rfl, a1, a2, fin⟩ := q1
    obtain ⟨u1, u2, rfl, e1, e2⟩ := vals2 r1
    obtain rfl : u1 = Value.ref x := e1
    obtain rfl : u2 = Value.ref y := e2
    exact enz_at I1 a1 a2 fin
end
end Ev

set_option Elab.async false
set_option linter.all false
set_option maxRecDepth 100000
set_option maxHeartbeats 8000000
/-! list(range(n)) -/
namespace Ev
open PySem PySem.Spec PyProof.Rows L2
section
variable {X : Cx} {C : Nat → Addr} {W : WX} {a : Expr} {fa : Sl → AH → Res AV} {pos pos2 p p2 : Pos}
def rngV (n : Nat) : List V := (List.range n).map fun i => V.int (i : Nat)
theorem rng_rvs {K : PySem.W.Frag} {ρ : List Addr} {H : Hp} (n : Nat) : RVs K ρ H (rangeL 0 n) (rngV n) := by
  unfold rangeL rngV
  generalize List.range n = l
  induction l with
  | nil => exact .nil
  | cons x l ih =>
    simp only [List.map_cons]
    refine .cons ?_ ih
    have : (0 : Int) + (x : Int) = (x : Int) := by omega
    rw [this]
    exact .int _
theorem vals_get : ∀ {ys : List V} {us : List Value}, ys.length = us.length → (∀ (j : Nat) y u, ys[j]? = some y → us[j]? = some u → RelV y u) → Vals ys us
  | [], [], _, _ => .nil
  | [], _ :: _, h, _ => by simp at h
  | _ :: _, [], h, _ => by simp at h
  | y :: ys, u :: us, h, q => .cons (q 0 y u rfl rfl) (vals_get (by simpa using h) fun j y' u' e1 e2 => q (j + 1) y' u' (by simpa using e1) (by simpa using e2))
theorem rng_size (j : Int) : Builtin.Range.rangeSize 0 j 1 = (j.toNat : Int) := by
  unfold Builtin.Range.rangeSize
  simp
  by_cases h : 0 < j
  · rw [if_pos h]; omega
  · rw [if_neg h]; omega
theorem ev_lrng (hg : Gl X "list") (hm : X.mg "list" = none) (hgr : Gl X "range") (hmr : X.mg "range" = none) (ha : PEv X C W a fa) (hs : starEach [a] X.env = (false, eval a X.env) :: starEach [] X.env) (calm : X.calm = true) :
    PEv X C W (.Call (.Name "list" p) [.Call (.Name "range" p2) [a] [] pos2] [] pos) (fun σ h => (fa σ h).bind fun v h1 => match v with
    | .int j => if decide (j ≤ 16777216) && decide (-16777216 ≤ j) then prSeq .list (rangeL 0 j.toNat) h1 else .no
    | _ => .no) := by
  refine ⟨fun pins s σ H Q I q => ?_⟩
  refine Call_ (ld_blt I hg hm boot_list (PyProof.Rows.callWith_type1 (spl1 ?_) rfl rfl))
  refine Call_ (ld_blt I hgr hmr boot_range (PyProof.Rows.callWith_type1 (L2.thn ((pa_cons ha pa_nil hs).run pos2 pins s σ H (fun xs H1 => ∃ j : Int, xs = [.int j] ∧ -16777216 ≤ j ∧ j ≤ 16777216 ∧ ∀ D, H1 D = none → Q (.ref D) (upd H1 D (.lst (rngV j.toNat)))) I ?_) fun us s1 ⟨xs, H1, I1, r1, q1⟩ => ?_) hs rfl))
  · refine At.thn (R := RV X.K) q fun ρ as h v y H1 rs sr rr p => ?_
    split at p
    · next j =>
      split at p
      · next hc =>
        rw [Bool.and_eq_true, decide_eq_true_eq, decide_eq_true_eq] at hc
        cases rr
        exact ⟨j, rfl, hc.2, hc.1, fun D hD => Po.lst p sr (rng_rvs _) hD⟩
      · exact p.elim
    · exact p.elim
  · obtain ⟨j, rfl, lo, hi, fin⟩ := q1
    obtain ⟨u1, rfl, e1⟩ := vals1 r1
    obtain ⟨t, rfl⟩ : ∃ t, u1 = Value.int j t := e1
    refine call_range_1 ?_
    obtain ⟨hp, g, d, tk, os⟩ := s1
    dsimp only
    have hh : X.A.handled = none := I1.ok.hd calm
    have I2 : L2.Inv X pins σ H1 { heap := hp.push { cls := Value.type "range", data := Data.fields #[Value.int 0 tk, Value.int j t, Value.int 1 (tk + 1)] }, gens := g, drawn := d, toks := tk + 1 + 1, os := os } := I1.kept (t' := tk + 1 + 1) fun c o e => Heap.get?_push_of_some _ e
    refine call_list_range hh (Heap.get?_push_size _ rfl) ?_ (n := j.toNat) ?_ ?_ fun h' tk' acc c' kp hD it => ?_
    · have rs : Builtin.Range.rangeSize 0 j 1 = (j.toNat : Int) := rng_size j
      simp only [Builtin.Range.small, rs, Builtin.Range.rangeFitsLong]
      simp
      omega
    · exact rng_size j
    · omega
    · have hn : H1 (hp.push { cls := Value.type "range", data := Data.fields #[Value.int 0 tk, Value.int j t, Value.int 1 (tk + 1)] }).objs.size = none := I2.hok.fresh (Nat.le_refl _)
      have len : acc.size = j.toNat := it.1
      refine ⟨.ref (hp.push { cls := Value.type "range", data := Data.fields #[Value.int 0 tk, Value.int j t, Value.int 1 (tk + 1)] }).objs.size, _, I2.laid (t' := tk') (a := (hp.push { cls := Value.type "range", data := Data.fields #[Value.int 0 tk, Value.int j t, Value.int 1 (tk + 1)] }).objs.size) (o := .lst (rngV j.toNat)) kp (Nat.le_refl _) ?_, rfl, fin _ hn⟩
      show _ ∧ _
      refine ⟨by simp [rngV, sizeLine]; omega, acc.toList, c', vals_get (by simp [rngV, len]) fun i y u e1 e2 => ?_, hD⟩
      have e2' : acc[i]? = some u := by simpa using e2
      obtain ⟨t', rfl⟩ := it.2 i u e2'
      simp only [rngV, List.getElem?_map, Option.map_eq_some_iff] at e1
      obtain ⟨k, e1, rfl⟩ := e1
      obtain ⟨_, ek⟩ := List.getElem?_eq_some_iff.mp e1
      simp only [List.getElem_range] at ek
      subst ek
      exact ⟨t', by simp⟩
end
end Ev

set_option Elab.async false
set_option linter.all false
set_option maxRecDepth 100000
set_option maxHeartbeats 8000000
/-! tuple(range(n)) -/
namespace Ev
open PySem PySem.Spec PyProof.Rows L2
section
variable {X : Cx} {C : Nat → Addr} {W : WX} {a : Expr} {fa : Sl → AH → Res AV} {pos pos2 p p2 : Pos}
theorem ev_trng (hg : Gl X "tuple") (hm : X.mg "tuple" = none) (hgr : Gl X "range") (hmr : X.mg "range" = none) (ha : PEv X C W a fa) (hs : starEach [a] X.env = (false, eval a X.env) :: starEach [] X.env) (calm : X.calm = true) :
    PEv X C W (.Call (.Name "tuple" p) [.Call (.Name "range" p2) [a] [] pos2] [] pos) (fun σ h => (fa σ h).bind fun v h1 => match v with
    | .int j => if decide (j ≤ 16777216) && decide (-16777216 ≤ j) then prSeq .tuple (rangeL 0 j.toNat) h1 else .no
    | _ => .no) := by
  refine ⟨fun pins s σ H Q I q => ?_⟩
  refine Call_ (ld_blt I hg hm boot_tuple (PyProof.Rows.callWith_type1 (spl1 ?_) rfl rfl))
  refine Call_ (ld_blt I hgr hmr boot_range (PyProof.Rows.callWith_type1 (L2.thn ((pa_cons ha pa_nil hs).run pos2 pins s σ H (fun xs H1 => ∃ j : Int, xs = [.int j] ∧ -16777216 ≤ j ∧ j ≤ 16777216 ∧ ∀ D, H1 D = none → Q (.ref D) (upd H1 D (.tup (rngV j.toNat)))) I ?_) fun us s1 ⟨xs, H1, I1, r1, q1⟩ => ?_) hs rfl))
  · refine At.thn (R := RV X.K) q fun ρ as h v y H1 rs sr rr p => ?_
    split at p
    · next j =>
      split at p
      · next hc =>
        rw [Bool.and_eq_true, decide_eq_true_eq, decide_eq_true_eq] at hc
        cases rr
        exact ⟨j, rfl, hc.2, hc.1, fun D hD => Po.tup p sr (rng_rvs _) hD⟩
      · exact p.elim
    · exact p.elim
  · obtain ⟨j, rfl, lo, hi, fin⟩ := q1
    obtain ⟨u1, rfl, e1⟩ := vals1 r1
    obtain ⟨t, rfl⟩ : ∃ t, u1 = Value.int j t := e1
    refine call_range_1 ?_
    obtain ⟨hp, g, d, tk, os⟩ := s1
    dsimp only
    have hh : X.A.handled = none := I1.ok.hd calm
    have I2 : L2.Inv X pins σ H1 { heap := hp.push { cls := Value.type "range", data := Data.fields #[Value.int 0 tk, Value.int j t, Value.int 1 (tk + 1)] }, gens := g, drawn := d, toks := tk + 1 + 1, os := os } := I1.kept (t' := tk + 1 + 1) fun c o e => Heap.get?_push_of_some _ e
    refine call_tuple_range hh (Heap.get?_push_size _ rfl) ?_ (n := j.toNat) ?_ ?_ fun h' tk' acc kp it => ?_
    · have rs : Builtin.Range.rangeSize 0 j 1 = (j.toNat : Int) := rng_size j
      simp only [Builtin.Range.small, rs, Builtin.Range.rangeFitsLong]
      simp
      omega
    · exact rng_size j
    · omega
    · have I3 : L2.Inv X pins σ H1 { heap := h', gens := g, drawn := d, toks := tk', os := os } := I2.kept (t' := tk') kp
      have hn : H1 h'.objs.size = none := I3.hok.fresh (Nat.le_refl _)
      have len : acc.size = j.toNat := it.1
      have vv : Vals (rngV j.toNat) acc.toList := vals_get (by simp [rngV, len]) fun i y u e1 e2 => by
        have e2' : acc[i]? = some u := by simpa using e2
        obtain ⟨t', rfl⟩ := it.2 i u e2'
        simp only [rngV, List.getElem?_map, Option.map_eq_some_iff] at e1
        obtain ⟨k, e1, rfl⟩ := e1
        obtain ⟨_, ek⟩ := List.getElem?_eq_some_iff.mp e1
        simp only [List.getElem_range] at ek
        subst ek
        exact ⟨t', by simp⟩
      refine ⟨.ref h'.objs.size, _, I3.laid (t' := tk') (a := h'.objs.size) (o := .tup (rngV j.toNat)) (fun c o e => Heap.get?_push_of_some _ e) (Nat.le_refl _) ?_, rfl, fin _ hn⟩
      exact ⟨by simp [rngV, sizeLine]; omega, acc.toList, vv, by first | exact ⟨_, Heap.get?_push_size _ rfl, rfl, _, rfl⟩ | exact ⟨_, _, Heap.get?_push_size _ rfl, rfl, rfl⟩ | exact ⟨_, Heap.get?_push_size _ rfl, rfl, rfl, _, by simp⟩⟩
end
end Ev

set_option Elab.async false
set_option linter.all false
set_option maxRecDepth 100000
set_option maxHeartbeats 8000000
/-! Dict comprehensions, with keys that are ints, texts, or tuples of these. -/
namespace Ev
open PySem PySem.Spec PyProof.Rows L2

/-- D's dict with one more -/
def Wr (H : Hp) (D : Addr) (y z : V) (H' : Hp) : Prop :=
  (∃ kvs k, H D = some (.dK kvs) ∧ y = kV k ∧ kvs.length < sizeLine ∧ H' = upd H D (.dK (putK kvs k z))) ∨
  (∃ kvs k b, (H D = some (.dT kvs) ∨ (H D = some (.dK []) ∧ kvs = [])) ∧ y = .ref b ∧ H b = some (.tup (k.map kV)) ∧ kvs.length < sizeLine ∧ H' = upd H D (.dT (putK kvs k z)))
section
variable {X : Cx} {pins : List (Addr × Obj)} {σ : L2.St} {H : Hp} {s : Shared} {D : Addr}
theorem upd_twice {H : Hp} {a : Addr} {o u : HO} : upd (upd H a u) a o = upd H a o := by
  funext b
  unfold upd
  split <;> rfl
theorem dset_ok {E : Value → Shared → Prop} {y z : V} {u r : Value} {H' : Hp} {Q : Unit → Shared → Prop} (hu : X.A.units + 1 < cLine) (I : L2.Inv X pins σ H s) (w : Wr H D y z H') (ry : RelV y u) (rz : RelV z r) (h : ∀ s', L2.Inv X pins σ H' s' → Q () s') :
    wpAny (model X.prog X.w) X.A (dictSet D u r) Q E s := by
  rcases w with ⟨kvs, k, hD, rfl, hl, rfl⟩ | ⟨kvs, k, b, hD, rfl, hb, hl, rfl⟩
  · exact d_dictSet I hD hl ry rz h
  · have J : ∃ H0, L2.Inv X pins σ H0 s ∧ H0 D = some (.dT kvs) ∧ H0 b = some (.tup (k.map kV)) ∧ upd H0 D (.dT (putK kvs k z)) = upd H D (.dT (putK kvs k z)) := by
      rcases hD with hD | ⟨hD, rfl⟩
      · exact ⟨H, I, hD, hb, rfl⟩
      · have ob := I.hok D _ hD
        have some_ : ∃ o, s.heap.get? D = some o := by obtain ⟨_, _, _, _, o, _, _, h1, _⟩ := ob; exact ⟨o, h1⟩
        exact ⟨_, recast I hD trivial some_ (empty_dT ob), upd_same, by rw [upd_ne (ne_of hb hD (by intro z; cases z))]; exact hb, upd_twice⟩
    obtain ⟨H0, J, e0, eb, eu⟩ := J
    obtain rfl : u = Value.ref b := ry
    obtain ⟨len, nosys, xs, rel, dd⟩ := dt_of J.hok e0
    have xl : xs.length ≤ sizeLine := by rw [← Paired.length rel]; exact len
    have nl : (putK kvs k z).length ≤ sizeLine := by have := length_putK kvs k z; omega
    refine wpAny_dictSet_heap (hsz := xl) (show X.A.units < cLine by omega) (key_of J.hok eb) dd fun h' dd' same => h _ ?_
    obtain ⟨q, es, ep, hq, h2, h3, h4, _, h5⟩ := dd'
    rw [← eu]
    refine d_write J (by rw [e0]; exact True.intro) same ⟨q, hq⟩ ⟨nl, nosys, _, (rel.put k eb rz).keeps fun c ys ec => ?_, q, es, ep, hq, h2, h3, h4, h5⟩
    rw [upd_ne (ne_of ec e0 (fun z => nomatch z))]
    exact ec
end
section
variable {X : Cx}
def tDcM (wi : TI) (g : TG) (tt : TT) (tk tv : TE) (vs : List Nat) : TE := fun σ H Q => wi σ H fun J H1 => ∀ D, H1 D = none → ∃ P : Nat → Nat → Hp → Prop, (∃ m, P 0 m (upd H1 D (.dK []))) ∧ ∀ i m H, P i m H →
  (J.stop i H ∧ Q (.ref D) H) ∨ (J.go i H ∧ ∃ Nx : Hp → Prop, (∀ H', Nx H' → ∃ m', m' < m ∧ P (i + 1) m' H') ∧ ∀ x H', J.yld i H x H' → g x (wipe σ vs) H' fun σ2 H2 => wipe σ2 vs = wipe σ vs ∧ tt σ2 H2 fun b H3 =>
    if b = true then tk σ2 H3 fun y H4 => tv σ2 H4 fun z H5 => ∃ H6, Wr H5 D y z H6 ∧ Nx H6 else Nx H3)
theorem dc_run {pins : List (Addr × Obj)} {s : Shared} {σ : L2.St} {H : Hp} {Q : VK} {kx vx tg iter : Expr} {ifs : List Expr} {scope : Scope} {own : List (Str × Nat)} {pos pos' : Pos} {wi : TI} {g : TG} {tt : TT} {tk tv : TE} {Qf : Value → Shared → Prop}
    (hu : X.A.units + 1 < cLine) (calm : X.calm = true) (nd : X.N.Nodup) (I : L2.Inv X pins σ H s) (pi : PI X tg iter wi) (bo : BlkOk X.N X.env.scope scope own)
    (pg : ∀ (s : Shared) (H : Hp) (L : Addr) (cl : List (Str × Addr)) (fp : List Addr), PG (X.blk s H scope (compEnvC scope cl L X.env) fp) tg g) (pt : ∀ (s : Shared) (H : Hp) (L : Addr) (cl : List (Str × Addr)) (fp : List Addr), PTs (X.blk s H scope (compEnvC scope cl L X.env) fp) ifs tt)
    (pk : ∀ (s : Shared) (H : Hp) (L : Addr) (cl : List (Str × Addr)) (fp : List Addr), PE (X.blk s H scope (compEnvC scope cl L X.env) fp) kx tk) (pv : ∀ (s : Shared) (H : Hp) (L : Addr) (cl : List (Str × Addr)) (fp : List Addr), PE (X.blk s H scope (compEnvC scope cl L X.env) fp) vx tv)
    (ns : ∀ x, foldedSetIterable iter X.env x = pure x) (q : tDcM wi g tt tk tv (own.map (·.2)) σ H Q)
    (fin : ∀ D L s' m H', L2.Inv X pins σ H' s' → Q (.ref D) H' → s'.heap.Ns L m → FpOk X pins H' L → compPost (model X.prog X.w) X.A X.xe none Qf (.ref D) L (.ok .next) s') :
    wpAny (model X.prog X.w) X.A (comprehension (.DictComp kx vx [⟨tg, iter, ifs, 0⟩] scope pos) scope X.env pos' newDict false (eval iter X.env) none) Qf X.xe s := by
  have frees : ∀ y ∈ scope.names, y.2 = .free → ∃ c, X.env.cells.lookup y.1 = some c := fun y hy e => (bo.free y hy e).elim (fun k => I.ok.has _ (.inl k)) fun k => I.ok.has _ (.inr k)
  apply wpAny_comprehension_free (use := none) rfl ns (closure_ok frees) bo.kind (fun y hy e => by rw [bo.uniq y hy, e])
  refine L2.thn (pi.run pins s σ H _ I q) fun xv sa ha => L2.thn ha fun itv sb hb => ?_
  obtain ⟨it, fp, tn, J, Hb, rfl, Ib, T, tb, fb, q⟩ := hb
  refine wpAny_newObj_type (newEnv_comp ?_)
  generalize dD : sb.heap.objs.size = D
  have freshD : Hb D = none := Ib.hok.fresh (Nat.le_of_eq dD)
  obtain ⟨P, ⟨m0, start_⟩, turn⟩ := q D freshD
  generalize dsc : ({ sb with heap := sb.heap.push { cls := .type "dict", data := .dict #[] } } : Shared) = sc
  have hc : sc.heap = sb.heap.push { cls := .type "dict", data := .dict #[] } := by rw [← dsc]
  have Ic : L2.Inv X pins σ (upd Hb D (.dK [])) sc := by
    rw [← dsc, ← dD]
    exact Ib.laid (t' := sb.toks) (fun b o e => Heap.get?_push_of_some _ e) (Nat.le_refl _) (dk_empty sb.heap Ib.big)
  have below : ∀ b ∈ fp, b < sb.heap.objs.size := fun b m => by
    obtain ⟨o, e, _⟩ := T.obj _ _ tb b m
    exact Heap.lt_size e
  have fc : ∀ b ∈ fp, FpOk X pins (upd Hb D (.dK [])) b ∧ b < sc.heap.objs.size := fun b m => by
    have lt := below b m
    refine ⟨⟨?_, (fb b m).2⟩, by rw [hc, Heap.size_push]; exact Nat.lt_succ_of_lt lt⟩
    rw [upd_ne (by rw [← dD]; exact Nat.ne_of_lt lt)]
    exact (fb b m).1
  have tc : tn 0 sc.heap := T.keep _ _ _ tb fun b _ o e => by rw [hc]; exact Heap.get?_push_of_some _ e
  have Id := block_start Ic bo nd fc
  generalize dcl : cellsFrom (sc.heap.objs.size + 1) scope.names (cloFrom X.env.cells scope.names []) = cl at Id ⊢
  have g1 := pg sc (upd Hb D (.dK [])) sc.heap.objs.size cl fp
  have g2 := pt sc (upd Hb D (.dK [])) sc.heap.objs.size cl fp
  have g3 := pk sc (upd Hb D (.dK [])) sc.heap.objs.size cl fp
  have g4 := pv sc (upd Hb D (.dK [])) sc.heap.objs.size cl fp
  have free_ : ∀ b ∈ fp, (upd Hb D (.dK [])) b = none := fun b m => (fc b m).1.1
  show codeAny _ _ (.compStart (.DictComp kx vx [⟨tg, iter, ifs, 0⟩] scope pos) 0 (.ref it) (.ref D) (compEnvC scope cl sc.heap.objs.size X.env)) (compPost (model X.prog X.w) X.A X.xe none Qf (.ref D) sc.heap.objs.size) { sc with heap := pushCells (sc.heap.push { cls := .type "dict", data := .dict #[] }) scope.names }
  generalize dce : compEnvC scope cl sc.heap.objs.size X.env = ce at Id g1 g2 g3 g4 ⊢
  have locs : ce.locals = sc.heap.objs.size := by subst dce; rfl
  generalize dH : upd Hb D (.dK []) = Hc at Ic Id g1 g2 g3 g4 start_ free_ fc
  generalize dsd : ({ sc with heap := pushCells (sc.heap.push { cls := .type "dict", data := .dict #[] }) scope.names } : Shared) = sd at Id ⊢
  have td : tn 0 sd.heap := T.keep _ _ _ tc fun b _ o e => by rw [← dsd]; exact pushCells_keeps _ _ _ _ (Heap.get?_push_of_some _ e)
  have still_ : ∀ {σ' : L2.St} {H' : Hp} {s' : Shared}, L2.Inv (X.blk sc Hc scope ce fp) [] σ' H' s' → (∀ b ∈ fp, H' b = none) → ∀ b ∈ fp, FpOk (X.blk sc Hc scope ce fp) [] H' b := fun {σ' H' s'} I' n b m =>
    ⟨n b m, (I'.ok.exf b m).1, I'.ok.exfs b m, .inl m, fun x c e => (I'.ok.exf b m).2 x c e, fun p hp => by cases hp⟩
  have loop : codeAny (model X.prog X.w) X.A (.compLoop (.DictComp kx vx [⟨tg, iter, ifs, 0⟩] scope pos) 0 (.ref it) (.ref D) ce) (compPost (model X.prog X.w) X.A X.xe none Qf (.ref D) sc.heap.objs.size) sd := by
    refine compLoop_anyD (fun n s' => ∃ i H', L2.Inv (X.blk sc Hc scope ce fp) [] (wipe σ (own.map (·.2))) H' s' ∧ tn i s'.heap ∧ (∀ b ∈ fp, H' b = none) ∧ P i n H') ?_ m0 ⟨0, Hc, Id, td, free_, start_⟩
    rintro n s5 ⟨i, H5, I5, t5, n5, w5⟩
    rcases turn i n H5 w5 with ⟨stop, qq⟩ | ⟨go, Nx, less, step⟩
    · refine thnF (T.done (X.blk sc Hc scope ce fp) rfl rfl rfl calm i [] s5 _ H5 (fun _ _ => False) I5 (still_ I5 n5) t5 stop) fun r s6 ⟨er, I6⟩ => ?_
      subst er
      have I7 : L2.Inv X pins σ H5 s6 := Ic.call' (ch := fp) I6.os I6.base I6.hok I6.bare fun b m => ⟨(fc b m).1.2.2.2.1, (fc b m).1.2.1, (fc b m).1.2.2.2.2.1, (fc b m).1.2.2.2.2.2⟩
      have gone : H5 sc.heap.objs.size = none := by rw [← locs]; exact I6.free
      obtain ⟨m, hn, _⟩ := I6.loc
      have hn : s6.heap.Ns sc.heap.objs.size m := by rw [← locs]; exact hn
      exact fin D sc.heap.objs.size s6 m H5 I7 qq hn (Ic.fpOk (Nat.le_refl _) gone)
    · refine thnF (T.item (X.blk sc Hc scope ce fp) rfl rfl rfl calm i [] s5 _ H5 (fun _ _ => False) I5 (still_ I5 n5) t5 go) fun r s6 ⟨u, er, h6⟩ => ?_
      subst er
      refine thnF h6 fun _ s7 ⟨x, H7, I7, r7, y7, t7, n7⟩ => ?_
      refine thnF (g1.run _ s7 _ H7 x u _ (I7.pinned (still_ I7 n7) (T.obj _ _ t7)) r7 (step x H7 y7)) fun _ s8 ⟨σ8, H8, I8, w8, q8⟩ => ?_
      have back : ∀ {s' : Shared} {H' : Hp}, L2.Inv (X.blk sc Hc scope ce fp) ([] ++ pinsAt fp s7.heap) σ8 H' s' → Nx H' → ∃ m, m < n ∧ ∃ i H', L2.Inv (X.blk sc Hc scope ce fp) [] (wipe σ (own.map (·.2))) H' s' ∧ tn i s'.heap ∧ (∀ b ∈ fp, H' b = none) ∧ P i m H' := fun {s' H'} I' nx => by
        obtain ⟨m', lt, w'⟩ := less H' nx
        have pin_ : ∀ b ∈ fp, ∀ o, s7.heap.get? b = some o → s'.heap.get? b = some o ∧ H' b = none := fun b m o e =>
          have z := I'.pin (b, o) (List.mem_append_right _ (List.mem_append_right _ (mem_pinsAt m e)))
          ⟨z.1, z.2.1⟩
        refine ⟨m', lt, i + 1, H', (I'.unpinned (pins := [])).weak (by rw [← w8, wipe_length]) (fun j v e => ?_), T.keep _ _ _ t7 fun b m o e => (pin_ b m o e).1, fun b m => ?_, w'⟩
        · rw [← w8] at e
          exact (wipe_some e).1
        · obtain ⟨o, e, _⟩ := T.obj _ _ t7 b m
          exact (pin_ b m o e).2
      refine thnF (g2.run _ s8 σ8 H8 _ I8 q8) fun b s9 ⟨H9, I9, q9⟩ => ?_
      cases b with
      | false =>
        simp only [Bool.false_eq_true, if_false] at q9 ⊢
        exact back I9 q9
      | true =>
        simp only [if_true] at q9 ⊢
        refine thnF (g3.run _ s9 σ8 H9 _ I9 q9) fun kv s10 ⟨yk, H10, I10, r10, q10⟩ => thnF (g4.run _ s10 σ8 H10 _ I10 q10) fun vv s11 ⟨yv, H11, I11, r11, H12, wr, nx⟩ => ?_
        exact dset_ok (X := X.blk sc Hc scope ce fp) hu I11 wr r10 r11 fun s12 I12 => back I12 nx
  exact codeAny_compStart_dict loop (T.self X.A 0 _ _ _ td loop)
theorem pe_dcM {kx vx tg iter : Expr} {ifs : List Expr} {scope : Scope} {own : List (Str × Nat)} {pos : Pos} {wi : TI} {g : TG} {tt : TT} {tk tv : TE}
    (hu : X.A.units + 1 < cLine) (calm : X.calm = true) (nd : X.N.Nodup) (pi : PI X tg iter wi) (bo : BlkOk X.N X.env.scope scope own)
    (pg : ∀ (s : Shared) (H : Hp) (L : Addr) (cl : List (Str × Addr)) (fp : List Addr), PG (X.blk s H scope (compEnvC scope cl L X.env) fp) tg g) (pt : ∀ (s : Shared) (H : Hp) (L : Addr) (cl : List (Str × Addr)) (fp : List Addr), PTs (X.blk s H scope (compEnvC scope cl L X.env) fp) ifs tt)
    (pk : ∀ (s : Shared) (H : Hp) (L : Addr) (cl : List (Str × Addr)) (fp : List Addr), PE (X.blk s H scope (compEnvC scope cl L X.env) fp) kx tk) (pv : ∀ (s : Shared) (H : Hp) (L : Addr) (cl : List (Str × Addr)) (fp : List Addr), PE (X.blk s H scope (compEnvC scope cl L X.env) fp) vx tv)
    (ns : ∀ x, foldedSetIterable iter X.env x = pure x) : PE X (.DictComp kx vx [⟨tg, iter, ifs, 0⟩] scope pos) (tDcM wi g tt tk tv (own.map (·.2))) := by
  refine ⟨fun pins s σ H Q I q => ?_⟩
  rw [arm_eval_DictComp]
  refine dc_run hu calm nd I pi bo pg pt pk pv ns q fun D L s' m H' I' q' hn f => ⟨m, hn, fun h'' same => ?_⟩
  obtain ⟨a0, a1, a2, a3, a4, a5⟩ := f
  exact ⟨.ref D, H', I'.turned (t' := s'.toks) (fun b o nb e => (same.2 b nb).trans e) a0 a1 a3 a4 a5, rfl, q'⟩
end
end Ev

set_option Elab.async false
set_option linter.all false
set_option maxRecDepth 100000
set_option maxHeartbeats 8000000
namespace Ev
open PySem PySem.Spec L2

def keyP (p : AV × AV) : Option (Key × AV) := (p.1.keyOf).map fun k => (k, p.2)
def keyT (p : AV × AV) : Option (List Key × AV) := match p.1 with
  | .tup xs => (xs.mapM AV.keyOf).map fun k => (k, p.2)
  | _ => none
abbrev putsA {κ : Type} [DecidableEq κ] (kvs : List (κ × AV)) : List (κ × AV) := kvs.foldl (fun d p => putA d p.1 p.2) []
theorem dictOf_eq (ps : List (AV × AV)) : dictOf ps = match ps.mapM keyP with
    | some kvs => some (.dk (putsA kvs))
    | none => match ps.mapM keyT with
      | some kvs => some (.dt (putsA kvs))
      | none => none := rfl
theorem mapM_snoc {α β : Type} {f : α → Option β} {xs : List α} {x : α} : (xs ++ [x]).mapM f = (xs.mapM f).bind fun ys => (f x).map fun y => ys ++ [y] := by
  rw [List.mapM_append]
  cases xs.mapM f with
  | none => rfl
  | some ys =>
    show ((do let b ← [x].mapM f; pure (ys ++ b)) : Option (List β)) = _
    cases e : f x with
    | none => simp [List.mapM_cons, e]
    | some y => simp [List.mapM_cons, e]
theorem puts_snoc {κ : Type} [DecidableEq κ] (kvs : List (κ × AV)) (k : κ) (v : AV) : putsA (kvs ++ [(k, v)]) = putA (putsA kvs) k v := by
  simp [putsA, List.foldl_append]
theorem putA_len {κ : Type} [DecidableEq κ] (kvs : List (κ × AV)) (k : κ) (v : AV) : (putA kvs k v).length ≤ kvs.length + 1 := by
  unfold putA
  split
  · rw [List.length_map]; omega
  · simp
theorem puts_len {κ : Type} [DecidableEq κ] : ∀ (n : Nat) (kvs : List (κ × AV)), kvs.length = n → (putsA kvs).length ≤ n
  | 0, kvs, h => by
    have : kvs = [] := List.eq_nil_of_length_eq_zero h
    subst this; simp [putsA]
  | n + 1, kvs, h => by
    obtain ⟨init, ⟨k, v⟩, rfl⟩ : ∃ init last, kvs = init ++ [last] := ⟨kvs.dropLast, kvs.getLast (by intro z; subst z; simp at h), (List.dropLast_concat_getLast _).symm⟩
    rw [puts_snoc]
    have := putA_len (putsA init) k v
    have := puts_len n init (by simpa using h)
    omega
theorem mapM_len {α β : Type} {f : α → Option β} : ∀ {xs : List α} {ys : List β}, xs.mapM f = some ys → ys.length = xs.length
  | [], ys, e => by rw [mapM_nil_some e]; rfl
  | x :: xs, ys, e => by
    obtain ⟨y, zs, _, e2, rfl⟩ := mapM_cons_some e
    simp [mapM_len e2]
/-- a prefix is a dict, too -/
theorem dictOf_pre {ps : List (AV × AV)} {p : AV × AV} {o : AO} (e : dictOf (ps ++ [p]) = some o) : ∃ o', dictOf ps = some o' := by
  rw [dictOf_eq] at e ⊢
  cases e1 : ps.mapM keyP with
  | some kvs => exact ⟨_, rfl⟩
  | none =>
    rw [mapM_snoc, e1] at e
    simp only [Option.bind] at e
    cases e2 : ps.mapM keyT with
    | some kvs => exact ⟨_, rfl⟩
    | none =>
      rw [mapM_snoc, e2] at e
      simp at e
theorem dictOf_pre' : ∀ {rest ps : List (AV × AV)} {o : AO}, dictOf (ps ++ rest) = some o → ∃ o', dictOf ps = some o'
  | [], ps, o, e => ⟨o, by simpa using e⟩
  | p :: rest, ps, o, e => by
    have e : dictOf ((ps ++ [p]) ++ rest) = some o := by simpa using e
    obtain ⟨o', e'⟩ := dictOf_pre' e
    exact dictOf_pre e'
theorem keyT_key {p : AV × AV} {k : Key × AV} {t : List Key × AV} (h1 : keyP p = some k) (h2 : keyT p = some t) : False := by
  obtain ⟨a, b⟩ := p
  cases a <;> simp [keyP, keyT, AV.keyOf] at h1 h2
section
variable {K : PySem.W.Frag} {C : Nat → Addr} {ρ : List Addr} {H : Hp}
/-- one more pair -/
theorem dict_step {acc : List (AV × AV)} {w u : AV} {y z : V} {D : Addr} {oa ob : AO} (ea : dictOf acc = some oa) (eb : dictOf (acc ++ [(w, u)]) = some ob) (ro : RO K C ρ H D oa) (rw_ : RV K ρ H w y) (ru : RV K ρ H u z) (hz : acc.length < sizeLine) :
    ∃ v, Wr H D y z (upd H D v) ∧ RO K C ρ (upd H D v) D ob := by
  obtain ⟨uo, hD, mu⟩ := ro.mut
  rw [dictOf_eq] at ea eb
  rw [mapM_snoc, mapM_snoc] at eb
  cases e1 : acc.mapM keyP with
  | some kvs =>
    rw [e1] at ea eb
    cases ea
    have len : (putsA kvs).length < sizeLine := Nat.lt_of_le_of_lt (puts_len _ kvs (mapM_len e1)) hz
    obtain ⟨ys, hy, rp⟩ := ro
    cases e2 : keyP (w, u) with
    | some p =>
      obtain ⟨k, ek, rfl⟩ : ∃ k, w.keyOf = some k ∧ p = (k, u) := by
        simp only [keyP, Option.map_eq_some_iff] at e2
        obtain ⟨k, ek, e⟩ := e2
        exact ⟨k, ek, e.symm⟩
      rw [e2] at eb
      simp only [Option.bind, Option.map] at eb
      cases eb
      have ey := key_v ek rw_
      subst ey
      have ex : Ext H (upd H D (.dK (putK ys k z))) := Ext.put hD mu
      have new := (rp_put (k := k) rp ru).mono [] ex
      rw [List.append_nil] at new
      exact ⟨_, .inl ⟨ys, k, hy, rfl, by rw [← rp_len rp]; exact len, rfl⟩, _, upd_same, by rw [puts_snoc]; exact new⟩
    | none =>
      rw [e2] at eb
      simp only [Option.bind, Option.map] at eb
      cases acc with
      | cons p r =>
        exfalso
        obtain ⟨q, qs, q1, _, _⟩ := mapM_cons_some e1
        cases e3 : (p :: r).mapM keyT with
        | none => rw [e3] at eb; simp at eb
        | some ts =>
          obtain ⟨t, _, t1, _, _⟩ := mapM_cons_some e3
          exact keyT_key q1 t1
      | nil =>
        have : kvs = [] := mapM_nil_some e1
        subst this
        cases e4 : keyT (w, u) with
        | none => rw [e4] at eb; simp at eb
        | some p =>
          rw [e4] at eb
          simp only [List.mapM_nil, Option.pure_def, List.nil_append, Option.some.injEq] at eb
          cases w with
          | tup xs =>
            simp only [keyT, Option.map_eq_some_iff] at e4
            obtain ⟨ks, ek, rfl⟩ := e4
            obtain ⟨b, zs, rfl, hb, rb⟩ := tup_inj rw_
            have ez := keys_v ek rb
            subst ez
            subst eb
            cases rp
            have ex : Ext H (upd H D (.dT (putK [] ks z))) := Ext.put hD mu
            have new := (rp_put (k := ks) (xs := []) (ys := []) RP.nil ru).mono [] ex
            rw [List.append_nil] at new
            exact ⟨_, .inr ⟨[], ks, b, .inr ⟨hy, rfl⟩, rfl, hb, by decide, rfl⟩, _, upd_same, new⟩
          | _ => simp [keyT] at e4
  | none =>
    rw [e1] at ea eb
    simp only [Option.bind] at eb
    cases e3 : acc.mapM keyT with
    | none => rw [e3] at ea; cases ea
    | some kvs =>
      rw [e3] at ea eb
      cases ea
      have len : (putsA kvs).length < sizeLine := Nat.lt_of_le_of_lt (puts_len _ kvs (mapM_len e3)) hz
      obtain ⟨ys, hy, rp⟩ := ro
      cases e4 : keyT (w, u) with
      | none => rw [e4] at eb; simp at eb
      | some p =>
        rw [e4] at eb
        simp only [Option.map, Option.some.injEq] at eb
        cases w with
        | tup xs =>
          simp only [keyT, Option.map_eq_some_iff] at e4
          obtain ⟨ks, ek, rfl⟩ := e4
          obtain ⟨b, zs, rfl, hb, rb⟩ := tup_inj rw_
          have ez := keys_v ek rb
          subst ez
          subst eb
          have ex : Ext H (upd H D (.dT (putK ys ks z))) := Ext.put hD mu
          have new := (rp_put (k := ks) rp ru).mono [] ex
          rw [List.append_nil] at new
          exact ⟨_, .inr ⟨ys, ks, b, .inl hy, rfl, hb, by rw [← rp_len rp]; exact len, rfl⟩, _, upd_same, by rw [puts_snoc]; exact new⟩
        | _ => simp [keyT] at e4
end
theorem loopD_pre {w : List (Nat × List AV)} {body : AV → AH → Res (Option (AV × AV))} : ∀ {items : List AV} {acc vs : List (AV × AV)} {h h' : AH}, loopD w body items acc h = .ok vs h' → ∃ rest, vs = acc ++ rest
  | [], acc, vs, h, h', e => by
    unfold loopD at e
    split at e
    · cases e; exact ⟨[], by simp⟩
    · cases e
  | x :: r, acc, vs, h, h', e => by
    unfold loopD at e
    split at e
    · split at e
      · split at e
        · obtain ⟨rest, q⟩ := loopD_pre e
          exact ⟨[_] ++ rest, by rw [q, List.append_assoc]⟩
        · cases e
      · exact loopD_pre e
      · cases e
    · cases e
theorem loopD_ex {w : List (Nat × List AV)} {body : AV → AH → Res (Option (AV × AV))} {c : Nat} {fs : List (Str × AV)} {h2 : AH} : ∀ {items : List AV} {acc : List (AV × AV)} {h : AH}, loopD w body items acc h = .ex c fs h2 → False
  | [], acc, h, z => by
    unfold loopD at z
    split at z <;> cases z
  | x :: r, acc, h, z => by
    unfold loopD at z
    split at z
    · split at z
      · split at z
        · exact loopD_ex z
        · cases z
      · exact loopD_ex z
      · cases z
    · cases z
section
variable {K : PySem.W.Frag} {C : Nat → Addr}
abbrev dcF (t : Tg) (own : List Nat) (fi : Sl → AH → Res Src) (fc : Sl → AH → Res Bool) (fk fe : Sl → AH → Res AV) : Sl → AH → Res AV := fun σ h => (fi σ h).bind fun src h1 => (loopD src.watch (dcmpBody t own σ fc fk fe) src.items [] h1).bind fun vs h6 => match dictOf vs with
      | some o => lay o h6
      | none => .no
theorem tDc_of {W : WX} {t : Tg} {own : List Nat} {fi : Sl → AH → Res Src} {fc : Sl → AH → Res Bool} {fk fe : Sl → AH → Res AV} (sub : ∀ j ∈ t.slots, j ∈ own) {σ : L2.St} {H : Hp} {Q : VK} (q : At K C (RV K) W (dcF t own fi fc fk fe) σ H Q) :
    tDcM (At K C (Wk K C) W fi) (gT K t) (At K C RQ NoW fc) (At K C (RV K) NoW fk) (At K C (RV K) NoW fe) own σ H Q := by
  obtain ⟨ρ, as, h, rs, sr, p⟩ := q
  refine ⟨ρ, as, h, rs, sr, ?_⟩
  simp only [dcF] at p
  cases ei : fi as h with
  | no => simp only [ei, Res.bind] at p; exact p
  | ex c fs h1 => simp only [ei, Res.bind] at p; exact p
  | ok src h1 =>
    simp only [ei, Res.bind] at p
    intro ρ1 H1 J s1 e1 f1 wk D hD
    have hD0 : H D = none := by
      cases z : H D with
      | none => rfl
      | some u =>
        obtain ⟨u', z'⟩ := f1.dom D u z
        rw [hD] at z'; cases z'
    cases el : loopD src.watch (dcmpBody t own as fc fk fe) src.items [] h1 with
    | no => simp only [el] at p; exact p.elim
    | ex c fs h2 => exact (loopD_ex el).elim
    | ok vs h6 =>
    simp only [el] at p
    cases ed : dictOf vs with
    | none => simp only [ed] at p; exact p.elim
    | some oo =>
    simp only [ed] at p
    have eL : Ext H1 (upd H1 D (.dK [])) := Ext.laid hD
    refine ⟨fun i m H' => ∃ (ρ2 : List Addr) (acc : List (AV × AV)) (h' : AH) (oa : AO), m = src.items.length - i ∧ i ≤ src.items.length ∧ SR K C (ρ ++ (ρ1 ++ ρ2)) h' H' ∧ Ext H1 H' ∧ Fr ρ (ρ1 ++ ρ2) H H' ∧ D ∉ ρ ++ (ρ1 ++ ρ2) ∧ dictOf acc = some oa ∧ RO K C (ρ ++ (ρ1 ++ ρ2)) H' D oa ∧
      loopD src.watch (dcmpBody t own as fc fk fe) (src.items.drop i) acc h' = .ok vs h6, ⟨_, [], [], h1, .dk [], rfl, Nat.zero_le _, ?_, eL, ?_, ?_, rfl, ⟨[], upd_same, .nil⟩, el⟩, ?_⟩
    · rw [List.append_nil]; exact s1.off hD
    · rw [List.append_nil]; exact (f1.trans (Fr.laid (ρ' := []) hD (by simp))).nil_app
    · rw [List.append_nil]; exact s1.fresh hD
    rintro i m H' ⟨ρ2, acc, h', oa, rfl, hi, sr', e', f', nD, ea, ro, p'⟩
    have wk' := wk ρ2 h' H' i (by rw [List.append_assoc]; exact sr') e'
    by_cases end_ : i = src.items.length
    · subst end_
      rw [List.drop_length] at p'
      unfold loopD at p'
      split at p'
      · next st =>
        cases p'
        rw [ed] at ea
        cases ea
        refine .inl ⟨(wk' st).1 rfl, ?_⟩
        have s2 : SR K C (ρ ++ ((ρ1 ++ ρ2) ++ [D])) (h6 ++ [oo]) H' := by
          have := sr'.add (p := D) (o := oo) nD (ro.mono [D] (Ext.refl _) rfl)
          simpa [List.append_assoc] using this
        refine p ((ρ1 ++ ρ2) ++ [D]) H' (.ref D) s2 (e1.trans e') ⟨f'.keep, fun a m => ?_, f'.dom⟩ (.loc ?_)
        · rcases List.mem_append.mp m with z | z
          · exact f'.new a z
          · simp only [List.mem_singleton] at z; rw [z]; exact hD0
        · have := sr'.len
          rw [this, ← List.append_assoc]; simp
      · cases p'
    · have hlt : i < src.items.length := by omega
      rw [List.drop_eq_getElem_cons hlt] at p'
      unfold loopD at p'
      split at p'
      · next st =>
        obtain ⟨hgo, hy⟩ := (wk' st).2 src.items[i] (by simp [hlt])
        refine .inr ⟨hgo, fun H'' => ∃ (ρ3 : List Addr) (acc' : List (AV × AV)) (h'' : AH) (ob : AO), SR K C (ρ ++ (ρ1 ++ ρ3)) h'' H'' ∧ Ext H1 H'' ∧ Fr ρ (ρ1 ++ ρ3) H H'' ∧ D ∉ ρ ++ (ρ1 ++ ρ3) ∧ dictOf acc' = some ob ∧ RO K C (ρ ++ (ρ1 ++ ρ3)) H'' D ob ∧
          loopD src.watch (dcmpBody t own as fc fk fe) (src.items.drop (i + 1)) acc' h'' = .ok vs h6, ?_, ?_⟩
        · rintro H'' ⟨ρ3, acc', h'', ob, a1, a2, a3, a4, a5, a6, a7⟩
          exact ⟨src.items.length - (i + 1), by omega, ρ3, acc', h'', ob, rfl, hlt, a1, a2, a3, a4, a5, a6, a7⟩
        intro x H2 yl
        obtain ⟨sr2, e2, f2, rx⟩ := hy x H2 yl
        rw [List.append_assoc] at sr2 f2 rx
        obtain ⟨uo, hD', mu⟩ := ro.mut
        have hD2 : H2 D = some uo := f2.keep D _ hD' nD
        have F2 : Fr ρ (ρ1 ++ ρ2) H H2 := (f'.trans f2).nil_app
        have E2 : Ext H1 H2 := e'.trans e2
        have ro2 : RO K C (ρ ++ (ρ1 ++ ρ2)) H2 D oa := by
          have := ro.mono [] e2 (hD2.trans hD'.symm)
          rwa [List.append_nil] at this
        cases eb : dcmpBody t own as fc fk fe src.items[i] h' with
        | no => rw [eb] at p'; cases p'
        | ex c fs h3 => rw [eb] at p'; cases p'
        | ok ov h3 =>
        rw [eb] at p'
        unfold dcmpBody at eb
        cases ep : putT t src.items[i] (wipeA own as) with
        | none => rw [ep] at eb; cases eb
        | some as' =>
          rw [ep] at eb
          simp only at eb
          refine ⟨ρ ++ (ρ1 ++ ρ2), wipeA own as, as', src.items[i], ((rs.mono (ρ1 ++ ρ2) (e1.trans E2))).wipe own, rx, ep, fun σ' rs' stay => ⟨wipe_eq stay sub, ?_⟩⟩
          refine ⟨ρ ++ (ρ1 ++ ρ2), as', h', rs', sr2, ?_⟩
          cases ec : fc as' h' with
          | no => rw [ec] at eb; cases eb
          | ex c fs h3 => rw [ec] at eb; cases eb
          | ok b h4 =>
            simp only [ec, Res.bind] at eb
            intro ρ4 H3 b' s3 e3 f3 rb
            obtain rfl : b = b' := rb
            have nD4 : D ∉ ρ ++ (ρ1 ++ ρ2) ++ ρ4 := by
              intro z
              rcases List.mem_append.mp z with z | z
              · exact nD z
              · have := f3.new D z
                rw [hD2] at this; cases this
            have hD3 : H3 D = some uo := f3.keep D _ hD2 nD
            cases b with
            | false =>
              rw [if_neg (by decide)] at eb ⊢
              cases eb
              have as_ : ρ ++ (ρ1 ++ ρ2) ++ ρ4 = ρ ++ (ρ1 ++ (ρ2 ++ ρ4)) := by simp [List.append_assoc]
              refine ⟨ρ2 ++ ρ4, acc, _, oa, ?_, E2.trans e3, ?_, ?_, ea, ?_, p'⟩
              · rw [← as_]; exact s3
              · have FF := F2.trans f3
                simpa [List.append_assoc] using FF
              · rw [← as_]; exact nD4
              · rw [← as_]; exact ro2.mono ρ4 e3 (hD3.trans hD2.symm)
            | true =>
              rw [if_pos rfl] at eb ⊢
              refine ⟨ρ ++ (ρ1 ++ ρ2) ++ ρ4, as', h4, rs'.mono ρ4 e3, s3, ?_⟩
              cases ek : fk as' h4 with
              | no => rw [ek] at eb; cases eb
              | ex c fs h5 => rw [ek] at eb; cases eb
              | ok w1 h5 =>
                simp only [ek] at eb
                intro ρ5 H4 y s4 e4 f4 ry
                have nD5 : D ∉ ρ ++ (ρ1 ++ ρ2) ++ ρ4 ++ ρ5 := by
                  intro z
                  rcases List.mem_append.mp z with z | z
                  · exact nD4 z
                  · have := f4.new D z
                    rw [hD3] at this; cases this
                have hD4 : H4 D = some uo := f4.keep D _ hD3 nD4
                refine ⟨ρ ++ (ρ1 ++ ρ2) ++ ρ4 ++ ρ5, as', h5, (rs'.mono ρ4 e3).mono ρ5 e4, s4, ?_⟩
                cases ee : fe as' h5 with
                | no => rw [ee] at eb; cases eb
                | ex c fs h7 => rw [ee] at eb; cases eb
                | ok u1 h7 =>
                  simp only [ee] at eb
                  cases eb
                  intro ρ6 H5 z s5 e5 f5 rz
                  have nD6 : D ∉ ρ ++ (ρ1 ++ ρ2) ++ ρ4 ++ ρ5 ++ ρ6 := by
                    intro z
                    rcases List.mem_append.mp z with z | z
                    · exact nD5 z
                    · have := f5.new D z
                      rw [hD4] at this; cases this
                  have hD5 : H5 D = some uo := f5.keep D _ hD4 nD5
                  have ro5 : RO K C (ρ ++ (ρ1 ++ ρ2) ++ ρ4 ++ ρ5 ++ ρ6) H5 D oa := ((ro2.mono ρ4 e3 (hD3.trans hD2.symm)).mono ρ5 e4 (hD4.trans hD3.symm)).mono ρ6 e5 (hD5.trans hD4.symm)
                  simp only at p'
                  split at p'
                  · next hz =>
                    obtain ⟨rest, er⟩ := loopD_pre p'
                    obtain ⟨ob, eob⟩ := dictOf_pre' (rest := rest) (ps := acc ++ [(w1, u1)]) (by rw [← er]; exact ed)
                    obtain ⟨v, wr, nro⟩ := dict_step ea eob ro5 (ry.mono ρ6 e5) rz hz
                    have eD : Ext H5 (upd H5 D v) := Ext.put hD5 mu
                    have as_ : ρ ++ (ρ1 ++ ρ2) ++ ρ4 ++ ρ5 ++ ρ6 = ρ ++ (ρ1 ++ (ρ2 ++ ρ4 ++ ρ5 ++ ρ6)) := by simp [List.append_assoc]
                    refine ⟨_, wr, ρ2 ++ ρ4 ++ ρ5 ++ ρ6, _, _, ob, ?_, (((E2.trans e3).trans e4).trans e5).trans eD, ?_, ?_, eob, ?_, p'⟩
                    · rw [← as_]
                      exact s5.keep eD fun a m => upd_ne fun z => nD6 (z ▸ m)
                    · have FF := ((F2.trans f3).trans (by rw [← List.append_assoc]; exact f4)).trans (by simpa [List.append_assoc] using f5)
                      have FF : Fr ρ (ρ1 ++ (ρ2 ++ ρ4 ++ ρ5 ++ ρ6)) H H5 := by simpa [List.append_assoc] using FF
                      refine ⟨fun a u ea na => ?_, FF.new, fun a u ea => ?_⟩
                      · have ne : a ≠ D := fun z => by subst z; rw [hD0] at ea; cases ea
                        rw [upd_ne ne]; exact FF.keep a u ea na
                      · obtain ⟨u', q'⟩ := FF.dom a u ea
                        have ne : a ≠ D := fun z => by subst z; rw [hD0] at ea; cases ea
                        exact ⟨u', by rw [upd_ne ne]; exact q'⟩
                    · rw [← as_]; exact nD6
                    · rw [← as_]; exact nro
                  · cases p'
      · cases p'
end
section
variable {X : Cx} {C : Nat → Addr} {W : WX} {kx elt tg iter : Expr} {ifs : List Expr} {scope : Scope} {own : List (Str × Nat)} {t : Tg} {fi : Sl → AH → Res Src} {fc : Sl → AH → Res Bool} {fk fe : Sl → AH → Res AV} {pos : Pos}
theorem ev_dc (hu : X.A.units + 1 < cLine) (k : LcOk X C W elt tg iter ifs scope own t fi fc fe) (hk : ∀ (s : Shared) (H : Hp) (D : Addr) (cl : List (Str × Addr)) (fp : List Addr), PE (X.blk s H scope (compEnvC scope cl D X.env) fp) kx (At X.K C (RV X.K) NoW fk)) :
    PEv X C W (.DictComp kx elt [⟨tg, iter, ifs, 0⟩] scope pos) (dcF t (own.map (·.2)) fi fc fk fe) :=
  PE.weak (pe_dcM hu k.calm k.nd k.it k.blk k.tg k.ts hk k.el k.set) fun σ H Q q => tDc_of k.sub q
end
end Ev

set_option Elab.async false
set_option linter.all false
set_option maxRecDepth 100000
set_option maxHeartbeats 8000000
/-! Calls of defs, of classes, of methods. -/
namespace Ev
open PySem PySem.Spec L2
/-- a def's promise by its meaning -/
def spF (K : PySem.W.Frag) (C : Nat → Addr) (f : List AV → AH → Res AV) : Sp := fun xs H Q E => ∃ (ρ : List Addr) (h : AH) (as : List AV), SR K C ρ h H ∧ RVs K ρ H as xs ∧ Po K C (RV K) E ρ H (f as h) Q
section
variable {X : Cx} {C : Nat → Addr} {W : WX} {CX : CXT} {lv : Nat} {fa : Addr} {fd : FuncData} {pars : List Str} {x m : Str} {p pos apos : Pos} {e o : Expr} {es : List Expr} {fs : Sl → AH → Res (List AV)} {fo : Sl → AH → Res AV} {f : List AV → AH → Res AV}
abbrev WE' (W : WX) : L2.St → XK := fun σ c d H => W c d σ H
theorem tG_of {σ : L2.St} {H : Hp} {Q : VK} (q : At X.K C (RV X.K) W (fun σ h => (fs σ h).bind fun vs h1 => f vs h1) σ H Q) : tG (spF X.K C f) (WE' W) (At X.K C (RVs X.K) W fs) σ H Q :=
  At.thn (R := RVs X.K) q fun ρ as h v y H1 rs sr rr p => ⟨ρ, h, v, sr, rr, p⟩
theorem ev_call (F : FnG X.prog X.w X.K X.mg X.base CX lv fa fd pars (spF X.K C f)) (room : Room lv X.A) (grd : X.A.guards = some []) (gl : Gl X x) (is : X.mg x = some (.ref fa)) (kp : PySem.W.keepIn X.K (.ref fa) = true) (bd : Binds X.K fd pars []) (pass : ∀ σ, PassesAt CX X σ (WE' W σ))
    (ha : PAv X C W (e :: es) fs) (nd : (x == ("__debug__" : Str)) = false) (st : starEach (e :: es) X.env = (false, eval e X.env) :: starEach es X.env) (pl : (backTo pos (starEach es X.env)).any (·.1) = false) :
    PEv X C W (.Call (.Name x p) (e :: es) [] pos) (fun σ h => (fs σ h).bind fun vs h1 => f vs h1) := PE.weak (pe_G F room grd gl is kp bd pass ha nd st pl) fun _ _ _ => tG_of
theorem ev_call0 (F : FnG X.prog X.w X.K X.mg X.base CX lv fa fd pars (spF X.K C f)) (room : Room lv X.A) (grd : X.A.guards = some []) (gl : Gl X x) (is : X.mg x = some (.ref fa)) (kp : PySem.W.keepIn X.K (.ref fa) = true) (bd : Binds X.K fd pars []) (pass : ∀ σ, PassesAt CX X σ (WE' W σ))
    (nd : (x == ("__debug__" : Str)) = false) : PEv X C W (.Call (.Name x p) [] [] pos) (fun σ h => (Res.ok [] h).bind fun vs h1 => f vs h1) := PE.weak (pe_G0 F room grd gl is kp bd pass nd) fun σ H Q ⟨ρ, as, h, rs, sr, p⟩ => ⟨ρ, h, [], sr, .nil, p⟩
/-- a new instance -/
theorem ev_mk {c : Nat} (M : Mk X.K (C c) fa) (F : FnG X.prog X.w X.K X.mg X.base CX lv fa fd pars (spF X.K C f)) (room : Room (lv + 1) X.A) (grd : X.A.guards = some []) (gl : Gl X x) (is : X.mg x = some (.ref (C c))) (bd : Binds X.K fd pars []) (pass : ∀ σ, PassesAt CX X σ (WE' W σ))
    (ha : PAv X C W (e :: es) fs) (nd : (x == ("__debug__" : Str)) = false) (st : starEach (e :: es) X.env = (false, eval e X.env) :: starEach es X.env) (pl : (backTo pos (starEach es X.env)).any (·.1) = false) :
    PEv X C W (.Call (.Name x p) (e :: es) [] pos) (fun σ h => (fs σ h).bind fun vs h1 => (f (.loc h1.length :: vs) (h1 ++ [.ins c []])).bind fun v h2 => if v = .non then .ok (.loc h1.length) h2 else .no) := by
  refine PE.weak (pe_Gk M F room grd gl is bd pass ha nd st pl) fun σ H Q q => ?_
  refine At.thn (R := RVs X.K) q fun ρ as h vs ys H1 rs sr rr p => ?_
  intro a dx ha hdx ne
  have h2 : (upd H1 dx (.own a)) a = none := by rw [upd_ne (Ne.symm ne)]; exact ha
  have s1 : SR X.K C ρ h (upd H1 dx (.own a)) := sr.off hdx
  have ex1 : Ext H1 (upd H1 dx (.own a)) := Ext.laid hdx
  have ex2 : Ext (upd H1 dx (.own a)) (upd (upd H1 dx (.own a)) a (.ins (C c) dx [])) := Ext.laid h2
  have ex := ex1.trans ex2
  have s2 : SR X.K C (ρ ++ [a]) (h ++ [.ins c []]) (upd (upd H1 dx (.own a)) a (.ins (C c) dx [])) := s1.laid h2 ⟨dx, [], upd_same, .nil⟩
  have fr : Fr ρ [a] H1 (upd (upd H1 dx (.own a)) a (.ins (C c) dx [])) := by
    have := (Fr.laid (ρ := ρ) (ρ' := []) (o := .own a) hdx (by simp)).trans (Fr.laid (ρ := ρ ++ []) (ρ' := [a]) (o := .ins (C c) dx []) h2 (by simp))
    simpa using this
  have here : (ρ ++ [a])[h.length]? = some a := by rw [sr.len]; simp
  refine ⟨ρ ++ [a], h ++ [.ins c []], .loc h.length :: vs, s2, .cons (.loc here) (rr.mono [a] ex), ?_⟩
  cases ef : f (.loc h.length :: vs) (h ++ [.ins c []]) with
  | no => rw [ef] at p; exact p.elim
  | ex d fs' h3 =>
    rw [ef] at p
    intro ρ' H' d' zs s3 e3 f3 hd rp
    rw [List.append_assoc] at s3 rp
    exact p ([a] ++ ρ') H' d' zs s3 (ex.trans e3) (fr.trans f3) hd rp
  | ok v h3 =>
    simp only [ef, Res.bind] at p
    intro ρ' H' y s3 e3 f3 rv
    split at p
    · next hv =>
      subst hv
      cases rv
      refine ⟨rfl, ?_⟩
      rw [List.append_assoc] at s3
      refine p ([a] ++ ρ') H' (.ref a) s3 (ex.trans e3) (fr.trans f3) (.loc ?_)
      rw [← List.append_assoc]
      exact get_app here ρ'
    · exact p.elim
/-- a method of an instance -/
theorem tGm_of {c : Nat} {σ : L2.St} {H : Hp} {Q : VK} (q : At X.K C (RV X.K) W (fun σ h => (fo σ h).bind fun v h1 => if isIns c m v h1 then (fs σ h1).bind fun vs h2 => f (v :: vs) h2 else .no) σ H Q) :
    tGm (C c) m (spF X.K C f) (WE' W) (At X.K C (RV X.K) W fo) (At X.K C (RVs X.K) W fs) σ H Q := by
  refine At.thn (R := RV X.K) q fun ρ as h v y H1 rs sr rr p => ?_
  split at p
  · next hi =>
    cases v with
    | loc n =>
      simp only [isIns] at hi
      split at hi
      · next d fs' hn =>
        simp only [Bool.and_eq_true, decide_eq_true_eq, Option.isNone_iff_eq_none] at hi
        obtain ⟨rfl, hl⟩ := hi
        obtain ⟨a, dx, zs, rfl, _, hH, rp⟩ := sr.ins hn rr
        refine ⟨a, dx, zs, rfl, hH, rp_none rp hl, ?_⟩
        refine At.thn2 (R := RV X.K) (R2 := RVs X.K) (f := fs) (k := fun v vs h2 => f (v :: vs) h2) rs sr rr p fun ρ1 h1 vs ys H2 rs1 sr1 r1 r2 p1 => ?_
        exact ⟨ρ1, h1, _ :: vs, sr1, .cons r1 r2, p1⟩
      · cases hi
    | _ => cases hi
  · exact p.elim
theorem ev_meth {c : Nat} {pl : Sem Bool} (ho : PEv X C W o fo) (cls : Cls X.K (C c)) (me : Meth X.K (C c) m fa) (F : FnG X.prog X.w X.K X.mg X.base CX lv fa fd pars (spF X.K C f)) (room : Room lv X.A) (grd : X.A.guards = some []) (bd : Binds X.K fd pars []) (pass : ∀ σ, PassesAt CX X σ (WE' W σ)) (ha : PAv X C W (e :: es) fs)
    (st : starEach (e :: es) X.env = (false, eval e X.env) :: starEach es X.env) (np : (backTo pos (starEach es X.env)).any (·.1) = false)
    (form : eval (.Call (.Attribute o m apos) (e :: es) [] pos) X.env = (do
      let ov ← eval o X.env
      standAt apos.atName
      let (f, first) ← holding [ov] (getMethod ov m pl)
      callWith pos f first (backTo pos (starEach (e :: es) X.env)) (backToKw pos (keywordEach [] X.env)))) :
    PEv X C W (.Call (.Attribute o m apos) (e :: es) [] pos) (fun σ h => (fo σ h).bind fun v h1 => if isIns c m v h1 then (fs σ h1).bind fun vs h2 => f (v :: vs) h2 else .no) :=
  PE.weak (pe_Gm ho cls me F room grd bd pass ha st np form) fun _ _ _ => tGm_of
/-! ### methods of built-in types -/
theorem mtTy_ok {K : PySem.W.Frag} {mt : Mt} {v : AV} {h : AH} {ρ : List Addr} {H : Hp} {y : V} (e : mtTy mt v h = true) (s : SR K C ρ h H) (r : RV K ρ H v y) : tyV K (if mt = .get then "dict" else "list") y H := by
  cases v with
  | loc n =>
    simp only [mtTy] at e
    split at e
    · next xs hn =>
      have hm : mt ≠ .get := of_decide_eq_true e
      rw [if_neg hm]
      obtain ⟨a, ys, rfl, _, hH, _⟩ := s.lst hn r
      first
        | exact .inl ⟨rfl, ys, SqL.of hH⟩
        | exact .inl ⟨rfl, ys, hH⟩
        | simp [tyV, hH]
    · next kvs hn =>
      have hm : mt = .get := of_decide_eq_true e
      rw [if_pos hm]
      obtain ⟨a, ys, rfl, _, hH, _⟩ := s.dk hn r
      simp [tyV, hH]
    · next kvs hn =>
      have hm : mt = .get := of_decide_eq_true e
      rw [if_pos hm]
      obtain ⟨a, ys, rfl, _, hH, _⟩ := s.dt hn r
      simp [tyV, hH]
    · cases e
  | _ => cases e
end
end Ev

set_option Elab.async false
set_option linter.all false
set_option maxRecDepth 100000
set_option maxHeartbeats 8000000
namespace Ev
open PySem PySem.Spec L2
section
variable {X : Cx} {C : Nat → Addr} {W : WX} {apos cpos : Pos} {e o : Expr} {es : List Expr} {fs : Sl → AH → Res (List AV)} {fo : Sl → AH → Res AV}
abbrev mtF (m : Mt) (fo : Sl → AH → Res AV) (fs : Sl → AH → Res (List AV)) : Sl → AH → Res AV := fun σ h => (fo σ h).bind fun v h1 => if mtTy m v h1 then (fs σ h1).bind fun vs h2 => mtOp m v vs h2 else .no
theorem tBM_of {m : Mt} {T : String} (hT : T = if m = .get then "dict" else "list") {r : V → List V → Hp → VK → Prop} (hr : ∀ x xs H Q, (∃ y ys, xs = y :: ys) → rMt X.K C (mtOp m) x xs H Q → r x xs H Q) {σ : L2.St} {H : Hp} {Q : VK} (q : At X.K C (RV X.K) W (mtF m fo fs) σ H Q)
    (ne : ∀ σ H S, At X.K C (RVs X.K) W fs σ H S → At X.K C (RVs X.K) W fs σ H fun xs H1 => (∃ y ys, xs = y :: ys) ∧ S xs H1) : tBM X.K T r (At X.K C (RV X.K) W fo) (At X.K C (RVs X.K) W fs) σ H Q := by
  subst hT
  refine At.thn (R := RV X.K) q fun ρ as h v y H1 rs sr rr p => ?_
  split at p
  · next ht =>
    refine ⟨mtTy_ok ht sr rr, ?_⟩
    have a1 : At X.K C (RVs X.K) W fs σ H1 fun xs H2 => rMt X.K C (mtOp m) y xs H2 Q := At.thn2 (R := RV X.K) (R2 := RVs X.K) (f := fs) (k := fun v vs h2 => mtOp m v vs h2) rs sr rr p fun ρ1 h1 vs ys H2 rs1 sr1 r1 r2 p1 => ⟨ρ1, h1, v, vs, _, sr1, r1, r2, p1⟩
    obtain ⟨ρ', as', h', rs', sr', p'⟩ := ne _ _ _ a1
    exact ⟨ρ', as', h', rs', sr', p'.imp fun xs H2 ⟨hx, q⟩ => hr _ _ _ _ hx q⟩
  · exact p.elim
theorem cons_ne {fe : Sl → AH → Res AV} {fr : Sl → AH → Res (List AV)} : ∀ (σ : L2.St) (H : Hp) (S : List V → Hp → Prop), At X.K C (RVs X.K) W (fun σ h => (fe σ h).bind fun v h1 => (fr σ h1).bind fun vs h2 => .ok (v :: vs) h2) σ H S →
    At X.K C (RVs X.K) W (fun σ h => (fe σ h).bind fun v h1 => (fr σ h1).bind fun vs h2 => .ok (v :: vs) h2) σ H fun xs H1 => (∃ y ys, xs = y :: ys) ∧ S xs H1 := by
  rintro σ H S ⟨ρ, as, h, rs, sr, p⟩
  refine ⟨ρ, as, h, rs, sr, ?_⟩
  simp only at p ⊢
  cases e1 : fe as h with
  | no => simp only [e1, Res.bind] at p; exact p.elim
  | ex c fs h1 => simp only [e1, Res.bind] at p ⊢; exact p
  | ok v h1 =>
    simp only [e1, Res.bind] at p ⊢
    cases e2 : fr as h1 with
    | no => simp only [e2] at p; exact p.elim
    | ex c fs h2 => simp only [e2] at p ⊢; exact p
    | ok vs h2 =>
      simp only [e2] at p ⊢
      intro ρ' H' ys s e f r
      refine ⟨?_, p ρ' H' ys s e f r⟩
      cases r with
      | cons r1 r2 => exact ⟨_, _, rfl⟩
/-- what is asked of a call's form -/
structure MtForm (X : Cx) (o : Expr) (m : Str) (apos : Pos) (e : Expr) (es : List Expr) (cpos : Pos) : Prop where
  base : attributeBase o m X.env (eval o X.env) = eval o X.env
  few : ((backTo cpos (starEach (e :: es) X.env)).all (fun x => !x.1) && (backToKw cpos (keywordEach [] X.env)).all (fun x => x.1.isSome) && decide ((e :: es).length + ([] : List Keyword).length + (if ([] : List Keyword).isEmpty then 0 else 1) < 30)) = true
  line : (apos.endLine == cpos.line) = true
  st : starEach (e :: es) X.env = (false, eval e X.env) :: starEach es X.env
  pl : (backTo cpos (starEach es X.env)).any (·.1) = false
theorem ev_append (k : MtForm X o "append" apos e es cpos) (ho : PEv X C W o fo) (ha : PAv X C W (e :: es) fs) (ne : ∀ σ H S, At X.K C (RVs X.K) W fs σ H S → At X.K C (RVs X.K) W fs σ H fun xs H1 => (∃ y ys, xs = y :: ys) ∧ S xs H1) : PEv X C W (.Call (.Attribute o "append" apos) (e :: es) [] cpos) (mtF .append fo fs) :=
  PE.weak (pe_bm PySem.F.plainAttrs_list PySem.F.slot_list_append PySem.F.type_list_append (append_ok (C := C)) ho ha k.base k.few k.line k.st k.pl) fun _ _ _ q => tBM_of rfl (fun _ _ _ _ _ q => q) q ne
theorem ev_extend (k : MtForm X o "extend" apos e es cpos) (ho : PEv X C W o fo) (ha : PAv X C W (e :: es) fs) (ne : ∀ σ H S, At X.K C (RVs X.K) W fs σ H S → At X.K C (RVs X.K) W fs σ H fun xs H1 => (∃ y ys, xs = y :: ys) ∧ S xs H1) : PEv X C W (.Call (.Attribute o "extend" apos) (e :: es) [] cpos) (mtF .extend fo fs) :=
  PE.weak (pe_bm PySem.F.plainAttrs_list PySem.F.slot_list_extend PySem.F.type_list_extend (extend_ok (C := C)) ho ha k.base k.few k.line k.st k.pl) fun _ _ _ q => tBM_of rfl (fun _ _ _ _ _ q => q) q ne
theorem ev_insert (k : MtForm X o "insert" apos e es cpos) (ho : PEv X C W o fo) (ha : PAv X C W (e :: es) fs) (ne : ∀ σ H S, At X.K C (RVs X.K) W fs σ H S → At X.K C (RVs X.K) W fs σ H fun xs H1 => (∃ y ys, xs = y :: ys) ∧ S xs H1) : PEv X C W (.Call (.Attribute o "insert" apos) (e :: es) [] cpos) (mtF .insert fo fs) :=
  PE.weak (pe_bm PySem.F.plainAttrs_list PySem.F.slot_list_insert PySem.F.type_list_insert (insert_ok (C := C)) ho ha k.base k.few k.line k.st k.pl) fun _ _ _ q => tBM_of rfl (fun _ _ _ _ _ q => q) q ne
theorem ev_index (hu : X.A.units + 65 < cLine) (k : MtForm X o "index" apos e es cpos) (ho : PEv X C W o fo) (ha : PAv X C W (e :: es) fs) (ne : ∀ σ H S, At X.K C (RVs X.K) W fs σ H S → At X.K C (RVs X.K) W fs σ H fun xs H1 => (∃ y ys, xs = y :: ys) ∧ S xs H1) : PEv X C W (.Call (.Attribute o "index" apos) (e :: es) [] cpos) (mtF .index fo fs) :=
  PE.weak (pe_bm PySem.F.plainAttrs_list PySem.F.slot_list_index PySem.F.type_list_index (index_ok (C := C) hu) ho ha k.base k.few k.line k.st k.pl) fun _ _ _ q => tBM_of rfl (fun _ _ _ _ _ q => q) q ne
theorem ev_get (hu : X.A.units + 1 < cLine) (k : MtForm X o "get" apos e es cpos) (ho : PEv X C W o fo) (ha : PAv X C W (e :: es) fs) (ne : ∀ σ H S, At X.K C (RVs X.K) W fs σ H S → At X.K C (RVs X.K) W fs σ H fun xs H1 => (∃ y ys, xs = y :: ys) ∧ S xs H1) : PEv X C W (.Call (.Attribute o "get" apos) (e :: es) [] cpos) (mtF .get fo fs) :=
  PE.weak (pe_bm PySem.F.plainAttrs_dict PySem.F.slot_dict_get PySem.F.type_dict_get (get_ok (C := C) hu) ho ha k.base k.few k.line k.st k.pl) fun _ _ _ q => tBM_of rfl (fun _ _ _ _ _ q => q) q ne
theorem ev_pop0 (ho : PEv X C W o fo) (base : attributeBase o "pop" X.env (eval o X.env) = eval o X.env) (line : (apos.endLine == cpos.line) = true) : PEv X C W (.Call (.Attribute o "pop" apos) [] [] cpos) (mtF .pop fo fun _ h => .ok [] h) :=
  PE.weak (pe_bm0 PySem.F.plainAttrs_list PySem.F.slot_list_pop PySem.F.type_list_pop (pop_ok (C := C)) ho base line) fun σ H Q q => by
    refine At.thn (R := RV X.K) q fun ρ as h v y H1 rs sr rr p => ?_
    split at p
    · next ht => exact ⟨mtTy_ok ht sr rr, rfl, ρ, h, v, [], _, sr, rr, .nil, p⟩
    · exact p.elim
end
/-! ### what holds by an expression's form -/
def plainC : Expr → Bool
  | .Starred _ _ => false
  | .Set _ _ _ => false
  | .Slice _ _ _ _ => false
  | _ => true
theorem pl_star {e : Expr} (h : plainC e = true) (es : List Expr) (env : Env) : starEach (e :: es) env = (false, eval e env) :: starEach es env := by
  cases e <;> first | rfl | cases h
theorem pl_fold {e : Expr} (h : plainC e = true) (env : Env) (x : Value) : foldedSetIterable e env x = pure x := by
  cases e <;> first | rfl | cases h
theorem pl_ix {e : Expr} (h : plainC e = true) : PlainIx e := by
  intro o i
  cases e <;> first | rfl | cases h
theorem pl_mark {e : Expr} (h : plainC e = true) (op : CmpOp) : behindInMarks op e = false := by
  cases e <;> first | rfl | cases h
def compC : Expr → Bool
  | .ListComp _ _ _ _ => true
  | .SetComp _ _ _ _ => true
  | .DictComp _ _ _ _ _ => true
  | _ => false
theorem nc_sw {e : Expr} (h : compC e = false) (t : Option Expr) (l : Nat) (env : Env) : swapsWith e t l env = pure false := by
  cases e <;> first | rfl | cases h
end Ev

set_option Elab.async false
set_option linter.all false
set_option maxRecDepth 100000
set_option maxHeartbeats 8000000
/-! list.remove, min, sorted over data. -/
namespace Ev
open PySem PySem.Spec PyProof.Rows L2
section
variable {X : Cx} {C : Nat → Addr}
theorem remove_ok (hu : X.A.units + 65 < cLine) : MtR X "list.remove" (rMt X.K C (mtOp .remove)) := by
  intro pins s σ H x xs v us Q I rx rs ⟨ρ, h, o, vs, W, sr, ro, rv, p⟩
  obtain ⟨n, zs, a, ys, rfl, he, rfl, ha, hH, rr, p⟩ := mt_lst (by decide) sr ro p
  match vs, rv, p with
  | [w], rv, p =>
    simp only [lstOp, removeOp] at p
    split at p
    · next j hj =>
      unfold placeOf at hj
      split at hj
      · next d ds h1 h2 =>
        obtain ⟨y, rfl, ry⟩ := one_of rv
        obtain ⟨p1, p2, p3⟩ := dat_dp sr 40 h1 ry
        obtain ⟨q1, q2, q3⟩ := dats_dp sr 40 zs h2 rr
        cases rx
        obtain ⟨u, rfl, ru⟩ := rs.one
        obtain ⟨z, its, n', r, hl, e⟩ := I.lstM hH
        obtain ⟨bs, r1⟩ := Dp.reads I d y u p1 ru
        obtain ⟨as, r2⟩ := Dp.readsAll I ds _ its q1 r
        have hz := sizeLine_eq
        refine SeqAt.remove_list_data (vs := its.toArray) (j := j) ⟨_, e, rfl, ⟨_, rfl⟩⟩ (show ReadsAll s.heap its.toArray.toList ds as from r2) r1 (PyData.plainAll_of_canLay0 _ q2) (PyData.plain_of_canLay0 _ p2) ?_ hj (by rw [List.size_toArray]; omega) ?_
        · omega
        · refine ⟨.non, _, I.lset (t' := s.toks) (its' := its.eraseIdx j) hH e ?_ (r.eraseIdx j) ?_, rfl, p.put sr he ha (rr.erase j) .non⟩
          · rw [List.eraseIdxIfInBounds_toArray]
          · have := len_erase ys j
            omega
      · cases hj
    · exact p.elim
theorem loc_arg {ρ : List Addr} {h : AH} {H : Hp} {a : AV} {x : V} {xs : List AV} (sr : SR X.K C ρ h H) (ra : RV X.K ρ H a x) (hl : isLoc a = true) (hi : itemsOf a h = some xs) :
    ∃ q ys, x = .ref q ∧ SqL X.K H q ys ∧ RVs X.K ρ H xs ys := by
  obtain ⟨q, ys, rfl, hq, rr⟩ := sr.items hi ra
  rcases hq with ⟨_, hq⟩ | ⟨hl2, hq⟩
  · exact ⟨q, ys, rfl, hq, rr⟩
  · rw [hl] at hl2; cases hl2
theorem each3 {K : PySem.W.Frag} {ρ : List Addr} {H : Hp} {h : Heap} : ∀ {zs : List AV} {ys : List V} {its : List Value} {ds : List PyData} {as : List Addr}, RVs K ρ H zs ys → Vals ys its → ReadsAll h its ds as →
    PySem.W.EachIs (fun v (b : AV × PyData) => ∃ y, RelV y v ∧ RV K ρ H b.1 y) its (zs.zip ds) ∧ PySem.W.EachIs (fun v (b : AV × PyData) => ∃ as, Reads h v b.2 as) its (zs.zip ds)
  | _, _, _, _, _, .nil, .nil, .nil => ⟨.nil, .nil⟩
  | _, _, _, _, _, .cons r rr, .cons v vv, .cons d dd => by
    obtain ⟨e1, e2⟩ := each3 rr vv dd
    exact ⟨.cons ⟨_, v, r⟩ e1, .cons ⟨_, d⟩ e2⟩
theorem each_back {K : PySem.W.Frag} {ρ : List Addr} {H : Hp} : ∀ {out : List Value} {bs : List (AV × PyData)}, PySem.W.EachIs (fun v (b : AV × PyData) => ∃ y, RelV y v ∧ RV K ρ H b.1 y) out bs → ∃ ys, Vals ys out ∧ RVs K ρ H (bs.map (·.1)) ys
  | _, _, .nil => ⟨[], .nil, .nil⟩
  | _, _, .cons ⟨y, v, r⟩ e => by
    obtain ⟨ys, vv, rr⟩ := each_back e
    exact ⟨y :: ys, .cons v vv, .cons r rr⟩
theorem alikeB_ok {ds : List PyData} (h : alikeB ds = true) : ∀ d ∈ ds, ∀ e ∈ ds, PySem.W.alike d e = true := by
  unfold alikeB at h
  intro d hd e he
  exact List.all_eq_true.mp (List.all_eq_true.mp h d hd) e he
theorem sortB_ok {ds : List PyData} (h : sortB ds = true) : PySem.W.AllAlike ds ∧ PySem.W.Sortable ds := by
  unfold sortB at h
  rw [Bool.and_eq_true, Bool.or_eq_true] at h
  refine ⟨alikeB_ok h.1, ?_⟩
  rcases h.2 with h | h
  · left
    intro d hd
    have := List.all_eq_true.mp h d hd
    split at this
    · exact ⟨_, _, rfl⟩
    · cases this
  · right
    intro d hd
    have := List.all_eq_true.mp h d hd
    split at this
    · cases this
    · cases this
    · next h1 h2 => exact ⟨fun e => h1 e, fun xs e => h2 xs e⟩
theorem depth_mem : ∀ {ds : List PyData} {d : PyData}, d ∈ ds → d.depth ≤ PyData.depthAll ds
  | _ :: _, _, .head _ => by rw [PyData.depthAll]; exact Nat.le_max_left _ _
  | _ :: ds, d, .tail _ h => by rw [PyData.depthAll]; exact Nat.le_trans (depth_mem h) (Nat.le_max_right _ _)
theorem zip_snd {α β : Type} : ∀ {xs : List α} {ys : List β}, xs.length = ys.length → (xs.zip ys).map (·.2) = ys
  | [], [], _ => rfl
  | [], _ :: _, h => by simp at h
  | _ :: _, [], h => by simp at h
  | _ :: xs, _ :: ys, h => by simp only [List.zip_cons_cons, List.map_cons, List.cons.injEq, true_and]; exact zip_snd (by simpa using h)
theorem readsAll_len {h : Heap} : ∀ {vs : List Value} {ds : List PyData} {as : List Addr}, ReadsAll h vs ds as → vs.length = ds.length
  | _, _, _, .nil => rfl
  | _, _, _, .cons _ r => by simp [readsAll_len r]
theorem sorted_ok (hu : X.A.units + 65 < cLine) : CallR X (.builtin "sorted") (rPr X.K C (prOp .sorted)) := by
  intro pins s σ H xs us Q I r ⟨ρ, h, vs, W, sr, rv, p⟩
  match vs, rv, p with
  | [a], rv, p =>
    simp only [prOp] at p
    split at p
    · next hloc =>
      split at p
      · next zs hz =>
        unfold sortedOp at p
        split at p
        · next ds hds =>
          split at p
          · next hb =>
            obtain ⟨x, rfl, ra⟩ := one_of rv
            obtain ⟨q, ys, rfl, hs, rr⟩ := loc_arg sr ra hloc hz
            obtain ⟨its, rvs, hl, hlen⟩ := I.list hs
            rw [Vals.ref1 r]
            obtain ⟨q1, q2, q3⟩ := dats_dp sr 40 zs hds rr
            obtain ⟨as, r2⟩ := Dp.readsAll I ds _ its q1 rvs
            obtain ⟨e1, e2⟩ := each3 rr rvs r2
            obtain ⟨b1, b2⟩ := sortB_ok hb
            have l1 := rr.length
            have l2 := rvs.length
            have l3 := readsAll_len r2
            have zl : zs.length = ds.length := by omega
            refine PySem.W.sorted_data (enc := fun p : AV × PyData => p.2) (vs := its) hl.isList e1 e2 (by rw [zip_snd zl]; exact b1) (by rw [zip_snd zl]; exact b2) (by rw [List.length_zip]; omega) (fun b hb => ?_) fun out ho he => ?_
            · have := depth_mem (List.of_mem_zip (show (b.1, b.2) ∈ zs.zip ds from hb)).2
              omega
            · obtain ⟨ys', vv, rr'⟩ := each_back he
              obtain ⟨ep, he'⟩ := PyProof.Rows.sortedAll_at s.heap its out.toArray
              have hl' : ys'.length ≤ sizeLine := by
                have := vv.length
                rw [List.length_zip] at ho
                omega
              exact ⟨.ref _, upd H (s.heap.objs.size + 1) (.lst ys'), I.laid (t' := s.toks) (fun _ _ => PyProof.Rows.sortedAll_old) (Nat.le_succ _) ⟨hl', out, ep, vv, he'⟩, rfl, Po.lst p sr rr' (I.hok.fresh (Nat.le_succ _))⟩
          · exact p.elim
        · exact p.elim
      · exact p.elim
    · exact p.elim
theorem minB_ok {ds : List PyData} (h : minB ds = true) : 0 < ds.length ∧ PySem.W.AlikeAll ds := by
  unfold minB at h
  rw [Bool.and_eq_true, Bool.and_eq_true, decide_eq_true_eq] at h
  refine ⟨h.1.1, alikeB_ok h.1.2, fun d hd e => ?_⟩
  have := List.all_eq_true.mp h.2 d hd
  rw [e] at this
  cases this
theorem minL_ok (hc : X.calm = true) (hu : X.A.units + 65 < cLine) : CallR X (.builtin "min") (rPr X.K C (prOp .min)) := by
  intro pins s σ H xs us Q I r ⟨ρ, h, vs, W, sr, rv, p⟩
  match vs, rv, p with
  | [.int i, .int j], rv, p => exact min_ok hc pins s σ H xs us Q I r ⟨ρ, h, [.int i, .int j], W, sr, rv, p⟩
  | [a], rv, p =>
    simp only [prOp] at p
    split at p
    · next hloc =>
      split at p
      · next zs hz =>
        unfold minOp at p
        split at p
        · next ds hds =>
          split at p
          · next hb =>
            split at p
            · next w hw =>
              obtain ⟨x, rfl, ra⟩ := one_of rv
              obtain ⟨q, ys, rfl, hs, rr⟩ := loc_arg sr ra hloc hz
              obtain ⟨its, rvs, hl, hlen⟩ := I.list hs
              rw [Vals.ref1 r]
              obtain ⟨q1, q2, q3⟩ := dats_dp sr 40 zs hds rr
              obtain ⟨as, r2⟩ := Dp.readsAll I ds _ its q1 rvs
              obtain ⟨b1, b2⟩ := minB_ok hb
              have l1 := rr.length
              have l2 := rvs.length
              have l3 := readsAll_len r2
              have hh : X.A.handled = none := I.ok.hd hc
              refine call_min_walkH (PySem.W.iter_listW (A := X.A.in1) hh hl.isList fun s₂ e W st hfp hw' hk => ?_)
              refine ⟨_, _, _, _, _, _, _, s.heap, _, rfl, W, st, hfp, by rw [List.size_toArray]; omega, hw', hk, PySem.W.cmpIn_lt (A := X.A.in1) (vs := its.toArray) (show ReadsAll s.heap its.toArray.toList ds as from r2) b2 (by show X.A.units + 1 + _ < _; omega), fun v s' hP m => ?_⟩
              obtain ⟨h', tk, rfl, hk'⟩ := PySem.W.moved_old e rfl m
              obtain ⟨y, hy, ry⟩ := rr.get hw
              have hP' : its[minAt ds]? = some v := by
                have e1 : its.toArray.size - 1 = ds.length - 1 := by rw [List.size_toArray]; omega
                rw [e1] at hP
                simpa [minAt] using hP
              obtain ⟨v', hv', rv'⟩ := rvs.get hy
              rw [hP'] at hv'
              cases hv'
              exact ⟨y, H, I.kept hk', rv', p.ok sr ry⟩
            · exact p.elim
          · exact p.elim
        · exact p.elim
      · exact p.elim
    · exact p.elim
  | [], _, p => exact p.elim
  | .int _ :: .non :: _, _, p => exact p.elim
  | .int _ :: .bl _ :: _, _, p => exact p.elim
  | .int _ :: .str _ :: _, _, p => exact p.elim
  | .int _ :: .tup _ :: _, _, p => exact p.elim
  | .int _ :: .rol _ :: _, _, p => exact p.elim
  | .int _ :: .loc _ :: _, _, p => exact p.elim
  | .int _ :: .int _ :: _ :: _, _, p => exact p.elim
  | .non :: _ :: _, _, p => exact p.elim
  | .bl _ :: _ :: _, _, p => exact p.elim
  | .str _ :: _ :: _, _, p => exact p.elim
  | .tup _ :: _ :: _, _, p => exact p.elim
  | .rol _ :: _ :: _, _, p => exact p.elim
  | .loc _ :: _ :: _, _, p => exact p.elim
end
section
variable {X : Cx} {C : Nat → Addr} {W : WX} {o e : Expr} {es : List Expr} {apos cpos : Pos} {fo : Sl → AH → Res AV} {fs : Sl → AH → Res (List AV)}
theorem ev_remove (hu : X.A.units + 65 < cLine) (k : MtForm X o "remove" apos e es cpos) (ho : PEv X C W o fo) (ha : PAv X C W (e :: es) fs) (ne : ∀ σ H S, At X.K C (RVs X.K) W fs σ H S → At X.K C (RVs X.K) W fs σ H fun xs H1 => (∃ y ys, xs = y :: ys) ∧ S xs H1) : PEv X C W (.Call (.Attribute o "remove" apos) (e :: es) [] cpos) (mtF .remove fo fs) :=
  PE.weak (pe_bm PySem.F.plainAttrs_list PySem.F.slot_list_remove PySem.F.type_list_remove (remove_ok (C := C) hu) ho ha k.base k.few k.line k.st k.pl) fun _ _ _ q => tBM_of rfl (fun _ _ _ _ _ q => q) q ne
end
end Ev

set_option Elab.async false
set_option linter.all false
set_option maxRecDepth 100000
set_option maxHeartbeats 8000000
/-! list.pop with an argument. -/
namespace Ev
open PySem PySem.Spec L2
section
variable {X : Cx} {C : Nat → Addr} {W : WX} {o e : Expr} {es : List Expr} {fo : Sl → AH → Res AV} {fs : Sl → AH → Res (List AV)} {apos cpos : Pos}
theorem popAt_more : MtR X "list.pop" (fun x xs H Q => (∃ y ys, xs = y :: ys) ∧ rMt X.K C (mtOp .pop) x xs H Q) := by
  intro pins s σ H x xs v us Q I rx rs ⟨⟨y0, ys0, e0⟩, q⟩
  refine popAt_ok (C := C) pins s σ H x xs v us Q I rx rs ⟨?_, q⟩
  obtain ⟨ρ, h, o, vs, W, sr, ro, rv, p⟩ := q
  obtain ⟨n, zs, a, ys, rfl, he, rfl, ha, hH, rr, p⟩ := mt_lst (by decide) sr ro p
  match vs, rv, p with
  | [], rv, p => cases rv; cases e0
  | [_], rv, p =>
    obtain ⟨y, rfl, _⟩ := one_of rv
    exact ⟨y, rfl⟩
  | _ :: _ :: _, rv, p => simp [lstOp, popOp] at p; exact p.elim
theorem ev_pop1 (k : MtForm X o "pop" apos e es cpos) (ho : PEv X C W o fo) (ha : PAv X C W (e :: es) fs) (ne : ∀ σ H S, At X.K C (RVs X.K) W fs σ H S → At X.K C (RVs X.K) W fs σ H fun xs H1 => (∃ y ys, xs = y :: ys) ∧ S xs H1) : PEv X C W (.Call (.Attribute o "pop" apos) (e :: es) [] cpos) (mtF .pop fo fs) :=
  PE.weak (pe_bm PySem.F.plainAttrs_list PySem.F.slot_list_pop PySem.F.type_list_pop (popAt_more (C := C)) ho ha k.base k.few k.line k.st k.pl) fun _ _ _ q => tBM_of rfl (fun _ _ _ _ e q => ⟨e, q⟩) q ne
end
end Ev

set_option Elab.async false
set_option linter.all false
set_option maxRecDepth 100000
set_option maxHeartbeats 8000000
/-! a in range(b). -/
namespace Ev
open PySem PySem.Spec L2
section
variable {X : Cx} {C : Nat → Addr} {W : WX} {a b : Expr} {fa fb : Sl → AH → Res AV} {fs : Sl → AH → Res (List AV)} {pos p1 p2 : Pos}
theorem cr_rng1 : CallR X (.type "range") (fun vs H Q => ∃ j, vs = [V.int j] ∧ ∀ p, H p = none → Q (.ref p) (upd H p (.rng 0 j))) := by
  intro pins s σ H vs us Q I r h
  obtain ⟨j, rfl, q⟩ := h
  obtain ⟨u1, rfl, rj⟩ : ∃ u1, us = [u1] ∧ RelV (V.int j) u1 := by
    cases r with
    | cons p q => cases q; exact ⟨_, rfl, p⟩
  obtain ⟨u, rfl⟩ := rj
  refine call_range_1 ⟨.ref s.heap.objs.size, upd H s.heap.objs.size (.rng 0 j), I.laid (t' := s.toks + 1 + 1) (fun b o e => Heap.get?_push_of_some _ e) (Nat.le_refl _) ?_, rfl, q _ (I.hok.fresh (Nat.le_refl _))⟩
  exact ⟨s.toks, u, s.toks + 1, Heap.get?_push_size _ rfl⟩
theorem boot_range' : bootBuiltins "range" = some (.type "range") := by decide +kernel
theorem inr_of {g : G} {x : Cur} {ea eb : E} {σ : L2.St} {H : Hp} {Q : VK} (q : At X.K C (RV X.K) W (ev g x (.inr ea [eb])) σ H Q) :
    tOp (fun x y H Q => ∃ i a lo hi, x = V.int i ∧ y = V.ref a ∧ H a = some (.rng lo hi) ∧ Q (.bl (decide (lo ≤ i ∧ i < hi))) H) (At X.K C (RV X.K) W (ev g x ea))
      (tCB (fun vs H Q => ∃ j, vs = [V.int j] ∧ ∀ p, H p = none → Q (.ref p) (upd H p (.rng 0 j))) (At X.K C (RVs X.K) W fun σ h => (ev g x eb σ h).bind fun v h1 => (Res.ok [] h1).bind fun vs h2 => Res.ok (v :: vs) h2)) σ H Q := by
  refine At.thn (R := RV X.K) q fun ρ as h v y H1 rs sr rr p => ?_
  refine At.thn2 (R := RV X.K) (R2 := RVs X.K) rs sr rr p fun ρ1 h1 vs ys H2 rs1 sr1 r1 r2 p1 => ?_
  cases v with
  | int i =>
    cases r1
    match vs, r2, p1 with
    | [.int j], r2, p1 =>
      obtain ⟨z, rfl, rz⟩ := one_of r2
      cases rz
      have p1 : ∀ (ρ' : List Addr) (H' : Hp) (y : V), SR X.K C (ρ1 ++ ρ') h1 H' → Ext H2 H' → Fr ρ1 ρ' H2 H' → RV X.K (ρ1 ++ ρ') H' (.bl (decide (0 ≤ i ∧ i < j))) y → Q y H' := p1
      refine ⟨j, rfl, fun D hD => ⟨i, D, 0, j, rfl, rfl, upd_same, ?_⟩⟩
      exact p1 [] (upd H2 D (.rng 0 j)) (.bl _) (by rw [List.append_nil]; exact sr1.off hD) (Ext.laid hD) (Fr.laid hD (by simp)) (.bl _)
    | [], _, p1 => exact p1.elim
    | .non :: _, _, p1 => exact p1.elim
    | .bl _ :: _, _, p1 => exact p1.elim
    | .str _ :: _, _, p1 => exact p1.elim
    | .tup _ :: _, _, p1 => exact p1.elim
    | .rol _ :: _, _, p1 => exact p1.elim
    | .loc _ :: _, _, p1 => exact p1.elim
    | .int _ :: _ :: _, _, p1 => exact p1.elim
  | _ => exact p1.elim
section
variable {g : G} {x : Cur} {ea eb : E}
theorem ev_inr (hg : Gl X "range") (hm : X.mg "range" = none) (ha : PEv X C W a (ev g x ea)) (hb : PEv X C W b (ev g x eb))
    (he : starEach [b] X.env = (false, eval b X.env) :: starEach [] X.env) (hpl : (backTo p2 (starEach [] X.env)).any (·.1) = false) (hmk : behindInMarks .In (.Call (.Name "range" p1) [b] [] p2) = false) :
    PEv X C W (.Compare a [.In] [.Call (.Name "range" p1) [b] [] p2] pos) (ev g x (.inr ea [eb])) :=
  PE.weak (pe_cmpR op_in_rng ha (pe_callTy (cr_rng1 (X := X)) hg hm boot_range' (ea_cons (C := C) hb (ea_nil (X := X) (C := C) (W := W)) he) (by decide) (by decide) he hpl) hmk) fun σ H Q q => inr_of q
theorem inr_bl (u : AV) (ws : List AV) (h : AH) : inrOp u ws h = .no ∨ ∃ b, inrOp u ws h = .ok (.bl b) h := by
  unfold inrOp
  split
  · exact .inr ⟨_, rfl⟩
  · exact .inl rfl
theorem et_inr (hg : Gl X "range") (hm : X.mg "range" = none) (ha : PEv X C W a (ev g x ea)) (hb : PEv X C W b (ev g x eb))
    (he : starEach [b] X.env = (false, eval b X.env) :: starEach [] X.env) (hpl : (backTo p2 (starEach [] X.env)).any (·.1) = false) (hmk : behindInMarks .In (.Call (.Name "range" p1) [b] [] p2) = false) :
    PTv X C W (.Compare a [.In] [.Call (.Name "range" p1) [b] [] p2] pos) (evT g x (.inr ea [eb])) := by
  refine PT.weak (pt_cmpR op_in_rng ha (pe_callTy (cr_rng1 (X := X)) hg hm boot_range' (ea_cons (C := C) hb (ea_nil (X := X) (C := C) (W := W)) he) (by decide) (by decide) he hpl) hmk) fun σ H Q q => tTest_of (f := ev g x (.inr ea [eb])) (fun _ _ _ => inr_of) q fun as h => ⟨True, fun _ v h' e => ?_, trivial⟩
  simp only [ev, evP, ofV] at e
  cases e1 : (evP g x ea).1 as h with
  | ok v1 h1 =>
    rw [e1] at e
    have e : (evs g x [eb] as h1).bind (fun ws h2 => inrOp v1 ws h2) = .ok v h' := e
    cases e2 : evs g x [eb] as h1 with
    | ok v2 h2 =>
      rw [e2] at e
      have e : inrOp v1 v2 h2 = .ok v h' := e
      rcases inr_bl v1 v2 h2 with z | ⟨b, z⟩
      · rw [z] at e; cases e
      · rw [z] at e; cases e; exact ⟨b, rfl⟩
    | ex _ _ _ => rw [e2] at e; cases e
    | no => rw [e2] at e; cases e
  | ex _ _ _ => rw [e1] at e; cases e
  | no => rw [e1] at e; cases e
end
end
end Ev

set_option Elab.async false
set_option linter.all false
set_option maxRecDepth 100000
set_option maxHeartbeats 8000000
/-! Own errors below Exception: made, raised. -/
namespace Ev
open PySem PySem.Spec PyProof.Rows L2
open PySem.W (clsIn findIn subIn typeIn keepIn hasDictIn mroIn excTail)
abbrev exTail : List Value := PySem.ESX.exTail
/-- the class object of an own error -/
def xObjB (C : Addr) (o : Obj) : Bool := match o with
  | ⟨.type "type", _, .cls cd, sl⟩ => (match cd.mro, sl.toList with
    | .ref C' :: bm, [_, _, _, _, some (.builtin n), _] => C' == C && n == "Exception.__new__" && !cd.hasDel && cd.hasDict && excTail exTail bm
    | _, _ => false)
  | _ => false
theorem xObj_of {C : Addr} {o : Obj} (h : xObjB C o = true) : ∃ nm q N bs bm sn sub ab col dd k0 k1 k2 k3 k5, o = excClassObj nm q C N bs bm true sn sub ab col dd k0 k1 k2 k3 k5 "Exception.__new__" ∧ excTail exTail bm = true := by
  unfold xObjB at h
  split at h
  · rename_i dd cd sl
    split at h
    · rename_i C' bm k0 k1 k2 k3 n k5 hm hs
      simp only [Bool.and_eq_true, beq_iff_eq, Bool.not_eq_true'] at h
      obtain ⟨⟨⟨⟨h1, h2⟩, h3⟩, h4⟩, h5⟩ := h
      subst h1 h2
      obtain ⟨nm, bs, mro, ns, qn, hd, sn, sub, ab, col, del⟩ := cd
      dsimp only at hm h3 h4
      subst hm h3 h4
      have hsl : sl = #[k0, k1, k2, k3, some (.builtin "Exception.__new__"), k5] := by
        obtain ⟨l⟩ := sl
        simp only at hs
        rw [hs]
      subst hsl
      exact ⟨nm, qn, ns, bs, bm, sn, sub, ab, col, dd, k0, k1, k2, k3, k5, rfl, h5⟩
    · cases h
  · cases h
/-- what the written part says of an own error's class -/
structure OwnX (K : PySem.W.Frag) (C : Addr) : Prop where
  ob : ∃ o, K.lookup C = some o ∧ xObjB C o = true
  sa : findIn K (.ref C) "__setattr__" = some (some (.builtin "object.__setattr__"))
  ga : findIn K (.ref C) "__getattribute__" = some (some (.builtin "BaseException.__getattribute__"))
  gg : findIn K (.ref C) "__getattr__" = some none
  ha : findIn K (.ref C) "__class__" = some (some (.builtin "object.__class__"))
section
variable {K : PySem.W.Frag} {C : Addr}
theorem OwnX.lk (T : OwnX K C) : ∃ nm q N bs bm sn sub ab col dd k0 k1 k2 k3 k5, K.lookup C = some (excClassObj nm q C N bs bm true sn sub ab col dd k0 k1 k2 k3 k5 "Exception.__new__") ∧ excTail exTail bm = true := by
  obtain ⟨o, h, b⟩ := T.ob
  obtain ⟨nm, q, N, bs, bm, sn, sub, ab, col, dd, k0, k1, k2, k3, k5, rfl, t⟩ := xObj_of b
  exact ⟨nm, q, N, bs, bm, sn, sub, ab, col, dd, k0, k1, k2, k3, k5, h, t⟩
theorem OwnX.cls (T : OwnX K C) : ∃ cd bm, clsIn K C = some cd ∧ cd.mro = .ref C :: bm ∧ cd.hasDict = true ∧ excTail exTail bm = true := by
  obtain ⟨nm, q, N, bs, bm, sn, sub, ab, col, dd, k0, k1, k2, k3, k5, h, t⟩ := T.lk
  exact ⟨_, bm, by unfold PySem.W.clsIn; rw [h] <;> rfl, rfl, rfl, t⟩
theorem OwnX.sub (T : OwnX K C) (X : String) (h : exTail.contains (.type X) = true) : subIn K (.ref C) (.type X) = some true := by
  obtain ⟨cd, bm, h1, h2, h3, t⟩ := T.cls
  show mroIn K C _ = _
  unfold PySem.W.mroIn
  rw [h1, Option.bind_some, h2, if_neg (show ¬ (List.isEmpty (Value.ref C :: bm) = true) from Bool.false_ne_true), List.contains_cons, PySem.W.excTail_contains X _ t, h, Bool.or_true]
theorem OwnX.exC (T : OwnX K C) : subIn K (.ref C) (.type "BaseException") = some true := T.sub _ (by decide +kernel)
theorem OwnX.obC (T : OwnX K C) : mroIn K C (.type "object") = some true := T.sub _ (by decide +kernel)
theorem OwnX.tyC (T : OwnX K C) : typeIn K (.ref C) = some (.type "type") := by
  obtain ⟨nm, q, N, bs, bm, sn, sub, ab, col, dd, k0, k1, k2, k3, k5, h, t⟩ := T.lk
  show (K.lookup C).map _ = _
  rw [h]
  rfl
theorem OwnX.kC (T : OwnX K C) : keepIn K (.ref C) = true := by
  obtain ⟨nm, q, N, bs, bm, sn, sub, ab, col, dd, k0, k1, k2, k3, k5, h, t⟩ := T.lk
  have e : PySem.W.specialIn K (.ref C) "__call__" = some (some (.builtin "type.__call__")) := by
    unfold PySem.W.specialIn
    rw [T.tyC, Option.bind_some]
    show fastLookup "type" "__call__" = _
    kernel_rfl
  simp only [PySem.W.keepIn, h, excClassObj]
  show (PySem.W.specialIn K (.ref C) "__call__" == _) = true
  rw [e]
  decide +kernel
theorem OwnX.hdC (T : OwnX K C) : hasDictIn K C = true := by
  obtain ⟨cd, bm, h1, h2, h3, t⟩ := T.cls
  unfold PySem.W.hasDictIn
  rw [h1]
  exact h3
theorem OwnX.xf (T : OwnX K C) : XfC K C := ⟨T.ga, T.gg, T.exC, T.hdC⟩
theorem OwnX.raises {X : Cx} (T : OwnX X.K C) : Raises X (.ref C) := raises_own T.exC T.tyC
end
/-- .. whose base is at l, or that is a base itself -/
def xObjL (C : Addr) (L : Option Addr) (o : Obj) : Bool := match o with
  | ⟨.type "type", _, .cls cd, sl⟩ => (match cd.mro, sl.toList with
    | .ref C' :: bm, [_, _, _, _, some (.builtin n), _] => C' == C && n == "Exception.__new__" && !cd.hasDel && cd.hasDict && (match L with
      | some l => bm == .ref l :: exTail
      | none => bm == exTail)
    | _, _ => false)
  | _ => false
theorem xObjL_B {C : Addr} {L : Option Addr} {o : Obj} (h : xObjL C L o = true) : xObjB C o = true := by
  unfold xObjL at h
  unfold xObjB
  split at h
  · rename_i dd cd sl
    split at h
    · rename_i C' bm k0 k1 k2 k3 n k5 hm hs
      skip
      simp only [Bool.and_eq_true] at h ⊢
      refine ⟨h.1, ?_⟩
      have h2 := h.2
      cases L with
      | some l => rw [beq_iff_eq.mp h2]; show excTail exTail exTail = true; decide +kernel
      | none => rw [beq_iff_eq.mp h2]; decide +kernel
    · cases h
  · cases h
theorem refb (a b : Addr) : (Value.ref a == Value.ref b) = decide (a = b) := by
  by_cases h : a = b <;> simp [h]
def XLk (K : PySem.W.Frag) (C L : Addr) : Prop := ∃ o l, K.lookup C = some o ∧ xObjL C l o = true ∧ (l = some L ∨ (l = none ∧ C = L))
theorem xsub_of {K : PySem.W.Frag} {C L D : Addr} {b : Bool} (x : XLk K C L) (hb : decide (D = C ∨ D = L) = b) : subIn K (.ref C) (.ref D) = some b := by
  obtain ⟨o, l, hl, hx, hc⟩ := x
  unfold xObjL at hx
  split at hx
  · rename_i dd cd sl
    split at hx
    · rename_i C' bm k0 k1 k2 k3 n k5 hm hs
      simp only [Bool.and_eq_true, beq_iff_eq] at hx
      obtain ⟨⟨⟨⟨h1, _⟩, _⟩, _⟩, h5⟩ := hx
      subst h1
      have nt : exTail.contains (.ref D) = false := by
        show ([Value.type "Exception", .type "BaseException", .type "object"] : List Value).contains (.ref D) = false
        simp
      have hcl : clsIn K C' = some cd := by unfold PySem.W.clsIn; rw [hl]
      show mroIn K C' _ = _
      unfold PySem.W.mroIn
      rw [hcl, Option.bind_some, hm, if_neg (show ¬ (List.isEmpty (Value.ref C' :: bm) = true) from Bool.false_ne_true), List.contains_cons]
      rcases hc with rfl | ⟨rfl, rfl⟩
      · have h5 : bm = .ref L :: exTail := beq_iff_eq.mp h5
        rw [h5, List.contains_cons, nt, ← hb, refb, refb]
        simp
      · have h5 : bm = exTail := beq_iff_eq.mp h5
        rw [h5, nt, ← hb, refb]
        simp
    · cases hx
  · cases hx
section
open Builtin Builtin.ObjectAttr
variable {prog : Program} {w : World} {A : Around} {E : Value → Shared → Prop} {R : Result → Shared → Prop} {hp : Heap} {g : Array GenState} {d : Drawn} {t : Nat} {os : OsState}
/-- the first field of an own error -/
theorem osa_newX {K : PySem.W.Frag} {name : Str} {tk : Tok} {v : Value} {x C : Addr} {fv : Array Value} {cd : ClassData} {bm : List Value}
    (X : K.In hp) (hx : hp.get? x = some { cls := .ref C, data := .fields fv }) (hcd : clsIn K C = some cd) (hm : cd.mro = .ref C :: bm) (ht : excTail exTail bm = true) (hh : cd.hasDict = true) (ha : findIn K (.ref C) name = some none)
    (hq : ∀ h' tk' dx, (∀ b o, b ≠ x → hp.get? b = some o → h'.get? b = some o) → hp.objs.size ≤ dx → dx ≠ x → h'.get? x = some { cls := .ref C, dict := some dx, data := .fields fv } →
      h'.Ns1 dx (fun y => if y = name then some v else none) → R (.ok (.ret .none)) ⟨h', g, d, tk', os⟩) :
    codeAny (model prog w) A (.call (.builtin "object.__setattr__") ⟨[.ref x, .str name tk, v], []⟩) R ⟨hp, g, d, t, os⟩ := by
  have I : PySem.W.InstAt hp x { cls := .ref C, data := .fields fv } C none := ⟨hx, rfl, rfl, trivial⟩
  have SF := F.store_object
  have ne : cd.mro.isEmpty = false := by rw [hm]; rfl
  have hob : cd.mro.contains (.type "object") = true := by rw [hm, List.contains_cons, PySem.W.excTail_contains "object" _ ht, show exTail.contains (.type "object") = true from by decide +kernel, Bool.or_true]
  have hxs : x ≠ hp.objs.size := Nat.ne_of_lt (Heap.lt_size hx)
  have sub : PySem.W.Looks (model prog w) hp (isInstance (.ref x) (.type "object")) true := I.type.andThen (PySem.W.looks_mroIn X (by unfold PySem.W.mroIn; rw [hcd, Option.bind_some, if_neg (by rw [ne]; decide), hob]))
  refine codeAny_call_builtin SF.slot.plain SF.entry (@PySem.W.check_slot (model prog w) _ _ ⟨hp, g, d, t, os⟩ "object.__setattr__" "object" "__setattr__" (.ref x) [.str name tk, v] [] _ SF.kind SF.split sub (SF.args (.ref x) (.str name tk) v) ?_)
  have hmr : PySem.W.Looks (model prog w) hp (mroOf (.ref C)) cd.mro := (PySem.W.looks_clsIn X hcd).andThen .now
  have L3 : PySem.W.Looks (model prog w) hp (storeTaker? none) none := .now
  have hcls : PySem.W.Looks (model prog w) hp (classData C) cd := PySem.W.looks_clsIn X hcd
  rw [PySem.W.osa_eq, refuse_eq]
  refine wpAny_bind (wpAny_bind (I.type.at (wpAny_bind (hmr.at ?_))))
  rw [hm, refuseLoop_ref, PySem.W.excTail_pass _ (F.store_Exception.passes _) _ ht]
  refine wpAny_pure (wpAny_bind (I.type.at (wpAny_bind ((PySem.W.looks_findIn X ha).at (wpAny_bind (L3.at ?_))))))
  show wpAny _ _ (storeInOwnDict (.ref x) (.ref C) (.str name tk) name v false) _ _ _
  obtain ⟨nm, bs, mro, ns, qn, hd, sn, sb, ab, col, del⟩ := cd
  dsimp only at hh
  subst hh
  unfold storeInOwnDict ownDictForStores
  repeat (first | with_reducible refine PySem.HandSPX.store_in_new ?_ ?_ | with_reducible refine wpAny_loadPart_at hx ?_ | with_reducible refine hcls.at ?_ | wp_step)
  · exact ⟨_, #[], _, (Heap.get?_update_ne _ _ _ _ hxs.symm).trans (Heap.get?_push_at rfl rfl), rfl, fun e he => absurd he (by simp), fun _ => rfl⟩
  · intro h' tk' hn' hs
    have hx₁ : (hp.push { cls := .type "dict", data := .dict #[] }).get? x = some { cls := .ref C, data := .fields fv } := Heap.get?_push_of_some _ hx
    refine hq h' tk' hp.objs.size (fun b o hb ho => ?_) (Nat.le_refl _) hxs.symm ?_ hn'
    · exact (hs.2 b (Nat.ne_of_lt (Heap.lt_size ho))).trans ((Heap.get?_update_ne _ _ _ _ hb).trans (Heap.get?_push_of_some _ ho))
    · exact (hs.2 x hxs).trans (Heap.get?_update_self _ hx₁ rfl)
end
section
variable {X : Cx} {pins : List (Addr × Obj)} {σ : L2.St} {H : Hp} {s : Shared} {a C dx : Addr} {f : Str} {y : V} {u : Value} {Q : Unit → Shared → Prop} {E : Value → Shared → Prop} {A : Around}
theorem ost_newX (T : OwnX X.K C) (I : L2.Inv X pins σ H s) (e : H a = some (exo a C none)) (hno : findIn X.K (.ref C) f = some none) (ry : RelV y u)
    (h : ∀ dx s', H dx = none → dx ≠ a → L2.Inv X pins σ (upd (upd H dx (exd dx [(f, y)])) a (exo a C (some dx))) s' → Q () s') : wpAny (model X.prog X.w) A (setAttr (.ref a) f u) Q E s := by
  obtain ⟨cd, bm, hcl, hm, hh, hbm⟩ := T.cls
  obtain ⟨t1, ho⟩ := exo_at I.hok e
  obtain ⟨hp, g, d, t, os⟩ := s
  refine PySem.W.set_plain I.kIn (ox := { cls := .ref C, dict := none, data := .fields #[.ref t1, .none, .none, .none, .bool false, .none] }) (od := none) ⟨ho, rfl, rfl, trivial⟩ T.sa ?_
  refine osa_newX I.kIn ho hcl hm hbm hh hno (fun h' tk' dx k dn dne hx hn => ?_)
  have hnd : H dx = none := I.hok.fresh dn
  have nd : ∀ {b : Addr} {o : Obj}, hp.get? b = some o → b ≠ dx := fun {b o} q => Nat.ne_of_lt (Nat.lt_of_lt_of_le (Heap.lt_size q) dn)
  have na : ∀ {b : Addr}, H b = none → b ≠ a := fun {b} n z => by
    rw [z, e] at n
    cases n
  have Un1 : Un X.fs [] H (upd (upd H dx (exd dx [(f, y)])) a (exo a C (some dx))) hp h' := {
    keep := fun b o q n _ _ => k b o (na n) q
    slot := fun b o q n _ _ => ⟨o.slots, k b o (na n) q⟩
    free := fun b o q n _ => by rw [upd_ne (na n), upd_ne (nd q)]; exact n
    there := fun b o q _ => by
      by_cases hb : b = a
      · exact ⟨_, by rw [hb]; exact hx⟩
      · exact ⟨o, k b o hb q⟩
    tups := fun b xs q => by rw [upd_ne (at_ne e q exo_tup), upd_ne (ne_of_none q hnd)]; exact q
    frzs := fun b o v q => by rw [upd_ne (at_ne e q exo_frz), upd_ne (ne_of_none q hnd)]; exact q
    tbls := fun b ps q => ⟨#[], by rw [upd_ne (at_ne e q exo_tbl), upd_ne (ne_of_none q hnd), q]; simp⟩ }
  refine h dx _ hnd dne (I.un (t' := tk') Un1 fun b o q => ?_)
  by_cases hb : b = a
  · subst hb
    rw [upd_same] at q
    cases q
    exact exo_ok hx
  · rw [upd_ne hb] at q
    by_cases hd : b = dx
    · subst hd
      rw [upd_same] at q
      cases q
      exact exd_ok hn (relO_put (fs := []) ry fun g => True.intro)
    · rw [upd_ne hd] at q
      exact (I.hok b o q).stay (fun c v hc z => k c v (by
          rcases hc with hc | hc
          · rw [hc]
            exact hb
          · exact at_ne e hc exo_own) z)
        (fun c hc => by rw [upd_ne (at_ne e hc exo_own), upd_ne (ne_of_none hc hnd)]; exact hc) (fun c xs hc => by rw [upd_ne (at_ne e hc exo_tup), upd_ne (ne_of_none hc hnd)]; exact hc)
end
/-- self.f = e in an own error's __init__ -/
def tOstX (K : PySem.W.Frag) (f : Str) (to te : TE) : TS := fun D σ H => te σ H fun y H1 => to σ H1 fun x H2 => ∃ a C : Addr, x = .ref a ∧ OwnX K C ∧ findIn K (.ref C) f = some none ∧
  H2 a = some (exo a C none) ∧ ∀ dx, H2 dx = none → dx ≠ a → D.nx σ (upd (upd H2 dx (exd dx [(f, y)])) a (exo a C (some dx)))
section
variable {X : Cx} {o e : Expr} {es : List Expr} {to te : TE} {ta : TA} {f : Str} {p p' p1 p2 pos : Pos}
theorem ps_ostX (ho : PE X o to) (he : PE X e te) (hs : swapsWith e (some (.Attribute o f p')) pos.line X.env = pure false) : PS X (.Assign [.Attribute o f p'] e pos) (tOstX X.K f to te) := by
  refine ⟨fun pins s σ H D I h => ?_⟩
  refine plainObj_wpAny_Assign_Attribute (thn (he.run pins s σ H _ I h) fun v s1 ⟨y, H1, I1, r1, q1⟩ => thn (ho.run pins s1 σ H1 _ I1 q1) fun u s2 ⟨x, H2, I2, r2, a, C, ex, T, hno, ea, q⟩ => ?_) hs
  subst ex
  obtain rfl : u = Value.ref a := r2
  exact ost_newX T I2 ea hno r1 fun dx s' n ne J => ⟨σ, _, J, q dx n ne⟩
end
/-- what an own error's __init__ does: it keeps one thing -/
def spX (K : PySem.W.Frag) (F : Str) : Sp := fun xs H Q _ => ∃ (a C : Addr) (v : V), xs = [.ref a, v] ∧ OwnX K C ∧ findIn K (.ref C) F = some none ∧ H a = some (exo a C none) ∧ ∀ dx, H dx = none → dx ≠ a → Q .non (upd (upd H dx (exd dx [(F, v)])) a (exo a C (some dx)))
/-- its text -/
def initB (F s p : Str) (sc : Scope) (code : List Stmt) : Bool := match code with
  | [.Assign [.Attribute (.Name x _) g _] (.Name y _) _] => decide (x = s) && decide (g = F) && decide (y = p) && decide (sc.names.lookup s = some .local) && decide (sc.names.lookup p = some .local) && decide (s ≠ p) &&
      !(s == ("__debug__" : Str)) && !(s == ("__classdict__" : Str)) && !(p == ("__debug__" : Str)) && !(p == ("__classdict__" : Str))
  | _ => false
section
variable {P : Program} {wd : World} {K : PySem.W.Frag} {mg : Str → Option Value} {bs : Heap} {CX : CXT} {lv : Nat} {fa : Addr} {name qual : Str} {prm : Arguments} {code : List Stmt} {scp : Scope} {d1 d2 dc pm cdv ct cl : Value} {an od : Option Addr} {sls : Array (Option Value)} {F s p : Str}
theorem fnX_init (at_ : K.lookup fa = some ⟨cl, od, .func (PySem.W.fnOf name qual prm code scp d1 d2 dc pm an cdv ct), sls⟩) (rec_ : PySem.W.codeIn K cdv qual = true) (S : FnScope [s, p] [s, p] scp) (hb : initB F s p scp code = true) :
    FnG P wd K mg bs CX (lv + 1) fa (PySem.W.fnOf name qual prm code scp d1 d2 dc pm an cdv ct) [s, p] (spX K F) := by
  unfold initB at hb
  split at hb
  · rename_i x px g pg y py pos
    simp only [Bool.and_eq_true, decide_eq_true_eq, Bool.not_eq_true', beq_eq_false_iff_ne, ne_eq] at hb
    obtain ⟨⟨⟨⟨⟨⟨⟨⟨⟨rfl, rfl⟩, rfl⟩, ls⟩, lp⟩, ne⟩, b1⟩, b2⟩, b3⟩, b4⟩ := hb
    refine fnG_of at_ rec_ S (fun {xs H Q E} ⟨a, C, v, e, _⟩ => by rw [e]; rfl) fun A out st H xs Q E room grd want => ?_
    refine ⟨_, pss_cons (ps_ostX (pe_var (i := 0) (x := x) rfl (.inl ls) (beq_eq_false_iff_ne.mpr b1) (beq_eq_false_iff_ne.mpr b2)) (pe_var (i := 1) (x := y) rfl (.inl lp) (beq_eq_false_iff_ne.mpr b3) (beq_eq_false_iff_ne.mpr b4)) rfl) pss_nil, ?_⟩
    obtain ⟨a, C, v, rfl, T, hno, ea, q⟩ := want
    exact ⟨v, rfl, .ref a, rfl, a, C, rfl, T, hno, ea, fun dx n ne => q dx n ne⟩
  · cases hb
end
end Ev

set_option Elab.async false
set_option linter.all false
set_option maxRecDepth 100000
set_option maxHeartbeats 8000000
/-! Own errors: raise. -/
namespace Ev
open PySem PySem.Spec PyProof.Rows L2
open PySem.W (clsIn findIn subIn typeIn keepIn hasDictIn mroIn excTail)
/-- C(e): what is made -/
def tMkX (C : Addr) (F : Str) (ta : TA) : L2.St → Hp → XK → Prop := fun σ H Q => ta σ H fun vs H1 => ∃ v, vs = [v] ∧ ∀ d, H1 d = none → Q (.ref C) (some d) (upd H1 d (.xd [(F, v)]))
section
variable {X : Cx} {CX : CXT} {lv : Nat} {C fI : Addr} {fd : FuncData} {pars : List Str} {F x : Str} {p pos : Pos} {e : Expr} {es : List Expr} {ta : TA}
theorem pmkX (T : OwnX X.K C) (iC : findIn X.K (.ref C) "__init__" = some (some (.ref fI))) (tI : typeIn X.K (.ref fI) = some (.type "function")) (nF : findIn X.K (.ref C) F = some none)
    (F1 : FnG X.prog X.w X.K X.mg X.base CX lv fI fd pars (spX X.K F)) (room : Room (lv + 1) X.A) (grd : X.A.guards = some []) (bd : Binds X.K fd pars []) (never : ∀ out H s e s', CX out H s (fun _ _ _ => False) e s' → False)
    (gl : Gl X x) (hm : X.mg x = some (.ref C)) (ha : PA X (e :: es) ta) (nd : (x == ("__debug__" : Str)) = false) (st : starEach (e :: es) X.env = (false, eval e X.env) :: starEach es X.env) (pl : (backTo pos (starEach es X.env)).any (·.1) = false) :
    PMk X (.Call (.Name x p) (e :: es) [] pos) (tMkX C F ta) := by
  intro pins s σ H Q I h
  obtain ⟨nm, q, N, bs, bm, sn, sub, ab, col, dd, k0, k1, k2, k3, k5, hC, hbm⟩ := T.lk
  refine wpAny_Call_Name_kw (ld_glob I gl hm ?_ nd)
  refine PySem.W.callWith_K (h₀ := X.base) I.ok.mod.kin T.kC (thn (ha.run pos pins s σ H _ I h) fun us s1 ⟨vs, H1, I1, r1, v, ev, q1⟩ => ⟨I1.kIn, ?_⟩) st pl
  subst ev
  show wpAny _ _ (call (.ref C) us) _ _ _
  obtain ⟨hp, g, dr, tk, os⟩ := s1
  have hsz : hp.objs.size ≤ hp.objs.size + 1 := Nat.le_succ _
  have hn : H1 (hp.objs.size + 1) = none := I1.hok.fresh hsz
  have kk : ∀ b o, hp.get? b = some o → ((hp.push (PySem.W.kdv_tup us)).push (PySem.HandSPX.excO C hp.objs.size)).get? b = some o := fun b o e => Heap.get?_push_of_some _ (Heap.get?_push_of_some _ e)
  have hget : ((hp.push (PySem.W.kdv_tup us)).push (PySem.HandSPX.excO C hp.objs.size)).get? (hp.objs.size + 1) = some (PySem.HandSPX.excO C hp.objs.size) := by heap_get
  have I2 : L2.Inv X pins σ (upd H1 (hp.objs.size + 1) (exo (hp.objs.size + 1) C none)) ⟨(hp.push (PySem.W.kdv_tup us)).push (PySem.HandSPX.excO C hp.objs.size), g, dr, tk, os⟩ :=
    I1.laid (t' := tk) (a := hp.objs.size + 1) (o := exo (hp.objs.size + 1) C none) (h' := (hp.push (PySem.W.kdv_tup us)).push (PySem.HandSPX.excO C hp.objs.size)) kk hsz (exo_ok hget)
  have r2 : Vals [V.ref (hp.objs.size + 1), v] (Value.ref (hp.objs.size + 1) :: us) := .cons rfl r1
  have hq : spX X.K F [V.ref (hp.objs.size + 1), v] (upd H1 (hp.objs.size + 1) (exo (hp.objs.size + 1) C none))
      (fun v H2 => v = .non ∧ ∃ (d : Addr) (fs : List (Str × V)), H2 (hp.objs.size + 1) = some (exo (hp.objs.size + 1) C (some d)) ∧ H2 d = some (exd d fs) ∧ H1 d = none ∧ Q (.ref C) (some d) (upd (L2.del H2 (hp.objs.size + 1)) d (.xd fs))) (fun _ _ _ => False) := by
    refine ⟨_, C, v, rfl, T, nF, upd_same, fun dx n ne => ⟨rfl, dx, [(F, v)], upd_same, ?_, ?_, ?_⟩⟩
    · rw [upd_ne ne, upd_same]
    · rw [upd_ne ne] at n; exact n
    · have n' : H1 dx = none := by rw [upd_ne ne] at n; exact n
      have eq : upd (L2.del (upd (upd (upd H1 (hp.objs.size + 1) (exo (hp.objs.size + 1) C none)) dx (exd dx [(F, v)])) (hp.objs.size + 1) (exo (hp.objs.size + 1) C (some dx))) (hp.objs.size + 1)) dx (.xd [(F, v)]) = upd H1 dx (.xd [(F, v)]) := by
        funext b
        by_cases hb : b = dx
        · subst hb; rw [upd_same, upd_same]
        · rw [upd_ne hb, upd_ne hb]
          by_cases h2 : b = hp.objs.size + 1
          · subst h2; rw [del_same, hn]
          · rw [del_ne h2, upd_ne h2, upd_ne hb, upd_ne h2]
      rw [eq]
      exact q1 dx n'
  have hml : ((Value.ref (hp.objs.size + 1) :: us) ++ []).length = pars.length := by rw [List.append_nil, ← r2.length]; exact F1.many hq
  have b := bd _ (Value.ref (hp.objs.size + 1) :: us) I2.kIn hml
  rw [List.append_nil] at b
  have hus : us.length ≤ sizeLine := by
    have := r2.length
    simp at this
    rw [sizeLine_eq]
    omega
  refine wpAny_call (PySem.HandSPX.call_own PySem.F.excBase_Exception (fun Y => PySem.W.excTail_contains Y bm hbm) (I1.kIn _ _ hC) (PySem.W.looks_findIn I1.kIn iC) (fun self => PySem.W.bind_fn I1.kIn self tI) hus
    (codeAny_mono (F1.runs (room.make C us []) (grd_make.trans grd) (I2.env0.make C us []) b r2 hq) fun r s' hq' => ?_))
  cases r with
  | error er => exact (never _ _ _ _ _ hq').elim
  | ok fl =>
    cases fl with
    | ret u =>
      obtain ⟨v, H2, os2, bare2, un2, hok2, rv, ev, d, fs, ea, ed, hd1, q2⟩ := hq'
      subst ev
      obtain ⟨h2, g2, d2, t2, os'⟩ := s'
      exact ⟨rv, mk_end T.raises I1 hsz kk un2 hok2 os2 bare2 ea ed hd1 q2⟩
    | next => exact False.elim hq'
    | brk => exact False.elim hq'
    | cont => exact False.elim hq'
/-- raise C(e) -/
theorem xs_rse {c : Nat} {W : WX} {C : Nat → Addr} {fe : Sl → AH → Res AV} {p2 : Pos} (T : OwnX X.K (C c)) (iC : findIn X.K (.ref (C c)) "__init__" = some (some (.ref fI))) (tI : typeIn X.K (.ref fI) = some (.type "function")) (nF : findIn X.K (.ref (C c)) F = some none)
    (F1 : FnG X.prog X.w X.K X.mg X.base CX lv fI fd pars (spX X.K F)) (room : Room (lv + 1) X.A) (grd : X.A.guards = some []) (bd : Binds X.K fd pars []) (never : ∀ out H s e s', CX out H s (fun _ _ _ => False) e s' → False)
    (gl : Gl X x) (hm : X.mg x = some (.ref (C c))) (he : PEv X C W e fe) (nd : (x == ("__debug__" : Str)) = false) (st : starEach [e] X.env = (false, eval e X.env) :: starEach [] X.env) (pl : (backTo pos (starEach [] X.env)).any (·.1) = false)
    (calm : X.calm = true) (tk : Takes X W) : PSv X C W (.Raise (some (.Call (.Name x p) [e] [] pos)) none p2) (fun σ h => (fe σ h).out σ fun v h1 => .ex c [(F, v)] σ h1) := by
  refine PS.weak (ps_raise calm tk (pmkX T iC tI nF F1 room grd bd never gl hm (L2.pa_cons he L2.pa_nil st) nd st pl)) fun D σ H ⟨ρ, as, h, rs, sr, q⟩ => ?_
  show At X.K C (RV X.K) W fe σ H _
  refine ⟨ρ, as, h, rs, sr, (PoS.val rs q).imp fun y H1 ⟨ρ1, h1, v, e1, rs1, s1, rv, p1⟩ => ⟨y, rfl, fun d hd => ?_⟩⟩
  have ex : Ext H1 (upd H1 d (.xd [(F, y)])) := Ext.laid hd
  refine p1 [] _ σ (some d) [(F, y)] (by rw [List.append_nil]; exact ⟨rs1.len, fun i v hv => let ⟨x, hx, r⟩ := rs1.at_ i v hv; ⟨x, hx, r.ext ex⟩⟩) (by rw [List.append_nil]; exact s1.off hd) ex (Fr.laid hd (by simp)) upd_same ?_
  rw [List.append_nil]
  exact .cons (rv.ext ex) .nil
end
end Ev

set_option Elab.async false
set_option linter.all false
set_option maxRecDepth 100000
set_option maxHeartbeats 8000000
/-! try: several clauses, each with a name or without. -/
namespace Ev
open PySem PySem.Spec PyProof.Rows L2
/-- a clause: the class that it names, its name's slot, what its suite wishes -/
abbrev Clz := Value × Option Nat × (Addr → Value → Option Addr → TS)
def goneD (i : Nat) (D : Ends) : Ends := { nx := fun σ' H' => D.nx (σ'.set i none) H', rt := D.rt, bk := fun σ' H' => D.bk (σ'.set i none) H', ct := fun σ' H' => D.ct (σ'.set i none) H' }
def wAll (K : PySem.W.Frag) (Wout : WX) (D : Ends) : List Clz → WX
  | [] => Wout
  | (c, none, ts) :: r => fun cls d σ H => ∃ b, PySem.W.exmOne K cls c = some b ∧ (b = true → ∀ a, H a = none → ts a cls d D σ H) ∧ (b = false → wAll K Wout D r cls d σ H)
  | (c, some i, ts) :: r => fun cls d σ H => ∃ b, PySem.W.exmOne K cls c = some b ∧ (b = true → ∀ a, H a = none → ts a cls d (goneD i D) (σ.set i (some (.ref a))) H) ∧ (b = false → wAll K Wout D r cls d σ H)
inductive HdsA (X : Cx) : List ExceptHandler → List Clz → Prop
  | nil : HdsA X [] []
  | cons {x : Str} {c : Value} {ts : Addr → Value → Option Addr → TS} {b₀ : Stmt} {suite : List Stmt} {np pos' : Pos} {hds : List ExceptHandler} {l : List Clz} (hc : Names X x c)
      (hsu : ∀ (a : Addr) (oe : Obj) (cls : Value) (d : Option Addr) (pn : List (Addr × Obj)), Zc cls d oe → (∃ vs, oe.data = .fields vs) → PSs (X.suite a ((a, oe) :: pn)) (b₀ :: suite) (ts a cls d)) (r : HdsA X hds l) :
      HdsA X (.ExceptHandler (some (.Name x np)) none (b₀ :: suite) pos' :: hds) ((c, none, ts) :: l)
  | as_ {x n : Str} {i : Nat} {c : Value} {ts : Addr → Value → Option Addr → TS} {b₀ : Stmt} {suite : List Stmt} {np pos' : Pos} {hds : List ExceptHandler} {l : List Clz} (hi : X.N[i]? = some n) (hln : X.env.kindOf n = some .local) (hc : Names X x c)
      (hsu : ∀ (a : Addr) (oe : Obj) (cls : Value) (d : Option Addr) (pn : List (Addr × Obj)), Zc cls d oe → (∃ vs, oe.data = .fields vs) → PSs (X.suite a ((a, oe) :: pn)) (b₀ :: suite) (ts a cls d)) (r : HdsA X hds l) :
      HdsA X (.ExceptHandler (some (.Name x np)) (some n) (b₀ :: suite) pos' :: hds) ((c, some i, ts) :: l)
section
variable {X : Cx} {body : List Stmt} {h₀ : ExceptHandler} {hds : List ExceptHandler} {l : List Clz} {pos : Pos} {tb : WX → TS} {Wout : WX}
theorem ps_try_all (hs : X.stack = X.env :: X.outer) (hf : X.env.frame = some X.env.locals) (hN : X.N.Nodup) (tk : Takes X Wout)
    (hb : ∀ (W : WX) (pn : List (Addr × Obj)) (xe : Value → Shared → Prop), Takes (X.tr pn xe) W → PassesOwn (model X.prog X.w) X.A X.env xe → PSs (X.tr pn xe) body (tb W))
    (hh : HdsA X (h₀ :: hds) l) : PS X (.Try body (h₀ :: hds) [] [] pos) (fun D σ H => tb (wAll X.K Wout D l) D σ H) := by
  refine ⟨fun pins s σ H D I h => ?_⟩
  have ok := I.ok
  have hfr : X.A.frames = some (X.env :: X.outer) := by rw [ok.frames, hs]
  refine wpAny_Try_except ?_
  refine wpAny_mono ((hb (wAll X.K Wout D l) (X.pn ++ pins) (fun e s₁ => wpAny (model X.prog X.w) X.A (noteFrame e X.env) (fun _ s₂ => wpAny (model X.prog X.w) X.A (setFlight e none) (fun _ s₃ =>
    wpAny (model X.prog X.w) X.A (handleBy e X.env (h₀ :: hds)) (SP X pins D) X.xe s₃) X.xe s₂) X.xe s₁) (fun u s' xx => ?_) PassesOwn.looking).run [] s σ H D (I.toTry _) h) (fun f s1 hsp => ?_) (fun e s1 he => he)
  · obtain ⟨a, B, sI, pins', σ', H', cls, d, rfl, J', nb, up, sky, na, os, ag, w⟩ := xx
    have J : L2.Inv X pins σ' H' sI := J'.ofTry ok
    have sky' : Sky B (X.env :: X.outer) a (Zc cls d) X.env.locals s'.heap := by rw [← hs]; exact sky
    show wpAny (model X.prog X.w) X.A (noteFrame (.ref a) X.env) _ _ _
    refine Sky.land Zc.steady hfr hf sky' fun h3 fl3 up3 => ?_
    have J3 : L2.Inv X pins σ' H' { s' with heap := h3 } := J.landed nb fl3.1 (up.trans up3) os ag
    obtain ⟨oe3, vs3, he3, hz3, hd3⟩ := fl3.there
    have notFr : ∀ {h : Heap} {o : Obj} {vs : Array Value}, h.FunFrames B (X.env :: X.outer) → h.get? a = some o → o.data = .fields vs → a ∉ frs (X.env :: X.outer) := fun {h o vs} ff e dd hm => by
      obtain ⟨_, o', e', hnf⟩ := ff.mem hm
      rw [e] at e'; cases e'
      exact hnf _ dd
    have nfr := notFr fl3.2.2.1 he3 hd3
    have nL : a ≠ X.env.locals := fun z => nfr (List.mem_filterMap.mpr ⟨X.env, List.mem_cons_self, by rw [hf, z]⟩)
    have nF : a ∉ X.fs := fun hm => by
      obtain ⟨e, he, q⟩ := List.mem_filterMap.mp hm
      exact nfr (List.mem_filterMap.mpr ⟨e, List.mem_cons_of_mem _ he, q⟩)
    have S3 := J3.suite he3 hd3 na nL nF
    have LT : PySem.W.Looks (model X.prog X.w) h3 (typeOf (.ref a)) cls := fun A Q E s k q => wpAny_typeOf_ref (k _ _ he3) (by rw [hz3.1]; exact q)
    have test : ∀ {x : Str} {np : Pos} {c : Value} (_ : Names X x c) {Q : Value → Shared → Prop} {E : Value → Shared → Prop}, Q c { s' with heap := h3 } → wpAny (model X.prog X.w) (X.A.mark (some (.ref a))) (eval (.Name x np) X.env) Q E { s' with heap := h3 } := fun {x np c} hc {Q E} q => by
      obtain ⟨hg, hdbg, hm | ⟨hm, hv, hnn⟩⟩ := hc
      · exact ld_glob (X := X.suite a ((a, oe3) :: (X.pn ++ pins))) S3 hg hm q hdbg
      · exact ld_blt (X := X.suite a ((a, oe3) :: (X.pn ++ pins))) S3 hg hm hv q hnn hdbg
    have go : ∀ {hds' : List ExceptHandler} {l' : List Clz}, HdsA X hds' l' → wAll X.K Wout D l' cls d σ' H' →
        wpAny (model X.prog X.w) X.A (handleBy (.ref a) X.env hds') (SP X pins D) X.xe { s' with heap := h3 } := by
      intro hds' l' hk
      induction hk with
      | nil =>
        intro w
        refine wpAny_handleBy_nil ?_
        obtain ⟨k1, k2, k3, oe, vs, T, oT, ts', he, hz, hd, h1, hr⟩ := id fl3
        unfold PySem.passOn
        refine wpAny_bind (wpAny_field he hd h1 ?_)
        rw [if_neg (show ¬ ((Value.ref T == Value.none) = true) from by simp)]
        have fin : wpAny (model X.prog X.w) X.A (setFlight (.ref a) X.env.frame) (fun _ s4 => wpAny (model X.prog X.w) X.A (throw (.ref a) : Sem Flow) (SP X pins D) X.xe s4) X.xe { s' with heap := h3 } := by
          rw [hf]
          refine PySem.HandSPX.setFlight_upZ fl3 fun h4 hh4 up4 => wpAny_throw (tk _ _ ?_)
          exact ⟨a, B, sI, pins, σ', H', cls, d, rfl, J, nb, (up.trans up3).trans up4, .inr (.inr (by rw [hs]; exact hh4)), na, os, ag, w⟩
        first
          | exact wpAny_bind (wpAny_pure (wpAny_bind fin))
          | exact wpAny_bind fin
      | @cons x c ts b₀ suite np pos' hds2 l2 hc hsu r ih =>
        intro w
        obtain ⟨b, hb1, hyes, hno⟩ := w
        refine wpAny_handleBy_cons (codeAny_handlers_test ?_) (by intro q; cases q)
        have LM := PySem.W.exm_one (M := model X.prog X.w) (J3.kIn) LT hb1
        refine test hc (LM.here ?_)
        cases b with
        | true =>
          refine codeAny_handlers_suite ?_
          refine PySem.HandSPX.lands_againZ fl3 fun h4 fl4 up4 => ?_
          have J4 : L2.Inv X pins σ' H' { s' with heap := h4 } := J.landed nb fl4.1 ((up.trans up3).trans up4) os ag
          obtain ⟨oe4, vs4, he4, hz4, hd4⟩ := fl4.there
          have S4 := J4.suite he4 hd4 na nL nF
          refine wpAny_mono ((hsu a oe4 cls d (X.pn ++ pins) hz4 ⟨_, hd4⟩).run [] _ _ H' _ S4 (hyes rfl a na)) (fun f s6 hsp => ?_) (fun _ _ z => False.elim z)
          cases f with
          | next =>
            obtain ⟨σ6, H6, S6, q6⟩ := hsp
            exact ⟨_, _, S6.unsuite ok, q6⟩
          | brk =>
            obtain ⟨σ6, H6, S6, q6⟩ := hsp
            exact ⟨_, _, S6.unsuite ok, q6⟩
          | cont =>
            obtain ⟨σ6, H6, S6, q6⟩ := hsp
            exact ⟨_, _, S6.unsuite ok, q6⟩
          | ret u =>
            obtain ⟨v6, σ6, H6, S6, r6, q6⟩ := hsp
            exact ⟨_, _, _, S6.unsuite ok, r6, q6⟩
        | false =>
          show wpAny _ X.A (handleBy (.ref a) X.env hds2) _ _ _
          exact ih (hno rfl)
      | @as_ x n i c ts b₀ suite np pos' hds2 l2 hi hln hc hsu r ih =>
        intro w
        obtain ⟨b, hb1, hyes, hno⟩ := w
        have hloc : Loc X.env.scope n := .inl hln
        refine wpAny_handleBy_cons (codeAny_handlers_test ?_) (by intro q; cases q)
        have LM := PySem.W.exm_one (M := model X.prog X.w) (J3.kIn) LT hb1
        refine test hc (LM.here ?_)
        cases b with
        | true =>
          refine codeAny_handlers_suite_as ?_
          refine PySem.HandSPX.lands_againZ fl3 fun h4 fl4 up4 => ?_
          have J4 : L2.Inv X pins σ' H' { s' with heap := h4 } := J.landed nb fl4.1 ((up.trans up3).trans up4) os ag
          obtain ⟨oe4, vs4, he4, hz4, hd4⟩ := fl4.there
          have S4 := J4.suite he4 hd4 na nL nF
          refine store_ok (X := X.suite a ((a, oe4) :: (X.pn ++ pins))) (v := .ref a) S4 hN hi hloc rfl (fun s5 S5 => ?_) (.inr hln)
          refine wpAny_mono ((hsu a oe4 cls d (X.pn ++ pins) hz4 ⟨_, hd4⟩).run [] s5 _ H' _ S5 (hyes rfl a na)) (fun f s6 hsp => ?_) (fun _ _ z => False.elim z)
          have end_ : ∀ {σ6 : L2.St} {H6 : Hp} {Q : Shared → Prop}, L2.Inv (X.suite a ((a, oe4) :: (X.pn ++ pins))) [] σ6 H6 s6 → (∀ s7, L2.Inv X pins (σ6.set i none) H6 s7 → Q s7) →
              wpAny (model X.prog X.w) X.A (do bindName X.env n .none; unbindBehindTheSuite X.env n pos') (fun _ s7 => Q s7) X.xe s6 := fun {σ6 H6 Q} S6 hq => gone_ok (S6.unsuite ok) hN hi hln hq
          cases f with
          | next =>
            obtain ⟨σ6, H6, S6, q6⟩ := hsp
            exact end_ S6 fun s7 J7 => ⟨_, _, J7, q6⟩
          | brk =>
            obtain ⟨σ6, H6, S6, q6⟩ := hsp
            exact end_ S6 fun s7 J7 => ⟨_, _, J7, q6⟩
          | cont =>
            obtain ⟨σ6, H6, S6, q6⟩ := hsp
            exact end_ S6 fun s7 J7 => ⟨_, _, J7, q6⟩
          | ret u =>
            obtain ⟨v6, σ6, H6, S6, r6, q6⟩ := hsp
            exact end_ S6 fun s7 J7 => ⟨_, _, _, J7, r6, q6⟩
        | false =>
          show wpAny _ X.A (handleBy (.ref a) X.env hds2) _ _ _
          exact ih (hno rfl)
    exact go hh w
  · cases f with
    | next =>
      obtain ⟨σ', H', J', q⟩ := hsp
      exact wpAny_execs_nil ⟨σ', H', J'.ofTry ok, q⟩
    | brk =>
      obtain ⟨σ', H', J', q⟩ := hsp
      exact ⟨σ', H', J'.ofTry ok, q⟩
    | cont =>
      obtain ⟨σ', H', J', q⟩ := hsp
      exact ⟨σ', H', J'.ofTry ok, q⟩
    | ret u =>
      obtain ⟨v, σ', H', J', r, q⟩ := hsp
      exact ⟨v, σ', H', J'.ofTry ok, r, q⟩
end
end Ev

set_option Elab.async false
set_option linter.all false
set_option maxRecDepth 100000
set_option maxHeartbeats 8000000
/-! What stands in an except clause: the error's fields are at hand. -/
namespace Ev
open PySem PySem.Spec PyProof.Rows L2
open PySem.W (findIn)
/-- what the error that is handled keeps -/
def XDt (K : PySem.W.Frag) (ρ : List Addr) (H : Hp) (d : Option Addr) (fs : List (Str × AV)) : Prop := ∃ ys, xdAt H d ys ∧ RP K ρ H fs ys
theorem XDt.mono {K : PySem.W.Frag} {ρ : List Addr} {H H' : Hp} {d : Option Addr} {fs : List (Str × AV)} (x : XDt K ρ H d fs) (ρ' : List Addr) (e : Ext H H') : XDt K (ρ ++ ρ') H' d fs :=
  let ⟨ys, a, r⟩ := x; ⟨ys, a.ext e, r.mono ρ' e⟩
/-- the error that is handled: its dict, its fields, its name's slot, its place -/
structure XI where
  d : Option Addr
  fs : List (Str × AV)
  nm : Option Nat
  a : Addr
def Hs (xi : XI) (σ : L2.St) : Prop := ∀ i, xi.nm = some i → σ[i]? = some (some (.ref xi.a))
def XDx (K : PySem.W.Frag) (ρ : List Addr) (H : Hp) (σ : L2.St) (xi : XI) : Prop := Hs xi σ ∧ XDt K ρ H xi.d xi.fs
theorem XDx.mono {K : PySem.W.Frag} {ρ : List Addr} {H H' : Hp} {σ : L2.St} {xi : XI} (x : XDx K ρ H σ xi) (ρ' : List Addr) (e : Ext H H') : XDx K (ρ ++ ρ') H' σ xi := ⟨x.1, x.2.mono ρ' e⟩
section
variable (K : PySem.W.Frag) (C : Nat → Addr)
def AtX {α β : Type} (R : Rl α β) (xi : XI) (f : Sl → AH → Res α) (σ : L2.St) (H : Hp) (Q : β → Hp → Prop) : Prop :=
  ∃ (ρ : List Addr) (as : Sl) (h : AH), RS K ρ H as σ ∧ SR K C ρ h H ∧ XDx K ρ H σ xi ∧ Po K C R (fun _ _ _ => False) ρ H (f as h) Q
def AtXS (xi : XI) (f : Sl → AH → Out) : TS := fun D σ H => ∃ (ρ : List Addr) (as : Sl) (h : AH), RS K ρ H as σ ∧ SR K C ρ h H ∧ XDx K ρ H σ xi ∧ PoS K C NoW ρ H (f as h) D
end
section
variable {K : PySem.W.Frag} {C : Nat → Addr} {α β γ δ ε ζ : Type} {R : Rl α β} {R' : Rl γ δ} {xi : XI}
theorem AtX.at {f : Sl → AH → Res α} {σ : L2.St} {H : Hp} {Q : β → Hp → Prop} (a : AtX K C R xi f σ H Q) : At K C R NoW f σ H Q := let ⟨ρ, as, h, rs, sr, _, p⟩ := a; ⟨ρ, as, h, rs, sr, p⟩
theorem AtX.thn {f : Sl → AH → Res α} {k : Sl → α → AH → Res γ} {σ : L2.St} {H : Hp} {Q : δ → Hp → Prop} {S : β → Hp → Prop} (a : AtX K C R' xi (fun σ h => (f σ h).bind (k σ)) σ H Q)
    (hk : ∀ (ρ : List Addr) (as : Sl) (h : AH) (v : α) (y : β) (H1 : Hp), RS K ρ H1 as σ → SR K C ρ h H1 → XDx K ρ H1 σ xi → R ρ H1 v y → Po K C R' (fun _ _ _ => False) ρ H1 (k as v h) Q → S y H1) : AtX K C R xi f σ H S := by
  obtain ⟨ρ, as, h, rs, sr, xd, p⟩ := a
  exact ⟨ρ, as, h, rs, sr, xd, (Po.bind (R := R) p).imp fun y H1 ⟨ρ1, h1, v, e, _, s1, r1, p1⟩ => hk (ρ ++ ρ1) as h1 v y H1 (rs.mono ρ1 e) s1 (xd.mono ρ1 e) r1 p1⟩
theorem AtX.thn2 [Mono R] {R2 : Rl ε ζ} {f : Sl → AH → Res ε} {as0 : Sl} {k : α → ε → AH → Res γ} {σ : L2.St} {H : Hp} {Q : δ → Hp → Prop} {S : ζ → Hp → Prop} {ρ : List Addr} {h : AH} {v : α} {y : β}
    (rs : RS K ρ H as0 σ) (sr : SR K C ρ h H) (xd : XDx K ρ H σ xi) (r : R ρ H v y) (p : Po K C R' (fun _ _ _ => False) ρ H ((f as0 h).bind (k v)) Q)
    (hk : ∀ (ρ1 : List Addr) (h1 : AH) (w : ε) (z : ζ) (H1 : Hp), RS K ρ1 H1 as0 σ → SR K C ρ1 h1 H1 → XDx K ρ1 H1 σ xi → R ρ1 H1 v y → R2 ρ1 H1 w z → Po K C R' (fun _ _ _ => False) ρ1 H1 (k v w h1) Q → S z H1) : AtX K C R2 xi f σ H S :=
  ⟨ρ, as0, h, rs, sr, xd, (Po.bind (R := R2) p).imp fun z H1 ⟨ρ1, h1, w, e, _, s1, r1, p1⟩ => hk (ρ ++ ρ1) h1 w z H1 (rs.mono ρ1 e) s1 (xd.mono ρ1 e) (Mono.mono ρ1 e r) r1 p1⟩
end
section
variable {X : Cx} {C : Nat → Addr} {xi : XI} {a b e : Expr} {es : List Expr} {fa fb fe : Sl → AH → Res AV} {fl : Sl → AH → Res (List AV)} {pos : Pos}
abbrev PEx (X : Cx) (C : Nat → Addr) (xi : XI) (e : Expr) (f : Sl → AH → Res AV) : Prop := PE X e (AtX X.K C (RV X.K) xi f)
abbrev PAx (X : Cx) (C : Nat → Addr) (xi : XI) (es : List Expr) (f : Sl → AH → Res (List AV)) : Prop := PA X es (AtX X.K C (RVs X.K) xi f)
theorem ex_of (h : PEv X C NoW e fe) : PEx X C xi e fe := PE.weak h fun σ H Q q => q.at
theorem ax_nil : PAx X C xi [] (fun _ h => .ok [] h) := PA.weak ea_nil fun σ H Q q => q.at
theorem ax_cons (ha : PEx X C xi e fa) (hr : PAx X C xi es fl) (hs : starEach (e :: es) X.env = (false, eval e X.env) :: starEach es X.env) : PAx X C xi (e :: es) (fun σ h => (fa σ h).bind fun v h1 => (fl σ h1).bind fun vs h2 => .ok (v :: vs) h2) := by
  refine PA.weak (pa_cons ha hr hs) fun σ H Q q => ?_
  refine AtX.thn (R := RV X.K) q fun ρ as h v y H1 rs sr xd rr p => ?_
  refine AtX.thn2 (R := RV X.K) (R2 := RVs X.K) (f := fl) (k := fun v vs h2 => .ok (v :: vs) h2) rs sr xd rr p fun ρ1 h1 vs ys H2 rs1 sr1 xd1 rr1 rv p1 => ?_
  exact p1.ok sr1 (.cons rr1 rv)
theorem ex_tup {k} (ha : PAx X C xi es fl) : PEx X C xi (.Tuple es k pos) (fun σ h => (fl σ h).bind fun vs h1 => if vs.length ≤ sizeLine then .ok (.tup vs) h1 else .no) := by
  refine PE.weak (pe_tup ha) fun σ H Q q => ?_
  refine AtX.thn (R := RVs X.K) q fun ρ as h v y H1 rs sr xd rr p => ?_
  split at p
  · next hz => exact ⟨by rw [← rr.length]; exact hz, fun l hl => Po.tup p sr rr hl⟩
  · exact p.elim
theorem ex_lst (ha : PAx X C xi es fl) : PEx X C xi (.List es pos) (fun σ h => (fl σ h).bind fun vs h1 => if vs.length ≤ sizeLine then lay (.lst vs) h1 else .no) := by
  refine PE.weak (pe_lst ha) fun σ H Q q => ?_
  refine AtX.thn (R := RVs X.K) q fun ρ as h v y H1 rs sr xd rr p => ?_
  split at p
  · next hz => exact ⟨by rw [← rr.length]; exact hz, fun l hl => Po.lst p sr rr hl⟩
  · exact p.elim
theorem tOpx_of {f : AV → AV → AH → Res AV} {σ : L2.St} {H : Hp} {Q : VK} (q : AtX X.K C (RV X.K) xi (fun σ h => (fa σ h).bind fun v h1 => (fb σ h1).bind fun w h2 => f v w h2) σ H Q) :
    tOp (r2 X.K C f) (AtX X.K C (RV X.K) xi fa) (AtX X.K C (RV X.K) xi fb) σ H Q := by
  refine AtX.thn (R := RV X.K) q fun ρ as h v y H1 rs sr xd rr p => ?_
  refine AtX.thn2 (R := RV X.K) (R2 := RV X.K) (f := fb) (k := fun v w h2 => f v w h2) rs sr xd rr p fun ρ1 h1 w z H2 rs1 sr1 xd1 rr1 rw p1 => ?_
  exact ⟨ρ1, h1, v, w, _, sr1, rr1, rw, p1⟩
theorem ex_cmp {op : CmpOp} (hu : X.A.units + 64 < cLine) (ha : PEx X C xi a fa) (hb : PEx X C xi b fb) (hm : behindInMarks op b = false) :
    PEx X C xi (.Compare a [op] [b] pos) (fun σ h => (fa σ h).bind fun v h1 => (fb σ h1).bind fun w h2 => cmpOp op v w h2) := PE.weak (pe_cmpR (cmp_ok hu op) ha hb hm) fun _ _ _ => tOpx_of
theorem tx_val {ft : Sl → AH → Res Bool} (ha : PEx X C xi a fa) (he : ∀ whole, isTrue a X.env whole = (do let v ← whole; standAt a.pos; holding [v] (truthy v))) : PT X a (AtX X.K C RQ xi (tst fa)) := by
  refine PT.weak (pt_truth ha he) fun σ H Q q => ?_
  refine AtX.thn (R := RV X.K) q fun ρ as h v y H1 rs sr xd rr p => ?_
  split at p
  · next b e => exact ⟨b, truth_ok sr rr e, p.ok sr rfl⟩
  · exact p.elim
theorem tx_cmp {op : CmpOp} (hu : X.A.units + 64 < cLine) (ha : PEx X C xi a fa) (hb : PEx X C xi b fb) (hm : behindInMarks op b = false) :
    PT X (.Compare a [op] [b] pos) (AtX X.K C RQ xi (tst fun σ h => (fa σ h).bind fun v h1 => (fb σ h1).bind fun w h2 => cmpOp op v w h2)) := by
  refine PT.weak (pt_cmpR (cmp_ok (C := C) hu op) ha hb hm) fun σ H Q q => ?_
  show tOp (r2 X.K C (cmpOp op)) _ _ σ H _
  refine tOpx_of ?_
  obtain ⟨ρ, as, h, rs, sr, xd, p⟩ := q
  refine ⟨ρ, as, h, rs, sr, xd, ?_⟩
  have p : Po X.K C RQ _ ρ H ((((fa as h).bind fun v h1 => (fb as h1).bind fun w h2 => cmpOp op v w h2)).bind _) Q := p
  show Po X.K C (RV X.K) _ ρ H ((fa as h).bind fun v h1 => (fb as h1).bind fun w h2 => cmpOp op v w h2) _
  cases ef : ((fa as h).bind fun v h1 => (fb as h1).bind fun w h2 => cmpOp op v w h2) with
  | ok v h' =>
    have hv : ∃ b, v = .bl b := by
      cases e1 : fa as h with
      | ok v1 h1 =>
        rw [e1] at ef
        have ef : (fb as h1).bind (fun w h2 => cmpOp op v1 w h2) = .ok v h' := ef
        cases e2 : fb as h1 with
        | ok v2 h2 =>
          rw [e2] at ef
          have ef : cmpOp op v1 v2 h2 = .ok v h' := ef
          rcases cmp_bl op v1 v2 h2 with z | ⟨b, z⟩
          · rw [z] at ef; cases ef
          · rw [z] at ef; cases ef; exact ⟨b, rfl⟩
        | ex _ _ _ => rw [e2] at ef; cases ef
        | no => rw [e2] at ef; cases ef
      | ex _ _ _ => rw [e1] at ef; cases ef
      | no => rw [e1] at ef; cases ef
    obtain ⟨b, rfl⟩ := hv
    rw [ef] at p
    intro ρ2 H2 y s2 e2 f2 rv
    cases rv
    exact ⟨b, rfl, p ρ2 H2 b s2 e2 f2 rfl⟩
  | ex c fs h' => rw [ef] at p; exact p
  | no => rw [ef] at p; exact p.elim
/-! ### statements -/
variable {st : Stmt} {sts : List Stmt} {f g : Sl → AH → Out} {ft : Sl → AH → Res Bool}
abbrev PSx (X : Cx) (C : Nat → Addr) (xi : XI) (st : Stmt) (f : Sl → AH → Out) : Prop := PS X st (AtXS X.K C xi f)
abbrev PSsx (X : Cx) (C : Nat → Addr) (xi : XI) (sts : List Stmt) (f : Sl → AH → Out) : Prop := PSs X sts (AtXS X.K C xi f)
theorem AtXS.at {D : Ends} {σ : L2.St} {H : Hp} (a : AtXS X.K C xi f D σ H) : AtS X.K C NoW f D σ H := let ⟨ρ, as, h, rs, sr, _, p⟩ := a; ⟨ρ, as, h, rs, sr, p⟩
theorem sx_of (h : PSv X C NoW st f) : PSx X C xi st f := PS.weak h fun D σ H q => q.at
theorem sx_nil : PSsx X C xi [] (fun σ h => .nx σ h) := PSs.weak xs_nil fun D σ H q => q.at
theorem sx_cons (h1 : PSx X C xi st f) (h2 : PSsv X C NoW sts g) : PSsx X C xi (st :: sts) (fun σ h => match f σ h with
    | .nx σ1 h1 => g σ1 h1
    | o => o) := PSs.weak (pss_cons h1 h2) fun D σ H ⟨ρ, as, h, rs, sr, xd, p⟩ => by
  refine ⟨ρ, as, h, rs, sr, xd, ?_⟩
  simp only at p
  cases ef : f as h with
  | nx as1 h1 =>
    rw [ef] at p
    exact fun ρ1 H1 σ1 rs1 s1 e1 f1 => ⟨ρ ++ ρ1, as1, h1, rs1, s1, PoS.mono ρ1 e1 f1 p⟩
  | rt v h1 => rw [ef] at p; exact p
  | bk as1 h1 => rw [ef] at p; exact p
  | ct as1 h1 => rw [ef] at p; exact p
  | ex c fs as1 h1 => rw [ef] at p; exact p
  | no => rw [ef] at p; exact p
theorem sx_ret (he : PEx X C xi e fe) : PSx X C xi (.Return (some e) pos) (fun σ h => (fe σ h).out σ fun v h1 => .rt v h1) := PS.weak (ps_ret he) fun D σ H ⟨ρ, as, h, rs, sr, xd, p⟩ =>
  ⟨ρ, as, h, rs, sr, xd, (PoS.val rs p).imp fun y H1 ⟨ρ1, h1, v, e1, rs1, s1, rv, p1⟩ => p1.rt rv s1⟩
theorem sx_if {t b : List Stmt} (hc : PT X e (AtX X.K C RQ xi ft)) (ha : PSsx X C xi t f) (hb : PSsx X C xi b g) : PSx X C xi (.If e t b pos) (fun σ h => match ft σ h with
    | .ok c h1 => if c then f σ h1 else g σ h1
    | .ex c fs h1 => .ex c fs σ h1
    | .no => .no) := PS.weak (ps_if hc ha hb) fun D σ H ⟨ρ, as, h, rs, sr, xd, p⟩ => by
  refine ⟨ρ, as, h, rs, sr, xd, ?_⟩
  simp only at p
  cases ef : ft as h with
  | ok c h1 =>
    rw [ef] at p
    intro ρ1 H1 b s1 e1 f1 rb
    obtain rfl : c = b := rb
    cases c with
    | true => exact ⟨ρ ++ ρ1, as, h1, rs.mono ρ1 e1, s1, xd.mono ρ1 e1, PoS.mono ρ1 e1 f1 p⟩
    | false => exact ⟨ρ ++ ρ1, as, h1, rs.mono ρ1 e1, s1, xd.mono ρ1 e1, PoS.mono ρ1 e1 f1 p⟩
  | ex c fs h1 => rw [ef] at p; exact fun ρ1 H1 d ys s1 e1 f1 hd rp => p ρ1 H1 σ d ys (rs.mono ρ1 e1) s1 e1 f1 hd rp
  | no => rw [ef] at p; exact p
theorem sx_set {tg : Expr} {t : Tg} (he : PEx X C xi e fe) (hg : PG X tg (gT X.K t)) (hs : swapsWithSole [tg] e pos.line X.env = pure false) (hw : swappedStores [tg] e X.env = pure none) (h1 : (assignEach [tg] X.env).map (·.2) = [assign tg X.env]) :
    PSx X C xi (.Assign [tg] e pos) (fun σ h => (fe σ h).out σ fun v h1 => match putT t v σ with
    | some σ' => .nx σ' h1
    | none => .no) := PS.weak (ps_asg he hg hs hw h1) fun D σ H ⟨ρ, as, h, rs, sr, xd, p⟩ => by
  refine ⟨ρ, as, h, rs, sr, xd, (PoS.val rs p).imp fun y H1 ⟨ρ1, h1, v, e1, rs1, s1, rv, p1⟩ => ?_⟩
  split at p1
  · next as' ep => exact ⟨ρ ++ ρ1, as, as', v, rs1, rv, ep, fun σ' rs' _ => p1.nx rs' s1⟩
  · exact p1.elim
end
/-- e.f of the error that is handled -/
theorem ex_fld {X : Cx} {C : Nat → Addr} {oe : Obj} {c : Nat} {xi : XI} {pn : List (Addr × Obj)} {i : Nat} {n F : Str} {pos p2 : Pos} (T : OwnX X.K (C c)) (hno : findIn X.K (.ref (C c)) F = some none)
    (hz : Zc (.ref (C c)) xi.d oe) (hf : ∃ vs, oe.data = .fields vs) (hn : xi.nm = some i) (hi : X.N[i]? = some n) (hv : Vis X.env.scope n) (hd : (n == ("__debug__" : Str)) = false) (hcd : (n == ("__classdict__" : Str)) = false) :
    PEx (X.suite xi.a ((xi.a, oe) :: pn)) C xi (.Attribute (.Name n p2) F pos) (fun _ h => match xi.fs.lookup F with
      | some w => .ok w h
      | none => .no) := by
  refine PE.weak (pe_xf T.xf hno hz hf (pe_var (X := X.suite xi.a ((xi.a, oe) :: pn)) hi hv hd hcd)) fun σ H Q ⟨ρ, as, h, rs, sr, ⟨hs, ys, hx, rp⟩, p⟩ => ?_
  refine ⟨.ref xi.a, hs i hn, rfl, rfl, ?_⟩
  have p : Po X.K C (RV X.K) _ ρ H (match xi.fs.lookup F with
      | some w => Res.ok w h
      | none => Res.no) Q := p
  split at p
  · next w hw =>
    obtain ⟨y, hy, ry⟩ := rp_lookup rp hw
    cases ed : xi.d with
    | none =>
      rw [ed] at hx
      have : ys = [] := hx
      subst this
      cases hy
    | some dd =>
      rw [ed] at hx
      exact ⟨dd, ys, y, rfl, hx, hy, p.ok sr ry⟩
  · exact p.elim
end Ev

set_option Elab.async false
set_option linter.all false
set_option maxRecDepth 100000
set_option maxHeartbeats 8000000
/-! isinstance of the error that is handled; an own error without __init__, made of nothing. -/
namespace Ev
open PySem PySem.Spec PyProof.Rows L2
open PySem.W (clsIn findIn subIn typeIn keepIn hasDictIn mroIn excTail specialIn takesIn)
theorem sp_class (K : PySem.W.Frag) : specialIn K (.builtin "object.__class__") "__get__" = some (some (.builtin "getset_descriptor.__get__")) := by
  unfold PySem.W.specialIn
  show (some _ : Option Value).bind _ = _
  rw [Option.bind_some]
  show fastLookup _ "__get__" = _
  kernel_rfl
theorem tk_class (K : PySem.W.Frag) : takesIn K (.builtin "object.__class__") = some true := by
  unfold PySem.W.takesIn
  kernel_rfl
def rIsX (K : PySem.W.Frag) (D a : Addr) (d : Option Addr) : List V → Hp → VK → Prop := fun xs H Q => ∃ (A : Addr) (b : Bool), xs = [.ref a, .ref A] ∧ PySem.W.kitOne K (.ref D) (.ref A) = some b ∧ (∀ dd, d = some dd → ∃ ys, H dd = some (.xd ys)) ∧ Q (.bl b) H
theorem call_isX {X : Cx} {a D : Addr} {d : Option Addr} {oe : Obj} {pn : List (Addr × Obj)} (T : OwnX X.K D) (hz : Zc (.ref D) d oe) (hf : ∃ vs, oe.data = .fields vs) : CallR (X.suite a ((a, oe) :: pn)) (.builtin "isinstance") (rIsX X.K D a d) := by
  intro pins s σ H xs us Q I r h
  obtain ⟨A, b, rfl, e, hdd, q⟩ := h
  cases r with
  | cons rx rr =>
    cases rr with
    | cons rt rr =>
      cases rr
      cases rx
      cases rt
      obtain ⟨hget, _⟩ := I.pin (a, oe) (List.mem_append.mpr (.inl List.mem_cons_self))
      obtain ⟨vs, hv⟩ := hf
      obtain ⟨cd, bm, hcl, hm, hh, hbm⟩ := T.cls
      have hcs : (clsIn X.K D).isSome = true := by rw [hcl]; rfl
      cases hd : d with
      | none =>
        have J : PySem.W.InstAt s.heap a oe D none := ⟨hget, hz.1, by unfold PySem.W.notCls; rw [hv] <;> rfl, by rw [hz.2, hd]; trivial⟩
        exact PySem.W.kia_one (PySem.W.kitx_exc hcs T.ga T.gg T.exC T.ha (sp_class _) (tk_class _) T.obC) I.kIn J e (fun z => nomatch z) fun tk => ⟨.bl b, H, I.kept (t' := tk) fun _ _ z => z, rfl, q⟩
      | some dd =>
        obtain ⟨ys, hy⟩ := hdd dd hd
        have hx : ObjOk X.prog X.w H s.heap dd (.xd ys) := I.hok dd _ hy
        obtain ⟨mA, hns, hr⟩ := hx
        obtain ⟨od, ho, hl⟩ := lookIn_ns hns
        have J : PySem.W.InstAt s.heap a oe D (some od) := ⟨hget, hz.1, by unfold PySem.W.notCls; rw [hv] <;> rfl, by rw [hz.2, hd]; exact ho⟩
        exact PySem.W.kia_one (PySem.W.kitx_exc hcs T.ga T.gg T.exC T.ha (sp_class _) (tk_class _) T.obC) I.kIn J e (fun z => nomatch z) fun tk => ⟨.bl b, H, I.kept (t' := tk) fun _ _ z => z, rfl, q⟩
/-- isinstance(e, C), e the error that is handled -/
theorem ex_isE {X : Cx} {C : Nat → Addr} {oe : Obj} {c : Nat} {xi : XI} {pn : List (Addr × Obj)} {i : Nat} {n y : Str} {pos p p2 p3 : Pos} {A : Addr} {b : Bool} (T : OwnX X.K (C c)) (hk : PySem.W.kitOne X.K (.ref (C c)) (.ref A) = some b)
    (hz : Zc (.ref (C c)) xi.d oe) (hf : ∃ vs, oe.data = .fields vs) (hn : xi.nm = some i) (hi : X.N[i]? = some n) (hv : Vis X.env.scope n) (hd : (n == ("__debug__" : Str)) = false) (hcd : (n == ("__classdict__" : Str)) = false)
    (hg : Gl X "isinstance") (hm : X.mg "isinstance" = none) (hgy : Gl X y) (hmy : X.mg y = some (.ref A)) (hdy : (y == ("__debug__" : Str)) = false) :
    PEx (X.suite xi.a ((xi.a, oe) :: pn)) C xi (.Call (.Name "isinstance" p) [.Name n p2, .Name y p3] [] pos) (fun _ h => .ok (.bl b) h) := by
  refine PE.weak (pe_callB (X := X.suite xi.a ((xi.a, oe) :: pn)) (call_isX (pn := pn) T hz hf) hg hm PyProof.Rows.boot_isinstance (pa_cons (pe_var (X := X.suite xi.a ((xi.a, oe) :: pn)) hi hv hd hcd) (pa_cons (pe_glob (X := X.suite xi.a ((xi.a, oe) :: pn)) (v := .ref A) hgy hmy rfl hdy) pa_nil)) (by decide) (by decide)) fun σ H Q ⟨ρ, as, h, rs, sr, ⟨hs, ys, hx, rp⟩, p⟩ => ?_
  refine ⟨.ref xi.a, hs i hn, ?_⟩
  refine ⟨A, b, rfl, hk, fun dd e => ?_, p.ok sr (.bl b)⟩
  rw [e] at hx
  exact ⟨ys, hx⟩
/-- raise C(), C an own error without __init__ -/
theorem xs_rse0 {X : Cx} {C : Nat → Addr} {c : Nat} {W : WX} {x : Str} {p p2 pos : Pos} (T : OwnX X.K (C c)) (q : PySem.W.excIn X.K (C c) exTail "Exception.__new__" = true)
    (gl : Gl X x) (hm : X.mg x = some (.ref (C c))) (nd : (x == ("__debug__" : Str)) = false)
    (calm : X.calm = true) (tk : Takes X W) : PSv X C W (.Raise (some (.Call (.Name x p) [] [] pos)) none p2) (fun σ h => .ex c [] σ h) := by
  have mk : PMk X (.Call (.Name x p) [] [] pos) (fun _ H Q => Q (.ref (C c)) none H) := by
    intro pins s σ H Q I h
    refine wpAny_Call_Name_kw (ld_glob I gl hm ?_ nd)
    refine PySem.W.callWith_K0 I.kIn T.kC ?_
    show wpAny _ _ (call (.ref (C c)) []) _ _ _
    obtain ⟨bm, N, nm, qn, bs, hdct, sn, sub, ab, col, dd, k0, k1, k2, k3, k5, mN, hC, hN, hni, T'⟩ := exc_obj I.kIn q
    refine wpAny_call_exc_subT PySem.F.excBase_Exception T' hC hN hni (fun h' e hm => ?_) (Nat.zero_le _)
    exact mk_of I hm T.raises h (I.hok.gone hm.new)
  refine PS.weak (ps_raise calm tk mk) fun D σ H ⟨ρ, as, h, rs, sr, p⟩ => ?_
  exact p [] H σ none [] (by rw [List.append_nil]; exact rs) (by rw [List.append_nil]; exact sr) (Ext.refl H) (Fr.refl ρ H) rfl .nil
end Ev

set_option Elab.async false
set_option linter.all false
set_option maxRecDepth 100000
set_option maxHeartbeats 8000000
/-! C(F=e), C an own error that keeps one thing. -/
namespace PySem.HandSPX
open PySem PySem.Spec PySem.W PySem.Calls PyProof.Rows
section
variable {M : Model} {A : Around} {E : Value → Shared → Prop} {h : Heap} {g : Array GenState} {d : Drawn} {t : Nat} {os : OsState}
variable {nm q : Str} {C N : Addr} {bs bm bmB : List Value} {hdct : Bool} {sn : List Str} {sub : List Value} {ab : Bool} {col : Option Bool} {dd : Option Addr} {k0 k1 k2 k3 k5 : Option Value} {B newId initId : String} {kw : List (Str × Value)}
theorem check_new_ownK (F : ExcBaseFacts B newId initId bmB) (hT : ∀ X : String, bm.contains (.type X) = bmB.contains (.type X)) {Q : Unit → Shared → Prop}
    (hC : h.get? C = some (excClassObj nm q C N bs bm hdct sn sub ab col dd k0 k1 k2 k3 k5 newId)) (hq : Q () ⟨h, g, d, t, os⟩) : wpAny M A (checkBuiltinCall newId ⟨[.ref C], kw⟩) Q E ⟨h, g, d, t, os⟩ := by
  have hcont : (Value.ref C :: bm).contains (.type B) = true := by rw [List.contains_cons, hT, F.hasB, Bool.or_true]
  have hstar := F.noStar
  simp only [checkBuiltinCall, F.newKind, F.newSplit, F.newRow]
  repeat (first | refine wpAny_loadPart_at hC ?_ | (refine wpAny_isSubtype_exc hC ?_; rw [hcont]) | refine wpAny_staticBase_exc hC ?_ | refine wpAny_madeBy_exc hC ?_ | simp only [bne_self_eq_false, Bool.false_eq_true, if_false] | wp_step)
  exact hq
end
section
variable {prog : Program} {w : World} {A : Around} {E : Value → Shared → Prop} {R : Result → Shared → Prop} {h : Heap} {g : Array GenState} {d : Drawn} {t : Nat} {os : OsState}
variable {nm q : Str} {C N : Addr} {bs bm bmB : List Value} {hdct : Bool} {sn : List Str} {sub : List Value} {ab : Bool} {col : Option Bool} {dd : Option Addr} {k0 k1 k2 k3 k5 : Option Value} {B newId initId : String} {kw : List (Str × Value)}
theorem new_ownK (F : ExcBaseFacts B newId initId bmB) (hT : ∀ X : String, bm.contains (.type X) = bmB.contains (.type X))
    (hC : h.get? C = some (excClassObj nm q C N bs bm hdct sn sub ab col dd k0 k1 k2 k3 k5 newId))
    (hq : R (.ok (.ret (.ref (h.objs.size + 1)))) ⟨(h.push { cls := .type "tuple", data := .seq ([] : List Value).toArray }).push
      { cls := .ref C, data := .fields #[.ref h.objs.size, .none, .none, .none, .bool false, .none] }, g, d, t, os⟩) :
    codeAny (model prog w) A (.builtin newId ⟨[.ref C], kw⟩) R ⟨h, g, d, t, os⟩ := by
  have hends := F.ends
  have hcB : (Value.ref C :: bm).contains (.type B) = true := by rw [List.contains_cons, hT, F.hasB, Bool.or_true]
  have hcA : (Value.ref C :: bm).contains (.type "AttributeError") = false := by rw [List.contains_cons, hT, F.noAttr]; rfl
  have hcN : (Value.ref C :: bm).contains (.type "NameError") = false := by rw [List.contains_cons, hT, F.noName]; rfl
  have hrest : ([] : List Value).length ≤ sizeLine := Nat.zero_le _
  refine codeAny_builtinAt F.entry ?_
  unfold Builtin.«BaseException.__new__»
  refine wpAt_bind ?_
  show wpAt _ _ _ (stack >>= _) _ _ _
  refine wpAt_bind (wpAt_stack fun p below => wpAt_of_wpAny ?_)
  wp_walk
  refine wpAt_of_wpAny ?_
  rw [F.owner]
  repeat (first | with_reducible refine wpAny_madeHere_exc F.canon hC ?_ | with_reducible refine wpAny_loadPart_at hC ?_ | (with_reducible refine wpAny_isSubtype_exc hC ?_; first | rw [hcB] | rw [hcA] | rw [hcN]) | wp_step)
  show R _ _
  rw [Heap.size_push]
  exact hq
theorem type_call_ownK (F : ExcBaseFacts B newId initId bmB) (hT : ∀ X : String, bm.contains (.type X) = bmB.contains (.type X)) {fI : Addr} {Q : Fin → Shared → Prop}
    (hC : h.get? C = some (excClassObj nm q C N bs bm hdct sn sub ab col dd k0 k1 k2 k3 k5 newId))
    (hi : W.Looks (model prog w) h (typeLookup (.ref C) "__init__") (some (.ref fI))) (hb : ∀ self, W.Looks (model prog w) h (bindSpecial (.ref fI) self) (.ref fI, [self])) {F0 : Str} {v0 : Value} (hkw : kw = [(F0, v0)])
    (hq : codeAny (model prog w) A (.call (.ref fI) ⟨[.ref (h.objs.size + 1)], kw⟩)
      (fun r s' => match r with | .ok (.ret v) => v = .none ∧ Q (.done (.ret (.ref (h.objs.size + 1)))) s' | .ok _ => False | .error e => E e s')
      ⟨(h.push (W.kdv_tup [])).push (excO C h.objs.size), g, d, t, os⟩) :
    wpAny (model prog w) A (Builtin.«type.__call__» ⟨[.ref C], kw⟩) Q E ⟨h, g, d, t, os⟩ := by
  subst hkw
  repeat (first | with_reducible refine wpAny_loadPart_at hC ?_ | with_reducible refine wpAny_madeBy_exc hC ?_ | wp_step)
  refine codeAny_call_builtin_code (Code.quiet_builtin _ F.quiet) (check_new_ownK F hT hC ?_)
  refine new_ownK F hT hC ?_
  show wpAny _ _ _ _ _ _
  have k : ∀ b o, h.get? b = some o → ((h.push (W.kdv_tup [])).push (excO C h.objs.size)).get? b = some o := fun b o e => Heap.get?_push_of_some _ (Heap.get?_push_of_some _ e)
  have hC₁ := k _ _ hC
  have hget : ((h.push (W.kdv_tup [])).push (excO C h.objs.size)).get? (h.objs.size + 1) = some (excO C h.objs.size) := by heap_get
  have hcC : (Value.ref C :: bm).contains (.ref C) = true := by simp
  have i1 := hi.keeps k
  have b1 := (hb (.ref (h.objs.size + 1))).keeps k
  unfold isInstance
  repeat (first | with_reducible refine wpAny_loadPart_at hget ?_ | (with_reducible refine wpAny_isSubtype_exc hC₁ ?_; rw [hcC]) | wp_step)
  show wpAny _ _ (typeLookup (.ref C) _) _ _ _
  refine i1.at ?_
  refine wpAny_holding (wpAny_bind (b1.at ?_))
  refine wpAny_bind (wpAny_call (codeAny_mono hq fun r s' z => ?_))
  rcases r with e | (v | _ | _ | _) <;> first | exact z | exact z.elim | skip
  obtain ⟨rfl, z⟩ := z
  first
    | exact wpAny_pure (wpAny_pure z)
    | (wp_walk; exact z)
theorem call_ownK (F : ExcBaseFacts B newId initId bmB) (hT : ∀ X : String, bm.contains (.type X) = bmB.contains (.type X)) {fI : Addr} {F0 : Str} {v0 : Value}
    (hC : h.get? C = some (excClassObj nm q C N bs bm hdct sn sub ab col dd k0 k1 k2 k3 k5 newId))
    (hi : W.Looks (model prog w) h (typeLookup (.ref C) "__init__") (some (.ref fI))) (hb : ∀ self, W.Looks (model prog w) h (bindSpecial (.ref fI) self) (.ref fI, [self]))
    (hq : codeAny (model prog w) (A.under (.builtin "type.__call__" ⟨[.ref C], [(F0, v0)]⟩)) (.call (.ref fI) ⟨[.ref (h.objs.size + 1)], [(F0, v0)]⟩) (W.InitBack (h.objs.size + 1) R)
      ⟨(h.push (W.kdv_tup [])).push (excO C h.objs.size), g, d, t, os⟩) :
    codeAny (model prog w) A (.call (.ref C) ⟨[], [(F0, v0)]⟩) R ⟨h, g, d, t, os⟩ := by
  have f1 := tc_lookup
  have f2 := tc_bind (.ref C)
  have hTy : (⟨h, g, d, t, os⟩ : Shared).TypeIs (.ref C) "type" := ⟨_, hC, rfl⟩
  refine codeAny_of_tree ?_
  show wpAny _ _ (callAny (.ref C) _) _ _ _
  repeat (any_goals (first | assumption | with_reducible refine wpAny_loadPart_at hC ?_ | wp_step))
  refine ⟨rfl, ?_⟩
  refine codeAny_call_builtin_at (Code.quiet_builtin _ (by decide +kernel)) entry_typeCall (wpAny_check_type_call_sub hC (type_call_ownK F hT hC hi hb rfl ?_))
  refine codeAny_mono hq fun r s' z => ?_
  rcases r with e | (v | _ | _ | _) <;> exact z
end
end PySem.HandSPX
namespace Ev
open PySem PySem.Spec PyProof.Rows L2
open PySem.W (clsIn findIn subIn typeIn keepIn hasDictIn mroIn excTail)
section
variable {X : Cx} {C : Nat → Addr} {CX : CXT} {lv : Nat} {fI : Addr} {fd : FuncData} {s0 p0 : Str} {F x : Str} {p pos pos2 kpos : Pos} {e : Expr} {ta : TA} {W : WX} {fe : Sl → AH → Res AV}
theorem pmkXK {Ca : Addr} (T : OwnX X.K Ca) (iC : findIn X.K (.ref Ca) "__init__" = some (some (.ref fI))) (tI : typeIn X.K (.ref fI) = some (.type "function")) (nF : findIn X.K (.ref Ca) F = some none)
    (F1 : FnG X.prog X.w X.K X.mg X.base CX lv fI fd [s0, p0] (spX X.K F)) (room : Room (lv + 1) X.A) (grd : X.A.guards = some []) (bd : ∀ (s : Shared) (a u : Value), BindsTo s fd ⟨[a], [(F, u)]⟩ [(s0, a), (p0, u)]) (never : ∀ out H s e s', CX out H s (fun _ _ _ => False) e s' → False)
    (gl : Gl X x) (hm : X.mg x = some (.ref Ca)) {te : TE} (he : PE X e te) (nd : (x == ("__debug__" : Str)) = false) :
    PMk X (.Call (.Name x p) [] [⟨some F, e, kpos⟩] pos) (fun σ H Q => te σ H fun y H1 => ∃ v, [y] = [v] ∧ ∀ d, H1 d = none → Q (.ref Ca) (some d) (upd H1 d (.xd [(F, v)]))) := by
  intro pins s σ H Q I h
  obtain ⟨nm, q, N, bs, bm, sn, sub, ab, col, dd, k0, k1, k2, k3, k5, hC, hbm⟩ := T.lk
  refine wpAny_Call_Name_kw (ld_glob I gl hm ?_ nd)
  refine PySem.W.callWith_KW0 (h₀ := X.base) I.ok.mod.kin T.kC (by rfl) ?_ (by rfl)
  refine thn ((pk_cons (nm := some F) (kpos := kpos) he pk_nil).run pos pins s σ H (fun zs H1 => ∃ v, zs = [v] ∧ ∀ d, H1 d = none → Q (.ref Ca) (some d) (upd H1 d (.xd [(F, v)]))) I ?_) fun ws s1 ⟨zs, H1, I1, rz, v, ez, q1⟩ => ⟨I1.kIn, ?_⟩
  · exact h
  subst ez
  obtain ⟨u, rfl, ru⟩ := rz.one
  show wpAny _ _ (call (.ref Ca) [] [(F, u)]) _ _ _
  obtain ⟨hp, g, dr, tk, os⟩ := s1
  have hsz : hp.objs.size ≤ hp.objs.size + 1 := Nat.le_succ _
  have hn : H1 (hp.objs.size + 1) = none := I1.hok.fresh hsz
  have kk : ∀ b o, hp.get? b = some o → ((hp.push (PySem.W.kdv_tup [])).push (PySem.HandSPX.excO Ca hp.objs.size)).get? b = some o := fun b o e => Heap.get?_push_of_some _ (Heap.get?_push_of_some _ e)
  have hget : ((hp.push (PySem.W.kdv_tup [])).push (PySem.HandSPX.excO Ca hp.objs.size)).get? (hp.objs.size + 1) = some (PySem.HandSPX.excO Ca hp.objs.size) := by heap_get
  have I2 : L2.Inv X pins σ (upd H1 (hp.objs.size + 1) (exo (hp.objs.size + 1) Ca none)) ⟨(hp.push (PySem.W.kdv_tup [])).push (PySem.HandSPX.excO Ca hp.objs.size), g, dr, tk, os⟩ :=
    I1.laid (t' := tk) (a := hp.objs.size + 1) (o := exo (hp.objs.size + 1) Ca none) (h' := (hp.push (PySem.W.kdv_tup [])).push (PySem.HandSPX.excO Ca hp.objs.size)) kk hsz (exo_ok hget)
  have r2 : Vals [V.ref (hp.objs.size + 1), v] [Value.ref (hp.objs.size + 1), u] := .cons rfl (.cons ru .nil)
  have hq : spX X.K F [V.ref (hp.objs.size + 1), v] (upd H1 (hp.objs.size + 1) (exo (hp.objs.size + 1) Ca none))
      (fun v H2 => v = .non ∧ ∃ (d : Addr) (fs : List (Str × V)), H2 (hp.objs.size + 1) = some (exo (hp.objs.size + 1) Ca (some d)) ∧ H2 d = some (exd d fs) ∧ H1 d = none ∧ Q (.ref Ca) (some d) (upd (L2.del H2 (hp.objs.size + 1)) d (.xd fs))) (fun _ _ _ => False) := by
    refine ⟨_, Ca, v, rfl, T, nF, upd_same, fun dx n ne => ⟨rfl, dx, [(F, v)], upd_same, ?_, ?_, ?_⟩⟩
    · rw [upd_ne ne, upd_same]
    · rw [upd_ne ne] at n; exact n
    · have n' : H1 dx = none := by rw [upd_ne ne] at n; exact n
      have eq : upd (L2.del (upd (upd (upd H1 (hp.objs.size + 1) (exo (hp.objs.size + 1) Ca none)) dx (exd dx [(F, v)])) (hp.objs.size + 1) (exo (hp.objs.size + 1) Ca (some dx))) (hp.objs.size + 1)) dx (.xd [(F, v)]) = upd H1 dx (.xd [(F, v)]) := by
        funext b
        by_cases hb : b = dx
        · subst hb; rw [upd_same, upd_same]
        · rw [upd_ne hb, upd_ne hb]
          by_cases h2 : b = hp.objs.size + 1
          · subst h2; rw [del_same, hn]
          · rw [del_ne h2, upd_ne h2, upd_ne hb, upd_ne h2]
      rw [eq]
      exact q1 dx n'
  have b := bd ⟨(hp.push (PySem.W.kdv_tup [])).push (PySem.HandSPX.excO Ca hp.objs.size), g, dr, tk, os⟩ (Value.ref (hp.objs.size + 1)) u
  refine wpAny_call (PySem.HandSPX.call_ownK PySem.F.excBase_Exception (fun Y => PySem.W.excTail_contains Y bm hbm) (I1.kIn _ _ hC) (PySem.W.looks_findIn I1.kIn iC) (fun self => PySem.W.bind_fn I1.kIn self tI)
    (codeAny_mono (F1.runs (us := [Value.ref (hp.objs.size + 1), u]) (room.make Ca [] [(F, u)]) (grd_make.trans grd) (I2.env0.make Ca [] [(F, u)]) b r2 hq) fun r s' hq' => ?_))
  cases r with
  | error er => exact (never _ _ _ _ _ hq').elim
  | ok fl =>
    cases fl with
    | ret u =>
      obtain ⟨v, H2, os2, bare2, un2, hok2, rv, ev, d, fs, ea, ed, hd1, q2⟩ := hq'
      subst ev
      obtain ⟨h2, g2, d2, t2, os'⟩ := s'
      exact ⟨rv, mk_end T.raises I1 hsz kk un2 hok2 os2 bare2 ea ed hd1 q2⟩
    | next => exact False.elim hq'
    | brk => exact False.elim hq'
    | cont => exact False.elim hq'
/-- C(F=e).F -/
theorem ev_xmk {c : Nat} (T : OwnX X.K (C c)) (iC : findIn X.K (.ref (C c)) "__init__" = some (some (.ref fI))) (tI : typeIn X.K (.ref fI) = some (.type "function")) (nF : findIn X.K (.ref (C c)) F = some none)
    (F1 : FnG X.prog X.w X.K X.mg X.base CX lv fI fd [s0, p0] (spX X.K F)) (room : Room (lv + 1) X.A) (grd : X.A.guards = some []) (bd : ∀ (s : Shared) (a u : Value), BindsTo s fd ⟨[a], [(F, u)]⟩ [(s0, a), (p0, u)]) (never : ∀ out H s e s', CX out H s (fun _ _ _ => False) e s' → False)
    (gl : Gl X x) (hm : X.mg x = some (.ref (C c))) (he : PEv X C W e fe) (nd : (x == ("__debug__" : Str)) = false)
    (hb : attributeBase (.Call (.Name x p) [] [⟨some F, e, kpos⟩] pos) F X.env (eval (.Call (.Name x p) [] [⟨some F, e, kpos⟩] pos) X.env) = eval (.Call (.Name x p) [] [⟨some F, e, kpos⟩] pos) X.env) :
    PEv X C W (.Attribute (.Call (.Name x p) [] [⟨some F, e, kpos⟩] pos) F pos2) fe := by
  have mk := pmkXK (p := p) (pos := pos) (kpos := kpos) T iC tI nF F1 room grd bd never gl hm he nd
  refine ⟨fun pins s σ H Q I q => ?_⟩
  obtain ⟨ρ, as, h, rs, sr, p⟩ := q
  refine attr_of hb (wpAny_mono (mk pins s σ H (fun cls d H2 => ∃ dd v, cls = .ref (C c) ∧ d = some dd ∧ H2 dd = some (.xd [(F, v)]) ∧ Q v H2) I ?_) (fun u s1 hu => ?_) fun _ _ z => z)
  · show At X.K C (RV X.K) W fe σ H _
    refine ⟨ρ, as, h, rs, sr, ?_⟩
    cases ef : fe as h with
    | ok v h1 =>
      rw [ef] at p
      intro ρ1 H1 y s1 e1 f1 rv
      refine ⟨y, rfl, fun d hd => ⟨d, y, rfl, rfl, upd_same, ?_⟩⟩
      have ex : Ext H1 (upd H1 d (.xd [(F, y)])) := Ext.laid hd
      refine p ρ1 _ y (s1.off hd) (e1.trans ex) ?_ (rv.ext ex)
      have := f1.trans (Fr.laid (ρ' := []) (o := .xd [(F, y)]) hd (by simp))
      rwa [List.append_nil] at this
    | ex c fs h1 => rw [ef] at p; exact p
    | no => rw [ef] at p; exact p.elim
  · obtain ⟨a, oe, vs, sI, H', cls, d, rfl, J, k, hne, ha, hz, hd, h1, na, os, ag, r, dd, v, rfl, rfl, hy, qq⟩ := hu
    obtain ⟨hpI, gI, dI, tI', osI⟩ := sI
    obtain ⟨hp1, g1, d1, t1, os1⟩ := s1
    have os : os1 = osI := os
    subst os
    have J1 : L2.Inv X pins σ H' ⟨hp1, g1, d1, t1, os1⟩ := J.call' (ch := []) (s' := ⟨hp1, g1, d1, t1, os1⟩) rfl (Un.kept k) (J.hok.kept k) ag (fun b z => nomatch z)
    have hx : ObjOk X.prog X.w H' hp1 dd (.xd [(F, v)]) := J1.hok dd _ hy
    obtain ⟨mA, hns, hr⟩ := hx
    obtain ⟨od, ho, hl⟩ := lookIn_ns hns
    obtain ⟨u, hu, ru⟩ := RelO.some_of (v := v) (o := mA F) (by have := hr F; simpa using this)
    have K1 : PySem.W.InstAt hp1 a oe (C c) (some od) := ⟨ha, hz.1, by unfold PySem.W.notCls; rw [hd] <;> rfl, by rw [hz.2]; exact ho⟩
    exact HandSPX.exc_get J1.kIn K1 T.ga T.gg T.exC (PySem.W.findObj_own T.hdC nF rfl (by rw [hl, hu])) (handed_of ru) ⟨v, H', J1.tok _, ru, qq⟩
end
end Ev

set_option Elab.async false
set_option linter.all false
set_option maxRecDepth 100000
set_option maxHeartbeats 8000000
/-! What a def's context gives to its code. -/
namespace Ev
open PySem PySem.Spec L2
/-- the module's facts: what stands under the names; the defs do what g says -/
structure Gx (Γ : GE) (CX : CXT) (C : Nat → Addr) (g : G) (lv : Nat) (P : Program) (wd : World) (K : PySem.W.Frag) (mg : Str → Option Value) (bs : Heap) : Prop where
  blt : ∀ x, x ∈ (["len", "abs", "int", "bool", "str", "tuple", "list", "all", "any", "sum", "min", "max", "repr", "isinstance", "range", "enumerate", "zip", "sorted"] : List Str) → mg x = none
  fns : ∀ x i, Γ.fns.lookup x = some i → ∃ fa fd ps, mg x = some (.ref fa) ∧ PySem.W.keepIn K (.ref fa) = true ∧ Binds K fd ps [] ∧ FnG P wd K mg bs CX lv fa fd ps (spF K C (g.fn i))
  ins : ∀ x c i, Γ.ins.lookup x = some (c, i) → ∃ fa fd ps, mg x = some (.ref (C c)) ∧ Mk K (C c) fa ∧ Binds K fd ps [] ∧ FnG P wd K mg bs CX lv fa fd ps (spF K C (g.fn i))
  mths : ∀ m c i, Γ.mths.lookup m = some (c, i) → ∃ fa fd ps, Cls K (C c) ∧ Meth K (C c) m fa ∧ Binds K fd ps [] ∧ FnG P wd K mg bs CX lv fa fd ps (spF K C (g.fn i))
  cst : ∀ x v, Γ.cst.lookup x = some v → ∃ y u, mg x = some u ∧ RelV y u ∧ ∀ ρ H, RV K ρ H v y
  atr : ∀ c F, g.atr c F = true → Cls K (C c) ∧ NoAttr K (C c) F
  never : ∀ out H s e s', CX out H s (fun _ _ _ => False) e s' → False
  pass : ∀ {X : Cx} {W : WX}, X.prog = P → X.w = wd → Takes X W → ∀ σ, PassesAt CX X σ (WE' W σ)
  exs : ∀ x c, Γ.exs.lookup x = some c → mg x = some (.ref (C c)) ∧ g.sub c c = true
  xcl : ∀ c, g.sub c c = true → OwnX K (C c)
  xsb : ∀ c d, g.sub c c = true → g.sub d d = true → PySem.W.subIn K (.ref (C c)) (.ref (C d)) = some (g.sub c d)
  xat : ∀ c F, g.xat c F = true → PySem.W.findIn K (.ref (C c)) F = some none
  xin : ∀ c F, g.sub c c = true → Γ.exf[c]? = some F → ∃ fI fd ps, PySem.W.findIn K (.ref (C c)) "__init__" = some (some (.ref fI)) ∧ PySem.W.typeIn K (.ref fI) = some (.type "function") ∧ PySem.W.findIn K (.ref (C c)) F = some none ∧ Binds K fd ps [] ∧ FnG P wd K mg bs CX lv fI fd ps (spX K F)
  xi0 : ∀ c, c ∈ Γ.ex0 → PySem.W.excIn K (C c) exTail "Exception.__new__" = true
  xik : ∀ c F, g.sub c c = true → Γ.exf[c]? = some F → ∃ fI fd s0 p0, PySem.W.findIn K (.ref (C c)) "__init__" = some (some (.ref fI)) ∧ PySem.W.typeIn K (.ref fI) = some (.type "function") ∧ PySem.W.findIn K (.ref (C c)) F = some none ∧ (∀ (s : Shared) (a u : Value), BindsTo s fd ⟨[a], [(F, u)]⟩ [(s0, a), (p0, u)]) ∧ FnG P wd K mg bs CX lv fI fd [s0, p0] (spX K F)
structure Fx (Γ : GE) (N : List Str) (CX : CXT) (C : Nat → Addr) (g : G) (lv : Nat) (top : Bool) (sc : Scope) (W : WX) (X : Cx) : Prop where
  scope : X.env.scope = sc
  nm : X.N = N
  nd : N.Nodup
  calm : X.calm = true
  room : Room (lv + 1) X.A
  grd : X.A.guards = some []
  fnc : top = true → ∀ x, X.fn x = true
  tk : Takes X W
  own : PassesOwn (model X.prog X.w) X.A X.env X.xe
  stk : top = true → X.stack = X.env :: X.outer ∧ X.env.frame = some X.env.locals
  gx : Gx Γ CX C g lv X.prog X.w X.K X.mg X.base
section
variable {Γ : GE} {N : List Str} {CX : CXT} {C : Nat → Addr} {g : G} {lv : Nat} {top : Bool} {sc : Scope} {W : WX} {X : Cx}
theorem Fx.pas (F : Fx Γ N CX C g lv top sc W X) : ∀ σ, PassesAt CX X σ (WE' W σ) := F.gx.pass rfl rfl F.tk
theorem Fx.tr {W' : WX} (F : Fx Γ N CX C g lv top sc W X) {pn : List (Addr × Obj)} {xe : Value → Shared → Prop} (tk : Takes (X.tr pn xe) W') (pas : PassesOwn (model X.prog X.w) X.A X.env xe) : Fx Γ N CX C g lv top sc W' (X.tr pn xe) :=
  ⟨F.scope, F.nm, F.nd, F.calm, F.room, F.grd, F.fnc, tk, pas, F.stk, F.gx⟩
theorem Fx.u64 (F : Fx Γ N CX C g lv top sc W X) : X.A.units + 64 < cLine := by have := F.room.un; omega
theorem Fx.u65 (F : Fx Γ N CX C g lv top sc W X) : X.A.units + 65 < cLine := by have := F.room.un; omega
theorem Fx.u1 (F : Fx Γ N CX C g lv top sc W X) : X.A.units + 1 < cLine := by have := F.room.un; omega
theorem Fx.blk (F : Fx Γ N CX C g lv top sc W X) {scope : Scope} (s : Shared) (H : Hp) (D : Addr) (cl : List (Str × Addr)) (fp : List Addr) : Fx Γ N CX C g lv false (relS scope sc) NoW (X.blk s H scope (compEnvC scope cl D X.env) fp) := by
  refine ⟨?_, F.nm, F.nd, F.calm, F.room, F.grd, fun h => Bool.noConfusion h, takes0, fun _ _ (h : False) => h.elim, fun h => Bool.noConfusion h, F.gx⟩
  show relS scope X.env.scope = relS scope sc
  rw [F.scope]
theorem gl_of (F : Fx Γ N CX C g lv top sc W X) {x : Str} (h : glbB sc x = true) : Gl X x := by
  show X.env.kindOf x = some .globalImplicit
  have : X.env.kindOf x = sc.names.lookup x := by rw [← F.scope]; rfl
  rw [this]
  unfold glbB at h
  split at h <;> first | assumption | cases h
theorem vis_of (F : Fx Γ N CX C g lv top sc W X) {x : Str} (h : visB sc x = true) : Vis X.env.scope x := by
  rw [F.scope]
  unfold visB at h
  unfold Vis
  split at h <;> simp_all
theorem slot_of {x : Str} {i : Nat} (h : slotOf N x = some i) : N[i]? = some x := by
  unfold slotOf at h
  obtain ⟨hlt, e, _⟩ := List.findIdx?_eq_some_iff_getElem.mp h
  simp only [decide_eq_true_eq] at e
  rw [List.getElem?_eq_getElem hlt, e]
/-- an attribute's owner of the plain forms -/
def baseC : Expr → Bool
  | .Call (.Name _ _) [] [] _ => false
  | _ => true
theorem base_of {o : Expr} (h : baseC o = true) (m : Str) (env : Env) (w : Sem Value) : attributeBase o m env w = w := by
  unfold attributeBase
  split
  · cases h
  · rfl
theorem star_all {es : List Expr} (h : es.all plainC = true) (env : Env) : starEach es env = es.map fun e => (false, eval e env) := by
  induction es with
  | nil => rfl
  | cons e es ih =>
    simp only [List.all_cons, Bool.and_eq_true] at h
    rw [pl_star h.1, ih h.2]; rfl
theorem back_all {es : List Expr} (h : es.all plainC = true) (pos : Pos) (env : Env) : (backTo pos (starEach es env)).any (·.1) = false := by
  rw [star_all h]
  unfold backTo
  simp
theorem form_of {X : Cx} {o e : Expr} {es : List Expr} {m : Str} {apos cpos : Pos} (hb : baseC o = true) (h : (e :: es).all plainC = true) (hl : (apos.endLine == cpos.line) = true) (hn : (e :: es).length < 30) : MtForm X o m apos e es cpos := by
  have h2 := h
  simp only [List.all_cons, Bool.and_eq_true] at h2
  refine ⟨base_of hb m X.env _, ?_, hl, pl_star h2.1 _ _, back_all h2.2 _ _⟩
  have e1 : (backTo cpos (starEach (e :: es) X.env)).all (fun x => !x.1) = true := by
    rw [star_all h]
    unfold backTo
    simp
  rw [e1]
  have e2 : (backToKw cpos (keywordEach [] X.env)).all (fun x => x.1.isSome) = true := rfl
  rw [e2]
  simp only [Bool.true_and, decide_eq_true_eq, List.length_nil, List.isEmpty_nil, if_true, Nat.add_zero]
  exact hn
end
end Ev

set_option Elab.async false
set_option linter.all false
set_option maxRecDepth 100000
set_option maxHeartbeats 8000000
/-! Rules under a context's facts. -/
namespace Ev
open PySem PySem.Spec L2
theorem boot_abs' : bootBuiltins "abs" = some (.builtin "abs") := by decide +kernel
theorem boot_all' : bootBuiltins "all" = some (.builtin "all") := by decide +kernel
theorem boot_any' : bootBuiltins "any" = some (.builtin "any") := by decide +kernel
theorem boot_sum' : bootBuiltins "sum" = some (.builtin "sum") := by decide +kernel
theorem boot_min' : bootBuiltins "min" = some (.builtin "min") := by decide +kernel
theorem boot_max' : bootBuiltins "max" = some (.builtin "max") := by decide +kernel
theorem boot_len' : bootBuiltins "len" = some (.builtin "len") := by decide +kernel
theorem boot_repr' : bootBuiltins "repr" = some (.builtin "repr") := by decide +kernel
theorem boot_int' : bootBuiltins "int" = some (.type "int") := by decide +kernel
theorem boot_tuple' : bootBuiltins "tuple" = some (.type "tuple") := by decide +kernel
theorem boot_list' : bootBuiltins "list" = some (.type "list") := by decide +kernel
theorem boot_sorted' : bootBuiltins "sorted" = some (.builtin "sorted") := by decide +kernel
theorem boot_bool' : bootBuiltins "bool" = some (.type "bool") := by decide +kernel
theorem boot_str' : bootBuiltins "str" = some (.type "str") := by decide +kernel
section
variable {Γ : GE} {N : List Str} {CX : CXT} {C : Nat → Addr} {g : G} {lv : Nat} {top : Bool} {sc : Scope} {W : WX} {X : Cx} {x : Str} {e : Expr} {es : List Expr} {fs : Sl → AH → Res (List AV)} {pos pp : Pos}
theorem pr_ok (F : Fx Γ N CX C g lv top sc W X) {p : Pr} (h : prName x = some p) (gl : glbB sc x = true) (ha : PAv X C W (e :: es) fs) (pl : (e :: es).all plainC = true) :
    PEv X C W (.Call (.Name x pp) (e :: es) [] pos) (fun σ h => (fs σ h).bind fun vs h1 => prOp p vs h1) := by
  have hg := gl_of F gl
  have pl2 := pl
  simp only [List.all_cons, Bool.and_eq_true] at pl2
  have st := pl_star pl2.1 es X.env
  have bk := back_all pl2.2 pos X.env
  have hm : ∀ y, y ∈ (["len", "abs", "int", "bool", "str", "tuple", "list", "all", "any", "sum", "min", "max", "repr", "isinstance", "range", "enumerate", "zip", "sorted"] : List Str) → X.mg y = none := F.gx.blt
  unfold prName at h
  split at h
  · next e => cases h; subst e; exact ev_prB (len_ok (C := C)) hg (hm _ (by simp)) boot_len' ha (by decide) (by decide) st bk
  split at h
  · next e => cases h; subst e; exact ev_prB (abs_ok (C := C)) hg (hm _ (by simp)) boot_abs' ha (by decide) (by decide) st bk
  split at h
  · next e => cases h; subst e; exact ev_prT (int_ok (C := C)) hg (hm _ (by simp)) boot_int' ha (by decide) (by decide) st bk
  split at h
  · next e => cases h; subst e; exact ev_prT (tuple_ok (C := C)) hg (hm _ (by simp)) boot_tuple' ha (by decide) (by decide) st bk
  split at h
  · next e => cases h; subst e; exact ev_prT (list_ok (C := C)) hg (hm _ (by simp)) boot_list' ha (by decide) (by decide) st bk
  split at h
  · next e => cases h; subst e; exact ev_prB (all_ok (C := C) F.calm) hg (hm _ (by simp)) boot_all' ha (by decide) (by decide) st bk
  split at h
  · next e => cases h; subst e; exact ev_prB (any_ok (C := C) F.calm) hg (hm _ (by simp)) boot_any' ha (by decide) (by decide) st bk
  split at h
  · next e => cases h; subst e; exact ev_prB (sum_ok (C := C) F.calm) hg (hm _ (by simp)) boot_sum' ha (by decide) (by decide) st bk
  split at h
  · next e => cases h; subst e; exact ev_prB (minL_ok (C := C) F.calm F.u65) hg (hm _ (by simp)) boot_min' ha (by decide) (by decide) st bk
  split at h
  · next e => cases h; subst e; exact ev_prB (max_ok (C := C) F.calm) hg (hm _ (by simp)) boot_max' ha (by decide) (by decide) st bk
  split at h
  · next e => cases h; subst e; exact ev_prB (repr_ok (C := C) F.grd F.u64) hg (hm _ (by simp)) boot_repr' ha (by decide) (by decide) st bk
  split at h
  · next e => cases h; subst e; exact ev_prB (sorted_ok (C := C) F.u65) hg (hm _ (by simp)) boot_sorted' ha (by decide) (by decide) st bk
  · cases h
/-- a comprehension in a call -/
theorem prc_ok (F : Fx Γ N CX C g lv top sc W X) {p : Pr} {elt tg iter : Expr} {ifs : List Expr} {scope : Scope} {own : List (Str × Nat)} {t : Tg} {fi : Sl → AH → Res Src} {fc : Sl → AH → Res Bool} {fe : Sl → AH → Res AV} {p2 : Pos} (h : prName x = some p) (hp : prComp p = true) (gl : glbB sc x = true)
    (k : LcOk X C W elt tg iter ifs scope own t fi fc fe) : PEv X C W (.Call (.Name x pp) [.ListComp elt [⟨tg, iter, ifs, 0⟩] scope p2] [] pos) (fun σ h => (fi σ h).bind fun src h1 => (loopC src.watch (compBody t (own.map (·.2)) σ fc fe) src.items [] h1).bind fun vs h5 => prSeq p vs h5) := by
  have hg := gl_of F gl
  have hm : ∀ y, y ∈ (["len", "abs", "int", "bool", "str", "tuple", "list", "all", "any", "sum", "min", "max", "repr", "isinstance", "range", "enumerate", "zip", "sorted"] : List Str) → X.mg y = none := F.gx.blt
  unfold prName at h
  split at h
  · next e => cases h; cases hp
  split at h
  · next e => cases h; cases hp
  split at h
  · next e => cases h; cases hp
  split at h
  · next e => cases h; subst e; exact ev_tuplc (x := "tuple") k hg (hm _ (by simp))
  split at h
  · next e => cases h; cases hp
  split at h
  · next e => cases h; subst e; exact ev_alllc (x := "all") k hg (hm _ (by simp)) boot_all'
  split at h
  · next e => cases h; subst e; exact ev_anylc (x := "any") k hg (hm _ (by simp)) boot_any'
  split at h
  · next e => cases h; subst e; exact ev_sumlc (x := "sum") k hg (hm _ (by simp)) boot_sum'
  split at h
  · next e => cases h; cases hp
  split at h
  · next e => cases h; cases hp
  split at h
  · next e => cases h; cases hp
  split at h
  · next e => cases h; cases hp
  · cases h
/-- a type's name -/
theorem kind_ok (F : Fx Γ N CX C g lv top sc W X) {t : Nat} (h : kindName x = some t) (gl : glbB sc x = true) : t < 5 ∧ PE X (.Name x pp) (tC (.ty (kindStr t))) := by
  have hg := gl_of F gl
  have hm : ∀ y, y ∈ (["len", "abs", "int", "bool", "str", "tuple", "list", "all", "any", "sum", "min", "max", "repr", "isinstance", "range", "enumerate", "zip", "sorted"] : List Str) → X.mg y = none := F.gx.blt
  unfold kindName at h
  split at h
  · next e => cases h; subst e; exact ⟨by decide, pe_bltn hg (hm _ (by simp)) boot_int' rfl (by decide) (by decide)⟩
  split at h
  · next e => cases h; subst e; exact ⟨by decide, pe_bltn hg (hm _ (by simp)) boot_bool' rfl (by decide) (by decide)⟩
  split at h
  · next e => cases h; subst e; exact ⟨by decide, pe_bltn hg (hm _ (by simp)) boot_str' rfl (by decide) (by decide)⟩
  split at h
  · next e => cases h; subst e; exact ⟨by decide, pe_bltn hg (hm _ (by simp)) boot_list' rfl (by decide) (by decide)⟩
  split at h
  · next e => cases h; subst e; exact ⟨by decide, pe_bltn hg (hm _ (by simp)) boot_tuple' rfl (by decide) (by decide)⟩
  · cases h
end
end Ev

set_option Elab.async false
set_option linter.all false
set_option maxRecDepth 100000
set_option maxHeartbeats 8000000
/-! From the text to the small language, each piece with its proof. -/
namespace Ev
open PySem PySem.Spec L2

section
variable (Γ : GE) (N : List Str) (top : Bool) (sc : Scope)
structure SE (e : Expr) where
  ir : E
  pl : plainC e = true
  pe : ∀ {CX C g lv W X}, Fx Γ N CX C g lv top sc W X → PEv X C W e (ev g none ir)
  pt : ∀ {CX C g lv W X}, Fx Γ N CX C g lv top sc W X → PTv X C W e (evT g none ir)
structure SA (es : List Expr) where
  irs : List E
  pl : es.all plainC = true
  nil : es = [] → irs = []
  pa : ∀ {CX C g lv W X}, Fx Γ N CX C g lv top sc W X → PAv X C W es (evs g none irs)
  ts : ∀ {CX C g lv W X}, Fx Γ N CX C g lv top sc W X → es.length ≤ 1 → PTsv X C W es (evCs g none irs)
structure SO (e : Option Expr) where
  ir : Option E
  po : ∀ {CX C g lv W X}, Fx Γ N CX C g lv top sc W X → POv X C W e (evO g none ir)
structure SB (op : BoolOp) (es : List Expr) where
  ir : E
  pe : ∀ {CX C g lv W X} (pos : Pos), Fx Γ N CX C g lv top sc W X → PEv X C W (.BoolOp op es pos) (ev g none ir)
  pw : ∀ {CX C g lv W X} (pos : Pos), Fx Γ N CX C g lv top sc W X → PWv X C W (.BoolOp op es pos) (evT g none ir)
structure SG (t : Expr) where
  tg : Tg
  pg : ∀ {CX C g lv W X}, Fx Γ N CX C g lv top sc W X → PG X t (gT X.K tg)
structure SGs (ts : List Expr) where
  tgs : List Tg
  len : ∀ env, (assignEach ts env).length = tgs.length
  nst : ∀ env, (assignEach ts env).findIdx? (·.1) = none
  pg : ∀ {CX C g lv W X}, Fx Γ N CX C g lv top sc W X → PGs X ts (gTs X.K tgs)
structure SI (tg e : Expr) where
  it : It
  fold : ∀ env x, foldedSetIterable e env x = pure x
  pi : ∀ {CX C g lv W X}, Fx Γ N CX C g lv top sc W X → PIv X C W tg e (evI g none it)
structure SL (elt tg iter : Expr) (ifs : List Expr) (scope : Scope) where
  it : It
  t : Tg
  cs : List E
  el : E
  ok : ∀ {CX C g lv W X}, Fx Γ N CX C g lv top sc W X → LcOk X C W elt tg iter ifs scope (ownOf N scope) t (evI g none it) (evCs g none cs) (ev g none el)
structure SK (cs : List Expr) where
  ts : List Nat
  lt : ∀ t ∈ ts, t < 5
  pa : ∀ {CX C g lv W X}, Fx Γ N CX C g lv top sc W X → PA X cs (fun _ H Q => Q (ts.map fun t => V.ty (kindStr t)) H)
end
theorem as_cons {e : Expr} (h : plainC e = true) (es : List Expr) (env : Env) : assignEach (e :: es) env = (false, assign e env) :: assignEach es env := by
  cases e <;> first | rfl | exact absurd h Bool.false_ne_true
section
variable {Γ : GE} {N : List Str} {top : Bool} {sc : Scope}
/-- an expression whose test is its value's truth -/
def SE.ofV {e : Expr} (ir : E) (pl : plainC e = true) (he : ∀ env whole, isTrue e env whole = (do let v ← whole; standAt e.pos; holding [v] (truthy v))) (ht : ∀ g, evT g none ir = tst (ev g none ir))
    (pe : ∀ {CX C g lv W X}, Fx Γ N CX C g lv top sc W X → PEv X C W e (ev g none ir)) : SE Γ N top sc e :=
  ⟨ir, pl, pe, fun {CX C g lv W X} F => by rw [ht]; exact et_val (pe F) (he _)⟩
def cTgName (top : Bool) (sc : Scope) (x : Str) (pos : Pos) : Option (SG Γ N top sc (.Name x pos)) :=
  if h : sc.names.lookup x = some .local ∨ (top = true ∧ sc.names.lookup x = some .cell) then
    match hi : slotOf N x with
    | some i => some ⟨.nm i, fun {CX C g lv W X} F => by
        have nd : X.N.Nodup := by rw [F.nm]; exact F.nd
        refine eg_name nd (by rw [F.nm]; exact slot_of hi) ?_ ?_
        · rw [F.scope]; exact h.elim .inl fun q => .inr q.2
        · rw [F.scope]; exact h.elim .inr fun q => .inl (F.fnc q.1 x)⟩
    | none => none
  else none
mutual
def cT (top : Bool) (sc : Scope) : Nat → (t : Expr) → Option (SG Γ N top sc t)
  | 0, _ => none
  | k + 1, t => match t with
    | .Name x pos => cTgName top sc x pos
    | .Tuple es n pos => match cTs top sc k es with
      | some s => some ⟨.tup s.tgs, fun {CX C g lv W X} F => eg_tup F.calm (s.pg F) (s.len _) (s.nst _)⟩
      | none => none
    | _ => none
def cTs (top : Bool) (sc : Scope) : Nat → (ts : List Expr) → Option (SGs Γ N top sc ts)
  | 0, _ => none
  | k + 1, ts => match ts with
    | [] => some ⟨[], fun _ => rfl, fun _ => rfl, fun _ => egs_nil⟩
    | e :: es => if hp : plainC e = true then (match cT top sc k e, cTs top sc k es with
      | some s, some r => some ⟨s.tg :: r.tgs, fun env => by rw [as_cons hp es env, List.length_cons, r.len env]; rfl, fun env => by rw [as_cons hp es env, List.findIdx?_cons, r.nst env]; rfl,
          fun {CX C g lv W X} F => egs_cons (s.pg F) (r.pg F) (by rw [as_cons hp es X.env]; rfl)⟩
      | _, _ => none) else none
end
end
end Ev

set_option Elab.async false
set_option linter.all false
set_option maxRecDepth 100000
set_option maxHeartbeats 8000000
namespace Ev
open PySem PySem.Spec L2
section
variable {Γ : GE} {N : List Str}
def cKs (top : Bool) (sc : Scope) : (cs : List Expr) → Option (SK Γ N top sc cs)
  | [] => some ⟨[], fun t h => absurd h (by simp), fun _ => PA.weak pa_nil fun σ H Q q => q⟩
  | .Name x p :: cs => if h : glbB sc x = true then (match hk : kindName x, cKs top sc cs with
      | some t, some r => some ⟨t :: r.ts, fun t' m => by
          rcases List.mem_cons.mp m with rfl | m
          · unfold kindName at hk; (repeat' split at hk) <;> cases hk <;> decide
          · exact r.lt t' m, fun F => PA.weak (pa_cons (kind_ok F hk h).2 (r.pa F) rfl) fun σ H Q q => q⟩
      | _, _ => none) else none
  | _ :: _ => none
theorem form_eval {o e : Expr} {es : List Expr} {m : Str} {apos pos : Pos} {env : Env} (hb : baseC o = true) (h : (e :: es).all plainC = true) (hl : (apos.endLine == pos.line) = true) (hn : (e :: es).length < 30) :
    eval (.Call (.Attribute o m apos) (e :: es) [] pos) env = (do
      let ov ← eval o env
      standAt apos.atName
      let (f, first) ← holding [ov] (getMethod ov m (plainOf o env))
      callWith pos f first (backTo pos (starEach (e :: es) env)) (backToKw pos (keywordEach [] env))) := by
  show (attributeBase o m env (eval o env) >>= fun ov => standAt apos.atName >>= fun _ => methodCall o m apos pos env ov ((e :: es).length + ([] : List Keyword).length) (backTo pos (starEach (e :: es) env)) (backToKw pos (keywordEach [] env))) = _
  rw [base_of hb]
  have few : methodCallForm ((e :: es).length + ([] : List Keyword).length) (backTo pos (starEach (e :: es) env)) (backToKw pos (keywordEach [] env)) = true := by
    unfold methodCallForm
    have e1 : (backTo pos (starEach (e :: es) env)).all (fun x => !x.1) = true := by
      rw [star_all h]
      unfold backTo
      simp
    rw [e1]
    have e2 : (backToKw pos (keywordEach [] env)).all (fun x => x.1.isSome) = true := rfl
    rw [e2]
    simp only [Bool.true_and, decide_eq_true_eq, List.length_nil, Nat.add_zero]
    exact hn
  have e3 : ∀ ov, methodCall o m apos pos env ov ((e :: es).length + ([] : List Keyword).length) (backTo pos (starEach (e :: es) env)) (backToKw pos (keywordEach [] env)) = (do
      let (f, first) ← holding [ov] (getMethod ov m (plainOf o env))
      callWith pos f first (backTo pos (starEach (e :: es) env)) (backToKw pos (keywordEach [] env))) := fun ov => mcall_line few hl
  simp only [e3]
def okName (x : Str) : Bool := !(x == ("__debug__" : Str)) && !(x == ("__classdict__" : Str)) && decide (x ≠ "__name__")
theorem okName_1 {x : Str} (h : okName x = true) : (x == ("__debug__" : Str)) = false := by unfold okName at h; simp only [Bool.and_eq_true] at h; simpa using h.1.1
theorem okName_2 {x : Str} (h : okName x = true) : (x == ("__classdict__" : Str)) = false := by unfold okName at h; simp only [Bool.and_eq_true] at h; simpa using h.1.2
def isRng : Expr → Bool
  | .Call (.Name x _) _ _ _ => decide (x = "range")
  | _ => false
/-- a name -/
def cName (top : Bool) (sc : Scope) (x : Str) (pos : Pos) : Option (SE Γ N top sc (.Name x pos)) :=
  if ho : okName x = true then
    if hv : visB sc x = true then (match hi : slotOf N x with
      | some i => some (.ofV (.var i) rfl (fun _ _ => rfl) (fun _ => rfl) fun F => ev_var (by rw [F.nm]; exact slot_of hi) (vis_of F hv) (okName_1 ho) (okName_2 ho))
      | none => none)
    else if hg : glbB sc x = true then (match hc : Γ.cst.lookup x with
      | some v => some (.ofV (.cst v) rfl (fun _ _ => rfl) (fun _ => rfl) fun {CX C g lv W X} F => by
          obtain ⟨y, u, h1, h2, h3⟩ := F.gx.cst x v hc
          exact PE.weak (pe_glob (gl_of F hg) h1 h2 (okName_1 ho)) fun σ H Q a => a.val (fun _ _ => rfl) fun ρ => h3 ρ H)
      | none => none)
    else none
  else none
/-- a method of a list or dict, with arguments -/
def cMeth {top : Bool} {sc : Scope} (o : Expr) (m : Str) (apos : Pos) (e : Expr) (es : List Expr) (pos : Pos) (u : SE Γ N top sc o) (v : SE Γ N top sc e) (r : SA Γ N top sc es) (hb : baseC o = true) (hl : (apos.endLine == pos.line) = true) (hn : (e :: es).length < 30) : Option (SE Γ N top sc (.Call (.Attribute o m apos) (e :: es) [] pos)) :=
  have pl : (e :: es).all plainC = true := by simp [v.pl, r.pl]
  if h : m = "append" then some (.ofV (.mt .append u.ir (v.ir :: r.irs)) rfl (fun _ _ => rfl) (fun _ => rfl) fun F => by subst h; exact ev_append (form_of hb pl hl hn) (u.pe F) (ea_cons (v.pe F) (r.pa F) (pl_star v.pl _ _)) cons_ne)
  else if h : m = "extend" then some (.ofV (.mt .extend u.ir (v.ir :: r.irs)) rfl (fun _ _ => rfl) (fun _ => rfl) fun F => by subst h; exact ev_extend (form_of hb pl hl hn) (u.pe F) (ea_cons (v.pe F) (r.pa F) (pl_star v.pl _ _)) cons_ne)
  else if h : m = "insert" then some (.ofV (.mt .insert u.ir (v.ir :: r.irs)) rfl (fun _ _ => rfl) (fun _ => rfl) fun F => by subst h; exact ev_insert (form_of hb pl hl hn) (u.pe F) (ea_cons (v.pe F) (r.pa F) (pl_star v.pl _ _)) cons_ne)
  else if h : m = "index" then some (.ofV (.mt .index u.ir (v.ir :: r.irs)) rfl (fun _ _ => rfl) (fun _ => rfl) fun F => by subst h; exact ev_index F.u65 (form_of hb pl hl hn) (u.pe F) (ea_cons (v.pe F) (r.pa F) (pl_star v.pl _ _)) cons_ne)
  else if h : m = "remove" then some (.ofV (.mt .remove u.ir (v.ir :: r.irs)) rfl (fun _ _ => rfl) (fun _ => rfl) fun F => by subst h; exact ev_remove F.u65 (form_of hb pl hl hn) (u.pe F) (ea_cons (v.pe F) (r.pa F) (pl_star v.pl _ _)) cons_ne)
  else if h : m = "pop" then some (.ofV (.mt .pop u.ir (v.ir :: r.irs)) rfl (fun _ _ => rfl) (fun _ => rfl) fun F => by subst h; exact ev_pop1 (form_of hb pl hl hn) (u.pe F) (ea_cons (v.pe F) (r.pa F) (pl_star v.pl _ _)) cons_ne)
  else if h : m = "get" then some (.ofV (.mt .get u.ir (v.ir :: r.irs)) rfl (fun _ _ => rfl) (fun _ => rfl) fun F => by subst h; exact ev_get F.u1 (form_of hb pl hl hn) (u.pe F) (ea_cons (v.pe F) (r.pa F) (pl_star v.pl _ _)) cons_ne)
  else none
mutual
def cE' (top : Bool) (sc : Scope) : Nat → (e : Expr) → Option (SE Γ N top sc e)
  | 0, _ => none
  | k + 1, e => match e with
    | .Name x pos => cName top sc x pos
    | .Constant (.int i) _ _ => some (.ofV (.cst (.int i)) rfl (fun _ _ => rfl) (fun _ => rfl) fun _ => ev_int)
    | .Constant (.bool b) _ _ => some (.ofV (.cst (.bl b)) rfl (fun _ _ => rfl) (fun _ => rfl) fun _ => ev_bl)
    | .Constant .none _ _ => some (.ofV (.cst .non) rfl (fun _ _ => rfl) (fun _ => rfl) fun _ => ev_non)
    | .Constant (.str x) _ _ => some (.ofV (.cst (.str x)) rfl (fun _ _ => rfl) (fun _ => rfl) fun _ => ev_str)
    | .BinOp a op b _ => match cE' top sc k a, cE' top sc k b with
      | some x, some y => some (.ofV (.bin op x.ir y.ir) rfl (fun _ _ => rfl) (fun _ => rfl) fun F => ev_bin (bin_ok op) (x.pe F) (y.pe F))
      | _, _ => none
    | .UnaryOp .USub a _ => match cE' top sc k a with
      | some x => some (.ofV (.neg x.ir) rfl (fun _ _ => rfl) (fun _ => rfl) fun F => ev_neg (x.pe F))
      | none => none
    | .UnaryOp .Not a _ => match cE' top sc k a with
      | some x => some ⟨.not x.ir, rfl, fun F => ev_not (x.pe F), fun F => et_not (x.pt F)⟩
      | none => none
    | .BoolOp op es pos => match cB' top sc k op es with
      | some x => some ⟨x.ir, rfl, fun F => x.pe pos F, fun F => (x.pw pos F).pt⟩
      | none => none
    | .Compare a [op] [b] _ => if h1 : op = .Is then (match b with
        | .Constant .none _ _ => match cE' top sc k a with
          | some x => some ⟨.isN true x.ir, rfl, fun F => by subst h1; exact ev_isN (x.pe F), fun F => by subst h1; exact et_isN (x.pe F)⟩
          | none => none
        | _ => none)
      else if h2 : op = .IsNot then (match b with
        | .Constant .none _ _ => match cE' top sc k a with
          | some x => some ⟨.isN false x.ir, rfl, fun F => by subst h2; exact ev_notN (x.pe F), fun F => by subst h2; exact et_notN (x.pe F)⟩
          | none => none
        | _ => none)
      else if h3 : op = .In ∧ isRng b = true then (match b with
        | .Call (.Name "range" p1) [b'] [] p2 => if hg : glbB sc "range" = true then (match cE' top sc k a, cE' top sc k b' with
          | some x, some y => some ⟨.inr x.ir [y.ir], rfl, fun {CX C g lv W X} F => by
              obtain ⟨h3, _⟩ := h3
              subst h3
              exact ev_inr (gl_of F hg) (F.gx.blt "range" (by simp)) (x.pe F) (y.pe F) (pl_star y.pl _ _) rfl rfl, fun {CX C g lv W X} F => by
              obtain ⟨h3, _⟩ := h3
              subst h3
              exact et_inr (gl_of F hg) (F.gx.blt "range" (by simp)) (x.pe F) (y.pe F) (pl_star y.pl _ _) rfl rfl⟩
          | _, _ => none) else none
        | _ => none)
      else (match cE' top sc k a, cE' top sc k b with
        | some x, some y => some ⟨.cmp op x.ir y.ir, rfl, fun F => ev_cmp F.u64 (x.pe F) (y.pe F) (pl_mark y.pl op), fun F => et_cmp F.u64 (x.pe F) (y.pe F) (pl_mark y.pl op)⟩
        | _, _ => none)
    | .Compare a [op, op'] [b, c] _ => match cE' top sc k a, cE' top sc k b, cE' top sc k c with
      | some x, some y, some z => some ⟨.chain op op' x.ir y.ir z.ir, rfl, fun F => ev_chain F.u64 (x.pe F) (y.pe F) (z.pe F) (pl_mark z.pl op'), fun F => et_chain F.u64 (x.pe F) (y.pe F) (z.pe F) (pl_mark z.pl op')⟩
      | _, _, _ => none
    | .IfExp t a b _ => match cE' top sc k t, cE' top sc k a, cE' top sc k b with
      | some x, some y, some z => some ⟨.ite x.ir y.ir z.ir, rfl, fun F => ev_ite (x.pt F) (y.pe F) (z.pe F), fun _ => ⟨fun _ _ _ _ _ _ q => by obtain ⟨_, _, _, _, _, p⟩ := q; exact p.elim⟩⟩
      | _, _, _ => none
    | .Dict [] [] _ => some (.ofV (.dct [] []) rfl (fun _ _ => rfl) (fun _ => rfl) fun _ => ev_dct0)
    | .Dict [some a] [b] _ => match cE' top sc k a, cE' top sc k b with
      | some x, some y => some (.ofV (.dct [x.ir] [y.ir]) rfl (fun _ _ => rfl) (fun _ => rfl) fun F => dct1_eq ▸ ev_dct1 (x.pe F) (y.pe F))
      | _, _ => none
    | .Subscript a (.Slice lo hi none _) _ => match cE' top sc k a, cO' top sc k lo, cO' top sc k hi with
      | some x, some l, some u => some (.ofV (.slc x.ir l.ir u.ir) rfl (fun _ _ => rfl) (fun _ => rfl) fun F => ev_slc (x.pe F) (l.po F) (u.po F))
      | _, _, _ => none
    | .Subscript a i _ => match cE' top sc k a, cE' top sc k i with
      | some x, some y => some (.ofV (.idx x.ir y.ir) rfl (fun _ _ => rfl) (fun _ => rfl) fun F => ev_idx F.u1 (x.pe F) (y.pe F) (pl_ix y.pl))
      | _, _ => none
    | .Attribute (.Call (.Name x p) [] [⟨some F', e, kp⟩] cpos) F pos => if hF : F' = F then (match cE' top sc k e, hx : Γ.exs.lookup x with
      | some u, some c => if h : glbB sc x = true ∧ okName x = true ∧ Γ.exf[c]? = some F then some (.ofV (.xmk c F u.ir) rfl (fun _ _ => rfl) (fun _ => rfl) fun {CX C g lv W X} Fa => by
          subst hF
          obtain ⟨hm, hc⟩ := Fa.gx.exs x c hx
          obtain ⟨fI, fd, s0, p0, h1, h2, h3, h4, h5⟩ := Fa.gx.xik c F' hc h.2.2
          refine PE.weak (ev_xmk (Fa.gx.xcl c hc) h1 h2 h3 h5 Fa.room Fa.grd h4 Fa.gx.never (gl_of Fa h.1) hm (u.pe Fa) (okName_1 h.2.1) rfl) fun σ H Q ⟨ρ, as, h, rs, sr, p⟩ => ⟨ρ, as, h, rs, sr, ?_⟩
          have p : Po X.K C (RV X.K) (fun c d H' => W c d σ H') ρ H ((ev g none u.ir as h).bind fun v h1 => if (g.sub c c && g.xat c F') = true then Res.ok v h1 else Res.no) Q := p
          cases eu : ev g none u.ir as h with
          | ok v h1 =>
            rw [eu] at p
            simp only [Res.bind] at p
            split at p
            · exact p
            · exact p.elim
          | ex c fs h1 => rw [eu] at p; exact p
          | no => rw [eu] at p; exact p.elim) else none
      | _, _ => none) else none
    | .Attribute a f _ => if hb : baseC a = true then (match cE' top sc k a with
      | some x => some (.ofV (.fld x.ir f) rfl (fun _ _ => rfl) (fun _ => rfl) fun {CX C g lv W X} F => ev_fld g.atr (fun c h => F.gx.atr c f h) (x.pe F) (base_of hb f X.env _))
      | none => none) else none
    | .Tuple es _ _ => match cEs' top sc k es with
      | some s => some (.ofV (.tup s.irs) rfl (fun _ _ => rfl) (fun _ => rfl) fun F => ev_tup (s.pa F))
      | none => none
    | .List es _ => match cEs' top sc k es with
      | some s => some (.ofV (.lst s.irs) rfl (fun _ _ => rfl) (fun _ => rfl) fun F => ev_lst (s.pa F))
      | none => none
    | .ListComp elt [⟨t, it, ifs, 0⟩] scope _ => match cLc' top sc k elt t it ifs scope with
      | some s => some (.ofV (.comp none ((ownOf N scope).map (·.2)) s.t s.it s.cs s.el) rfl (fun _ _ => rfl) (fun _ => rfl) fun F => ev_lc (s.ok F))
      | none => none
    | .DictComp a elt [⟨t, it, ifs, 0⟩] scope _ => match cLc' top sc k elt t it ifs scope, cE' false (relS scope sc) k a with
      | some s, some y => some (.ofV (.dcmp ((ownOf N scope).map (·.2)) s.t s.it s.cs y.ir s.el) rfl (fun _ _ => rfl) (fun _ => rfl) fun F => ev_dc F.u1 (s.ok F) fun s H D cl fp => y.pe (F.blk s H D cl fp))
      | _, _ => none
    | .Call (.Name x p) es [] pos => if ho : glbB sc x = true ∧ okName x = true then
        (match hf : Γ.fns.lookup x, es with
        | some f, [] => some (.ofV (.call f []) rfl (fun _ _ => rfl) (fun _ => rfl) fun {CX C g lv W X} F => by
            obtain ⟨fa, fd, ps, h1, h2, h3, h4⟩ := F.gx.fns x f hf
            exact ev_call0 h4 (F.room.mono (Nat.le_succ _)) F.grd (gl_of F ho.1) h1 h2 h3 F.pas (okName_1 ho.2))
        | some f, e :: es => (match cEs' top sc k (e :: es) with
          | some s => some (.ofV (.call f s.irs) rfl (fun _ _ => rfl) (fun _ => rfl) fun {CX C g lv W X} F => by
              obtain ⟨fa, fd, ps, h1, h2, h3, h4⟩ := F.gx.fns x f hf
              have pl := s.pl
              simp only [List.all_cons, Bool.and_eq_true] at pl
              exact ev_call h4 (F.room.mono (Nat.le_succ _)) F.grd (gl_of F ho.1) h1 h2 h3 F.pas (s.pa F) (okName_1 ho.2) (pl_star pl.1 _ _) (back_all pl.2 _ _))
          | none => none)
        | none, es => (match hi : Γ.ins.lookup x, es with
          | some (c, f), e :: es => (match cEs' top sc k (e :: es) with
            | some s => some (.ofV (.mk c f s.irs) rfl (fun _ _ => rfl) (fun _ => rfl) fun {CX C g lv W X} F => by
                obtain ⟨fa, fd, ps, h1, h2, h3, h4⟩ := F.gx.ins x c f hi
                have pl := s.pl
                simp only [List.all_cons, Bool.and_eq_true] at pl
                exact ev_mk h2 h4 F.room F.grd (gl_of F ho.1) h1 h3 F.pas (s.pa F) (okName_1 ho.2) (pl_star pl.1 _ _) (back_all pl.2 _ _))
            | none => none)
          | some _, [] => none
          | none, es => if hx : x = "isinstance" then (match es with
            | [a, .Name y p2] => if hg : glbB sc y = true then (match cE' top sc k a, hk : kindName y with
              | some u, some t => some (.ofV (.isi u.ir [t]) rfl (fun _ _ => rfl) (fun _ => rfl) fun {CX C g lv W X} F => by
                  subst hx
                  have hm := F.gx.blt "isinstance" (by simp)
                  exact ev_isi1 (kind_ok (pp := p2) F hk hg).1 (u.pe F) (kind_ok F hk hg).2 (gl_of F ho.1) hm (pl_star u.pl _ _) rfl)
              | _, _ => none) else none
            | [a, .Tuple cs n p2] => (match cE' top sc k a, cKs (Γ := Γ) (N := N) top sc cs with
              | some u, some r => if hz : r.ts ≠ [] ∧ r.ts.length ≤ 100 then some (.ofV (.isi u.ir r.ts) rfl (fun _ _ => rfl) (fun _ => rfl) fun {CX C g lv W X} F => by
                  subst hx
                  have hm := F.gx.blt "isinstance" (by simp)
                  exact ev_isiN r.lt hz.1 hz.2 (u.pe F) (r.pa F) (gl_of F ho.1) hm (pl_star u.pl _ _)) else none
              | _, _ => none)
            | _ => none)
            else (match hp : prName x, es with
              | some q, [.ListComp elt [⟨t, it, ifs, 0⟩] scope p2] => if hq : prComp q = true then (match cLc' top sc k elt t it ifs scope with
                  | some s => some (.ofV (.comp (some q) ((ownOf N scope).map (·.2)) s.t s.it s.cs s.el) rfl (fun _ _ => rfl) (fun _ => rfl) fun F => prc_ok F hp hq ho.1 (s.ok F))
                  | none => none)
                else (match cEs' top sc k [.ListComp elt [⟨t, it, ifs, 0⟩] scope p2] with
                  | some s => some (.ofV (.pr q s.irs) rfl (fun _ _ => rfl) (fun _ => rfl) fun F => pr_ok F hp ho.1 (s.pa F) s.pl)
                  | none => none)
              | some q, [.Call (.Name "range" p1) [b'] [] p2] => if hg : glbB sc "range" = true ∧ x = "list" then (match cE' top sc k b' with
                  | some y => some (.ofV (.rngv .list y.ir) rfl (fun _ _ => rfl) (fun _ => rfl) fun {CX C g lv W X} F => by
                      obtain ⟨h1, h2⟩ := hg
                      subst h2
                      exact ev_lrng (gl_of F ho.1) (F.gx.blt "list" (by simp)) (gl_of F h1) (F.gx.blt "range" (by simp)) (y.pe F) (pl_star y.pl _ _) F.calm)
                  | none => none)
                else if hg : glbB sc "range" = true ∧ x = "tuple" then (match cE' top sc k b' with
                  | some y => some (.ofV (.rngv .tuple y.ir) rfl (fun _ _ => rfl) (fun _ => rfl) fun {CX C g lv W X} F => by
                      obtain ⟨h1, h2⟩ := hg
                      subst h2
                      exact ev_trng (gl_of F ho.1) (F.gx.blt "tuple" (by simp)) (gl_of F h1) (F.gx.blt "range" (by simp)) (y.pe F) (pl_star y.pl _ _) F.calm)
                  | none => none) else none
              | some q, e :: es => (match cEs' top sc k (e :: es) with
                  | some s => some (.ofV (.pr q s.irs) rfl (fun _ _ => rfl) (fun _ => rfl) fun F => pr_ok F hp ho.1 (s.pa F) s.pl)
                  | none => none)
              | _, _ => none)))
      else none
    | .Call (.Attribute o m apos) es [] pos => if hb : baseC o = true then (match cE' top sc k o with
      | some u => (match hf : Γ.mths.lookup m, es with
        | some (c, f), e :: es => if hl : (apos.endLine == pos.line) = true ∧ (e :: es).length < 30 then (match cEs' top sc k (e :: es) with
          | some s => some (.ofV (.meth c m f u.ir s.irs) rfl (fun _ _ => rfl) (fun _ => rfl) fun {CX C g lv W X} F => by
              obtain ⟨fa, fd, ps, h1, h2, h3, h4⟩ := F.gx.mths m c f hf
              have pl := s.pl
              simp only [List.all_cons, Bool.and_eq_true] at pl
              exact ev_meth (u.pe F) h1 h2 h4 (F.room.mono (Nat.le_succ _)) F.grd h3 F.pas (s.pa F) (pl_star pl.1 _ _) (back_all pl.2 _ _) (form_eval hb s.pl hl.1 hl.2))
          | none => none) else none
        | some _, [] => none
        | none, [] => if hm : m = "pop" ∧ (apos.endLine == pos.line) = true then some (.ofV (.mt .pop u.ir []) rfl (fun _ _ => rfl) (fun _ => rfl) fun {CX C g lv W X} F => by
            obtain ⟨hm, hl⟩ := hm
            subst hm
            exact ev_pop0 (u.pe F) (base_of hb _ _ _) hl) else none
        | none, e :: es => if hl : (apos.endLine == pos.line) = true ∧ (e :: es).length < 30 then (match cE' top sc k e, cEs' top sc k es with
          | some v, some r => cMeth o m apos e es pos u v r hb hl.1 hl.2
          | _, _ => none) else none)
      | none => none) else none
    | _ => none
def cB' (top : Bool) (sc : Scope) : Nat → (op : BoolOp) → (es : List Expr) → Option (SB Γ N top sc op es)
  | 0, _, _ => none
  | k + 1, op, es => match op, es with
    | .And, [a] => match cE' top sc k a with
      | some x => some ⟨x.ir, fun _ F => pe_one (x.pe F), fun _ F => pw_and1 (x.pt F)⟩
      | none => none
    | .Or, [a] => match cE' top sc k a with
      | some x => some ⟨x.ir, fun _ F => pe_one (x.pe F), fun _ F => pw_or1 (x.pt F)⟩
      | none => none
    | .And, a :: b :: r => match cE' top sc k a, cB' top sc k .And (b :: r) with
      | some x, some y => some ⟨.and x.ir y.ir, fun pos F => ev_and (x.pe F) (y.pe pos F), fun pos F => ew_and (x.pt F) (y.pw pos F)⟩
      | _, _ => none
    | .Or, a :: b :: r => match cE' top sc k a, cB' top sc k .Or (b :: r) with
      | some x, some y => some ⟨.or x.ir y.ir, fun pos F => ev_or (x.pe F) (y.pe pos F), fun pos F => ew_or (x.pt F) (y.pw pos F)⟩
      | _, _ => none
    | _, _ => none
def cO' (top : Bool) (sc : Scope) : Nat → (e : Option Expr) → Option (SO Γ N top sc e)
  | 0, _ => none
  | k + 1, e => match e with
    | none => some ⟨none, fun _ => eo_none⟩
    | some e => match cE' top sc k e with
      | some x => some ⟨some x.ir, fun F => eo_some (x.pe F)⟩
      | none => none
def cEs' (top : Bool) (sc : Scope) : Nat → (es : List Expr) → Option (SA Γ N top sc es)
  | 0, _ => none
  | k + 1, es => match es with
    | [] => some ⟨[], rfl, fun _ => rfl, fun _ => ea_nil, fun _ _ => es_nil⟩
    | e :: es => match cE' top sc k e, cEs' top sc k es with
      | some x, some r => some ⟨x.ir :: r.irs, by simp [x.pl, r.pl], fun h => absurd h (by simp), fun F => ea_cons (x.pe F) (r.pa F) (pl_star x.pl _ _), fun {CX C g lv W X} F hl => by
          have e0 : es = [] := by simpa using hl
          have e1 := r.nil e0
          subst e0
          rw [e1]
          exact es_one (x.pt F)⟩
      | _, _ => none
def cI' (top : Bool) (sc : Scope) : Nat → (tg e : Expr) → Option (SI Γ N top sc tg e)
  | 0, _, _ => none
  | k + 1, tg, e => match e with
    | .Call (.Name x p) es [] pos => if hx : glbB sc x = true ∧ x = "range" then (match es with
        | [a] => (match cE' top sc k a with
          | some u => some ⟨.rng u.ir, fun _ _ => rfl, fun {CX C g lv W X} F => by
              obtain ⟨h1, h2⟩ := hx
              subst h2
              have hm := F.gx.blt "range" (by simp)
              exact ei_rng (gl_of F h1) hm (u.pe F) (by rw [pl_star u.pl]; rfl)⟩
          | none => none)
        | [a, b] => (match cE' top sc k a, cE' top sc k b with
          | some u, some v => some ⟨.rng2 u.ir v.ir, fun _ _ => rfl, fun {CX C g lv W X} F => by
              obtain ⟨h1, h2⟩ := hx
              subst h2
              have hm := F.gx.blt "range" (by simp)
              exact ei_rng2 (gl_of F h1) hm (u.pe F) (v.pe F) (by rw [pl_star u.pl, pl_star v.pl]; rfl) (by rw [pl_star v.pl]; rfl)⟩
          | _, _ => none)
        | _ => none)
      else if hx : glbB sc x = true ∧ x = "enumerate" then (match tg, es with
        | .Tuple _ _ _, [.Call (.Name z p2) [a, b] [] pos2] => if hz : glbB sc z = true ∧ z = "zip" then (match cE' top sc k a, cE' top sc k b with
          | some u, some v => some ⟨.enz u.ir v.ir, fun _ _ => rfl, fun {CX C g lv W X} F => by
              obtain ⟨h1, h2⟩ := hx
              subst h2
              obtain ⟨z1, z2⟩ := hz
              subst z2
              exact ei_enz (gl_of F h1) (F.gx.blt "enumerate" (by simp)) (gl_of F z1) (F.gx.blt "zip" (by simp)) (u.pe F) (v.pe F) (pl_star u.pl _ _) (pl_star v.pl _ _)⟩
          | _, _ => none) else none
        | .Tuple _ _ _, [a] => (match cE' top sc k a with
          | some u => some ⟨.enum u.ir, fun _ _ => rfl, fun {CX C g lv W X} F => by
              obtain ⟨h1, h2⟩ := hx
              subst h2
              have hm := F.gx.blt "enumerate" (by simp)
              exact ei_enum (gl_of F h1) hm (u.pe F) (pl_star u.pl _ _)⟩
          | none => none)
        | _, _ => none)
      else if hx : glbB sc x = true ∧ x = "zip" then (match tg, es with
        | .Tuple _ _ _, [a, b] => (match cE' top sc k a, cE' top sc k b with
          | some u, some v => some ⟨.zip u.ir v.ir, fun _ _ => rfl, fun {CX C g lv W X} F => by
              obtain ⟨h1, h2⟩ := hx
              subst h2
              have hm := F.gx.blt "zip" (by simp)
              exact ei_zip (gl_of F h1) hm (u.pe F) (v.pe F) (pl_star u.pl _ _) (pl_star v.pl _ _)⟩
          | _, _ => none)
        | _, _ => none)
      else (match cE' top sc k (.Call (.Name x p) es [] pos) with
        | some x => some ⟨.seq x.ir, fun env y => pl_fold x.pl env y, fun F => ei_seq (x.pe F)⟩
        | none => none)
    | e => match cE' top sc k e with
      | some x => some ⟨.seq x.ir, fun env y => pl_fold x.pl env y, fun F => ei_seq (x.pe F)⟩
      | none => none
def cLc' (top : Bool) (sc : Scope) : Nat → (elt tg iter : Expr) → (ifs : List Expr) → (scope : Scope) → Option (SL Γ N top sc elt tg iter ifs scope)
  | 0, _, _, _, _, _ => none
  | k + 1, elt, tg, iter, ifs, scope => match cI' top sc k tg iter, cT (Γ := Γ) (N := N) false (relS scope sc) k tg, cEs' false (relS scope sc) k ifs, cE' false (relS scope sc) k elt with
      | some i, some t, some c, some e => if h : blkC N sc scope (ownOf N scope) = true ∧ ifs.length ≤ 1 ∧ (t.tg.slots.all fun j => ((ownOf N scope).map (·.2)).contains j) = true then
          some ⟨i.it, t.tg, c.irs, e.ir, fun {CX C g lv W X} F => ⟨F.calm, by rw [F.nm]; exact F.nd, i.pi F, by rw [F.nm, F.scope]; exact blkOk_by h.1, fun j hj => by
              have := List.all_eq_true.mp h.2.2 j hj
              simpa using this,
            fun s H D cl fp => t.pg (F.blk s H D cl fp), fun s H D cl fp => c.ts (F.blk s H D cl fp) h.2.1, fun s H D cl fp => e.pe (F.blk s H D cl fp), i.fold _⟩⟩ else none
      | _, _, _, _ => none
end
end
end Ev

set_option Elab.async false
set_option linter.all false
set_option maxRecDepth 100000
set_option maxHeartbeats 8000000
/-! Statements, each with its proof. -/
namespace Ev
open PySem PySem.Spec L2
section
variable (Γ : GE) (N : List Str) (sc : Scope)
structure SS (st : Stmt) where
  ir : S
  ps : ∀ {CX C g lv W X}, Fx Γ N CX C g lv true sc W X → PSv X C W st (exS g none ir)
structure SSs (sts : List Stmt) where
  irs : List S
  pss : ∀ {CX C g lv W X}, Fx Γ N CX C g lv true sc W X → PSsv X C W sts (exB g none irs)
end
section
variable {Γ : GE} {N : List Str} {sc : Scope}
def blkK (sc : Scope) : ScopeKind := if sc.kind.isAnnotationScope then .function else sc.kind
/-- does the store of a comprehension's list come within it -/
def swB (sc : Scope) (scope : Scope) (x : Str) (l1 l2 : Nat) : Bool :=
  blkK sc == .function && sc.names.lookup x == some .local && l1 == l2 && !(scope.names.any fun (n, k) => n == x && (k == .local || k == .cell))
theorem swB_lc {env : Env} (h : env.scope = sc) {elt : Expr} {gs : List Comprehension} {scope : Scope} {p2 px : Pos} {x : Str} {l : Nat} : swapsWith (.ListComp elt gs scope p2) (some (.Name x px)) l env = pure (swB sc scope x px.line p2.line) := by
  subst h; rfl
theorem swB_dc {env : Env} (h : env.scope = sc) {a elt : Expr} {gs : List Comprehension} {scope : Scope} {p2 px : Pos} {x : Str} {l : Nat} : swapsWith (.DictComp a elt gs scope p2) (some (.Name x px)) l env = pure (swB sc scope x px.line p2.line) := by
  subst h; rfl
/-- name = [..] on one line -/
theorem xs_setLc {X : Cx} {C : Nat → Addr} {W : WX} {elt tg iter : Expr} {ifs : List Expr} {scope : Scope} {own : List (Str × Nat)} {t : Tg} {fi : Sl → AH → Res Src} {fc : Sl → AH → Res Bool} {fe : Sl → AH → Res AV} {p2 spos py : Pos} {i : Nat} {y : Str} (k : LcOk X C W elt tg iter ifs scope own t fi fc fe)
    (hy : X.N[i]? = some y) (hyl : X.env.scope.names.lookup y = some .local) (hsw : swapsWith (.ListComp elt [⟨tg, iter, ifs, 0⟩] scope p2) (some (.Name y py)) spos.line X.env = pure true) :
    PSv X C W (.Assign [.Name y py] (.ListComp elt [⟨tg, iter, ifs, 0⟩] scope p2) spos) (fun σ h => ((fi σ h).bind fun src h1 => (loopC src.watch (compBody t (own.map (·.2)) σ fc fe) src.items [] h1).bind fun vs h5 => lay (.lst vs) h5).out σ fun v h1 => match putT (.nm i) v σ with
    | some σ' => .nx σ' h1
    | none => .no) := PS.weak (ps_setLc k.calm k.nd hy hyl hsw k.it k.blk k.tg k.ts k.el k.set) fun D σ H ⟨ρ, as, h, rs, sr, p⟩ => by
  show tLc _ _ _ _ _ σ H fun x H1 => gName i x σ H1 D.nx
  refine tLc_of k.sub (raw_lay (W := W) ?_)
  refine ⟨ρ, as, h, rs, sr, ?_⟩
  have q := PoS.val rs p
  simp only [rawF, Res.assoc]
  refine q.imp fun x H1 ⟨ρ1, h1, v, e1, rs1, s1, rv, p1⟩ => ?_
  simp only [putT] at p1
  split at p1
  · next as' ep =>
    split at ep
    · cases ep
      exact p1.nx (rs1.set rv) s1
    · cases ep
  · exact p1.elim
/-- which names are stored from the right -/
def swS (sc : Scope) (t e : Expr) : Option (Option (List Str)) :=
  match t, e with
  | .Tuple ts _ _, .Tuple vs _ _ =>
    if !(ts.length == 2 || ts.length == 3) || vs.length != ts.length || blkK sc != .function then some none
    else if vs.any (fun | .Starred .. => true | _ => false) then some none
    else
      let line := (ts.head?.map (·.pos.line)).getD 0
      let names := ts.filterMap fun
        | .Name id pos => if sc.names.lookup id == some .local && pos.line == line then some id else none
        | _ => none
      if names.length != ts.length || names.eraseDups.length != names.length then some none
      else if vs.all (foldedForSure 8) then some none
      else if vs.all (constantsAlone 8) then none
      else some (some names)
  | .List _ _, .Tuple _ _ _ => none
  | _, _ => some none
theorem swS_ok {env : Env} (h : env.scope = sc) {t e : Expr} {r : Option (List Str)} (e1 : swS sc t e = some r) : swappedStores [t] e env = pure r := by
  subst h
  unfold swS at e1
  split at e1
  · unfold swappedStores
    simp only at e1 ⊢
    have kd : ∀ id, env.kindOf id = env.scope.names.lookup id := fun _ => rfl
    have bk : env.blockKind = blkK env.scope := rfl
    simp only [kd, bk, pure_bind]
    split at e1
    · next q => cases e1; exact if_pos q
    · next q =>
      refine (if_neg q).trans ?_
      split at e1
      · next q => cases e1; exact if_pos q
      · next q =>
        refine (if_neg q).trans ?_
        split at e1
        · next q => cases e1; exact if_pos q
        · next q =>
          refine (if_neg q).trans ?_
          split at e1
          · next q => cases e1; exact if_pos q
          · next q =>
            refine (if_neg q).trans ?_
            split at e1
            · cases e1
            · next q => cases e1; exact if_neg q
  · cases e1
  · next n1 n2 =>
    cases e1
    cases t <;> first
      | rfl
      | (cases e <;> first
          | rfl
          | exact absurd rfl (n1 _ _ _ _ _ _ rfl)
          | exact absurd rfl (n2 _ _ _ _ _ rfl)
          | exact (n1 _ _ _ _ _ _ rfl rfl).elim
          | exact (n2 _ _ _ _ _ rfl rfl).elim)
end
end Ev

set_option Elab.async false
set_option linter.all false
set_option maxRecDepth 100000
set_option maxHeartbeats 8000000
/-! Except clauses, each with its proof. -/
namespace Ev
open PySem PySem.Spec PyProof.Rows L2
/-- the facts within an except clause -/
structure FxS (Γ : GE) (N : List Str) (CX : CXT) (C : Nat → Addr) (g : G) (lv : Nat) (sc : Scope) (W : WX) (X : Cx) (n : Option Str) (oe : Obj) (c : Nat) (xi : XI) : Prop where
  F : Fx Γ N CX C g lv true sc W X
  hc : g.sub c c = true
  hz : Zc (.ref (C c)) xi.d oe
  hf : ∃ vs, oe.data = .fields vs
  hn : xi.nm = n.bind (slotOf N)
section
variable (Γ : GE) (N : List Str) (sc : Scope) (n : Option Str)
/-- a value that stands in a clause -/
structure SXv (e : Expr) where
  ir : E
  pl : plainC e = true
  pe : ∀ {CX C g lv W X oe c xi} (x : Cur) (pn : List (Addr × Obj)), FxS Γ N CX C g lv sc W X n oe c xi → PEv (X.suite xi.a ((xi.a, oe) :: pn)) C NoW e (ev g x ir)
structure SX (e : Expr) where
  ir : E
  pl : plainC e = true
  pe : ∀ {CX C g lv W X oe c xi} (pn : List (Addr × Obj)), FxS Γ N CX C g lv sc W X n oe c xi → PEx (X.suite xi.a ((xi.a, oe) :: pn)) C xi e (ev g (some (c, xi.fs)) ir)
structure SXs (es : List Expr) where
  irs : List E
  pl : es.all plainC = true
  pa : ∀ {CX C g lv W X oe c xi} (pn : List (Addr × Obj)), FxS Γ N CX C g lv sc W X n oe c xi → PAx (X.suite xi.a ((xi.a, oe) :: pn)) C xi es (evs g (some (c, xi.fs)) irs)
structure SXt (e : Expr) where
  ir : E
  pt : ∀ {CX C g lv W X oe c xi} (pn : List (Addr × Obj)), FxS Γ N CX C g lv sc W X n oe c xi → PT (X.suite xi.a ((xi.a, oe) :: pn)) e (AtX X.K C RQ xi (evT g (some (c, xi.fs)) ir))
/-- statements behind the first one: the error is not looked at -/
structure STs (sts : List Stmt) where
  irs : List S
  ps : ∀ {CX C g lv W X oe c xi} (x : Cur) (pn : List (Addr × Obj)), FxS Γ N CX C g lv sc W X n oe c xi → PSsv (X.suite xi.a ((xi.a, oe) :: pn)) C NoW sts (exB g x irs)
structure SXS (st : Stmt) where
  ir : S
  ps : ∀ {CX C g lv W X oe c xi} (pn : List (Addr × Obj)), FxS Γ N CX C g lv sc W X n oe c xi → PSx (X.suite xi.a ((xi.a, oe) :: pn)) C xi st (exS g (some (c, xi.fs)) ir)
structure SXSs (sts : List Stmt) where
  irs : List S
  pss : ∀ {CX C g lv W X oe c xi} (pn : List (Addr × Obj)), FxS Γ N CX C g lv sc W X n oe c xi → PSsx (X.suite xi.a ((xi.a, oe) :: pn)) C xi sts (exB g (some (c, xi.fs)) irs)
end
section
variable {Γ : GE} {N : List Str} {sc : Scope} {n : Option Str}
def cXv : (e : Expr) → Option (SXv Γ N sc n e)
  | .Name x pos => if ho : okName x = true ∧ visB sc x = true then (match hi : slotOf N x with
      | some i => some ⟨.var i, rfl, fun {CX C g lv W X oe c xi} x' pn F => ev_var (X := X.suite xi.a ((xi.a, oe) :: pn)) (by show X.N[i]? = _; rw [F.F.nm]; exact slot_of hi) (vis_of F.F ho.2) (okName_1 ho.1) (okName_2 ho.1)⟩
      | none => none) else none
  | .Constant (.int i) _ _ => some ⟨.cst (.int i), rfl, fun _ _ _ => ev_int⟩
  | .Constant (.bool b) _ _ => some ⟨.cst (.bl b), rfl, fun _ _ _ => ev_bl⟩
  | .Constant .none _ _ => some ⟨.cst .non, rfl, fun _ _ _ => ev_non⟩
  | .Constant (.str x) _ _ => some ⟨.cst (.str x), rfl, fun _ _ _ => ev_str⟩
  | .UnaryOp .USub (.Constant (.int i) _ _) _ => some ⟨.neg (.cst (.int i)), rfl, fun _ _ _ => ev_neg ev_int⟩
  | _ => none
def SXv.x {e : Expr} (s : SXv Γ N sc n e) : SX Γ N sc n e := ⟨s.ir, s.pl, fun pn F => ex_of (s.pe _ pn F)⟩
mutual
def cX : Nat → (e : Expr) → Option (SX Γ N sc n e)
  | 0, _ => none
  | k + 1, e => match e with
    | .Attribute (.Name x p2) F pos => if h : n = some x ∧ okName x = true ∧ visB sc x = true then (match hi : slotOf N x with
      | some i => some ⟨.xfld F, rfl, fun {CX C g lv W X oe c xi} pn S => by
          by_cases hx : g.xat c F = true
          · refine PE.weak (ex_fld (S.F.gx.xcl c S.hc) (S.F.gx.xat c F hx) S.hz S.hf (by rw [S.hn, h.1]; exact hi) (by rw [S.F.nm]; exact slot_of hi) (vis_of S.F h.2.2) (okName_1 h.2.1) (okName_2 h.2.1)) fun σ H Q ⟨ρ, as, h, rs, sr, xd, p⟩ => ⟨ρ, as, h, rs, sr, xd, ?_⟩
            have p : Po X.K C (RV X.K) (fun _ _ _ => False) ρ H (if g.xat c F = true then (match xi.fs.lookup F with | some w => Res.ok w h | none => Res.no) else Res.no) Q := p
            rw [if_pos hx] at p
            exact p
          · exact ⟨fun pins s σ H Q I ⟨ρ, as, h, rs, sr, xd, p⟩ => by
              have p : Po X.K C (RV X.K) (fun _ _ _ => False) ρ H (if g.xat c F = true then (match xi.fs.lookup F with | some w => Res.ok w h | none => Res.no) else Res.no) Q := p
              rw [if_neg hx] at p
              exact p.elim⟩⟩
      | none => none) else none
    | .Call (.Name f p) [.Name x p2, .Name y p3] [] pos => if h : f = "isinstance" ∧ n = some x ∧ okName x = true ∧ visB sc x = true ∧ glbB sc "isinstance" = true ∧ glbB sc y = true ∧ okName y = true then (match hi : slotOf N x, hy : Γ.exs.lookup y with
      | some i, some dd => some ⟨.xis dd, rfl, fun {CX C g lv W X oe c xi} pn S => by
          obtain ⟨hf0, hn0, ho, hv, hg, hgy, hoy⟩ := h
          subst hf0
          by_cases hx : (g.sub c c && g.sub dd dd) = true
          · have hx2 := hx
            rw [Bool.and_eq_true] at hx2
            obtain ⟨hmy, _⟩ := S.F.gx.exs y dd hy
            have hk : PySem.W.kitOne X.K (.ref (C c)) (.ref (C dd)) = some (g.sub c dd) := by
              have hs := S.F.gx.xsb c dd hx2.1 hx2.2
              unfold PySem.W.kitOne
              split
              · next hb =>
                have e : C c = C dd := by simpa using hb
                have hs2 := S.F.gx.xsb c c hx2.1 hx2.1
                rw [← e, hs2, hx2.1] at hs
                exact hs
              · obtain ⟨cd, bm, h1, _⟩ := (S.F.gx.xcl dd hx2.2).cls
                have ht := (S.F.gx.xcl dd hx2.2).tyC
                simp only [PySem.W.kitCls, h1, ht]
                exact hs
            refine PE.weak (ex_isE (S.F.gx.xcl c S.hc) hk S.hz S.hf (by rw [S.hn, hn0]; exact hi) (by rw [S.F.nm]; exact slot_of hi) (vis_of S.F hv) (okName_1 ho) (okName_2 ho) (gl_of S.F hg) (S.F.gx.blt "isinstance" (by simp)) (gl_of S.F hgy) hmy (okName_1 hoy)) fun σ H Q ⟨ρ, as, h, rs, sr, xd, p⟩ => ⟨ρ, as, h, rs, sr, xd, ?_⟩
            have p : Po X.K C (RV X.K) (fun _ _ _ => False) ρ H (if (g.sub c c && g.sub dd dd) = true then Res.ok (.bl (g.sub c dd)) h else Res.no) Q := p
            rw [if_pos hx] at p
            exact p
          · exact ⟨fun pins s σ H Q I ⟨ρ, as, h, rs, sr, xd, p⟩ => by
              have p : Po X.K C (RV X.K) (fun _ _ _ => False) ρ H (if (g.sub c c && g.sub dd dd) = true then Res.ok (.bl (g.sub c dd)) h else Res.no) Q := p
              rw [if_neg hx] at p
              exact p.elim⟩⟩
      | _, _ => none) else none
    | .Tuple es k2 pos => (match cXs k es with
      | some s => some ⟨.tup s.irs, rfl, fun pn F => ex_tup (s.pa pn F)⟩
      | none => none)
    | .List es pos => (match cXs k es with
      | some s => some ⟨.lst s.irs, rfl, fun pn F => ex_lst (s.pa pn F)⟩
      | none => none)
    | .Compare a [op] [b] pos => if hm : behindInMarks op b = false then (match cX k a, cX k b with
      | some x, some y => some ⟨.cmp op x.ir y.ir, rfl, fun {CX C g lv W X oe c xi} pn F => ex_cmp (show X.A.units + 64 < cLine from F.F.u64) (x.pe pn F) (y.pe pn F) hm⟩
      | _, _ => none) else none
    | e => (cXv e).map SXv.x
def cXs : Nat → (es : List Expr) → Option (SXs Γ N sc n es)
  | 0, _ => none
  | k + 1, es => match es with
    | [] => some ⟨[], rfl, fun _ _ => ax_nil⟩
    | e :: es => (match cX k e, cXs k es with
      | some x, some y => some ⟨x.ir :: y.irs, by rw [List.all_cons, x.pl, y.pl]; rfl, fun pn F => ax_cons (x.pe pn F) (y.pa pn F) (pl_star x.pl _ _)⟩
      | _, _ => none)
end
def cXt (k : Nat) : (e : Expr) → Option (SXt Γ N sc n e)
  | .Compare a [op] [b] pos => if hm : behindInMarks op b = false then (match cX k a, cX k b with
      | some x, some y => some ⟨.cmp op x.ir y.ir, fun {CX C g lv W X oe c xi} pn F => tx_cmp (show X.A.units + 64 < cLine from F.F.u64) (x.pe pn F) (y.pe pn F) hm⟩
      | _, _ => none) else none
  | _ => none
def cTail : (sts : List Stmt) → Option (STs Γ N sc n sts)
  | [] => some ⟨[], fun _ _ _ => xs_nil⟩
  | st :: r => match cTail r with
    | some y => (match st with
      | .Continue _ => some ⟨.ctn :: y.irs, fun x pn F => xs_cons xs_ctn (y.ps x pn F)⟩
      | .Break _ => some ⟨.brk :: y.irs, fun x pn F => xs_cons xs_brk (y.ps x pn F)⟩
      | .Pass _ => some ⟨.pass :: y.irs, fun x pn F => xs_cons xs_pass (y.ps x pn F)⟩
      | .Return (some e) _ => (match cXv e with
        | some u => some ⟨.ret u.ir :: y.irs, fun x pn F => xs_cons (xs_ret (u.pe x pn F)) (y.ps x pn F)⟩
        | none => none)
      | _ => none)
    | none => none
mutual
def cXS : Nat → (st : Stmt) → Option (SXS Γ N sc n st)
  | 0, _ => none
  | k + 1, st => match st with
    | .Continue _ => some ⟨.ctn, fun _ _ => sx_of xs_ctn⟩
    | .Break _ => some ⟨.brk, fun _ _ => sx_of xs_brk⟩
    | .Pass _ => some ⟨.pass, fun _ _ => sx_of xs_pass⟩
    | .Return none _ => some ⟨.ret (.cst .non), fun _ _ => sx_of xs_retN⟩
    | .Return (some e) _ => (match cX (Γ := Γ) (N := N) (sc := sc) (n := n) k e with
      | some u => some ⟨.ret u.ir, fun pn F => sx_ret (u.pe pn F)⟩
      | none => none)
    | .If t a b _ => (match cXt (Γ := Γ) (N := N) (sc := sc) (n := n) k t, cXSs k a, cXE k b with
      | some x, some y, some z => some ⟨.ite x.ir y.irs z.irs, fun pn F => sx_if (x.pt pn F) (y.pss pn F) (z.pss pn F)⟩
      | _, _, _ => none)
    | .Assign [.Name y py] e pos => if hc : compC e = false ∧ sc.names.lookup y = some .local then (match cX (Γ := Γ) (N := N) (sc := sc) (n := n) k e, hi : slotOf N y, hs : swS sc (.Name y py) e with
      | some u, some i, some none => some ⟨.set (.nm i) u.ir, fun {CX C g lv W X oe c xi} pn F => by
          have nd : X.N.Nodup := by rw [F.F.nm]; exact F.F.nd
          refine sx_set (X := X.suite xi.a ((xi.a, oe) :: pn)) (u.pe pn F) (eg_name (X := X.suite xi.a ((xi.a, oe) :: pn)) nd (by show X.N[i]? = _; rw [F.F.nm]; exact slot_of hi) ?_ ?_) (nc_sw hc.1 (some (.Name y py)) pos.line X.env) (swS_ok F.F.scope hs) rfl
          · show X.env.scope.names.lookup y = _ ∨ _
            rw [F.F.scope]; exact .inl hc.2
          · right
            show X.env.scope.names.lookup y = _
            rw [F.F.scope]; exact hc.2⟩
      | _, _, _ => none) else none
    | _ => none
def cXSs : Nat → (sts : List Stmt) → Option (SXSs Γ N sc n sts)
  | 0, _ => none
  | k + 1, sts => match sts with
    | st :: r => (match cXS k st, cTail (Γ := Γ) (N := N) (sc := sc) (n := n) r with
      | some x, some y => some ⟨x.ir :: y.irs, fun pn F => sx_cons (x.ps pn F) (y.ps _ pn F)⟩
      | _, _ => none)
    | [] => none
def cXE : Nat → (sts : List Stmt) → Option (SXSs Γ N sc n sts)
  | 0, _ => none
  | k + 1, sts => match sts with
    | [] => some ⟨[], fun _ _ => sx_nil⟩
    | st :: r => cXSs k (st :: r)
end
/-! ### the clauses -/
theorem RS.shadow {K : PySem.W.Frag} {ρ : List Addr} {H : Hp} {as : Sl} {σ : L2.St} (r : RS K ρ H as σ) (i : Nat) (x : Option V) : RS K ρ H (as.set i Option.none) (σ.set i x) := by
  refine ⟨by simp [r.len], fun j w h => ?_⟩
  by_cases hj : j = i
  · subst hj
    have hl : j < as.length := by
      have := (List.getElem?_eq_some_iff.mp h).1
      simpa using this
    rw [List.getElem?_set_self hl] at h
    cases h
  · rw [List.getElem?_set_ne (Ne.symm hj)] at h
    obtain ⟨y, hy, ry⟩ := r.at_ j w h
    exact ⟨y, by rw [List.getElem?_set_ne (Ne.symm hj)]; exact hy, ry⟩
theorem PoS.gone {K : PySem.W.Frag} {C : Nat → Addr} {W : WX} {ρ : List Addr} {H : Hp} {o : Out} {D : Ends} {i : Nat} (p : PoS K C W ρ H (unS (some i) o) D) : PoS K C NoW ρ H o (goneD i D) := by
  cases o with
  | nx as h => exact fun ρ' H' σ' rs s e f => p ρ' H' (σ'.set i none) (rs.none i) s e f
  | bk as h => exact fun ρ' H' σ' rs s e f => p ρ' H' (σ'.set i none) (rs.none i) s e f
  | ct as h => exact fun ρ' H' σ' rs s e f => p ρ' H' (σ'.set i none) (rs.none i) s e f
  | rt v h => exact p
  | ex c fs as h => exact False.elim p
  | no => exact False.elim p
theorem PoS.gone0 {K : PySem.W.Frag} {C : Nat → Addr} {W : WX} {ρ : List Addr} {H : Hp} {o : Out} {D : Ends} (p : PoS K C W ρ H (unS none o) D) : PoS K C NoW ρ H o D := by
  cases o with
  | ex c fs as h => exact p.elim
  | nx as h => exact p
  | bk as h => exact p
  | ct as h => exact p
  | rt v h => exact p
  | no => exact p
/-- what a clause's suite wishes -/
def tSuite (K : PySem.W.Frag) (C : Nat → Addr) (g : G) (i : Option Nat) (irs : List S) : Addr → Value → Option Addr → TS := fun a cls d D σ H => ∃ (c : Nat) (fs : List (Str × AV)), cls = .ref (C c) ∧ g.sub c c = true ∧ AtXS K C ⟨d, fs, i, a⟩ (exB g (some (c, fs)) irs) D σ H
variable (Γ N sc)
structure SHd (hds : List ExceptHandler) where
  irs : List Hd
  ok : ∀ {CX C g lv W X}, Fx Γ N CX C g lv true sc W X → ∃ l : List Clz, HdsA X hds l ∧ ∀ (D : Ends) (ρ : List Addr) (as : Sl) (h : AH) (σ : L2.St) (H : Hp) (c : Nat) (fs : List (Str × AV)) (d : Option Addr),
    RS X.K ρ H as σ → SR X.K C ρ h H → XDt X.K ρ H d fs → PoS X.K C W ρ H (exH g irs c fs as h) D → wAll X.K W D l (.ref (C c)) d σ H
variable {Γ N sc}
theorem exm_of {CX : CXT} {C : Nat → Addr} {g : G} {lv : Nat} {W : WX} {X : Cx} (F : Fx Γ N CX C g lv true sc W X) {c d : Nat} (hc : g.sub c c = true) (hd : g.sub d d = true) : PySem.W.exmOne X.K (.ref (C c)) (.ref (C d)) = some (g.sub c d) :=
  PySem.W.exm_ref (F.gx.xcl d hd).exC (F.gx.xcl d hd).hdC (F.gx.xcl d hd).tyC (F.gx.xsb c d hc hd)
theorem hd_cons {x : Str} {np pos' : Pos} {b₀ : Stmt} {suite : List Stmt} {hds : List ExceptHandler} {cx : Nat} (hg : glbB sc x = true) (ho : okName x = true) (hx : Γ.exs.lookup x = some cx) (s : SXSs Γ N sc none (b₀ :: suite)) (r : SHd Γ N sc hds)
    {CX : CXT} {C : Nat → Addr} {g : G} {lv : Nat} {W : WX} {X : Cx} (F : Fx Γ N CX C g lv true sc W X) :
    ∃ l : List Clz, HdsA X (.ExceptHandler (some (.Name x np)) none (b₀ :: suite) pos' :: hds) l ∧ ∀ (D : Ends) (ρ : List Addr) (as : Sl) (h : AH) (σ : L2.St) (H : Hp) (c : Nat) (fs : List (Str × AV)) (d : Option Addr),
      RS X.K ρ H as σ → SR X.K C ρ h H → XDt X.K ρ H d fs → PoS X.K C W ρ H (exH g (.mk cx none s.irs :: r.irs) c fs as h) D → wAll X.K W D l (.ref (C c)) d σ H := by
  obtain ⟨l, hl, hw⟩ := r.ok F
  obtain ⟨hm, hcx⟩ := F.gx.exs x cx hx
  refine ⟨(.ref (C cx), none, tSuite X.K C g none s.irs) :: l, .cons ⟨gl_of F hg, okName_1 ho, .inl hm⟩ (fun a oe cls d pn hz hf => ?_) hl, fun D ρ as h σ H c fs d rs sr xd p => ?_⟩
  · refine ⟨fun pins st σ H D I ⟨c, fs, ec, hc, q⟩ => ?_⟩
    subst ec
    exact (s.pss (xi := ⟨d, fs, none, a⟩) (oe := oe) pn ⟨F, hc, hz, hf, rfl⟩).run pins st σ H D I q
  · have p : PoS X.K C W ρ H (if g.sub c c && g.sub cx cx && inO none as then (if g.sub c cx then unS none (exB g (some (c, fs)) s.irs (unO none as) h) else exH g r.irs c fs as h) else .no) D := by
      simpa only [exH] using p
    split at p
    · next hv =>
      simp only [Bool.and_eq_true] at hv
      refine ⟨_, exm_of F hv.1.1 hcx, fun hb a na => ?_, fun hb => ?_⟩
      · rw [if_pos hb] at p
        exact ⟨c, fs, rfl, hv.1.1, ρ, as, h, rs, sr, ⟨(fun i hi => nomatch hi), xd⟩, p.gone0⟩
      · rw [if_neg (by rw [hb]; decide)] at p
        exact hw D ρ as h σ H c fs d rs sr xd p
    · exact p.elim
theorem hd_as {x n : Str} {np pos' : Pos} {b₀ : Stmt} {suite : List Stmt} {hds : List ExceptHandler} {cx i : Nat} (hg : glbB sc x = true) (ho : okName x = true) (hx : Γ.exs.lookup x = some cx) (hi : slotOf N n = some i) (hln : sc.names.lookup n = some .local) (s : SXSs Γ N sc (some n) (b₀ :: suite)) (r : SHd Γ N sc hds)
    {CX : CXT} {C : Nat → Addr} {g : G} {lv : Nat} {W : WX} {X : Cx} (F : Fx Γ N CX C g lv true sc W X) :
    ∃ l : List Clz, HdsA X (.ExceptHandler (some (.Name x np)) (some n) (b₀ :: suite) pos' :: hds) l ∧ ∀ (D : Ends) (ρ : List Addr) (as : Sl) (h : AH) (σ : L2.St) (H : Hp) (c : Nat) (fs : List (Str × AV)) (d : Option Addr),
      RS X.K ρ H as σ → SR X.K C ρ h H → XDt X.K ρ H d fs → PoS X.K C W ρ H (exH g (.mk cx (some i) s.irs :: r.irs) c fs as h) D → wAll X.K W D l (.ref (C c)) d σ H := by
  obtain ⟨l, hl, hw⟩ := r.ok F
  obtain ⟨hm, hcx⟩ := F.gx.exs x cx hx
  refine ⟨(.ref (C cx), some i, tSuite X.K C g (some i) s.irs) :: l, .as_ (by rw [F.nm]; exact slot_of hi) (by show X.env.kindOf n = _; have : X.env.kindOf n = sc.names.lookup n := by rw [← F.scope]; rfl
                                                                                                               rw [this]; exact hln) ⟨gl_of F hg, okName_1 ho, .inl hm⟩ (fun a oe cls d pn hz hf => ?_) hl, fun D ρ as h σ H c fs d rs sr xd p => ?_⟩
  · refine ⟨fun pins st σ H D I ⟨c, fs, ec, hc, q⟩ => ?_⟩
    subst ec
    exact (s.pss (xi := ⟨d, fs, some i, a⟩) (oe := oe) pn ⟨F, hc, hz, hf, hi.symm⟩).run pins st σ H D I q
  · have p : PoS X.K C W ρ H (if g.sub c c && g.sub cx cx && inO (some i) as then (if g.sub c cx then unS (some i) (exB g (some (c, fs)) s.irs (unO (some i) as) h) else exH g r.irs c fs as h) else .no) D := by
      simpa only [exH] using p
    split at p
    · next hv =>
      simp only [Bool.and_eq_true] at hv
      refine ⟨_, exm_of F hv.1.1 hcx, fun hb a na => ?_, fun hb => ?_⟩
      · rw [if_pos hb] at p
        have hlt : i < σ.length := by
          have := hv.2
          simp only [inO, decide_eq_true_eq] at this
          rw [← rs.len]; exact this
        exact ⟨c, fs, rfl, hv.1.1, ρ, _, h, rs.shadow i _, sr, ⟨fun j hj => by cases hj; exact List.getElem?_set_self hlt, xd⟩, p.gone⟩
      · rw [if_neg (by rw [hb]; decide)] at p
        exact hw D ρ as h σ H c fs d rs sr xd p
    · exact p.elim
def cHd (k : Nat) : (hds : List ExceptHandler) → Option (SHd Γ N sc hds)
  | [] => some ⟨[], fun {CX C g lv W X} F => ⟨[], .nil, fun D ρ as h σ H c fs d rs sr ⟨ys, hx, rp⟩ p => by
      exact p [] H σ d ys (by rw [List.append_nil]; exact rs) (by rw [List.append_nil]; exact sr) (Ext.refl H) (Fr.refl ρ H) hx (by rw [List.append_nil]; exact rp)⟩⟩
  | .ExceptHandler (some (.Name x np)) none (b₀ :: suite) pos' :: hds => (match cXSs k (b₀ :: suite), cHd k hds, hx : Γ.exs.lookup x with
    | some s, some r, some cx => if h : glbB sc x = true ∧ okName x = true then some ⟨.mk cx none s.irs :: r.irs, fun F => hd_cons h.1 h.2 hx s r F⟩ else none
    | _, _, _ => none)
  | .ExceptHandler (some (.Name x np)) (some nm) (b₀ :: suite) pos' :: hds => (match cXSs (n := some nm) k (b₀ :: suite), cHd k hds, hx : Γ.exs.lookup x, hi : slotOf N nm with
    | some s, some r, some cx, some i => if h : glbB sc x = true ∧ okName x = true ∧ sc.names.lookup nm = some .local then some ⟨.mk cx (some i) s.irs :: r.irs, fun F => hd_as h.1 h.2.1 hx hi h.2.2 s r F⟩ else none
    | _, _, _, _ => none)
  | _ => none
/-- try -/
theorem xs_try {b : List Stmt} {h₀ : ExceptHandler} {hds : List ExceptHandler} {pos : Pos} (y : SSs Γ N sc b) (r : SHd Γ N sc (h₀ :: hds)) {CX : CXT} {C : Nat → Addr} {g : G} {lv : Nat} {W : WX} {X : Cx} (F : Fx Γ N CX C g lv true sc W X) :
    PSv X C W (.Try b (h₀ :: hds) [] [] pos) (exS g none (.try_ y.irs r.irs)) := by
  obtain ⟨l, hl, hw⟩ := r.ok F
  refine PS.weak (ps_try_all (F.stk rfl).1 (F.stk rfl).2 (by rw [F.nm]; exact F.nd) F.tk (tb := fun W' => AtS X.K C W' (exB g none y.irs)) (fun W' pn xe tk pas => y.pss (F.tr tk pas)) hl) fun D σ H ⟨ρ, as, h, rs, sr, p⟩ => ?_
  refine ⟨ρ, as, h, rs, sr, ?_⟩
  cases e : exB g none y.irs as h with
  | ex c fs as1 h1 =>
    simp only [exS, e] at p
    intro ρ' H' σ' d ys rs' s' e' f' hd rp
    exact hw D (ρ ++ ρ') as1 h1 σ' H' c fs d rs' s' ⟨ys, hd, rp⟩ (PoS.mono ρ' e' f' p)
  | nx as1 h1 => simp only [exS, e] at p; exact p
  | rt v h1 => simp only [exS, e] at p; exact p
  | bk as1 h1 => simp only [exS, e] at p; exact p
  | ct as1 h1 => simp only [exS, e] at p; exact p
  | no => simp only [exS, e] at p; exact p
end
end Ev

set_option Elab.async false
set_option linter.all false
set_option maxRecDepth 100000
set_option maxHeartbeats 8000000
namespace Ev
open PySem PySem.Spec L2
section
variable {Γ : GE} {N : List Str} {sc : Scope}
/-- target = value -/
def cSet (k : Nat) (t e : Expr) (pos : Pos) (u : SE Γ N true sc e) : Option (SS Γ N sc (.Assign [t] e pos)) :=
  if ht : plainC t = true then
    (match cT (Γ := Γ) (N := N) true sc k t, hs : swS sc t e with
    | some tg, some none => if hc : compC e = false then
          some ⟨.set tg.tg u.ir, fun {CX C g lv W X} F => xs_set (u.pe F) (tg.pg F) (nc_sw hc (some t) pos.line X.env) (swS_ok F.scope hs) (by rw [as_cons ht]; rfl)⟩
        else none
    | _, _ => none)
  else none
/-- (a, b, ..) = value -/
def cSetU (k : Nat) (es : List Expr) (n : Nat) (tp : Pos) (e : Expr) (pos : Pos) (u : SE Γ N true sc e) : Option (SS Γ N sc (.Assign [.Tuple es n tp] e pos)) :=
  match cTs (Γ := Γ) (N := N) true sc k es, hs : swS sc (.Tuple es n tp) e with
  | some s, some none => if hc : compC e = false then
        some ⟨.setu s.tgs u.ir, fun {CX C g lv W X} F => xs_setU (u.pe F) (eg_tupU F.calm (s.pg F) (s.len _) (s.nst _)) (nc_sw hc (some (.Tuple es n tp)) pos.line X.env) (swS_ok F.scope hs) rfl⟩
      else none
  | _, _ => none
def cSetLc (k : Nat) (x : Str) (px : Pos) (elt : Expr) (gs : List Comprehension) (scope : Scope) (p2 pos : Pos) : Option (SS Γ N sc (.Assign [.Name x px] (.ListComp elt gs scope p2) pos)) :=
  match gs with
  | [⟨t, it, ifs, 0⟩] => (match cLc' (Γ := Γ) (N := N) true sc k elt t it ifs scope, cT (Γ := Γ) (N := N) true sc k (.Name x px), hi : slotOf N x with
    | some s, some tg, some i => if hw : swB sc scope x px.line p2.line = true then
        (if hl : sc.names.lookup x = some .local then
          some ⟨.set (.nm i) (.comp none ((ownOf N scope).map (·.2)) s.t s.it s.cs s.el), fun {CX C g lv W X} F => xs_setLc (s.ok F) (by rw [F.nm]; exact slot_of hi) (by rw [F.scope]; exact hl) (by rw [swB_lc F.scope, hw])⟩
        else none)
      else
        some ⟨.set tg.tg (.comp none ((ownOf N scope).map (·.2)) s.t s.it s.cs s.el), fun {CX C g lv W X} F => xs_set (ev_lc (s.ok F)) (tg.pg F) (show swapsWith (.ListComp elt [⟨t, it, ifs, 0⟩] scope p2) (some (.Name x px)) pos.line X.env = pure false from by rw [swB_lc F.scope, Bool.eq_false_iff.mpr hw]) (swS_ok F.scope rfl) rfl⟩
    | _, _, _ => none)
  | _ => none
mutual
def cS' : Nat → (st : Stmt) → Option (SS Γ N sc st)
  | 0, _ => none
  | k + 1, st => match st with
    | .Pass _ => some ⟨.pass, fun _ => xs_pass⟩
    | .Break _ => some ⟨.brk, fun _ => xs_brk⟩
    | .Continue _ => some ⟨.ctn, fun _ => xs_ctn⟩
    | .Raise (some (.Call (.Name x p) [e] [] pos)) none p2 => (match cE' (Γ := Γ) (N := N) true sc k e, hx : Γ.exs.lookup x with
      | some u, some c => (match hf : Γ.exf[c]? with
        | some fld => if h : glbB sc x = true ∧ okName x = true then some ⟨.rse c (some fld) u.ir, fun {CX C g lv W X} F => by
            obtain ⟨hm, hc⟩ := F.gx.exs x c hx
            obtain ⟨fI, fd, ps, h1, h2, h3, h4, h5⟩ := F.gx.xin c fld hc hf
            exact xs_rse (F.gx.xcl c hc) h1 h2 h3 h5 F.room F.grd h4 F.gx.never (gl_of F h.1) hm (u.pe F) (okName_1 h.2) (pl_star u.pl _ _) rfl F.calm F.tk⟩ else some ⟨.nev, fun _ => xs_nev⟩
        | none => some ⟨.nev, fun _ => xs_nev⟩)
      | _, _ => some ⟨.nev, fun _ => xs_nev⟩)
    | .Raise (some (.Call (.Name x p) [] [] pos)) none p2 => (match hx : Γ.exs.lookup x with
      | some c => if h : c ∈ Γ.ex0 ∧ glbB sc x = true ∧ okName x = true then some ⟨.rse c none (.cst .non), fun {CX C g lv W X} F => by
          obtain ⟨hm, hc⟩ := F.gx.exs x c hx
          exact xs_rse0 (F.gx.xcl c hc) (F.gx.xi0 c h.1) (gl_of F h.2.1) hm (okName_1 h.2.2) F.calm F.tk⟩ else some ⟨.nev, fun _ => xs_nev⟩
      | none => some ⟨.nev, fun _ => xs_nev⟩)
    | .Raise _ _ _ => some ⟨.nev, fun _ => xs_nev⟩
    | .Try b (h₀ :: hds) [] [] pos => (match cB'' k b, cHd (Γ := Γ) (N := N) (sc := sc) k (h₀ :: hds) with
      | some y, some r => some ⟨.try_ y.irs r.irs, fun F => xs_try y r F⟩
      | _, _ => none)
    | .Return none _ => some ⟨.ret (.cst .non), fun _ => xs_retN⟩
    | .Return (some e) _ => (match cE' (Γ := Γ) (N := N) true sc k e with
      | some x => some ⟨.ret x.ir, fun F => xs_ret (x.pe F)⟩
      | none => none)
    | .Expr (.Constant (.str x) j p) p2 => some ⟨.pass, fun _ => xs_doc⟩
    | .Expr e pos => if hc : compC e = false then (match cE' (Γ := Γ) (N := N) true sc k e with
      | some x => some ⟨.expr x.ir, fun {CX C g lv W X} F => xs_expr (x.pe F) (nc_sw hc none pos.line X.env)⟩
      | none => none) else none
    | .If t a b _ => (match cE' (Γ := Γ) (N := N) true sc k t, cB'' k a, cB'' k b with
      | some x, some y, some z => some ⟨.ite x.ir y.irs z.irs, fun F => xs_if (x.pt F) (y.pss F) (z.pss F)⟩
      | _, _, _ => none)
    | .For t it b [] _ => (match cT (Γ := Γ) (N := N) true sc k t, cI' (Γ := Γ) (N := N) true sc k t it, cB'' k b with
      | some x, some y, some z => some ⟨.for_ x.tg y.it z.irs, fun F => xs_for F.own F.calm (y.pi F) (x.pg F) (z.pss F) (y.fold _)⟩
      | _, _, _ => none)
    | .While t b [] _ => (match cE' (Γ := Γ) (N := N) true sc k t, cB'' k b with
      | some x, some y => some ⟨.whl x.ir y.irs, fun F => xs_whl F.own (x.pt F) (y.pss F)⟩
      | _, _ => none)
    | .Assign [.Name x px] (.ListComp elt gs scope p2) pos => cSetLc k x px elt gs scope p2 pos
    | .Assign [.Subscript o i p2] e pos => if hc : compC e = false then (match cE' (Γ := Γ) (N := N) true sc k e, cE' (Γ := Γ) (N := N) true sc k o, cE' (Γ := Γ) (N := N) true sc k i with
      | some x, some y, some z => some ⟨.put y.ir z.ir x.ir, fun {CX C g lv W X} F => xs_put F.u1 (x.pe F) (y.pe F) (z.pe F) (by
          have pz := z.pl
          intro v
          cases i <;> first | rfl | exact absurd pz Bool.false_ne_true) (nc_sw hc (some (.Subscript o i p2)) pos.line X.env) (swS_ok (sc := sc) F.scope rfl) rfl⟩
      | _, _, _ => none) else none
    | .Assign [.Attribute o f p2] e pos => if hc : compC e = false then (match cE' (Γ := Γ) (N := N) true sc k e, cE' (Γ := Γ) (N := N) true sc k o with
      | some x, some y => some ⟨.fld y.ir f x.ir, fun {CX C g lv W X} F => xs_fld g.atr (fun c h => F.gx.atr c f h) (x.pe F) (y.pe F) (nc_sw hc (some (.Attribute o f p2)) pos.line X.env)⟩
      | _, _ => none) else none
    | .Assign [.Tuple [.Name x px, .Name y py] kt pt] (.Tuple [a, b] k2 pt2) pos => (match hs : swS sc (.Tuple [.Name x px, .Name y py] kt pt) (.Tuple [a, b] k2 pt2) with
      | some (some [x', y']) => (match cE' (Γ := Γ) (N := N) true sc k a, cE' (Γ := Γ) (N := N) true sc k b, hi : slotOf N x, hj : slotOf N y with
        | some u, some v, some i, some j => if h : x' = x ∧ y' = y ∧ i ≠ j ∧ sc.names.lookup x = some .local ∧ sc.names.lookup y = some .local then
            some ⟨.par i j u.ir v.ir, fun {CX C g lv W X} F => by
              obtain ⟨h1, h2, h3, h4, h5⟩ := h
              have hs2 := hs
              rw [h1, h2] at hs2
              exact xs_par F.calm (by rw [F.nm]; exact F.nd) (by rw [F.nm]; exact slot_of hi) (by rw [F.nm]; exact slot_of hj) h3 (by rw [F.scope]; exact h4) (by rw [F.scope]; exact h5) (u.pe F) (v.pe F) (pl_star u.pl _ _) (pl_star v.pl _ _) (swS_ok F.scope hs2) rfl⟩ else none
        | _, _, _, _ => none)
      | some none => (match cE' (Γ := Γ) (N := N) true sc k (.Tuple [a, b] k2 pt2) with
        | some u => cSetU k [.Name x px, .Name y py] kt pt (.Tuple [a, b] k2 pt2) pos u
        | none => none)
      | _ => none)
    | .Assign [.Tuple [.Name x px, .Name y py, .Name z pz] kt pt] (.Tuple [a, b, c] k2 pt2) pos => (match hs : swS sc (.Tuple [.Name x px, .Name y py, .Name z pz] kt pt) (.Tuple [a, b, c] k2 pt2) with
      | some (some [x', y', z']) => (match cE' (Γ := Γ) (N := N) true sc k a, cE' (Γ := Γ) (N := N) true sc k b, cE' (Γ := Γ) (N := N) true sc k c, hi : slotOf N x, hj : slotOf N y, hl : slotOf N z with
        | some u, some v, some w, some i, some j, some l => if h : (x' = x ∧ y' = y ∧ z' = z) ∧ i ≠ j ∧ i ≠ l ∧ j ≠ l ∧ sc.names.lookup x = some .local ∧ sc.names.lookup y = some .local ∧ sc.names.lookup z = some .local then
            some ⟨.par3 i j l u.ir v.ir w.ir, fun {CX C g lv W X} F => by
              obtain ⟨⟨h1, h2, h0⟩, h3, h4, h5, h6, h7, h8⟩ := h
              have hs2 := hs
              rw [h1, h2, h0] at hs2
              exact xs_par3 F.calm (by rw [F.nm]; exact F.nd) (by rw [F.nm]; exact slot_of hi) (by rw [F.nm]; exact slot_of hj) (by rw [F.nm]; exact slot_of hl) h3 h4 h5 (by rw [F.scope]; exact h6) (by rw [F.scope]; exact h7) (by rw [F.scope]; exact h8) (u.pe F) (v.pe F) (w.pe F) (pl_star u.pl _ _) (pl_star v.pl _ _) (pl_star w.pl _ _) (swS_ok F.scope hs2) rfl⟩ else none
        | _, _, _, _, _, _ => none)
      | some none => (match cE' (Γ := Γ) (N := N) true sc k (.Tuple [a, b, c] k2 pt2) with
        | some u => cSetU k [.Name x px, .Name y py, .Name z pz] kt pt (.Tuple [a, b, c] k2 pt2) pos u
        | none => none)
      | _ => none)
    | .Assign [.Tuple es n tp] e pos => (match cE' (Γ := Γ) (N := N) true sc k e with
      | some u => cSetU k es n tp e pos u
      | none => none)
    | .Assign [t] e pos => (match cE' (Γ := Γ) (N := N) true sc k e with
      | some u => cSet k t e pos u
      | none => none)
    | .Assign [.Name x px, .Name y py] e pos => (match cT (Γ := Γ) (N := N) true sc k (.Name x px), cT (Γ := Γ) (N := N) true sc k (.Name y py), cE' (Γ := Γ) (N := N) true sc k e with
      | some s, some t, some u => some ⟨.set2 s.tg t.tg u.ir, fun F => xs_set2 (u.pe F) (s.pg F) (t.pg F) rfl rfl⟩
      | _, _, _ => none)
    | .AugAssign (.Name x px) op e pos => (match cE' (Γ := Γ) (N := N) true sc k e, hi : slotOf N x with
      | some u, some i => if h : sc.names.lookup x = some .local ∧ (op = .Add ∨ op = .Sub) then
          some ⟨.aug i op u.ir, fun {CX C g lv W X} F => xs_aug (by rw [F.nm]; exact F.nd) (by rw [F.nm]; exact slot_of hi) (by rw [F.scope]; exact h.1) (u.pe F) h.2⟩ else none
      | _, _ => none)
    | _ => none
def cB'' : Nat → (sts : List Stmt) → Option (SSs Γ N sc sts)
  | 0, _ => none
  | k + 1, sts => match sts with
    | [] => some ⟨[], fun _ => xs_nil⟩
    | s :: r => (match cS' k s, cB'' k r with
      | some x, some y => some ⟨x.ir :: y.irs, fun F => xs_cons (x.ps F) (y.pss F)⟩
      | _, _ => none)
end
end
end Ev

set_option Elab.async false
set_option linter.all false
set_option maxRecDepth 100000
set_option maxHeartbeats 8000000
/-! A def with its certificate does what its meaning says. -/
namespace Ev
open PySem PySem.Spec L2
abbrev CXF (P : Program) (wd : World) : CXT := L2.CX P wd
theorem cx_never {P : Program} {wd : World} (out : List Env) (H : Hp) (s : Shared) (e : Value) (s' : Shared) (c : CXF P wd out H s (fun _ _ _ => False) e s') : False := by
  obtain ⟨_, _, _, _, _, _, _, _, _, _, _, _, z⟩ := c
  exact z
theorem cx_pass {P : Program} {wd : World} {X : Cx} {W : WX} (hp : X.prog = P) (hw : X.w = wd) (tk : Takes X W) : ∀ σ, PassesAt (CXF P wd) X σ (WE' W σ) := by
  subst hp hw
  exact fun σ => passAt tk σ
theorem run_len {d : Df} {g : G} {as : List AV} {h : AH} (n : d.run g as h ≠ .no) : as.length = d.pars := by
  unfold Df.run at n
  split at n
  · assumption
  · exact absurd rfl n
theorem spF_len {K : PySem.W.Frag} {C : Nat → Addr} {d : Df} {g : G} {xs : List V} {H : Hp} {Q : VK} {E : XK} (q : spF K C (d.run g) xs H Q E) : xs.length = d.pars := by
  obtain ⟨ρ, h, as, sr, rr, p⟩ := q
  rw [← rr.length]
  refine run_len (g := g) (h := h) fun z => ?_
  rw [z] at p
  exact p
section
variable {Γ : GE} {N pars : List Str} {C : Nat → Addr} {g : G} {lv : Nat} {P : Program} {wd : World} {K : PySem.W.Frag} {mg : Str → Option Value} {bs : Heap} {fa : Addr} {name qual : Str} {prm : Arguments} {code : List Stmt} {scp : Scope} {d1 d2 dc pm cdv ct cl : Value} {an od : Option Addr}
  {sls : Array (Option Value)}
theorem start_rs {ρ : List Addr} {H : Hp} {as : List AV} {xs : List V} (rr : RVs K ρ H as xs) (N : List Str) : RS K ρ H (as.map some ++ List.replicate (N.length - as.length) none) (L2.start N xs) := by
  refine ⟨by unfold L2.start; simp [rr.length], fun i v e => ?_⟩
  by_cases hi : i < as.length
  · rw [List.getElem?_append_left (by simpa using hi), List.getElem?_map] at e
    cases ea : as[i]? with
    | none => rw [ea] at e; cases e
    | some a =>
      rw [ea] at e
      cases e
      obtain ⟨y, hy, ry⟩ := rr.get ea
      refine ⟨y, ?_, ry⟩
      unfold L2.start
      rw [List.getElem?_append_left (by rw [List.length_map, ← rr.length]; exact hi), List.getElem?_map, hy]; rfl
  · rw [List.getElem?_append_right (by simpa using hi), List.getElem?_replicate] at e
    split at e <;> cases e
theorem fn_cert (Gd : Gx Γ (CXF P wd) C g lv P wd K mg bs) (at_ : K.lookup fa = some ⟨cl, od, .func (PySem.W.fnOf name qual prm code scp d1 d2 dc pm an cdv ct), sls⟩) (rec_ : PySem.W.codeIn K cdv qual = true) (S : FnScope N pars scp) (s : SSs Γ N scp code) :
    FnG P wd K mg bs (CXF P wd) (lv + 2) fa (PySem.W.fnOf name qual prm code scp d1 d2 dc pm an cdv ct) pars (spF K C (Df.run ⟨N.length, pars.length, s.irs⟩ g)) := by
  refine fnG_of at_ rec_ S (fun q => spF_len q) fun A out st H xs Q E room grd want => ?_
  refine ⟨AtS K C (fun c d _ H' => E c d H') (exB g none s.irs), ?_, ?_⟩
  · refine s.pss (CX := CXF P wd) (C := C) (lv := lv) ⟨rfl, rfl, S.nd, rfl, room, grd, fun _ _ => rfl, takes_of (E := E) rfl rfl rfl rfl, passes_of rfl, fun _ => ⟨rfl, rfl⟩, Gd⟩
  · obtain ⟨ρ, h, as, sr, rr, p⟩ := want
    refine ⟨ρ, _, h, start_rs rr N, sr, ?_⟩
    have len : as.length = pars.length := run_len (d := ⟨N.length, pars.length, s.irs⟩) (g := g) (h := h) fun z => by rw [z] at p; exact p
    unfold Df.run at p
    rw [if_pos len] at p
    simp only at p
    cases eb : exB g none s.irs (as.map some ++ List.replicate (N.length - as.length) none) h with
    | nx as' h' => rw [eb] at p; exact fun ρ' H' σ' rs s e f => p ρ' H' .non s e f .non
    | rt v h' => rw [eb] at p; exact fun ρ' H' y s e f r => p ρ' H' y s e f r
    | ex c fs as' h' => rw [eb] at p; exact fun ρ' H' σ' d ys rs s e f hd rp => p ρ' H' d ys s e f hd rp
    | bk as' h' => rw [eb] at p; exact p.elim
    | ct as' h' => rw [eb] at p; exact p.elim
    | no => rw [eb] at p; exact p.elim
end
end Ev

set_option Elab.async false
set_option linter.all false
set_option maxRecDepth 100000
set_option maxHeartbeats 8000000
/-! All defs of a text, one after another; defs that call themselves as deep as is said of each; own errors. -/
namespace Ev
open PySem PySem.Spec L2
structure Ent where
  st : Stmt
  N : List Str
  pars : List Str
  df : Df
structure DefOk (Γ : GE) (K : PySem.W.Frag) (e : Ent) (fa : Addr) (fd : FuncData) : Prop where
  ex : ∃ (cl : Value) (od : Option Addr) (name qual : Str) (d1 d2 dc pm : Value) (an : Option Addr) (cdv ct : Value) (sls : Array (Option Value)),
    fd = PySem.W.fnOf name qual (defArgs e.st) (defBody e.st) (defScope e.st) d1 d2 dc pm an cdv ct ∧ K.lookup fa = some ⟨cl, od, .func fd, sls⟩ ∧ PySem.W.codeIn K cdv qual = true
  kp : PySem.W.keepIn K (.ref fa) = true
  bd : Binds K fd e.pars []
  scp : FnScope e.N e.pars (defScope e.st)
  cert : ∃ s : SSs Γ e.N (defScope e.st) (defBody e.st), e.df = ⟨e.N.length, e.pars.length, s.irs⟩
/-- an own error's __init__ -/
structure InitOk (K : PySem.W.Frag) (C : Addr) (F : Str) : Prop where
  ex : ∃ (fI : Addr) (s p : Str) (cl : Value) (od : Option Addr) (name qual : Str) (prm : Arguments) (code : List Stmt) (scp : Scope) (d1 d2 dc pm cdv ct : Value) (an : Option Addr) (sls : Array (Option Value)),
    K.lookup fI = some ⟨cl, od, .func (PySem.W.fnOf name qual prm code scp d1 d2 dc pm an cdv ct), sls⟩ ∧ PySem.W.codeIn K cdv qual = true ∧ FnScope [s, p] [s, p] scp ∧ initB F s p scp code = true ∧
    PySem.W.findIn K (.ref C) "__init__" = some (some (.ref fI)) ∧ PySem.W.typeIn K (.ref fI) = some (.type "function") ∧ Binds K (PySem.W.fnOf name qual prm code scp d1 d2 dc pm an cdv ct) [s, p] [] ∧
    ∀ (sh : Shared) (a u : Value), BindsTo sh (PySem.W.fnOf name qual prm code scp d1 d2 dc pm an cdv ct) ⟨[a], [(F, u)]⟩ [(s, a), (p, u)]
  no : PySem.W.findIn K (.ref C) F = some none
/-- what the module's top has laid -/
structure Mods (Γ : GE) (C : Nat → Addr) (sub : Nat → Nat → Bool) (atr xat : Nat → Str → Bool) (K : PySem.W.Frag) (mg : Str → Option Value) (D : List (Ent × Addr × FuncData)) : Prop where
  ok : ∀ (i : Nat) e fa fd, D[i]? = some (e, fa, fd) → DefOk Γ K e fa fd
  fns : ∀ x (i : Nat), Γ.fns.lookup x = some i → ∃ e fa fd, D[i]? = some (e, fa, fd) ∧ mg x = some (.ref fa)
  ins : ∀ x c (i : Nat), Γ.ins.lookup x = some (c, i) → ∃ e fa fd, D[i]? = some (e, fa, fd) ∧ mg x = some (.ref (C c)) ∧ Mk K (C c) fa
  mths : ∀ m c (i : Nat), Γ.mths.lookup m = some (c, i) → ∃ e fa fd, D[i]? = some (e, fa, fd) ∧ Cls K (C c) ∧ Meth K (C c) m fa
  blt : ∀ x, x ∈ (["len", "abs", "int", "bool", "str", "tuple", "list", "all", "any", "sum", "min", "max", "repr", "isinstance", "range", "enumerate", "zip", "sorted"] : List Str) → mg x = none
  cst : ∀ x v, Γ.cst.lookup x = some v → ∃ y u, mg x = some u ∧ RelV y u ∧ ∀ ρ H, RV K ρ H v y
  atr : ∀ c F, atr c F = true → Cls K (C c) ∧ NoAttr K (C c) F
  exs : ∀ x c, Γ.exs.lookup x = some c → mg x = some (.ref (C c)) ∧ sub c c = true
  xcl : ∀ c, sub c c = true → OwnX K (C c)
  xsb : ∀ c d, sub c c = true → sub d d = true → PySem.W.subIn K (.ref (C c)) (.ref (C d)) = some (sub c d)
  xat : ∀ c F, xat c F = true → PySem.W.findIn K (.ref (C c)) F = some none
  xin : ∀ c F, sub c c = true → Γ.exf[c]? = some F → InitOk K (C c) F
  xi0 : ∀ c, c ∈ Γ.ex0 → PySem.W.excIn K (C c) exTail "Exception.__new__" = true
def gR (d : Df) (g : G) (n : Nat) : Nat → G
  | 0 => g
  | k + 1 => ⟨fun i vs h => if i = n then d.run (gR d g n k) vs h else g.fn i vs h, g.sub, g.atr, g.fuel, g.xat⟩
theorem gR_atr (d : Df) (g : G) (n : Nat) : ∀ k, (gR d g n k).atr = g.atr
  | 0 => rfl
  | _ + 1 => rfl
theorem gR_sub (d : Df) (g : G) (n : Nat) : ∀ k, (gR d g n k).sub = g.sub
  | 0 => rfl
  | _ + 1 => rfl
theorem gR_xat (d : Df) (g : G) (n : Nat) : ∀ k, (gR d g n k).xat = g.xat
  | 0 => rfl
  | _ + 1 => rfl
def gOfX (ds : List Df) (rx : Nat → Nat) (sub : Nat → Nat → Bool) (atr xat : Nat → Str → Bool) (fuel : Nat) : Nat → G
  | 0 => ⟨fun _ _ _ => .no, sub, atr, fuel, xat⟩
  | n + 1 => ⟨fun i vs h => if i = n then (match ds[n]? with
      | some d => d.run (gR d (gOfX ds rx sub atr xat fuel n) n (rx n)) vs h
      | none => .no) else (gOfX ds rx sub atr xat fuel n).fn i vs h, sub, atr, fuel, xat⟩
def lvX (rx : Nat → Nat) : Nat → Nat
  | 0 => 1
  | n + 1 => lvX rx n + 2 * rx n + 2
theorem lvX_pos (rx : Nat → Nat) : ∀ n, 1 ≤ lvX rx n
  | 0 => Nat.le_refl _
  | n + 1 => by have := lvX_pos rx n; show 1 ≤ lvX rx n + 2 * rx n + 2; omega
section
variable {Γ : GE} {C : Nat → Addr} {sub : Nat → Nat → Bool} {atr xat : Nat → Str → Bool} {fuel : Nat} {P : Program} {wd : World} {K : PySem.W.Frag} {mg : Str → Option Value} {bs : Heap} {D : List (Ent × Addr × FuncData)} {rx : Nat → Nat}
theorem gOfX_atr (ds : List Df) : ∀ n, (gOfX ds rx sub atr xat fuel n).atr = atr
  | 0 => rfl
  | _ + 1 => rfl
theorem gOfX_sub (ds : List Df) : ∀ n, (gOfX ds rx sub atr xat fuel n).sub = sub
  | 0 => rfl
  | _ + 1 => rfl
theorem gOfX_xat (ds : List Df) : ∀ n, (gOfX ds rx sub atr xat fuel n).xat = xat
  | 0 => rfl
  | _ + 1 => rfl
abbrev AllF (C : Nat → Addr) (P : Program) (wd : World) (K : PySem.W.Frag) (mg : Str → Option Value) (bs : Heap) (D : List (Ent × Addr × FuncData)) (g : G) (lv : Nat) : Prop :=
  ∀ (i : Nat) e fa fd, D[i]? = some (e, fa, fd) → FnG P wd K mg bs (CXF P wd) lv fa fd e.pars (spF K C (g.fn i))
structure Gs (g : G) (sub : Nat → Nat → Bool) (atr xat : Nat → Str → Bool) : Prop where
  sub : g.sub = sub
  atr : g.atr = atr
  xat : g.xat = xat
theorem gx_ofF (M : Mods Γ C sub atr xat K mg D) {g : G} (ha : Gs g sub atr xat) {lv : Nat} (pos : 1 ≤ lv) (A : AllF C P wd K mg bs D g lv) : Gx Γ (CXF P wd) C g lv P wd K mg bs where
  blt := M.blt
  fns x i h := by
    obtain ⟨e, fa, fd, h1, h2⟩ := M.fns x i h
    have o := M.ok i e fa fd h1
    exact ⟨fa, fd, e.pars, h2, o.kp, o.bd, A i e fa fd h1⟩
  ins x c i h := by
    obtain ⟨e, fa, fd, h1, h2, h3⟩ := M.ins x c i h
    have o := M.ok i e fa fd h1
    exact ⟨fa, fd, e.pars, h2, h3, o.bd, A i e fa fd h1⟩
  mths m c i h := by
    obtain ⟨e, fa, fd, h1, h2, h3⟩ := M.mths m c i h
    have o := M.ok i e fa fd h1
    exact ⟨fa, fd, e.pars, h2, h3, o.bd, A i e fa fd h1⟩
  cst := M.cst
  atr c F h := M.atr c F (by rw [ha.atr] at h; exact h)
  never := cx_never
  pass := cx_pass
  exs x c h := by rw [ha.sub]; exact M.exs x c h
  xcl c h := M.xcl c (by rw [ha.sub] at h; exact h)
  xsb c d h1 h2 := by rw [ha.sub] at h1 h2 ⊢; exact M.xsb c d h1 h2
  xat c F h := M.xat c F (by rw [ha.xat] at h; exact h)
  xin c F h1 h2 := by
    rw [ha.sub] at h1
    obtain ⟨⟨fI, s, p, cl, od, name, qual, prm, code, scp, d1, d2, dc, pm, cdv, ct, an, sls, at_, rec_, S, hb, iC, tI, bd, kb⟩, no⟩ := M.xin c F h1 h2
    obtain ⟨l, rfl⟩ : ∃ l, lv = l + 1 := ⟨lv - 1, by omega⟩
    exact ⟨fI, _, [s, p], iC, tI, no, bd, fnX_init at_ rec_ S hb⟩
  xi0 := M.xi0
  xik c F h1 h2 := by
    rw [ha.sub] at h1
    obtain ⟨⟨fI, s, p, cl, od, name, qual, prm, code, scp, d1, d2, dc, pm, cdv, ct, an, sls, at_, rec_, S, hb, iC, tI, bd, kb⟩, no⟩ := M.xin c F h1 h2
    obtain ⟨l, rfl⟩ : ∃ l, lv = l + 1 := ⟨lv - 1, by omega⟩
    exact ⟨fI, _, s, p, iC, tI, no, kb, fnX_init at_ rec_ S hb⟩
theorem stepF (M : Mods Γ C sub atr xat K mg D) {g : G} (ha : Gs g sub atr xat) {lv : Nat} (pos : 1 ≤ lv) (A : AllF C P wd K mg bs D g lv) {i : Nat} {e fa fd} (h : D[i]? = some (e, fa, fd)) :
    FnG P wd K mg bs (CXF P wd) (lv + 2) fa fd e.pars (spF K C (e.df.run g)) := by
  have o := M.ok i e fa fd h
  obtain ⟨cl, od, name, qual, d1, d2, dc, pm, an, cdv, ct, sls, rfl, at_, rec_⟩ := o.ex
  obtain ⟨s, es⟩ := o.cert
  rw [es]
  exact fn_cert (C := C) (gx_ofF M ha pos A) at_ rec_ o.scp s
theorem allR (M : Mods Γ C sub atr xat K mg D) {g : G} (ha : Gs g sub atr xat) {lv : Nat} (pos : 1 ≤ lv) (A : AllF C P wd K mg bs D g lv) {n : Nat} {e fa fd} (h : D[n]? = some (e, fa, fd)) : ∀ k, AllF C P wd K mg bs D (gR e.df g n k) (lv + 2 * k)
  | 0 => A
  | k + 1 => fun i e' fa' fd' h' => by
    have B := allR M ha pos A h k
    by_cases hi : i = n
    · subst hi
      rw [h] at h'
      cases h'
      have F := stepF M (g := gR e.df g i k) ⟨by rw [gR_sub]; exact ha.sub, by rw [gR_atr]; exact ha.atr, by rw [gR_xat]; exact ha.xat⟩ (by omega) B h
      have eq : (gR e.df g i (k + 1)).fn i = e.df.run (gR e.df g i k) := by
        funext vs hh
        show (if i = i then _ else _) = _
        rw [if_pos rfl]
      rw [eq, show lv + 2 * (k + 1) = lv + 2 * k + 2 by omega]
      exact F
    · have eq : (gR e.df g n (k + 1)).fn i = g.fn i := by
        funext vs hh
        show (if i = n then _ else _) = _
        rw [if_neg hi]
      rw [eq]
      exact (A i e' fa' fd' h').up (by omega)
theorem all_gX (M : Mods Γ C sub atr xat K mg D) : ∀ n, AllF C P wd K mg bs D (gOfX (D.map fun p => p.1.df) rx sub atr xat fuel n) (lvX rx n)
  | 0, i, e, fa, fd, h => by
    refine ⟨fun {xs H Q E} q => ?_, fun {A out s H ar us xs Q E} _ _ _ _ _ q => ?_⟩
    · obtain ⟨_, _, _, _, _, p⟩ := q; exact p.elim
    · obtain ⟨_, _, _, _, _, p⟩ := q; exact p.elim
  | n + 1, i, e, fa, fd, h => by
    have A := all_gX M n
    by_cases hi : i = n
    · subst hi
      have G0 : Gs (gOfX (D.map fun p => p.1.df) rx sub atr xat fuel i) sub atr xat := ⟨gOfX_sub _ _, gOfX_atr _ _, gOfX_xat _ _⟩
      have B := allR M G0 (lvX_pos rx i) A h (rx i)
      have F := stepF M ⟨by rw [gR_sub]; exact G0.sub, by rw [gR_atr]; exact G0.atr, by rw [gR_xat]; exact G0.xat⟩ (by have := lvX_pos rx i; omega) B h
      have eq : (gOfX (D.map fun p => p.1.df) rx sub atr xat fuel (i + 1)).fn i = e.df.run (gR e.df (gOfX (D.map fun p => p.1.df) rx sub atr xat fuel i) i (rx i)) := by
        funext vs hh
        show (if i = i then _ else _) = _
        rw [if_pos rfl, List.getElem?_map, h]
        rfl
      rw [eq]
      exact F
    · have eq : (gOfX (D.map fun p => p.1.df) rx sub atr xat fuel (n + 1)).fn i = (gOfX (D.map fun p => p.1.df) rx sub atr xat fuel n).fn i := by
        funext vs hh
        show (if i = n then _ else _) = _
        rw [if_neg hi]
      rw [eq]
      exact (A i e fa fd h).up (by show lvX rx n ≤ lvX rx n + 2 * rx n + 2; omega)
end
theorem gOfX_fn {ds : List Df} {rx : Nat → Nat} {sub atr xat fuel} {j : Nat} (vs : List AV) (h : AH) : ∀ {m : Nat}, j < m → (gOfX ds rx sub atr xat fuel m).fn j vs h = match ds[j]? with
      | some d => d.run (gR d (gOfX ds rx sub atr xat fuel j) j (rx j)) vs h
      | none => .no
  | 0, k => absurd k (by omega)
  | m + 1, k => by
    by_cases e : j = m
    · subst e
      simp only [gOfX, if_true] <;> (cases ds[j]? <;> rfl)
    · simp only [gOfX, e, if_false]
      exact gOfX_fn vs h (by omega)
end Ev

set_option Elab.async false
set_option linter.all false
set_option maxRecDepth 100000
set_option maxHeartbeats 8000000
/-! The law's own call. -/
namespace Ev
open PySem PySem.Spec PyProof.Rows L2
theorem caller_grd : callerA.guards = some [] := rfl
/-- the law is called with its script: it tells True -/
theorem lawG {P : Program} {wd : World} {K : PySem.W.Frag} {mg mb : Str → Option Value} {lv : Nat} {fa a : Addr} {fd : FuncData} {x : Str} {want : Sp} {st : Shared} {vs : List Value} {ns : List Int} (inK : K.In st.heap) (gl : st.heap.Ns mainGlobals mg) (bl : st.heap.Ns builtinsNs mb)
    (bb : ∀ x : Str, x ≠ "__name__" → mb x = bootBuiltins x) (nolim : st.heap.NoLimit) (nogen : st.gens = #[]) (lst : st.heap.get? a = some { cls := .type "list", data := .seq vs.toArray }) (isI : IntsAre vs ns) (few : ns.length ≤ sizeLine) (room : Room lv callerA)
    (F : ∀ bs : Heap, K.In bs → bs.Ns mainGlobals mg → FnG P wd K mg bs (CXF P wd) lv fa fd [x] want) (bind : ∀ (s : Shared) (u : Value), BindsTo s fd ⟨[u], []⟩ [(x, u)])
    (good : ∀ H : Hp, FzL K H a (ns.map V.int) → want [.ref a] H (fun v _ => v = .bl true) fun _ _ _ => False) :
    codeAny (model P wd) callerA (.call (.ref fa) ⟨[.ref a], []⟩) (fun r s' => r = .ok (.ret (.bool true)) ∧ OldK st.heap s'.heap ∧ s'.os = st.os ∧ AllBare s'.gens) st := by
  have vals := vals_ints isI
  have lens := isI.length
  have main_ : ∀ H : Hp, (∀ b, H b = none ∨ ∃ o xs, H b = some (.frz o (.lst xs))) → FzL K H a (ns.map V.int) → HOk P wd H st.heap → (∀ b, H b ≠ none → b = a) → (H a ≠ none → K.lookup a = none) →
      codeAny (model P wd) callerA (.call (.ref fa) ⟨[.ref a], []⟩) (fun r s' => r = .ok (.ret (.bool true)) ∧ OldK st.heap s'.heap ∧ s'.os = st.os ∧ AllBare s'.gens) st := by
    intro H only sq hok sole off
    have low : ∀ {b : Addr} {o : Obj}, st.heap.get? b = some o → H b = none → (hidT st.heap H).get? b = some o := fun e n => hidT_get e n
    have plain : ∀ {b : Addr} {o : Obj} {es : Array DictEntry} {ep : Nat}, st.heap.get? b = some o → o.data = .dict es ep → H b = none := by
      intro b o es ep e d
      by_cases q : H b = none
      · exact q
      · have z := sole b q
        subst z
        rw [lst] at e
        cases e
        have d : Data.seq vs.toArray _ = Data.dict es ep := d
        cases d
    have nss : ∀ {b : Addr} {m : Str → Option Value}, st.heap.Ns b m → (hidT st.heap H).Ns b m := by
      rintro b m ⟨o, es, ep, e, d, r⟩
      exact ⟨o, es, ep, low e (plain e d), d, r⟩
    have inB : K.In (hidT st.heap H) := by
      intro b o e
      refine low (inK b o e) ?_
      by_cases q : H b = none
      · exact q
      · have z := sole b q
        subst z
        rw [off q] at e
        cases e
    obtain ⟨mc, l1, l2⟩ := nolim
    have md : Mod K mg (hidT st.heap H) := ⟨inB, nss gl, ⟨mb, nss bl, bb⟩, mc, nss l1, l2⟩
    have here : Env0 P wd K mg (hidT st.heap H) callerA [] st H := ⟨rfl, md, fun b o e => of_hidT e, Nat.le_of_eq (hidT_size _ _), trivial, fun b (hb : b ∈ ([] : List Addr)) => (List.not_mem_nil hb).elim, hok, AllBare.of_eq nogen⟩
    refine codeAny_mono ((F _ inB (nss gl)).runs (us := [.ref a]) (xs := [.ref a]) room caller_grd here (bind st (.ref a)) (.cons rfl .nil) (good H sq)) fun r s' end_ => ?_
    match r, end_ with
    | .error e, end_ => exact (cx_never _ _ _ _ _ end_).elim
    | .ok .next, end_ => exact False.elim end_
    | .ok .brk, end_ => exact False.elim end_
    | .ok .cont, end_ => exact False.elim end_
    | .ok (.ret u), end_ =>
      obtain ⟨v, H', os, bare, un, hok', rv, q⟩ := end_
      have q : v = .bl true := q
      subst q
      obtain rfl : u = Value.bool true := rv
      refine ⟨rfl, OldK.of_keep fun b o e => ?_, os, bare⟩
      rcases only b with z | ⟨ob, xs, z⟩
      · exact un.keep b o e z (fun (m : b ∈ ([] : List Addr)) => List.not_mem_nil m) (fun (m : b ∈ ([] : List Addr)) => List.not_mem_nil m)
      · obtain ⟨e1, _⟩ := hok b _ z
        obtain ⟨e2, _⟩ := hok' b _ (un.frzs b ob _ z)
        rw [e] at e1
        cases e1
        exact e2
  cases own : K.lookup a with
  | some o =>
    have e := inK a o own
    rw [lst] at e
    cases e
    refine main_ (fun _ => none) (fun _ => .inl rfl) (.inr (.inr ⟨_, vs.toArray, _, own, rfl, rfl, rfl, by rw [List.size_toArray, lens]; exact few, by simpa using vals⟩)) (fun b u z => by cases z) (fun b z => absurd rfl z) fun z => absurd rfl z
  | none =>
    have is : ∀ b, (if b = a then some (HO.frz { cls := .type "list", data := .seq vs.toArray } (.lst (ns.map V.int))) else none) = none ∨ b = a := fun b => by
      by_cases q : b = a
      · exact .inr q
      · exact .inl (if_neg q)
    refine main_ (fun b => if b = a then some (.frz { cls := .type "list", data := .seq vs.toArray } (.lst (ns.map V.int))) else none) (fun b => ?_) (.inl ⟨_, if_pos rfl⟩) (fun b u z => ?_) (fun b z => (is b).resolve_left z) fun _ => own
    · rcases is b with q | q
      · exact .inl q
      · exact .inr ⟨_, _, if_pos q⟩
    · rcases is b with q | q
      · exact absurd (q.symm.trans z) (fun w => by cases w)
      · have z : (if b = a then some (HO.frz { cls := .type "list", data := .seq vs.toArray } (.lst (ns.map V.int))) else none) = some u := z
        rw [if_pos q] at z
        cases z
        subst q
        exact ⟨lst, by rw [List.length_map]; exact few, vs, _, vals, lst⟩
/-- what the head leaves -/
theorem walkG {l : PySem.W.OpenLaw} {n lv : Nat} {q : Program} {loose : List Str} {XP : (Str → Option Value) → Heap → Prop} {YP : World → Heap → Prop} {d : DefRec} {K : Params → PySem.W.Frag} {want : World → Sp} {x : Str} (most : l.most = some n) (small : n ≤ sizeLine) (nodef : d.params.defaults = []) (room : Room lv callerA)
    (inK : ∀ (wd : World) (h : Heap), YP wd h → (K wd.params).In h)
    (F : ∀ (wd : World) (mg : Str → Option Value) (fa : Addr) (h : Heap), (K wd.params).In h → h.Ns mainGlobals mg → mg d.name = some (.ref fa) → ∃ fd : FuncData, (∀ (s : Shared) (u : Value), BindsTo s fd ⟨[u], []⟩ [(x, u)]) ∧
      ∀ bs : Heap, (K wd.params).In bs → bs.Ns mainGlobals mg → FnG l.prog wd (K wd.params) mg bs (CXF l.prog wd) lv fa fd [x] (want wd))
    (good : ∀ (wd : World) (H : Hp) (a : Addr) (ns : List Int), ns.length ≤ n → FzL (K wd.params) H a (ns.map V.int) → want wd [.ref a] H (fun v _ => v = .bl true) fun _ _ _ => False) :
    PySem.W.WalkO q loose XP YP l.row.toRowW d [] (fun f vs => PySem.call f vs) := by
  refine Att.attach_call most nodef fun wd s₀ s₁ mg mb fa o pm cd doc a vs ns G Y ho hd hcd at_ obj isI len nogen => ?_
  obtain ⟨fd, bind, hF⟩ := F wd mg fa _ (inK wd _ Y) G.T.g at_
  exact lawG (inK wd _ Y) G.T.g G.T.b G.T.builtins G.T.nolimit nogen obj isI (Nat.le_trans len small) room hF bind fun H sq => good wd H a ns len sq
end Ev

set_option Elab.async false
set_option linter.all false
set_option maxRecDepth 100000
set_option maxHeartbeats 8000000
/-! An own error without __init__: what the written part says of it, from its objects. -/
namespace Ev
open PySem PySem.Spec PyProof.Rows L2
open PySem.W (nsIn nsOkIn tailIn excIn)
def nsO (o : Obj) : Addr := match o.data with
  | .cls cd => cd.ns
  | _ => 0
def dictB (o : Obj) : Bool := match o with
  | ⟨_, _, .dict es _, _⟩ => (es.all fun e => match e.key with | .str _ _ => true | _ => false) && (match es.toList.find? (·.key.isStr "__init__") with
    | some _ => false
    | none => !(es.toList.any (·.refKey)))
  | _ => false
def clsB (o : Obj) : Bool := match o with
  | ⟨_, _, .cls _, _⟩ => true
  | _ => false
theorem dict_ok {K : PySem.W.Frag} {N : Addr} {o : Obj} (h : K.lookup N = some o) (hb : dictB o = true) : nsOkIn K N = true ∧ nsIn K N "__init__" = some none := by
  obtain ⟨cl, dd, da, sl⟩ := o
  cases da <;> try cases hb
  rename_i es ep
  simp only [dictB, Bool.and_eq_true] at hb
  refine ⟨?_, ?_⟩
  · unfold PySem.W.nsOkIn
    rw [h]
    exact hb.1
  · unfold PySem.W.nsIn
    rw [h]
    have h2 := hb.2
    simp only
    cases ef : es.toList.find? (·.key.isStr "__init__") with
    | some e => rw [ef] at h2; cases h2
    | none =>
      rw [ef] at h2
      simp only [Bool.not_eq_true'] at h2
      simp only [h2]
      rfl
theorem excIn_of {K : PySem.W.Frag} {C L : Addr} {o oN oL oNL : Obj} (h1 : K.lookup C = some o) (h2 : K.lookup (nsO o) = some oN) (h3 : K.lookup L = some oL) (h4 : K.lookup (nsO oL) = some oNL)
    (hx : xObjL C (some L) o = true) (hN : dictB oN = true) (hL : clsB oL = true) (hNL : dictB oNL = true) : excIn K C exTail "Exception.__new__" = true := by
  obtain ⟨d1, d2⟩ := dict_ok h2 hN
  obtain ⟨d3, d4⟩ := dict_ok h4 hNL
  unfold xObjL at hx
  split at hx
  · rename_i dd cd sl
    split at hx
    · rename_i C' bm k0 k1 k2 k3 n k5 hm hs
      simp only [Bool.and_eq_true, beq_iff_eq, Bool.not_eq_true'] at hx
      obtain ⟨⟨⟨⟨e1, e2⟩, e3⟩, e4⟩, e5⟩ := hx
      have ht : tailIn K exTail bm = true := by
        rw [e5]
        unfold PySem.W.tailIn
        have hb : tailIn K exTail exTail = true := by
          show (_ || _) = true
          rw [show (exTail == exTail) = true from beq_self_eq_true _]
          rfl
        obtain ⟨cl, dL, da, sL⟩ := oL
        cases da <;> try cases hL
        rename_i cdL
        simp only [h3]
        have d3 : nsOkIn K cdL.ns = true := d3
        have d4 : nsIn K cdL.ns "__init__" = some none := d4
        rw [d3, d4, hb]
        simp
      unfold PySem.W.excIn
      rw [h1]
      have d1 : nsOkIn K cd.ns = true := d1
      have d2 : nsIn K cd.ns "__init__" = some none := d2
      simp only [hm, hs, e1, e2, e3, ht, d1, d2]
      simp
    · cases hx
  · cases hx
end Ev

set_option Elab.async false
set_option linter.all false
set_option maxRecDepth 100000
set_option maxHeartbeats 8000000
/-! What a run comes to: wishes over the small language. -/
namespace Ev
open PySem L2

abbrev XQ := Nat → List (Str × AV) → AH → Prop
abbrev YQ := Nat → List (Str × AV) → Sl → AH → Prop
def RWX {α : Type} (X : XQ) (r : Res α) (Q : α → AH → Prop) : Prop := match r with
  | .ok a h => Q a h
  | .ex k fs h => X k fs h
  | .no => False
def OWX (Y : YQ) (o : Out) (n b c : Sl → AH → Prop) (r : AV → AH → Prop) : Prop := match o with
  | .nx σ h => n σ h
  | .rt v h => r v h
  | .bk σ h => b σ h
  | .ct σ h => c σ h
  | .ex k fs σ h => Y k fs σ h
  | .no => False
abbrev RW {α : Type} (r : Res α) (Q : α → AH → Prop) : Prop := RWX (fun _ _ _ => False) r Q
abbrev OW (o : Out) (n b c : Sl → AH → Prop) (r : AV → AH → Prop) : Prop := OWX (fun _ _ _ _ => False) o n b c r
section
variable {α β : Type} {g : G} {x : Cur} {σ : Sl} {h : AH} {Q : AV → AH → Prop} {n b c : Sl → AH → Prop} {r : AV → AH → Prop} {X X' : XQ} {Y Y' : YQ}
@[simp] theorem RW_ok (a : α) (h : AH) (Q : α → AH → Prop) : RWX X (.ok a h) Q ↔ Q a h := Iff.rfl
@[simp] theorem RW_no (Q : α → AH → Prop) : RWX X .no Q ↔ False := Iff.rfl
@[simp] theorem RW_ex (k fs h) (Q : α → AH → Prop) : RWX X (.ex k fs h) Q ↔ X k fs h := Iff.rfl
@[simp] theorem RW_bind (r : Res α) (f : α → AH → Res β) (Q : β → AH → Prop) : RWX X (r.bind f) Q ↔ RWX X r fun a h => RWX X (f a h) Q := by cases r <;> rfl
theorem RWX.monoX {r : Res α} {Q Q' : α → AH → Prop} (p : RWX X r Q) (kx : ∀ k fs h, X k fs h → X' k fs h) (k : ∀ a h, Q a h → Q' a h) : RWX X' r Q' := by
  cases r with
  | ok a h => exact k _ _ p
  | ex => exact kx _ _ _ p
  | no => exact p
theorem RWX.mono {r : Res α} {Q Q' : α → AH → Prop} (p : RWX X r Q) (k : ∀ a h, Q a h → Q' a h) : RWX X r Q' := p.monoX (fun _ _ _ z => z) k
theorem RW.mono {r : Res α} {Q Q' : α → AH → Prop} (p : RW r Q) (k : ∀ a h, Q a h → Q' a h) : RWX X r Q' := RWX.monoX p (fun _ _ _ z => z.elim) k
theorem OWX.monoX {o : Out} {n n' b b' c c' : Sl → AH → Prop} {r r' : AV → AH → Prop} (p : OWX Y o n b c r) (ky : ∀ k fs σ h, Y k fs σ h → Y' k fs σ h) (kn : ∀ a h, n a h → n' a h) (kb : ∀ a h, b a h → b' a h) (kc : ∀ a h, c a h → c' a h) (kr : ∀ a h, r a h → r' a h) : OWX Y' o n' b' c' r' := by
  cases o with
  | nx => exact kn _ _ p
  | rt => exact kr _ _ p
  | bk => exact kb _ _ p
  | ct => exact kc _ _ p
  | ex => exact ky _ _ _ _ p
  | no => exact p
theorem OWX.mono {o : Out} {n n' b b' c c' : Sl → AH → Prop} {r r' : AV → AH → Prop} (p : OWX Y o n b c r) (kn : ∀ a h, n a h → n' a h) (kb : ∀ a h, b a h → b' a h) (kc : ∀ a h, c a h → c' a h) (kr : ∀ a h, r a h → r' a h) : OWX Y o n' b' c' r' := p.monoX (fun _ _ _ _ z => z) kn kb kc kr
theorem OW.mono {o : Out} {n n' b b' c c' : Sl → AH → Prop} {r r' : AV → AH → Prop} (p : OW o n b c r) (kn : ∀ a h, n a h → n' a h) (kb : ∀ a h, b a h → b' a h) (kc : ∀ a h, c a h → c' a h) (kr : ∀ a h, r a h → r' a h) : OWX Y o n' b' c' r' := OWX.monoX p (fun _ _ _ _ z => z.elim) kn kb kc kr
theorem RW.ex {r : Res α} {Q : α → AH → Prop} (p : RW r Q) : ∃ a h, r = .ok a h ∧ Q a h := by
  cases r with
  | ok a h => exact ⟨a, h, rfl, p⟩
  | ex => exact p.elim
  | no => exact p.elim
@[simp] theorem RW_ite (p : Prop) [Decidable p] (a b : Res α) (Q : α → AH → Prop) : RWX X (if p then a else b) Q ↔ if p then RWX X a Q else RWX X b Q := by split <;> rfl
@[simp] theorem OW_ite (p : Prop) [Decidable p] (a d : Out) : OWX Y (if p then a else d) n b c r ↔ if p then OWX Y a n b c r else OWX Y d n b c r := by split <;> rfl
@[simp] theorem OW_nx (σ h) : OWX Y (.nx σ h) n b c r ↔ n σ h := Iff.rfl
@[simp] theorem OW_rt (v h) : OWX Y (.rt v h) n b c r ↔ r v h := Iff.rfl
@[simp] theorem OW_bk (σ h) : OWX Y (.bk σ h) n b c r ↔ b σ h := Iff.rfl
@[simp] theorem OW_ct (σ h) : OWX Y (.ct σ h) n b c r ↔ c σ h := Iff.rfl
@[simp] theorem OW_no : OWX Y .no n b c r ↔ False := Iff.rfl
@[simp] theorem OW_out (q : Res AV) (f : AV → AH → Out) : OWX Y (q.out σ f) n b c r ↔ RWX (fun k fs h => Y k fs σ h) q fun v h => OWX Y (f v h) n b c r := by cases q <;> rfl
theorem ofV_T (f : Sl → AH → Res AV) {Q : Bool → AH → Prop} : RWX X ((ofV f).2 σ h) Q ↔ RWX X (f σ h) fun v h1 => ∃ b, truth v h1 = some b ∧ Q b h1 := by
  simp only [ofV, RW_bind]
  cases f σ h with
  | ok v h1 => simp only [RW_ok]; cases truth v h1 <;> simp
  | ex => rfl
  | no => rfl
@[simp] theorem putT_nm (i : Nat) (v : AV) (σ : Sl) : putT (.nm i) v σ = if i < σ.length then some (σ.set i (some v)) else none := by simp only [putT]
@[simp] theorem putT_tup (ts : List Tg) (xs : List AV) (σ : Sl) : putT (.tup ts) (.tup xs) σ = putTs ts xs σ := by simp only [putT]
@[simp] theorem putTs_nil (σ : Sl) : putTs [] [] σ = some σ := by simp only [putTs]
@[simp] theorem putTs_cons (t : Tg) (ts : List Tg) (x : AV) (xs : List AV) (σ : Sl) : putTs (t :: ts) (x :: xs) σ = (putT t x σ).bind fun σ' => putTs ts xs σ' := by simp only [putTs]
/-! ### values -/
@[simp] theorem W_var (i : Nat) : RWX X ((evP g x (.var i)).1 σ h) Q ↔ ∃ v, σ[i]? = some (some v) ∧ Q v h := by
  simp only [evP, ofV, getS]; rcases σ[i]? with _ | _ | v <;> simp
@[simp] theorem W_cst (v : AV) : RWX X ((evP g x (.cst v)).1 σ h) Q ↔ Q v h := Iff.rfl
@[simp] theorem W_bin (op) (a b : E) : RWX X ((evP g x (.bin op a b)).1 σ h) Q ↔ RWX X ((evP g x a).1 σ h) fun v h1 => RWX X ((evP g x b).1 σ h1) fun w h2 => RWX X (binOp op v w h2) Q := by simp only [evP, ofV, RW_bind]
@[simp] theorem W_neg (a : E) : RWX X ((evP g x (.neg a)).1 σ h) Q ↔ RWX X ((evP g x a).1 σ h) fun v h1 => ∃ i, v = .int i ∧ Q (.int (-i)) h1 := by
  simp only [evP, ofV, RW_bind]
  cases (evP g x a).1 σ h with
  | ok v h1 => cases v <;> simp
  | _ => rfl
@[simp] theorem W_cmp (op) (a b : E) : RWX X ((evP g x (.cmp op a b)).1 σ h) Q ↔ RWX X ((evP g x a).1 σ h) fun v h1 => RWX X ((evP g x b).1 σ h1) fun w h2 => RWX X (cmpOp op v w h2) Q := by simp only [evP, ofV, RW_bind]
theorem chain_bl (op') (v : AV) (q : AV) (k : Sl → AH → Res AV) (h3 : AH) : RWX X (match q with | .bl true => (k σ h3).bind fun w h4 => cmpOp op' v w h4 | .bl false => .ok (.bl false) h3 | _ => .no) Q ↔ (q = .bl true ∧ RWX X (k σ h3) fun w h4 => RWX X (cmpOp op' v w h4) Q) ∨ (q = .bl false ∧ Q (.bl false) h3) := by
  cases q with
  | bl b => cases b <;> simp
  | _ => simp
@[simp] theorem W_chain (op op') (a b d : E) : RWX X ((evP g x (.chain op op' a b d)).1 σ h) Q ↔ RWX X ((evP g x a).1 σ h) fun u h1 => RWX X ((evP g x b).1 σ h1) fun v h2 => RWX X (cmpOp op u v h2) fun q h3 => (q = .bl true ∧ RWX X ((evP g x d).1 σ h3) fun w h4 => RWX X (cmpOp op' v w h4) Q) ∨ (q = .bl false ∧ Q (.bl false) h3) := by
  simp only [evP, ofV, RW_bind]
  constructor
  · intro p
    refine p.mono fun u h1 p => p.mono fun v h2 p => p.mono fun q h3 p => ?_
    exact (chain_bl op' v q _ h3).1 p
  · intro p
    refine p.mono fun u h1 p => p.mono fun v h2 p => p.mono fun q h3 p => ?_
    exact (chain_bl op' v q _ h3).2 p
@[simp] theorem W_isN (y) (a : E) : RWX X ((evP g x (.isN y a)).1 σ h) Q ↔ RWX X ((evP g x a).1 σ h) fun v h1 => Q (.bl (if y then decide (v = .non) else !decide (v = .non))) h1 := by simp only [evP, ofV, RW_bind, RW_ok]
@[simp] theorem W_and (a d : E) : RWX X ((evP g x (.and a d)).1 σ h) Q ↔ RWX X ((evP g x a).1 σ h) fun v h1 => (v = .bl true ∧ RWX X ((evP g x d).1 σ h1) Q) ∨ (v = .bl false ∧ Q (.bl false) h1) := by
  simp only [evP, RW_bind]
  cases (evP g x a).1 σ h with
  | ok v h1 =>
    simp only [RW_ok]
    cases v with
    | bl b => cases b <;> simp
    | _ => simp
  | _ => rfl
@[simp] theorem T_and (a d : E) {Q : Bool → AH → Prop} : RWX X ((evP g x (.and a d)).2 σ h) Q ↔ RWX X ((evP g x a).2 σ h) fun v h1 => if v then RWX X ((evP g x d).2 σ h1) Q else Q false h1 := by simp only [evP, RW_bind, RW_ite, RW_ok]
@[simp] theorem W_or (a d : E) : RWX X ((evP g x (.or a d)).1 σ h) Q ↔ RWX X ((evP g x a).1 σ h) fun v h1 => (v = .bl true ∧ Q (.bl true) h1) ∨ (v = .bl false ∧ RWX X ((evP g x d).1 σ h1) Q) := by
  simp only [evP, RW_bind]
  cases (evP g x a).1 σ h with
  | ok v h1 =>
    simp only [RW_ok]
    cases v with
    | bl b => cases b <;> simp
    | _ => simp
  | _ => rfl
@[simp] theorem T_or (a d : E) {Q : Bool → AH → Prop} : RWX X ((evP g x (.or a d)).2 σ h) Q ↔ RWX X ((evP g x a).2 σ h) fun v h1 => if v then Q true h1 else RWX X ((evP g x d).2 σ h1) Q := by simp only [evP, RW_bind, RW_ite, RW_ok]
@[simp] theorem W_not (a : E) : RWX X ((evP g x (.not a)).1 σ h) Q ↔ RWX X ((evP g x a).1 σ h) fun v h1 => ∃ b, v = .bl b ∧ Q (.bl (!b)) h1 := by
  simp only [evP, RW_bind]
  cases (evP g x a).1 σ h with
  | ok v h1 =>
    cases v with
    | bl b => cases b <;> simp
    | _ => simp
  | _ => rfl
@[simp] theorem T_not (a : E) {Q : Bool → AH → Prop} : RWX X ((evP g x (.not a)).2 σ h) Q ↔ RWX X ((evP g x a).2 σ h) fun v h1 => Q (!v) h1 := by simp only [evP, RW_bind, RW_ok]
@[simp] theorem W_eite (t a d : E) : RWX X ((evP g x (.ite t a d)).1 σ h) Q ↔ RWX X ((evP g x t).2 σ h) fun v h1 => if v then RWX X ((evP g x a).1 σ h1) Q else RWX X ((evP g x d).1 σ h1) Q := by simp only [evP, RW_bind, RW_ite]
@[simp] theorem W_idx (a i : E) : RWX X ((evP g x (.idx a i)).1 σ h) Q ↔ RWX X ((evP g x a).1 σ h) fun v h1 => RWX X ((evP g x i).1 σ h1) fun w h2 => RWX X (idxOp v w h2) Q := by simp only [evP, ofV, RW_bind]
@[simp] theorem W_slc (a : E) (lo hi) : RWX X ((evP g x (.slc a lo hi)).1 σ h) Q ↔ RWX X ((evP g x a).1 σ h) fun v h1 => RWX X (evO g x lo σ h1) fun l h2 => RWX X (evO g x hi σ h2) fun u h3 => RWX X (slcOp v l u h3) Q := by simp only [evP, ofV, RW_bind]
@[simp] theorem W_O_none {Q : Option Int → AH → Prop} : RWX X (evO g x none σ h) Q ↔ Q none h := Iff.rfl
@[simp] theorem W_O_some (e : E) {Q : Option Int → AH → Prop} : RWX X (evO g x (some e) σ h) Q ↔ RWX X ((evP g x e).1 σ h) fun v h1 => ∃ i, v = .int i ∧ Q (some i) h1 := by
  simp only [evO, RW_bind]
  cases (evP g x e).1 σ h with
  | ok v h1 => cases v <;> simp [oInt]
  | _ => rfl
@[simp] theorem W_fld (a : E) (f) : RWX X ((evP g x (.fld a f)).1 σ h) Q ↔ RWX X ((evP g x a).1 σ h) fun v h1 => RWX X (fldOp g.atr v f h1) Q := by simp only [evP, ofV, RW_bind]
@[simp] theorem W_call (f) (es : List E) : RWX X ((evP g x (.call f es)).1 σ h) Q ↔ RWX X (evs g x es σ h) fun vs h1 => RWX X (g.fn f vs h1) Q := by simp only [evP, ofV, RW_bind]
@[simp] theorem W_mk (k f) (es : List E) : RWX X ((evP g x (.mk k f es)).1 σ h) Q ↔ RWX X (evs g x es σ h) fun vs h1 => RWX X (g.fn f (.loc h1.length :: vs) (h1 ++ [.ins k []])) fun v h2 => v = .non ∧ Q (.loc h1.length) h2 := by
  simp only [evP, ofV, RW_bind, RW_ite, RW_ok, RW_no, if_false_right]
@[simp] theorem W_meth (k m f) (o : E) (es : List E) : RWX X ((evP g x (.meth k m f o es)).1 σ h) Q ↔ RWX X ((evP g x o).1 σ h) fun v h1 => isIns k m v h1 = true ∧ RWX X (evs g x es σ h1) fun vs h2 => RWX X (g.fn f (v :: vs) h2) Q := by
  simp only [evP, ofV, RW_bind, RW_ite, RW_no, if_false_right]
@[simp] theorem W_pr (p) (es : List E) : RWX X ((evP g x (.pr p es)).1 σ h) Q ↔ RWX X (evs g x es σ h) fun vs h1 => RWX X (prOp p vs h1) Q := by simp only [evP, ofV, RW_bind]
@[simp] theorem W_mt (m) (o : E) (es : List E) : RWX X ((evP g x (.mt m o es)).1 σ h) Q ↔ RWX X ((evP g x o).1 σ h) fun v h1 => mtTy m v h1 = true ∧ RWX X (evs g x es σ h1) fun vs h2 => RWX X (mtOp m v vs h2) Q := by
  simp only [evP, ofV, RW_bind, RW_ite, RW_no, if_false_right]
@[simp] theorem W_isi (a : E) (ts) : RWX X ((evP g x (.isi a ts)).1 σ h) Q ↔ RWX X ((evP g x a).1 σ h) fun v h1 => ∃ b, isKinds v h1 ts = some b ∧ Q (.bl b) h1 := by
  simp only [evP, ofV, RW_bind]
  cases (evP g x a).1 σ h with
  | ok v h1 => simp only [RW_ok]; cases isKinds v h1 ts <;> simp
  | _ => rfl
@[simp] theorem W_tup (es : List E) : RWX X ((evP g x (.tup es)).1 σ h) Q ↔ RWX X (evs g x es σ h) fun vs h1 => vs.length ≤ sizeLine ∧ Q (.tup vs) h1 := by
  simp only [evP, ofV, RW_bind, RW_ite, RW_ok, RW_no, if_false_right]
@[simp] theorem W_lst (es : List E) : RWX X ((evP g x (.lst es)).1 σ h) Q ↔ RWX X (evs g x es σ h) fun vs h1 => vs.length ≤ sizeLine ∧ Q (.loc h1.length) (h1 ++ [.lst vs]) := by
  simp only [evP, ofV, RW_bind, RW_ite, lay, RW_ok, RW_no, if_false_right]
@[simp] theorem W_compN (own t it cs) (e : E) : RWX X ((evP g x (.comp none own t it cs e)).1 σ h) Q ↔ RWX X (evI g x it σ h) fun src h1 => RWX X (loopC src.watch (compBody t own σ (evCs g x cs) (evP g x e).1) src.items [] h1) fun vs h5 => Q (.loc h5.length) (h5 ++ [.lst vs]) := by simp only [evP, ofV, RW_bind, lay, RW_ok]
@[simp] theorem W_compS (p own t it cs) (e : E) : RWX X ((evP g x (.comp (some p) own t it cs e)).1 σ h) Q ↔ RWX X (evI g x it σ h) fun src h1 => RWX X (loopC src.watch (compBody t own σ (evCs g x cs) (evP g x e).1) src.items [] h1) fun vs h5 => RWX X (prSeq p vs h5) Q := by simp only [evP, ofV, RW_bind]
@[simp] theorem W_rngv (p) (a : E) : RWX X ((evP g x (.rngv p a)).1 σ h) Q ↔ RWX X ((evP g x a).1 σ h) fun v h1 => ∃ j, v = .int j ∧ (decide (j ≤ 16777216) && decide (-16777216 ≤ j)) = true ∧ RWX X (prSeq p (rangeL 0 j.toNat) h1) Q := by
  simp only [evP, ofV, RW_bind]
  cases (evP g x a).1 σ h with
  | ok v h1 => cases v <;> simp
  | _ => rfl
@[simp] theorem W_dcmp (own t it cs) (k e : E) : RWX X ((evP g x (.dcmp own t it cs k e)).1 σ h) Q ↔ RWX X (evI g x it σ h) fun src h1 => RWX X (loopD src.watch (dcmpBody t own σ (evCs g x cs) (evP g x k).1 (evP g x e).1) src.items [] h1) fun vs h5 => ∃ o, dictOf vs = some o ∧ Q (.loc h5.length) (h5 ++ [o]) := by
  simp only [evP, ofV, RW_bind]
  cases evI g x it σ h with
  | ok src h1 =>
    simp only [RW_ok]
    cases loopD src.watch (dcmpBody t own σ (evCs g x cs) (evP g x k).1 (evP g x e).1) src.items [] h1 with
    | ok vs h5 => simp only [RW_ok]; cases dictOf vs <;> simp [lay]
    | _ => rfl
  | _ => rfl
@[simp] theorem W_evs_nil {Q : List AV → AH → Prop} : RWX X (evs g x [] σ h) Q ↔ Q [] h := Iff.rfl
@[simp] theorem W_evs_cons (e : E) (es) {Q : List AV → AH → Prop} : RWX X (evs g x (e :: es) σ h) Q ↔ RWX X ((evP g x e).1 σ h) fun v h1 => RWX X (evs g x es σ h1) fun vs h2 => Q (v :: vs) h2 := by simp only [evs, RW_bind, RW_ok]
@[simp] theorem W_cs_nil {Q : Bool → AH → Prop} : RWX X (evCs g x [] σ h) Q ↔ Q true h := Iff.rfl
@[simp] theorem W_cs_cons (e : E) (es) {Q : Bool → AH → Prop} : RWX X (evCs g x (e :: es) σ h) Q ↔ RWX X ((evP g x e).2 σ h) fun v h1 => if v then RWX X (evCs g x es σ h1) Q else Q false h1 := by simp only [evCs, RW_bind, RW_ite, RW_ok]
@[simp] theorem W_cb (t : Tg) (own) (c : Sl → AH → Res Bool) (e : Sl → AH → Res AV) (v : AV) {Q : Option AV → AH → Prop} : RWX X (compBody t own σ c e v h) Q ↔ ∃ σ', putT t v (wipeA own σ) = some σ' ∧ RWX X (c σ' h) fun b h3 => if b then RWX X (e σ' h3) fun w h4 => Q (some w) h4 else Q none h3 := by
  unfold compBody
  cases putT t v (wipeA own σ) <;> simp
@[simp] theorem W_db (t : Tg) (own) (c : Sl → AH → Res Bool) (k e : Sl → AH → Res AV) (v : AV) {Q : Option (AV × AV) → AH → Prop} : RWX X (dcmpBody t own σ c k e v h) Q ↔ ∃ σ', putT t v (wipeA own σ) = some σ' ∧ RWX X (c σ' h) fun b h3 => if b then RWX X (k σ' h3) fun w h4 => RWX X (e σ' h4) fun u h5 => Q (some (w, u)) h5 else Q none h3 := by
  unfold dcmpBody
  cases putT t v (wipeA own σ) <;> simp
@[simp] theorem W_inr (a : E) (es : List E) : RWX X ((evP g x (.inr a es)).1 σ h) Q ↔ RWX X ((evP g x a).1 σ h) fun u h1 => RWX X (evs g x es σ h1) fun ws h2 => ∃ i j, u = .int i ∧ ws = [.int j] ∧ Q (.bl (decide (0 ≤ i ∧ i < j))) h2 := by
  simp only [evP, ofV, RW_bind]
  have key : ∀ u ws h2, RWX X (inrOp u ws h2) Q ↔ ∃ i j, u = .int i ∧ ws = [.int j] ∧ Q (.bl (decide (0 ≤ i ∧ i < j))) h2 := by
    intro u ws h2
    unfold inrOp
    split
    · simp
    · rename_i n
      simp only [RW_no, false_iff]
      rintro ⟨i, j, rfl, rfl, _⟩
      exact n i j rfl rfl
  simp only [key]
@[simp] theorem T_inr (a : E) (es : List E) {Q : Bool → AH → Prop} : RWX X ((evP g x (.inr a es)).2 σ h) Q ↔ RWX X ((evP g x (.inr a es)).1 σ h) fun v h1 => ∃ b, truth v h1 = some b ∧ Q b h1 := ofV_T _
@[simp] theorem W_dct0 : RWX X ((evP g x (.dct [] [])).1 σ h) Q ↔ Q (.loc h.length) (h ++ [.dk []]) := by simp [evP, ofV, evs, Res.bind, dctOp, lay]
@[simp] theorem W_dct1 (a d : E) : RWX X ((evP g x (.dct [a] [d])).1 σ h) Q ↔ RWX X ((evP g x a).1 σ h) fun u h1 => RWX X ((evP g x d).1 σ h1) fun w h2 => ∃ k, u.keyOf = some k ∧ Q (.loc h2.length) (h2 ++ [.dk [(k, w)]]) := by
  have := congrFun (congrFun (dct1_eq (g := g) (x := x) (a := a) (b := d)) σ) h
  simp only [ev] at this
  rw [← this, RW_bind]
  constructor
  · intro p
    refine p.mono fun u h1 p => ?_
    rw [RW_bind] at p
    refine p.mono fun w h2 p => ?_
    simp only [dctOp] at p
    cases e : u.keyOf with
    | none => rw [e] at p; exact p.elim
    | some k => rw [e] at p; exact ⟨k, rfl, p⟩
  · intro p
    refine p.mono fun u h1 p => ?_
    rw [RW_bind]
    refine p.mono fun w h2 p => ?_
    obtain ⟨k, e, p⟩ := p
    simp only [dctOp, e]
    exact p
/-! ### truth of what is no and, or, not -/
@[simp] theorem T_var (i) {Q : Bool → AH → Prop} : RWX X ((evP g x (.var i)).2 σ h) Q ↔ RWX X ((evP g x (.var i)).1 σ h) fun v h1 => ∃ b, truth v h1 = some b ∧ Q b h1 := ofV_T _
@[simp] theorem T_cmp (op) (a b : E) {Q : Bool → AH → Prop} : RWX X ((evP g x (.cmp op a b)).2 σ h) Q ↔ RWX X ((evP g x (.cmp op a b)).1 σ h) fun v h1 => ∃ b, truth v h1 = some b ∧ Q b h1 := ofV_T _
@[simp] theorem T_chain (op op') (a b d : E) {Q : Bool → AH → Prop} : RWX X ((evP g x (.chain op op' a b d)).2 σ h) Q ↔ RWX X ((evP g x (.chain op op' a b d)).1 σ h) fun v h1 => ∃ b, truth v h1 = some b ∧ Q b h1 := ofV_T _
@[simp] theorem T_isN (y) (a : E) {Q : Bool → AH → Prop} : RWX X ((evP g x (.isN y a)).2 σ h) Q ↔ RWX X ((evP g x (.isN y a)).1 σ h) fun v h1 => ∃ b, truth v h1 = some b ∧ Q b h1 := ofV_T _
@[simp] theorem T_call (f) (es : List E) {Q : Bool → AH → Prop} : RWX X ((evP g x (.call f es)).2 σ h) Q ↔ RWX X ((evP g x (.call f es)).1 σ h) fun v h1 => ∃ b, truth v h1 = some b ∧ Q b h1 := ofV_T _
@[simp] theorem T_idx (a i : E) {Q : Bool → AH → Prop} : RWX X ((evP g x (.idx a i)).2 σ h) Q ↔ RWX X ((evP g x (.idx a i)).1 σ h) fun v h1 => ∃ b, truth v h1 = some b ∧ Q b h1 := ofV_T _
@[simp] theorem T_isi (a : E) (ts) {Q : Bool → AH → Prop} : RWX X ((evP g x (.isi a ts)).2 σ h) Q ↔ RWX X ((evP g x (.isi a ts)).1 σ h) fun v h1 => ∃ b, truth v h1 = some b ∧ Q b h1 := ofV_T _
@[simp] theorem T_pr (p) (es : List E) {Q : Bool → AH → Prop} : RWX X ((evP g x (.pr p es)).2 σ h) Q ↔ RWX X ((evP g x (.pr p es)).1 σ h) fun v h1 => ∃ b, truth v h1 = some b ∧ Q b h1 := ofV_T _
@[simp] theorem T_comp (p own t it cs) (e : E) {Q : Bool → AH → Prop} : RWX X ((evP g x (.comp p own t it cs e)).2 σ h) Q ↔ RWX X ((evP g x (.comp p own t it cs e)).1 σ h) fun v h1 => ∃ b, truth v h1 = some b ∧ Q b h1 := ofV_T _
@[simp] theorem T_bin (op) (a b : E) {Q : Bool → AH → Prop} : RWX X ((evP g x (.bin op a b)).2 σ h) Q ↔ RWX X ((evP g x (.bin op a b)).1 σ h) fun v h1 => ∃ b, truth v h1 = some b ∧ Q b h1 := ofV_T _
@[simp] theorem T_cst (v : AV) {Q : Bool → AH → Prop} : RWX X ((evP g x (.cst v)).2 σ h) Q ↔ ∃ b, truth v h = some b ∧ Q b h := ofV_T _
/-! ### what is walked -/
@[simp] theorem I_seq (e : E) {Q : Src → AH → Prop} : RWX X (evI g x (.seq e) σ h) Q ↔ RWX X ((evP g x e).1 σ h) fun v h1 => ∃ s, srcOf v h1 = some s ∧ Q s h1 := by
  simp only [evI, RW_bind]
  cases (evP g x e).1 σ h with
  | ok v h1 => simp only [RW_ok]; cases srcOf v h1 <;> simp
  | _ => rfl
@[simp] theorem I_rng (e : E) {Q : Src → AH → Prop} : RWX X (evI g x (.rng e) σ h) Q ↔ RWX X ((evP g x e).1 σ h) fun v h1 => ∃ j, v = .int j ∧ smallR j = true ∧ Q ⟨rangeL 0 j.toNat, []⟩ h1 := by
  simp only [evI, RW_bind]
  cases (evP g x e).1 σ h with
  | ok v h1 => cases v <;> simp
  | _ => rfl
@[simp] theorem I_enum (e : E) {Q : Src → AH → Prop} : RWX X (evI g x (.enum e) σ h) Q ↔ RWX X ((evP g x e).1 σ h) fun v h1 => isRef v = true ∧ ∃ s, srcOf v h1 = some s ∧ Q ⟨enumL s.items, s.watch⟩ h1 := by
  simp only [evI, RW_bind]
  cases (evP g x e).1 σ h with
  | ok v h1 =>
    simp only [RW_ok]
    by_cases k : isRef v = true
    · simp only [k, if_true, true_and]; cases srcOf v h1 <;> simp
    · simp [k]
  | _ => rfl
@[simp] theorem I_zip (e d : E) {Q : Src → AH → Prop} : RWX X (evI g x (.zip e d) σ h) Q ↔ RWX X ((evP g x e).1 σ h) fun v h1 => RWX X ((evP g x d).1 σ h1) fun w h2 => (isRef v && isRef w) = true ∧ ∃ s t, srcOf v h2 = some s ∧ srcOf w h2 = some t ∧ Q ⟨zipL s.items t.items, s.watch ++ t.watch⟩ h2 := by
  simp only [evI, RW_bind]
  constructor
  · intro p
    refine p.mono fun v h1 p => p.mono fun w h2 p => ?_
    by_cases k : (isRef v && isRef w) = true
    · simp only [k, if_true, true_and] at p ⊢
      revert p
      cases srcOf v h2 <;> cases srcOf w h2 <;> simp
    · simp [k] at p
  · intro p
    refine p.mono fun v h1 p => p.mono fun w h2 p => ?_
    obtain ⟨k, s, t, e1, e2, p⟩ := p
    simp only [k, if_true, e1, e2]
    exact p
@[simp] theorem I_enz (e d : E) {Q : Src → AH → Prop} : RWX X (evI g x (.enz e d) σ h) Q ↔ RWX X ((evP g x e).1 σ h) fun v h1 => RWX X ((evP g x d).1 σ h1) fun w h2 => (isRef v && isRef w) = true ∧ ∃ s t, srcOf v h2 = some s ∧ srcOf w h2 = some t ∧ s.items.length = t.items.length ∧ Q ⟨enumL (zipL s.items t.items), s.watch ++ t.watch⟩ h2 := by
  simp only [evI, RW_bind]
  constructor
  · intro p
    refine p.mono fun v h1 p => p.mono fun w h2 p => ?_
    by_cases k : (isRef v && isRef w) = true
    · simp only [k, if_true, true_and] at p ⊢
      revert p
      cases srcOf v h2 with
      | none => simp
      | some s => cases srcOf w h2 with
        | none => simp
        | some t =>
          simp only [Option.some.injEq]
          split
          · next q => exact fun p => ⟨s, t, rfl, rfl, q, p⟩
          · exact False.elim
    · simp [k] at p
  · intro p
    refine p.mono fun v h1 p => p.mono fun w h2 p => ?_
    obtain ⟨k, s, t, e1, e2, q, p⟩ := p
    simp only [k, if_true, e1, e2, q]
    exact p
/-! ### statements -/
@[simp] theorem B_nil : OWX Y (exB g x [] σ h) n b c r ↔ n σ h := Iff.rfl
@[simp] theorem B_cons (s : S) (t : List S) : OWX Y (exB g x (s :: t) σ h) n b c r ↔ OWX Y (exS g x s σ h) (fun σ h => OWX Y (exB g x t σ h) n b c r) b c r := by
  simp only [exB]
  cases exS g x s σ h <;> rfl
@[simp] theorem S_expr (e : E) : OWX Y (exS g x (.expr e) σ h) n b c r ↔ RWX (fun k fs h => Y k fs σ h) ((evP g x e).1 σ h) fun _ h1 => n σ h1 := by simp only [exS, ev, evT, OW_out, OW_nx]
@[simp] theorem S_set (t) (e : E) : OWX Y (exS g x (.set t e) σ h) n b c r ↔ RWX (fun k fs h => Y k fs σ h) ((evP g x e).1 σ h) fun v h1 => ∃ σ', putT t v σ = some σ' ∧ n σ' h1 := by
  simp only [exS, ev, evT, OW_out]
  cases (evP g x e).1 σ h with
  | ok v h1 => simp only [RW_ok]; cases putT t v σ <;> simp
  | _ => rfl
@[simp] theorem rowOf_tup (xs : List AV) (h : AH) : rowOf (.tup xs) h = some xs := rfl
@[simp] theorem S_setu (ts) (e : E) : OWX Y (exS g x (.setu ts e) σ h) n b c r ↔ RWX (fun k fs h => Y k fs σ h) ((evP g x e).1 σ h) fun v h1 => ∃ vs, rowOf v h1 = some vs ∧ ∃ σ', putTs ts vs σ = some σ' ∧ n σ' h1 := by
  simp only [exS, ev, evT, OW_out]
  cases (evP g x e).1 σ h with
  | ok v h1 =>
    simp only [RW_ok]
    cases rowOf v h1 with
    | none => simp
    | some vs => simp only [Option.some.injEq, exists_eq_left']; cases putTs ts vs σ <;> simp
  | _ => rfl
@[simp] theorem S_set2 (t u) (e : E) : OWX Y (exS g x (.set2 t u e) σ h) n b c r ↔ RWX (fun k fs h => Y k fs σ h) ((evP g x e).1 σ h) fun v h1 => ∃ σ', (putT t v σ).bind (fun σ' => putT u v σ') = some σ' ∧ n σ' h1 := by
  simp only [exS, ev, evT, OW_out]
  cases (evP g x e).1 σ h with
  | ok v h1 => simp only [RW_ok]; cases (putT t v σ).bind (fun σ' => putT u v σ') <;> simp
  | _ => rfl
@[simp] theorem S_par (i j) (a d : E) : OWX Y (exS g x (.par i j a d) σ h) n b c r ↔ RWX (fun k fs h => Y k fs σ h) ((evP g x a).1 σ h) fun v h1 => RWX (fun k fs h => Y k fs σ h) ((evP g x d).1 σ h1) fun w h2 => (i < σ.length ∧ j < σ.length) ∧ n ((σ.set i (some v)).set j (some w)) h2 := by
  simp only [exS, ev, evT, OW_out, OW_ite, OW_nx, OW_no, if_false_right]
@[simp] theorem S_par3 (i j l) (a d e : E) : OWX Y (exS g x (.par3 i j l a d e) σ h) n b c r ↔ RWX (fun k fs h => Y k fs σ h) ((evP g x a).1 σ h) fun v h1 => RWX (fun k fs h => Y k fs σ h) ((evP g x d).1 σ h1) fun w h2 => RWX (fun k fs h => Y k fs σ h) ((evP g x e).1 σ h2) fun u h3 => (i < σ.length ∧ j < σ.length ∧ l < σ.length) ∧ n (((σ.set i (some v)).set j (some w)).set l (some u)) h3 := by
  simp only [exS, ev, evT, OW_out, OW_ite, OW_nx, OW_no, if_false_right]
@[simp] theorem S_put (o i e : E) : OWX Y (exS g x (.put o i e) σ h) n b c r ↔ RWX (fun k fs h => Y k fs σ h) ((evP g x e).1 σ h) fun v h1 => RWX (fun k fs h => Y k fs σ h) ((evP g x o).1 σ h1) fun u h2 => RWX (fun k fs h => Y k fs σ h) ((evP g x i).1 σ h2) fun w h3 => ∃ h4, putOp u w v h3 = some h4 ∧ n σ h4 := by
  simp only [exS, ev, evT, OW_out]
  constructor
  · intro p
    refine p.mono fun v h1 p => p.mono fun u h2 p => p.mono fun w h3 p => ?_
    revert p
    cases putOp u w v h3 <;> simp
  · intro p
    refine p.mono fun v h1 p => p.mono fun u h2 p => p.mono fun w h3 p => ?_
    obtain ⟨h4, e1, p⟩ := p
    simp only [e1]
    exact p
@[simp] theorem S_fld (o : E) (f) (e : E) : OWX Y (exS g x (.fld o f e) σ h) n b c r ↔ RWX (fun k fs h => Y k fs σ h) ((evP g x e).1 σ h) fun v h1 => RWX (fun k fs h => Y k fs σ h) ((evP g x o).1 σ h1) fun u h2 => ∃ m k fs, u = .loc m ∧ h2[m]? = some (.ins k fs) ∧ (g.atr k f = true ∧ fs.length < 1000 ∧ fs.lookup f = none) ∧ n σ (h2.set m (.ins k (fs ++ [(f, v)]))) := by
  simp only [exS, ev, evT, OW_out]
  constructor
  · intro p
    refine p.mono fun v h1 p => p.mono fun u h2 p => ?_
    revert p
    cases u with
    | loc m =>
      dsimp only
      cases e1 : h2[m]? with
      | none => simp
      | some o =>
        cases o with
        | ins k fs =>
          simp only [OW_ite, OW_nx, OW_no, if_false_right]
          intro p
          exact ⟨m, k, fs, rfl, e1, p⟩
        | _ => simp
    | _ => simp
  · intro p
    refine p.mono fun v h1 p => p.mono fun u h2 p => ?_
    obtain ⟨m, k, fs, e0, e1, e2, p⟩ := p
    subst e0
    simp only [e1, OW_ite, OW_nx, OW_no, if_false_right]
    exact ⟨e2, p⟩
@[simp] theorem S_aug (i op) (e : E) : OWX Y (exS g x (.aug i op e) σ h) n b c r ↔ ∃ a, σ[i]? = some (some (.int a)) ∧ RWX (fun k fs h => Y k fs σ h) ((evP g x e).1 σ h) fun w h1 => ∃ d, augV op a w = some d ∧ n (σ.set i (some (.int d))) h1 := by
  simp only [exS, ev, evT]
  rcases σ[i]? with _ | _ | v
  · simp
  · simp
  · cases v with
    | int a =>
      simp only [OW_out, Option.some.injEq, AV.int.injEq, exists_eq_left']
      cases (evP g x e).1 σ h with
      | ok w h1 => simp only [RW_ok]; cases augV op a w <;> simp
      | _ => rfl
    | _ => simp
@[simp] theorem S_ret (e : E) : OWX Y (exS g x (.ret e) σ h) n b c r ↔ RWX (fun k fs h => Y k fs σ h) ((evP g x e).1 σ h) r := by simp only [exS, ev, evT, OW_out, OW_rt]
@[simp] theorem S_ite (t : E) (a d : List S) : OWX Y (exS g x (.ite t a d) σ h) n b c r ↔ RWX (fun k fs h => Y k fs σ h) ((evP g x t).2 σ h) fun v h1 => if v then OWX Y (exB g x a σ h1) n b c r else OWX Y (exB g x d σ h1) n b c r := by
  simp only [exS, ev, evT]
  cases (evP g x t).2 σ h with
  | ok v h1 => simp only [OW_ite, RW_ok]
  | _ => rfl
@[irreducible] def forB (g : G) (x : Cur) (t : Tg) (b : List S) (v : AV) (σ : Sl) (h : AH) : Out := match putT t v σ with
  | some σ2 => exB g x b σ2 h
  | none => .no
@[simp] theorem S_for (t it) (d : List S) : OWX Y (exS g x (.for_ t it d) σ h) n b c r ↔ RWX (fun k fs h => Y k fs σ h) (evI g x it σ h) fun src h1 => OWX Y (loopS src.watch (forB g x t d) src.items σ h1) n b c r := by
  simp only [exS, ev, evT]
  cases evI g x it σ h with
  | ok v h1 =>
    simp only [RW_ok]
    unfold forB
    rfl
  | _ => rfl
@[simp] theorem W_forB (t : Tg) (d : List S) (v : AV) : OWX Y (forB g x t d v σ h) n b c r ↔ ∃ σ', putT t v σ = some σ' ∧ OWX Y (exB g x d σ' h) n b c r := by
  unfold forB
  cases putT t v σ <;> simp
@[simp] theorem S_brk : OWX Y (exS g x .brk σ h) n b c r ↔ b σ h := by simp only [exS, OW_bk]
@[simp] theorem S_ctn : OWX Y (exS g x .ctn σ h) n b c r ↔ c σ h := by simp only [exS, OW_ct]
@[simp] theorem S_pass : OWX Y (exS g x .pass σ h) n b c r ↔ n σ h := by simp only [exS, OW_nx]
@[simp] theorem S_nev : OWX Y (exS g x .nev σ h) n b c r ↔ False := by simp only [exS, OW_no]
@[simp] theorem W_xfld (f) (k) (fs : List (Str × AV)) {Q : AV → AH → Prop} : RWX X ((evP g (some (k, fs)) (.xfld f)).1 σ h) Q ↔ g.xat k f = true ∧ ∃ w, fs.lookup f = some w ∧ Q w h := by
  simp only [evP, ofV]
  by_cases e : g.xat k f = true
  · simp only [e, if_true, true_and]; cases fs.lookup f <;> simp
  · simp [e]
@[simp] theorem S_rse (k f) (e : E) : OWX Y (exS g x (.rse k (some f) e) σ h) n b c r ↔ RWX (fun k fs h => Y k fs σ h) ((evP g x e).1 σ h) fun v h1 => Y k [(f, v)] σ h1 := by
  simp only [exS, ev]
  cases (evP g x e).1 σ h <;> rfl
@[simp] theorem S_try (d : List S) (hs : List Hd) : OWX Y (exS g x (.try_ d hs) σ h) n b c r ↔ OWX (fun k fs σ1 h1 => OWX Y (exH g hs k fs σ1 h1) n b c r) (exB g x d σ h) n b c r := by
  simp only [exS]
  cases exB g x d σ h <;> rfl
@[simp] theorem H_nil (k fs) : OWX Y (exH g [] k fs σ h) n b c r ↔ Y k fs σ h := by simp only [exH]; rfl
theorem H_cons (k fs) (d i) (s : List S) (t : List Hd) : OWX Y (exH g (.mk d i s :: t) k fs σ h) n b c r ↔ (g.sub k k = true ∧ g.sub d d = true ∧ inO i σ = true) ∧ if g.sub k d = true then OW (exB g (some (k, fs)) s (unO i σ) h) (fun σ h => n (unO i σ) h) (fun σ h => b (unO i σ) h) (fun σ h => c (unO i σ) h) r else OWX Y (exH g t k fs σ h) n b c r := by
  simp only [exH]
  by_cases e : (g.sub k k && g.sub d d && inO i σ) = true
  · rw [if_pos e]
    simp only [Bool.and_eq_true] at e
    simp only [e, and_self, true_and]
    split
    · cases exB g (some (k, fs)) s (unO i σ) h <;> rfl
    · rfl
  · rw [if_neg e]
    simp only [Bool.and_eq_true] at e
    constructor
    · exact False.elim
    · rintro ⟨⟨h1, h2, h3⟩, _⟩
      exact e ⟨⟨h1, h2⟩, h3⟩
theorem run_WX (d : Df) (vs : List AV) : RWX X (d.run g vs h) Q ↔ vs.length = d.pars ∧ OWX (fun k fs _ h => X k fs h) (exB g none d.body (vs.map some ++ List.replicate (d.slots - vs.length) none) h) (fun _ h1 => Q .non h1) (fun _ _ => False) (fun _ _ => False) Q := by
  unfold Df.run
  rw [RW_ite]
  simp only [RW_no, if_false_right]
  refine and_congr_right fun _ => ?_
  cases exB g none d.body (vs.map some ++ List.replicate (d.slots - vs.length) none) h <;> rfl
theorem run_W (d : Df) (vs : List AV) : RW (d.run g vs h) Q ↔ vs.length = d.pars ∧ OW (exB g none d.body (vs.map some ++ List.replicate (d.slots - vs.length) none) h) (fun _ h1 => Q .non h1) (fun _ _ => False) (fun _ _ => False) Q := run_WX d vs
/-! ### loops -/
theorem loopS_W {w body} (I : List AV → Sl → AH → Prop) (hs : ∀ xs σ h, I xs σ h → still w h = true)
    (hi : ∀ y xs σ h, I (y :: xs) σ h → OWX Y (body y σ h) (I xs) n (I xs) r) (hn : ∀ σ h, I [] σ h → n σ h) (xs : List AV) :
    ∀ (σ : Sl) (h : AH), I xs σ h → OWX Y (loopS w body xs σ h) n b c r := by
  induction xs with
  | nil =>
    intro σ h p
    simp only [loopS, hs _ _ _ p, if_true]
    exact hn σ h p
  | cons y xs ih =>
    intro σ h p
    simp only [loopS, hs _ _ _ p, if_true]
    have q := hi y xs σ h p
    revert q
    cases body y σ h with
    | nx σ' h' => exact ih σ' h'
    | ct σ' h' => exact ih σ' h'
    | bk σ' h' => exact id
    | rt v h' => exact id
    | ex => exact id
    | no => exact id
theorem loopC_W {w body} (I : List AV → List AV → AH → Prop) (hs : ∀ xs acc h, I xs acc h → still w h = true)
    (hi : ∀ y xs acc h, I (y :: xs) acc h → RW (body y h) fun o h' => I xs (acc ++ o.toList) h' ∧ (o = none ∨ acc.length < sizeLine)) {Q : List AV → AH → Prop} (hn : ∀ acc h, I [] acc h → Q acc h) (xs : List AV) :
    ∀ (acc : List AV) (h : AH), I xs acc h → RWX X (loopC w body xs acc h) Q := by
  induction xs with
  | nil =>
    intro acc h p
    simp only [loopC, hs _ _ _ p, if_true]
    exact hn acc h p
  | cons y xs ih =>
    intro acc h p
    simp only [loopC, hs _ _ _ p, if_true]
    have q := hi y xs acc h p
    revert q
    cases body y h with
    | ok o h' =>
      cases o with
      | none => intro q; exact ih acc h' (by simpa using q.1)
      | some v =>
        intro q
        simp only [RW_ok] at q
        have l : acc.length < sizeLine := q.2.resolve_left (by simp)
        simp only [l, if_true]
        exact ih _ h' (by simpa using q.1)
    | ex => exact False.elim
    | no => exact False.elim
theorem loopD_W {w body} (I : List AV → List (AV × AV) → AH → Prop) (hs : ∀ xs acc h, I xs acc h → still w h = true)
    (hi : ∀ y xs acc h, I (y :: xs) acc h → RW (body y h) fun o h' => I xs (acc ++ o.toList) h' ∧ (o = none ∨ acc.length < sizeLine)) {Q : List (AV × AV) → AH → Prop} (hn : ∀ acc h, I [] acc h → Q acc h) (xs : List AV) :
    ∀ (acc : List (AV × AV)) (h : AH), I xs acc h → RWX X (loopD w body xs acc h) Q := by
  induction xs with
  | nil =>
    intro acc h p
    simp only [loopD, hs _ _ _ p, if_true]
    exact hn acc h p
  | cons y xs ih =>
    intro acc h p
    simp only [loopD, hs _ _ _ p, if_true]
    have q := hi y xs acc h p
    revert q
    cases body y h with
    | ok o h' =>
      cases o with
      | none => intro q; exact ih acc h' (by simpa using q.1)
      | some v =>
        intro q
        simp only [RW_ok] at q
        have l : acc.length < sizeLine := q.2.resolve_left (by simp)
        simp only [l, if_true]
        exact ih _ h' (by simpa using q.1)
    | ex => exact False.elim
    | no => exact False.elim
end
end Ev

set_option Elab.async false
set_option linter.all false
set_option maxRecDepth 100000
set_option maxHeartbeats 8000000
/-! What stays of the places; numbers and texts as values. -/
namespace Ev
open PySem L2
variable {X : XQ} {Y : YQ}
/-- all places stay -/
structure Ke (h h' : AH) : Prop where
  le : h.length ≤ h'.length
  st : ∀ m, m < h.length → h'[m]? = h[m]?
/-- all places but n stay -/
structure Kp (n : Nat) (h h' : AH) : Prop where
  le : h.length ≤ h'.length
  st : ∀ m, m < h.length → m ≠ n → h'[m]? = h[m]?
theorem lt_of_get {α} {h : List α} {m : Nat} {o : α} (e : h[m]? = some o) : m < h.length := (List.getElem?_eq_some_iff.mp e).1
@[simp] theorem Ke.refl {h : AH} : Ke h h := ⟨Nat.le_refl _, fun _ _ => rfl⟩
theorem Ke.trans {a b c : AH} (p : Ke a b) (q : Ke b c) : Ke a c := ⟨Nat.le_trans p.le q.le, fun m l => by rw [q.st m (Nat.lt_of_lt_of_le l p.le), p.st m l]⟩
theorem Ke.push {a b : AH} (p : Ke a b) (o : AO) : Ke a (b ++ [o]) := ⟨by simp; have := p.le; omega, fun m l => by rw [List.getElem?_append_left (Nat.lt_of_lt_of_le l p.le), p.st m l]⟩
theorem Ke.set {a b : AH} (p : Ke a b) {k : Nat} (l : a.length ≤ k) (o : AO) : Ke a (b.set k o) := ⟨by simp; exact p.le, fun m lm => by rw [List.getElem?_set_ne (by omega), p.st m lm]⟩
theorem Ke.get {a b : AH} (p : Ke a b) {m : Nat} {o : AO} (e : a[m]? = some o) : b[m]? = some o := by rw [p.st m (lt_of_get e), e]
theorem Ke.kp {a b : AH} (p : Ke a b) (n : Nat) : Kp n a b := ⟨p.le, fun m l _ => p.st m l⟩
@[simp] theorem Kp.refl {n : Nat} {h : AH} : Kp n h h := Ke.refl.kp n
theorem Kp.trans {n : Nat} {a b c : AH} (p : Kp n a b) (q : Kp n b c) : Kp n a c := ⟨Nat.le_trans p.le q.le, fun m l e => by rw [q.st m (Nat.lt_of_lt_of_le l p.le) e, p.st m l e]⟩
theorem Kp.ke {n : Nat} {a b c : AH} (p : Kp n a b) (q : Ke b c) : Kp n a c := p.trans (q.kp n)
theorem Kp.push {n : Nat} {a b : AH} (p : Kp n a b) (o : AO) : Kp n a (b ++ [o]) := p.ke (Ke.refl.push o)
theorem Kp.set {n : Nat} {a b : AH} (p : Kp n a b) {k : Nat} (l : a.length ≤ k ∨ k = n) (o : AO) : Kp n a (b.set k o) := ⟨by simp; exact p.le, fun m lm e => by rw [List.getElem?_set_ne (by omega), p.st m lm e]⟩
theorem Kp.get {n : Nat} {a b : AH} (p : Kp n a b) {m : Nat} {o : AO} (e : a[m]? = some o) (ne : m ≠ n) : b[m]? = some o := by rw [p.st m (lt_of_get e) ne, e]
theorem get_push {h : AH} {m : Nat} {o : AO} (e : h[m]? = some o) (u : AO) : (h ++ [u])[m]? = some o := by rw [List.getElem?_append_left (lt_of_get e), e]
@[simp] theorem get_last {h : AH} (u : AO) : (h ++ [u])[h.length]? = some u := by simp
theorem get_set {h : AH} {m : Nat} {o : AO} (e : h[m]? = some o) (u : AO) : (h.set m u)[m]? = some u := List.getElem?_set_self (lt_of_get e)
theorem get_set_ne {h : AH} {m k : Nat} {o : AO} (e : h[m]? = some o) (ne : k ≠ m) (u : AO) : (h.set k u)[m]? = some o := by rw [List.getElem?_set_ne ne, e]
/-! ### numbers -/
@[simp] abbrev ni (l : List Nat) : List AV := l.map fun k => .int (k : Nat)
theorem ni_inj {a b : List Nat} (e : ni a = ni b) : a = b := by
  induction a generalizing b with
  | nil => cases b <;> simp_all
  | cons x a ih =>
    cases b with
    | nil => simp at e
    | cons y b =>
      simp only [ni, List.map_cons, List.cons.injEq, AV.int.injEq] at e
      rw [ih e.2, Int.ofNat.inj e.1]
@[simp] theorem truth_bl (b : Bool) (h : AH) : truth (.bl b) h = some b := rfl
@[simp] theorem truth_int (i : Int) (h : AH) : truth (.int i) h = some (i != 0) := rfl
@[simp] theorem truth_tup (xs) (h : AH) : truth (.tup xs) h = some (!xs.isEmpty) := rfl
theorem truth_lst {h : AH} {n : Nat} {xs} (e : h[n]? = some (.lst xs)) : truth (.loc n) h = some (!xs.isEmpty) := by simp [truth, e]
@[simp] theorem dat_int (i : Int) (h : AH) (k : Nat) : AV.dat h (k + 1) (.int i) = some (.int i) := rfl
@[simp] theorem dat_bl (i : Bool) (h : AH) (k : Nat) : AV.dat h (k + 1) (.bl i) = some (.bool i) := rfl
@[simp] theorem dat_non (h : AH) (k : Nat) : AV.dat h (k + 1) .non = some .none := rfl
theorem mapM_some' {α β : Type} (f : α → Option β) (g : α → β) (xs : List α) (e : ∀ x ∈ xs, f x = some (g x)) : xs.mapM f = some (xs.map g) := by
  induction xs with
  | nil => rfl
  | cons a xs ih =>
    rw [List.mapM_cons, e a (by simp), ih fun x hx => e x (by simp [hx])]
    rfl
@[simp] theorem dat_ni (l : List Nat) (h : AH) (k : Nat) : AV.dat h (k + 2) (.tup (ni l)) = some (.tuple (l.map fun i => .int (i : Nat))) := by
  have e : (ni l).mapM (fun x => AV.dat h (k + 1) x) = some (l.map fun i => PyData.int (i : Nat)) := by
    rw [mapM_some' (fun x => AV.dat h (k + 1) x) (fun x => match x with | .int i => PyData.int i | _ => .none) (ni l) (by intro x hx; simp only [ni, List.mem_map] at hx; obtain ⟨a, _, rfl⟩ := hx; rfl)]
    simp [ni]
  show ((ni l).mapM fun x => AV.dat h (k + 1) x).map PyData.tuple = _
  rw [e]; rfl
theorem eqv_ni : ∀ a b : List Nat, PyData.eqvAll (a.map fun i => PyData.int (i : Nat)) (b.map fun i => PyData.int (i : Nat)) = decide (a = b)
  | [], [] => rfl
  | [], _ :: _ => rfl
  | _ :: _, [] => rfl
  | x :: a, y :: b => by
    simp only [List.map_cons, PyData.eqvAll, PyData.eqv, eqv_ni a b, List.cons.injEq]
    by_cases e : x = y <;> by_cases f : a = b <;> simp [e, f] <;> omega
@[simp] theorem eqDeep_ni (a b : List Nat) (h : AH) : eqDeep (.tup (ni a)) (.tup (ni b)) h = some (decide (a = b)) := by
  simp only [eqDeep, dat_ni, PyData.eqv, eqv_ni]
@[simp] theorem eqDeep_int (i j : Int) (h : AH) : eqDeep (.int i) (.int j) h = some (decide (i = j)) := by
  simp only [eqDeep, dat_int, PyData.eqv]; congr 1
@[simp] theorem eqDeep_bl (i j : Bool) (h : AH) : eqDeep (.bl i) (.bl j) h = some (decide (i = j)) := by
  simp only [eqDeep, dat_bl, PyData.eqv]; cases i <;> cases j <;> rfl
theorem eqDeep_str {a b : Str} (x : PyData.strOk a = true) (y : PyData.strOk b = true) (h : AH) : eqDeep (.str a) (.str b) h = some (decide (a = b)) := by
  have e : ∀ s : Str, PyData.strOk s = true → AV.dat h 40 (.str s) = some (.str s) := fun s k => by simp [AV.dat, k]
  simp only [eqDeep, e a x, e b y, PyData.eqv]
  rfl
@[simp] theorem C_eq (a b : AV) (h : AH) {Q : AV → AH → Prop} : RWX X (cmpOp .Eq a b h) Q ↔ ∃ q, eqDeep a b h = some q ∧ Q (.bl q) h := by simp only [cmpOp]; cases eqDeep a b h <;> simp
@[simp] theorem C_ne (a b : AV) (h : AH) {Q : AV → AH → Prop} : RWX X (cmpOp .NotEq a b h) Q ↔ ∃ q, eqDeep a b h = some q ∧ Q (.bl (!q)) h := by simp only [cmpOp]; cases eqDeep a b h <;> simp
@[simp] theorem C_in (a b : AV) (h : AH) {Q : AV → AH → Prop} : RWX X (cmpOp .In a b h) Q ↔ ∃ q, inOp a b h = some q ∧ Q (.bl q) h := by simp only [cmpOp]; cases inOp a b h <;> simp
@[simp] theorem C_nin (a b : AV) (h : AH) {Q : AV → AH → Prop} : RWX X (cmpOp .NotIn a b h) Q ↔ ∃ q, inOp a b h = some q ∧ Q (.bl (!q)) h := by simp only [cmpOp]; cases inOp a b h <;> simp
@[simp] theorem C_lt (i j : Int) (h : AH) {Q : AV → AH → Prop} : RWX X (cmpOp .Lt (.int i) (.int j) h) Q ↔ Q (.bl (decide (i < j))) h := Iff.rfl
@[simp] theorem C_le (i j : Int) (h : AH) {Q : AV → AH → Prop} : RWX X (cmpOp .LtE (.int i) (.int j) h) Q ↔ Q (.bl (decide (i ≤ j))) h := Iff.rfl
@[simp] theorem C_gt (i j : Int) (h : AH) {Q : AV → AH → Prop} : RWX X (cmpOp .Gt (.int i) (.int j) h) Q ↔ Q (.bl (decide (j < i))) h := Iff.rfl
@[simp] theorem C_ge (i j : Int) (h : AH) {Q : AV → AH → Prop} : RWX X (cmpOp .GtE (.int i) (.int j) h) Q ↔ Q (.bl (decide (j ≤ i))) h := Iff.rfl
@[simp] theorem ints_ni (l : List Nat) : AV.ints (ni l) = some (l.map fun i : Nat => (i : Int)) := by
  induction l with
  | nil => rfl
  | cons a l ih => simp only [ni, List.map_cons, AV.ints] at *; rw [ih]; rfl
@[simp] theorem C_les (a b : List Nat) (h : AH) {Q : AV → AH → Prop} : RWX X (cmpOp .LtE (.tup (ni a)) (.tup (ni b)) h) Q ↔ Q (.bl (lexLe (a.map fun i : Nat => (i : Int)) (b.map fun i : Nat => (i : Int)))) h := by
  simp only [cmpOp, ints_ni, RW_ok]
@[simp] theorem keys_ni (l : List Nat) : (ni l).mapM AV.keyOf = some (l.map fun i : Nat => (.inl (i : Int) : Key)) := by
  rw [mapM_some' AV.keyOf (fun x => match x with | .int i => .inl i | _ => .inl 0) (ni l) (by intro x hx; simp only [ni, List.mem_map] at hx; obtain ⟨a, _, rfl⟩ := hx; rfl)]
  simp [ni]
@[simp] theorem inSeq_ni (k : Nat) (l : List Nat) (h : AH) : inSeq (.int (k : Nat)) (ni l) h = some (decide (k ∈ l)) := by
  have e : (ni l).mapM (fun x => AV.dat h 40 x) = some (l.map fun i => PyData.int (i : Nat)) := by
    rw [mapM_some' (fun x => AV.dat h 40 x) (fun x => match x with | .int i => PyData.int i | _ => .none) (ni l) (by intro x hx; simp only [ni, List.mem_map] at hx; obtain ⟨a, _, rfl⟩ := hx; rfl)]
    simp [ni]
  simp only [inSeq, e, dat_int]
  congr 1
  induction l with
  | nil => rfl
  | cons a l ih =>
    have ih := ih (by rw [mapM_some' (fun x => AV.dat h 40 x) (fun x => match x with | .int i => PyData.int i | _ => .none) (ni l) (by intro x hx; simp only [ni, List.mem_map] at hx; obtain ⟨a, _, rfl⟩ := hx; rfl)]; simp [ni])
    simp only [List.map_cons, List.any_cons, ih, PyData.eqv, List.mem_cons]
    by_cases e : k = a <;> by_cases f : k ∈ l <;> simp [e, f] <;> omega
@[simp] theorem O_add (i j : Int) (h : AH) {Q : AV → AH → Prop} : RWX X (binOp .Add (.int i) (.int j) h) Q ↔ Q (.int (i + j)) h := Iff.rfl
@[simp] theorem O_sub (i j : Int) (h : AH) {Q : AV → AH → Prop} : RWX X (binOp .Sub (.int i) (.int j) h) Q ↔ Q (.int (i - j)) h := Iff.rfl
@[simp] theorem O_mul (i j : Int) (h : AH) {Q : AV → AH → Prop} : RWX X (binOp .Mult (.int i) (.int j) h) Q ↔ fewMul i j = true ∧ Q (.int (i * j)) h := by simp only [binOp, RW_ite, RW_ok, RW_no, if_false_right]
@[simp] theorem O_mod (i j : Int) (h : AH) {Q : AV → AH → Prop} : RWX X (binOp .Mod (.int i) (.int j) h) Q ↔ j ≠ 0 ∧ Q (.int (i.fmod j)) h := by simp only [binOp, intOp, RW_ite, RW_ok, RW_no, if_false_right, decide_eq_true_eq]
@[simp] theorem O_div (i j : Int) (h : AH) {Q : AV → AH → Prop} : RWX X (binOp .FloorDiv (.int i) (.int j) h) Q ↔ divOk i j = true ∧ Q (.int (i.fdiv j)) h := by simp only [binOp, intOp, RW_ite, RW_ok, RW_no, if_false_right]
@[simp] theorem O_addt (xs ys : List AV) (h : AH) {Q : AV → AH → Prop} : RWX X (binOp .Add (.tup xs) (.tup ys) h) Q ↔ xs.length + ys.length ≤ sizeLine ∧ Q (.tup (xs ++ ys)) h := by simp only [binOp, RW_ite, RW_ok, RW_no, if_false_right]
@[simp] theorem O_adds (i j : Str) (h : AH) {Q : AV → AH → Prop} : RWX X (binOp .Add (.str i) (.str j) h) Q ↔ i.length + j.length ≤ sizeLine ∧ Q (.str (i ++ j)) h := by simp only [binOp, RW_ite, RW_ok, RW_no, if_false_right]
@[simp] theorem O_mult (xs : List AV) (k : Int) (h : AH) {Q : AV → AH → Prop} : RWX X (binOp .Mult (.tup xs) (.int k) h) Q ↔ (-1000 ≤ k ∧ k ≤ 1000 ∧ xs.length ≤ 1000) ∧ Q (.tup (List.replicate k.toNat xs).flatten) h := by simp only [binOp, RW_ite, RW_ok, RW_no, if_false_right]
@[simp] theorem O_muls (z : Str) (k : Int) (h : AH) {Q : AV → AH → Prop} : RWX X (binOp .Mult (.str z) (.int k) h) Q ↔ (-1000 ≤ k ∧ k ≤ 1000 ∧ z.length ≤ 1000) ∧ Q (.str (strRep z k.toNat)) h := by simp only [binOp, RW_ite, RW_ok, RW_no, if_false_right]
@[simp] theorem atI_nat {α : Type} (xs : List α) (k : Nat) : atI xs (k : Int) = xs[k]? := by
  unfold atI ixN
  by_cases l : (k : Int) < xs.length
  · have l' : k < xs.length := by omega
    simp [l, l']
  · have l' : ¬ k < xs.length := by omega
    simp [l, l']
    try (symm; simp; omega)
@[simp] theorem atI_0 {α : Type} (a : α) (l : List α) : atI (a :: l) 0 = some a := by
  have := atI_nat (a :: l) 0
  simpa using this
@[simp] theorem atI_1 {α : Type} (a b : α) (l : List α) : atI (a :: b :: l) 1 = some b := by
  have := atI_nat (a :: b :: l) 1
  simpa using this
@[simp] theorem atI_2 {α : Type} (a b c : α) (l : List α) : atI (a :: b :: c :: l) 2 = some c := by
  have := atI_nat (a :: b :: c :: l) 2
  simpa using this
@[simp] theorem atI_m1 {α : Type} (l : List α) (a : α) : atI (l ++ [a]) (-1) = some a := by
  simp [atI, ixN, show ((l.length : Int) + 1 + -1).toNat = l.length by omega, show -((l.length : Int) + 1) ≤ -1 by omega, show ((-1 : Int) + ((l.length : Int) + 1)).toNat = l.length by omega]
theorem O_mull {n : Nat} {xs : List AV} {h : AH} (e : h[n]? = some (.lst xs)) (k : Nat) (l : xs.length * k ≤ sizeLine) (l2 : k < 1000) {Q : AV → AH → Prop} : RWX X (binOp .Mult (.loc n) (.int (k : Nat)) h) Q ↔ Q (.loc h.length) (h ++ [.lst (List.replicate k xs).flatten]) := by
  simp [binOp, e, l, show (k : Int) < 2 ^ 62 by omega, show -(2 ^ 62) < (k : Int) by omega]
  intro _
  omega
@[simp] theorem X_tup (xs : List AV) (k : Int) (h : AH) {Q : AV → AH → Prop} : RWX X (idxOp (.tup xs) (.int k) h) Q ↔ ∃ v, atI xs k = some v ∧ Q v h := by simp only [idxOp]; cases atI xs k <;> simp
@[simp] theorem X_rol (xs : List AV) (k : Int) (h : AH) {Q : AV → AH → Prop} : RWX X (idxOp (.rol xs) (.int k) h) Q ↔ ∃ v, atI xs k = some v ∧ Q v h := by simp only [idxOp]; cases atI xs k <;> simp
theorem X_lst {n : Nat} {xs : List AV} {h : AH} (e : h[n]? = some (.lst xs)) (k : Int) {Q : AV → AH → Prop} : RWX X (idxOp (.loc n) (.int k) h) Q ↔ ∃ v, atI xs k = some v ∧ Q v h := by simp only [idxOp, e]; cases atI xs k <;> simp
@[simp] theorem R_abs (i : Int) (h : AH) {Q : AV → AH → Prop} : RWX X (prOp .abs [.int i] h) Q ↔ Q (.int (if i < 0 then -i else i)) h := Iff.rfl
@[simp] theorem R_int (i : Int) (h : AH) {Q : AV → AH → Prop} : RWX X (prOp .int [.int i] h) Q ↔ Q (.int i) h := Iff.rfl
@[simp] theorem R_intb (i : Bool) (h : AH) {Q : AV → AH → Prop} : RWX X (prOp .int [.bl i] h) Q ↔ Q (.int (if i then 1 else 0)) h := Iff.rfl
@[simp] theorem O_pow (i j : Int) (h : AH) {Q : AV → AH → Prop} : RWX X (binOp .Pow (.int i) (.int j) h) Q ↔ powOk i j = true ∧ Q (.int (i ^ j.toNat)) h := by simp only [binOp, intOp, RW_ite, RW_ok, RW_no, if_false_right]
theorem X_str (z : Str) (l : z.length ≤ sizeLine) (k : Int) (h : AH) {Q : AV → AH → Prop} : RWX X (idxOp (.str z) (.int k) h) Q ↔ ∃ c, atI z.cps.toList k = some c ∧ Q (.str ⟨#[c]⟩) h := by
  simp only [idxOp, l, if_true]; cases atI z.cps.toList k <;> simp
theorem G_pop {n : Nat} {xs : List AV} {v : AV} {h : AH} (e : h[n]? = some (.lst (xs ++ [v]))) {Q : AV → AH → Prop} : RWX X (mtOp .pop (.loc n) [] h) Q ↔ Q v (h.set n (.lst xs)) := by
  simp [mtOp, e, lstOp, popOp, popLast]
theorem G_ext {n k : Nat} {xs ys : List AV} {h : AH} (e : h[n]? = some (.lst xs)) (f : h[k]? = some (.lst ys)) {Q : AV → AH → Prop} : RWX X (mtOp .extend (.loc n) [.loc k] h) Q ↔ xs.length + ys.length ≤ sizeLine ∧ Q .non (h.set n (.lst (xs ++ ys))) := by
  simp only [mtOp, e, lstOp, extendOp, f, RW_ite, RW_ok, RW_no, if_false_right]
@[simp] theorem L_str (z : Str) (h : AH) {Q : AV → AH → Prop} : RWX X (prOp .len [.str z] h) Q ↔ z.length ≤ sizeLine ∧ Q (.int z.length) h := by simp only [prOp, RW_ite, RW_ok, RW_no, if_false_right]
@[simp] theorem L_tup (xs : List AV) (h : AH) {Q : AV → AH → Prop} : RWX X (prOp .len [.tup xs] h) Q ↔ Q (.int xs.length) h := Iff.rfl
@[simp] theorem L_rol (xs : List AV) (h : AH) {Q : AV → AH → Prop} : RWX X (prOp .len [.rol xs] h) Q ↔ Q (.int xs.length) h := Iff.rfl
theorem L_lst {n : Nat} {xs : List AV} {h : AH} (e : h[n]? = some (.lst xs)) {Q : AV → AH → Prop} : RWX X (prOp .len [.loc n] h) Q ↔ Q (.int xs.length) h := by simp [prOp, seq1, itemsOf, e, prBoth, prSeq]
@[simp] theorem U_tup (xs : List AV) (h : AH) {Q : AV → AH → Prop} : RWX X (prOp .tuple [.tup xs] h) Q ↔ Q (.tup xs) h := Iff.rfl
theorem U_lst {n : Nat} {xs : List AV} {h : AH} (e : h[n]? = some (.lst xs)) {Q : AV → AH → Prop} : RWX X (prOp .tuple [.loc n] h) Q ↔ Q (.tup xs) h := by simp [prOp, seq1, itemsOf, e, prBoth, prSeq]
@[simp] theorem N_tup (xs : List AV) (h : AH) {Q : AV → AH → Prop} : RWX X (prOp .list [.tup xs] h) Q ↔ Q (.loc h.length) (h ++ [.lst xs]) := Iff.rfl
@[simp] theorem P_tuple (xs : List AV) (h : AH) {Q : AV → AH → Prop} : RWX X (prSeq .tuple xs h) Q ↔ Q (.tup xs) h := Iff.rfl
@[simp] theorem P_all (xs : List AV) (h : AH) {Q : AV → AH → Prop} : RWX X (prSeq .all xs h) Q ↔ ∃ bs, boolsOf xs = some bs ∧ Q (.bl (bs.all id)) h := by simp only [prSeq]; cases boolsOf xs <;> simp
@[simp] theorem A_all (xs : List AV) (h : AH) {Q : AV → AH → Prop} : RWX X (prOp .all [.tup xs] h) Q ↔ RWX X (prSeq .all xs h) Q := Iff.rfl
@[simp] theorem A_any (xs : List AV) (h : AH) {Q : AV → AH → Prop} : RWX X (prOp .any [.tup xs] h) Q ↔ RWX X (prSeq .any xs h) Q := Iff.rfl
@[simp] theorem P_any (xs : List AV) (h : AH) {Q : AV → AH → Prop} : RWX X (prSeq .any xs h) Q ↔ ∃ bs, boolsOf xs = some bs ∧ Q (.bl (bs.any id)) h := by simp only [prSeq]; cases boolsOf xs <;> simp
@[simp] theorem bools_bl (bs : List Bool) : boolsOf (bs.map .bl) = some bs := by
  induction bs with
  | nil => rfl
  | cons b bs ih => simp [boolsOf, ih]
theorem G_app {n : Nat} {xs : List AV} {h : AH} (e : h[n]? = some (.lst xs)) (v : AV) {Q : AV → AH → Prop} : RWX X (mtOp .append (.loc n) [v] h) Q ↔ xs.length < sizeLine ∧ Q .non (h.set n (.lst (xs ++ [v]))) := by
  simp only [mtOp, e, lstOp, appendOp, RW_ite, RW_ok, RW_no, if_false_right]
theorem ty_lst {n : Nat} {xs : List AV} {h : AH} (e : h[n]? = some (.lst xs)) {m : Mt} (ne : m ≠ .get) : mtTy m (.loc n) h = true := by simp [mtTy, e, ne]
@[simp] theorem still_nil (h : AH) : still [] h = true := rfl
theorem still1 {n : Nat} {xs : List AV} {h : AH} (e : h[n]? = some (.lst xs)) : still [(n, xs)] h = true := by simp [still, e, AV.beqs_refl]
@[simp] theorem src_tup (xs) (h : AH) : srcOf (.tup xs) h = some ⟨xs, []⟩ := rfl
@[simp] theorem src_rol (xs) (h : AH) : srcOf (.rol xs) h = some ⟨xs, []⟩ := rfl
theorem src_lst {n : Nat} {xs : List AV} {h : AH} (e : h[n]? = some (.lst xs)) : srcOf (.loc n) h = some ⟨xs, [(n, xs)]⟩ := by simp [srcOf, e]
@[simp] theorem src_str (z : Str) (h : AH) : srcOf (.str z) h = some ⟨z.cps.toList.map fun c => .str ⟨#[c]⟩, []⟩ := rfl
end Ev

set_option Elab.async false
set_option linter.all false
set_option maxRecDepth 100000
set_option maxHeartbeats 8000000
namespace Ev
abbrev Rw := List Nat × List Nat
abbrev Try := Nat × List Nat
/-- lexicographic, by numbers -/
def lx : List Nat → List Nat → Bool
  | [], _ => true
  | _ :: _, [] => false
  | a :: r, b :: s => if a = b then lx r s else decide (a ≤ b)
theorem lx_snoc : ∀ {a b : List Nat}, a.length = b.length → lx b a = false → ∀ s t : Nat, lx (b ++ [t]) (a ++ [s]) = false
  | [], [], _, p, _, _ => by simp [lx] at p
  | [], _ :: _, l, _, _, _ => by simp at l
  | _ :: _, [], l, _, _, _ => by simp at l
  | x :: a, y :: b, l, p, s, t => by
    simp only [List.cons_append, lx] at p ⊢
    by_cases e : y = x
    · simp only [e, if_true] at p ⊢
      exact lx_snoc (by simpa using l) p s t
    · simp only [e, if_false] at p ⊢
      exact p
theorem lx_last : ∀ (a : List Nat) {s t : Nat}, s < t → lx (a ++ [t]) (a ++ [s]) = false
  | [], s, t, l => by simp [lx]; omega
  | x :: a, s, t, l => by simp only [List.cons_append, lx, if_true]; exact lx_last a l
theorem lx_irr : ∀ a : List Nat, lx a a = true
  | [] => rfl
  | x :: a => by simp [lx, lx_irr a]
def more (rows : List (List Nat)) (m : Nat) : List (List Nat) := rows.flatMap fun r => (List.range m).map fun s => r ++ [s]
def befs (lims : List Nat) : List (List Nat) := lims.foldl more [[]]
def Sorted (rows : List (List Nat)) : Prop := rows.Pairwise fun a b => lx b a = false
theorem more_sorted {rows : List (List Nat)} {n : Nat} (m : Nat) (l : ∀ r ∈ rows, r.length = n) (s : Sorted rows) : Sorted (more rows m) := by
  unfold Sorted more
  rw [List.pairwise_flatMap]
  constructor
  · intro a ha
    rw [List.pairwise_map]
    exact List.pairwise_lt_range.imp fun {x y} k => lx_last a k
  · refine List.Pairwise.imp_of_mem (R := fun a b => lx b a = false) ?_ s
    intro a b ha hb k x hx y hy
    simp only [List.mem_map, List.mem_range] at hx hy
    obtain ⟨i, _, rfl⟩ := hx
    obtain ⟨j, _, rfl⟩ := hy
    exact lx_snoc (by rw [l a ha, l b hb]) k i j
theorem more_len {rows : List (List Nat)} {n m : Nat} (l : ∀ r ∈ rows, r.length = n) : ∀ r ∈ more rows m, r.length = n + 1 := by
  intro r hr
  simp only [more, List.mem_flatMap, List.mem_map] at hr
  obtain ⟨a, ha, s, _, rfl⟩ := hr
  simp [l a ha]
/-- componentwise below -/
def under : List Nat → List Nat → Prop
  | [], [] => True
  | a :: r, m :: l => a < m ∧ under r l
  | _, _ => False
theorem under_snoc {s m : Nat} (hs : s < m) : ∀ {a l : List Nat}, under a l → under (a ++ [s]) (l ++ [m])
  | [], [], _ => ⟨hs, trivial⟩
  | [], _ :: _, p => p.elim
  | _ :: _, [], p => p.elim
  | _ :: _, _ :: _, p => ⟨p.1, under_snoc hs p.2⟩
theorem under_len : ∀ {a l : List Nat}, under a l → a.length = l.length
  | [], [], _ => rfl
  | [], _ :: _, p => p.elim
  | _ :: _, [], p => p.elim
  | _ :: _, _ :: _, p => by simp [under_len p.2]
theorem more_under {rows : List (List Nat)} {lims : List Nat} {m : Nat} (l : ∀ r ∈ rows, under r lims) : ∀ r ∈ more rows m, under r (lims ++ [m]) := by
  intro r hr
  simp only [more, List.mem_flatMap, List.mem_map, List.mem_range] at hr
  obtain ⟨a, ha, s, hs, rfl⟩ := hr
  exact under_snoc hs (l a ha)
structure Befs (lims : List Nat) (rows : List (List Nat)) : Prop where
  srt : Sorted rows
  len : ∀ r ∈ rows, r.length = lims.length
  und : ∀ r ∈ rows, under r lims
theorem Befs.nil : Befs [] [[]] := ⟨by simp [Sorted], by simp, by simp [under]⟩
theorem Befs.more {lims rows} (p : Befs lims rows) (m : Nat) : Befs (lims ++ [m]) (more rows m) :=
  ⟨more_sorted m p.len p.srt, by simpa using more_len p.len, more_under p.und⟩
/-! ### playing -/
def putAll (w : List Nat) : List Nat → List Nat → List Nat
  | m :: ms, s :: ss => putAll (w.set m s) ms ss
  | _, _ => w
theorem putAll_len : ∀ (ms ss w : List Nat), (putAll w ms ss).length = w.length
  | [], _, w => by simp [putAll]
  | _ :: _, [], w => by simp [putAll]
  | m :: ms, s :: ss, w => by simp [putAll, putAll_len ms ss]
def hereOf (w ms : List Nat) : List Nat := ms.map fun m => w.getD m 0
abbrev Tl := List Rw
def stp (T : List Tl) (w : List Nat) (y : Try) : List Nat × Bool :=
  match (T.getD y.1 []).find? (fun r => decide (r.1 = hereOf w y.2)) with
  | none => (w, false)
  | some r => (putAll w y.2 r.2, true)
theorem stp_len (T : List Tl) (w : List Nat) (y : Try) : (stp T w y).1.length = w.length := by
  unfold stp; split <;> simp [putAll_len]
theorem stp_no {T : List Tl} {w : List Nat} {y : Try} (h : (stp T w y).2 = false) : (stp T w y).1 = w := by
  unfold stp at *; split <;> simp_all
def runs (T : List Tl) : List Nat → List Try → List Bool
  | _, [] => []
  | w, y :: ys => (stp T w y).2 :: runs T (stp T w y).1 ys
theorem runs_len (T : List Tl) : ∀ (ys : List Try) (w : List Nat), (runs T w ys).length = ys.length
  | [], _ => rfl
  | _ :: ys, w => by simp [runs, runs_len T ys]
/-- the tries without those of a lot, from number n on -/
def lessOf (lot : List Nat) : Nat → List Try → List Try
  | _, [] => []
  | n, y :: ys => if n ∈ lot then lessOf lot (n + 1) ys else y :: lessOf lot (n + 1) ys
def leftOf (lot : List Nat) : Nat → Nat → List Nat
  | _, 0 => []
  | n, k + 1 => if n ∈ lot then leftOf lot (n + 1) k else n :: leftOf lot (n + 1) k
def oth (T : List Tl) (lot : List Nat) : Nat → List Nat → List Nat → List Try → List Nat
  | _, _, _, [] => []
  | n, w, v, y :: ys => if n ∈ lot then oth T lot (n + 1) (stp T w y).1 v ys else (if (stp T w y).2 ≠ (stp T v y).2 then [n] else []) ++ oth T lot (n + 1) (stp T w y).1 (stp T v y).1 ys
theorem left_less (lot : List Nat) : ∀ (ys : List Try) (n : Nat), (leftOf lot n ys.length).length = (lessOf lot n ys).length
  | [], _ => rfl
  | y :: ys, n => by
    simp only [List.length_cons, leftOf, lessOf]
    split <;> simp [left_less lot ys]
/-- the law's own way to tell -/
def othL (here there : List Bool) (left : List Nat) : List Nat := (left.zip there).filterMap fun p => if here.getD p.1 false ≠ p.2 then some p.1 else none
theorem oth_law (T : List Tl) (lot : List Nat) (here : List Bool) : ∀ (ys : List Try) (n : Nat) (w v : List Nat), here.drop n = runs T w ys →
    othL here (runs T v (lessOf lot n ys)) (leftOf lot n ys.length) = oth T lot n w v ys
  | [], n, w, v, _ => by simp [othL, leftOf, oth]
  | y :: ys, n, w, v, e => by
    have e1 : here.getD n false = (stp T w y).2 := by
      have : (here.drop n)[0]? = some (stp T w y).2 := by rw [e]; rfl
      rw [List.getElem?_drop] at this
      simp at this
      simp [List.getD, this]
    have e2 : here.drop (n + 1) = runs T (stp T w y).1 ys := by
      rw [← List.drop_drop (i := 1) (j := n), e]; rfl
    simp only [List.length_cons, leftOf, lessOf, oth]
    split
    · exact oth_law T lot here ys (n + 1) _ v e2
    · rw [← oth_law T lot here ys (n + 1) _ _ e2]
      simp only [runs, othL, List.zip_cons_cons, List.filterMap_cons, e1]
      split <;> rename_i k <;> split at k <;> simp_all
theorem oth_same (T : List Tl) (lot : List Nat) : ∀ (ys : List Try) (n : Nat) (w : List Nat), (∀ j y, (runs T w ys)[j]? = some y → n + j ∈ lot → y = false) → oth T lot n w w ys = []
  | [], _, _, _ => rfl
  | y :: ys, n, w, k => by
    simp only [oth]
    have k' : ∀ j y', (runs T (stp T w y).1 ys)[j]? = some y' → n + 1 + j ∈ lot → y' = false := fun j y' e m => k (j + 1) y' (by simpa [runs] using e) (by rwa [show n + (j + 1) = n + 1 + j by omega])
    split
    · rename_i m
      have q : (stp T w y).2 = false := k 0 _ (by simp [runs]) (by simpa using m)
      have e := oth_same T lot ys (n + 1) _ k'
      rw [stp_no q] at e ⊢
      exact e
    · simp [oth_same T lot ys (n + 1) _ k']
theorem less_zip {β : Type} (e : Try → β) (lot : List Nat) : ∀ (ys : List Try) (n : Nat), (ys.zipIdx n).filterMap (fun p => if p.2 ∈ lot then none else some (e p.1)) = (lessOf lot n ys).map e
  | [], _ => rfl
  | y :: ys, n => by
    simp only [List.zipIdx_cons, List.filterMap_cons, lessOf]
    by_cases m : n ∈ lot <;> simp [m, less_zip e lot ys (n + 1)]
theorem left_zip (lot : List Nat) : ∀ (ys : List Try) (n : Nat), (ys.zipIdx n).filterMap (fun p => if p.2 ∈ lot then none else some p.2) = leftOf lot n ys.length
  | [], _ => rfl
  | y :: ys, n => by
    simp only [List.zipIdx_cons, List.filterMap_cons, leftOf, List.length_cons]
    by_cases m : n ∈ lot <;> simp [m, left_zip lot ys (n + 1)]
abbrev Bt := Bool × Option Bool × List Nat × List Nat
def bth (T : List Tl) (lot : List Nat) : Nat → List Nat → List Nat → List Try → List Bt
  | _, _, _, [] => []
  | n, w, v, y :: ys => if n ∈ lot then ((stp T w y).2, none, (stp T w y).1, v) :: bth T lot (n + 1) (stp T w y).1 v ys
    else ((stp T w y).2, some (stp T v y).2, (stp T w y).1, (stp T v y).1) :: bth T lot (n + 1) (stp T w y).1 (stp T v y).1 ys
theorem bth_len (T : List Tl) (lot : List Nat) : ∀ (ys : List Try) (n : Nat) (w v : List Nat), (bth T lot n w v ys).length = ys.length
  | [], _, _, _ => rfl
  | y :: ys, n, w, v => by simp only [bth]; split <;> simp [bth_len T lot ys]
theorem bth_oth (T : List Tl) (lot : List Nat) : ∀ (ys : List Try) (n : Nat) (w v : List Nat),
    ((bth T lot n w v ys).zipIdx n).filterMap (fun p => match p.1.2.1 with
      | none => none
      | some t => if p.1.1 = t then none else some p.2) = oth T lot n w v ys
  | [], _, _, _ => rfl
  | y :: ys, n, w, v => by
    simp only [bth, oth]
    by_cases m : n ∈ lot
    · simp only [m, if_true, List.zipIdx_cons, List.filterMap_cons, bth_oth T lot ys (n + 1)]
    · simp only [m, if_false, List.zipIdx_cons, List.filterMap_cons, bth_oth T lot ys (n + 1)]
      by_cases e : (stp T w y).2 = (stp T v y).2 <;> simp [e]
theorem put_fold : ∀ (ms ss w : List Nat), putAll w ms ss = (ms.zip ss).foldl (fun w p => w.set p.1 p.2) w
  | [], _, w => by simp [putAll]
  | _ :: _, [], w => by simp [putAll]
  | m :: ms, s :: ss, w => by simp [putAll, put_fold ms ss]
theorem less_mem {lot : List Nat} : ∀ {ys : List Try} {n : Nat} {y : Try}, y ∈ lessOf lot n ys → y ∈ ys
  | [], _, _, m => m
  | z :: ys, n, y, m => by
    simp only [lessOf] at m
    split at m
    · exact List.mem_cons_of_mem _ (less_mem m)
    · rcases List.mem_cons.1 m with rfl | m
      · simp
      · exact List.mem_cons_of_mem _ (less_mem m)
theorem less_le {lot : List Nat} : ∀ (ys : List Try) (n : Nat), (lessOf lot n ys).length ≤ ys.length
  | [], _ => Nat.le_refl _
  | z :: ys, n => by
    simp only [lessOf]
    have := less_le (lot := lot) ys (n + 1)
    split <;> simp <;> omega
theorem oth_lt (T : List Tl) (lot : List Nat) : ∀ (ys : List Try) (n : Nat) (w v : List Nat), ∀ k ∈ oth T lot n w v ys, k < n + ys.length
  | [], _, _, _ => by simp [oth]
  | y :: ys, n, w, v => by
    intro k hk
    simp only [oth] at hk
    split at hk
    · have := oth_lt T lot ys (n + 1) _ _ k hk
      simp; omega
    · rcases List.mem_append.1 hk with hk | hk
      · split at hk <;> simp at hk
        subst hk; simp
      · have := oth_lt T lot ys (n + 1) _ _ k hk
        simp; omega
theorem oth_few (T : List Tl) (lot : List Nat) : ∀ (ys : List Try) (n : Nat) (w v : List Nat), (oth T lot n w v ys).length ≤ ys.length
  | [], _, _, _ => by simp [oth]
  | y :: ys, n, w, v => by
    simp only [oth]
    split
    · have := oth_few T lot ys (n + 1) (stp T w y).1 v
      simp; omega
    · have := oth_few T lot ys (n + 1) (stp T w y).1 (stp T v y).1
      split <;> simp <;> omega
end Ev

set_option Elab.async false
set_option linter.all false
set_option maxRecDepth 100000
set_option maxHeartbeats 8000000
/-! Loops over what is written down. -/
namespace Ev
open PySem L2
variable {X : XQ} {Y : YQ}
section
variable {T : Type} {n b c : Sl → AH → Prop} {r : AV → AH → Prop}
def itm (enc : Nat → T → AV) : Nat → List T → List AV
  | _, [] => []
  | k, x :: xs => enc k x :: itm enc (k + 1) xs
theorem itm_len (enc : Nat → T → AV) : ∀ (xs : List T) (k : Nat), (itm enc k xs).length = xs.length
  | [], _ => rfl
  | _ :: xs, k => by simp [itm, itm_len enc xs]
theorem itm_map (e : T → AV) : ∀ (xs : List T) (k : Nat), xs.map e = itm (fun _ => e) k xs
  | [], _ => rfl
  | x :: xs, k => by simp [itm, ← itm_map e xs (k + 1)]
theorem itm_enum (e : T → AV) (xs : List T) : enumL (xs.map e) = itm (fun k x => .tup [.int (k : Nat), e x]) 0 xs := by
  have : ∀ (xs : List T) (k : Nat), ((xs.map e).zipIdx k).map (fun p => AV.tup [.int (p.2 : Nat), p.1]) = itm (fun k x => .tup [.int (k : Nat), e x]) k xs := by
    intro xs
    induction xs with
    | nil => intro k; rfl
    | cons x xs ih => intro k; simp only [List.map_cons, List.zipIdx_cons, itm, ih]
  exact this xs 0
theorem itm_zip {U : Type} (e : T → AV) (f : U → AV) : ∀ (xs : List T) (ys : List U) (k : Nat), zipL (xs.map e) (ys.map f) = itm (fun _ (p : T × U) => .tup [e p.1, f p.2]) k (xs.zip ys)
  | [], _, _ => by simp [zipL, itm]
  | _ :: _, [], _ => by simp [zipL, itm]
  | x :: xs, y :: ys, k => by
    have := itm_zip e f xs ys (k + 1)
    simp only [zipL] at this
    simp [zipL, itm, this]
theorem range_map (m : Nat) : rangeL 0 m = (List.range m).map fun k => AV.int (k : Nat) := by simp [rangeL]
theorem loopS_T {w body} {enc : Nat → T → AV} {all : List T} (I : List T → Sl → AH → Prop)
    (hi : ∀ d y t σ h, all = d ++ y :: t → I d σ h → still w h = true ∧ OWX Y (body (enc d.length y) σ h) (I (d ++ [y])) n (I (d ++ [y])) r)
    (hn : ∀ σ h, I all σ h → still w h = true ∧ n σ h) (σ : Sl) (h : AH) (p : I [] σ h) : OWX Y (loopS w body (itm enc 0 all) σ h) n b c r := by
  have key : ∀ (t d : List T) (σ : Sl) (h : AH), all = d ++ t → I d σ h → OWX Y (loopS w body (itm enc d.length t) σ h) n b c r := by
    intro t
    induction t with
    | nil =>
      intro d σ h e p
      have e : all = d := by simpa using e
      subst e
      obtain ⟨s, q⟩ := hn _ _ p
      simp only [itm, loopS, s, if_true]
      exact q
    | cons y t ih =>
      intro d σ h e p
      obtain ⟨s, q⟩ := hi d y t σ h e p
      simp only [itm, loopS, s, if_true]
      have e' : all = (d ++ [y]) ++ t := by simp [e]
      have l : (d ++ [y]).length = d.length + 1 := by simp
      revert q
      cases body (enc d.length y) σ h with
      | nx σ' h' => intro q; have := ih (d ++ [y]) σ' h' e' q; rwa [l] at this
      | ct σ' h' => intro q; have := ih (d ++ [y]) σ' h' e' q; rwa [l] at this
      | bk σ' h' => exact id
      | rt v h' => exact id
      | ex => exact id
      | no => exact id
  exact key all [] σ h rfl p
theorem loopS_X {w body} {enc : Nat → T → AV} {all : List T} {xs : List AV} (hx : xs = itm enc 0 all) (I : List T → Sl → AH → Prop)
    (hi : ∀ d y t σ h, all = d ++ y :: t → I d σ h → still w h = true ∧ OWX Y (body (enc d.length y) σ h) (I (d ++ [y])) n (I (d ++ [y])) r)
    (hn : ∀ σ h, I all σ h → still w h = true ∧ n σ h) (σ : Sl) (h : AH) (p : I [] σ h) : OWX Y (loopS w body xs σ h) n b c r := by
  subst hx; exact loopS_T I hi hn σ h p
theorem loopC_T {w body} {enc : Nat → T → AV} {all : List T} (hl : all.length ≤ sizeLine) (I : List T → List AV → AH → Prop)
    (hi : ∀ d y t acc h, all = d ++ y :: t → I d acc h → still w h = true ∧ RW (body (enc d.length y) h) fun o h' => I (d ++ [y]) (acc ++ o.toList) h')
    {Q : List AV → AH → Prop} (hn : ∀ acc h, I all acc h → still w h = true ∧ Q acc h) (h : AH) (p : I [] [] h) : RWX X (loopC w body (itm enc 0 all) [] h) Q := by
  have key : ∀ (t d : List T) (acc : List AV) (h : AH), all = d ++ t → acc.length ≤ d.length → I d acc h → RWX X (loopC w body (itm enc d.length t) acc h) Q := by
    intro t
    induction t with
    | nil =>
      intro d acc h e _ p
      have e : all = d := by simpa using e
      subst e
      obtain ⟨s, q⟩ := hn _ _ p
      simp only [itm, loopC, s, if_true]
      exact q
    | cons y t ih =>
      intro d acc h e la p
      obtain ⟨s, q⟩ := hi d y t acc h e p
      simp only [itm, loopC, s, if_true]
      have e' : all = (d ++ [y]) ++ t := by simp [e]
      have l : (d ++ [y]).length = d.length + 1 := by simp
      have la' : acc.length < sizeLine := by rw [e] at hl; simp at hl; omega
      revert q
      cases body (enc d.length y) h with
      | ok o h' =>
        cases o with
        | none => intro q; have := ih (d ++ [y]) acc h' e' (by omega) (by simpa using q); rwa [l] at this
        | some v =>
          intro q
          simp only [la', if_true]
          have := ih (d ++ [y]) (acc ++ [v]) h' e' (by simp; omega) (by simpa using q); rwa [l] at this
      | ex => exact False.elim
      | no => exact False.elim
  exact key all [] [] h rfl (by simp) p
theorem loopD_T {w body} {enc : Nat → T → AV} {all : List T} (hl : all.length ≤ sizeLine) (I : List T → List (AV × AV) → AH → Prop)
    (hi : ∀ d y t acc h, all = d ++ y :: t → I d acc h → still w h = true ∧ RW (body (enc d.length y) h) fun o h' => I (d ++ [y]) (acc ++ o.toList) h')
    {Q : List (AV × AV) → AH → Prop} (hn : ∀ acc h, I all acc h → still w h = true ∧ Q acc h) (h : AH) (p : I [] [] h) : RWX X (loopD w body (itm enc 0 all) [] h) Q := by
  have key : ∀ (t d : List T) (acc : List (AV × AV)) (h : AH), all = d ++ t → acc.length ≤ d.length → I d acc h → RWX X (loopD w body (itm enc d.length t) acc h) Q := by
    intro t
    induction t with
    | nil =>
      intro d acc h e _ p
      have e : all = d := by simpa using e
      subst e
      obtain ⟨s, q⟩ := hn _ _ p
      simp only [itm, loopD, s, if_true]
      exact q
    | cons y t ih =>
      intro d acc h e la p
      obtain ⟨s, q⟩ := hi d y t acc h e p
      simp only [itm, loopD, s, if_true]
      have e' : all = (d ++ [y]) ++ t := by simp [e]
      have l : (d ++ [y]).length = d.length + 1 := by simp
      have la' : acc.length < sizeLine := by rw [e] at hl; simp at hl; omega
      revert q
      cases body (enc d.length y) h with
      | ok o h' =>
        cases o with
        | none => intro q; have := ih (d ++ [y]) acc h' e' (by omega) (by simpa using q); rwa [l] at this
        | some v =>
          intro q
          simp only [la', if_true]
          have := ih (d ++ [y]) (acc ++ [v]) h' e' (by simp; omega) (by simpa using q); rwa [l] at this
      | ex => exact False.elim
      | no => exact False.elim
  exact key all [] [] h rfl (by simp) p
/-- each item gives what f says, and places only come -/
theorem loopC_ke {w body} {enc : Nat → T → AV} {all : List T} (hl : all.length ≤ sizeLine) (f : T → Option AV) {h : AH} (hs : ∀ h', Ke h h' → still w h' = true)
    (hi : ∀ d y t h', all = d ++ y :: t → Ke h h' → RW (body (enc d.length y) h') fun o h'' => o = f y ∧ Ke h' h'')
    {Q : List AV → AH → Prop} (hn : ∀ h', Ke h h' → Q (all.filterMap f) h') : RWX X (loopC w body (itm enc 0 all) [] h) Q := by
  refine loopC_T hl (fun d acc h' => acc = d.filterMap f ∧ Ke h h') ?_ ?_ h ⟨rfl, Ke.refl⟩
  · intro d y t acc h' e p
    obtain ⟨rfl, k⟩ := p
    refine ⟨hs _ k, (hi d y t h' e k).mono fun o h'' q => ?_⟩
    obtain ⟨rfl, k'⟩ := q
    refine ⟨?_, k.trans k'⟩
    rw [List.filterMap_append]
    cases e2 : f y <;> simp [List.filterMap_cons, e2]
  · intro acc h' p
    obtain ⟨rfl, k⟩ := p
    exact ⟨hs _ k, hn _ k⟩
theorem loopC_all {w body} {enc : Nat → T → AV} {all : List T} (hl : all.length ≤ sizeLine) {h : AH} (hs : ∀ h', Ke h h' → still w h' = true)
    (hi : ∀ d y t h', all = d ++ y :: t → Ke h h' → RW (body (enc d.length y) h') fun o h'' => o = some (.bl true) ∧ Ke h' h'')
    {Q : List AV → AH → Prop} (hn : ∀ h', Ke h h' → Q (List.replicate all.length (.bl true)) h') : RWX X (loopC w body (itm enc 0 all) [] h) Q := by
  refine loopC_ke hl (fun _ => some (.bl true)) hs hi fun h' k => ?_
  have : (all.filterMap fun _ => some (AV.bl true)) = List.replicate all.length (.bl true) := by
    clear hl hi hn
    induction all with
    | nil => rfl
    | cons a l ih => rw [List.filterMap_cons, ih]; rfl
  rw [this]; exact hn _ k
@[simp] theorem bools_rep (n : Nat) : boolsOf (List.replicate n (.bl true)) = some (List.replicate n true) := by
  induction n with
  | zero => rfl
  | succ n ih => simp [List.replicate_succ, boolsOf, ih]
theorem loopS_Y {w body} {enc : Nat → T → AV} {all : List T} {xs : List AV} (hx : xs = itm enc 0 all) (I : List T → List T → Sl → AH → Prop)
    (hi : ∀ d y t σ h, all = d ++ y :: t → I d (y :: t) σ h → still w h = true ∧ OWX Y (body (enc d.length y) σ h) (I (d ++ [y]) t) n (I (d ++ [y]) t) r)
    (hn : ∀ σ h, I all [] σ h → still w h = true ∧ n σ h) (σ : Sl) (h : AH) (p : I [] all σ h) : OWX Y (loopS w body xs σ h) n b c r := by
  refine loopS_X hx (fun d σ h => ∀ t, all = d ++ t → I d t σ h) ?_ (fun σ h q => hn σ h (q [] (by simp))) σ h (fun t e => by simp at e; subst e; exact p)
  intro d y t σ h e q
  obtain ⟨s, o⟩ := hi d y t σ h e (q _ e)
  have key : ∀ t', all = (d ++ [y]) ++ t' → t' = t := fun t' e' => by rw [e] at e'; simpa using e'.symm
  exact ⟨s, o.mono (fun _ _ z t' e' => by rw [key t' e']; exact z) (fun _ _ z => z) (fun _ _ z t' e' => by rw [key t' e']; exact z) (fun _ _ z => z)⟩
theorem itm_idx (e : T → AV) (xs : List T) : enumL (xs.map e) = itm (fun _ (p : T × Nat) => .tup [.int (p.2 : Nat), e p.1]) 0 xs.zipIdx := by
  rw [← itm_map (fun p : T × Nat => .tup [.int (p.2 : Nat), e p.1])]
  unfold enumL
  rw [List.zipIdx_map, List.map_map]
  rfl
theorem itm_num (xs : List T) : rangeL 0 xs.length = itm (fun _ (p : T × Nat) => .int (p.2 : Nat)) 0 xs.zipIdx := by
  rw [← itm_map (fun p : T × Nat => .int (p.2 : Nat)), range_map]
  have : xs.zipIdx.map (·.2) = List.range xs.length := by simp [List.zipIdx_map_snd, List.range_eq_range']
  rw [← this, List.map_map]
  rfl
theorem loopC_X {w body} {enc : Nat → T → AV} {all : List T} {xs : List AV} (hx : xs = itm enc 0 all) (hl : all.length ≤ sizeLine) (I : List T → List AV → AH → Prop)
    (hi : ∀ d y t acc h, all = d ++ y :: t → I d acc h → still w h = true ∧ RW (body (enc d.length y) h) fun o h' => I (d ++ [y]) (acc ++ o.toList) h')
    {Q : List AV → AH → Prop} (hn : ∀ acc h, I all acc h → still w h = true ∧ Q acc h) (h : AH) (p : I [] [] h) : RWX X (loopC w body xs [] h) Q := by
  subst hx; exact loopC_T hl I hi hn h p
theorem loopC_kx {w body} {enc : Nat → T → AV} {all : List T} {xs : List AV} (hx : xs = itm enc 0 all) (hl : all.length ≤ sizeLine) (f : T → Option AV) {h : AH} (hs : ∀ h', Ke h h' → still w h' = true)
    (hi : ∀ d y t h', all = d ++ y :: t → Ke h h' → RW (body (enc d.length y) h') fun o h'' => o = f y ∧ Ke h' h'')
    {Q : List AV → AH → Prop} (hn : ∀ h', Ke h h' → Q (all.filterMap f) h') : RWX X (loopC w body xs [] h) Q := by
  subst hx; exact loopC_ke hl f hs hi hn
theorem loopC_ax {w body} {enc : Nat → T → AV} {all : List T} {xs : List AV} (hx : xs = itm enc 0 all) (hl : all.length ≤ sizeLine) {h : AH} (hs : ∀ h', Ke h h' → still w h' = true)
    (hi : ∀ d y t h', all = d ++ y :: t → Ke h h' → RW (body (enc d.length y) h') fun o h'' => o = some (.bl true) ∧ Ke h' h'')
    {Q : List AV → AH → Prop} (hn : ∀ h', Ke h h' → Q (List.replicate all.length (.bl true)) h') : RWX X (loopC w body xs [] h) Q := by
  subst hx; exact loopC_all hl hs hi hn
theorem loopD_X {w body} {enc : Nat → T → AV} {all : List T} {xs : List AV} (hx : xs = itm enc 0 all) (hl : all.length ≤ sizeLine) (I : List T → List (AV × AV) → AH → Prop)
    (hi : ∀ d y t acc h, all = d ++ y :: t → I d acc h → still w h = true ∧ RW (body (enc d.length y) h) fun o h' => I (d ++ [y]) (acc ++ o.toList) h')
    {Q : List (AV × AV) → AH → Prop} (hn : ∀ acc h, I all acc h → still w h = true ∧ Q acc h) (h : AH) (p : I [] [] h) : RWX X (loopD w body xs [] h) Q := by
  subst hx; exact loopD_T hl I hi hn h p
/-- draws: what stands at one place may change -/
theorem itm_range (m : Nat) : rangeL 0 m = itm (fun _ (k : Nat) => AV.int (k : Nat)) 0 (List.range m) := by rw [range_map, ← itm_map]
end
theorem lexLe_map : ∀ a b : List Nat, lexLe (a.map fun i : Nat => (i : Int)) (b.map fun i : Nat => (i : Int)) = lx a b
  | [], _ => by simp [lexLe, lx]
  | _ :: _, [] => by simp [lexLe, lx]
  | x :: a, y :: b => by
    simp only [List.map_cons, lexLe, lx, lexLe_map a b]
    by_cases e : x = y
    · simp [e]
    · have : ¬ (x : Int) = y := by omega
      simp only [e, this, if_false]
      by_cases l : x ≤ y <;> simp [l] <;> omega
end Ev

set_option Elab.async false
set_option linter.all false
set_option maxRecDepth 100000
set_option maxHeartbeats 8000000
namespace Mx
open Ev PySem L2
variable {X : XQ}
/-! ### how values are written: rows of whole numbers, bools, None -/
def sgnOk (s : Str) : Prop := ∀ c ∈ s.cps.toList, c < 1114112
theorem sgn_strOk {s : Str} (h : sgnOk s) : PyData.strOk s = true := by
  simp only [PyData.strOk]
  rw [Array.all_eq_true']
  intro c hc
  simpa using h c (by simpa using hc)
/-- the value is read as the datum, which can be written and weighs at most w -/
structure Shw (h : AH) (k w : Nat) (v : AV) (d : PyData) : Prop where
  dat : v.dat h k = some d
  sgn : sgnOk d.shown
  able : d.showable = true
  short : PyData.leavesShort 13 d = true
  wt : d.weight ≤ w
  eqv : PyData.eqv d d = true
structure ShwL (h : AH) (k w : Nat) (vs : List AV) (ds : List PyData) : Prop where
  dat : vs.mapM (fun x => AV.dat h k x) = some ds
  sgn : ∀ s ∈ PyData.shownAll ds, sgnOk s
  able : PyData.showableAll ds = true
  short : PyData.leavesShortAll 13 ds = true
  wt : PyData.weightAll ds ≤ w
  eqv : PyData.eqvAll ds ds = true
theorem ShwL.nil {h : AH} {k : Nat} : ShwL h k 0 [] [] := ⟨rfl, by rw [PyData.shownAll_nil]; simp, rfl, rfl, by simp [PyData.weightAll], rfl⟩
theorem ShwL.cons {h : AH} {k w W : Nat} {v : AV} {d : PyData} {vs : List AV} {ds : List PyData} (a : Shw h k w v d) (b : ShwL h k W vs ds) : ShwL h k (w + 1 + W) (v :: vs) (d :: ds) where
  dat := by rw [List.mapM_cons, a.dat, b.dat]; rfl
  sgn := by
    rw [PyData.shownAll_cons]
    intro s hs
    rcases List.mem_cons.1 hs with rfl | hs
    · exact a.sgn
    · exact b.sgn s hs
  able := by simp only [PyData.showableAll, a.able, b.able, Bool.and_self]
  short := by simp only [PyData.leavesShortAll, a.short, b.short, Bool.and_self]
  wt := by
    have := a.wt
    have := b.wt
    simp only [PyData.weightAll]
    omega
  eqv := by simp only [PyData.eqvAll, a.eqv, b.eqv, Bool.and_self]
theorem ShwL.map {h : AH} {k w : Nat} {T : Type} {f : T → AV} {g : T → PyData} : ∀ {xs : List T}, (∀ x ∈ xs, Shw h k w (f x) (g x)) → ShwL h k ((w + 1) * xs.length) (xs.map f) (xs.map g)
  | [], _ => ShwL.nil
  | x :: xs, p => by
    have a := p x (by simp)
    have b := ShwL.map (xs := xs) fun y hy => p y (by simp [hy])
    have c := ShwL.cons a b
    rw [List.length_cons, Nat.mul_succ, Nat.add_comm ((w + 1) * xs.length)]
    exact c
theorem Shw.tup {h : AH} {k w : Nat} {vs : List AV} {ds : List PyData} (a : ShwL h k w vs ds) : Shw h (k + 1) w (.tup vs) (.tuple ds) where
  dat := by
    show (vs.mapM fun x => AV.dat h k x).map PyData.tuple = _
    rw [a.dat]; rfl
  sgn := by
    intro c hc
    rw [PyData.shown_tuple] at hc
    rw [PyProof.Rows.mem_cps_append, PyProof.Rows.mem_cps_append, PyProof.Rows.signs_lparen, PyProof.Rows.mem_join, PyProof.Rows.signs_sep, PyProof.Rows.signs_tuple_end] at hc
    rcases hc with (hc | (⟨t, ht, hc⟩ | ⟨_, hc⟩)) | hc
    · simp at hc; omega
    · exact a.sgn t ht c hc
    · simp at hc; omega
    · split at hc <;> simp at hc <;> omega
  able := a.able
  short := a.short
  wt := a.wt
  eqv := by simp only [PyData.eqv, a.eqv]
theorem Shw.mono {h : AH} {k w w' : Nat} {v : AV} {d : PyData} (a : Shw h k w v d) (l : w ≤ w') : Shw h k w' v d := ⟨a.dat, a.sgn, a.able, a.short, Nat.le_trans a.wt l, a.eqv⟩
theorem Shw.int {h : AH} {k : Nat} {i : Int} (l : i.natAbs < 1000000000) : Shw h (k + 1) 30 (.int i) (.int i) where
  dat := rfl
  sgn := by
    intro c hc
    false_or_by_contra
    exact PyProof.Rows.shown_int_free' (k := c) (by omega) i hc
  able := by
    simp only [PyData.showable, decide_eq_true_eq]
    have : i.natAbs.log2 ≤ i.natAbs := Nat.log2_le_self _
    have : i.natAbs.log2 < 30 := by
      rcases Nat.eq_zero_or_pos i.natAbs with z | z
      · rw [z]; decide
      · rw [Nat.log2_lt (by omega)]; omega
    omega
  short := by
    have := PyData.shown_int_le (i := i) (by omega)
    simpa [PyData.leavesShort] using this
  wt := by
    simp only [PyData.weight]
    split
    · omega
    · have : i.natAbs.log2 < 30 := by
        rcases Nat.eq_zero_or_pos i.natAbs with z | z
        · rw [z]; decide
        · rw [Nat.log2_lt (by omega)]; omega
      omega
  eqv := by simp [PyData.eqv]
theorem Shw.bl {h : AH} {k : Nat} (b : Bool) : Shw h (k + 1) 1 (.bl b) (.bool b) where
  dat := rfl
  sgn := by
    cases b <;> (intro c hc; revert c; decide +kernel)
  able := rfl
  short := rfl
  wt := by simp [PyData.weight]
  eqv := by simp [PyData.eqv]
theorem Shw.non {h : AH} {k : Nat} : Shw h (k + 1) 1 .non .none where
  dat := rfl
  sgn := by intro c hc; revert c; decide +kernel
  able := rfl
  short := rfl
  wt := by simp [PyData.weight]
  eqv := by simp [PyData.eqv]
theorem Shw.ni {h : AH} {k : Nat} {l : List Nat} (b : ∀ x ∈ l, x < 1000000000) : Shw h (k + 2) (31 * l.length) (.tup (ni l)) (.tuple (l.map fun i => .int (i : Nat))) :=
  Shw.tup (ShwL.map fun x hx => Shw.int (by have := b x hx; omega))
theorem repr_of {h : AH} {w : Nat} {v : AV} {d : PyData} (a : Shw h 40 w v d) (l : w ≤ 1048576) {Q : AV → AH → Prop} : RWX X (prOp .repr [v] h) Q ↔ Q (.str d.shown) h := by
  have z := PyData.shown_fits (B := 13) (by omega) (by omega) a.short (Nat.le_trans a.wt (Nat.le_trans l (by decide)))
  simp only [prOp, a.dat, a.able, Bool.true_and, decide_eq_true_eq, z, if_true, RW_ok]
theorem eq_of {h : AH} {w : Nat} {v : AV} {d : PyData} (a : Shw h 40 w v d) : eqDeep v v h = some true := by
  simp only [eqDeep, a.dat, a.eqv]
theorem eq_str {s : Str} (o : sgnOk s) (h : AH) : eqDeep (.str s) (.str s) h = some true := by
  have e : AV.dat h 40 (.str s) = some (.str s) := by
    show (if PyData.strOk s then some (PyData.str s) else none) = _
    rw [sgn_strOk o]; rfl
  simp only [eqDeep, e, PyData.eqv]
  simp
end Mx

set_option Elab.async false
set_option linter.all false
set_option maxRecDepth 100000
set_option maxHeartbeats 8000000
/-! index, remove, min, equality over what is written down. -/
namespace Ev
open PySem L2
variable {X : XQ} {Y : YQ}
theorem dats_map {T : Type} {enc : T → AV} {dE : T → PyData} {h : AH} (k : Nat) (hd : ∀ y, AV.dat h k (enc y) = some (dE y)) (l : List T) : (l.map enc).mapM (fun x => AV.dat h k x) = some (l.map dE) := by
  induction l with
  | nil => rfl
  | cons a l ih => rw [List.map_cons, List.mapM_cons, hd a, ih]; rfl
theorem placeOf_map {T : Type} [DecidableEq T] {enc : T → AV} {dE : T → PyData} {h : AH} (hd : ∀ y, AV.dat h 40 (enc y) = some (dE y)) (he : ∀ y z, PyData.eqv (dE y) (dE z) = decide (y = z)) (x : T) (l : List T) :
    placeOf (enc x) (l.map enc) h = l.findIdx? (fun y => decide (y = x)) := by
  unfold placeOf
  rw [hd x, dats_map 40 hd l]
  simp only [List.findIdx?_map]
  congr 1
  funext y
  exact he y x
theorem find_idx {T : Type} [DecidableEq T] {x : T} {l : List T} (m : x ∈ l) : l.findIdx? (fun y => decide (y = x)) = some (l.idxOf x) := by
  have : l.findIdx? (fun y => decide (y = x)) = some (l.findIdx (fun y => decide (y = x))) := by
    rw [List.findIdx?_eq_some_iff_findIdx_eq]
    exact ⟨List.findIdx_lt_length_of_exists ⟨x, m, by simp⟩, rfl⟩
  rw [this]
  congr 1
theorem G_index {T : Type} [DecidableEq T] {enc : T → AV} {dE : T → PyData} {h : AH} (hd : ∀ y, AV.dat h 40 (enc y) = some (dE y)) (he : ∀ y z, PyData.eqv (dE y) (dE z) = decide (y = z)) {x : T} {l : List T} (m : x ∈ l) {n : Nat} (e : h[n]? = some (.lst (l.map enc))) {Q : AV → AH → Prop} :
    RWX X (mtOp .index (.loc n) [enc x] h) Q ↔ Q (.int (l.idxOf x)) h := by
  simp only [mtOp, e, lstOp, indexOp, placeOf_map hd he, find_idx m, RW_ok]
theorem G_remove {T : Type} [DecidableEq T] {enc : T → AV} {dE : T → PyData} {h : AH} (hd : ∀ y, AV.dat h 40 (enc y) = some (dE y)) (he : ∀ y z, PyData.eqv (dE y) (dE z) = decide (y = z)) {x : T} {l : List T} (m : x ∈ l) {n : Nat} (e : h[n]? = some (.lst (l.map enc))) {Q : AV → AH → Prop} :
    RWX X (mtOp .remove (.loc n) [enc x] h) Q ↔ Q .non (h.set n (.lst ((l.eraseIdx (l.idxOf x)).map enc))) := by
  have em : ∀ (l : List T) (j : Nat), (l.map enc).eraseIdx j = (l.eraseIdx j).map enc := by
    intro l
    induction l with
    | nil => intro j; rfl
    | cons a l ih => intro j; cases j <;> simp [List.eraseIdx, ih]
  simp only [mtOp, e, lstOp, removeOp, placeOf_map hd he, find_idx m, RW_ok, em]
theorem argBest_le (f : Nat → Nat → Bool) : ∀ k, PySem.argBest f k ≤ k
  | 0 => Nat.le_refl _
  | k + 1 => by
    have := argBest_le f k
    show (if f (k + 1) (PySem.argBest f k) then k + 1 else PySem.argBest f k) ≤ _
    split <;> omega
theorem G_min {T : Type} {enc : T → AV} {dE : T → PyData} {h : AH} (hd : ∀ y, AV.dat h 40 (enc y) = some (dE y)) (ha : ∀ y z, PySem.W.alike (dE y) (dE z) = true) (hn : ∀ y, dE y ≠ .none) {l : List T} (ne : l ≠ []) {n : Nat} (e : h[n]? = some (.lst (l.map enc))) {Q : AV → AH → Prop} (q : ∀ y ∈ l, Q (enc y) h) :
    RWX X (prOp .min [.loc n] h) Q := by
  have mb : minB (l.map dE) = true := by
    unfold minB alikeB
    have lp : 0 < l.length := List.length_pos_iff.mpr ne
    simp only [List.length_map, lp, decide_true, Bool.true_and, Bool.and_eq_true, List.all_eq_true, List.mem_map, forall_exists_index, and_imp, forall_apply_eq_imp_iff₂]
    refine ⟨fun y _ z _ => ha y z, fun y _ => ?_⟩
    have := hn y
    split <;> simp_all
  have lt : minAt (l.map dE) < l.length := by
    have lp : 0 < l.length := List.length_pos_iff.mpr ne
    have := argBest_le (fun i j => PySem.W.dataLt ((l.map dE).getD i .none) ((l.map dE).getD j .none)) ((l.map dE).length - 1)
    unfold minAt
    rw [List.length_map] at this ⊢
    omega
  have ds : datsOf (l.map enc) h = some (l.map dE) := dats_map 40 hd l
  simp only [prOp, isLoc, if_true, itemsOf, e, minOp, ds, mb]
  rw [List.getElem?_map, List.getElem?_eq_getElem lt]
  exact q _ (List.getElem_mem lt)
theorem G_popAt {n : Nat} {xs : List AV} {h : AH} (e : h[n]? = some (.lst xs)) {k : Nat} {v : AV} (ev : xs[k]? = some v) (sm : k < 1000000) {Q : AV → AH → Prop} : RWX X (mtOp .pop (.loc n) [.int k] h) Q ↔ Q v (h.set n (.lst (xs.eraseIdx k))) := by
  have hk := (List.getElem?_eq_some_iff.mp ev).1
  have sq : seqIndex? (k : Int) xs.length = some k := by
    unfold seqIndex?
    simp
    omega
  have c : -(2 ^ 63) ≤ (k : Int) ∧ (k : Int) < 2 ^ 63 := by omega
  simp only [mtOp, e, lstOp, popOp, popAt, sq, ev, if_pos c, RW_ok]
theorem L_list {n : Nat} {xs : List AV} {h : AH} (e : h[n]? = some (.lst xs)) {Q : AV → AH → Prop} : RWX X (prOp .list [.loc n] h) Q ↔ Q (.loc h.length) (h ++ [.lst xs]) := by simp [prOp, seq1, itemsOf, e, prBoth, prSeq]
theorem eqv_int (i j : Nat) : PyData.eqv (.int (i : Nat)) (.int (j : Nat)) = decide (i = j) := by
  have : PyData.eqv (.int (i : Nat)) (.int (j : Nat)) = decide ((i : Int) = (j : Int)) := by simp only [PyData.eqv]; rfl
  rw [this]
  by_cases e : i = j
  · simp [e]
  · have : ¬ (i : Int) = j := by omega
    simp [e, this]
theorem dat_nat (h : AH) (i : Nat) : AV.dat h 40 (.int (i : Nat)) = some (.int (i : Nat)) := rfl
/-- whatever is data is equal to itself -/
theorem all_lay : ∀ {xs : List PyData}, (∀ d ∈ xs, d.canLay0 = true) → PyData.canLayAll0 xs = true
  | [], _ => rfl
  | d :: xs, h => by
    rw [PyData.canLayAll0, h d (by simp), all_lay fun d m => h d (by simp [m])]
    rfl
theorem mapM_mem {α β : Type} {f : α → Option β} : ∀ {xs : List α} {ys : List β}, xs.mapM f = some ys → ∀ y ∈ ys, ∃ x ∈ xs, f x = some y
  | [], ys, e, y, m => by simp at e; subst e; cases m
  | x :: xs, ys, e, y, m => by
    rw [List.mapM_cons] at e
    cases e1 : f x with
    | none => rw [e1] at e; cases e
    | some b =>
      cases e2 : xs.mapM f with
      | none => rw [e1, e2] at e; cases e
      | some bs =>
        rw [e1, e2] at e
        cases e
        rcases List.mem_cons.1 m with rfl | m
        · exact ⟨x, by simp, e1⟩
        · obtain ⟨x', m', e'⟩ := mapM_mem e2 y m
          exact ⟨x', by simp [m'], e'⟩
theorem dat_lay (h : AH) : ∀ (k : Nat) (a : AV) (d : PyData), AV.dat h k a = some d → d.canLay0 = true
  | 0, _, _, e => by cases e
  | k + 1, a, d, e => by
    have many : ∀ {xs : List AV} {f : List PyData → PyData}, (∀ ds, PyData.canLayAll0 ds = true → (f ds).canLay0 = true) → (xs.mapM fun x => AV.dat h k x).map f = some d → d.canLay0 = true := by
      intro xs f hf e
      cases e1 : (xs.mapM fun x => AV.dat h k x) with
      | none => rw [e1] at e; cases e
      | some ds =>
        rw [e1] at e
        cases e
        refine hf _ (all_lay fun d m => ?_)
        obtain ⟨x, _, e2⟩ := mapM_mem e1 d m
        exact dat_lay h k x d e2
    cases a with
    | non => cases e; rfl
    | bl b => cases e; rfl
    | int i => cases e; rfl
    | str x =>
      simp only [AV.dat] at e
      split at e
      · next q => cases e; simpa [PyData.canLay0] using q
      · cases e
    | tup xs => exact many (fun ds q => by simpa [PyData.canLay0] using q) e
    | rol xs => exact many (fun ds q => by simpa [PyData.canLay0] using q) e
    | loc n =>
      simp only [AV.dat] at e
      split at e
      · exact many (fun ds q => by simpa [PyData.canLay0] using q) e
      · cases e
theorem eqDeep_self {h : AH} {a : AV} {d : PyData} (e : AV.dat h 40 a = some d) : eqDeep a a h = some true := by
  simp only [eqDeep, e, PySem.SeqAt.eqv_refl d (dat_lay h 40 a d e)]
/-! ### errors -/
@[simp] theorem W_xmk {g : G} {x : Cur} {σ : Sl} {h : AH} {Q : AV → AH → Prop} (c : Nat) (F : Str) (e : E) : RWX X ((evP g x (.xmk c F e)).1 σ h) Q ↔ RWX X ((evP g x e).1 σ h) fun v h1 => (g.sub c c && g.xat c F) = true ∧ Q v h1 := by
  simp only [evP, ofV, RW_bind, RW_ite, RW_ok, RW_no, if_false_right]
@[simp] theorem W_xis {g : G} {d : Nat} {fs : List (Str × AV)} {σ : Sl} {h : AH} {Q : AV → AH → Prop} (c : Nat) : RWX X ((evP g (some (d, fs)) (.xis c)).1 σ h) Q ↔ (g.sub d d && g.sub c c) = true ∧ Q (.bl (g.sub d c)) h := by
  simp only [evP, ofV, RW_ite, RW_ok, RW_no, if_false_right]
@[simp] theorem S_rse0 {g : G} {x : Cur} {σ : Sl} {h : AH} {n b c : Sl → AH → Prop} {r : AV → AH → Prop} (k) (e : E) : OWX Y (exS g x (.rse k none e) σ h) n b c r ↔ Y k [] σ h := by simp only [exS]; rfl
/-! ### while -/
theorem S_whl {g : G} {x : Cur} {σ : Sl} {h : AH} (t : E) (b : List S) {n bb c : Sl → AH → Prop} {r : AV → AH → Prop} : OWX Y (exS g x (.whl t b) σ h) n bb c r ↔ OWX Y (loopW (fun σ1 h1 => (evP g x t).2 σ1 h1) (fun σ1 h1 => exB g x b σ1 h1) g.fuel σ h) n bb c r := by simp only [exS, ev, evT]
theorem loopW_X {test : Sl → AH → Res Bool} {body : Sl → AH → Out} {n bb c : Sl → AH → Prop} {r : AV → AH → Prop} (I : Nat → Sl → AH → Prop)
    (hs : ∀ k σ h, I (k + 1) σ h → RWX (fun c fs h => Y c fs σ h) (test σ h) fun b h1 => b = true ∧ OWX Y (body σ h1) (I k) n (I k) r)
    (he : ∀ σ h, I 0 σ h → RWX (fun c fs h => Y c fs σ h) (test σ h) fun b h1 => b = false ∧ n σ h1) : ∀ (k fuel : Nat) (σ : Sl) (h : AH), k < fuel → I k σ h → OWX Y (loopW test body fuel σ h) n bb c r
  | k, 0, _, _, hk, _ => absurd hk (Nat.not_lt_zero _)
  | 0, f + 1, σ, h, _, p => by
    have q := he σ h p
    unfold loopW
    revert q
    cases test σ h with
    | ok b h1 => rintro ⟨rfl, q⟩; exact q
    | ex => exact id
    | no => exact id
  | k + 1, f + 1, σ, h, hk, p => by
    have q := hs k σ h p
    unfold loopW
    revert q
    cases test σ h with
    | ok b h1 =>
      rintro ⟨rfl, q⟩
      simp only
      revert q
      cases body σ h1 with
      | nx σ' h' => exact fun q => loopW_X I hs he k f σ' h' (by omega) q
      | ct σ' h' => exact fun q => loopW_X I hs he k f σ' h' (by omega) q
      | bk σ' h' => exact id
      | rt v h' => exact id
      | ex => exact id
      | no => exact id
    | ex => exact id
    | no => exact id
theorem gOfX_fuel {rx : Nat → Nat} {sub : Nat → Nat → Bool} {atr xat : Nat → Str → Bool} {fuel : Nat} (ds : List Df) : ∀ n, (gOfX ds rx sub atr xat fuel n).fuel = fuel
  | 0 => rfl
  | _ + 1 => rfl
/-! ### dicts of numbers -/
theorem putA_any {κ : Type} [DecidableEq κ] (kvs : List (κ × AV)) (k k' : κ) (v : AV) : (putA kvs k v).any (fun p => decide (p.1 = k')) = (decide (k = k') || kvs.any fun p => decide (p.1 = k')) := by
  unfold putA
  split
  · next h =>
    rw [List.any_map]
    by_cases e : k = k'
    · subst e
      simp only [decide_true, Bool.true_or]
      rw [List.any_eq_true] at h ⊢
      obtain ⟨p, hp, e⟩ := h
      refine ⟨p, hp, ?_⟩
      simp at e
      simp [e]
    · simp only [e, decide_false, Bool.false_or]
      congr 1
      funext p
      simp only [Function.comp]
      split
      · next q => simp [q]
      · rfl
  · simp [List.any_append, Bool.or_comm]
theorem putA_le {κ : Type} [DecidableEq κ] (kvs : List (κ × AV)) (k : κ) (v : AV) : (putA kvs k v).length ≤ kvs.length + 1 := by
  unfold putA
  split <;> simp
theorem in_dk {n : Nat} {kvs : List (Key × AV)} {h : AH} (e : h[n]? = some (.dk kvs)) (i : Int) : inOp (.int i) (.loc n) h = some (kvs.any fun p => decide (p.1 = .inl i)) := by simp [inOp, e, AV.keyOf]
theorem put_dk {n : Nat} {kvs : List (Key × AV)} {h : AH} (e : h[n]? = some (.dk kvs)) (i : Int) (v : AV) (l : kvs.length < sizeLine) : putOp (.loc n) (.int i) v h = some (h.set n (.dk (putA kvs (.inl i) v))) := by simp [putOp, e, AV.keyOf, l]
end Ev

set_option Elab.async false
set_option linter.all false
set_option maxRecDepth 100000
set_option maxHeartbeats 8000000

namespace Mx
open Ev PySem L2
/-- _law_box -/
def b0 : List S := [(.set (.nm 2) (.bin .Add (.bin .Mult (.cst (.int 6007)) (.var 1)) (.cst (.int 281)))), (.ite (.cmp .Lt (.var 1) (.pr .len [(.var 0)])) [(.set (.nm 2) (.pr .abs [(.idx (.var 0) (.var 1))]))] [(.ite (.cmp .Gt (.pr .len [(.var 0)]) (.cst (.int 0))) [(.set (.nm 2) (.bin .Add (.var 2) (.bin .Mult (.bin .Mod (.pr .int [(.pr .abs [(.idx (.var 0) (.bin .Mod (.pr .int [(.var 1)]) (.pr .len [(.var 0)])))])]) (.cst (.int 2147483629))) (.cst (.int 70009)))))] [])]), (.ret (.lst [(.idx (.lst [(.cst (.int 0)), (.var 2)]) (.pr .int [(.cmp .GtE (.var 2) (.bin .Pow (.cst (.int 10)) (.cst (.int 18))))])), (.bin .Add (.bin .Mod (.pr .int [(.bin .Add (.bin .Mult (.bin .Mod (.pr .int [(.var 2)]) (.cst (.int 2147483629))) (.cst (.int 44017))) (.bin .Mult (.cst (.int 53089)) (.var 1)))]) (.cst (.int 2147483629))) (.cst (.int 1))), (.cst (.int 0))]))]
@[irreducible] def d0 : Df := ⟨3, 2, b0⟩
/-- _law_raise_a -/
def b1 : List S := [(.ite (.cmp .Eq (.var 0) (.cst (.int 0))) [(.rse 0 (some (.ofString "at")) (.var 1))] [(.ite (.cmp .Eq (.var 0) (.cst (.int 1))) [(.rse 1 (some (.ofString "at")) (.var 1))] [(.ite (.cmp .Eq (.var 0) (.cst (.int 2))) [(.rse 2 (some (.ofString "at")) (.var 1))] [(.ite (.cmp .Eq (.var 0) (.cst (.int 3))) [(.rse 3 (some (.ofString "at")) (.var 1))] [(.ite (.cmp .Eq (.var 0) (.cst (.int 4))) [(.rse 4 (some (.ofString "at")) (.var 1))] [(.ite (.cmp .Eq (.var 0) (.cst (.int 5))) [(.rse 5 (some (.ofString "at")) (.var 1))] [(.ite (.cmp .Eq (.var 0) (.cst (.int 6))) [(.rse 6 (some (.ofString "at")) (.var 1))] [(.ite (.cmp .Eq (.var 0) (.cst (.int 7))) [(.rse 7 (some (.ofString "at")) (.var 1))] [])])])])])])])])]
@[irreducible] def d1 : Df := ⟨2, 2, b1⟩
/-- _law_raise_b -/
def b2 : List S := [(.ite (.cmp .Eq (.var 0) (.cst (.int 8))) [(.rse 8 (some (.ofString "at")) (.var 1))] [(.ite (.cmp .Eq (.var 0) (.cst (.int 9))) [(.rse 9 (some (.ofString "at")) (.var 1))] [(.ite (.cmp .Eq (.var 0) (.cst (.int 10))) [(.rse 10 (some (.ofString "at")) (.var 1))] [(.ite (.cmp .Eq (.var 0) (.cst (.int 11))) [(.rse 11 (some (.ofString "at")) (.var 1))] [(.ite (.cmp .Eq (.var 0) (.cst (.int 12))) [(.rse 12 (some (.ofString "at")) (.var 1))] [(.ite (.cmp .Eq (.var 0) (.cst (.int 13))) [(.rse 13 (some (.ofString "at")) (.var 1))] [(.ite (.cmp .Eq (.var 0) (.cst (.int 14))) [(.rse 14 (some (.ofString "at")) (.var 1))] [(.ite (.cmp .Eq (.var 0) (.cst (.int 15))) [(.rse 15 (some (.ofString "at")) (.var 1))] [])])])])])])])])]
@[irreducible] def d2 : Df := ⟨2, 2, b2⟩
/-- _law_raise_c -/
def b3 : List S := [(.ite (.cmp .Eq (.var 0) (.cst (.int 16))) [(.rse 16 (some (.ofString "word")) (.var 1))] [(.ite (.cmp .Eq (.var 0) (.cst (.int 17))) [(.rse 17 (some (.ofString "at")) (.var 1))] [(.ite (.cmp .Eq (.var 0) (.cst (.int 18))) [(.rse 18 (some (.ofString "at")) (.var 1))] [(.ite (.cmp .Eq (.var 0) (.cst (.int 19))) [(.rse 19 (some (.ofString "at")) (.var 1))] [(.ite (.cmp .Eq (.var 0) (.cst (.int 20))) [(.rse 20 (some (.ofString "at")) (.var 1))] [(.ite (.cmp .Eq (.var 0) (.cst (.int 21))) [(.rse 21 (some (.ofString "at")) (.var 1))] [(.ite (.cmp .Eq (.var 0) (.cst (.int 22))) [(.rse 22 (some (.ofString "at")) (.var 1))] [(.ite (.cmp .Eq (.var 0) (.cst (.int 23))) [(.rse 23 (some (.ofString "at")) (.var 1))] [])])])])])])])])]
@[irreducible] def d3 : Df := ⟨2, 2, b3⟩
/-- _law_raise_d -/
def b4 : List S := [(.ite (.cmp .Eq (.var 0) (.cst (.int 24))) [(.rse 24 (some (.ofString "at")) (.var 1))] [(.ite (.cmp .Eq (.var 0) (.cst (.int 25))) [(.rse 25 (some (.ofString "at")) (.var 1))] [(.ite (.cmp .Eq (.var 0) (.cst (.int 26))) [(.rse 26 (some (.ofString "at")) (.var 1))] [(.ite (.cmp .Eq (.var 0) (.cst (.int 27))) [(.rse 27 none (.cst .non))] [])])])])]
@[irreducible] def d4 : Df := ⟨2, 2, b4⟩
/-- _law_raise -/
def b5 : List S := [(.ite (.cmp .Lt (.var 0) (.cst (.int 8))) [(.expr (.call 1 [(.var 0), (.var 1)]))] [(.ite (.cmp .Lt (.var 0) (.cst (.int 16))) [(.expr (.call 2 [(.var 0), (.var 1)]))] [(.ite (.cmp .Lt (.var 0) (.cst (.int 24))) [(.expr (.call 3 [(.var 0), (.var 1)]))] [(.expr (.call 4 [(.var 0), (.var 1)]))])])])]
@[irreducible] def d5 : Df := ⟨2, 2, b5⟩
/-- _law_caught_a -/
def b6 : List S := [(.try_ [(.expr (.call 5 [(.var 0), (.var 1)]))] [(.mk 0 (some 2) [(.ret (.tup [(.cst (.int 0)), (.xfld (.ofString "at"))]))]), (.mk 1 (some 2) [(.ret (.tup [(.cst (.int 1)), (.xfld (.ofString "at"))]))]), (.mk 2 (some 2) [(.ret (.tup [(.cst (.int 2)), (.xfld (.ofString "at"))]))]), (.mk 3 (some 2) [(.ret (.tup [(.cst (.int 3)), (.xfld (.ofString "at"))]))]), (.mk 4 (some 2) [(.ret (.tup [(.cst (.int 4)), (.xfld (.ofString "at"))]))]), (.mk 5 (some 2) [(.ret (.tup [(.cst (.int 5)), (.xfld (.ofString "at"))]))]), (.mk 6 (some 2) [(.ret (.tup [(.cst (.int 6)), (.xfld (.ofString "at"))]))]), (.mk 7 (some 2) [(.ret (.tup [(.cst (.int 7)), (.xfld (.ofString "at"))]))])]), (.ret (.cst .non))]
@[irreducible] def d6 : Df := ⟨3, 2, b6⟩
/-- _law_caught_b -/
def b7 : List S := [(.try_ [(.ret (.call 6 [(.var 0), (.var 1)]))] [(.mk 8 (some 2) [(.ret (.tup [(.cst (.int 8)), (.xfld (.ofString "at"))]))]), (.mk 9 (some 2) [(.ret (.tup [(.cst (.int 9)), (.xfld (.ofString "at"))]))]), (.mk 10 (some 2) [(.ret (.tup [(.cst (.int 10)), (.xfld (.ofString "at"))]))]), (.mk 11 (some 2) [(.ret (.tup [(.cst (.int 11)), (.xfld (.ofString "at"))]))]), (.mk 12 (some 2) [(.ret (.tup [(.cst (.int 12)), (.xfld (.ofString "at"))]))]), (.mk 13 (some 2) [(.ret (.tup [(.cst (.int 13)), (.xfld (.ofString "at"))]))]), (.mk 14 (some 2) [(.ret (.tup [(.cst (.int 14)), (.xfld (.ofString "at"))]))]), (.mk 15 (some 2) [(.ret (.tup [(.cst (.int 15)), (.xfld (.ofString "at"))]))])]), (.ret (.cst .non))]
@[irreducible] def d7 : Df := ⟨3, 2, b7⟩
/-- _law_caught_c -/
def b8 : List S := [(.try_ [(.ret (.call 7 [(.var 0), (.var 1)]))] [(.mk 16 (some 2) [(.ret (.tup [(.cst (.int 16)), (.xfld (.ofString "word"))]))]), (.mk 17 (some 2) [(.ret (.tup [(.cst (.int 17)), (.xfld (.ofString "at"))]))]), (.mk 18 (some 2) [(.ret (.tup [(.cst (.int 18)), (.xfld (.ofString "at"))]))]), (.mk 19 (some 2) [(.ret (.tup [(.cst (.int 19)), (.xfld (.ofString "at"))]))]), (.mk 20 (some 2) [(.ret (.tup [(.cst (.int 20)), (.xfld (.ofString "at"))]))]), (.mk 21 (some 2) [(.ret (.tup [(.cst (.int 21)), (.xfld (.ofString "at"))]))]), (.mk 22 (some 2) [(.ret (.tup [(.cst (.int 22)), (.xfld (.ofString "at"))]))]), (.mk 23 (some 2) [(.ret (.tup [(.cst (.int 23)), (.xfld (.ofString "at"))]))])]), (.ret (.cst .non))]
@[irreducible] def d8 : Df := ⟨3, 2, b8⟩
/-- _law_caught_d -/
def b9 : List S := [(.try_ [(.ret (.call 8 [(.var 0), (.var 1)]))] [(.mk 24 (some 2) [(.ret (.tup [(.cst (.int 24)), (.xfld (.ofString "at"))]))]), (.mk 25 (some 2) [(.ret (.tup [(.cst (.int 25)), (.xfld (.ofString "at"))]))]), (.mk 26 (some 2) [(.ret (.tup [(.cst (.int 26)), (.xfld (.ofString "at"))]))]), (.mk 27 none [(.ret (.tup [(.cst (.int 27)), (.var 1)]))])]), (.ret (.cst .non))]
@[irreducible] def d9 : Df := ⟨3, 2, b9⟩
/-- _law_is_alone -/
def b10 : List S := [(.set (.nm 2) (.lst [])), (.try_ [(.expr (.call 5 [(.var 0), (.var 1)]))] [(.mk 28 (some 3) [(.set (.nm 2) (.lst [(.xis 0), (.xis 1), (.xis 2), (.xis 3), (.xis 4), (.xis 5), (.xis 6), (.xis 7), (.xis 8), (.xis 9), (.xis 10), (.xis 11), (.xis 12), (.xis 13), (.xis 14), (.xis 15), (.xis 16), (.xis 17), (.xis 18), (.xis 19), (.xis 20), (.xis 21), (.xis 22), (.xis 23), (.xis 24), (.xis 25), (.xis 26), (.xis 27)]))])]), (.ret (.cmp .Eq (.var 2) (.comp none [4] (.nm 4) (.rng (.cst (.int 28))) [] (.cmp .Eq (.var 4) (.var 0)))))]
@[irreducible] def d10 : Df := ⟨5, 2, b10⟩
/-- _law_take -/
def b11 : List S := [(.ite (.cmp .Gt (.idx (.var 0) (.cst (.int 0))) (.cst (.int 0))) [(.set (.nm 3) (.bin .Mod (.pr .int [(.idx (.var 0) (.cst (.int 0)))]) (.var 1))), (.put (.var 0) (.cst (.int 0)) (.bin .FloorDiv (.idx (.var 0) (.cst (.int 0))) (.var 1))), (.ret (.var 3))] []), (.put (.var 0) (.cst (.int 2)) (.bin .Add (.idx (.var 0) (.cst (.int 2))) (.cst (.int 1)))), (.set (.nm 2) (.bin .Mod (.pr .int [(.bin .Add (.bin .Mult (.bin .Add (.idx (.var 0) (.cst (.int 1))) (.bin .Mult (.cst (.int 70001)) (.idx (.var 0) (.cst (.int 2))))) (.cst (.int 61211))) (.cst (.int 37)))]) (.cst (.int 2147483563)))), (.put (.var 0) (.cst (.int 1)) (.bin .Add (.bin .Mod (.pr .int [(.bin .Add (.bin .Mult (.var 2) (.cst (.int 38011))) (.cst (.int 23057)))]) (.cst (.int 2147483629))) (.cst (.int 1)))), (.ret (.bin .Mod (.pr .int [(.bin .FloorDiv (.bin .Add (.bin .Mult (.var 2) (.cst (.int 2147483647))) (.idx (.var 0) (.cst (.int 1)))) (.cst (.int 8191)))]) (.var 1)))]
@[irreducible] def d11 : Df := ⟨4, 2, b11⟩
/-- _law_pick -/
def b12 : List S := [(.ret (.idx (.var 1) (.call 11 [(.var 0), (.pr .len [(.var 1)])])))]
@[irreducible] def d12 : Df := ⟨2, 2, b12⟩
/-- law -/
def b13 : List S := [(.set (.nm 1) (.call 0 [(.var 0), (.cst (.int 0))])), (.for_ (.nm 2) (.rng (.cst (.int 28))) [(.set (.nm 4) (.call 12 [(.var 1), (.lst [(.cst (.int 0)), (.neg (.cst (.int 1))), (.cst .non), (.cst (.str (.ofString "words"))), (.tup [(.cst (.int 1)), (.cst (.int 2))]), (.lst [(.cst (.int 3))]), (.cst (.bl true)), (.tup [(.cst (.str (.ofString "rows"))), (.cst (.int 0)), (.cst (.int 7))])])])), (.ite (.or (.cmp .NotEq (.call 9 [(.var 2), (.var 4)]) (.tup [(.var 2), (.var 4)])) (.not (.call 10 [(.var 2), (.var 4)]))) [(.ret (.cst (.bl false)))] [])]), (.set (.nm 3) (.tup [(.xmk 16 (.ofString "word") (.cst (.str (.ofString "x")))), (.xmk 0 (.ofString "at") (.tup [(.cst (.str (.ofString "rows"))), (.cst (.int 0)), (.cst (.int 1))])), (.xmk 15 (.ofString "at") (.neg (.cst (.int 1)))), (.xmk 3 (.ofString "at") (.cst (.int 3)))])), (.ret (.cmp .Eq (.var 3) (.tup [(.cst (.str (.ofString "x"))), (.tup [(.cst (.str (.ofString "rows"))), (.cst (.int 0)), (.cst (.int 1))]), (.neg (.cst (.int 1))), (.cst (.int 3))])))]
@[irreducible] def d13 : Df := ⟨5, 1, b13⟩
def dfs : List Df := [d0, d1, d2, d3, d4, d5, d6, d7, d8, d9, d10, d11, d12, d13]
def atrB (c : Nat) (F : Str) : Bool := false
def subB (c d : Nat) : Bool := decide (c < 29) && decide (d < 29) && (c == d || d == 28)
def xatB (c : Nat) (F : Str) : Bool := (decide (c = 0 ∧ F = .ofString "at") || (decide (c = 1 ∧ F = .ofString "at") || (decide (c = 2 ∧ F = .ofString "at") || (decide (c = 3 ∧ F = .ofString "at") || (decide (c = 4 ∧ F = .ofString "at") || (decide (c = 5 ∧ F = .ofString "at") || (decide (c = 6 ∧ F = .ofString "at") || (decide (c = 7 ∧ F = .ofString "at") || (decide (c = 8 ∧ F = .ofString "at") || (decide (c = 9 ∧ F = .ofString "at") || (decide (c = 10 ∧ F = .ofString "at") || (decide (c = 11 ∧ F = .ofString "at") || (decide (c = 12 ∧ F = .ofString "at") || (decide (c = 13 ∧ F = .ofString "at") || (decide (c = 14 ∧ F = .ofString "at") || (decide (c = 15 ∧ F = .ofString "at") || (decide (c = 16 ∧ F = .ofString "word") || (decide (c = 17 ∧ F = .ofString "at") || (decide (c = 18 ∧ F = .ofString "at") || (decide (c = 19 ∧ F = .ofString "at") || (decide (c = 20 ∧ F = .ofString "at") || (decide (c = 21 ∧ F = .ofString "at") || (decide (c = 22 ∧ F = .ofString "at") || (decide (c = 23 ∧ F = .ofString "at") || (decide (c = 24 ∧ F = .ofString "at") || (decide (c = 25 ∧ F = .ofString "at") || (decide (c = 26 ∧ F = .ofString "at") || false)))))))))))))))))))))))))))
def rxB (i : Nat) : Nat := 0
def gL (m : Nat) : G := gOfX dfs rxB subB atrB xatB 100000 m
theorem gL_atr (m : Nat) : (gL m).atr = atrB := gOfX_atr _ _
theorem gL_sub (m : Nat) : (gL m).sub = subB := gOfX_sub _ _
theorem gL_xat (m : Nat) : (gL m).xat = xatB := gOfX_xat _ _
@[simp] theorem f0 {m : Nat} (l : 0 < m) (vs : List AV) (h : AH) : (gL m).fn 0 vs h = d0.run (gL 0) vs h := gOfX_fn vs h l
@[simp] theorem f1 {m : Nat} (l : 1 < m) (vs : List AV) (h : AH) : (gL m).fn 1 vs h = d1.run (gL 1) vs h := gOfX_fn vs h l
@[simp] theorem f2 {m : Nat} (l : 2 < m) (vs : List AV) (h : AH) : (gL m).fn 2 vs h = d2.run (gL 2) vs h := gOfX_fn vs h l
@[simp] theorem f3 {m : Nat} (l : 3 < m) (vs : List AV) (h : AH) : (gL m).fn 3 vs h = d3.run (gL 3) vs h := gOfX_fn vs h l
@[simp] theorem f4 {m : Nat} (l : 4 < m) (vs : List AV) (h : AH) : (gL m).fn 4 vs h = d4.run (gL 4) vs h := gOfX_fn vs h l
@[simp] theorem f5 {m : Nat} (l : 5 < m) (vs : List AV) (h : AH) : (gL m).fn 5 vs h = d5.run (gL 5) vs h := gOfX_fn vs h l
@[simp] theorem f6 {m : Nat} (l : 6 < m) (vs : List AV) (h : AH) : (gL m).fn 6 vs h = d6.run (gL 6) vs h := gOfX_fn vs h l
@[simp] theorem f7 {m : Nat} (l : 7 < m) (vs : List AV) (h : AH) : (gL m).fn 7 vs h = d7.run (gL 7) vs h := gOfX_fn vs h l
@[simp] theorem f8 {m : Nat} (l : 8 < m) (vs : List AV) (h : AH) : (gL m).fn 8 vs h = d8.run (gL 8) vs h := gOfX_fn vs h l
@[simp] theorem f9 {m : Nat} (l : 9 < m) (vs : List AV) (h : AH) : (gL m).fn 9 vs h = d9.run (gL 9) vs h := gOfX_fn vs h l
@[simp] theorem f10 {m : Nat} (l : 10 < m) (vs : List AV) (h : AH) : (gL m).fn 10 vs h = d10.run (gL 10) vs h := gOfX_fn vs h l
@[simp] theorem f11 {m : Nat} (l : 11 < m) (vs : List AV) (h : AH) : (gL m).fn 11 vs h = d11.run (gL 11) vs h := gOfX_fn vs h l
@[simp] theorem f12 {m : Nat} (l : 12 < m) (vs : List AV) (h : AH) : (gL m).fn 12 vs h = d12.run (gL 12) vs h := gOfX_fn vs h l
@[simp] theorem f13 {m : Nat} (l : 13 < m) (vs : List AV) (h : AH) : (gL m).fn 13 vs h = d13.run (gL 13) vs h := gOfX_fn vs h l
end Mx

set_option Elab.async false
set_option linter.all false
set_option maxRecDepth 100000
set_option maxHeartbeats 8000000
namespace Mx
open Ev PySem L2
variable {X : XQ}
/-! ### the source of draws -/
def Box (n : Nat) (h : AH) : Prop := ∃ a b c : Int, h[n]? = some (.lst [.int a, .int b, .int c])
structure Dr (n : Nat) (h h' : AH) : Prop where
  kp : Kp n h h'
  bx : Box n h'
theorem Dr.refl {n h} (b : Box n h) : Dr n h h := ⟨Kp.refl, b⟩
theorem Dr.trans {n a b c} (p : Dr n a b) (q : Dr n b c) : Dr n a c := ⟨p.kp.trans q.kp, q.bx⟩
theorem Box.lt {n h} (b : Box n h) : n < h.length := by obtain ⟨_, _, _, e⟩ := b; exact lt_of_get e
theorem Box.ke {n h h'} (b : Box n h) (k : Ke h h') : Box n h' := by obtain ⟨x, y, z, e⟩ := b; exact ⟨x, y, z, k.get e⟩
theorem Dr.ke {n a b c} (p : Dr n a b) (q : Ke b c) : Dr n a c := ⟨p.kp.ke q, p.bx.ke q⟩
theorem take (g : G) {n : Nat} {h : AH} (b : Box n h) {m : Nat} (hm : 0 < m) (hM : m < 1000000) :
    RW (d11.run g [.loc n, .int m] h) fun v h' => (∃ k : Nat, v = .int k ∧ k < m) ∧ Dr n h h' := by
  obtain ⟨u0, u1, u2, e⟩ := b
  have hl := lt_of_get e
  have gs : ∀ o : AO, (h.set n o)[n]? = some o := fun o => List.getElem?_set_self hl
  have e1 : ¬ (m : Int) = 0 := by omega
  have e2 : (m : Int).natAbs < 1073741824 := by omega
  have fm : ∀ a : Int, ∃ k : Nat, a.fmod m = k ∧ k < m := fun a => ⟨(a.fmod m).toNat, by have := Int.fmod_nonneg_of_pos a (show (0 : Int) < m by omega); omega, by have := Int.fmod_lt_of_pos a (show (0 : Int) < m by omega); have := Int.fmod_nonneg_of_pos a (show (0 : Int) < m by omega); omega⟩
  rw [run_W]
  by_cases hb : 0 < u0
  · obtain ⟨k, e3, l3⟩ := fm u0
    simp [d11, b11, X_lst, e, hb, prOp, e1, e3, divOk, e2, atI, ixN, putOp, l3]
    exact ⟨by omega, ⟨by omega, by omega⟩, ⟨k, rfl, l3⟩, Kp.refl.set (.inr rfl) _, ⟨_, _, _, gs _⟩⟩
  · simp [d11, b11, X_lst, e, hb, prOp, e1, divOk, e2, atI, ixN, putOp, gs, fewMul, small]
    exact ⟨by omega, fm _, Kp.refl.set (.inr rfl) _, ⟨_, _, _, gs _⟩⟩
/-! ### names -/
theorem fmod_nat (k n : Nat) : (k : Int).fmod (n : Int) = ((k % n : Nat) : Int) := by
  rw [Int.fmod_eq_emod_of_nonneg _ (by omega)]; rfl
theorem law_box (g : G) {ns : List Int} {k : Nat} (hk : k < 4) (hl : ns.length ≤ 63) (h : AH) :
    RW (d0.run g [.rol (ns.map .int), .int k] h) fun v h' => ∃ q, v = .loc q ∧ Box q h' ∧ Ke h h' ∧ h.length ≤ q := by
  have fmn := fmod_nat k ns.length
  have idx : ∀ {X : XQ} (b : Prop) [Decidable b] (c : Int) {Q : AV → AH → Prop}, RWX X (idxOp (.loc h.length) (.int (if b then 1 else 0)) (h ++ [.lst [.int 0, .int c]])) Q ↔ Q (.int (if b then c else 0)) (h ++ [.lst [.int 0, .int c]]) := by
    intro X b _ c Q
    rw [X_lst (get_last _)]
    by_cases bb : b <;> simp [bb]
  have fin : ∀ (o : AO) (c e : Int), Box (h ++ [o]).length ((h ++ [o]) ++ [.lst [.int c, .int e, .int 0]]) ∧ Ke h ((h ++ [o]) ++ [.lst [.int c, .int e, .int 0]]) ∧ h.length ≤ (h ++ [o]).length :=
    fun o c e => ⟨⟨c, e, 0, get_last _⟩, (Ke.refl.push _).push _, by simp⟩
  rw [run_W]; simp only [d0, b0]
  by_cases c : k < ns.length
  · have ek : (ns.map AV.int)[k]? = some (.int ns[k]) := by simp [c]
    simp [show (k : Int) < ns.length by omega, fewMul, small, ek, c, sizeLine, powOk]
    rw [idx]
    exact fin _ _ _
  · by_cases z : 0 < ns.length
    · have ml := Nat.mod_lt k z
      have ek : (ns.map AV.int)[k % ns.length]? = some (.int ns[k % ns.length]) := by simp [ml]
      have ek2 : atI (ns.map AV.int) ((k : Int) % (ns.length : Int)) = some (.int ns[k % ns.length]) := by rw [← Int.natCast_emod, Ev.atI_nat]; exact ek
      have ne : ¬ ns = [] := fun e => by rw [e] at z; simp at z
      simp [show ¬ (k : Int) < ns.length by omega, show (0 : Int) < ns.length by omega, fewMul, small, c, sizeLine, powOk, fmn, ek2, ne, z]
      rw [idx]
      exact fin _ _ _
    · have e0 : ns = [] := List.length_eq_zero_iff.1 (by omega)
      subst e0
      simp [fewMul, small, sizeLine, powOk, show ¬ (k : Int) < 0 by omega]
      rw [idx]
      exact fin _ _ _
/-! ### names -/
theorem law_pick {m : Nat} (l : 12 ≤ m) {n : Nat} {h : AH} (b : Box n h) {q : Nat} (ne : q ≠ n) {xs : List AV} (e : h[q]? = some (.lst xs)) (lo : 0 < xs.length) (hi : xs.length < 1000000) :
    RW (d12.run (gL m) [.loc n, .loc q] h) fun v h' => v ∈ xs ∧ Dr n h h' := by
  rw [run_W]; simp [d12, b12, L_lst e, show 11 < m by omega]
  refine (take (gL 11) b lo hi).mono fun v h1 p => ?_
  obtain ⟨⟨k, rfl, lk⟩, r⟩ := p
  rw [X_lst (r.kp.get e ne)]
  simp [lk, r]
theorem Dr.push {n a b} (p : Dr n a b) (o : AO) : Dr n a (b ++ [o]) := p.ke (Ke.refl.push o)
theorem Dr.set {n a b} (p : Dr n a b) {k : Nat} (l : a.length ≤ k) (ln : n < a.length) (o : AO) : Dr n a (b.set k o) := by
  refine ⟨p.kp.set (.inl l) o, ?_⟩
  obtain ⟨x, y, z, e⟩ := p.bx
  exact ⟨x, y, z, get_set_ne e (by omega) o⟩
theorem range_at {m : Nat} {d t : List Nat} {y : Nat} (e : List.range m = d ++ y :: t) : y = d.length ∧ d.length < m := by
  have : (List.range m)[d.length]? = some y := by rw [e]; simp
  have l := lt_of_get this
  simp at l
  simp [l] at this
  exact ⟨this.symm, l⟩
end Mx

set_option Elab.async false
set_option linter.all false
set_option maxRecDepth 100000
set_option maxHeartbeats 8000000
namespace Mx
open Ev PySem L2
variable {X : XQ} {Y : YQ}
def fldN (n : Nat) : Str := if n = 16 then .ofString "word" else .ofString "at"
def flds (n : Nat) (v : AV) : List (Str × AV) := if n = 27 then [] else [(fldN n, v)]
theorem raise_a (g : G) {n : Nat} (hn : n < 8) (v : AV) (h : AH) {Q : AV → AH → Prop} (hX : X n (flds n v) h) : RWX X (d1.run g [.int n, v] h) Q := by
  rw [run_WX]
  rcases (by omega : n = 0 ∨ n = 1 ∨ n = 2 ∨ n = 3 ∨ n = 4 ∨ n = 5 ∨ n = 6 ∨ n = 7) with rfl | rfl | rfl | rfl | rfl | rfl | rfl | rfl <;> simp [d1, b1] <;> simpa [flds, fldN] using hX
theorem raise_b (g : G) {n : Nat} (hn : n < 16) (h8 : 8 ≤ n) (v : AV) (h : AH) {Q : AV → AH → Prop} (hX : X n (flds n v) h) : RWX X (d2.run g [.int n, v] h) Q := by
  rw [run_WX]
  rcases (by omega : n = 8 ∨ n = 9 ∨ n = 10 ∨ n = 11 ∨ n = 12 ∨ n = 13 ∨ n = 14 ∨ n = 15) with rfl | rfl | rfl | rfl | rfl | rfl | rfl | rfl <;> simp [d2, b2] <;> simpa [flds, fldN] using hX
theorem raise_c (g : G) {n : Nat} (hn : n < 24) (h8 : 16 ≤ n) (v : AV) (h : AH) {Q : AV → AH → Prop} (hX : X n (flds n v) h) : RWX X (d3.run g [.int n, v] h) Q := by
  rw [run_WX]
  rcases (by omega : n = 16 ∨ n = 17 ∨ n = 18 ∨ n = 19 ∨ n = 20 ∨ n = 21 ∨ n = 22 ∨ n = 23) with rfl | rfl | rfl | rfl | rfl | rfl | rfl | rfl <;> simp [d3, b3] <;> simpa [flds, fldN] using hX
theorem raise_d (g : G) {n : Nat} (hn : n < 28) (h8 : 24 ≤ n) (v : AV) (h : AH) {Q : AV → AH → Prop} (hX : X n (flds n v) h) : RWX X (d4.run g [.int n, v] h) Q := by
  rw [run_WX]
  rcases (by omega : n = 24 ∨ n = 25 ∨ n = 26 ∨ n = 27) with rfl | rfl | rfl | rfl <;> simp [d4, b4] <;> simpa [flds, fldN] using hX
theorem raise_ {m : Nat} (l : 5 ≤ m) {n : Nat} (hn : n < 28) (v : AV) (h : AH) {Q : AV → AH → Prop} (hX : X n (flds n v) h) : RWX X (d5.run (gL m) [.int n, v] h) Q := by
  rw [run_WX]
  simp [d5, b5, show 1 < m by omega, show 2 < m by omega, show 3 < m by omega, show 4 < m by omega]
  by_cases c1 : n < 8
  · have : (n : Int) < 8 := by omega
    simp [this]
    exact .inr (raise_a _ c1 v h hX)
  · have : ¬ (n : Int) < 8 := by omega
    simp [this]
    by_cases c2 : n < 16
    · have : (n : Int) < 16 := by omega
      simp [this]
      exact ⟨by omega, .inr (raise_b _ c2 (by omega) v h hX)⟩
    · have : ¬ (n : Int) < 16 := by omega
      simp [this]
      by_cases c3 : n < 24
      · have : (n : Int) < 24 := by omega
        simp [this]
        exact ⟨by omega, by omega, .inr (raise_c _ c3 (by omega) v h hX)⟩
      · have : ¬ (n : Int) < 24 := by omega
        simp [this]
        exact ⟨by omega, by omega, by omega, raise_d _ hn (by omega) v h hX⟩
theorem xat_ok : ∀ n, n < 27 → xatB n (fldN n) = true := by decide +kernel
theorem sub_lt {c d : Nat} (hc : c < 28) (hd : d < 28) : subB c d = decide (c = d) := by
  unfold subB
  rw [Bool.eq_iff_iff]
  simp
  omega
theorem sub_28 {c : Nat} (hc : c < 28) : subB c 28 = true := by
  unfold subB
  simp
  omega
theorem sub_self {c : Nat} (hc : c < 29) : subB c c = true := by
  unfold subB
  simp
  omega
/-- a clause of its own -/
theorem clause {m n d i : Nat} {s : List S} {t : List Hd} {fs : List (Str × AV)} {σ : Sl} {h : AH} {nn bb cc : Sl → AH → Prop} {rr : AV → AH → Prop} (hn : n < 28) (hd : d < 28) (hi : i < σ.length) :
    OWX Y (exH (gL m) (.mk d (some i) s :: t) n fs σ h) nn bb cc rr ↔ if n = d then OW (exB (gL m) (some (n, fs)) s (unO (some i) σ) h) (fun σ h => nn (unO (some i) σ) h) (fun σ h => bb (unO (some i) σ) h) (fun σ h => cc (unO (some i) σ) h) rr else OWX Y (exH (gL m) t n fs σ h) nn bb cc rr := by
  rw [H_cons, gL_sub, sub_self (by omega), sub_self (by omega), sub_lt hn hd]
  simp [inO, hi]
theorem caught_a {m : Nat} (l : 6 ≤ m) {n : Nat} (hn : n < 28) (v : AV) (h : AH) {Q : AV → AH → Prop} (h1 : n < 8 → Q (.tup [.int n, v]) h) (h2 : 8 ≤ n → X n (flds n v) h) : RWX X (d6.run (gL m) [.int n, v] h) Q := by
  rw [run_WX]
  simp [d6, b6, show 5 < m by omega]
  refine raise_ (show 5 ≤ 5 by omega) hn v h ?_
  rw [clause hn (by omega) (by simp), clause hn (by omega) (by simp), clause hn (by omega) (by simp), clause hn (by omega) (by simp), clause hn (by omega) (by simp), clause hn (by omega) (by simp), clause hn (by omega) (by simp), clause hn (by omega) (by simp), H_nil]
  by_cases c : n < 8
  · have q := h1 c
    have xa := xat_ok n (by omega)
    rw [← gL_xat m] at xa
    have e16 : n ≠ 16 := by omega
    have e27 : n ≠ 27 := by omega
    simp only [fldN, e16, if_false] at xa
    rcases (by omega : n = 0 ∨ n = 1 ∨ n = 2 ∨ n = 3 ∨ n = 4 ∨ n = 5 ∨ n = 6 ∨ n = 7) with rfl | rfl | rfl | rfl | rfl | rfl | rfl | rfl <;> (simp at q; simp [xa, flds, fldN, sizeLine, q])
  · have q := h2 (by omega)
    simp [show n ≠ 0 by omega, show n ≠ 1 by omega, show n ≠ 2 by omega, show n ≠ 3 by omega, show n ≠ 4 by omega, show n ≠ 5 by omega, show n ≠ 6 by omega, show n ≠ 7 by omega]
    exact q
end Mx

set_option Elab.async false
set_option linter.all false
set_option maxRecDepth 100000
set_option maxHeartbeats 8000000
namespace Mx
open Ev PySem L2
variable {X : XQ} {Y : YQ}
theorem caught_b {m : Nat} (l : 7 ≤ m) {n : Nat} (hn : n < 28) (v : AV) (h : AH) {Q : AV → AH → Prop} (h1 : n < 16 → Q (.tup [.int n, v]) h) (h2 : 16 ≤ n → X n (flds n v) h) : RWX X (d7.run (gL m) [.int n, v] h) Q := by
  rw [run_WX]
  simp [d7, b7, show 6 < m by omega]
  refine caught_a (show 6 ≤ 6 by omega) hn v h (fun c => h1 (by omega)) fun c8 => ?_
  rw [clause hn (by omega) (by simp), clause hn (by omega) (by simp), clause hn (by omega) (by simp), clause hn (by omega) (by simp), clause hn (by omega) (by simp), clause hn (by omega) (by simp), clause hn (by omega) (by simp), clause hn (by omega) (by simp), H_nil]
  by_cases c : n < 16
  · have q := h1 c
    have xa := xat_ok n (by omega)
    rw [← gL_xat m] at xa
    rcases (by omega : n = 8 ∨ n = 9 ∨ n = 10 ∨ n = 11 ∨ n = 12 ∨ n = 13 ∨ n = 14 ∨ n = 15) with rfl | rfl | rfl | rfl | rfl | rfl | rfl | rfl <;> (simp [fldN] at q xa; simp [xa, flds, fldN, sizeLine, q])
  · have q := h2 (by omega)
    simp [show n ≠ 8 by omega, show n ≠ 9 by omega, show n ≠ 10 by omega, show n ≠ 11 by omega, show n ≠ 12 by omega, show n ≠ 13 by omega, show n ≠ 14 by omega, show n ≠ 15 by omega]
    exact q
theorem caught_c {m : Nat} (l : 8 ≤ m) {n : Nat} (hn : n < 28) (v : AV) (h : AH) {Q : AV → AH → Prop} (h1 : n < 24 → Q (.tup [.int n, v]) h) (h2 : 24 ≤ n → X n (flds n v) h) : RWX X (d8.run (gL m) [.int n, v] h) Q := by
  rw [run_WX]
  simp [d8, b8, show 7 < m by omega]
  refine caught_b (show 7 ≤ 7 by omega) hn v h (fun c => h1 (by omega)) fun c8 => ?_
  rw [clause hn (by omega) (by simp), clause hn (by omega) (by simp), clause hn (by omega) (by simp), clause hn (by omega) (by simp), clause hn (by omega) (by simp), clause hn (by omega) (by simp), clause hn (by omega) (by simp), clause hn (by omega) (by simp), H_nil]
  by_cases c : n < 24
  · have q := h1 c
    have xa := xat_ok n (by omega)
    rw [← gL_xat m] at xa
    rcases (by omega : n = 16 ∨ n = 17 ∨ n = 18 ∨ n = 19 ∨ n = 20 ∨ n = 21 ∨ n = 22 ∨ n = 23) with rfl | rfl | rfl | rfl | rfl | rfl | rfl | rfl <;> (simp [fldN] at q xa; simp [xa, flds, fldN, sizeLine, q])
  · have q := h2 (by omega)
    simp [show n ≠ 16 by omega, show n ≠ 17 by omega, show n ≠ 18 by omega, show n ≠ 19 by omega, show n ≠ 20 by omega, show n ≠ 21 by omega, show n ≠ 22 by omega, show n ≠ 23 by omega]
    exact q
theorem caught_d {m : Nat} (l : 9 ≤ m) {n : Nat} (hn : n < 28) (v : AV) (h : AH) {Q : AV → AH → Prop} (h1 : Q (.tup [.int n, v]) h) : RWX X (d9.run (gL m) [.int n, v] h) Q := by
  rw [run_WX]
  simp [d9, b9, show 8 < m by omega]
  refine caught_c (show 8 ≤ 8 by omega) hn v h (fun c => h1) fun c8 => ?_
  rw [clause hn (by omega) (by simp), clause hn (by omega) (by simp), clause hn (by omega) (by simp), H_cons, gL_sub, sub_self (by omega), sub_self (by omega), sub_lt hn (by omega)]
  rcases (by omega : n = 24 ∨ n = 25 ∨ n = 26 ∨ n = 27) with rfl | rfl | rfl | rfl
  · have xa := xat_ok 24 (by omega)
    rw [← gL_xat m] at xa
    simp [fldN] at h1 xa
    simp [xa, flds, fldN, sizeLine, h1]
  · have xa := xat_ok 25 (by omega)
    rw [← gL_xat m] at xa
    simp [fldN] at h1 xa
    simp [xa, flds, fldN, sizeLine, h1]
  · have xa := xat_ok 26 (by omega)
    rw [← gL_xat m] at xa
    simp [fldN] at h1 xa
    simp [xa, flds, fldN, sizeLine, h1]
  · simp at h1
    simp [sizeLine, h1, inO, unO]
end Mx

set_option Elab.async false
set_option linter.all false
set_option maxRecDepth 100000
set_option maxHeartbeats 8000000
namespace Mx
open Ev PySem L2
variable {X : XQ} {Y : YQ}
def mark (n d : Nat) : Bool := decide (n = d)
theorem dat_marks {h : AH} {q : Nat} {n N : Nat} (e : h[q]? = some (.lst ((List.range N).map fun d => AV.bl (mark n d)))) : AV.dat h 40 (.loc q) = some (.list ((List.range N).map fun d => .bool (mark n d))) := by
  show (match h[q]? with
    | some (.lst xs) => (xs.mapM fun x => AV.dat h 39 x).map PyData.list
    | _ => none) = _
  rw [e]
  simp only
  rw [dats_map 39 (dE := fun d => .bool (mark n d)) (fun d => rfl)]
  rfl
theorem alone_end {m n N : Nat} {xs : List AV} (hx : rangeL 0 N = xs) (hN : N ≤ 100) {h h2 : AH} {a b c : Option AV} (k2 : Ke h h2) (key : h2[h.length + 1]? = some (.lst ((List.range N).map fun d => AV.bl (mark n d)))) :
    RWX X (loopC [] (compBody (.nm 4) [4] [some (.int n), a, b, c, none] (evCs (gL m) none []) (evP (gL m) none (.cmp .Eq (.var 4) (.var 0))).1) xs [] h2) fun vs h5 => eqDeep (.loc (h.length + 1)) (.loc h5.length) (h5 ++ [.lst vs]) = some true ∧ Ke h (h5 ++ [.lst vs]) := by
  rw [itm_range] at hx
  refine loopC_kx hx.symm (by simp; unfold sizeLine; omega) (fun d => some (.bl (mark n d))) (fun _ _ => rfl) ?_ ?_
  · intro d y t h' e k
    simp [wipeA, mark]
    by_cases q : y = n
    · simp [q]
    · have q2 : ¬ n = y := fun z => q z.symm
      simp [q2, q]
      omega
  · intro h5 k5
    have key5 := k5.get key
    have e1 := dat_marks (get_push key5 (AO.lst ((List.range N).filterMap fun d => some (AV.bl (mark n d)))))
    have e2 : AV.dat (h5 ++ [AO.lst ((List.range N).filterMap fun d => some (AV.bl (mark n d)))]) 40 (.loc h5.length) = some (.list ((List.range N).map fun d => .bool (mark n d))) := dat_marks (by rw [get_last, List.filterMap_eq_map'])
    refine ⟨?_, (k2.trans k5).push _⟩
    simp only [eqDeep, e1, e2, PySem.SeqAt.eqv_refl _ (dat_lay _ _ _ _ e1)]
theorem is_alone {m : Nat} (l : 10 ≤ m) {n : Nat} (hn : n < 28) (v : AV) (h : AH) : RW (d10.run (gL m) [.int n, v] h) fun w h' => w = .bl true ∧ Ke h h' := by
  rw [run_W]
  simp [d10, b10, show 5 < m by omega, sizeLine]
  refine raise_ (show 5 ≤ 5 by omega) hn v _ ?_
  rw [H_cons, gL_sub, sub_self (by omega), sub_28 hn, show subB 28 28 = true from by decide]
  simp only [inO, unO]
  simp [gL_sub, sub_lt, sub_self, hn, show n < 29 by omega, sizeLine, smallR]
  generalize hr : rangeL 0 28 = xs
  refine alone_end hr (by omega) ?_ ?_
  · have := (Ke.refl.push (a := h) (AO.lst [])).push (AO.lst ((List.range 28).map fun d => AV.bl (mark n d)))
    rw [List.append_assoc] at this
    exact this
  · rw [List.getElem?_append_right (by omega), show h.length + 1 - h.length = 1 by omega]
    rfl
abbrev exS1 : Str := .ofString "words"
abbrev exS2 : Str := .ofString "rows"
def thingsL (q : Nat) : List AV := [.int 0, .int (-1), .non, .str exS1, .tup [.int 1, .int 2], .loc q, .bl true, .tup [.str exS2, .int 0, .int 7]]
theorem dat_thing {h : AH} {q : Nat} (e : h[q]? = some (.lst [.int 3])) {v : AV} (m : v ∈ thingsL q) (n : Int) : ∃ d, AV.dat h 40 (.tup [.int n, v]) = some d := by
  have s1 : PyData.strOk exS1 = true := by decide +kernel
  have s2 : PyData.strOk exS2 = true := by decide +kernel
  simp only [thingsL, List.mem_cons, List.not_mem_nil, or_false] at m
  rcases m with rfl | rfl | rfl | rfl | rfl | rfl | rfl | rfl <;> simp [AV.dat, List.mapM_cons, s1, s2, e]
def bodyOf : List S → List S
  | [_, .for_ _ _ d, _, _] => d
  | _ => []
@[irreducible] def bC : List S := bodyOf b13
theorem step {m : Nat} (l : 13 ≤ m) {k n : Nat} (hk : k < 28) {S0 a4 : Option AV} {h : AH} (b : Box n h) {nn : Sl → AH → Prop} {bb cc} {rr : AV → AH → Prop} (fin : ∀ h' a4, Dr n h h' → nn [S0, some (.loc n), some (.int k), none, a4] h') :
    OWX Y (exB (gL m) none bC [S0, some (.loc n), some (.int k), none, a4] h) nn bb cc rr := by
  have ln := b.lt
  simp [bC, bodyOf, b13, show 12 < m by omega, show 9 < m by omega, show 10 < m by omega, sizeLine]
  have r0 : Dr n h (h ++ [AO.lst [.int 3], AO.lst (thingsL h.length)]) := by
    have := ((Dr.refl b).push (AO.lst [.int 3])).push (AO.lst (thingsL h.length))
    simpa using this
  have g3 : (h ++ [AO.lst [.int 3], AO.lst (thingsL h.length)])[h.length]? = some (.lst [.int 3]) := by simp
  have gl : (h ++ [AO.lst [.int 3], AO.lst (thingsL h.length)])[h.length + 1]? = some (.lst (thingsL h.length)) := by
    rw [List.getElem?_append_right (by omega), show h.length + 1 - h.length = 1 by omega]; rfl
  have pk := law_pick (show 12 ≤ 12 by omega) r0.bx (q := h.length + 1) (by omega) gl (by simp [thingsL]) (by simp [thingsL])
  refine pk.mono fun v h2 q => ?_
  obtain ⟨vm, r2⟩ := q
  have g32 := r2.kp.get g3 (by omega)
  refine caught_d (show 9 ≤ 9 by omega) hk v h2 ?_
  obtain ⟨dd, ed⟩ := dat_thing g32 vm (k : Int)
  simp [eqDeep_self ed, show 10 < m by omega]
  refine (is_alone (show 10 ≤ 10 by omega) hk v h2).mono fun w h3 q => ?_
  obtain ⟨rfl, k3⟩ := q
  simp
  have := fin h3 (some v) ((r0.trans r2).ke k3)
  simpa using this
theorem b13_eq : b13 = [(.set (.nm 1) (.call 0 [(.var 0), (.cst (.int 0))])), (.for_ (.nm 2) (.rng (.cst (.int 28))) bC), (.set (.nm 3) (.tup [(.xmk 16 (.ofString "word") (.cst (.str (.ofString "x")))), (.xmk 0 (.ofString "at") (.tup [(.cst (.str (.ofString "rows"))), (.cst (.int 0)), (.cst (.int 1))])), (.xmk 15 (.ofString "at") (.neg (.cst (.int 1)))), (.xmk 3 (.ofString "at") (.cst (.int 3)))])), (.ret (.cmp .Eq (.var 3) (.tup [(.cst (.str (.ofString "x"))), (.tup [(.cst (.str (.ofString "rows"))), (.cst (.int 0)), (.cst (.int 1))]), (.neg (.cst (.int 1))), (.cst (.int 3))])))] := by
  unfold bC; rfl
theorem loop_rng {N : Nat} {xs : List AV} (hx : rangeL 0 N = xs) {body} {n b c : Sl → AH → Prop} {r : AV → AH → Prop} (I : Sl → AH → Prop) (hi : ∀ k σ h, k < N → I σ h → OWX Y (body (.int (k : Nat)) σ h) I n I r) (hn : ∀ σ h, I σ h → n σ h) (σ : Sl) (h : AH) (p : I σ h) : OWX Y (loopS [] body xs σ h) n b c r := by
  rw [itm_range] at hx
  refine loopS_X hx.symm (fun _ σ h => I σ h) (fun d y t σ h e q => ⟨rfl, ?_⟩) (fun σ h q => ⟨rfl, hn σ h q⟩) σ h p
  obtain ⟨rfl, ly⟩ := range_at e
  exact hi _ σ h ly q
theorem law_true {ns : List Int} (hl : ns.length ≤ 63) (h : AH) : RW (d13.run (gL 13) [.rol (ns.map .int)] h) fun v _ => v = .bl true := by
  rw [run_W]
  have hp : ([AV.rol (ns.map .int)] : List AV).length = d13.pars := by simp [d13]
  refine ⟨hp, ?_⟩
  have hb : d13.body = b13 := by simp [d13]
  have hs : d13.slots = 5 := by simp [d13]
  rw [hb, hs, b13_eq]
  simp [smallR, sizeLine]
  refine (law_box (gL 0) (show 0 < 4 by omega) hl h).mono fun v h2 p => ?_
  obtain ⟨n, rfl, bx, k2, ln⟩ := p
  try simp
  generalize hr : rangeL 0 28 = xs
  refine loop_rng hr (fun σ h' => Box n h' ∧ ∃ a2 a4, σ = [some (.rol (ns.map .int)), some (.loc n), a2, none, a4]) ?_ ?_ _ _ ⟨bx, none, none, rfl⟩
  · rintro k σ h' hk ⟨b', a2, a4, rfl⟩
    simp
    exact step (Nat.le_refl 13) hk b' fun h'' a4 r => ⟨r.bx, _, _, rfl⟩
  · rintro σ h' ⟨b', a2, a4, rfl⟩
    have x1 : xatB 16 (.ofString "word") = true := by decide +kernel
    have x2 : xatB 0 (.ofString "at") = true := by decide +kernel
    have x3 : xatB 15 (.ofString "at") = true := by decide +kernel
    have x4 : xatB 3 (.ofString "at") = true := by decide +kernel
    have s1 : PyData.strOk (.ofString "x") = true := by decide +kernel
    have s2 : PyData.strOk (.ofString "rows") = true := by decide +kernel
    simp [gL_sub, gL_xat, x1, x2, x3, x4, sub_self]
    have e : ∃ d, AV.dat h' 40 (.tup [.str (.ofString "x"), .tup [.str (.ofString "rows"), .int 0, .int 1], .int (-1), .int 3]) = some d := by simp [AV.dat, List.mapM_cons, s1, s2]
    obtain ⟨d, e⟩ := e
    exact eqDeep_self e
theorem truth_ (ns : List Int) (hl : ns.length ≤ 63) : ∃ h, (gL 14).fn 13 [.rol (ns.map .int)] [] = .ok (.bl true) h := by
  obtain ⟨v, h, e, rfl⟩ := (law_true hl []).ex
  exact ⟨h, by rw [f13 (by omega), e]⟩
end Mx

set_option Elab.async false
set_option linter.all false
set_option maxRecDepth 100000
namespace Lw
open PySem L2 Ev
def topS (i : Nat) : Stmt := PySem.Challenge.pw_lateno_k00_whole_errors_and_what_they_ke.main.body.getD i (.Pass ⟨0, 0, 0, 0⟩)
def gE : GE := { fns := [(.ofString "_law_box", 0), (.ofString "_law_raise_a", 1), (.ofString "_law_raise_b", 2), (.ofString "_law_raise_c", 3), (.ofString "_law_raise_d", 4), (.ofString "_law_raise", 5), (.ofString "_law_caught_a", 6), (.ofString "_law_caught_b", 7), (.ofString "_law_caught_c", 8), (.ofString "_law_caught_d", 9), (.ofString "_law_is_alone", 10), (.ofString "_law_take", 11), (.ofString "_law_pick", 12), (.ofString "law", 13)], exs := [(.ofString "InvalidDesk", 0), (.ofString "InvalidHistory", 1), (.ofString "InvalidStruck", 2), (.ofString "InvalidText", 3), (.ofString "InvalidTry", 4), (.ofString "InvalidIndex", 5), (.ofString "InvalidSort", 6), (.ofString "InvalidStep", 7), (.ofString "InvalidNumber", 8), (.ofString "InvalidLot", 9), (.ofString "InvalidPlan", 10), (.ofString "InvalidMoves", 11), (.ofString "InvalidOffers", 12), (.ofString "InvalidRules", 13), (.ofString "InvalidBound", 14), (.ofString "Refused", 15), (.ofString "InvalidSize", 16), (.ofString "InvalidWants", 17), (.ofString "InvalidLedger", 18), (.ofString "InvalidHouse", 19), (.ofString "InvalidSeam", 20), (.ofString "InvalidLots", 21), (.ofString "InvalidPromise", 22), (.ofString "InvalidContract", 23), (.ofString "InvalidCosts", 24), (.ofString "InvalidTools", 25), (.ofString "InvalidWaits", 26), (.ofString "InvalidCommand", 27), (.ofString "LateError", 28)], exf := [.ofString "at", .ofString "at", .ofString "at", .ofString "at", .ofString "at", .ofString "at", .ofString "at", .ofString "at", .ofString "at", .ofString "at", .ofString "at", .ofString "at", .ofString "at", .ofString "at", .ofString "at", .ofString "at", .ofString "word", .ofString "at", .ofString "at", .ofString "at", .ofString "at", .ofString "at", .ofString "at", .ofString "at", .ofString "at", .ofString "at", .ofString "at"], ins := [], mths := [], cst := [], ex0 := [27] }
abbrev s0 : Stmt := topS 31
abbrev n0 : List Str := [.ofString "script", .ofString "k", .ofString "cell"]
abbrev p0 : List Str := [.ofString "script", .ofString "k"]
theorem c0 : (cB'' (Γ := gE) (N := n0) (sc := defScope s0) 60 (defBody s0)).isSome = true := by decide +kernel
def d0 : Df := ⟨n0.length, p0.length, ((cB'' (Γ := gE) (N := n0) (sc := defScope s0) 60 (defBody s0)).get c0).irs⟩
def e0 : Ent := ⟨s0, n0, p0, d0⟩
theorem o0 : FnScope n0 p0 (defScope s0) := ⟨rfl, rfl, rfl, by decide +kernel, rfl, by decide +kernel, by decide +kernel⟩
abbrev s1 : Stmt := topS 34
abbrev n1 : List Str := [.ofString "number", .ofString "thing"]
abbrev p1 : List Str := [.ofString "number", .ofString "thing"]
theorem c1 : (cB'' (Γ := gE) (N := n1) (sc := defScope s1) 60 (defBody s1)).isSome = true := by decide +kernel
def d1 : Df := ⟨n1.length, p1.length, ((cB'' (Γ := gE) (N := n1) (sc := defScope s1) 60 (defBody s1)).get c1).irs⟩
def e1 : Ent := ⟨s1, n1, p1, d1⟩
theorem o1 : FnScope n1 p1 (defScope s1) := ⟨rfl, rfl, rfl, by decide +kernel, rfl, by decide +kernel, by decide +kernel⟩
abbrev s2 : Stmt := topS 35
abbrev n2 : List Str := [.ofString "number", .ofString "thing"]
abbrev p2 : List Str := [.ofString "number", .ofString "thing"]
theorem c2 : (cB'' (Γ := gE) (N := n2) (sc := defScope s2) 60 (defBody s2)).isSome = true := by decide +kernel
def d2 : Df := ⟨n2.length, p2.length, ((cB'' (Γ := gE) (N := n2) (sc := defScope s2) 60 (defBody s2)).get c2).irs⟩
def e2 : Ent := ⟨s2, n2, p2, d2⟩
theorem o2 : FnScope n2 p2 (defScope s2) := ⟨rfl, rfl, rfl, by decide +kernel, rfl, by decide +kernel, by decide +kernel⟩
abbrev s3 : Stmt := topS 36
abbrev n3 : List Str := [.ofString "number", .ofString "thing"]
abbrev p3 : List Str := [.ofString "number", .ofString "thing"]
theorem c3 : (cB'' (Γ := gE) (N := n3) (sc := defScope s3) 60 (defBody s3)).isSome = true := by decide +kernel
def d3 : Df := ⟨n3.length, p3.length, ((cB'' (Γ := gE) (N := n3) (sc := defScope s3) 60 (defBody s3)).get c3).irs⟩
def e3 : Ent := ⟨s3, n3, p3, d3⟩
theorem o3 : FnScope n3 p3 (defScope s3) := ⟨rfl, rfl, rfl, by decide +kernel, rfl, by decide +kernel, by decide +kernel⟩
abbrev s4 : Stmt := topS 37
abbrev n4 : List Str := [.ofString "number", .ofString "thing"]
abbrev p4 : List Str := [.ofString "number", .ofString "thing"]
theorem c4 : (cB'' (Γ := gE) (N := n4) (sc := defScope s4) 60 (defBody s4)).isSome = true := by decide +kernel
def d4 : Df := ⟨n4.length, p4.length, ((cB'' (Γ := gE) (N := n4) (sc := defScope s4) 60 (defBody s4)).get c4).irs⟩
def e4 : Ent := ⟨s4, n4, p4, d4⟩
theorem o4 : FnScope n4 p4 (defScope s4) := ⟨rfl, rfl, rfl, by decide +kernel, rfl, by decide +kernel, by decide +kernel⟩
abbrev s5 : Stmt := topS 38
abbrev n5 : List Str := [.ofString "number", .ofString "thing"]
abbrev p5 : List Str := [.ofString "number", .ofString "thing"]
theorem c5 : (cB'' (Γ := gE) (N := n5) (sc := defScope s5) 60 (defBody s5)).isSome = true := by decide +kernel
def d5 : Df := ⟨n5.length, p5.length, ((cB'' (Γ := gE) (N := n5) (sc := defScope s5) 60 (defBody s5)).get c5).irs⟩
def e5 : Ent := ⟨s5, n5, p5, d5⟩
theorem o5 : FnScope n5 p5 (defScope s5) := ⟨rfl, rfl, rfl, by decide +kernel, rfl, by decide +kernel, by decide +kernel⟩
abbrev s6 : Stmt := topS 39
abbrev n6 : List Str := [.ofString "number", .ofString "thing", .ofString "e"]
abbrev p6 : List Str := [.ofString "number", .ofString "thing"]
theorem c6 : (cB'' (Γ := gE) (N := n6) (sc := defScope s6) 60 (defBody s6)).isSome = true := by decide +kernel
def d6 : Df := ⟨n6.length, p6.length, ((cB'' (Γ := gE) (N := n6) (sc := defScope s6) 60 (defBody s6)).get c6).irs⟩
def e6 : Ent := ⟨s6, n6, p6, d6⟩
theorem o6 : FnScope n6 p6 (defScope s6) := ⟨rfl, rfl, rfl, by decide +kernel, rfl, by decide +kernel, by decide +kernel⟩
abbrev s7 : Stmt := topS 40
abbrev n7 : List Str := [.ofString "number", .ofString "thing", .ofString "e"]
abbrev p7 : List Str := [.ofString "number", .ofString "thing"]
theorem c7 : (cB'' (Γ := gE) (N := n7) (sc := defScope s7) 60 (defBody s7)).isSome = true := by decide +kernel
def d7 : Df := ⟨n7.length, p7.length, ((cB'' (Γ := gE) (N := n7) (sc := defScope s7) 60 (defBody s7)).get c7).irs⟩
def e7 : Ent := ⟨s7, n7, p7, d7⟩
theorem o7 : FnScope n7 p7 (defScope s7) := ⟨rfl, rfl, rfl, by decide +kernel, rfl, by decide +kernel, by decide +kernel⟩
abbrev s8 : Stmt := topS 41
abbrev n8 : List Str := [.ofString "number", .ofString "thing", .ofString "e"]
abbrev p8 : List Str := [.ofString "number", .ofString "thing"]
theorem c8 : (cB'' (Γ := gE) (N := n8) (sc := defScope s8) 60 (defBody s8)).isSome = true := by decide +kernel
def d8 : Df := ⟨n8.length, p8.length, ((cB'' (Γ := gE) (N := n8) (sc := defScope s8) 60 (defBody s8)).get c8).irs⟩
def e8 : Ent := ⟨s8, n8, p8, d8⟩
theorem o8 : FnScope n8 p8 (defScope s8) := ⟨rfl, rfl, rfl, by decide +kernel, rfl, by decide +kernel, by decide +kernel⟩
abbrev s9 : Stmt := topS 42
abbrev n9 : List Str := [.ofString "number", .ofString "thing", .ofString "e"]
abbrev p9 : List Str := [.ofString "number", .ofString "thing"]
theorem c9 : (cB'' (Γ := gE) (N := n9) (sc := defScope s9) 60 (defBody s9)).isSome = true := by decide +kernel
def d9 : Df := ⟨n9.length, p9.length, ((cB'' (Γ := gE) (N := n9) (sc := defScope s9) 60 (defBody s9)).get c9).irs⟩
def e9 : Ent := ⟨s9, n9, p9, d9⟩
theorem o9 : FnScope n9 p9 (defScope s9) := ⟨rfl, rfl, rfl, by decide +kernel, rfl, by decide +kernel, by decide +kernel⟩
abbrev s10 : Stmt := topS 43
abbrev n10 : List Str := [.ofString "number", .ofString "thing", .ofString "found", .ofString "error", .ofString "at"]
abbrev p10 : List Str := [.ofString "number", .ofString "thing"]
theorem c10 : (cB'' (Γ := gE) (N := n10) (sc := defScope s10) 60 (defBody s10)).isSome = true := by decide +kernel
def d10 : Df := ⟨n10.length, p10.length, ((cB'' (Γ := gE) (N := n10) (sc := defScope s10) 60 (defBody s10)).get c10).irs⟩
def e10 : Ent := ⟨s10, n10, p10, d10⟩
theorem o10 : FnScope n10 p10 (defScope s10) := ⟨rfl, rfl, rfl, by decide +kernel, rfl, by decide +kernel, by decide +kernel⟩
abbrev s11 : Stmt := topS 32
abbrev n11 : List Str := [.ofString "box", .ofString "many", .ofString "raw", .ofString "digit"]
abbrev p11 : List Str := [.ofString "box", .ofString "many"]
theorem c11 : (cB'' (Γ := gE) (N := n11) (sc := defScope s11) 60 (defBody s11)).isSome = true := by decide +kernel
def d11 : Df := ⟨n11.length, p11.length, ((cB'' (Γ := gE) (N := n11) (sc := defScope s11) 60 (defBody s11)).get c11).irs⟩
def e11 : Ent := ⟨s11, n11, p11, d11⟩
theorem o11 : FnScope n11 p11 (defScope s11) := ⟨rfl, rfl, rfl, by decide +kernel, rfl, by decide +kernel, by decide +kernel⟩
abbrev s12 : Stmt := topS 33
abbrev n12 : List Str := [.ofString "box", .ofString "some"]
abbrev p12 : List Str := [.ofString "box", .ofString "some"]
theorem c12 : (cB'' (Γ := gE) (N := n12) (sc := defScope s12) 60 (defBody s12)).isSome = true := by decide +kernel
def d12 : Df := ⟨n12.length, p12.length, ((cB'' (Γ := gE) (N := n12) (sc := defScope s12) 60 (defBody s12)).get c12).irs⟩
def e12 : Ent := ⟨s12, n12, p12, d12⟩
theorem o12 : FnScope n12 p12 (defScope s12) := ⟨rfl, rfl, rfl, by decide +kernel, rfl, by decide +kernel, by decide +kernel⟩
abbrev s13 : Stmt := topS 44
abbrev n13 : List Str := [.ofString "script", .ofString "box", .ofString "number", .ofString "kept", .ofString "thing"]
abbrev p13 : List Str := [.ofString "script"]
theorem c13 : (cB'' (Γ := gE) (N := n13) (sc := defScope s13) 60 (defBody s13)).isSome = true := by decide +kernel
def d13 : Df := ⟨n13.length, p13.length, ((cB'' (Γ := gE) (N := n13) (sc := defScope s13) 60 (defBody s13)).get c13).irs⟩
def e13 : Ent := ⟨s13, n13, p13, d13⟩
theorem o13 : FnScope n13 p13 (defScope s13) := ⟨rfl, rfl, rfl, by decide +kernel, rfl, by decide +kernel, by decide +kernel⟩
abbrev sx0 : Stmt := inClass (topS 2) 0
abbrev px0 : List Str := [.ofString "self", .ofString "at"]
theorem ox0 : FnScope px0 px0 (defScope sx0) := ⟨rfl, rfl, rfl, by decide +kernel, rfl, by decide +kernel, by decide +kernel⟩
theorem ix0 : initB (.ofString "at") (.ofString "self") (.ofString "at") (defScope sx0) (defBody sx0) = true := by decide +kernel
abbrev sx1 : Stmt := inClass (topS 3) 0
abbrev px1 : List Str := [.ofString "self", .ofString "at"]
theorem ox1 : FnScope px1 px1 (defScope sx1) := ⟨rfl, rfl, rfl, by decide +kernel, rfl, by decide +kernel, by decide +kernel⟩
theorem ix1 : initB (.ofString "at") (.ofString "self") (.ofString "at") (defScope sx1) (defBody sx1) = true := by decide +kernel
abbrev sx2 : Stmt := inClass (topS 4) 0
abbrev px2 : List Str := [.ofString "self", .ofString "at"]
theorem ox2 : FnScope px2 px2 (defScope sx2) := ⟨rfl, rfl, rfl, by decide +kernel, rfl, by decide +kernel, by decide +kernel⟩
theorem ix2 : initB (.ofString "at") (.ofString "self") (.ofString "at") (defScope sx2) (defBody sx2) = true := by decide +kernel
abbrev sx3 : Stmt := inClass (topS 5) 0
abbrev px3 : List Str := [.ofString "self", .ofString "at"]
theorem ox3 : FnScope px3 px3 (defScope sx3) := ⟨rfl, rfl, rfl, by decide +kernel, rfl, by decide +kernel, by decide +kernel⟩
theorem ix3 : initB (.ofString "at") (.ofString "self") (.ofString "at") (defScope sx3) (defBody sx3) = true := by decide +kernel
abbrev sx4 : Stmt := inClass (topS 6) 0
abbrev px4 : List Str := [.ofString "self", .ofString "at"]
theorem ox4 : FnScope px4 px4 (defScope sx4) := ⟨rfl, rfl, rfl, by decide +kernel, rfl, by decide +kernel, by decide +kernel⟩
theorem ix4 : initB (.ofString "at") (.ofString "self") (.ofString "at") (defScope sx4) (defBody sx4) = true := by decide +kernel
abbrev sx5 : Stmt := inClass (topS 7) 0
abbrev px5 : List Str := [.ofString "self", .ofString "at"]
theorem ox5 : FnScope px5 px5 (defScope sx5) := ⟨rfl, rfl, rfl, by decide +kernel, rfl, by decide +kernel, by decide +kernel⟩
theorem ix5 : initB (.ofString "at") (.ofString "self") (.ofString "at") (defScope sx5) (defBody sx5) = true := by decide +kernel
abbrev sx6 : Stmt := inClass (topS 8) 0
abbrev px6 : List Str := [.ofString "self", .ofString "at"]
theorem ox6 : FnScope px6 px6 (defScope sx6) := ⟨rfl, rfl, rfl, by decide +kernel, rfl, by decide +kernel, by decide +kernel⟩
theorem ix6 : initB (.ofString "at") (.ofString "self") (.ofString "at") (defScope sx6) (defBody sx6) = true := by decide +kernel
abbrev sx7 : Stmt := inClass (topS 9) 0
abbrev px7 : List Str := [.ofString "self", .ofString "at"]
theorem ox7 : FnScope px7 px7 (defScope sx7) := ⟨rfl, rfl, rfl, by decide +kernel, rfl, by decide +kernel, by decide +kernel⟩
theorem ix7 : initB (.ofString "at") (.ofString "self") (.ofString "at") (defScope sx7) (defBody sx7) = true := by decide +kernel
abbrev sx8 : Stmt := inClass (topS 10) 0
abbrev px8 : List Str := [.ofString "self", .ofString "at"]
theorem ox8 : FnScope px8 px8 (defScope sx8) := ⟨rfl, rfl, rfl, by decide +kernel, rfl, by decide +kernel, by decide +kernel⟩
theorem ix8 : initB (.ofString "at") (.ofString "self") (.ofString "at") (defScope sx8) (defBody sx8) = true := by decide +kernel
abbrev sx9 : Stmt := inClass (topS 11) 0
abbrev px9 : List Str := [.ofString "self", .ofString "at"]
theorem ox9 : FnScope px9 px9 (defScope sx9) := ⟨rfl, rfl, rfl, by decide +kernel, rfl, by decide +kernel, by decide +kernel⟩
theorem ix9 : initB (.ofString "at") (.ofString "self") (.ofString "at") (defScope sx9) (defBody sx9) = true := by decide +kernel
abbrev sx10 : Stmt := inClass (topS 12) 0
abbrev px10 : List Str := [.ofString "self", .ofString "at"]
theorem ox10 : FnScope px10 px10 (defScope sx10) := ⟨rfl, rfl, rfl, by decide +kernel, rfl, by decide +kernel, by decide +kernel⟩
theorem ix10 : initB (.ofString "at") (.ofString "self") (.ofString "at") (defScope sx10) (defBody sx10) = true := by decide +kernel
abbrev sx11 : Stmt := inClass (topS 13) 0
abbrev px11 : List Str := [.ofString "self", .ofString "at"]
theorem ox11 : FnScope px11 px11 (defScope sx11) := ⟨rfl, rfl, rfl, by decide +kernel, rfl, by decide +kernel, by decide +kernel⟩
theorem ix11 : initB (.ofString "at") (.ofString "self") (.ofString "at") (defScope sx11) (defBody sx11) = true := by decide +kernel
abbrev sx12 : Stmt := inClass (topS 14) 0
abbrev px12 : List Str := [.ofString "self", .ofString "at"]
theorem ox12 : FnScope px12 px12 (defScope sx12) := ⟨rfl, rfl, rfl, by decide +kernel, rfl, by decide +kernel, by decide +kernel⟩
theorem ix12 : initB (.ofString "at") (.ofString "self") (.ofString "at") (defScope sx12) (defBody sx12) = true := by decide +kernel
abbrev sx13 : Stmt := inClass (topS 15) 0
abbrev px13 : List Str := [.ofString "self", .ofString "at"]
theorem ox13 : FnScope px13 px13 (defScope sx13) := ⟨rfl, rfl, rfl, by decide +kernel, rfl, by decide +kernel, by decide +kernel⟩
theorem ix13 : initB (.ofString "at") (.ofString "self") (.ofString "at") (defScope sx13) (defBody sx13) = true := by decide +kernel
abbrev sx14 : Stmt := inClass (topS 16) 0
abbrev px14 : List Str := [.ofString "self", .ofString "at"]
theorem ox14 : FnScope px14 px14 (defScope sx14) := ⟨rfl, rfl, rfl, by decide +kernel, rfl, by decide +kernel, by decide +kernel⟩
theorem ix14 : initB (.ofString "at") (.ofString "self") (.ofString "at") (defScope sx14) (defBody sx14) = true := by decide +kernel
abbrev sx15 : Stmt := inClass (topS 17) 0
abbrev px15 : List Str := [.ofString "self", .ofString "at"]
theorem ox15 : FnScope px15 px15 (defScope sx15) := ⟨rfl, rfl, rfl, by decide +kernel, rfl, by decide +kernel, by decide +kernel⟩
theorem ix15 : initB (.ofString "at") (.ofString "self") (.ofString "at") (defScope sx15) (defBody sx15) = true := by decide +kernel
abbrev sx16 : Stmt := inClass (topS 18) 0
abbrev px16 : List Str := [.ofString "self", .ofString "word"]
theorem ox16 : FnScope px16 px16 (defScope sx16) := ⟨rfl, rfl, rfl, by decide +kernel, rfl, by decide +kernel, by decide +kernel⟩
theorem ix16 : initB (.ofString "word") (.ofString "self") (.ofString "word") (defScope sx16) (defBody sx16) = true := by decide +kernel
abbrev sx17 : Stmt := inClass (topS 19) 0
abbrev px17 : List Str := [.ofString "self", .ofString "at"]
theorem ox17 : FnScope px17 px17 (defScope sx17) := ⟨rfl, rfl, rfl, by decide +kernel, rfl, by decide +kernel, by decide +kernel⟩
theorem ix17 : initB (.ofString "at") (.ofString "self") (.ofString "at") (defScope sx17) (defBody sx17) = true := by decide +kernel
abbrev sx18 : Stmt := inClass (topS 20) 0
abbrev px18 : List Str := [.ofString "self", .ofString "at"]
theorem ox18 : FnScope px18 px18 (defScope sx18) := ⟨rfl, rfl, rfl, by decide +kernel, rfl, by decide +kernel, by decide +kernel⟩
theorem ix18 : initB (.ofString "at") (.ofString "self") (.ofString "at") (defScope sx18) (defBody sx18) = true := by decide +kernel
abbrev sx19 : Stmt := inClass (topS 21) 0
abbrev px19 : List Str := [.ofString "self", .ofString "at"]
theorem ox19 : FnScope px19 px19 (defScope sx19) := ⟨rfl, rfl, rfl, by decide +kernel, rfl, by decide +kernel, by decide +kernel⟩
theorem ix19 : initB (.ofString "at") (.ofString "self") (.ofString "at") (defScope sx19) (defBody sx19) = true := by decide +kernel
abbrev sx20 : Stmt := inClass (topS 22) 0
abbrev px20 : List Str := [.ofString "self", .ofString "at"]
theorem ox20 : FnScope px20 px20 (defScope sx20) := ⟨rfl, rfl, rfl, by decide +kernel, rfl, by decide +kernel, by decide +kernel⟩
theorem ix20 : initB (.ofString "at") (.ofString "self") (.ofString "at") (defScope sx20) (defBody sx20) = true := by decide +kernel
abbrev sx21 : Stmt := inClass (topS 23) 0
abbrev px21 : List Str := [.ofString "self", .ofString "at"]
theorem ox21 : FnScope px21 px21 (defScope sx21) := ⟨rfl, rfl, rfl, by decide +kernel, rfl, by decide +kernel, by decide +kernel⟩
theorem ix21 : initB (.ofString "at") (.ofString "self") (.ofString "at") (defScope sx21) (defBody sx21) = true := by decide +kernel
abbrev sx22 : Stmt := inClass (topS 24) 0
abbrev px22 : List Str := [.ofString "self", .ofString "at"]
theorem ox22 : FnScope px22 px22 (defScope sx22) := ⟨rfl, rfl, rfl, by decide +kernel, rfl, by decide +kernel, by decide +kernel⟩
theorem ix22 : initB (.ofString "at") (.ofString "self") (.ofString "at") (defScope sx22) (defBody sx22) = true := by decide +kernel
abbrev sx23 : Stmt := inClass (topS 25) 0
abbrev px23 : List Str := [.ofString "self", .ofString "at"]
theorem ox23 : FnScope px23 px23 (defScope sx23) := ⟨rfl, rfl, rfl, by decide +kernel, rfl, by decide +kernel, by decide +kernel⟩
theorem ix23 : initB (.ofString "at") (.ofString "self") (.ofString "at") (defScope sx23) (defBody sx23) = true := by decide +kernel
abbrev sx24 : Stmt := inClass (topS 26) 0
abbrev px24 : List Str := [.ofString "self", .ofString "at"]
theorem ox24 : FnScope px24 px24 (defScope sx24) := ⟨rfl, rfl, rfl, by decide +kernel, rfl, by decide +kernel, by decide +kernel⟩
theorem ix24 : initB (.ofString "at") (.ofString "self") (.ofString "at") (defScope sx24) (defBody sx24) = true := by decide +kernel
abbrev sx25 : Stmt := inClass (topS 27) 0
abbrev px25 : List Str := [.ofString "self", .ofString "at"]
theorem ox25 : FnScope px25 px25 (defScope sx25) := ⟨rfl, rfl, rfl, by decide +kernel, rfl, by decide +kernel, by decide +kernel⟩
theorem ix25 : initB (.ofString "at") (.ofString "self") (.ofString "at") (defScope sx25) (defBody sx25) = true := by decide +kernel
abbrev sx26 : Stmt := inClass (topS 28) 0
abbrev px26 : List Str := [.ofString "self", .ofString "at"]
theorem ox26 : FnScope px26 px26 (defScope sx26) := ⟨rfl, rfl, rfl, by decide +kernel, rfl, by decide +kernel, by decide +kernel⟩
theorem ix26 : initB (.ofString "at") (.ofString "self") (.ofString "at") (defScope sx26) (defBody sx26) = true := by decide +kernel
def dfs : List Df := [d0, d1, d2, d3, d4, d5, d6, d7, d8, d9, d10, d11, d12, d13]
def atrB (c : Nat) (F : Str) : Bool := false
def subB (c d : Nat) : Bool := decide (c < 29) && decide (d < 29) && (c == d || d == 28)
def xatB (c : Nat) (F : Str) : Bool := (decide (c = 0 ∧ F = .ofString "at") || (decide (c = 1 ∧ F = .ofString "at") || (decide (c = 2 ∧ F = .ofString "at") || (decide (c = 3 ∧ F = .ofString "at") || (decide (c = 4 ∧ F = .ofString "at") || (decide (c = 5 ∧ F = .ofString "at") || (decide (c = 6 ∧ F = .ofString "at") || (decide (c = 7 ∧ F = .ofString "at") || (decide (c = 8 ∧ F = .ofString "at") || (decide (c = 9 ∧ F = .ofString "at") || (decide (c = 10 ∧ F = .ofString "at") || (decide (c = 11 ∧ F = .ofString "at") || (decide (c = 12 ∧ F = .ofString "at") || (decide (c = 13 ∧ F = .ofString "at") || (decide (c = 14 ∧ F = .ofString "at") || (decide (c = 15 ∧ F = .ofString "at") || (decide (c = 16 ∧ F = .ofString "word") || (decide (c = 17 ∧ F = .ofString "at") || (decide (c = 18 ∧ F = .ofString "at") || (decide (c = 19 ∧ F = .ofString "at") || (decide (c = 20 ∧ F = .ofString "at") || (decide (c = 21 ∧ F = .ofString "at") || (decide (c = 22 ∧ F = .ofString "at") || (decide (c = 23 ∧ F = .ofString "at") || (decide (c = 24 ∧ F = .ofString "at") || (decide (c = 25 ∧ F = .ofString "at") || (decide (c = 26 ∧ F = .ofString "at") || false)))))))))))))))))))))))))))
def rxB (i : Nat) : Nat := 0
def gL (m : Nat) : G := gOfX dfs rxB subB atrB xatB 100000 m
theorem mem_lookup {α β : Type} [BEq α] [LawfulBEq α] {l : List (α × β)} {x : α} {y : β} (h : l.lookup x = some y) : (x, y) ∈ l := by
  induction l with
  | nil => simp at h
  | cons p l ih =>
    obtain ⟨a, b⟩ := p
    simp only [List.lookup_cons] at h
    cases e : (x == a) with
    | true =>
      simp only [e] at h
      cases h
      have e := eq_of_beq e
      subst e
      exact List.mem_cons_self
    | false =>
      simp only [e] at h
      exact List.mem_cons_of_mem _ (ih h)
theorem nodup_getD {l : List Addr} (h : l.Nodup) : ∀ i j : Nat, i < l.length → j < l.length → i ≠ j → l.getD i 0 ≠ l.getD j 0 := fun i j hi hj ne => by
  rw [List.getD_eq_getElem?_getD, List.getD_eq_getElem?_getD, List.getElem?_eq_getElem hi, List.getElem?_eq_getElem hj]
  exact fun e => ne ((List.getElem_inj h).mp e)
set_option maxHeartbeats 0 in
theorem mods_mk {l : PySem.W.OpenLaw} {w : World} {K : PySem.W.Frag} {h : Heap} {mg : Str → Option Value} {fa : Addr} (X : K.In h) (G : h.Ns mainGlobals mg) (hfa : mg (.ofString "law") = some (.ref fa))
    {f0 : Addr} {od0 an0 : Option Addr} {oc0 kV0 dc0 pm0 cd0 ct0 : Value} {sl0 : Array (Option Value)}
    {f1 : Addr} {od1 an1 : Option Addr} {oc1 kV1 dc1 pm1 cd1 ct1 : Value} {sl1 : Array (Option Value)}
    {f2 : Addr} {od2 an2 : Option Addr} {oc2 kV2 dc2 pm2 cd2 ct2 : Value} {sl2 : Array (Option Value)}
    {f3 : Addr} {od3 an3 : Option Addr} {oc3 kV3 dc3 pm3 cd3 ct3 : Value} {sl3 : Array (Option Value)}
    {f4 : Addr} {od4 an4 : Option Addr} {oc4 kV4 dc4 pm4 cd4 ct4 : Value} {sl4 : Array (Option Value)}
    {f5 : Addr} {od5 an5 : Option Addr} {oc5 kV5 dc5 pm5 cd5 ct5 : Value} {sl5 : Array (Option Value)}
    {f6 : Addr} {od6 an6 : Option Addr} {oc6 kV6 dc6 pm6 cd6 ct6 : Value} {sl6 : Array (Option Value)}
    {f7 : Addr} {od7 an7 : Option Addr} {oc7 kV7 dc7 pm7 cd7 ct7 : Value} {sl7 : Array (Option Value)}
    {f8 : Addr} {od8 an8 : Option Addr} {oc8 kV8 dc8 pm8 cd8 ct8 : Value} {sl8 : Array (Option Value)}
    {f9 : Addr} {od9 an9 : Option Addr} {oc9 kV9 dc9 pm9 cd9 ct9 : Value} {sl9 : Array (Option Value)}
    {f10 : Addr} {od10 an10 : Option Addr} {oc10 kV10 dc10 pm10 cd10 ct10 : Value} {sl10 : Array (Option Value)}
    {f11 : Addr} {od11 an11 : Option Addr} {oc11 kV11 dc11 pm11 cd11 ct11 : Value} {sl11 : Array (Option Value)}
    {f12 : Addr} {od12 an12 : Option Addr} {oc12 kV12 dc12 pm12 cd12 ct12 : Value} {sl12 : Array (Option Value)}
    {f13 : Addr} {od13 an13 : Option Addr} {oc13 kV13 dc13 pm13 cd13 ct13 : Value} {sl13 : Array (Option Value)}
    {A0 : Addr}
    {A1 : Addr}
    {A2 : Addr}
    {A3 : Addr}
    {A4 : Addr}
    {A5 : Addr}
    {A6 : Addr}
    {A7 : Addr}
    {A8 : Addr}
    {A9 : Addr}
    {A10 : Addr}
    {A11 : Addr}
    {A12 : Addr}
    {A13 : Addr}
    {A14 : Addr}
    {A15 : Addr}
    {A16 : Addr}
    {A17 : Addr}
    {A18 : Addr}
    {A19 : Addr}
    {A20 : Addr}
    {A21 : Addr}
    {A22 : Addr}
    {A23 : Addr}
    {A24 : Addr}
    {A25 : Addr}
    {A26 : Addr}
    {A27 : Addr}
    {A28 : Addr}
    {O0 : Obj}
    {fx0 : Addr} {odx0 anx0 : Option Addr} {ocx0 kVx0 dcx0 pmx0 cdx0 ctx0 : Value} {slx0 : Array (Option Value)}
    {O1 : Obj}
    {fx1 : Addr} {odx1 anx1 : Option Addr} {ocx1 kVx1 dcx1 pmx1 cdx1 ctx1 : Value} {slx1 : Array (Option Value)}
    {O2 : Obj}
    {fx2 : Addr} {odx2 anx2 : Option Addr} {ocx2 kVx2 dcx2 pmx2 cdx2 ctx2 : Value} {slx2 : Array (Option Value)}
    {O3 : Obj}
    {fx3 : Addr} {odx3 anx3 : Option Addr} {ocx3 kVx3 dcx3 pmx3 cdx3 ctx3 : Value} {slx3 : Array (Option Value)}
    {O4 : Obj}
    {fx4 : Addr} {odx4 anx4 : Option Addr} {ocx4 kVx4 dcx4 pmx4 cdx4 ctx4 : Value} {slx4 : Array (Option Value)}
    {O5 : Obj}
    {fx5 : Addr} {odx5 anx5 : Option Addr} {ocx5 kVx5 dcx5 pmx5 cdx5 ctx5 : Value} {slx5 : Array (Option Value)}
    {O6 : Obj}
    {fx6 : Addr} {odx6 anx6 : Option Addr} {ocx6 kVx6 dcx6 pmx6 cdx6 ctx6 : Value} {slx6 : Array (Option Value)}
    {O7 : Obj}
    {fx7 : Addr} {odx7 anx7 : Option Addr} {ocx7 kVx7 dcx7 pmx7 cdx7 ctx7 : Value} {slx7 : Array (Option Value)}
    {O8 : Obj}
    {fx8 : Addr} {odx8 anx8 : Option Addr} {ocx8 kVx8 dcx8 pmx8 cdx8 ctx8 : Value} {slx8 : Array (Option Value)}
    {O9 : Obj}
    {fx9 : Addr} {odx9 anx9 : Option Addr} {ocx9 kVx9 dcx9 pmx9 cdx9 ctx9 : Value} {slx9 : Array (Option Value)}
    {O10 : Obj}
    {fx10 : Addr} {odx10 anx10 : Option Addr} {ocx10 kVx10 dcx10 pmx10 cdx10 ctx10 : Value} {slx10 : Array (Option Value)}
    {O11 : Obj}
    {fx11 : Addr} {odx11 anx11 : Option Addr} {ocx11 kVx11 dcx11 pmx11 cdx11 ctx11 : Value} {slx11 : Array (Option Value)}
    {O12 : Obj}
    {fx12 : Addr} {odx12 anx12 : Option Addr} {ocx12 kVx12 dcx12 pmx12 cdx12 ctx12 : Value} {slx12 : Array (Option Value)}
    {O13 : Obj}
    {fx13 : Addr} {odx13 anx13 : Option Addr} {ocx13 kVx13 dcx13 pmx13 cdx13 ctx13 : Value} {slx13 : Array (Option Value)}
    {O14 : Obj}
    {fx14 : Addr} {odx14 anx14 : Option Addr} {ocx14 kVx14 dcx14 pmx14 cdx14 ctx14 : Value} {slx14 : Array (Option Value)}
    {O15 : Obj}
    {fx15 : Addr} {odx15 anx15 : Option Addr} {ocx15 kVx15 dcx15 pmx15 cdx15 ctx15 : Value} {slx15 : Array (Option Value)}
    {O16 : Obj}
    {fx16 : Addr} {odx16 anx16 : Option Addr} {ocx16 kVx16 dcx16 pmx16 cdx16 ctx16 : Value} {slx16 : Array (Option Value)}
    {O17 : Obj}
    {fx17 : Addr} {odx17 anx17 : Option Addr} {ocx17 kVx17 dcx17 pmx17 cdx17 ctx17 : Value} {slx17 : Array (Option Value)}
    {O18 : Obj}
    {fx18 : Addr} {odx18 anx18 : Option Addr} {ocx18 kVx18 dcx18 pmx18 cdx18 ctx18 : Value} {slx18 : Array (Option Value)}
    {O19 : Obj}
    {fx19 : Addr} {odx19 anx19 : Option Addr} {ocx19 kVx19 dcx19 pmx19 cdx19 ctx19 : Value} {slx19 : Array (Option Value)}
    {O20 : Obj}
    {fx20 : Addr} {odx20 anx20 : Option Addr} {ocx20 kVx20 dcx20 pmx20 cdx20 ctx20 : Value} {slx20 : Array (Option Value)}
    {O21 : Obj}
    {fx21 : Addr} {odx21 anx21 : Option Addr} {ocx21 kVx21 dcx21 pmx21 cdx21 ctx21 : Value} {slx21 : Array (Option Value)}
    {O22 : Obj}
    {fx22 : Addr} {odx22 anx22 : Option Addr} {ocx22 kVx22 dcx22 pmx22 cdx22 ctx22 : Value} {slx22 : Array (Option Value)}
    {O23 : Obj}
    {fx23 : Addr} {odx23 anx23 : Option Addr} {ocx23 kVx23 dcx23 pmx23 cdx23 ctx23 : Value} {slx23 : Array (Option Value)}
    {O24 : Obj}
    {fx24 : Addr} {odx24 anx24 : Option Addr} {ocx24 kVx24 dcx24 pmx24 cdx24 ctx24 : Value} {slx24 : Array (Option Value)}
    {O25 : Obj}
    {fx25 : Addr} {odx25 anx25 : Option Addr} {ocx25 kVx25 dcx25 pmx25 cdx25 ctx25 : Value} {slx25 : Array (Option Value)}
    {O26 : Obj}
    {fx26 : Addr} {odx26 anx26 : Option Addr} {ocx26 kVx26 dcx26 pmx26 cdx26 ctx26 : Value} {slx26 : Array (Option Value)}
    {O27 : Obj}
    {O28 : Obj} 
    (xa0 : PySem.W.nsIn K mainGlobals (.ofString "InvalidDesk") = some (some (.ref A0))) (xl0 : K.lookup A0 = some O0) (xs0 : PySem.W.findIn K (.ref A0) "__setattr__" = some (some (.builtin "object.__setattr__"))) (xg0 : PySem.W.findIn K (.ref A0) "__getattribute__" = some (some (.builtin "BaseException.__getattribute__"))) (xh0 : PySem.W.findIn K (.ref A0) "__getattr__" = some none) (xc0 : PySem.W.findIn K (.ref A0) "__class__" = some (some (.builtin "object.__class__")))
    (xi0 : PySem.W.findIn K (.ref A0) "__init__" = some (some (.ref fx0))) (xf0 : PySem.W.findIn K (.ref A0) (.ofString "at") = some none) (lx0 : K.lookup fx0 = some ⟨ocx0, odx0, .func (PySem.W.fnOf (.ofString "__init__") (.ofString "InvalidDesk.__init__") (defArgs sx0) (defBody sx0) (defScope sx0) .none kVx0 dcx0 pmx0 anx0 cdx0 ctx0), slx0⟩) (qx0 : PySem.W.codeIn K cdx0 (.ofString "InvalidDesk.__init__") = true) (xt0 : PySem.W.typeIn K (.ref fx0) = some (.type "function"))
    (xa1 : PySem.W.nsIn K mainGlobals (.ofString "InvalidHistory") = some (some (.ref A1))) (xl1 : K.lookup A1 = some O1) (xs1 : PySem.W.findIn K (.ref A1) "__setattr__" = some (some (.builtin "object.__setattr__"))) (xg1 : PySem.W.findIn K (.ref A1) "__getattribute__" = some (some (.builtin "BaseException.__getattribute__"))) (xh1 : PySem.W.findIn K (.ref A1) "__getattr__" = some none) (xc1 : PySem.W.findIn K (.ref A1) "__class__" = some (some (.builtin "object.__class__")))
    (xi1 : PySem.W.findIn K (.ref A1) "__init__" = some (some (.ref fx1))) (xf1 : PySem.W.findIn K (.ref A1) (.ofString "at") = some none) (lx1 : K.lookup fx1 = some ⟨ocx1, odx1, .func (PySem.W.fnOf (.ofString "__init__") (.ofString "InvalidHistory.__init__") (defArgs sx1) (defBody sx1) (defScope sx1) .none kVx1 dcx1 pmx1 anx1 cdx1 ctx1), slx1⟩) (qx1 : PySem.W.codeIn K cdx1 (.ofString "InvalidHistory.__init__") = true) (xt1 : PySem.W.typeIn K (.ref fx1) = some (.type "function"))
    (xa2 : PySem.W.nsIn K mainGlobals (.ofString "InvalidStruck") = some (some (.ref A2))) (xl2 : K.lookup A2 = some O2) (xs2 : PySem.W.findIn K (.ref A2) "__setattr__" = some (some (.builtin "object.__setattr__"))) (xg2 : PySem.W.findIn K (.ref A2) "__getattribute__" = some (some (.builtin "BaseException.__getattribute__"))) (xh2 : PySem.W.findIn K (.ref A2) "__getattr__" = some none) (xc2 : PySem.W.findIn K (.ref A2) "__class__" = some (some (.builtin "object.__class__")))
    (xi2 : PySem.W.findIn K (.ref A2) "__init__" = some (some (.ref fx2))) (xf2 : PySem.W.findIn K (.ref A2) (.ofString "at") = some none) (lx2 : K.lookup fx2 = some ⟨ocx2, odx2, .func (PySem.W.fnOf (.ofString "__init__") (.ofString "InvalidStruck.__init__") (defArgs sx2) (defBody sx2) (defScope sx2) .none kVx2 dcx2 pmx2 anx2 cdx2 ctx2), slx2⟩) (qx2 : PySem.W.codeIn K cdx2 (.ofString "InvalidStruck.__init__") = true) (xt2 : PySem.W.typeIn K (.ref fx2) = some (.type "function"))
    (xa3 : PySem.W.nsIn K mainGlobals (.ofString "InvalidText") = some (some (.ref A3))) (xl3 : K.lookup A3 = some O3) (xs3 : PySem.W.findIn K (.ref A3) "__setattr__" = some (some (.builtin "object.__setattr__"))) (xg3 : PySem.W.findIn K (.ref A3) "__getattribute__" = some (some (.builtin "BaseException.__getattribute__"))) (xh3 : PySem.W.findIn K (.ref A3) "__getattr__" = some none) (xc3 : PySem.W.findIn K (.ref A3) "__class__" = some (some (.builtin "object.__class__")))
    (xi3 : PySem.W.findIn K (.ref A3) "__init__" = some (some (.ref fx3))) (xf3 : PySem.W.findIn K (.ref A3) (.ofString "at") = some none) (lx3 : K.lookup fx3 = some ⟨ocx3, odx3, .func (PySem.W.fnOf (.ofString "__init__") (.ofString "InvalidText.__init__") (defArgs sx3) (defBody sx3) (defScope sx3) .none kVx3 dcx3 pmx3 anx3 cdx3 ctx3), slx3⟩) (qx3 : PySem.W.codeIn K cdx3 (.ofString "InvalidText.__init__") = true) (xt3 : PySem.W.typeIn K (.ref fx3) = some (.type "function"))
    (xa4 : PySem.W.nsIn K mainGlobals (.ofString "InvalidTry") = some (some (.ref A4))) (xl4 : K.lookup A4 = some O4) (xs4 : PySem.W.findIn K (.ref A4) "__setattr__" = some (some (.builtin "object.__setattr__"))) (xg4 : PySem.W.findIn K (.ref A4) "__getattribute__" = some (some (.builtin "BaseException.__getattribute__"))) (xh4 : PySem.W.findIn K (.ref A4) "__getattr__" = some none) (xc4 : PySem.W.findIn K (.ref A4) "__class__" = some (some (.builtin "object.__class__")))
    (xi4 : PySem.W.findIn K (.ref A4) "__init__" = some (some (.ref fx4))) (xf4 : PySem.W.findIn K (.ref A4) (.ofString "at") = some none) (lx4 : K.lookup fx4 = some ⟨ocx4, odx4, .func (PySem.W.fnOf (.ofString "__init__") (.ofString "InvalidTry.__init__") (defArgs sx4) (defBody sx4) (defScope sx4) .none kVx4 dcx4 pmx4 anx4 cdx4 ctx4), slx4⟩) (qx4 : PySem.W.codeIn K cdx4 (.ofString "InvalidTry.__init__") = true) (xt4 : PySem.W.typeIn K (.ref fx4) = some (.type "function"))
    (xa5 : PySem.W.nsIn K mainGlobals (.ofString "InvalidIndex") = some (some (.ref A5))) (xl5 : K.lookup A5 = some O5) (xs5 : PySem.W.findIn K (.ref A5) "__setattr__" = some (some (.builtin "object.__setattr__"))) (xg5 : PySem.W.findIn K (.ref A5) "__getattribute__" = some (some (.builtin "BaseException.__getattribute__"))) (xh5 : PySem.W.findIn K (.ref A5) "__getattr__" = some none) (xc5 : PySem.W.findIn K (.ref A5) "__class__" = some (some (.builtin "object.__class__")))
    (xi5 : PySem.W.findIn K (.ref A5) "__init__" = some (some (.ref fx5))) (xf5 : PySem.W.findIn K (.ref A5) (.ofString "at") = some none) (lx5 : K.lookup fx5 = some ⟨ocx5, odx5, .func (PySem.W.fnOf (.ofString "__init__") (.ofString "InvalidIndex.__init__") (defArgs sx5) (defBody sx5) (defScope sx5) .none kVx5 dcx5 pmx5 anx5 cdx5 ctx5), slx5⟩) (qx5 : PySem.W.codeIn K cdx5 (.ofString "InvalidIndex.__init__") = true) (xt5 : PySem.W.typeIn K (.ref fx5) = some (.type "function"))
    (xa6 : PySem.W.nsIn K mainGlobals (.ofString "InvalidSort") = some (some (.ref A6))) (xl6 : K.lookup A6 = some O6) (xs6 : PySem.W.findIn K (.ref A6) "__setattr__" = some (some (.builtin "object.__setattr__"))) (xg6 : PySem.W.findIn K (.ref A6) "__getattribute__" = some (some (.builtin "BaseException.__getattribute__"))) (xh6 : PySem.W.findIn K (.ref A6) "__getattr__" = some none) (xc6 : PySem.W.findIn K (.ref A6) "__class__" = some (some (.builtin "object.__class__")))
    (xi6 : PySem.W.findIn K (.ref A6) "__init__" = some (some (.ref fx6))) (xf6 : PySem.W.findIn K (.ref A6) (.ofString "at") = some none) (lx6 : K.lookup fx6 = some ⟨ocx6, odx6, .func (PySem.W.fnOf (.ofString "__init__") (.ofString "InvalidSort.__init__") (defArgs sx6) (defBody sx6) (defScope sx6) .none kVx6 dcx6 pmx6 anx6 cdx6 ctx6), slx6⟩) (qx6 : PySem.W.codeIn K cdx6 (.ofString "InvalidSort.__init__") = true) (xt6 : PySem.W.typeIn K (.ref fx6) = some (.type "function"))
    (xa7 : PySem.W.nsIn K mainGlobals (.ofString "InvalidStep") = some (some (.ref A7))) (xl7 : K.lookup A7 = some O7) (xs7 : PySem.W.findIn K (.ref A7) "__setattr__" = some (some (.builtin "object.__setattr__"))) (xg7 : PySem.W.findIn K (.ref A7) "__getattribute__" = some (some (.builtin "BaseException.__getattribute__"))) (xh7 : PySem.W.findIn K (.ref A7) "__getattr__" = some none) (xc7 : PySem.W.findIn K (.ref A7) "__class__" = some (some (.builtin "object.__class__")))
    (xi7 : PySem.W.findIn K (.ref A7) "__init__" = some (some (.ref fx7))) (xf7 : PySem.W.findIn K (.ref A7) (.ofString "at") = some none) (lx7 : K.lookup fx7 = some ⟨ocx7, odx7, .func (PySem.W.fnOf (.ofString "__init__") (.ofString "InvalidStep.__init__") (defArgs sx7) (defBody sx7) (defScope sx7) .none kVx7 dcx7 pmx7 anx7 cdx7 ctx7), slx7⟩) (qx7 : PySem.W.codeIn K cdx7 (.ofString "InvalidStep.__init__") = true) (xt7 : PySem.W.typeIn K (.ref fx7) = some (.type "function"))
    (xa8 : PySem.W.nsIn K mainGlobals (.ofString "InvalidNumber") = some (some (.ref A8))) (xl8 : K.lookup A8 = some O8) (xs8 : PySem.W.findIn K (.ref A8) "__setattr__" = some (some (.builtin "object.__setattr__"))) (xg8 : PySem.W.findIn K (.ref A8) "__getattribute__" = some (some (.builtin "BaseException.__getattribute__"))) (xh8 : PySem.W.findIn K (.ref A8) "__getattr__" = some none) (xc8 : PySem.W.findIn K (.ref A8) "__class__" = some (some (.builtin "object.__class__")))
    (xi8 : PySem.W.findIn K (.ref A8) "__init__" = some (some (.ref fx8))) (xf8 : PySem.W.findIn K (.ref A8) (.ofString "at") = some none) (lx8 : K.lookup fx8 = some ⟨ocx8, odx8, .func (PySem.W.fnOf (.ofString "__init__") (.ofString "InvalidNumber.__init__") (defArgs sx8) (defBody sx8) (defScope sx8) .none kVx8 dcx8 pmx8 anx8 cdx8 ctx8), slx8⟩) (qx8 : PySem.W.codeIn K cdx8 (.ofString "InvalidNumber.__init__") = true) (xt8 : PySem.W.typeIn K (.ref fx8) = some (.type "function"))
    (xa9 : PySem.W.nsIn K mainGlobals (.ofString "InvalidLot") = some (some (.ref A9))) (xl9 : K.lookup A9 = some O9) (xs9 : PySem.W.findIn K (.ref A9) "__setattr__" = some (some (.builtin "object.__setattr__"))) (xg9 : PySem.W.findIn K (.ref A9) "__getattribute__" = some (some (.builtin "BaseException.__getattribute__"))) (xh9 : PySem.W.findIn K (.ref A9) "__getattr__" = some none) (xc9 : PySem.W.findIn K (.ref A9) "__class__" = some (some (.builtin "object.__class__")))
    (xi9 : PySem.W.findIn K (.ref A9) "__init__" = some (some (.ref fx9))) (xf9 : PySem.W.findIn K (.ref A9) (.ofString "at") = some none) (lx9 : K.lookup fx9 = some ⟨ocx9, odx9, .func (PySem.W.fnOf (.ofString "__init__") (.ofString "InvalidLot.__init__") (defArgs sx9) (defBody sx9) (defScope sx9) .none kVx9 dcx9 pmx9 anx9 cdx9 ctx9), slx9⟩) (qx9 : PySem.W.codeIn K cdx9 (.ofString "InvalidLot.__init__") = true) (xt9 : PySem.W.typeIn K (.ref fx9) = some (.type "function"))
    (xa10 : PySem.W.nsIn K mainGlobals (.ofString "InvalidPlan") = some (some (.ref A10))) (xl10 : K.lookup A10 = some O10) (xs10 : PySem.W.findIn K (.ref A10) "__setattr__" = some (some (.builtin "object.__setattr__"))) (xg10 : PySem.W.findIn K (.ref A10) "__getattribute__" = some (some (.builtin "BaseException.__getattribute__"))) (xh10 : PySem.W.findIn K (.ref A10) "__getattr__" = some none) (xc10 : PySem.W.findIn K (.ref A10) "__class__" = some (some (.builtin "object.__class__")))
    (xi10 : PySem.W.findIn K (.ref A10) "__init__" = some (some (.ref fx10))) (xf10 : PySem.W.findIn K (.ref A10) (.ofString "at") = some none) (lx10 : K.lookup fx10 = some ⟨ocx10, odx10, .func (PySem.W.fnOf (.ofString "__init__") (.ofString "InvalidPlan.__init__") (defArgs sx10) (defBody sx10) (defScope sx10) .none kVx10 dcx10 pmx10 anx10 cdx10 ctx10), slx10⟩) (qx10 : PySem.W.codeIn K cdx10 (.ofString "InvalidPlan.__init__") = true) (xt10 : PySem.W.typeIn K (.ref fx10) = some (.type "function"))
    (xa11 : PySem.W.nsIn K mainGlobals (.ofString "InvalidMoves") = some (some (.ref A11))) (xl11 : K.lookup A11 = some O11) (xs11 : PySem.W.findIn K (.ref A11) "__setattr__" = some (some (.builtin "object.__setattr__"))) (xg11 : PySem.W.findIn K (.ref A11) "__getattribute__" = some (some (.builtin "BaseException.__getattribute__"))) (xh11 : PySem.W.findIn K (.ref A11) "__getattr__" = some none) (xc11 : PySem.W.findIn K (.ref A11) "__class__" = some (some (.builtin "object.__class__")))
    (xi11 : PySem.W.findIn K (.ref A11) "__init__" = some (some (.ref fx11))) (xf11 : PySem.W.findIn K (.ref A11) (.ofString "at") = some none) (lx11 : K.lookup fx11 = some ⟨ocx11, odx11, .func (PySem.W.fnOf (.ofString "__init__") (.ofString "InvalidMoves.__init__") (defArgs sx11) (defBody sx11) (defScope sx11) .none kVx11 dcx11 pmx11 anx11 cdx11 ctx11), slx11⟩) (qx11 : PySem.W.codeIn K cdx11 (.ofString "InvalidMoves.__init__") = true) (xt11 : PySem.W.typeIn K (.ref fx11) = some (.type "function"))
    (xa12 : PySem.W.nsIn K mainGlobals (.ofString "InvalidOffers") = some (some (.ref A12))) (xl12 : K.lookup A12 = some O12) (xs12 : PySem.W.findIn K (.ref A12) "__setattr__" = some (some (.builtin "object.__setattr__"))) (xg12 : PySem.W.findIn K (.ref A12) "__getattribute__" = some (some (.builtin "BaseException.__getattribute__"))) (xh12 : PySem.W.findIn K (.ref A12) "__getattr__" = some none) (xc12 : PySem.W.findIn K (.ref A12) "__class__" = some (some (.builtin "object.__class__")))
    (xi12 : PySem.W.findIn K (.ref A12) "__init__" = some (some (.ref fx12))) (xf12 : PySem.W.findIn K (.ref A12) (.ofString "at") = some none) (lx12 : K.lookup fx12 = some ⟨ocx12, odx12, .func (PySem.W.fnOf (.ofString "__init__") (.ofString "InvalidOffers.__init__") (defArgs sx12) (defBody sx12) (defScope sx12) .none kVx12 dcx12 pmx12 anx12 cdx12 ctx12), slx12⟩) (qx12 : PySem.W.codeIn K cdx12 (.ofString "InvalidOffers.__init__") = true) (xt12 : PySem.W.typeIn K (.ref fx12) = some (.type "function"))
    (xa13 : PySem.W.nsIn K mainGlobals (.ofString "InvalidRules") = some (some (.ref A13))) (xl13 : K.lookup A13 = some O13) (xs13 : PySem.W.findIn K (.ref A13) "__setattr__" = some (some (.builtin "object.__setattr__"))) (xg13 : PySem.W.findIn K (.ref A13) "__getattribute__" = some (some (.builtin "BaseException.__getattribute__"))) (xh13 : PySem.W.findIn K (.ref A13) "__getattr__" = some none) (xc13 : PySem.W.findIn K (.ref A13) "__class__" = some (some (.builtin "object.__class__")))
    (xi13 : PySem.W.findIn K (.ref A13) "__init__" = some (some (.ref fx13))) (xf13 : PySem.W.findIn K (.ref A13) (.ofString "at") = some none) (lx13 : K.lookup fx13 = some ⟨ocx13, odx13, .func (PySem.W.fnOf (.ofString "__init__") (.ofString "InvalidRules.__init__") (defArgs sx13) (defBody sx13) (defScope sx13) .none kVx13 dcx13 pmx13 anx13 cdx13 ctx13), slx13⟩) (qx13 : PySem.W.codeIn K cdx13 (.ofString "InvalidRules.__init__") = true) (xt13 : PySem.W.typeIn K (.ref fx13) = some (.type "function"))
    (xa14 : PySem.W.nsIn K mainGlobals (.ofString "InvalidBound") = some (some (.ref A14))) (xl14 : K.lookup A14 = some O14) (xs14 : PySem.W.findIn K (.ref A14) "__setattr__" = some (some (.builtin "object.__setattr__"))) (xg14 : PySem.W.findIn K (.ref A14) "__getattribute__" = some (some (.builtin "BaseException.__getattribute__"))) (xh14 : PySem.W.findIn K (.ref A14) "__getattr__" = some none) (xc14 : PySem.W.findIn K (.ref A14) "__class__" = some (some (.builtin "object.__class__")))
    (xi14 : PySem.W.findIn K (.ref A14) "__init__" = some (some (.ref fx14))) (xf14 : PySem.W.findIn K (.ref A14) (.ofString "at") = some none) (lx14 : K.lookup fx14 = some ⟨ocx14, odx14, .func (PySem.W.fnOf (.ofString "__init__") (.ofString "InvalidBound.__init__") (defArgs sx14) (defBody sx14) (defScope sx14) .none kVx14 dcx14 pmx14 anx14 cdx14 ctx14), slx14⟩) (qx14 : PySem.W.codeIn K cdx14 (.ofString "InvalidBound.__init__") = true) (xt14 : PySem.W.typeIn K (.ref fx14) = some (.type "function"))
    (xa15 : PySem.W.nsIn K mainGlobals (.ofString "Refused") = some (some (.ref A15))) (xl15 : K.lookup A15 = some O15) (xs15 : PySem.W.findIn K (.ref A15) "__setattr__" = some (some (.builtin "object.__setattr__"))) (xg15 : PySem.W.findIn K (.ref A15) "__getattribute__" = some (some (.builtin "BaseException.__getattribute__"))) (xh15 : PySem.W.findIn K (.ref A15) "__getattr__" = some none) (xc15 : PySem.W.findIn K (.ref A15) "__class__" = some (some (.builtin "object.__class__")))
    (xi15 : PySem.W.findIn K (.ref A15) "__init__" = some (some (.ref fx15))) (xf15 : PySem.W.findIn K (.ref A15) (.ofString "at") = some none) (lx15 : K.lookup fx15 = some ⟨ocx15, odx15, .func (PySem.W.fnOf (.ofString "__init__") (.ofString "Refused.__init__") (defArgs sx15) (defBody sx15) (defScope sx15) .none kVx15 dcx15 pmx15 anx15 cdx15 ctx15), slx15⟩) (qx15 : PySem.W.codeIn K cdx15 (.ofString "Refused.__init__") = true) (xt15 : PySem.W.typeIn K (.ref fx15) = some (.type "function"))
    (xa16 : PySem.W.nsIn K mainGlobals (.ofString "InvalidSize") = some (some (.ref A16))) (xl16 : K.lookup A16 = some O16) (xs16 : PySem.W.findIn K (.ref A16) "__setattr__" = some (some (.builtin "object.__setattr__"))) (xg16 : PySem.W.findIn K (.ref A16) "__getattribute__" = some (some (.builtin "BaseException.__getattribute__"))) (xh16 : PySem.W.findIn K (.ref A16) "__getattr__" = some none) (xc16 : PySem.W.findIn K (.ref A16) "__class__" = some (some (.builtin "object.__class__")))
    (xi16 : PySem.W.findIn K (.ref A16) "__init__" = some (some (.ref fx16))) (xf16 : PySem.W.findIn K (.ref A16) (.ofString "word") = some none) (lx16 : K.lookup fx16 = some ⟨ocx16, odx16, .func (PySem.W.fnOf (.ofString "__init__") (.ofString "InvalidSize.__init__") (defArgs sx16) (defBody sx16) (defScope sx16) .none kVx16 dcx16 pmx16 anx16 cdx16 ctx16), slx16⟩) (qx16 : PySem.W.codeIn K cdx16 (.ofString "InvalidSize.__init__") = true) (xt16 : PySem.W.typeIn K (.ref fx16) = some (.type "function"))
    (xa17 : PySem.W.nsIn K mainGlobals (.ofString "InvalidWants") = some (some (.ref A17))) (xl17 : K.lookup A17 = some O17) (xs17 : PySem.W.findIn K (.ref A17) "__setattr__" = some (some (.builtin "object.__setattr__"))) (xg17 : PySem.W.findIn K (.ref A17) "__getattribute__" = some (some (.builtin "BaseException.__getattribute__"))) (xh17 : PySem.W.findIn K (.ref A17) "__getattr__" = some none) (xc17 : PySem.W.findIn K (.ref A17) "__class__" = some (some (.builtin "object.__class__")))
    (xi17 : PySem.W.findIn K (.ref A17) "__init__" = some (some (.ref fx17))) (xf17 : PySem.W.findIn K (.ref A17) (.ofString "at") = some none) (lx17 : K.lookup fx17 = some ⟨ocx17, odx17, .func (PySem.W.fnOf (.ofString "__init__") (.ofString "InvalidWants.__init__") (defArgs sx17) (defBody sx17) (defScope sx17) .none kVx17 dcx17 pmx17 anx17 cdx17 ctx17), slx17⟩) (qx17 : PySem.W.codeIn K cdx17 (.ofString "InvalidWants.__init__") = true) (xt17 : PySem.W.typeIn K (.ref fx17) = some (.type "function"))
    (xa18 : PySem.W.nsIn K mainGlobals (.ofString "InvalidLedger") = some (some (.ref A18))) (xl18 : K.lookup A18 = some O18) (xs18 : PySem.W.findIn K (.ref A18) "__setattr__" = some (some (.builtin "object.__setattr__"))) (xg18 : PySem.W.findIn K (.ref A18) "__getattribute__" = some (some (.builtin "BaseException.__getattribute__"))) (xh18 : PySem.W.findIn K (.ref A18) "__getattr__" = some none) (xc18 : PySem.W.findIn K (.ref A18) "__class__" = some (some (.builtin "object.__class__")))
    (xi18 : PySem.W.findIn K (.ref A18) "__init__" = some (some (.ref fx18))) (xf18 : PySem.W.findIn K (.ref A18) (.ofString "at") = some none) (lx18 : K.lookup fx18 = some ⟨ocx18, odx18, .func (PySem.W.fnOf (.ofString "__init__") (.ofString "InvalidLedger.__init__") (defArgs sx18) (defBody sx18) (defScope sx18) .none kVx18 dcx18 pmx18 anx18 cdx18 ctx18), slx18⟩) (qx18 : PySem.W.codeIn K cdx18 (.ofString "InvalidLedger.__init__") = true) (xt18 : PySem.W.typeIn K (.ref fx18) = some (.type "function"))
    (xa19 : PySem.W.nsIn K mainGlobals (.ofString "InvalidHouse") = some (some (.ref A19))) (xl19 : K.lookup A19 = some O19) (xs19 : PySem.W.findIn K (.ref A19) "__setattr__" = some (some (.builtin "object.__setattr__"))) (xg19 : PySem.W.findIn K (.ref A19) "__getattribute__" = some (some (.builtin "BaseException.__getattribute__"))) (xh19 : PySem.W.findIn K (.ref A19) "__getattr__" = some none) (xc19 : PySem.W.findIn K (.ref A19) "__class__" = some (some (.builtin "object.__class__")))
    (xi19 : PySem.W.findIn K (.ref A19) "__init__" = some (some (.ref fx19))) (xf19 : PySem.W.findIn K (.ref A19) (.ofString "at") = some none) (lx19 : K.lookup fx19 = some ⟨ocx19, odx19, .func (PySem.W.fnOf (.ofString "__init__") (.ofString "InvalidHouse.__init__") (defArgs sx19) (defBody sx19) (defScope sx19) .none kVx19 dcx19 pmx19 anx19 cdx19 ctx19), slx19⟩) (qx19 : PySem.W.codeIn K cdx19 (.ofString "InvalidHouse.__init__") = true) (xt19 : PySem.W.typeIn K (.ref fx19) = some (.type "function"))
    (xa20 : PySem.W.nsIn K mainGlobals (.ofString "InvalidSeam") = some (some (.ref A20))) (xl20 : K.lookup A20 = some O20) (xs20 : PySem.W.findIn K (.ref A20) "__setattr__" = some (some (.builtin "object.__setattr__"))) (xg20 : PySem.W.findIn K (.ref A20) "__getattribute__" = some (some (.builtin "BaseException.__getattribute__"))) (xh20 : PySem.W.findIn K (.ref A20) "__getattr__" = some none) (xc20 : PySem.W.findIn K (.ref A20) "__class__" = some (some (.builtin "object.__class__")))
    (xi20 : PySem.W.findIn K (.ref A20) "__init__" = some (some (.ref fx20))) (xf20 : PySem.W.findIn K (.ref A20) (.ofString "at") = some none) (lx20 : K.lookup fx20 = some ⟨ocx20, odx20, .func (PySem.W.fnOf (.ofString "__init__") (.ofString "InvalidSeam.__init__") (defArgs sx20) (defBody sx20) (defScope sx20) .none kVx20 dcx20 pmx20 anx20 cdx20 ctx20), slx20⟩) (qx20 : PySem.W.codeIn K cdx20 (.ofString "InvalidSeam.__init__") = true) (xt20 : PySem.W.typeIn K (.ref fx20) = some (.type "function"))
    (xa21 : PySem.W.nsIn K mainGlobals (.ofString "InvalidLots") = some (some (.ref A21))) (xl21 : K.lookup A21 = some O21) (xs21 : PySem.W.findIn K (.ref A21) "__setattr__" = some (some (.builtin "object.__setattr__"))) (xg21 : PySem.W.findIn K (.ref A21) "__getattribute__" = some (some (.builtin "BaseException.__getattribute__"))) (xh21 : PySem.W.findIn K (.ref A21) "__getattr__" = some none) (xc21 : PySem.W.findIn K (.ref A21) "__class__" = some (some (.builtin "object.__class__")))
    (xi21 : PySem.W.findIn K (.ref A21) "__init__" = some (some (.ref fx21))) (xf21 : PySem.W.findIn K (.ref A21) (.ofString "at") = some none) (lx21 : K.lookup fx21 = some ⟨ocx21, odx21, .func (PySem.W.fnOf (.ofString "__init__") (.ofString "InvalidLots.__init__") (defArgs sx21) (defBody sx21) (defScope sx21) .none kVx21 dcx21 pmx21 anx21 cdx21 ctx21), slx21⟩) (qx21 : PySem.W.codeIn K cdx21 (.ofString "InvalidLots.__init__") = true) (xt21 : PySem.W.typeIn K (.ref fx21) = some (.type "function"))
    (xa22 : PySem.W.nsIn K mainGlobals (.ofString "InvalidPromise") = some (some (.ref A22))) (xl22 : K.lookup A22 = some O22) (xs22 : PySem.W.findIn K (.ref A22) "__setattr__" = some (some (.builtin "object.__setattr__"))) (xg22 : PySem.W.findIn K (.ref A22) "__getattribute__" = some (some (.builtin "BaseException.__getattribute__"))) (xh22 : PySem.W.findIn K (.ref A22) "__getattr__" = some none) (xc22 : PySem.W.findIn K (.ref A22) "__class__" = some (some (.builtin "object.__class__")))
    (xi22 : PySem.W.findIn K (.ref A22) "__init__" = some (some (.ref fx22))) (xf22 : PySem.W.findIn K (.ref A22) (.ofString "at") = some none) (lx22 : K.lookup fx22 = some ⟨ocx22, odx22, .func (PySem.W.fnOf (.ofString "__init__") (.ofString "InvalidPromise.__init__") (defArgs sx22) (defBody sx22) (defScope sx22) .none kVx22 dcx22 pmx22 anx22 cdx22 ctx22), slx22⟩) (qx22 : PySem.W.codeIn K cdx22 (.ofString "InvalidPromise.__init__") = true) (xt22 : PySem.W.typeIn K (.ref fx22) = some (.type "function"))
    (xa23 : PySem.W.nsIn K mainGlobals (.ofString "InvalidContract") = some (some (.ref A23))) (xl23 : K.lookup A23 = some O23) (xs23 : PySem.W.findIn K (.ref A23) "__setattr__" = some (some (.builtin "object.__setattr__"))) (xg23 : PySem.W.findIn K (.ref A23) "__getattribute__" = some (some (.builtin "BaseException.__getattribute__"))) (xh23 : PySem.W.findIn K (.ref A23) "__getattr__" = some none) (xc23 : PySem.W.findIn K (.ref A23) "__class__" = some (some (.builtin "object.__class__")))
    (xi23 : PySem.W.findIn K (.ref A23) "__init__" = some (some (.ref fx23))) (xf23 : PySem.W.findIn K (.ref A23) (.ofString "at") = some none) (lx23 : K.lookup fx23 = some ⟨ocx23, odx23, .func (PySem.W.fnOf (.ofString "__init__") (.ofString "InvalidContract.__init__") (defArgs sx23) (defBody sx23) (defScope sx23) .none kVx23 dcx23 pmx23 anx23 cdx23 ctx23), slx23⟩) (qx23 : PySem.W.codeIn K cdx23 (.ofString "InvalidContract.__init__") = true) (xt23 : PySem.W.typeIn K (.ref fx23) = some (.type "function"))
    (xa24 : PySem.W.nsIn K mainGlobals (.ofString "InvalidCosts") = some (some (.ref A24))) (xl24 : K.lookup A24 = some O24) (xs24 : PySem.W.findIn K (.ref A24) "__setattr__" = some (some (.builtin "object.__setattr__"))) (xg24 : PySem.W.findIn K (.ref A24) "__getattribute__" = some (some (.builtin "BaseException.__getattribute__"))) (xh24 : PySem.W.findIn K (.ref A24) "__getattr__" = some none) (xc24 : PySem.W.findIn K (.ref A24) "__class__" = some (some (.builtin "object.__class__")))
    (xi24 : PySem.W.findIn K (.ref A24) "__init__" = some (some (.ref fx24))) (xf24 : PySem.W.findIn K (.ref A24) (.ofString "at") = some none) (lx24 : K.lookup fx24 = some ⟨ocx24, odx24, .func (PySem.W.fnOf (.ofString "__init__") (.ofString "InvalidCosts.__init__") (defArgs sx24) (defBody sx24) (defScope sx24) .none kVx24 dcx24 pmx24 anx24 cdx24 ctx24), slx24⟩) (qx24 : PySem.W.codeIn K cdx24 (.ofString "InvalidCosts.__init__") = true) (xt24 : PySem.W.typeIn K (.ref fx24) = some (.type "function"))
    (xa25 : PySem.W.nsIn K mainGlobals (.ofString "InvalidTools") = some (some (.ref A25))) (xl25 : K.lookup A25 = some O25) (xs25 : PySem.W.findIn K (.ref A25) "__setattr__" = some (some (.builtin "object.__setattr__"))) (xg25 : PySem.W.findIn K (.ref A25) "__getattribute__" = some (some (.builtin "BaseException.__getattribute__"))) (xh25 : PySem.W.findIn K (.ref A25) "__getattr__" = some none) (xc25 : PySem.W.findIn K (.ref A25) "__class__" = some (some (.builtin "object.__class__")))
    (xi25 : PySem.W.findIn K (.ref A25) "__init__" = some (some (.ref fx25))) (xf25 : PySem.W.findIn K (.ref A25) (.ofString "at") = some none) (lx25 : K.lookup fx25 = some ⟨ocx25, odx25, .func (PySem.W.fnOf (.ofString "__init__") (.ofString "InvalidTools.__init__") (defArgs sx25) (defBody sx25) (defScope sx25) .none kVx25 dcx25 pmx25 anx25 cdx25 ctx25), slx25⟩) (qx25 : PySem.W.codeIn K cdx25 (.ofString "InvalidTools.__init__") = true) (xt25 : PySem.W.typeIn K (.ref fx25) = some (.type "function"))
    (xa26 : PySem.W.nsIn K mainGlobals (.ofString "InvalidWaits") = some (some (.ref A26))) (xl26 : K.lookup A26 = some O26) (xs26 : PySem.W.findIn K (.ref A26) "__setattr__" = some (some (.builtin "object.__setattr__"))) (xg26 : PySem.W.findIn K (.ref A26) "__getattribute__" = some (some (.builtin "BaseException.__getattribute__"))) (xh26 : PySem.W.findIn K (.ref A26) "__getattr__" = some none) (xc26 : PySem.W.findIn K (.ref A26) "__class__" = some (some (.builtin "object.__class__")))
    (xi26 : PySem.W.findIn K (.ref A26) "__init__" = some (some (.ref fx26))) (xf26 : PySem.W.findIn K (.ref A26) (.ofString "at") = some none) (lx26 : K.lookup fx26 = some ⟨ocx26, odx26, .func (PySem.W.fnOf (.ofString "__init__") (.ofString "InvalidWaits.__init__") (defArgs sx26) (defBody sx26) (defScope sx26) .none kVx26 dcx26 pmx26 anx26 cdx26 ctx26), slx26⟩) (qx26 : PySem.W.codeIn K cdx26 (.ofString "InvalidWaits.__init__") = true) (xt26 : PySem.W.typeIn K (.ref fx26) = some (.type "function"))
    (xa27 : PySem.W.nsIn K mainGlobals (.ofString "InvalidCommand") = some (some (.ref A27))) (xl27 : K.lookup A27 = some O27) (xs27 : PySem.W.findIn K (.ref A27) "__setattr__" = some (some (.builtin "object.__setattr__"))) (xg27 : PySem.W.findIn K (.ref A27) "__getattribute__" = some (some (.builtin "BaseException.__getattribute__"))) (xh27 : PySem.W.findIn K (.ref A27) "__getattr__" = some none) (xc27 : PySem.W.findIn K (.ref A27) "__class__" = some (some (.builtin "object.__class__")))
    (xa28 : PySem.W.nsIn K mainGlobals (.ofString "LateError") = some (some (.ref A28))) (xl28 : K.lookup A28 = some O28) (xs28 : PySem.W.findIn K (.ref A28) "__setattr__" = some (some (.builtin "object.__setattr__"))) (xg28 : PySem.W.findIn K (.ref A28) "__getattribute__" = some (some (.builtin "BaseException.__getattribute__"))) (xh28 : PySem.W.findIn K (.ref A28) "__getattr__" = some none) (xc28 : PySem.W.findIn K (.ref A28) "__class__" = some (some (.builtin "object.__class__")))
    (a0 : PySem.W.nsIn K mainGlobals (.ofString "_law_box") = some (some (.ref f0)))
    (l0 : K.lookup f0 = some ⟨oc0, od0, .func (PySem.W.fnOf (.ofString "_law_box") (.ofString "_law_box") (defArgs s0) (defBody s0) (defScope s0) .none kV0 dc0 pm0 an0 cd0 ct0), sl0⟩) (q0 : PySem.W.codeIn K cd0 (.ofString "_law_box") = true) (k0 : PySem.W.keepIn K (.ref f0) = true)
    (a1 : PySem.W.nsIn K mainGlobals (.ofString "_law_raise_a") = some (some (.ref f1)))
    (l1 : K.lookup f1 = some ⟨oc1, od1, .func (PySem.W.fnOf (.ofString "_law_raise_a") (.ofString "_law_raise_a") (defArgs s1) (defBody s1) (defScope s1) .none kV1 dc1 pm1 an1 cd1 ct1), sl1⟩) (q1 : PySem.W.codeIn K cd1 (.ofString "_law_raise_a") = true) (k1 : PySem.W.keepIn K (.ref f1) = true)
    (a2 : PySem.W.nsIn K mainGlobals (.ofString "_law_raise_b") = some (some (.ref f2)))
    (l2 : K.lookup f2 = some ⟨oc2, od2, .func (PySem.W.fnOf (.ofString "_law_raise_b") (.ofString "_law_raise_b") (defArgs s2) (defBody s2) (defScope s2) .none kV2 dc2 pm2 an2 cd2 ct2), sl2⟩) (q2 : PySem.W.codeIn K cd2 (.ofString "_law_raise_b") = true) (k2 : PySem.W.keepIn K (.ref f2) = true)
    (a3 : PySem.W.nsIn K mainGlobals (.ofString "_law_raise_c") = some (some (.ref f3)))
    (l3 : K.lookup f3 = some ⟨oc3, od3, .func (PySem.W.fnOf (.ofString "_law_raise_c") (.ofString "_law_raise_c") (defArgs s3) (defBody s3) (defScope s3) .none kV3 dc3 pm3 an3 cd3 ct3), sl3⟩) (q3 : PySem.W.codeIn K cd3 (.ofString "_law_raise_c") = true) (k3 : PySem.W.keepIn K (.ref f3) = true)
    (a4 : PySem.W.nsIn K mainGlobals (.ofString "_law_raise_d") = some (some (.ref f4)))
    (l4 : K.lookup f4 = some ⟨oc4, od4, .func (PySem.W.fnOf (.ofString "_law_raise_d") (.ofString "_law_raise_d") (defArgs s4) (defBody s4) (defScope s4) .none kV4 dc4 pm4 an4 cd4 ct4), sl4⟩) (q4 : PySem.W.codeIn K cd4 (.ofString "_law_raise_d") = true) (k4 : PySem.W.keepIn K (.ref f4) = true)
    (a5 : PySem.W.nsIn K mainGlobals (.ofString "_law_raise") = some (some (.ref f5)))
    (l5 : K.lookup f5 = some ⟨oc5, od5, .func (PySem.W.fnOf (.ofString "_law_raise") (.ofString "_law_raise") (defArgs s5) (defBody s5) (defScope s5) .none kV5 dc5 pm5 an5 cd5 ct5), sl5⟩) (q5 : PySem.W.codeIn K cd5 (.ofString "_law_raise") = true) (k5 : PySem.W.keepIn K (.ref f5) = true)
    (a6 : PySem.W.nsIn K mainGlobals (.ofString "_law_caught_a") = some (some (.ref f6)))
    (l6 : K.lookup f6 = some ⟨oc6, od6, .func (PySem.W.fnOf (.ofString "_law_caught_a") (.ofString "_law_caught_a") (defArgs s6) (defBody s6) (defScope s6) .none kV6 dc6 pm6 an6 cd6 ct6), sl6⟩) (q6 : PySem.W.codeIn K cd6 (.ofString "_law_caught_a") = true) (k6 : PySem.W.keepIn K (.ref f6) = true)
    (a7 : PySem.W.nsIn K mainGlobals (.ofString "_law_caught_b") = some (some (.ref f7)))
    (l7 : K.lookup f7 = some ⟨oc7, od7, .func (PySem.W.fnOf (.ofString "_law_caught_b") (.ofString "_law_caught_b") (defArgs s7) (defBody s7) (defScope s7) .none kV7 dc7 pm7 an7 cd7 ct7), sl7⟩) (q7 : PySem.W.codeIn K cd7 (.ofString "_law_caught_b") = true) (k7 : PySem.W.keepIn K (.ref f7) = true)
    (a8 : PySem.W.nsIn K mainGlobals (.ofString "_law_caught_c") = some (some (.ref f8)))
    (l8 : K.lookup f8 = some ⟨oc8, od8, .func (PySem.W.fnOf (.ofString "_law_caught_c") (.ofString "_law_caught_c") (defArgs s8) (defBody s8) (defScope s8) .none kV8 dc8 pm8 an8 cd8 ct8), sl8⟩) (q8 : PySem.W.codeIn K cd8 (.ofString "_law_caught_c") = true) (k8 : PySem.W.keepIn K (.ref f8) = true)
    (a9 : PySem.W.nsIn K mainGlobals (.ofString "_law_caught_d") = some (some (.ref f9)))
    (l9 : K.lookup f9 = some ⟨oc9, od9, .func (PySem.W.fnOf (.ofString "_law_caught_d") (.ofString "_law_caught_d") (defArgs s9) (defBody s9) (defScope s9) .none kV9 dc9 pm9 an9 cd9 ct9), sl9⟩) (q9 : PySem.W.codeIn K cd9 (.ofString "_law_caught_d") = true) (k9 : PySem.W.keepIn K (.ref f9) = true)
    (a10 : PySem.W.nsIn K mainGlobals (.ofString "_law_is_alone") = some (some (.ref f10)))
    (l10 : K.lookup f10 = some ⟨oc10, od10, .func (PySem.W.fnOf (.ofString "_law_is_alone") (.ofString "_law_is_alone") (defArgs s10) (defBody s10) (defScope s10) .none kV10 dc10 pm10 an10 cd10 ct10), sl10⟩) (q10 : PySem.W.codeIn K cd10 (.ofString "_law_is_alone") = true) (k10 : PySem.W.keepIn K (.ref f10) = true)
    (a11 : PySem.W.nsIn K mainGlobals (.ofString "_law_take") = some (some (.ref f11)))
    (l11 : K.lookup f11 = some ⟨oc11, od11, .func (PySem.W.fnOf (.ofString "_law_take") (.ofString "_law_take") (defArgs s11) (defBody s11) (defScope s11) .none kV11 dc11 pm11 an11 cd11 ct11), sl11⟩) (q11 : PySem.W.codeIn K cd11 (.ofString "_law_take") = true) (k11 : PySem.W.keepIn K (.ref f11) = true)
    (a12 : PySem.W.nsIn K mainGlobals (.ofString "_law_pick") = some (some (.ref f12)))
    (l12 : K.lookup f12 = some ⟨oc12, od12, .func (PySem.W.fnOf (.ofString "_law_pick") (.ofString "_law_pick") (defArgs s12) (defBody s12) (defScope s12) .none kV12 dc12 pm12 an12 cd12 ct12), sl12⟩) (q12 : PySem.W.codeIn K cd12 (.ofString "_law_pick") = true) (k12 : PySem.W.keepIn K (.ref f12) = true)
    (a13 : PySem.W.nsIn K mainGlobals (.ofString "law") = some (some (.ref f13)))
    (l13 : K.lookup f13 = some ⟨oc13, od13, .func (PySem.W.fnOf (.ofString "law") (.ofString "law") (defArgs s13) (defBody s13) (defScope s13) .none kV13 dc13 pm13 an13 cd13 ct13), sl13⟩) (q13 : PySem.W.codeIn K cd13 (.ofString "law") = true) (k13 : PySem.W.keepIn K (.ref f13) = true)
    (b0 : PySem.W.nsIn K mainGlobals (.ofString "len") = some none) (b1 : PySem.W.nsIn K mainGlobals (.ofString "abs") = some none) (b2 : PySem.W.nsIn K mainGlobals (.ofString "int") = some none) (b3 : PySem.W.nsIn K mainGlobals (.ofString "bool") = some none) (b4 : PySem.W.nsIn K mainGlobals (.ofString "str") = some none) (b5 : PySem.W.nsIn K mainGlobals (.ofString "tuple") = some none) (b6 : PySem.W.nsIn K mainGlobals (.ofString "list") = some none) (b7 : PySem.W.nsIn K mainGlobals (.ofString "all") = some none) (b8 : PySem.W.nsIn K mainGlobals (.ofString "any") = some none) (b9 : PySem.W.nsIn K mainGlobals (.ofString "sum") = some none) (b10 : PySem.W.nsIn K mainGlobals (.ofString "min") = some none) (b11 : PySem.W.nsIn K mainGlobals (.ofString "max") = some none) (b12 : PySem.W.nsIn K mainGlobals (.ofString "repr") = some none) (b13 : PySem.W.nsIn K mainGlobals (.ofString "isinstance") = some none) (b14 : PySem.W.nsIn K mainGlobals (.ofString "range") = some none) (b15 : PySem.W.nsIn K mainGlobals (.ofString "enumerate") = some none) (b16 : PySem.W.nsIn K mainGlobals (.ofString "zip") = some none) (b17 : PySem.W.nsIn K mainGlobals (.ofString "sorted") = some none)
    
    {ON27 : Obj} (xn27 : K.lookup (nsO O27) = some ON27)
    {ON28 : Obj} (xn28 : K.lookup (nsO O28) = some ON28)
    (xd27 : dictB ON27 = true)
    (xd28 : dictB ON28 = true)
    (xe28 : clsB O28 = true)
    (xo0 : xObjL A0 (some A28) O0 = true)
    (xo1 : xObjL A1 (some A28) O1 = true)
    (xo2 : xObjL A2 (some A28) O2 = true)
    (xo3 : xObjL A3 (some A28) O3 = true)
    (xo4 : xObjL A4 (some A28) O4 = true)
    (xo5 : xObjL A5 (some A28) O5 = true)
    (xo6 : xObjL A6 (some A28) O6 = true)
    (xo7 : xObjL A7 (some A28) O7 = true)
    (xo8 : xObjL A8 (some A28) O8 = true)
    (xo9 : xObjL A9 (some A28) O9 = true)
    (xo10 : xObjL A10 (some A28) O10 = true)
    (xo11 : xObjL A11 (some A28) O11 = true)
    (xo12 : xObjL A12 (some A28) O12 = true)
    (xo13 : xObjL A13 (some A28) O13 = true)
    (xo14 : xObjL A14 (some A28) O14 = true)
    (xo15 : xObjL A15 (some A28) O15 = true)
    (xo16 : xObjL A16 (some A28) O16 = true)
    (xo17 : xObjL A17 (some A28) O17 = true)
    (xo18 : xObjL A18 (some A28) O18 = true)
    (xo19 : xObjL A19 (some A28) O19 = true)
    (xo20 : xObjL A20 (some A28) O20 = true)
    (xo21 : xObjL A21 (some A28) O21 = true)
    (xo22 : xObjL A22 (some A28) O22 = true)
    (xo23 : xObjL A23 (some A28) O23 = true)
    (xo24 : xObjL A24 (some A28) O24 = true)
    (xo25 : xObjL A25 (some A28) O25 = true)
    (xo26 : xObjL A26 (some A28) O26 = true)
    (xo27 : xObjL A27 (some A28) O27 = true)
    (xo28 : xObjL A28 none O28 = true)
    (xnd : ([A0, A1, A2, A3, A4, A5, A6, A7, A8, A9, A10, A11, A12, A13, A14, A15, A16, A17, A18, A19, A20, A21, A22, A23, A24, A25, A26, A27, A28] : List Addr).Nodup)
    : ∃ fd : FuncData, (∀ (s : Shared) (u : Value), BindsTo s fd ⟨[u], []⟩ [("script", u)]) ∧ ∀ base : Heap, K.In base → base.Ns mainGlobals mg → FnG l.prog w K mg base (CXF l.prog w) 29 fa fd ["script"] (fun xs H Q E => ∀ C, spF K C ((gL 14).fn 13) xs H Q E) := by
  have e := hfa.symm.trans (PySem.W.mg_of X G a13)
  have ef : fa = f13 := by cases e; rfl
  rw [ef]
  have ok0 : DefOk gE K e0 f0 (PySem.W.fnOf (.ofString "_law_box") (.ofString "_law_box") (defArgs s0) (defBody s0) (defScope s0) .none kV0 dc0 pm0 an0 cd0 ct0) := ⟨⟨_, _, _, _, _, _, _, _, _, _, _, _, rfl, l0, q0⟩, k0, Binds.all (fun us hl => match us, hl with | [_, _], _ => rfl), o0, ⟨_, rfl⟩⟩
  have ok1 : DefOk gE K e1 f1 (PySem.W.fnOf (.ofString "_law_raise_a") (.ofString "_law_raise_a") (defArgs s1) (defBody s1) (defScope s1) .none kV1 dc1 pm1 an1 cd1 ct1) := ⟨⟨_, _, _, _, _, _, _, _, _, _, _, _, rfl, l1, q1⟩, k1, Binds.all (fun us hl => match us, hl with | [_, _], _ => rfl), o1, ⟨_, rfl⟩⟩
  have ok2 : DefOk gE K e2 f2 (PySem.W.fnOf (.ofString "_law_raise_b") (.ofString "_law_raise_b") (defArgs s2) (defBody s2) (defScope s2) .none kV2 dc2 pm2 an2 cd2 ct2) := ⟨⟨_, _, _, _, _, _, _, _, _, _, _, _, rfl, l2, q2⟩, k2, Binds.all (fun us hl => match us, hl with | [_, _], _ => rfl), o2, ⟨_, rfl⟩⟩
  have ok3 : DefOk gE K e3 f3 (PySem.W.fnOf (.ofString "_law_raise_c") (.ofString "_law_raise_c") (defArgs s3) (defBody s3) (defScope s3) .none kV3 dc3 pm3 an3 cd3 ct3) := ⟨⟨_, _, _, _, _, _, _, _, _, _, _, _, rfl, l3, q3⟩, k3, Binds.all (fun us hl => match us, hl with | [_, _], _ => rfl), o3, ⟨_, rfl⟩⟩
  have ok4 : DefOk gE K e4 f4 (PySem.W.fnOf (.ofString "_law_raise_d") (.ofString "_law_raise_d") (defArgs s4) (defBody s4) (defScope s4) .none kV4 dc4 pm4 an4 cd4 ct4) := ⟨⟨_, _, _, _, _, _, _, _, _, _, _, _, rfl, l4, q4⟩, k4, Binds.all (fun us hl => match us, hl with | [_, _], _ => rfl), o4, ⟨_, rfl⟩⟩
  have ok5 : DefOk gE K e5 f5 (PySem.W.fnOf (.ofString "_law_raise") (.ofString "_law_raise") (defArgs s5) (defBody s5) (defScope s5) .none kV5 dc5 pm5 an5 cd5 ct5) := ⟨⟨_, _, _, _, _, _, _, _, _, _, _, _, rfl, l5, q5⟩, k5, Binds.all (fun us hl => match us, hl with | [_, _], _ => rfl), o5, ⟨_, rfl⟩⟩
  have ok6 : DefOk gE K e6 f6 (PySem.W.fnOf (.ofString "_law_caught_a") (.ofString "_law_caught_a") (defArgs s6) (defBody s6) (defScope s6) .none kV6 dc6 pm6 an6 cd6 ct6) := ⟨⟨_, _, _, _, _, _, _, _, _, _, _, _, rfl, l6, q6⟩, k6, Binds.all (fun us hl => match us, hl with | [_, _], _ => rfl), o6, ⟨_, rfl⟩⟩
  have ok7 : DefOk gE K e7 f7 (PySem.W.fnOf (.ofString "_law_caught_b") (.ofString "_law_caught_b") (defArgs s7) (defBody s7) (defScope s7) .none kV7 dc7 pm7 an7 cd7 ct7) := ⟨⟨_, _, _, _, _, _, _, _, _, _, _, _, rfl, l7, q7⟩, k7, Binds.all (fun us hl => match us, hl with | [_, _], _ => rfl), o7, ⟨_, rfl⟩⟩
  have ok8 : DefOk gE K e8 f8 (PySem.W.fnOf (.ofString "_law_caught_c") (.ofString "_law_caught_c") (defArgs s8) (defBody s8) (defScope s8) .none kV8 dc8 pm8 an8 cd8 ct8) := ⟨⟨_, _, _, _, _, _, _, _, _, _, _, _, rfl, l8, q8⟩, k8, Binds.all (fun us hl => match us, hl with | [_, _], _ => rfl), o8, ⟨_, rfl⟩⟩
  have ok9 : DefOk gE K e9 f9 (PySem.W.fnOf (.ofString "_law_caught_d") (.ofString "_law_caught_d") (defArgs s9) (defBody s9) (defScope s9) .none kV9 dc9 pm9 an9 cd9 ct9) := ⟨⟨_, _, _, _, _, _, _, _, _, _, _, _, rfl, l9, q9⟩, k9, Binds.all (fun us hl => match us, hl with | [_, _], _ => rfl), o9, ⟨_, rfl⟩⟩
  have ok10 : DefOk gE K e10 f10 (PySem.W.fnOf (.ofString "_law_is_alone") (.ofString "_law_is_alone") (defArgs s10) (defBody s10) (defScope s10) .none kV10 dc10 pm10 an10 cd10 ct10) := ⟨⟨_, _, _, _, _, _, _, _, _, _, _, _, rfl, l10, q10⟩, k10, Binds.all (fun us hl => match us, hl with | [_, _], _ => rfl), o10, ⟨_, rfl⟩⟩
  have ok11 : DefOk gE K e11 f11 (PySem.W.fnOf (.ofString "_law_take") (.ofString "_law_take") (defArgs s11) (defBody s11) (defScope s11) .none kV11 dc11 pm11 an11 cd11 ct11) := ⟨⟨_, _, _, _, _, _, _, _, _, _, _, _, rfl, l11, q11⟩, k11, Binds.all (fun us hl => match us, hl with | [_, _], _ => rfl), o11, ⟨_, rfl⟩⟩
  have ok12 : DefOk gE K e12 f12 (PySem.W.fnOf (.ofString "_law_pick") (.ofString "_law_pick") (defArgs s12) (defBody s12) (defScope s12) .none kV12 dc12 pm12 an12 cd12 ct12) := ⟨⟨_, _, _, _, _, _, _, _, _, _, _, _, rfl, l12, q12⟩, k12, Binds.all (fun us hl => match us, hl with | [_, _], _ => rfl), o12, ⟨_, rfl⟩⟩
  have ok13 : DefOk gE K e13 f13 (PySem.W.fnOf (.ofString "law") (.ofString "law") (defArgs s13) (defBody s13) (defScope s13) .none kV13 dc13 pm13 an13 cd13 ct13) := ⟨⟨_, _, _, _, _, _, _, _, _, _, _, _, rfl, l13, q13⟩, k13, Binds.all (fun us hl => match us, hl with | [_], _ => rfl), o13, ⟨_, rfl⟩⟩
  let D : List (Ent × Addr × FuncData) := [(e0, f0, PySem.W.fnOf (.ofString "_law_box") (.ofString "_law_box") (defArgs s0) (defBody s0) (defScope s0) .none kV0 dc0 pm0 an0 cd0 ct0),
    (e1, f1, PySem.W.fnOf (.ofString "_law_raise_a") (.ofString "_law_raise_a") (defArgs s1) (defBody s1) (defScope s1) .none kV1 dc1 pm1 an1 cd1 ct1),
    (e2, f2, PySem.W.fnOf (.ofString "_law_raise_b") (.ofString "_law_raise_b") (defArgs s2) (defBody s2) (defScope s2) .none kV2 dc2 pm2 an2 cd2 ct2),
    (e3, f3, PySem.W.fnOf (.ofString "_law_raise_c") (.ofString "_law_raise_c") (defArgs s3) (defBody s3) (defScope s3) .none kV3 dc3 pm3 an3 cd3 ct3),
    (e4, f4, PySem.W.fnOf (.ofString "_law_raise_d") (.ofString "_law_raise_d") (defArgs s4) (defBody s4) (defScope s4) .none kV4 dc4 pm4 an4 cd4 ct4),
    (e5, f5, PySem.W.fnOf (.ofString "_law_raise") (.ofString "_law_raise") (defArgs s5) (defBody s5) (defScope s5) .none kV5 dc5 pm5 an5 cd5 ct5),
    (e6, f6, PySem.W.fnOf (.ofString "_law_caught_a") (.ofString "_law_caught_a") (defArgs s6) (defBody s6) (defScope s6) .none kV6 dc6 pm6 an6 cd6 ct6),
    (e7, f7, PySem.W.fnOf (.ofString "_law_caught_b") (.ofString "_law_caught_b") (defArgs s7) (defBody s7) (defScope s7) .none kV7 dc7 pm7 an7 cd7 ct7),
    (e8, f8, PySem.W.fnOf (.ofString "_law_caught_c") (.ofString "_law_caught_c") (defArgs s8) (defBody s8) (defScope s8) .none kV8 dc8 pm8 an8 cd8 ct8),
    (e9, f9, PySem.W.fnOf (.ofString "_law_caught_d") (.ofString "_law_caught_d") (defArgs s9) (defBody s9) (defScope s9) .none kV9 dc9 pm9 an9 cd9 ct9),
    (e10, f10, PySem.W.fnOf (.ofString "_law_is_alone") (.ofString "_law_is_alone") (defArgs s10) (defBody s10) (defScope s10) .none kV10 dc10 pm10 an10 cd10 ct10),
    (e11, f11, PySem.W.fnOf (.ofString "_law_take") (.ofString "_law_take") (defArgs s11) (defBody s11) (defScope s11) .none kV11 dc11 pm11 an11 cd11 ct11),
    (e12, f12, PySem.W.fnOf (.ofString "_law_pick") (.ofString "_law_pick") (defArgs s12) (defBody s12) (defScope s12) .none kV12 dc12 pm12 an12 cd12 ct12),
    (e13, f13, PySem.W.fnOf (.ofString "law") (.ofString "law") (defArgs s13) (defBody s13) (defScope s13) .none kV13 dc13 pm13 an13 cd13 ct13)]
  let Cm : Nat → Addr := fun c => ([A0, A1, A2, A3, A4, A5, A6, A7, A8, A9, A10, A11, A12, A13, A14, A15, A16, A17, A18, A19, A20, A21, A22, A23, A24, A25, A26, A27, A28] : List Addr).getD c 0
  have all : ∀ p ∈ D, DefOk gE K p.1 p.2.1 p.2.2 := (List.forall_mem_cons.mpr ⟨ok0, (List.forall_mem_cons.mpr ⟨ok1, (List.forall_mem_cons.mpr ⟨ok2, (List.forall_mem_cons.mpr ⟨ok3, (List.forall_mem_cons.mpr ⟨ok4, (List.forall_mem_cons.mpr ⟨ok5, (List.forall_mem_cons.mpr ⟨ok6, (List.forall_mem_cons.mpr ⟨ok7, (List.forall_mem_cons.mpr ⟨ok8, (List.forall_mem_cons.mpr ⟨ok9, (List.forall_mem_cons.mpr ⟨ok10, (List.forall_mem_cons.mpr ⟨ok11, (List.forall_mem_cons.mpr ⟨ok12, (List.forall_mem_cons.mpr ⟨ok13, (fun _ h => absurd h List.not_mem_nil)⟩)⟩)⟩)⟩)⟩)⟩)⟩)⟩)⟩)⟩)⟩)⟩)⟩)⟩)
  have fns : ∀ p ∈ gE.fns, ∃ e fa fd, D[p.2]? = some (e, fa, fd) ∧ mg p.1 = some (.ref fa) := (List.forall_mem_cons.mpr ⟨⟨_, _, _, rfl, PySem.W.mg_of X G a0⟩, (List.forall_mem_cons.mpr ⟨⟨_, _, _, rfl, PySem.W.mg_of X G a1⟩, (List.forall_mem_cons.mpr ⟨⟨_, _, _, rfl, PySem.W.mg_of X G a2⟩, (List.forall_mem_cons.mpr ⟨⟨_, _, _, rfl, PySem.W.mg_of X G a3⟩, (List.forall_mem_cons.mpr ⟨⟨_, _, _, rfl, PySem.W.mg_of X G a4⟩, (List.forall_mem_cons.mpr ⟨⟨_, _, _, rfl, PySem.W.mg_of X G a5⟩, (List.forall_mem_cons.mpr ⟨⟨_, _, _, rfl, PySem.W.mg_of X G a6⟩, (List.forall_mem_cons.mpr ⟨⟨_, _, _, rfl, PySem.W.mg_of X G a7⟩, (List.forall_mem_cons.mpr ⟨⟨_, _, _, rfl, PySem.W.mg_of X G a8⟩, (List.forall_mem_cons.mpr ⟨⟨_, _, _, rfl, PySem.W.mg_of X G a9⟩, (List.forall_mem_cons.mpr ⟨⟨_, _, _, rfl, PySem.W.mg_of X G a10⟩, (List.forall_mem_cons.mpr ⟨⟨_, _, _, rfl, PySem.W.mg_of X G a11⟩, (List.forall_mem_cons.mpr ⟨⟨_, _, _, rfl, PySem.W.mg_of X G a12⟩, (List.forall_mem_cons.mpr ⟨⟨_, _, _, rfl, PySem.W.mg_of X G a13⟩, (fun _ h => absurd h List.not_mem_nil)⟩)⟩)⟩)⟩)⟩)⟩)⟩)⟩)⟩)⟩)⟩)⟩)⟩)⟩)
  have ins : ∀ p ∈ gE.ins, ∃ e fa fd, D[p.2.2]? = some (e, fa, fd) ∧ mg p.1 = some (.ref (Cm p.2.1)) ∧ Mk K (Cm p.2.1) fa := (fun _ h => absurd h List.not_mem_nil)
  have mths : ∀ p ∈ gE.mths, ∃ e fa fd, D[p.2.2]? = some (e, fa, fd) ∧ Cls K (Cm p.2.1) ∧ Meth K (Cm p.2.1) p.1 fa := (fun _ h => absurd h List.not_mem_nil)
  have blt : ∀ x ∈ ([.ofString "len", .ofString "abs", .ofString "int", .ofString "bool", .ofString "str", .ofString "tuple", .ofString "list", .ofString "all", .ofString "any", .ofString "sum", .ofString "min", .ofString "max", .ofString "repr", .ofString "isinstance", .ofString "range", .ofString "enumerate", .ofString "zip", .ofString "sorted"] : List Str), mg x = none := (List.forall_mem_cons.mpr ⟨PySem.W.mg_none_of X G b0, (List.forall_mem_cons.mpr ⟨PySem.W.mg_none_of X G b1, (List.forall_mem_cons.mpr ⟨PySem.W.mg_none_of X G b2, (List.forall_mem_cons.mpr ⟨PySem.W.mg_none_of X G b3, (List.forall_mem_cons.mpr ⟨PySem.W.mg_none_of X G b4, (List.forall_mem_cons.mpr ⟨PySem.W.mg_none_of X G b5, (List.forall_mem_cons.mpr ⟨PySem.W.mg_none_of X G b6, (List.forall_mem_cons.mpr ⟨PySem.W.mg_none_of X G b7, (List.forall_mem_cons.mpr ⟨PySem.W.mg_none_of X G b8, (List.forall_mem_cons.mpr ⟨PySem.W.mg_none_of X G b9, (List.forall_mem_cons.mpr ⟨PySem.W.mg_none_of X G b10, (List.forall_mem_cons.mpr ⟨PySem.W.mg_none_of X G b11, (List.forall_mem_cons.mpr ⟨PySem.W.mg_none_of X G b12, (List.forall_mem_cons.mpr ⟨PySem.W.mg_none_of X G b13, (List.forall_mem_cons.mpr ⟨PySem.W.mg_none_of X G b14, (List.forall_mem_cons.mpr ⟨PySem.W.mg_none_of X G b15, (List.forall_mem_cons.mpr ⟨PySem.W.mg_none_of X G b16, (List.forall_mem_cons.mpr ⟨PySem.W.mg_none_of X G b17, (fun _ h => absurd h List.not_mem_nil)⟩)⟩)⟩)⟩)⟩)⟩)⟩)⟩)⟩)⟩)⟩)⟩)⟩)⟩)⟩)⟩)⟩)⟩)
  have cst : ∀ p ∈ gE.cst, ∃ y u, mg p.1 = some u ∧ RelV y u ∧ ∀ ρ H, RV K ρ H p.2 y := (fun _ h => absurd h List.not_mem_nil)
  have exs : ∀ p ∈ gE.exs, mg p.1 = some (.ref (Cm p.2)) ∧ subB p.2 p.2 = true := (List.forall_mem_cons.mpr ⟨⟨PySem.W.mg_of X G xa0, by decide⟩, (List.forall_mem_cons.mpr ⟨⟨PySem.W.mg_of X G xa1, by decide⟩, (List.forall_mem_cons.mpr ⟨⟨PySem.W.mg_of X G xa2, by decide⟩, (List.forall_mem_cons.mpr ⟨⟨PySem.W.mg_of X G xa3, by decide⟩, (List.forall_mem_cons.mpr ⟨⟨PySem.W.mg_of X G xa4, by decide⟩, (List.forall_mem_cons.mpr ⟨⟨PySem.W.mg_of X G xa5, by decide⟩, (List.forall_mem_cons.mpr ⟨⟨PySem.W.mg_of X G xa6, by decide⟩, (List.forall_mem_cons.mpr ⟨⟨PySem.W.mg_of X G xa7, by decide⟩, (List.forall_mem_cons.mpr ⟨⟨PySem.W.mg_of X G xa8, by decide⟩, (List.forall_mem_cons.mpr ⟨⟨PySem.W.mg_of X G xa9, by decide⟩, (List.forall_mem_cons.mpr ⟨⟨PySem.W.mg_of X G xa10, by decide⟩, (List.forall_mem_cons.mpr ⟨⟨PySem.W.mg_of X G xa11, by decide⟩, (List.forall_mem_cons.mpr ⟨⟨PySem.W.mg_of X G xa12, by decide⟩, (List.forall_mem_cons.mpr ⟨⟨PySem.W.mg_of X G xa13, by decide⟩, (List.forall_mem_cons.mpr ⟨⟨PySem.W.mg_of X G xa14, by decide⟩, (List.forall_mem_cons.mpr ⟨⟨PySem.W.mg_of X G xa15, by decide⟩, (List.forall_mem_cons.mpr ⟨⟨PySem.W.mg_of X G xa16, by decide⟩, (List.forall_mem_cons.mpr ⟨⟨PySem.W.mg_of X G xa17, by decide⟩, (List.forall_mem_cons.mpr ⟨⟨PySem.W.mg_of X G xa18, by decide⟩, (List.forall_mem_cons.mpr ⟨⟨PySem.W.mg_of X G xa19, by decide⟩, (List.forall_mem_cons.mpr ⟨⟨PySem.W.mg_of X G xa20, by decide⟩, (List.forall_mem_cons.mpr ⟨⟨PySem.W.mg_of X G xa21, by decide⟩, (List.forall_mem_cons.mpr ⟨⟨PySem.W.mg_of X G xa22, by decide⟩, (List.forall_mem_cons.mpr ⟨⟨PySem.W.mg_of X G xa23, by decide⟩, (List.forall_mem_cons.mpr ⟨⟨PySem.W.mg_of X G xa24, by decide⟩, (List.forall_mem_cons.mpr ⟨⟨PySem.W.mg_of X G xa25, by decide⟩, (List.forall_mem_cons.mpr ⟨⟨PySem.W.mg_of X G xa26, by decide⟩, (List.forall_mem_cons.mpr ⟨⟨PySem.W.mg_of X G xa27, by decide⟩, (List.forall_mem_cons.mpr ⟨⟨PySem.W.mg_of X G xa28, by decide⟩, (fun _ h => absurd h List.not_mem_nil)⟩)⟩)⟩)⟩)⟩)⟩)⟩)⟩)⟩)⟩)⟩)⟩)⟩)⟩)⟩)⟩)⟩)⟩)⟩)⟩)⟩)⟩)⟩)⟩)⟩)⟩)⟩)⟩)⟩)
  have xcl : ∀ c ∈ ([0, 1, 2, 3, 4, 5, 6, 7, 8, 9, 10, 11, 12, 13, 14, 15, 16, 17, 18, 19, 20, 21, 22, 23, 24, 25, 26, 27, 28] : List Nat), OwnX K (Cm c) := (List.forall_mem_cons.mpr ⟨⟨⟨_, xl0, xObjL_B xo0⟩, xs0, xg0, xh0, xc0⟩, (List.forall_mem_cons.mpr ⟨⟨⟨_, xl1, xObjL_B xo1⟩, xs1, xg1, xh1, xc1⟩, (List.forall_mem_cons.mpr ⟨⟨⟨_, xl2, xObjL_B xo2⟩, xs2, xg2, xh2, xc2⟩, (List.forall_mem_cons.mpr ⟨⟨⟨_, xl3, xObjL_B xo3⟩, xs3, xg3, xh3, xc3⟩, (List.forall_mem_cons.mpr ⟨⟨⟨_, xl4, xObjL_B xo4⟩, xs4, xg4, xh4, xc4⟩, (List.forall_mem_cons.mpr ⟨⟨⟨_, xl5, xObjL_B xo5⟩, xs5, xg5, xh5, xc5⟩, (List.forall_mem_cons.mpr ⟨⟨⟨_, xl6, xObjL_B xo6⟩, xs6, xg6, xh6, xc6⟩, (List.forall_mem_cons.mpr ⟨⟨⟨_, xl7, xObjL_B xo7⟩, xs7, xg7, xh7, xc7⟩, (List.forall_mem_cons.mpr ⟨⟨⟨_, xl8, xObjL_B xo8⟩, xs8, xg8, xh8, xc8⟩, (List.forall_mem_cons.mpr ⟨⟨⟨_, xl9, xObjL_B xo9⟩, xs9, xg9, xh9, xc9⟩, (List.forall_mem_cons.mpr ⟨⟨⟨_, xl10, xObjL_B xo10⟩, xs10, xg10, xh10, xc10⟩, (List.forall_mem_cons.mpr ⟨⟨⟨_, xl11, xObjL_B xo11⟩, xs11, xg11, xh11, xc11⟩, (List.forall_mem_cons.mpr ⟨⟨⟨_, xl12, xObjL_B xo12⟩, xs12, xg12, xh12, xc12⟩, (List.forall_mem_cons.mpr ⟨⟨⟨_, xl13, xObjL_B xo13⟩, xs13, xg13, xh13, xc13⟩, (List.forall_mem_cons.mpr ⟨⟨⟨_, xl14, xObjL_B xo14⟩, xs14, xg14, xh14, xc14⟩, (List.forall_mem_cons.mpr ⟨⟨⟨_, xl15, xObjL_B xo15⟩, xs15, xg15, xh15, xc15⟩, (List.forall_mem_cons.mpr ⟨⟨⟨_, xl16, xObjL_B xo16⟩, xs16, xg16, xh16, xc16⟩, (List.forall_mem_cons.mpr ⟨⟨⟨_, xl17, xObjL_B xo17⟩, xs17, xg17, xh17, xc17⟩, (List.forall_mem_cons.mpr ⟨⟨⟨_, xl18, xObjL_B xo18⟩, xs18, xg18, xh18, xc18⟩, (List.forall_mem_cons.mpr ⟨⟨⟨_, xl19, xObjL_B xo19⟩, xs19, xg19, xh19, xc19⟩, (List.forall_mem_cons.mpr ⟨⟨⟨_, xl20, xObjL_B xo20⟩, xs20, xg20, xh20, xc20⟩, (List.forall_mem_cons.mpr ⟨⟨⟨_, xl21, xObjL_B xo21⟩, xs21, xg21, xh21, xc21⟩, (List.forall_mem_cons.mpr ⟨⟨⟨_, xl22, xObjL_B xo22⟩, xs22, xg22, xh22, xc22⟩, (List.forall_mem_cons.mpr ⟨⟨⟨_, xl23, xObjL_B xo23⟩, xs23, xg23, xh23, xc23⟩, (List.forall_mem_cons.mpr ⟨⟨⟨_, xl24, xObjL_B xo24⟩, xs24, xg24, xh24, xc24⟩, (List.forall_mem_cons.mpr ⟨⟨⟨_, xl25, xObjL_B xo25⟩, xs25, xg25, xh25, xc25⟩, (List.forall_mem_cons.mpr ⟨⟨⟨_, xl26, xObjL_B xo26⟩, xs26, xg26, xh26, xc26⟩, (List.forall_mem_cons.mpr ⟨⟨⟨_, xl27, xObjL_B xo27⟩, xs27, xg27, xh27, xc27⟩, (List.forall_mem_cons.mpr ⟨⟨⟨_, xl28, xObjL_B xo28⟩, xs28, xg28, xh28, xc28⟩, (fun _ h => absurd h List.not_mem_nil)⟩)⟩)⟩)⟩)⟩)⟩)⟩)⟩)⟩)⟩)⟩)⟩)⟩)⟩)⟩)⟩)⟩)⟩)⟩)⟩)⟩)⟩)⟩)⟩)⟩)⟩)⟩)⟩)⟩)
  have xlk : ∀ c ∈ ([0, 1, 2, 3, 4, 5, 6, 7, 8, 9, 10, 11, 12, 13, 14, 15, 16, 17, 18, 19, 20, 21, 22, 23, 24, 25, 26, 27, 28] : List Nat), XLk K (Cm c) (Cm 28) := (List.forall_mem_cons.mpr ⟨⟨_, _, xl0, xo0, .inl rfl⟩, (List.forall_mem_cons.mpr ⟨⟨_, _, xl1, xo1, .inl rfl⟩, (List.forall_mem_cons.mpr ⟨⟨_, _, xl2, xo2, .inl rfl⟩, (List.forall_mem_cons.mpr ⟨⟨_, _, xl3, xo3, .inl rfl⟩, (List.forall_mem_cons.mpr ⟨⟨_, _, xl4, xo4, .inl rfl⟩, (List.forall_mem_cons.mpr ⟨⟨_, _, xl5, xo5, .inl rfl⟩, (List.forall_mem_cons.mpr ⟨⟨_, _, xl6, xo6, .inl rfl⟩, (List.forall_mem_cons.mpr ⟨⟨_, _, xl7, xo7, .inl rfl⟩, (List.forall_mem_cons.mpr ⟨⟨_, _, xl8, xo8, .inl rfl⟩, (List.forall_mem_cons.mpr ⟨⟨_, _, xl9, xo9, .inl rfl⟩, (List.forall_mem_cons.mpr ⟨⟨_, _, xl10, xo10, .inl rfl⟩, (List.forall_mem_cons.mpr ⟨⟨_, _, xl11, xo11, .inl rfl⟩, (List.forall_mem_cons.mpr ⟨⟨_, _, xl12, xo12, .inl rfl⟩, (List.forall_mem_cons.mpr ⟨⟨_, _, xl13, xo13, .inl rfl⟩, (List.forall_mem_cons.mpr ⟨⟨_, _, xl14, xo14, .inl rfl⟩, (List.forall_mem_cons.mpr ⟨⟨_, _, xl15, xo15, .inl rfl⟩, (List.forall_mem_cons.mpr ⟨⟨_, _, xl16, xo16, .inl rfl⟩, (List.forall_mem_cons.mpr ⟨⟨_, _, xl17, xo17, .inl rfl⟩, (List.forall_mem_cons.mpr ⟨⟨_, _, xl18, xo18, .inl rfl⟩, (List.forall_mem_cons.mpr ⟨⟨_, _, xl19, xo19, .inl rfl⟩, (List.forall_mem_cons.mpr ⟨⟨_, _, xl20, xo20, .inl rfl⟩, (List.forall_mem_cons.mpr ⟨⟨_, _, xl21, xo21, .inl rfl⟩, (List.forall_mem_cons.mpr ⟨⟨_, _, xl22, xo22, .inl rfl⟩, (List.forall_mem_cons.mpr ⟨⟨_, _, xl23, xo23, .inl rfl⟩, (List.forall_mem_cons.mpr ⟨⟨_, _, xl24, xo24, .inl rfl⟩, (List.forall_mem_cons.mpr ⟨⟨_, _, xl25, xo25, .inl rfl⟩, (List.forall_mem_cons.mpr ⟨⟨_, _, xl26, xo26, .inl rfl⟩, (List.forall_mem_cons.mpr ⟨⟨_, _, xl27, xo27, .inl rfl⟩, (List.forall_mem_cons.mpr ⟨⟨_, _, xl28, xo28, .inr ⟨rfl, rfl⟩⟩, (fun _ h => absurd h List.not_mem_nil)⟩)⟩)⟩)⟩)⟩)⟩)⟩)⟩)⟩)⟩)⟩)⟩)⟩)⟩)⟩)⟩)⟩)⟩)⟩)⟩)⟩)⟩)⟩)⟩)⟩)⟩)⟩)⟩)⟩)
  have xin : ∀ c ∈ ([0, 1, 2, 3, 4, 5, 6, 7, 8, 9, 10, 11, 12, 13, 14, 15, 16, 17, 18, 19, 20, 21, 22, 23, 24, 25, 26, 27, 28] : List Nat), ∀ F, gE.exf[c]? = some F → InitOk K (Cm c) F := (List.forall_mem_cons.mpr ⟨fun F hF => (by cases hF; exact ⟨⟨fx0, .ofString "self", .ofString "at", _, _, _, _, _, _, _, _, _, _, _, _, _, _, _, lx0, qx0, ox0, ix0, xi0, xt0, Binds.all (fun us hl => match us, hl with | [_, _], _ => rfl), fun _ _ _ => .of_eq rfl⟩, xf0⟩), (List.forall_mem_cons.mpr ⟨fun F hF => (by cases hF; exact ⟨⟨fx1, .ofString "self", .ofString "at", _, _, _, _, _, _, _, _, _, _, _, _, _, _, _, lx1, qx1, ox1, ix1, xi1, xt1, Binds.all (fun us hl => match us, hl with | [_, _], _ => rfl), fun _ _ _ => .of_eq rfl⟩, xf1⟩), (List.forall_mem_cons.mpr ⟨fun F hF => (by cases hF; exact ⟨⟨fx2, .ofString "self", .ofString "at", _, _, _, _, _, _, _, _, _, _, _, _, _, _, _, lx2, qx2, ox2, ix2, xi2, xt2, Binds.all (fun us hl => match us, hl with | [_, _], _ => rfl), fun _ _ _ => .of_eq rfl⟩, xf2⟩), (List.forall_mem_cons.mpr ⟨fun F hF => (by cases hF; exact ⟨⟨fx3, .ofString "self", .ofString "at", _, _, _, _, _, _, _, _, _, _, _, _, _, _, _, lx3, qx3, ox3, ix3, xi3, xt3, Binds.all (fun us hl => match us, hl with | [_, _], _ => rfl), fun _ _ _ => .of_eq rfl⟩, xf3⟩), (List.forall_mem_cons.mpr ⟨fun F hF => (by cases hF; exact ⟨⟨fx4, .ofString "self", .ofString "at", _, _, _, _, _, _, _, _, _, _, _, _, _, _, _, lx4, qx4, ox4, ix4, xi4, xt4, Binds.all (fun us hl => match us, hl with | [_, _], _ => rfl), fun _ _ _ => .of_eq rfl⟩, xf4⟩), (List.forall_mem_cons.mpr ⟨fun F hF => (by cases hF; exact ⟨⟨fx5, .ofString "self", .ofString "at", _, _, _, _, _, _, _, _, _, _, _, _, _, _, _, lx5, qx5, ox5, ix5, xi5, xt5, Binds.all (fun us hl => match us, hl with | [_, _], _ => rfl), fun _ _ _ => .of_eq rfl⟩, xf5⟩), (List.forall_mem_cons.mpr ⟨fun F hF => (by cases hF; exact ⟨⟨fx6, .ofString "self", .ofString "at", _, _, _, _, _, _, _, _, _, _, _, _, _, _, _, lx6, qx6, ox6, ix6, xi6, xt6, Binds.all (fun us hl => match us, hl with | [_, _], _ => rfl), fun _ _ _ => .of_eq rfl⟩, xf6⟩), (List.forall_mem_cons.mpr ⟨fun F hF => (by cases hF; exact ⟨⟨fx7, .ofString "self", .ofString "at", _, _, _, _, _, _, _, _, _, _, _, _, _, _, _, lx7, qx7, ox7, ix7, xi7, xt7, Binds.all (fun us hl => match us, hl with | [_, _], _ => rfl), fun _ _ _ => .of_eq rfl⟩, xf7⟩), (List.forall_mem_cons.mpr ⟨fun F hF => (by cases hF; exact ⟨⟨fx8, .ofString "self", .ofString "at", _, _, _, _, _, _, _, _, _, _, _, _, _, _, _, lx8, qx8, ox8, ix8, xi8, xt8, Binds.all (fun us hl => match us, hl with | [_, _], _ => rfl), fun _ _ _ => .of_eq rfl⟩, xf8⟩), (List.forall_mem_cons.mpr ⟨fun F hF => (by cases hF; exact ⟨⟨fx9, .ofString "self", .ofString "at", _, _, _, _, _, _, _, _, _, _, _, _, _, _, _, lx9, qx9, ox9, ix9, xi9, xt9, Binds.all (fun us hl => match us, hl with | [_, _], _ => rfl), fun _ _ _ => .of_eq rfl⟩, xf9⟩), (List.forall_mem_cons.mpr ⟨fun F hF => (by cases hF; exact ⟨⟨fx10, .ofString "self", .ofString "at", _, _, _, _, _, _, _, _, _, _, _, _, _, _, _, lx10, qx10, ox10, ix10, xi10, xt10, Binds.all (fun us hl => match us, hl with | [_, _], _ => rfl), fun _ _ _ => .of_eq rfl⟩, xf10⟩), (List.forall_mem_cons.mpr ⟨fun F hF => (by cases hF; exact ⟨⟨fx11, .ofString "self", .ofString "at", _, _, _, _, _, _, _, _, _, _, _, _, _, _, _, lx11, qx11, ox11, ix11, xi11, xt11, Binds.all (fun us hl => match us, hl with | [_, _], _ => rfl), fun _ _ _ => .of_eq rfl⟩, xf11⟩), (List.forall_mem_cons.mpr ⟨fun F hF => (by cases hF; exact ⟨⟨fx12, .ofString "self", .ofString "at", _, _, _, _, _, _, _, _, _, _, _, _, _, _, _, lx12, qx12, ox12, ix12, xi12, xt12, Binds.all (fun us hl => match us, hl with | [_, _], _ => rfl), fun _ _ _ => .of_eq rfl⟩, xf12⟩), (List.forall_mem_cons.mpr ⟨fun F hF => (by cases hF; exact ⟨⟨fx13, .ofString "self", .ofString "at", _, _, _, _, _, _, _, _, _, _, _, _, _, _, _, lx13, qx13, ox13, ix13, xi13, xt13, Binds.all (fun us hl => match us, hl with | [_, _], _ => rfl), fun _ _ _ => .of_eq rfl⟩, xf13⟩), (List.forall_mem_cons.mpr ⟨fun F hF => (by cases hF; exact ⟨⟨fx14, .ofString "self", .ofString "at", _, _, _, _, _, _, _, _, _, _, _, _, _, _, _, lx14, qx14, ox14, ix14, xi14, xt14, Binds.all (fun us hl => match us, hl with | [_, _], _ => rfl), fun _ _ _ => .of_eq rfl⟩, xf14⟩), (List.forall_mem_cons.mpr ⟨fun F hF => (by cases hF; exact ⟨⟨fx15, .ofString "self", .ofString "at", _, _, _, _, _, _, _, _, _, _, _, _, _, _, _, lx15, qx15, ox15, ix15, xi15, xt15, Binds.all (fun us hl => match us, hl with | [_, _], _ => rfl), fun _ _ _ => .of_eq rfl⟩, xf15⟩), (List.forall_mem_cons.mpr ⟨fun F hF => (by cases hF; exact ⟨⟨fx16, .ofString "self", .ofString "word", _, _, _, _, _, _, _, _, _, _, _, _, _, _, _, lx16, qx16, ox16, ix16, xi16, xt16, Binds.all (fun us hl => match us, hl with | [_, _], _ => rfl), fun _ _ _ => .of_eq rfl⟩, xf16⟩), (List.forall_mem_cons.mpr ⟨fun F hF => (by cases hF; exact ⟨⟨fx17, .ofString "self", .ofString "at", _, _, _, _, _, _, _, _, _, _, _, _, _, _, _, lx17, qx17, ox17, ix17, xi17, xt17, Binds.all (fun us hl => match us, hl with | [_, _], _ => rfl), fun _ _ _ => .of_eq rfl⟩, xf17⟩), (List.forall_mem_cons.mpr ⟨fun F hF => (by cases hF; exact ⟨⟨fx18, .ofString "self", .ofString "at", _, _, _, _, _, _, _, _, _, _, _, _, _, _, _, lx18, qx18, ox18, ix18, xi18, xt18, Binds.all (fun us hl => match us, hl with | [_, _], _ => rfl), fun _ _ _ => .of_eq rfl⟩, xf18⟩), (List.forall_mem_cons.mpr ⟨fun F hF => (by cases hF; exact ⟨⟨fx19, .ofString "self", .ofString "at", _, _, _, _, _, _, _, _, _, _, _, _, _, _, _, lx19, qx19, ox19, ix19, xi19, xt19, Binds.all (fun us hl => match us, hl with | [_, _], _ => rfl), fun _ _ _ => .of_eq rfl⟩, xf19⟩), (List.forall_mem_cons.mpr ⟨fun F hF => (by cases hF; exact ⟨⟨fx20, .ofString "self", .ofString "at", _, _, _, _, _, _, _, _, _, _, _, _, _, _, _, lx20, qx20, ox20, ix20, xi20, xt20, Binds.all (fun us hl => match us, hl with | [_, _], _ => rfl), fun _ _ _ => .of_eq rfl⟩, xf20⟩), (List.forall_mem_cons.mpr ⟨fun F hF => (by cases hF; exact ⟨⟨fx21, .ofString "self", .ofString "at", _, _, _, _, _, _, _, _, _, _, _, _, _, _, _, lx21, qx21, ox21, ix21, xi21, xt21, Binds.all (fun us hl => match us, hl with | [_, _], _ => rfl), fun _ _ _ => .of_eq rfl⟩, xf21⟩), (List.forall_mem_cons.mpr ⟨fun F hF => (by cases hF; exact ⟨⟨fx22, .ofString "self", .ofString "at", _, _, _, _, _, _, _, _, _, _, _, _, _, _, _, lx22, qx22, ox22, ix22, xi22, xt22, Binds.all (fun us hl => match us, hl with | [_, _], _ => rfl), fun _ _ _ => .of_eq rfl⟩, xf22⟩), (List.forall_mem_cons.mpr ⟨fun F hF => (by cases hF; exact ⟨⟨fx23, .ofString "self", .ofString "at", _, _, _, _, _, _, _, _, _, _, _, _, _, _, _, lx23, qx23, ox23, ix23, xi23, xt23, Binds.all (fun us hl => match us, hl with | [_, _], _ => rfl), fun _ _ _ => .of_eq rfl⟩, xf23⟩), (List.forall_mem_cons.mpr ⟨fun F hF => (by cases hF; exact ⟨⟨fx24, .ofString "self", .ofString "at", _, _, _, _, _, _, _, _, _, _, _, _, _, _, _, lx24, qx24, ox24, ix24, xi24, xt24, Binds.all (fun us hl => match us, hl with | [_, _], _ => rfl), fun _ _ _ => .of_eq rfl⟩, xf24⟩), (List.forall_mem_cons.mpr ⟨fun F hF => (by cases hF; exact ⟨⟨fx25, .ofString "self", .ofString "at", _, _, _, _, _, _, _, _, _, _, _, _, _, _, _, lx25, qx25, ox25, ix25, xi25, xt25, Binds.all (fun us hl => match us, hl with | [_, _], _ => rfl), fun _ _ _ => .of_eq rfl⟩, xf25⟩), (List.forall_mem_cons.mpr ⟨fun F hF => (by cases hF; exact ⟨⟨fx26, .ofString "self", .ofString "at", _, _, _, _, _, _, _, _, _, _, _, _, _, _, _, lx26, qx26, ox26, ix26, xi26, xt26, Binds.all (fun us hl => match us, hl with | [_, _], _ => rfl), fun _ _ _ => .of_eq rfl⟩, xf26⟩), (List.forall_mem_cons.mpr ⟨fun F hF => (by cases hF), (List.forall_mem_cons.mpr ⟨fun F hF => (by cases hF), (fun _ h => absurd h List.not_mem_nil)⟩)⟩)⟩)⟩)⟩)⟩)⟩)⟩)⟩)⟩)⟩)⟩)⟩)⟩)⟩)⟩)⟩)⟩)⟩)⟩)⟩)⟩)⟩)⟩)⟩)⟩)⟩)⟩)⟩)
  have xze : ∀ c ∈ ([27] : List Nat), PySem.W.excIn K (Cm c) exTail "Exception.__new__" = true := (List.forall_mem_cons.mpr ⟨excIn_of xl27 xn27 xl28 xn28 xo27 xd27 xe28 xd28, (fun _ h => absurd h List.not_mem_nil)⟩)
  have M : Mods gE Cm subB atrB xatB K mg D := by
    refine ⟨fun i e fa fd hi => all (e, fa, fd) (List.mem_of_getElem? hi), fun x i hx => fns (x, i) (mem_lookup hx), fun x c i hx => ins (x, c, i) (mem_lookup hx), fun m c i hx => mths (m, c, i) (mem_lookup hx), blt, fun x v hx => cst (x, v) (mem_lookup hx), fun c F hF => by
      simp [atrB] at hF
      , fun x c hx => exs (x, c) (mem_lookup hx), fun c hc => xcl c (by simp only [subB, Bool.and_eq_true, decide_eq_true_eq] at hc; simp; omega), fun c d hc hd => ?_, fun c F hF => ?_, fun c F hc hF => xin c (by simp only [subB, Bool.and_eq_true, decide_eq_true_eq] at hc; simp; omega) F hF, fun c hc => xze c hc⟩
    · have mc : c ∈ ([0, 1, 2, 3, 4, 5, 6, 7, 8, 9, 10, 11, 12, 13, 14, 15, 16, 17, 18, 19, 20, 21, 22, 23, 24, 25, 26, 27, 28] : List Nat) := by simp only [subB, Bool.and_eq_true, decide_eq_true_eq] at hc; simp; omega
      have md : d ∈ ([0, 1, 2, 3, 4, 5, 6, 7, 8, 9, 10, 11, 12, 13, 14, 15, 16, 17, 18, 19, 20, 21, 22, 23, 24, 25, 26, 27, 28] : List Nat) := by simp only [subB, Bool.and_eq_true, decide_eq_true_eq] at hd; simp; omega
      refine xsub_of (xlk c mc) ?_
      clear mc md
      simp only [subB, Bool.and_eq_true, decide_eq_true_eq] at hc hd
      obtain ⟨⟨hc, _⟩, _⟩ := hc
      obtain ⟨⟨hd, _⟩, _⟩ := hd
      have cg : ∀ i, i < 29 → Cm i = ([A0, A1, A2, A3, A4, A5, A6, A7, A8, A9, A10, A11, A12, A13, A14, A15, A16, A17, A18, A19, A20, A21, A22, A23, A24, A25, A26, A27, A28] : List Addr).getD i 0 := by
        intro i hi
        rcases (by omega : i = 0 ∨ i = 1 ∨ i = 2 ∨ i = 3 ∨ i = 4 ∨ i = 5 ∨ i = 6 ∨ i = 7 ∨ i = 8 ∨ i = 9 ∨ i = 10 ∨ i = 11 ∨ i = 12 ∨ i = 13 ∨ i = 14 ∨ i = 15 ∨ i = 16 ∨ i = 17 ∨ i = 18 ∨ i = 19 ∨ i = 20 ∨ i = 21 ∨ i = 22 ∨ i = 23 ∨ i = 24 ∨ i = 25 ∨ i = 26 ∨ i = 27 ∨ i = 28) with rfl | rfl | rfl | rfl | rfl | rfl | rfl | rfl | rfl | rfl | rfl | rfl | rfl | rfl | rfl | rfl | rfl | rfl | rfl | rfl | rfl | rfl | rfl | rfl | rfl | rfl | rfl | rfl | rfl <;> rfl
      have nn := nodup_getD xnd
      have e1 : ∀ i j, i < 29 → j < 29 → (Cm i = Cm j ↔ i = j) := fun i j hi hj => ⟨fun e => Decidable.byContradiction fun ne => nn i j (by simpa using hi) (by simpa using hj) ne (by rw [← cg i hi, ← cg j hj]; exact e), fun e => by rw [e]⟩
      have z1 := e1 d c hd hc
      have z2 := e1 d 28 hd (by decide)
      rw [Bool.eq_iff_iff]
      simp only [subB, decide_eq_true_eq, Bool.and_eq_true, Bool.or_eq_true, beq_iff_eq, z1, z2]
      omega
    · simp only [xatB, Bool.or_eq_true, decide_eq_true_eq, Bool.false_eq_true, or_false] at hF
      rcases hF with ⟨rfl, rfl⟩ | ⟨rfl, rfl⟩ | ⟨rfl, rfl⟩ | ⟨rfl, rfl⟩ | ⟨rfl, rfl⟩ | ⟨rfl, rfl⟩ | ⟨rfl, rfl⟩ | ⟨rfl, rfl⟩ | ⟨rfl, rfl⟩ | ⟨rfl, rfl⟩ | ⟨rfl, rfl⟩ | ⟨rfl, rfl⟩ | ⟨rfl, rfl⟩ | ⟨rfl, rfl⟩ | ⟨rfl, rfl⟩ | ⟨rfl, rfl⟩ | ⟨rfl, rfl⟩ | ⟨rfl, rfl⟩ | ⟨rfl, rfl⟩ | ⟨rfl, rfl⟩ | ⟨rfl, rfl⟩ | ⟨rfl, rfl⟩ | ⟨rfl, rfl⟩ | ⟨rfl, rfl⟩ | ⟨rfl, rfl⟩ | ⟨rfl, rfl⟩ | ⟨rfl, rfl⟩
      · exact xf0
      · exact xf1
      · exact xf2
      · exact xf3
      · exact xf4
      · exact xf5
      · exact xf6
      · exact xf7
      · exact xf8
      · exact xf9
      · exact xf10
      · exact xf11
      · exact xf12
      · exact xf13
      · exact xf14
      · exact xf15
      · exact xf16
      · exact xf17
      · exact xf18
      · exact xf19
      · exact xf20
      · exact xf21
      · exact xf22
      · exact xf23
      · exact xf24
      · exact xf25
      · exact xf26
  refine ⟨PySem.W.fnOf (.ofString "law") (.ofString "law") (defArgs s13) (defBody s13) (defScope s13) .none kV13 dc13 pm13 an13 cd13 ct13, fun s v => .of_eq rfl, fun base _ _ => ?_⟩
  have Z := all_gX (rx := rxB) (fuel := 100000) (P := l.prog) (wd := w) (bs := base) M 14 13 e13 f13 _ rfl
  rw [show lvX rxB 14 = 29 from by decide] at Z
  exact ⟨fun q => Z.many (q _), fun r g h b v q => Z.runs r g h b v (q _)⟩
theorem walk {l : PySem.W.OpenLaw} {q : Program} {loose : List Str} {XP : (Str → Option Value) → Heap → Prop} {YP : World → Heap → Prop} {d : DefRec} {K : Params → PySem.W.Frag} (hn : l.most = some 63) (hdf : d.params.defaults = [])
    (hY : ∀ (w : World) (h : Heap), YP w h → (K w.params).In h)
    (F : ∀ (w : World) (mg : Str → Option Value) (fa : Addr) (h : Heap), (K w.params).In h → h.Ns mainGlobals mg → mg d.name = some (.ref fa) →
      ∃ fd : FuncData, (∀ (s : Shared) (u : Value), BindsTo s fd ⟨[u], []⟩ [("script", u)]) ∧ ∀ base : Heap, (K w.params).In base → base.Ns mainGlobals mg → FnG l.prog w (K w.params) mg base (CXF l.prog w) 29 fa fd ["script"] (fun xs H Q E => ∀ C, spF (K w.params) C ((gL 14).fn 13) xs H Q E))
    (truth_ : ∀ ns : List Int, ns.length ≤ 63 → ∃ h, (gL 14).fn 13 [.rol (ns.map .int)] [] = .ok (.bl true) h) :
    PySem.W.WalkO q loose XP YP l.row.toRowW d [] (fun f vs => PySem.call f vs) := by
  refine walkG (n := 63) (lv := 29) (x := "script") hn (by decide) hdf ⟨rfl, by decide, by decide⟩ hY F fun w H a ns hl sq C => ?_
  obtain ⟨h', eh⟩ := truth_ ns hl
  refine ⟨[], [], [.rol (ns.map .int)], ⟨rfl, List.nodup_nil, fun n o a e => by simp at e⟩, .cons (.rol sq ?_) .nil, ?_⟩
  · clear eh hl sq
    induction ns with
    | nil => exact .nil
    | cons i ns ih => exact .cons (.int i) ih
  · rw [eh]
    intro ρ' H' y _ _ _ r
    cases r
    rfl
theorem dE0 : d0 = Mx.d0 := by kernel_rfl
theorem dE1 : d1 = Mx.d1 := by kernel_rfl
theorem dE2 : d2 = Mx.d2 := by kernel_rfl
theorem dE3 : d3 = Mx.d3 := by kernel_rfl
theorem dE4 : d4 = Mx.d4 := by kernel_rfl
theorem dE5 : d5 = Mx.d5 := by kernel_rfl
theorem dE6 : d6 = Mx.d6 := by kernel_rfl
theorem dE7 : d7 = Mx.d7 := by kernel_rfl
theorem dE8 : d8 = Mx.d8 := by kernel_rfl
theorem dE9 : d9 = Mx.d9 := by kernel_rfl
theorem dE10 : d10 = Mx.d10 := by kernel_rfl
theorem dE11 : d11 = Mx.d11 := by kernel_rfl
theorem dE12 : d12 = Mx.d12 := by kernel_rfl
theorem dE13 : d13 = Mx.d13 := by kernel_rfl
theorem dfs_eq : dfs = Mx.dfs := by
  simp only [dfs, Mx.dfs, dE0, dE1, dE2, dE3, dE4, dE5, dE6, dE7, dE8, dE9, dE10, dE11, dE12, dE13]
theorem gL_eq (m : Nat) : gL m = Mx.gL m := by
  unfold gL Mx.gL
  rw [dfs_eq]
  rfl
theorem truth_ (ns : List Int) (hl : ns.length ≤ 63) : ∃ h, (gL 14).fn 13 [.rol (ns.map .int)] [] = .ok (.bl true) h := by
  rw [gL_eq]
  exact Mx.truth_ ns hl
end Lw
open PySem PySem.W PyProof.Rows in
set_option maxRecDepth 100000 in
set_option maxHeartbeats 0 in
theorem PySem.Challenge.cw_lateno_k00_whole_errors_and_what_they_ke_holds : PySem.Challenge.rw_lateno_k00_whole_errors_and_what_they_ke.Holds := by
  w_on; o_law; k_head; (case hw => w_witness2)
  k_fill
  refine Lw.walk (l := PySem.Challenge.rw_lateno_k00_whole_errors_and_what_they_ke) rfl rfl (fun w h Y => PySem.W.kIn_of Y) ?F Lw.truth_
  case F =>
    intro w mg fa h KX G hmg
    refine' Lw.mods_mk KX G hmg ?xa0 ?xl0 ?xs0 ?xg0 ?xh0 ?xc0 ?xi0 ?xf0 ?lx0 ?qx0 ?xt0 ?xa1 ?xl1 ?xs1 ?xg1 ?xh1 ?xc1 ?xi1 ?xf1 ?lx1 ?qx1 ?xt1 ?xa2 ?xl2 ?xs2 ?xg2 ?xh2 ?xc2 ?xi2 ?xf2 ?lx2 ?qx2 ?xt2 ?xa3 ?xl3 ?xs3 ?xg3 ?xh3 ?xc3 ?xi3 ?xf3 ?lx3 ?qx3 ?xt3 ?xa4 ?xl4 ?xs4 ?xg4 ?xh4 ?xc4 ?xi4 ?xf4 ?lx4 ?qx4 ?xt4 ?xa5 ?xl5 ?xs5 ?xg5 ?xh5 ?xc5 ?xi5 ?xf5 ?lx5 ?qx5 ?xt5 ?xa6 ?xl6 ?xs6 ?xg6 ?xh6 ?xc6 ?xi6 ?xf6 ?lx6 ?qx6 ?xt6 ?xa7 ?xl7 ?xs7 ?xg7 ?xh7 ?xc7 ?xi7 ?xf7 ?lx7 ?qx7 ?xt7 ?xa8 ?xl8 ?xs8 ?xg8 ?xh8 ?xc8 ?xi8 ?xf8 ?lx8 ?qx8 ?xt8 ?xa9 ?xl9 ?xs9 ?xg9 ?xh9 ?xc9 ?xi9 ?xf9 ?lx9 ?qx9 ?xt9 ?xa10 ?xl10 ?xs10 ?xg10 ?xh10 ?xc10 ?xi10 ?xf10 ?lx10 ?qx10 ?xt10 ?xa11 ?xl11 ?xs11 ?xg11 ?xh11 ?xc11 ?xi11 ?xf11 ?lx11 ?qx11 ?xt11 ?xa12 ?xl12 ?xs12 ?xg12 ?xh12 ?xc12 ?xi12 ?xf12 ?lx12 ?qx12 ?xt12 ?xa13 ?xl13 ?xs13 ?xg13 ?xh13 ?xc13 ?xi13 ?xf13 ?lx13 ?qx13 ?xt13 ?xa14 ?xl14 ?xs14 ?xg14 ?xh14 ?xc14 ?xi14 ?xf14 ?lx14 ?qx14 ?xt14 ?xa15 ?xl15 ?xs15 ?xg15 ?xh15 ?xc15 ?xi15 ?xf15 ?lx15 ?qx15 ?xt15 ?xa16 ?xl16 ?xs16 ?xg16 ?xh16 ?xc16 ?xi16 ?xf16 ?lx16 ?qx16 ?xt16 ?xa17 ?xl17 ?xs17 ?xg17 ?xh17 ?xc17 ?xi17 ?xf17 ?lx17 ?qx17 ?xt17 ?xa18 ?xl18 ?xs18 ?xg18 ?xh18 ?xc18 ?xi18 ?xf18 ?lx18 ?qx18 ?xt18 ?xa19 ?xl19 ?xs19 ?xg19 ?xh19 ?xc19 ?xi19 ?xf19 ?lx19 ?qx19 ?xt19 ?xa20 ?xl20 ?xs20 ?xg20 ?xh20 ?xc20 ?xi20 ?xf20 ?lx20 ?qx20 ?xt20 ?xa21 ?xl21 ?xs21 ?xg21 ?xh21 ?xc21 ?xi21 ?xf21 ?lx21 ?qx21 ?xt21 ?xa22 ?xl22 ?xs22 ?xg22 ?xh22 ?xc22 ?xi22 ?xf22 ?lx22 ?qx22 ?xt22 ?xa23 ?xl23 ?xs23 ?xg23 ?xh23 ?xc23 ?xi23 ?xf23 ?lx23 ?qx23 ?xt23 ?xa24 ?xl24 ?xs24 ?xg24 ?xh24 ?xc24 ?xi24 ?xf24 ?lx24 ?qx24 ?xt24 ?xa25 ?xl25 ?xs25 ?xg25 ?xh25 ?xc25 ?xi25 ?xf25 ?lx25 ?qx25 ?xt25 ?xa26 ?xl26 ?xs26 ?xg26 ?xh26 ?xc26 ?xi26 ?xf26 ?lx26 ?qx26 ?xt26 ?xa27 ?xl27 ?xs27 ?xg27 ?xh27 ?xc27 ?xa28 ?xl28 ?xs28 ?xg28 ?xh28 ?xc28 ?a0 ?l0 ?q0 ?k0 ?a1 ?l1 ?q1 ?k1 ?a2 ?l2 ?q2 ?k2 ?a3 ?l3 ?q3 ?k3 ?a4 ?l4 ?q4 ?k4 ?a5 ?l5 ?q5 ?k5 ?a6 ?l6 ?q6 ?k6 ?a7 ?l7 ?q7 ?k7 ?a8 ?l8 ?q8 ?k8 ?a9 ?l9 ?q9 ?k9 ?a10 ?l10 ?q10 ?k10 ?a11 ?l11 ?q11 ?k11 ?a12 ?l12 ?q12 ?k12 ?a13 ?l13 ?q13 ?k13 ?b0 ?b1 ?b2 ?b3 ?b4 ?b5 ?b6 ?b7 ?b8 ?b9 ?b10 ?b11 ?b12 ?b13 ?b14 ?b15 ?b16 ?b17 ?xn27 ?xn28 ?xd27 ?xd28 ?xe28 ?xo0 ?xo1 ?xo2 ?xo3 ?xo4 ?xo5 ?xo6 ?xo7 ?xo8 ?xo9 ?xo10 ?xo11 ?xo12 ?xo13 ?xo14 ?xo15 ?xo16 ?xo17 ?xo18 ?xo19 ?xo20 ?xo21 ?xo22 ?xo23 ?xo24 ?xo25 ?xo26 ?xo27 ?xo28 ?xnd
    (case xa0 => k_is)
    (case xl0 => k_is)
    (case xs0 => k_is)
    (case xg0 => k_is)
    (case xh0 => k_is)
    (case xc0 => k_is)
    (case xi0 => k_is)
    (case xf0 => k_is)
    (case lx0 => k_is)
    (case qx0 => k_is)
    (case xt0 => k_is)
    (case xa1 => k_is)
    (case xl1 => k_is)
    (case xs1 => k_is)
    (case xg1 => k_is)
    (case xh1 => k_is)
    (case xc1 => k_is)
    (case xi1 => k_is)
    (case xf1 => k_is)
    (case lx1 => k_is)
    (case qx1 => k_is)
    (case xt1 => k_is)
    (case xa2 => k_is)
    (case xl2 => k_is)
    (case xs2 => k_is)
    (case xg2 => k_is)
    (case xh2 => k_is)
    (case xc2 => k_is)
    (case xi2 => k_is)
    (case xf2 => k_is)
    (case lx2 => k_is)
    (case qx2 => k_is)
    (case xt2 => k_is)
    (case xa3 => k_is)
    (case xl3 => k_is)
    (case xs3 => k_is)
    (case xg3 => k_is)
    (case xh3 => k_is)
    (case xc3 => k_is)
    (case xi3 => k_is)
    (case xf3 => k_is)
    (case lx3 => k_is)
    (case qx3 => k_is)
    (case xt3 => k_is)
    (case xa4 => k_is)
    (case xl4 => k_is)
    (case xs4 => k_is)
    (case xg4 => k_is)
    (case xh4 => k_is)
    (case xc4 => k_is)
    (case xi4 => k_is)
    (case xf4 => k_is)
    (case lx4 => k_is)
    (case qx4 => k_is)
    (case xt4 => k_is)
    (case xa5 => k_is)
    (case xl5 => k_is)
    (case xs5 => k_is)
    (case xg5 => k_is)
    (case xh5 => k_is)
    (case xc5 => k_is)
    (case xi5 => k_is)
    (case xf5 => k_is)
    (case lx5 => k_is)
    (case qx5 => k_is)
    (case xt5 => k_is)
    (case xa6 => k_is)
    (case xl6 => k_is)
    (case xs6 => k_is)
    (case xg6 => k_is)
    (case xh6 => k_is)
    (case xc6 => k_is)
    (case xi6 => k_is)
    (case xf6 => k_is)
    (case lx6 => k_is)
    (case qx6 => k_is)
    (case xt6 => k_is)
    (case xa7 => k_is)
    (case xl7 => k_is)
    (case xs7 => k_is)
    (case xg7 => k_is)
    (case xh7 => k_is)
    (case xc7 => k_is)
    (case xi7 => k_is)
    (case xf7 => k_is)
    (case lx7 => k_is)
    (case qx7 => k_is)
    (case xt7 => k_is)
    (case xa8 => k_is)
    (case xl8 => k_is)
    (case xs8 => k_is)
    (case xg8 => k_is)
    (case xh8 => k_is)
    (case xc8 => k_is)
    (case xi8 => k_is)
    (case xf8 => k_is)
    (case lx8 => k_is)
    (case qx8 => k_is)
    (case xt8 => k_is)
    (case xa9 => k_is)
    (case xl9 => k_is)
    (case xs9 => k_is)
    (case xg9 => k_is)
    (case xh9 => k_is)
    (case xc9 => k_is)
    (case xi9 => k_is)
    (case xf9 => k_is)
    (case lx9 => k_is)
    (case qx9 => k_is)
    (case xt9 => k_is)
    (case xa10 => k_is)
    (case xl10 => k_is)
    (case xs10 => k_is)
    (case xg10 => k_is)
    (case xh10 => k_is)
    (case xc10 => k_is)
    (case xi10 => k_is)
    (case xf10 => k_is)
    (case lx10 => k_is)
    (case qx10 => k_is)
    (case xt10 => k_is)
    (case xa11 => k_is)
    (case xl11 => k_is)
    (case xs11 => k_is)
    (case xg11 => k_is)
    (case xh11 => k_is)
    (case xc11 => k_is)
    (case xi11 => k_is)
    (case xf11 => k_is)
    (case lx11 => k_is)
    (case qx11 => k_is)
    (case xt11 => k_is)
    (case xa12 => k_is)
    (case xl12 => k_is)
    (case xs12 => k_is)
    (case xg12 => k_is)
    (case xh12 => k_is)
    (case xc12 => k_is)
    (case xi12 => k_is)
    (case xf12 => k_is)
    (case lx12 => k_is)
    (case qx12 => k_is)
    (case xt12 => k_is)
    (case xa13 => k_is)
    (case xl13 => k_is)
    (case xs13 => k_is)
    (case xg13 => k_is)
    (case xh13 => k_is)
    (case xc13 => k_is)
    (case xi13 => k_is)
    (case xf13 => k_is)
    (case lx13 => k_is)
    (case qx13 => k_is)
    (case xt13 => k_is)
    (case xa14 => k_is)
    (case xl14 => k_is)
    (case xs14 => k_is)
    (case xg14 => k_is)
    (case xh14 => k_is)
    (case xc14 => k_is)
    (case xi14 => k_is)
    (case xf14 => k_is)
    (case lx14 => k_is)
    (case qx14 => k_is)
    (case xt14 => k_is)
    (case xa15 => k_is)
    (case xl15 => k_is)
    (case xs15 => k_is)
    (case xg15 => k_is)
    (case xh15 => k_is)
    (case xc15 => k_is)
    (case xi15 => k_is)
    (case xf15 => k_is)
    (case lx15 => k_is)
    (case qx15 => k_is)
    (case xt15 => k_is)
    (case xa16 => k_is)
    (case xl16 => k_is)
    (case xs16 => k_is)
    (case xg16 => k_is)
    (case xh16 => k_is)
    (case xc16 => k_is)
    (case xi16 => k_is)
    (case xf16 => k_is)
    (case lx16 => k_is)
    (case qx16 => k_is)
    (case xt16 => k_is)
    (case xa17 => k_is)
    (case xl17 => k_is)
    (case xs17 => k_is)
    (case xg17 => k_is)
    (case xh17 => k_is)
    (case xc17 => k_is)
    (case xi17 => k_is)
    (case xf17 => k_is)
    (case lx17 => k_is)
    (case qx17 => k_is)
    (case xt17 => k_is)
    (case xa18 => k_is)
    (case xl18 => k_is)
    (case xs18 => k_is)
    (case xg18 => k_is)
    (case xh18 => k_is)
    (case xc18 => k_is)
    (case xi18 => k_is)
    (case xf18 => k_is)
    (case lx18 => k_is)
    (case qx18 => k_is)
    (case xt18 => k_is)
    (case xa19 => k_is)
    (case xl19 => k_is)
    (case xs19 => k_is)
    (case xg19 => k_is)
    (case xh19 => k_is)
    (case xc19 => k_is)
    (case xi19 => k_is)
    (case xf19 => k_is)
    (case lx19 => k_is)
    (case qx19 => k_is)
    (case xt19 => k_is)
    (case xa20 => k_is)
    (case xl20 => k_is)
    (case xs20 => k_is)
    (case xg20 => k_is)
    (case xh20 => k_is)
    (case xc20 => k_is)
    (case xi20 => k_is)
    (case xf20 => k_is)
    (case lx20 => k_is)
    (case qx20 => k_is)
    (case xt20 => k_is)
    (case xa21 => k_is)
    (case xl21 => k_is)
    (case xs21 => k_is)
    (case xg21 => k_is)
    (case xh21 => k_is)
    (case xc21 => k_is)
    (case xi21 => k_is)
    (case xf21 => k_is)
    (case lx21 => k_is)
    (case qx21 => k_is)
    (case xt21 => k_is)
    (case xa22 => k_is)
    (case xl22 => k_is)
    (case xs22 => k_is)
    (case xg22 => k_is)
    (case xh22 => k_is)
    (case xc22 => k_is)
    (case xi22 => k_is)
    (case xf22 => k_is)
    (case lx22 => k_is)
    (case qx22 => k_is)
    (case xt22 => k_is)
    (case xa23 => k_is)
    (case xl23 => k_is)
    (case xs23 => k_is)
    (case xg23 => k_is)
    (case xh23 => k_is)
    (case xc23 => k_is)
    (case xi23 => k_is)
    (case xf23 => k_is)
    (case lx23 => k_is)
    (case qx23 => k_is)
    (case xt23 => k_is)
    (case xa24 => k_is)
    (case xl24 => k_is)
    (case xs24 => k_is)
    (case xg24 => k_is)
    (case xh24 => k_is)
    (case xc24 => k_is)
    (case xi24 => k_is)
    (case xf24 => k_is)
    (case lx24 => k_is)
    (case qx24 => k_is)
    (case xt24 => k_is)
    (case xa25 => k_is)
    (case xl25 => k_is)
    (case xs25 => k_is)
    (case xg25 => k_is)
    (case xh25 => k_is)
    (case xc25 => k_is)
    (case xi25 => k_is)
    (case xf25 => k_is)
    (case lx25 => k_is)
    (case qx25 => k_is)
    (case xt25 => k_is)
    (case xa26 => k_is)
    (case xl26 => k_is)
    (case xs26 => k_is)
    (case xg26 => k_is)
    (case xh26 => k_is)
    (case xc26 => k_is)
    (case xi26 => k_is)
    (case xf26 => k_is)
    (case lx26 => k_is)
    (case qx26 => k_is)
    (case xt26 => k_is)
    (case xa27 => k_is)
    (case xl27 => k_is)
    (case xs27 => k_is)
    (case xg27 => k_is)
    (case xh27 => k_is)
    (case xc27 => k_is)
    (case xa28 => k_is)
    (case xl28 => k_is)
    (case xs28 => k_is)
    (case xg28 => k_is)
    (case xh28 => k_is)
    (case xc28 => k_is)
    (case a0 => k_is)
    (case l0 => k_is)
    (case q0 => k_is)
    (case k0 => k_is)
    (case a1 => k_is)
    (case l1 => k_is)
    (case q1 => k_is)
    (case k1 => k_is)
    (case a2 => k_is)
    (case l2 => k_is)
    (case q2 => k_is)
    (case k2 => k_is)
    (case a3 => k_is)
    (case l3 => k_is)
    (case q3 => k_is)
    (case k3 => k_is)
    (case a4 => k_is)
    (case l4 => k_is)
    (case q4 => k_is)
    (case k4 => k_is)
    (case a5 => k_is)
    (case l5 => k_is)
    (case q5 => k_is)
    (case k5 => k_is)
    (case a6 => k_is)
    (case l6 => k_is)
    (case q6 => k_is)
    (case k6 => k_is)
    (case a7 => k_is)
    (case l7 => k_is)
    (case q7 => k_is)
    (case k7 => k_is)
    (case a8 => k_is)
    (case l8 => k_is)
    (case q8 => k_is)
    (case k8 => k_is)
    (case a9 => k_is)
    (case l9 => k_is)
    (case q9 => k_is)
    (case k9 => k_is)
    (case a10 => k_is)
    (case l10 => k_is)
    (case q10 => k_is)
    (case k10 => k_is)
    (case a11 => k_is)
    (case l11 => k_is)
    (case q11 => k_is)
    (case k11 => k_is)
    (case a12 => k_is)
    (case l12 => k_is)
    (case q12 => k_is)
    (case k12 => k_is)
    (case a13 => k_is)
    (case l13 => k_is)
    (case q13 => k_is)
    (case k13 => k_is)
    (case b0 => k_is)
    (case b1 => k_is)
    (case b2 => k_is)
    (case b3 => k_is)
    (case b4 => k_is)
    (case b5 => k_is)
    (case b6 => k_is)
    (case b7 => k_is)
    (case b8 => k_is)
    (case b9 => k_is)
    (case b10 => k_is)
    (case b11 => k_is)
    (case b12 => k_is)
    (case b13 => k_is)
    (case b14 => k_is)
    (case b15 => k_is)
    (case b16 => k_is)
    (case b17 => k_is)
    (case xn27 => k_is)
    (case xn28 => k_is)
    (case xd27 => kernel_rfl)
    (case xd28 => kernel_rfl)
    (case xe28 => decide +kernel)
    (case xo0 => decide +kernel)
    (case xo1 => decide +kernel)
    (case xo2 => decide +kernel)
    (case xo3 => decide +kernel)
    (case xo4 => decide +kernel)
    (case xo5 => decide +kernel)
    (case xo6 => decide +kernel)
    (case xo7 => decide +kernel)
    (case xo8 => decide +kernel)
    (case xo9 => decide +kernel)
    (case xo10 => decide +kernel)
    (case xo11 => decide +kernel)
    (case xo12 => decide +kernel)
    (case xo13 => decide +kernel)
    (case xo14 => decide +kernel)
    (case xo15 => decide +kernel)
    (case xo16 => decide +kernel)
    (case xo17 => decide +kernel)
    (case xo18 => decide +kernel)
    (case xo19 => decide +kernel)
    (case xo20 => decide +kernel)
    (case xo21 => decide +kernel)
    (case xo22 => decide +kernel)
    (case xo23 => decide +kernel)
    (case xo24 => decide +kernel)
    (case xo25 => decide +kernel)
    (case xo26 => decide +kernel)
    (case xo27 => decide +kernel)
    (case xo28 => decide +kernel)
    (case xnd => decide +kernel)

