import PyProof.Rows.All
import Wide.All
import OpenK.AllK
import Wide.FinOn
import HandS.ForMost
import HandS.ForExc
import HandS.ExcInit
import HandS.Wide
import HandS.HeadHook1
import HandS.TupAny
import HandS.TupMul
import HandS.Style
import HandS.IsInst
import HandS.Gcd
import HandS.Flow
import HandS.Deep
import HandS.RevRange
import HandS.Zip
import HandS.EndTab
import HandS.ExcField
import HandS.ExcIs
import HandS.Comp
import HandS.Text
import HandS.Iter
import KE.KMathG
import HandS.AnyAll
import HandS.GenList
import HandS.WordsExc
import HandS.Head0
import HandS.Head1
import HandS.Head2
import HandS.HeadEnd
import HandS.HeadHook2
import HandS.HeadHook3
import HandS.HeadHook4
import HandS.HeadWalk
import KE.KStateDown
import PyProof.SumWalkG
import PyProof.StrBlock2
import HandS.Star
import KE.KExcIs
import HandS.TryOnly
import HandS.Conv
import PyProof.SliceStr2
import HandS.Rev
import PyProof.ListStr
import PyProof.ListNew
import HandS.SortInts
import HandS.Flt
import HandS.Dict
import HandS.DictComp
import HandS.More
import KE.GoesMore
import HandS.List
import HandS.CallLocal
import PyProof.Rows.StrDigitsNeg
import PyProof.Rows.StrJoinMade
import PySem.Challenge.RW_alikeplay_k60_texts_and_digests
set_option Elab.async false
set_option linter.all false
set_option maxRecDepth 100000
namespace Z
open PySem PySem.Spec PyProof.Rows L2

/-- abstract values: tuples are values, what can change stands in the abstract heap -/
inductive A where
  | non | bl (b : Bool) | int (i : Int) | str (x : Str) | tup (xs : List A) | ref (n : Nat) | fro (xs : List A) | fn (x : Str)

inductive AO where
  | lst (xs : List A)
  | dct (kvs : List (Key × A))
  | ins (c : Str) (fs : List (Str × A))

abbrev AH := List AO

/-- an error that is raised: its class's name, its fields -/
structure Ex where
  cls : Str
  fs : List (Str × A)

inductive Rs (α : Type) where
  | ok (a : α) (h : AH)
  | ex (e : Ex) (h : AH)
  | no

abbrev Mo (α : Type) := AH → Rs α
@[reducible] def Rs.bind {α β : Type} (r : Rs α) (k : α → AH → Rs β) : Rs β := match r with
  | .ok a h => k a h
  | .ex e h => .ex e h
  | .no => .no

abbrev SA := List (Option A)
abbrev ME := SA → Mo A

/-- the context -/
structure G where
  K : PySem.W.Frag
  mg : Str → Option Value
  tb : Addr → Prop

/-- a list that stands still -/
def SqF (K : PySem.W.Frag) (H : Hp) (a : Addr) (xs : List V) : Prop :=
  (∃ o, H a = some (.frz o (.lst xs))) ∨
    ∃ (o : Obj) (its : Array Value) (n : Nat), K.lookup a = some o ∧ o.cls = .type "list" ∧ o.dict = none ∧ o.data = .seq its n ∧ its.size ≤ sizeLine ∧ Vals xs its.toList
theorem SqF.seq {K : PySem.W.Frag} {H : Hp} {a : Addr} {xs : List V} (h : SqF K H a xs) : SqL K H a xs := by
  rcases h with h | h
  · exact .inl (.inr h)
  · exact .inr h
mutual
def Rp (K : PySem.W.Frag) (ρ : List Addr) (H : Hp) : A → V → Prop
  | .non, v => v = .non
  | .bl b, v => v = .bl b
  | .int i, v => v = .int i
  | .str x, v => v = .str x
  | .tup xs, v => ∃ p vs, v = .ref p ∧ SqT K H p vs ∧ RpL K ρ H xs vs
  | .ref n, v => ∃ a, v = .ref a ∧ ρ[n]? = some a
  | .fro xs, v => ∃ p vs, v = .ref p ∧ SqF K H p vs ∧ RpL K ρ H xs vs
  | .fn x, v => v = .ref (He.ga K x)
def RpL (K : PySem.W.Frag) (ρ : List Addr) (H : Hp) : List A → List V → Prop
  | [], vs => vs = []
  | x :: xs, vs => ∃ v vs', vs = v :: vs' ∧ Rp K ρ H x v ∧ RpL K ρ H xs vs'
end

/-- what can't be changed stands -/
structure Kept (H H' : Hp) : Prop where
  tups : ∀ b xs, H b = some (.tup xs) → H' b = some (.tup xs)
  frzs : ∀ b o u, H b = some (.frz o u) → H' b = some (.frz o u)
  xds : ∀ b fs, H b = some (.xd fs) → H' b = some (.xd fs)
theorem Kept.refl (H : Hp) : Kept H H := ⟨fun _ _ h => h, fun _ _ _ h => h, fun _ _ h => h⟩
theorem Kept.trans {H H1 H2 : Hp} (a : Kept H H1) (b : Kept H1 H2) : Kept H H2 :=
  ⟨fun c xs h => b.tups c xs (a.tups c xs h), fun c o u h => b.frzs c o u (a.frzs c o u h), fun c fs h => b.xds c fs (a.xds c fs h)⟩
theorem Kept.new {H : Hp} {p : Addr} {o : HO} (n : H p = none) : Kept H (upd H p o) :=
  ⟨fun b xs h => by rw [upd_ne (ne_of_none h n)]; exact h, fun b o u h => by rw [upd_ne (ne_of_none h n)]; exact h, fun b o h => by rw [upd_ne (ne_of_none h n)]; exact h⟩

theorem Kept.sqt {K : PySem.W.Frag} {H H' : Hp} (k : Kept H H') {p : Addr} {vs : List V} (h : SqT K H p vs) : SqT K H' p vs := by
  rcases h with (h | ⟨o, h⟩) | h
  · exact .inl (.inl (k.tups _ _ h))
  · exact .inl (.inr ⟨o, k.frzs _ _ _ h⟩)
  · exact .inr h

theorem Kept.sqf {K : PySem.W.Frag} {H H' : Hp} (k : Kept H H') {p : Addr} {vs : List V} (h : SqF K H p vs) : SqF K H' p vs := by
  rcases h with ⟨o, h⟩ | h
  · exact .inl ⟨o, k.frzs _ _ _ h⟩
  · exact .inr h
mutual
theorem Rp.mono {K : PySem.W.Frag} {ρ ρ' : List Addr} {H H' : Hp} (hr : ρ <+: ρ') (k : Kept H H') : ∀ (x : A) (v : V), Rp K ρ H x v → Rp K ρ' H' x v
  | .non, v, h => by simpa only [Rp] using h
  | .bl b, v, h => by simpa only [Rp] using h
  | .int i, v, h => by simpa only [Rp] using h
  | .str x, v, h => by simpa only [Rp] using h
  | .tup xs, v, h => by
    simp only [Rp] at h ⊢
    obtain ⟨p, vs, e, h1, h2⟩ := h
    exact ⟨p, vs, e, k.sqt h1, RpL.mono hr k xs vs h2⟩
  | .fro xs, v, h => by
    simp only [Rp] at h ⊢
    obtain ⟨p, vs, e, h1, h2⟩ := h
    exact ⟨p, vs, e, k.sqf h1, RpL.mono hr k xs vs h2⟩
  | .fn x, v, h => by simpa only [Rp] using h
  | .ref n, v, h => by
    simp only [Rp] at h ⊢
    obtain ⟨a, e, h⟩ := h
    obtain ⟨t, rfl⟩ := hr
    refine ⟨a, e, ?_⟩
    rw [List.getElem?_append_left (by
      rcases Nat.lt_or_ge n ρ.length with z | z
      · exact z
      · rw [List.getElem?_eq_none z] at h; cases h)]
    exact h
theorem RpL.mono {K : PySem.W.Frag} {ρ ρ' : List Addr} {H H' : Hp} (hr : ρ <+: ρ') (k : Kept H H') : ∀ (xs : List A) (vs : List V), RpL K ρ H xs vs → RpL K ρ' H' xs vs
  | [], vs, h => by simpa only [RpL] using h
  | x :: xs, vs, h => by
    simp only [RpL] at h ⊢
    obtain ⟨v, vs', e, h1, h2⟩ := h
    exact ⟨v, vs', e, Rp.mono hr k x v h1, RpL.mono hr k xs vs' h2⟩
end
section
variable {K : PySem.W.Frag} {ρ : List Addr} {H : Hp}
theorem RpL.length : ∀ {xs : List A} {vs : List V}, RpL K ρ H xs vs → xs.length = vs.length
  | [], vs, h => by simp only [RpL] at h; subst h; rfl
  | x :: xs, vs, h => by
    simp only [RpL] at h
    obtain ⟨v, vs', rfl, _, h2⟩ := h
    simp [RpL.length h2]
theorem RpL.get : ∀ {xs : List A} {vs : List V} {i : Nat} {x : A}, RpL K ρ H xs vs → xs[i]? = some x → ∃ v, vs[i]? = some v ∧ Rp K ρ H x v
  | [], _, _, _, _, e => by simp at e
  | y :: ys, vs, 0, x, h, e => by
    simp only [RpL] at h
    obtain ⟨v, vs', rfl, h1, _⟩ := h
    simp at e; subst e
    exact ⟨v, rfl, h1⟩
  | y :: ys, vs, i + 1, x, h, e => by
    simp only [RpL] at h
    obtain ⟨v, vs', rfl, _, h2⟩ := h
    obtain ⟨u, e1, e2⟩ := RpL.get (i := i) (x := x) h2 (by simpa using e)
    exact ⟨u, by simpa using e1, e2⟩
theorem RpL.append : ∀ {xs ys : List A} {vs ws : List V}, RpL K ρ H xs vs → RpL K ρ H ys ws → RpL K ρ H (xs ++ ys) (vs ++ ws)
  | [], ys, vs, ws, h, h' => by simp only [RpL] at h; subst h; exact h'
  | x :: xs, ys, vs, ws, h, h' => by
    simp only [RpL] at h
    obtain ⟨v, vs', rfl, h1, h2⟩ := h
    show RpL K ρ H (x :: (xs ++ ys)) (v :: (vs' ++ ws))
    simp only [RpL]
    exact ⟨v, _, rfl, h1, h2.append h'⟩
theorem RpL.set : ∀ {xs : List A} {vs : List V} (i : Nat) {x : A} {v : V}, RpL K ρ H xs vs → Rp K ρ H x v → RpL K ρ H (xs.set i x) (vs.set i v)
  | [], vs, i, x, v, h, r => by simp only [RpL] at h; subst h; simp [RpL]
  | y :: ys, vs, 0, x, v, h, r => by
    simp only [RpL] at h
    obtain ⟨u, vs', rfl, h1, h2⟩ := h
    show RpL K ρ H (x :: ys) (v :: vs')
    simp only [RpL]
    exact ⟨v, vs', rfl, r, h2⟩
  | y :: ys, vs, i + 1, x, v, h, r => by
    simp only [RpL] at h
    obtain ⟨u, vs', rfl, h1, h2⟩ := h
    show RpL K ρ H (y :: ys.set i x) (u :: vs'.set i v)
    simp only [RpL]
    exact ⟨u, _, rfl, h1, h2.set i r⟩
theorem RpL.cons {x : A} {xs : List A} {v : V} {vs : List V} (h : Rp K ρ H x v) (t : RpL K ρ H xs vs) : RpL K ρ H (x :: xs) (v :: vs) := by
  simp only [RpL]; exact ⟨v, vs, rfl, h, t⟩
theorem RpL.nil : RpL K ρ H [] [] := by simp only [RpL]
theorem RpL.take : ∀ {xs : List A} {vs : List V} (n : Nat), RpL K ρ H xs vs → RpL K ρ H (xs.take n) (vs.take n)
  | _, _, 0, _ => by simp [RpL]
  | [], vs, n + 1, h => by simp only [RpL] at h; subst h; simp [RpL]
  | x :: xs, vs, n + 1, h => by
    simp only [RpL] at h
    obtain ⟨v, vs', rfl, h1, h2⟩ := h
    exact RpL.cons h1 (h2.take n)
theorem RpL.drop : ∀ {xs : List A} {vs : List V} (n : Nat), RpL K ρ H xs vs → RpL K ρ H (xs.drop n) (vs.drop n)
  | xs, vs, 0, h => h
  | [], vs, n + 1, h => by simp only [RpL] at h; subst h; simp [RpL]
  | x :: xs, vs, n + 1, h => by
    simp only [RpL] at h
    obtain ⟨v, vs', rfl, h1, h2⟩ := h
    exact h2.drop n
end

/-- fields and their values -/
def RpF (K : PySem.W.Frag) (ρ : List Addr) (H : Hp) {κ : Type} (fs : List (κ × A)) (gs : List (κ × V)) : Prop :=
  fs.map (·.1) = gs.map (·.1) ∧ RpL K ρ H (fs.map (·.2)) (gs.map (·.2))
theorem RpF.mono {K : PySem.W.Frag} {ρ ρ' : List Addr} {H H' : Hp} {κ : Type} {fs : List (κ × A)} {gs : List (κ × V)} (hr : ρ <+: ρ') (k : Kept H H') (h : RpF K ρ H fs gs) : RpF K ρ' H' fs gs :=
  ⟨h.1, RpL.mono hr k _ _ h.2⟩

/-- an abstract object stands at a -/
def Orp (Γ : G) (ρ : List Addr) (H : Hp) (a : Addr) : AO → Prop
  | .lst xs => ∃ vs, H a = some (.lst vs) ∧ RpL Γ.K ρ H xs vs
  | .dct kvs => ∃ gs, H a = some (.dK gs) ∧ RpF Γ.K ρ H kvs gs
  | .ins c fs => ∃ C dx gs, Γ.mg c = some (.ref C) ∧ H a = some (.ins C dx gs) ∧ RpF Γ.K ρ H fs gs
theorem Orp.some {Γ : G} {ρ : List Addr} {H : Hp} {a : Addr} {o : AO} (h : Orp Γ ρ H a o) : ∃ u, H a = some u := by
  cases o with
  | lst xs => obtain ⟨vs, h, _⟩ := h; exact ⟨_, h⟩
  | dct xs => obtain ⟨vs, h, _⟩ := h; exact ⟨_, h⟩
  | ins c xs => obtain ⟨_, _, _, _, h, _⟩ := h; exact ⟨_, h⟩
theorem Orp.mono {Γ : G} {ρ ρ' : List Addr} {H H' : Hp} {a : Addr} {o : AO} (hr : ρ <+: ρ') (k : Kept H H') (e : H' a = H a) (h : Orp Γ ρ H a o) : Orp Γ ρ' H' a o := by
  cases o with
  | lst xs => obtain ⟨vs, h, r⟩ := h; exact ⟨vs, e.trans h, RpL.mono hr k _ _ r⟩
  | dct xs => obtain ⟨vs, h, r⟩ := h; exact ⟨vs, e.trans h, r.mono hr k⟩
  | ins c xs => obtain ⟨C, dx, gs, m, h, r⟩ := h; exact ⟨C, dx, gs, m, e.trans h, r.mono hr k⟩

def Tb (H : Hp) (P : Addr) : Prop := ∃ ps : Array Value, H P = some (.tbl ps) ∧ TriplesOk ps.toList

structure Sim (Γ : G) (ρ : List Addr) (ah : AH) (H : Hp) : Prop where
  len : ρ.length = ah.length
  nd : ρ.Nodup
  ob : ∀ (n : Nat) (o : AO) (a : Addr), ah[n]? = some o → ρ[n]? = some a → Orp Γ ρ H a o
  tb : ∀ P, Γ.tb P → Tb H P

section
variable {Γ : G} {ρ : List Addr} {ah : AH} {H : Hp}
theorem Sim.at_ (S : Sim Γ ρ ah H) {n : Nat} {o : AO} (e : ah[n]? = some o) : ∃ a, ρ[n]? = some a ∧ Orp Γ ρ H a o := by
  have hn : n < ρ.length := by
    rw [S.len]
    rcases Nat.lt_or_ge n ah.length with z | z
    · exact z
    · rw [List.getElem?_eq_none z] at e; cases e
  exact ⟨ρ[n], List.getElem?_eq_getElem hn, S.ob n o _ e (List.getElem?_eq_getElem hn)⟩
theorem Sim.there (S : Sim Γ ρ ah H) {n : Nat} {a : Addr} (e : ρ[n]? = some a) : ∃ o, ah[n]? = some o ∧ Orp Γ ρ H a o := by
  have hn : n < ah.length := by
    rw [← S.len]
    rcases Nat.lt_or_ge n ρ.length with z | z
    · exact z
    · rw [List.getElem?_eq_none z] at e; cases e
  exact ⟨ah[n], List.getElem?_eq_getElem hn, S.ob n _ _ (List.getElem?_eq_getElem hn) e⟩
/-- a new thing beside what is known -/
theorem Sim.beside (S : Sim Γ ρ ah H) {p : Addr} {o : HO} (n : H p = none) : Sim Γ ρ ah (upd H p o) where
  len := S.len
  nd := S.nd
  ob := fun m u a e1 e2 => by
    have h := S.ob m u a e1 e2
    obtain ⟨z, hz⟩ := h.some
    exact h.mono (List.prefix_refl _) (Kept.new n) (upd_ne (ne_of_none hz n))
  tb := fun P hP => by
    obtain ⟨ps, h, t⟩ := S.tb P hP
    exact ⟨ps, by rw [upd_ne (ne_of_none h n)]; exact h, t⟩
/-- a new object -/
theorem Sim.new (S : Sim Γ ρ ah H) {p : Addr} {u : HO} {o : AO} (n : H p = none) (ho : Orp Γ (ρ ++ [p]) (upd H p u) p o) : Sim Γ (ρ ++ [p]) (ah ++ [o]) (upd H p u) where
  len := by simp [S.len]
  nd := by
    rw [List.nodup_append]
    refine ⟨S.nd, by simp, fun x hx y hy e => ?_⟩
    subst e
    obtain rfl : x = p := by simpa using hy
    obtain ⟨m, hm, e⟩ := List.getElem_of_mem hx
    obtain ⟨o', _, h⟩ := S.there (n := m) (a := x) (by rw [List.getElem?_eq_getElem hm, e])
    obtain ⟨z, hz⟩ := h.some
    rw [n] at hz; cases hz
  ob := fun m w a e1 e2 => by
    by_cases hm : m < ah.length
    · rw [List.getElem?_append_left hm] at e1
      rw [List.getElem?_append_left (by rw [S.len]; exact hm)] at e2
      exact ((S.beside n (o := u)).ob m w a e1 e2).mono ⟨[p], rfl⟩ (Kept.refl _) rfl
    · have e : m = ah.length := by
        rcases Nat.lt_or_ge m (ah ++ [o]).length with z | z
        · simp at z; omega
        · rw [List.getElem?_eq_none z] at e1; cases e1
      subst e
      simp at e1
      have : (ρ ++ [p])[ah.length]? = some p := by rw [← S.len]; simp
      rw [this] at e2
      cases e2; subst e1
      exact ho
  tb := (S.beside n (o := u)).tb
/-- an object changed -/
theorem Kept.write {o u : HO} {a : Addr} (h : H a = some o) (n1 : ∀ xs, o ≠ .tup xs) (n2 : ∀ x y, o ≠ .frz x y) (n3 : ∀ fs, o ≠ .xd fs) : Kept H (upd H a u) :=
  ⟨fun b xs e => by rw [upd_ne (ne_of e h (Ne.symm (n1 xs)))]; exact e, fun b x y e => by rw [upd_ne (ne_of e h (Ne.symm (n2 x y)))]; exact e,
   fun b fs e => by rw [upd_ne (ne_of e h (Ne.symm (n3 fs)))]; exact e⟩
theorem Sim.write (S : Sim Γ ρ ah H) {n : Nat} {a : Addr} {o u : HO} {w : AO} (ea : ρ[n]? = some a) (h : H a = some o) (n1 : ∀ xs, o ≠ .tup xs) (n2 : ∀ x y, o ≠ .frz x y) (n3 : ∀ fs, o ≠ .xd fs) (n4 : ∀ ps, o ≠ .tbl ps)
    (ho : Orp Γ ρ (upd H a u) a w) : Sim Γ ρ (ah.set n w) (upd H a u) where
  len := by simp [S.len]
  nd := S.nd
  ob := fun m v b e1 e2 => by
    by_cases hm : m = n
    · subst hm
      rw [ea] at e2; cases e2
      rw [List.getElem?_set_self (by
        rcases Nat.lt_or_ge m ah.length with z | z
        · exact z
        · rw [List.getElem?_eq_none (by simpa using z)] at e1; cases e1)] at e1
      cases e1
      exact ho
    · rw [List.getElem?_set_ne (Ne.symm hm)] at e1
      have hb : b ≠ a := fun z => by
        subst z
        exact hm (nd_ix S.nd e2 ea)
      exact (S.ob m v b e1 e2).mono (List.prefix_refl _) (Kept.write h n1 n2 n3) (upd_ne hb)
  tb := fun P hP => by
    obtain ⟨ps, hp, t⟩ := S.tb P hP
    exact ⟨ps, by rw [upd_ne (ne_of hp h (Ne.symm (n4 ps)))]; exact hp, t⟩
end

/-! ### slots -/
def SRp (K : PySem.W.Frag) (ρ : List Addr) (H : Hp) : SA → L2.St → Prop
  | [], σ => σ = []
  | none :: sa, σ => ∃ v σ', σ = v :: σ' ∧ SRp K ρ H sa σ'
  | some x :: sa, σ => ∃ v σ', σ = some v :: σ' ∧ Rp K ρ H x v ∧ SRp K ρ H sa σ'
section
variable {K : PySem.W.Frag} {ρ ρ' : List Addr} {H H' : Hp}
theorem SRp.mono (hr : ρ <+: ρ') (k : Kept H H') : ∀ {sa : SA} {σ : L2.St}, SRp K ρ H sa σ → SRp K ρ' H' sa σ
  | [], _, h => by simpa only [SRp] using h
  | none :: sa, σ, h => by
    simp only [SRp] at h ⊢
    obtain ⟨v, σ', e, t⟩ := h
    exact ⟨v, σ', e, t.mono hr k⟩
  | some x :: sa, σ, h => by
    simp only [SRp] at h ⊢
    obtain ⟨v, σ', e, r, t⟩ := h
    exact ⟨v, σ', e, Rp.mono hr k _ _ r, t.mono hr k⟩
theorem SRp.get : ∀ {sa : SA} {σ : L2.St} {i : Nat} {x : A}, SRp K ρ H sa σ → sa[i]? = some (some x) → ∃ v, σ[i]? = some (some v) ∧ Rp K ρ H x v
  | [], _, _, _, _, e => by simp at e
  | none :: sa, σ, 0, x, h, e => by simp at e
  | none :: sa, σ, i + 1, x, h, e => by
    simp only [SRp] at h
    obtain ⟨v, σ', rfl, t⟩ := h
    obtain ⟨u, e1, e2⟩ := SRp.get (i := i) (x := x) t (by simpa using e)
    exact ⟨u, by simpa using e1, e2⟩
  | some y :: sa, σ, 0, x, h, e => by
    simp only [SRp] at h
    obtain ⟨v, σ', rfl, r, t⟩ := h
    simp at e; subst e
    exact ⟨v, rfl, r⟩
  | some y :: sa, σ, i + 1, x, h, e => by
    simp only [SRp] at h
    obtain ⟨v, σ', rfl, r, t⟩ := h
    obtain ⟨u, e1, e2⟩ := SRp.get (i := i) (x := x) t (by simpa using e)
    exact ⟨u, by simpa using e1, e2⟩
theorem SRp.set : ∀ {sa : SA} {σ : L2.St} (i : Nat) {x : A} {v : V}, SRp K ρ H sa σ → Rp K ρ H x v → SRp K ρ H (sa.set i (some x)) (σ.set i (some v))
  | [], _, _, _, _, h, _ => by simp only [SRp] at h; subst h; simp [SRp]
  | none :: sa, σ, 0, x, v, h, r => by
    simp only [SRp] at h
    obtain ⟨_, σ', rfl, t⟩ := h
    show SRp K ρ H (some x :: sa) (some v :: σ')
    simp only [SRp]; exact ⟨v, σ', rfl, r, t⟩
  | some y :: sa, σ, 0, x, v, h, r => by
    simp only [SRp] at h
    obtain ⟨_, σ', rfl, _, t⟩ := h
    show SRp K ρ H (some x :: sa) (some v :: σ')
    simp only [SRp]; exact ⟨v, σ', rfl, r, t⟩
  | none :: sa, σ, i + 1, x, v, h, r => by
    simp only [SRp] at h
    obtain ⟨w, σ', rfl, t⟩ := h
    show SRp K ρ H (none :: sa.set i (some x)) (w :: σ'.set i (some v))
    simp only [SRp]; exact ⟨w, _, rfl, t.set i r⟩
  | some y :: sa, σ, i + 1, x, v, h, r => by
    simp only [SRp] at h
    obtain ⟨w, σ', rfl, q, t⟩ := h
    show SRp K ρ H (some y :: sa.set i (some x)) (some w :: σ'.set i (some v))
    simp only [SRp]; exact ⟨w, _, rfl, q, t.set i r⟩
theorem SRp.forget : ∀ {sa : SA} {σ : L2.St} (i : Nat) {v : Option V}, SRp K ρ H sa σ → SRp K ρ H (sa.set i none) (σ.set i v)
  | [], _, _, _, h => by simp only [SRp] at h; subst h; simp [SRp]
  | none :: sa, σ, 0, v, h => by
    simp only [SRp] at h
    obtain ⟨_, σ', rfl, t⟩ := h
    show SRp K ρ H (none :: sa) (v :: σ')
    simp only [SRp]; exact ⟨v, σ', rfl, t⟩
  | some y :: sa, σ, 0, v, h => by
    simp only [SRp] at h
    obtain ⟨_, σ', rfl, _, t⟩ := h
    show SRp K ρ H (none :: sa) (v :: σ')
    simp only [SRp]; exact ⟨v, σ', rfl, t⟩
  | none :: sa, σ, i + 1, v, h => by
    simp only [SRp] at h
    obtain ⟨w, σ', rfl, t⟩ := h
    show SRp K ρ H (none :: sa.set i none) (w :: σ'.set i v)
    simp only [SRp]; exact ⟨w, _, rfl, t.forget i⟩
  | some y :: sa, σ, i + 1, v, h => by
    simp only [SRp] at h
    obtain ⟨w, σ', rfl, q, t⟩ := h
    show SRp K ρ H (some y :: sa.set i none) (some w :: σ'.set i v)
    simp only [SRp]; exact ⟨w, _, rfl, q, t.forget i⟩
theorem SRp.start : ∀ {xs : List A} {vs : List V} (n : Nat), RpL K ρ H xs vs → SRp K ρ H (xs.map some ++ List.replicate n none) (vs.map some ++ List.replicate n none)
  | [], vs, n, h => by
    simp only [RpL] at h; subst h
    induction n with
    | zero => simp [SRp]
    | succ n ih =>
      simp only [List.map_nil, List.nil_append, List.replicate_succ] at ih ⊢
      simp only [SRp]; exact ⟨none, _, rfl, ih⟩
  | x :: xs, vs, n, h => by
    simp only [RpL] at h
    obtain ⟨v, vs', rfl, h1, h2⟩ := h
    show SRp K ρ H (some x :: (xs.map some ++ List.replicate n none)) (some v :: (vs'.map some ++ List.replicate n none))
    simp only [SRp]; exact ⟨v, _, rfl, h1, SRp.start n h2⟩
end

/-! ### what is wanted of an end -/
def Xp (Γ : G) (ρ : List Addr) (H : Hp) (e : Ex) (cls : Value) (d : Option Addr) : Prop :=
  ∃ C dx gs, Γ.mg e.cls = some (.ref C) ∧ cls = .ref C ∧ d = some dx ∧ H dx = some (.xd gs) ∧ RpF Γ.K ρ H e.fs gs

/-- the end of an expression -/
def Pst (Γ : G) (W : WX) (σ : L2.St) (ρ : List Addr) (H : Hp) (Q : VK) : Rs A → Prop
  | .ok v ah' => ∀ ρ' H' u, Sim Γ ρ' ah' H' → ρ <+: ρ' → Kept H H' → Rp Γ.K ρ' H' v u → Q u H'
  | .ex e ah' => ∀ ρ' H' cls d, Sim Γ ρ' ah' H' → ρ <+: ρ' → Kept H H' → Xp Γ ρ' H' e cls d → W cls d σ H'
  | .no => False
/-- of any result that is not a value: how it is left to us to say -/
def PstA {α : Type} (Γ : G) (W : WX) (σ : L2.St) (ρ : List Addr) (H : Hp) (Q : α → AH → List Addr → Hp → Prop) : Rs α → Prop
  | .ok v ah' => ∀ ρ' H', Sim Γ ρ' ah' H' → ρ <+: ρ' → Kept H H' → Q v ah' ρ' H'
  | .ex e ah' => ∀ ρ' H' cls d, Sim Γ ρ' ah' H' → ρ <+: ρ' → Kept H H' → Xp Γ ρ' H' e cls d → W cls d σ H'
  | .no => False
section
variable {Γ : G} {W : WX} {σ : L2.St} {ρ ρ1 : List Addr} {H H1 : Hp} {Q Q' : VK}
theorem Pst.later {r : Rs A} (h : Pst Γ W σ ρ H Q r) (hr : ρ <+: ρ1) (k : Kept H H1) : Pst Γ W σ ρ1 H1 Q r := by
  cases r with
  | ok v ah' => exact fun ρ' H' u S a b r => h ρ' H' u S (hr.trans a) (k.trans b) r
  | ex e ah' => exact fun ρ' H' cls d S a b r => h ρ' H' cls d S (hr.trans a) (k.trans b) r
  | no => exact h
theorem Pst.imp {r : Rs A} (h : Pst Γ W σ ρ H Q r) (f : ∀ v H, Q v H → Q' v H) : Pst Γ W σ ρ H Q' r := by
  cases r with
  | ok v ah' => exact fun ρ' H' u S a b r => f _ _ (h ρ' H' u S a b r)
  | ex e ah' => exact h
  | no => exact h
theorem Pst.bind {r : Rs A} {k : A → AH → Rs A} (h : Pst Γ W σ ρ H Q (r.bind k)) :
    Pst Γ W σ ρ H (fun u H1 => ∃ ρ1 ah1 v, Sim Γ ρ1 ah1 H1 ∧ ρ <+: ρ1 ∧ Kept H H1 ∧ Rp Γ.K ρ1 H1 v u ∧ Pst Γ W σ ρ1 H1 Q (k v ah1)) r := by
  cases r with
  | ok v ah' => exact fun ρ' H' u S a b r => ⟨ρ', ah', v, S, a, b, r, Pst.later h a b⟩
  | ex e ah' => exact h
  | no => exact h
end

/-- the reading of an expression whose meaning is m -/
def tE (Γ : G) (W : WX) (m : ME) : TE := fun σ H Q => ∃ ρ ah sa, Sim Γ ρ ah H ∧ SRp Γ.K ρ H sa σ ∧ Pst Γ W σ ρ H Q (m sa ah)
/-- the meaning of e is m -/
def Tri (X : Cx) (Γ : G) (W : WX) (e : Expr) (m : ME) : Prop := PE X e (tE Γ W m)
theorem pe_weak {X : Cx} {e : Expr} {t t' : TE} (h : PE X e t) (f : ∀ σ H Q, t' σ H Q → t σ H Q) : PE X e t' := ⟨fun pins s σ H Q I q => h.run pins s σ H Q I (f _ _ _ q)⟩

theorem tE.intro {Γ : G} {W : WX} {m : ME} {σ : L2.St} {H : Hp} {Q : VK} {ρ : List Addr} {ah : AH} {sa : SA} (S : Sim Γ ρ ah H) (r : SRp Γ.K ρ H sa σ) (h : Pst Γ W σ ρ H Q (m sa ah)) : tE Γ W m σ H Q := ⟨ρ, ah, sa, S, r, h⟩
theorem Pst.ret {Γ : G} {W : WX} {σ : L2.St} {ρ : List Addr} {ah : AH} {H : Hp} {Q : VK} {v : A} {u : V} (S : Sim Γ ρ ah H) (r : Rp Γ.K ρ H v u) (h : Pst Γ W σ ρ H Q (.ok v ah)) : Q u H := h ρ H u S (List.prefix_refl _) (Kept.refl _) r
theorem Pst.ret' {Γ : G} {W : WX} {σ : L2.St} {ρ ρ1 : List Addr} {ah : AH} {H H1 : Hp} {Q : VK} {v : A} {u : V} (h : Pst Γ W σ ρ H Q (.ok v ah)) (S : Sim Γ ρ1 ah H1) (hr : ρ <+: ρ1) (k : Kept H H1) (r : Rp Γ.K ρ1 H1 v u) : Q u H1 := h ρ1 H1 u S hr k r

/-- two operands -/
theorem tE.two {Γ : G} {W : WX} {ma mb : ME} {mo : A → A → Mo A} {r : V → V → Hp → VK → Prop} {σ : L2.St} {H : Hp} {Q : VK}
    (hr : ∀ v1 v2 ah ρ H u1 u2, Sim Γ ρ ah H → Rp Γ.K ρ H v1 u1 → Rp Γ.K ρ H v2 u2 → Pst Γ W σ ρ H Q (mo v1 v2 ah) → r u1 u2 H Q)
    (h : tE Γ W (fun sa ah => (ma sa ah).bind fun v ah1 => (mb sa ah1).bind fun u ah2 => mo v u ah2) σ H Q) : tOp r (tE Γ W ma) (tE Γ W mb) σ H Q := by
  obtain ⟨ρ, ah, sa, S, rs, p⟩ := h
  refine ⟨ρ, ah, sa, S, rs, p.bind.imp fun u H1 ⟨ρ1, ah1, v, S1, p1, k1, r1, q1⟩ => ?_⟩
  refine ⟨ρ1, ah1, sa, S1, rs.mono p1 k1, q1.bind.imp fun u2 H2 ⟨ρ2, ah2, v2, S2, p2, k2, r2, q2⟩ => ?_⟩
  exact hr v v2 ah2 ρ2 H2 u u2 S2 (Rp.mono p2 k2 _ _ r1) r2 q2
theorem tE.one {Γ : G} {W : WX} {ma : ME} {mo : A → Mo A} {r : V → Hp → VK → Prop} {σ : L2.St} {H : Hp} {Q : VK}
    (hr : ∀ v1 ah ρ H u1, Sim Γ ρ ah H → Rp Γ.K ρ H v1 u1 → Pst Γ W σ ρ H Q (mo v1 ah) → r u1 H Q)
    (h : tE Γ W (fun sa ah => (ma sa ah).bind fun v ah1 => mo v ah1) σ H Q) : tUn r (tE Γ W ma) σ H Q := by
  obtain ⟨ρ, ah, sa, S, rs, p⟩ := h
  exact ⟨ρ, ah, sa, S, rs, p.bind.imp fun u H1 ⟨ρ1, ah1, v, S1, p1, k1, r1, q1⟩ => hr v ah1 ρ1 H1 u S1 r1 q1⟩

section
variable {X : Cx} {Γ : G} {W : WX} {a b : Expr} {ma mb : ME} {pos : Pos}
def mVar (i : Nat) : ME := fun sa ah => match sa[i]? with
  | some (some v) => .ok v ah
  | _ => .no
def mC (v : A) : ME := fun _ ah => .ok v ah
theorem t_var (i : Nat) {x : Str} (hN : X.N[i]? = some x := by rfl) (hv : Vis X.env.scope x := by first | exact Or.inl rfl | exact Or.inr (Or.inl rfl) | exact Or.inr (Or.inr rfl)) (hd : (x == ("__debug__" : Str)) = false := by decide)
    (hcd : (x == ("__classdict__" : Str)) = false := by decide) : Tri X Γ W (.Name x pos) (mVar i) := by
  refine pe_weak (pe_var hN hv hd hcd) fun σ H Q h => ?_
  obtain ⟨ρ, ah, sa, S, rs, p⟩ := h
  unfold mVar at p
  split at p
  · rename_i v e
    obtain ⟨u, e1, r⟩ := rs.get e
    exact ⟨u, e1, Pst.ret S r p⟩
  · exact p.elim
theorem t_c {e : Expr} {x : A} {v : V} (h : PE X e (tC v)) (hr : ∀ ρ H, Rp Γ.K ρ H x v) : Tri X Γ W e (mC x) :=
  pe_weak h fun σ H Q h => by
    obtain ⟨ρ, ah, sa, S, rs, p⟩ := h
    exact Pst.ret S (hr ρ H) p
theorem t_int {i j} : Tri X Γ W (.Constant (.int i) j pos) (mC (.int i)) := t_c pe_int fun _ _ => by simp [Rp]
theorem t_bl {i j} : Tri X Γ W (.Constant (.bool i) j pos) (mC (.bl i)) := t_c pe_bl fun _ _ => by simp [Rp]
theorem t_str {i j} : Tri X Γ W (.Constant (.str i) j pos) (mC (.str i)) := t_c pe_str fun _ _ => by simp [Rp]
theorem t_non {j} : Tri X Γ W (.Constant .none j pos) (mC .non) := t_c pe_non fun _ _ => by simp [Rp]

def m2 (mo : A → A → Mo A) (ma mb : ME) : ME := fun sa ah => (ma sa ah).bind fun v ah1 => (mb sa ah1).bind fun u ah2 => mo v u ah2
def m1 (mo : A → Mo A) (ma : ME) : ME := fun sa ah => (ma sa ah).bind fun v ah1 => mo v ah1
/-- an operator's meaning -/
def OpM (X : Cx) (Γ : G) (W : WX) (f : Value → Value → Sem Value) (mo : A → A → Mo A) : Prop :=
  ∃ r, OpR X f r ∧ ∀ σ v1 v2 ah ρ H u1 u2 Q, Sim Γ ρ ah H → Rp Γ.K ρ H v1 u1 → Rp Γ.K ρ H v2 u2 → Pst Γ W σ ρ H Q (mo v1 v2 ah) → r u1 u2 H Q
theorem t_bin {op : Operator} {mo : A → A → Mo A} (ho : OpM X Γ W (binaryOp op) mo) (ha : Tri X Γ W a ma) (hb : Tri X Γ W b mb) : Tri X Γ W (.BinOp a op b pos) (m2 mo ma mb) := by
  obtain ⟨r, h1, h2⟩ := ho
  exact pe_weak (pe_op h1 ha hb) fun σ H Q h => tE.two (fun v1 v2 ah ρ H u1 u2 => h2 σ v1 v2 ah ρ H u1 u2 Q) h
theorem t_cmp {op : CmpOp} {mo : A → A → Mo A} (ho : OpM X Γ W (compareOp op) mo) (ha : Tri X Γ W a ma) (hb : Tri X Γ W b mb) (hm : behindInMarks op b = false) : Tri X Γ W (.Compare a [op] [b] pos) (m2 mo ma mb) := by
  obtain ⟨r, h1, h2⟩ := ho
  exact pe_weak (pe_cmpR h1 ha hb hm) fun σ H Q h => tE.two (fun v1 v2 ah ρ H u1 u2 => h2 σ v1 v2 ah ρ H u1 u2 Q) h
end
end Z

namespace Z
open PySem PySem.Spec PyProof.Rows L2

abbrev gO (X : Cx) (tb : Addr → Prop) : G := ⟨X.K, X.mg, tb⟩

section inv
variable {K : PySem.W.Frag} {ρ : List Addr} {H : Hp} {v : V}
theorem Rp.int_ {i : Int} : Rp K ρ H (.int i) v ↔ v = .int i := by simp [Rp]
theorem Rp.bl_ {i : Bool} : Rp K ρ H (.bl i) v ↔ v = .bl i := by simp [Rp]
theorem Rp.str_ {i : Str} : Rp K ρ H (.str i) v ↔ v = .str i := by simp [Rp]
theorem Rp.non_ : Rp K ρ H .non v ↔ v = .non := by simp [Rp]
theorem Rp.tup_ {xs : List A} : Rp K ρ H (.tup xs) v ↔ ∃ p vs, v = .ref p ∧ SqT K H p vs ∧ RpL K ρ H xs vs := by simp [Rp]
theorem Rp.ref_ {n : Nat} : Rp K ρ H (.ref n) v ↔ ∃ a, v = .ref a ∧ ρ[n]? = some a := by simp [Rp]
theorem Rp.fn_ {x : Str} : Rp K ρ H (.fn x) v ↔ v = .ref (He.ga K x) := by simp [Rp]
theorem Rp.fro_ {xs : List A} : Rp K ρ H (.fro xs) v ↔ ∃ p vs, v = .ref p ∧ SqF K H p vs ∧ RpL K ρ H xs vs := by simp [Rp]
end inv

/-- a new tuple -/
theorem Pst.tup {Γ : G} {W : WX} {σ : L2.St} {ρ : List Addr} {ah : AH} {H : Hp} {Q : VK} {xs : List A} {vs : List V} {p : Addr} (h : Pst Γ W σ ρ H Q (.ok (.tup xs) ah)) (S : Sim Γ ρ ah H) (n : H p = none) (r : RpL Γ.K ρ H xs vs) :
    Q (.ref p) (upd H p (.tup vs)) :=
  h ρ _ _ (S.beside n) (List.prefix_refl _) (Kept.new n) (Rp.tup_.mpr ⟨p, vs, rfl, .inl (.inl upd_same), RpL.mono (List.prefix_refl _) (Kept.new n) _ _ r⟩)
/-- a new list -/
theorem Pst.lst {Γ : G} {W : WX} {σ : L2.St} {ρ : List Addr} {ah : AH} {H : Hp} {Q : VK} {xs : List A} {vs : List V} {p : Addr} (h : Pst Γ W σ ρ H Q (.ok (.ref ah.length) (ah ++ [.lst xs]))) (S : Sim Γ ρ ah H) (n : H p = none) (r : RpL Γ.K ρ H xs vs) :
    Q (.ref p) (upd H p (.lst vs)) :=
  h (ρ ++ [p]) _ _ (S.new n (show Orp Γ (ρ ++ [p]) (upd H p (.lst vs)) p (.lst xs) from ⟨vs, upd_same, RpL.mono ⟨[p], rfl⟩ (Kept.new n) _ _ r⟩)) ⟨[p], rfl⟩ (Kept.new n) (Rp.ref_.mpr ⟨p, rfl, by rw [← S.len]; simp⟩)

/-! ### operators -/
def oAdd : A → A → Mo A
  | .int i, .int j => fun ah => .ok (.int (i + j)) ah
  | .str x, .str y => fun ah => if x.length + y.length ≤ sizeLine then .ok (.str (x ++ y)) ah else .no
  | .tup xs, .tup ys => fun ah => if xs.length + ys.length ≤ sizeLine then .ok (.tup (xs ++ ys)) ah else .no
  | .ref a, .ref b => fun ah => match ah[a]?, ah[b]? with
    | some (.lst xs), some (.lst ys) => if xs.length + ys.length ≤ sizeLine then .ok (.ref ah.length) (ah ++ [.lst (xs ++ ys)]) else .no
    | _, _ => .no
  | _, _ => fun _ => .no
def oSub : A → A → Mo A
  | .int i, .int j => fun ah => .ok (.int (i - j)) ah
  | _, _ => fun _ => .no
def oMul : A → A → Mo A
  | .int i, .int j => fun ah => if i.natAbs.log2 + j.natAbs.log2 < 1000000 then .ok (.int (i * j)) ah else .no
  | .tup xs, .int k => fun ah => if xs ≠ [] ∧ 2 ≤ k ∧ k ≤ 1000 ∧ xs.length ≤ 1000 then .ok (.tup (List.replicate k.toNat xs).flatten) ah else .no
  | .ref a, .int k => fun ah => match ah[a]? with
    | some (.lst xs) => if -(2 ^ 63) ≤ k ∧ k < 2 ^ 63 ∧ xs.length * k.toNat ≤ sizeLine then .ok (.ref ah.length) (ah ++ [.lst (List.replicate k.toNat xs).flatten]) else .no
    | _ => .no
  | _, _ => fun _ => .no
def oDiv : A → A → Mo A
  | .int i, .int j => fun ah => if (0 < j ∧ j.natAbs.log2 < 9000) ∨ (j ≠ 0 ∧ j.natAbs.log2 < 9000) then .ok (.int (i.fdiv j)) ah else .no
  | _, _ => fun _ => .no
def oMod : A → A → Mo A
  | .int i, .int j => fun ah => if j ≠ 0 then .ok (.int (i.fmod j)) ah else .no
  | _, _ => fun _ => .no
def oPow : A → A → Mo A
  | .int i, .int j => fun ah => if 0 ≤ j ∧ j ≤ 1000000 ∧ i.natAbs < 2 ^ 64 then .ok (.int (i ^ j.toNat)) ah else .no
  | _, _ => fun _ => .no
def oShr : A → A → Mo A
  | .int i, .int j => fun ah => if 0 ≤ j then .ok (.int (i / 2 ^ j.toNat)) ah else .no
  | _, _ => fun _ => .no
def oBand : A → A → Mo A
  | .int i, .int j => fun ah => .ok (.int (Builtin.bitAnd i j)) ah
  | _, _ => fun _ => .no

section
variable {X : Cx} {tb : Addr → Prop} {W : WX}
theorem sim_lst {Γ : G} {ρ : List Addr} {ah : AH} {H : Hp} {n : Nat} {a : Addr} {xs : List A} (S : Sim Γ ρ ah H) (e : ah[n]? = some (.lst xs)) (ea : ρ[n]? = some a) : ∃ vs, H a = some (.lst vs) ∧ RpL Γ.K ρ H xs vs := S.ob n _ a e ea
/-- int operators by their rule -/
theorem opm_int {f : Value → Value → Sem Value} {mo : A → A → Mo A} {C : Int → Int → Prop} {g : Int → Int → Int} (h : OpR X f (rI C fun i j => .int (g i j)))
    (hm : ∀ v1 v2 ah, (∃ i j, v1 = .int i ∧ v2 = .int j ∧ C i j ∧ mo v1 v2 ah = .ok (.int (g i j)) ah) ∨ mo v1 v2 ah = .no) : OpM X (gO X tb) W f mo := by
  refine ⟨_, h, fun σ v1 v2 ah ρ H u1 u2 Q S r1 r2 p => ?_⟩
  rcases hm v1 v2 ah with ⟨i, j, rfl, rfl, c, e⟩ | e
  · rw [e] at p
    rw [Rp.int_] at r1 r2
    exact ⟨i, j, r1, r2, c, Pst.ret S (Rp.int_.mpr rfl) p⟩
  · rw [e] at p; exact p.elim
theorem rI_of {f : Value → Value → Sem Value} {g : Int → Int → V} (h : OpR X f (rI0 g)) : OpR X f (rI (fun _ _ => True) g) := fun pins s σ H x y v u Q I r1 r2 ⟨i, j, e1, e2, _, q⟩ => h pins s σ H x y v u Q I r1 r2 ⟨i, j, e1, e2, q⟩
theorem o_sub : OpM X (gO X tb) W (binaryOp .Sub) oSub := opm_int (rI_of op_sub) fun v1 v2 ah => by
  cases v1 <;> cases v2 <;> first | exact .inr rfl | exact .inl ⟨_, _, rfl, rfl, trivial, rfl⟩
theorem o_div : OpM X (gO X tb) W (binaryOp .FloorDiv) oDiv := by
  have h : OpR X (binaryOp .FloorDiv) (rI (fun _ j => j ≠ 0 ∧ j.natAbs.log2 < 9000) fun i j => .int (i.fdiv j)) := opI fun i j _ _ _ _ _ hc q => floordiv_int hc.1 q (.inl (PyProof.noPylong_of_log2 hc.2))
  refine opm_int (g := fun i j => i.fdiv j) h fun v1 v2 ah => ?_
  cases v1 <;> cases v2 <;> first | exact .inr rfl | skip
  rename_i i j
  by_cases c : (0 < j ∧ j.natAbs.log2 < 9000) ∨ (j ≠ 0 ∧ j.natAbs.log2 < 9000)
  · exact .inl ⟨_, _, rfl, rfl, by rcases c with c | c; exact ⟨by omega, c.2⟩; exact c, by simp only [oDiv, if_pos c]⟩
  · exact .inr (by simp only [oDiv, if_neg c])
theorem o_mod : OpM X (gO X tb) W (binaryOp .Mod) oMod := opm_int op_modN fun v1 v2 ah => by
  cases v1 <;> cases v2 <;> first | exact .inr rfl | skip
  rename_i i j
  by_cases c : j ≠ 0
  · exact .inl ⟨_, _, rfl, rfl, c, by simp only [oMod, if_pos c]⟩
  · exact .inr (by simp only [oMod, if_neg c])
theorem o_pow : OpM X (gO X tb) W (binaryOp .Pow) oPow := opm_int op_pow fun v1 v2 ah => by
  cases v1 <;> cases v2 <;> first | exact .inr rfl | skip
  rename_i i j
  by_cases c : 0 ≤ j ∧ j ≤ 1000000 ∧ i.natAbs < 2 ^ 64
  · exact .inl ⟨_, _, rfl, rfl, c, by simp only [oPow, if_pos c]⟩
  · exact .inr (by simp only [oPow, if_neg c])
theorem o_shr : OpM X (gO X tb) W (binaryOp .RShift) oShr := opm_int op_shr fun v1 v2 ah => by
  cases v1 <;> cases v2 <;> first | exact .inr rfl | skip
  rename_i i j
  by_cases c : 0 ≤ j
  · exact .inl ⟨_, _, rfl, rfl, c, by simp only [oShr, if_pos c]⟩
  · exact .inr (by simp only [oShr, if_neg c])
theorem o_band : OpM X (gO X tb) W (binaryOp .BitAnd) oBand := opm_int (rI_of op_and) fun v1 v2 ah => by
  cases v1 <;> cases v2 <;> first | exact .inr rfl | exact .inl ⟨_, _, rfl, rfl, trivial, rfl⟩

theorem o_add_gen {f : Value → Value → Sem Value} (h1 : OpR X f (rI0 fun i j => .int (i + j))) (h2 : OpR X f (fun x y H Q => ∃ i j, x = .str i ∧ y = .str j ∧ i.length + j.length ≤ sizeLine ∧ Q (.str (i ++ j)) H)) (h3 : OpR X f (rCatA X.K)) (h4 : OpR X f rCat) :
    OpM X (gO X tb) W f oAdd := by
  refine ⟨_, h1.or (h2.or (h3.or h4)), fun σ v1 v2 ah ρ H u1 u2 Q S r1 r2 p => ?_⟩
  cases v1 <;> cases v2 <;> first | exact p.elim | skip
  · rw [Rp.int_] at r1 r2
    exact .inl ⟨_, _, r1, r2, Pst.ret S (Rp.int_.mpr rfl) p⟩
  · rw [Rp.str_] at r1 r2
    simp only [oAdd] at p
    split at p
    · rename_i c
      exact .inr (.inl ⟨_, _, r1, r2, c, Pst.ret S (Rp.str_.mpr rfl) p⟩)
    · exact p.elim
  · rw [Rp.tup_] at r1 r2
    obtain ⟨p1, vs, rfl, t1, q1⟩ := r1
    obtain ⟨p2, ws, rfl, t2, q2⟩ := r2
    simp only [oAdd] at p
    split at p
    · rename_i c
      rw [q1.length, q2.length] at c
      refine .inr (.inr (.inl ⟨_, _, vs, ws, rfl, rfl, t1, t2, c, fun e => ?_, fun n e => ?_, fun n1 n2 pp np => ?_⟩))
      · subst e
        have := q1.length
        have e2 : (_ : List A) = [] := List.eq_nil_of_length_eq_zero this
        subst e2
        exact Pst.ret S (Rp.tup_.mpr ⟨p2, ws, rfl, t2, q2⟩) (by simpa using p)
      · subst e
        have := q2.length
        have e2 : (_ : List A) = [] := List.eq_nil_of_length_eq_zero this
        subst e2
        exact Pst.ret S (Rp.tup_.mpr ⟨p1, vs, rfl, t1, q1⟩) (by simpa using p)
      · exact Pst.tup p S np (q1.append q2)
    · exact p.elim
  · rw [Rp.ref_] at r1 r2
    obtain ⟨a, rfl, ea⟩ := r1
    obtain ⟨b, rfl, eb⟩ := r2
    simp only [oAdd] at p
    split at p
    · rename_i xs ys e1 e2
      obtain ⟨vs, hv, rv⟩ := sim_lst S e1 ea
      obtain ⟨ws, hw, rw'⟩ := sim_lst S e2 eb
      split at p
      · rename_i c
        rw [rv.length, rw'.length] at c
        exact .inr (.inr (.inr ⟨a, b, vs, ws, rfl, rfl, hv, hw, c, fun pp np => Pst.lst p S np (rv.append rw')⟩))
      · exact p.elim
    · exact p.elim
theorem o_add : OpM X (gO X tb) W (binaryOp .Add) oAdd := o_add_gen op_add op_add_str op_catA op_cat

theorem RpL.rep {K : PySem.W.Frag} {ρ : List Addr} {H : Hp} {xs : List A} {vs : List V} (h : RpL K ρ H xs vs) : ∀ k : Nat, RpL K ρ H (List.replicate k xs).flatten (List.replicate k vs).flatten
  | 0 => by simp [RpL]
  | k + 1 => by
    simp only [List.replicate_succ, List.flatten_cons]
    exact h.append (h.rep k)
theorem o_mul : OpM X (gO X tb) W (binaryOp .Mult) oMul := by
  refine ⟨_, (op_mulW (X := X)).or ((op_repT (X := X)).or op_rep), fun σ v1 v2 ah ρ H u1 u2 Q S r1 r2 p => ?_⟩
  cases v1 <;> cases v2 <;> first | exact p.elim | skip
  · rw [Rp.int_] at r1 r2
    simp only [oMul] at p
    split at p
    · rename_i c
      exact .inl ⟨_, _, r1, r2, c, Pst.ret S (Rp.int_.mpr rfl) p⟩
    · exact p.elim
  · rw [Rp.tup_] at r1
    rw [Rp.int_] at r2
    obtain ⟨p1, vs, rfl, t1, q1⟩ := r1
    simp only [oMul] at p
    split at p
    · rename_i c
      obtain ⟨c1, c2, c3, c4⟩ := c
      refine .inr (.inl ⟨_, _, vs, rfl, r2, t1, ?_, c2, c3, by rw [← q1.length]; exact c4, fun pp np => Pst.tup p S np (q1.rep _)⟩)
      intro e
      subst e
      exact c1 (List.eq_nil_of_length_eq_zero q1.length)
    · exact p.elim
  · rw [Rp.ref_] at r1
    rw [Rp.int_] at r2
    obtain ⟨a, rfl, ea⟩ := r1
    simp only [oMul] at p
    split at p
    · rename_i xs e1
      obtain ⟨vs, hv, rv⟩ := sim_lst S e1 ea
      split at p
      · rename_i c
        obtain ⟨c1, c2, c3⟩ := c
        exact .inr (.inr ⟨a, _, vs, rfl, r2, hv, c1, c2, by rw [← rv.length]; exact c3, fun pp np => Pst.lst p S np (rv.rep _)⟩)
      · exact p.elim
    · exact p.elim

/-! ### comparisons -/
def oLt : A → A → Mo A
  | .int i, .int j => fun ah => .ok (.bl (decide (i < j))) ah
  | .str x, .str y => fun ah => .ok (.bl (decide (x.cps.toList < y.cps.toList))) ah
  | _, _ => fun _ => .no
def oLe : A → A → Mo A
  | .int i, .int j => fun ah => .ok (.bl (decide (i ≤ j))) ah
  | _, _ => fun _ => .no
def oGt : A → A → Mo A
  | .int i, .int j => fun ah => .ok (.bl (decide (j < i))) ah
  | _, _ => fun _ => .no
def oGe : A → A → Mo A
  | .int i, .int j => fun ah => .ok (.bl (decide (j ≤ i))) ah
  | _, _ => fun _ => .no
theorem opm_cmp {f : Value → Value → Sem Value} {mo : A → A → Mo A} {g : Int → Int → Bool} (h : OpR X f (rI0 fun i j => .bl (g i j)))
    (hm : ∀ v1 v2 ah, (∃ i j, v1 = .int i ∧ v2 = .int j ∧ mo v1 v2 ah = .ok (.bl (g i j)) ah) ∨ mo v1 v2 ah = .no) : OpM X (gO X tb) W f mo := by
  refine ⟨_, h, fun σ v1 v2 ah ρ H u1 u2 Q S r1 r2 p => ?_⟩
  rcases hm v1 v2 ah with ⟨i, j, rfl, rfl, e⟩ | e
  · rw [e] at p
    rw [Rp.int_] at r1 r2
    exact ⟨i, j, r1, r2, Pst.ret S (Rp.bl_.mpr rfl) p⟩
  · rw [e] at p; exact p.elim
theorem o_le : OpM X (gO X tb) W (compareOp .LtE) oLe := opm_cmp op_le fun v1 v2 ah => by
  cases v1 <;> cases v2 <;> first | exact .inr rfl | exact .inl ⟨_, _, rfl, rfl, rfl⟩
theorem o_gt : OpM X (gO X tb) W (compareOp .Gt) oGt := opm_cmp op_gt fun v1 v2 ah => by
  cases v1 <;> cases v2 <;> first | exact .inr rfl | exact .inl ⟨_, _, rfl, rfl, rfl⟩
theorem o_ge : OpM X (gO X tb) W (compareOp .GtE) oGe := opm_cmp op_ge fun v1 v2 ah => by
  cases v1 <;> cases v2 <;> first | exact .inr rfl | exact .inl ⟨_, _, rfl, rfl, rfl⟩
theorem o_lt : OpM X (gO X tb) W (compareOp .Lt) oLt := by
  refine ⟨_, op_lt.or op_lt_str, fun σ v1 v2 ah ρ H u1 u2 Q S r1 r2 p => ?_⟩
  cases v1 <;> cases v2 <;> first | exact p.elim | skip
  · rw [Rp.int_] at r1 r2
    exact .inl ⟨_, _, r1, r2, Pst.ret S (Rp.bl_.mpr rfl) p⟩
  · rw [Rp.str_] at r1 r2
    exact .inr ⟨_, _, r1, r2, Pst.ret S (Rp.bl_.mpr rfl) p⟩

/-- the data of a value: lists are read in the heap, n deep -/
def dOf : Nat → AH → A → Option PyData
  | 0, _, _ => none
  | n + 1, ah, v => match v with
    | .non => some .none
    | .bl b => some (.bool b)
    | .int i => some (.int i)
    | .str x => some (.str x)
    | .tup xs => (xs.mapM (dOf n ah)).map .tuple
    | .ref a => match ah[a]? with
      | some (.lst xs) => (xs.mapM (dOf n ah)).map .list
      | _ => none
    | .fro xs => (xs.mapM (dOf n ah)).map .list
    | .fn _ => none
theorem dOf_all {Γ : G} {ρ : List Addr} {ah : AH} {H : Hp} {n : Nat} (ih : ∀ v u d, Rp Γ.K ρ H v u → dOf n ah v = some d → Dp Γ.K H u d) :
    ∀ (xs : List A) (vs : List V) (ds : List PyData), RpL Γ.K ρ H xs vs → xs.mapM (dOf n ah) = some ds → DpAll Γ.K H vs ds
  | [], vs, ds, h, e => by
    simp only [RpL] at h; subst h
    simp at e; subst e
    exact .nil
  | x :: xs, vs, ds, h, e => by
    simp only [RpL] at h
    obtain ⟨v, vs', rfl, h1, h2⟩ := h
    rw [List.mapM_cons] at e
    cases e1 : dOf n ah x with
    | none => rw [e1] at e; cases e
    | some d =>
      cases e2 : xs.mapM (dOf n ah) with
      | none => rw [e1, e2] at e; cases e
      | some ds' =>
        rw [e1, e2] at e
        cases e
        exact .cons (ih x v d h1 e1) (dOf_all ih xs vs' ds' h2 e2)
theorem dOf_ok {Γ : G} {ρ : List Addr} {ah : AH} {H : Hp} (S : Sim Γ ρ ah H) : ∀ (n : Nat) (v : A) (u : V) (d : PyData), Rp Γ.K ρ H v u → dOf n ah v = some d → Dp Γ.K H u d
  | 0, _, _, _, _, e => by cases e
  | n + 1, v, u, d, r, e => by
    cases v with
    | non => rw [Rp.non_] at r; subst r; cases e; exact .non
    | bl b => rw [Rp.bl_] at r; subst r; cases e; exact .bl b
    | int b => rw [Rp.int_] at r; subst r; cases e; exact .int b
    | str b => rw [Rp.str_] at r; subst r; cases e; exact .str b
    | tup xs =>
      rw [Rp.tup_] at r
      obtain ⟨p, vs, rfl, t, q⟩ := r
      simp only [dOf, Option.map_eq_some_iff] at e
      obtain ⟨ds, e1, rfl⟩ := e
      exact .tup t (dOf_all (dOf_ok S n) xs vs ds q e1)
    | ref a =>
      rw [Rp.ref_] at r
      obtain ⟨p, rfl, ea⟩ := r
      simp only [dOf] at e
      split at e
      · rename_i xs h
        rw [Option.map_eq_some_iff] at e
        obtain ⟨ds, e1, rfl⟩ := e
        obtain ⟨vs, hv, rv⟩ := sim_lst S h ea
        exact .lst (.inl (.inl hv)) (dOf_all (dOf_ok S n) xs vs ds rv e1)
      · cases e
    | fro xs =>
      rw [Rp.fro_] at r
      obtain ⟨p, vs, rfl, t, q⟩ := r
      simp only [dOf, Option.map_eq_some_iff] at e
      obtain ⟨ds, e1, rfl⟩ := e
      exact .lst t.seq (dOf_all (dOf_ok S n) xs vs ds q e1)
    | fn x => cases e
def deq (ah : AH) (v u : A) : Option Bool := match dOf 60 ah v, dOf 60 ah u with
  | some d, some e => if SeqAt.shaped d && SeqAt.shaped e then some (PyData.eqv d e) else none
  | _, _ => none
theorem deq_ok {Γ : G} {ρ : List Addr} {ah : AH} {H : Hp} (S : Sim Γ ρ ah H) {v u : A} {x y : V} {b : Bool} (r1 : Rp Γ.K ρ H v x) (r2 : Rp Γ.K ρ H u y) (e : deq ah v u = some b) :
    ∃ d e, Dp Γ.K H x d ∧ Dp Γ.K H y e ∧ SeqAt.shaped d = true ∧ SeqAt.shaped e = true ∧ b = PyData.eqv d e := by
  unfold deq at e
  split at e
  · rename_i d d' h1 h2
    split at e
    · rename_i c
      rw [Bool.and_eq_true] at c
      cases e
      exact ⟨d, d', dOf_ok S _ _ _ _ r1 h1, dOf_ok S _ _ _ _ r2 h2, c.1, c.2, rfl⟩
    · cases e
  · cases e
def oEq : A → A → Mo A
  | .int i, .int j => fun ah => .ok (.bl (decide (i = j))) ah
  | .str i, .str j => fun ah => .ok (.bl (decide (i = j))) ah
  | .bl i, .bl j => fun ah => .ok (.bl (decide (i = j))) ah
  | v, u => fun ah => match deq ah v u with
    | some b => .ok (.bl b) ah
    | none => .no
def oNe : A → A → Mo A
  | .int i, .int j => fun ah => .ok (.bl (!decide (i = j))) ah
  | .str i, .str j => fun ah => .ok (.bl (!decide (i = j))) ah
  | .bl i, .bl j => fun ah => .ok (.bl (!decide (i = j))) ah
  | v, u => fun ah => match deq ah v u with
    | some b => .ok (.bl (!b)) ah
    | none => .no
theorem o_eq {k : Nat} (hr : Room k X.A) : OpM X (gO X tb) W (compareOp .Eq) oEq := by
  refine ⟨_, (op_eq (X := X)).or (op_eqD hr.units), fun σ v1 v2 ah ρ H u1 u2 Q S r1 r2 p => ?_⟩
  unfold oEq at p
  split at p
  · rw [Rp.int_] at r1 r2
    refine .inl ⟨by rw [r1, r2]; rfl, ?_⟩
    refine Pst.ret S (Rp.bl_.mpr ?_) p
    rw [r1, r2]; simp
  · rw [Rp.str_] at r1 r2
    refine .inl ⟨by rw [r1, r2]; rfl, ?_⟩
    refine Pst.ret S (Rp.bl_.mpr ?_) p
    rw [r1, r2]; simp
  · rw [Rp.bl_] at r1 r2
    refine .inl ⟨by rw [r1, r2]; rfl, ?_⟩
    refine Pst.ret S (Rp.bl_.mpr ?_) p
    rw [r1, r2]; simp
  · dsimp only at p
    split at p
    · rename_i b e
      obtain ⟨d, d', h1, h2, s1, s2, rfl⟩ := deq_ok S r1 r2 e
      exact .inr ⟨d, d', h1, h2, s1, s2, Pst.ret S (Rp.bl_.mpr rfl) p⟩
    · exact p.elim
theorem o_ne {k : Nat} (hr : Room k X.A) : OpM X (gO X tb) W (compareOp .NotEq) oNe := by
  refine ⟨_, (op_ne (X := X)).or (op_neD hr.units), fun σ v1 v2 ah ρ H u1 u2 Q S r1 r2 p => ?_⟩
  unfold oNe at p
  split at p
  · rw [Rp.int_] at r1 r2
    refine .inl ⟨by rw [r1, r2]; rfl, ?_⟩
    refine Pst.ret S (Rp.bl_.mpr ?_) p
    rw [r1, r2]; simp
  · rw [Rp.str_] at r1 r2
    refine .inl ⟨by rw [r1, r2]; rfl, ?_⟩
    refine Pst.ret S (Rp.bl_.mpr ?_) p
    rw [r1, r2]; simp
  · rw [Rp.bl_] at r1 r2
    refine .inl ⟨by rw [r1, r2]; rfl, ?_⟩
    refine Pst.ret S (Rp.bl_.mpr ?_) p
    rw [r1, r2]; simp
  · dsimp only at p
    split at p
    · rename_i b e
      obtain ⟨d, d', h1, h2, s1, s2, rfl⟩ := deq_ok S r1 r2 e
      exact .inr ⟨d, d', h1, h2, s1, s2, Pst.ret S (Rp.bl_.mpr rfl) p⟩
    · exact p.elim
/-- is None, is True -/
def A.isN : A → Bool
  | .non => true
  | _ => false
def oIs : A → A → Mo A
  | .bl i, .bl j => fun ah => .ok (.bl (decide (i = j))) ah
  | v, .non => fun ah => .ok (.bl v.isN) ah
  | _, _ => fun _ => .no
def oIsN : A → A → Mo A
  | .bl i, .bl j => fun ah => .ok (.bl (!decide (i = j))) ah
  | v, .non => fun ah => .ok (.bl (!v.isN)) ah
  | _, _ => fun _ => .no
theorem Rp.isnon {K : PySem.W.Frag} {ρ : List Addr} {H : Hp} {v : A} {u : V} (r : Rp K ρ H v u) : decide (u = .non) = v.isN := by
  cases v with
  | non => rw [Rp.non_] at r; subst r; rfl
  | bl b => rw [Rp.bl_] at r; subst r; rfl
  | int b => rw [Rp.int_] at r; subst r; rfl
  | str b => rw [Rp.str_] at r; subst r; rfl
  | tup b => rw [Rp.tup_] at r; obtain ⟨_, _, rfl, _⟩ := r; rfl
  | ref b => rw [Rp.ref_] at r; obtain ⟨_, rfl, _⟩ := r; rfl
  | fro b => rw [Rp.fro_] at r; obtain ⟨_, _, rfl, _⟩ := r; rfl
  | fn b => rw [Rp.fn_] at r; subst r; rfl
theorem o_is : OpM X (gO X tb) W (compareOp .Is) oIs := by
  refine ⟨_, (op_isN (X := X)).or op_isBl, fun σ v1 v2 ah ρ H u1 u2 Q S r1 r2 p => ?_⟩
  unfold oIs at p
  split at p
  · rw [Rp.bl_] at r1 r2
    exact .inr ⟨_, _, r1, r2, Pst.ret S (Rp.bl_.mpr rfl) p⟩
  · have e2 := Rp.non_.mp r2
    refine .inl ⟨e2, ?_⟩
    rw [r1.isnon]
    exact Pst.ret S (Rp.bl_.mpr rfl) p
  · exact p.elim
theorem o_isN : OpM X (gO X tb) W (compareOp .IsNot) oIsN := by
  refine ⟨_, (op_notN (X := X)).or op_notBl, fun σ v1 v2 ah ρ H u1 u2 Q S r1 r2 p => ?_⟩
  unfold oIsN at p
  split at p
  · rw [Rp.bl_] at r1 r2
    exact .inr ⟨_, _, r1, r2, Pst.ret S (Rp.bl_.mpr rfl) p⟩
  · have e2 := Rp.non_.mp r2
    refine .inl ⟨e2, ?_⟩
    rw [r1.isnon]
    exact Pst.ret S (Rp.bl_.mpr rfl) p
  · exact p.elim
end
end Z

namespace Z
open PySem PySem.Spec PyProof.Rows L2

/-! ### arguments -/
def mArgs : List ME → SA → Mo (List A)
  | [], _, ah => .ok [] ah
  | m :: ms, sa, ah => (m sa ah).bind fun v ah1 => (mArgs ms sa ah1).bind fun vs ah2 => .ok (v :: vs) ah2
def PstL (Γ : G) (W : WX) (σ : L2.St) (ρ : List Addr) (H : Hp) (Q : List V → Hp → Prop) : Rs (List A) → Prop
  | .ok vs ah' => ∀ ρ' H' us, Sim Γ ρ' ah' H' → ρ <+: ρ' → Kept H H' → RpL Γ.K ρ' H' vs us → Q us H'
  | .ex e ah' => ∀ ρ' H' cls d, Sim Γ ρ' ah' H' → ρ <+: ρ' → Kept H H' → Xp Γ ρ' H' e cls d → W cls d σ H'
  | .no => False
theorem PstL.later {Γ : G} {W : WX} {σ : L2.St} {ρ ρ1 : List Addr} {H H1 : Hp} {Q : List V → Hp → Prop} {r : Rs (List A)} (h : PstL Γ W σ ρ H Q r) (hr : ρ <+: ρ1) (k : Kept H H1) : PstL Γ W σ ρ1 H1 Q r := by
  cases r with
  | ok v ah' => exact fun ρ' H' u S a b r => h ρ' H' u S (hr.trans a) (k.trans b) r
  | ex e ah' => exact fun ρ' H' cls d S a b r => h ρ' H' cls d S (hr.trans a) (k.trans b) r
  | no => exact h
theorem PstL.imp {Γ : G} {W : WX} {σ : L2.St} {ρ : List Addr} {H : Hp} {Q Q' : List V → Hp → Prop} {r : Rs (List A)} (h : PstL Γ W σ ρ H Q r) (f : ∀ v H, Q v H → Q' v H) : PstL Γ W σ ρ H Q' r := by
  cases r with
  | ok v ah' => exact fun ρ' H' u S a b r => f _ _ (h ρ' H' u S a b r)
  | ex e ah' => exact h
  | no => exact h
theorem PstL.bind {Γ : G} {W : WX} {σ : L2.St} {ρ : List Addr} {H : Hp} {Q : VK} {r : Rs (List A)} {k : List A → AH → Rs A} (h : Pst Γ W σ ρ H Q (r.bind k)) :
    PstL Γ W σ ρ H (fun us H1 => ∃ ρ1 ah1 vs, Sim Γ ρ1 ah1 H1 ∧ ρ <+: ρ1 ∧ Kept H H1 ∧ RpL Γ.K ρ1 H1 vs us ∧ Pst Γ W σ ρ1 H1 Q (k vs ah1)) r := by
  cases r with
  | ok v ah' => exact fun ρ' H' u S a b r => ⟨ρ', ah', v, S, a, b, r, Pst.later h a b⟩
  | ex e ah' => exact h
  | no => exact h
theorem PstL.bind1 {Γ : G} {W : WX} {σ : L2.St} {ρ : List Addr} {H : Hp} {Q : List V → Hp → Prop} {r : Rs A} {k : A → AH → Rs (List A)} (h : PstL Γ W σ ρ H Q (r.bind k)) :
    Pst Γ W σ ρ H (fun u H1 => ∃ ρ1 ah1 v, Sim Γ ρ1 ah1 H1 ∧ ρ <+: ρ1 ∧ Kept H H1 ∧ Rp Γ.K ρ1 H1 v u ∧ PstL Γ W σ ρ1 H1 Q (k v ah1)) r := by
  cases r with
  | ok v ah' => exact fun ρ' H' u S a b r => ⟨ρ', ah', v, S, a, b, r, PstL.later h a b⟩
  | ex e ah' => exact h
  | no => exact h
def tA (Γ : G) (W : WX) (ms : List ME) : TA := fun σ H Q => ∃ ρ ah sa, Sim Γ ρ ah H ∧ SRp Γ.K ρ H sa σ ∧ PstL Γ W σ ρ H Q (mArgs ms sa ah)
def TriA (X : Cx) (Γ : G) (W : WX) (es : List Expr) (ms : List ME) : Prop := PA X es (tA Γ W ms)
theorem pa_weak {X : Cx} {e : List Expr} {t t' : TA} (h : PA X e t) (f : ∀ σ H Q, t' σ H Q → t σ H Q) : PA X e t' := ⟨fun pos pins s σ H Q I q => h.run pos pins s σ H Q I (f _ _ _ q)⟩
section
variable {X : Cx} {Γ : G} {W : WX} {e : Expr} {es : List Expr} {m : ME} {ms : List ME}
theorem ta_nil : TriA X Γ W [] [] := pa_weak pa_nil fun σ H Q ⟨ρ, ah, sa, S, rs, p⟩ => p ρ H [] S (List.prefix_refl _) (Kept.refl _) RpL.nil
theorem PstL.cons {σ : L2.St} {ρ : List Addr} {H : Hp} {Q : List V → Hp → Prop} {r : Rs (List A)} {v : A} {u : V} (r1 : Rp Γ.K ρ H v u)
    (h : PstL Γ W σ ρ H Q (r.bind fun vs ah2 => .ok (v :: vs) ah2)) : PstL Γ W σ ρ H (fun us H1 => Q (u :: us) H1) r := by
  cases r with
  | ok vs ah' => exact fun ρ' H' us S a b r => h ρ' H' (u :: us) S a b (RpL.cons (Rp.mono a b _ _ r1) r)
  | ex e ah' => exact h
  | no => exact h
theorem ta_cons (h1 : Tri X Γ W e m) (h2 : TriA X Γ W es ms) (hs : starEach (e :: es) X.env = (false, eval e X.env) :: starEach es X.env := by rfl) : TriA X Γ W (e :: es) (m :: ms) := by
  refine pa_weak (pa_cons h1 h2 hs) fun σ H Q ⟨ρ, ah, sa, S, rs, p⟩ => ?_
  refine ⟨ρ, ah, sa, S, rs, (PstL.bind1 p).imp fun u H1 ⟨ρ1, ah1, v, S1, p1, k1, r1, q1⟩ => ?_⟩
  exact ⟨ρ1, ah1, sa, S1, rs.mono p1 k1, PstL.cons r1 q1⟩
end

/-! ### displays -/
section
variable {X : Cx} {tb : Addr → Prop} {W : WX} {es : List Expr} {ms : List ME} {pos : Pos}
def mTup (ms : List ME) : ME := fun sa ah => (mArgs ms sa ah).bind fun vs ah1 => if vs.length ≤ sizeLine then .ok (.tup vs) ah1 else .no
def mLst (ms : List ME) : ME := fun sa ah => (mArgs ms sa ah).bind fun vs ah1 => if vs.length ≤ sizeLine then .ok (.ref ah1.length) (ah1 ++ [.lst vs]) else .no
theorem t_tup {x1} (h : TriA X (gO X tb) W es ms) : Tri X (gO X tb) W (.Tuple es x1 pos) (mTup ms) := by
  refine pe_weak (pe_tup h) fun σ H Q ⟨ρ, ah, sa, S, rs, p⟩ => ?_
  refine ⟨ρ, ah, sa, S, rs, (PstL.bind p).imp fun us H1 ⟨ρ1, ah1, vs, S1, p1, k1, r1, q1⟩ => ?_⟩
  split at q1
  · rename_i c
    exact ⟨by rw [← r1.length]; exact c, fun p np => Pst.tup q1 S1 np r1⟩
  · exact q1.elim
theorem t_lst (h : TriA X (gO X tb) W es ms) : Tri X (gO X tb) W (.List es pos) (mLst ms) := by
  refine pe_weak (pe_lst h) fun σ H Q ⟨ρ, ah, sa, S, rs, p⟩ => ?_
  refine ⟨ρ, ah, sa, S, rs, (PstL.bind p).imp fun us H1 ⟨ρ1, ah1, vs, S1, p1, k1, r1, q1⟩ => ?_⟩
  split at q1
  · rename_i c
    exact ⟨by rw [← r1.length]; exact c, fun p np => Pst.lst q1 S1 np r1⟩
  · exact q1.elim
end

/-! ### calls of built-ins -/
def CallM (X : Cx) (Γ : G) (W : WX) (f : Value) (mo : List A → Mo A) : Prop :=
  ∃ r, CallR X f r ∧ ∀ σ vs ah ρ H us Q, Sim Γ ρ ah H → RpL Γ.K ρ H vs us → Pst Γ W σ ρ H Q (mo vs ah) → r us H Q
def mBi (mo : List A → Mo A) (ms : List ME) : ME := fun sa ah => (mArgs ms sa ah).bind fun vs ah1 => mo vs ah1
theorem tA.bi {Γ : G} {W : WX} {mo : List A → Mo A} {ms : List ME} {r : List V → Hp → VK → Prop} {σ : L2.St} {H : Hp} {Q : VK} (hr : ∀ vs ah ρ H us, Sim Γ ρ ah H → RpL Γ.K ρ H vs us → Pst Γ W σ ρ H Q (mo vs ah) → r us H Q)
    (h : tE Γ W (mBi mo ms) σ H Q) : tCB r (tA Γ W ms) σ H Q := by
  obtain ⟨ρ, ah, sa, S, rs, p⟩ := h
  exact ⟨ρ, ah, sa, S, rs, (PstL.bind p).imp fun us H1 ⟨ρ1, ah1, vs, S1, p1, k1, r1, q1⟩ => hr vs ah1 ρ1 H1 us S1 r1 q1⟩
section
variable {X : Cx} {Γ : G} {tb : Addr → Prop} {W : WX} {e : Expr} {es : List Expr} {ms : List ME} {x : Str} {p pos : Pos} {mo : List A → Mo A} {id T : String}
theorem t_callB (hc : CallM X Γ W (.builtin id) mo) (ha : TriA X Γ W (e :: es) ms) (hm : X.mg x = none) (hv : bootBuiltins x = some (.builtin id) := by decide +kernel) (hg : Gl X x := by rfl) (hn : x ≠ "__name__" := by decide) (hdb : (x == ("__debug__" : Str)) = false := by decide)
    (he : starEach (e :: es) X.env = (false, eval e X.env) :: starEach es X.env := by rfl) (hpl : (backTo pos (starEach es X.env)).any (·.1) = false := by rfl) : Tri X Γ W (.Call (.Name x p) (e :: es) [] pos) (mBi mo ms) := by
  obtain ⟨r, h1, h2⟩ := hc
  exact pe_weak (pe_callB h1 hg hm hv ha hn hdb he hpl) fun σ H Q h => tA.bi (fun vs ah ρ H us => h2 σ vs ah ρ H us Q) h
theorem t_callTy (hc : CallM X Γ W (.type T) mo) (ha : TriA X Γ W (e :: es) ms) (hm : X.mg x = none) (hv : bootBuiltins x = some (.type T) := by decide +kernel) (hg : Gl X x := by rfl) (hn : x ≠ "__name__" := by decide) (hdb : (x == ("__debug__" : Str)) = false := by decide)
    (he : starEach (e :: es) X.env = (false, eval e X.env) :: starEach es X.env := by rfl) (hpl : (backTo pos (starEach es X.env)).any (·.1) = false := by rfl) : Tri X Γ W (.Call (.Name x p) (e :: es) [] pos) (mBi mo ms) := by
  obtain ⟨r, h1, h2⟩ := hc
  exact pe_weak (pe_callTy h1 hg hm hv ha hn hdb he hpl) fun σ H Q h => tA.bi (fun vs ah ρ H us => h2 σ vs ah ρ H us Q) h
theorem t_callG (hc : CallM X Γ W (.builtin id) mo) (ha : TriA X Γ W (e :: es) ms) (hm : X.mg x = some (.builtin id)) (hg : Gl X x := by rfl) (hdb : (x == ("__debug__" : Str)) = false := by decide)
    (he : starEach (e :: es) X.env = (false, eval e X.env) :: starEach es X.env := by rfl) (hpl : (backTo pos (starEach es X.env)).any (·.1) = false := by rfl) : Tri X Γ W (.Call (.Name x p) (e :: es) [] pos) (mBi mo ms) := by
  obtain ⟨r, h1, h2⟩ := hc
  exact pe_weak (pe_callBfun h1 hg hm ha hdb he hpl) fun σ H Q h => tA.bi (fun vs ah ρ H us => h2 σ vs ah ρ H us Q) h

theorem RpL.one {K : PySem.W.Frag} {ρ : List Addr} {H : Hp} {x : A} {us : List V} (h : RpL K ρ H [x] us) : ∃ u, us = [u] ∧ Rp K ρ H x u := by
  simp only [RpL] at h
  obtain ⟨v, vs', rfl, h1, rfl⟩ := h
  exact ⟨v, rfl, h1⟩
theorem RpL.two {K : PySem.W.Frag} {ρ : List Addr} {H : Hp} {x y : A} {us : List V} (h : RpL K ρ H [x, y] us) : ∃ u v, us = [u, v] ∧ Rp K ρ H x u ∧ Rp K ρ H y v := by
  simp only [RpL] at h
  obtain ⟨v, vs', rfl, h1, w, vs2, rfl, h2, rfl⟩ := h
  exact ⟨v, w, rfl, h1, h2⟩

def bAbs : List A → Mo A
  | [.int i] => fun ah => .ok (.int (if i < 0 then -i else i)) ah
  | _ => fun _ => .no
theorem b_abs : CallM X (gO X tb) W (.builtin "abs") bAbs := ⟨_, call_abs, fun σ vs ah ρ H us Q S r p => by
  unfold bAbs at p
  split at p
  · obtain ⟨u, rfl, r1⟩ := r.one
    rw [Rp.int_] at r1; subst r1
    exact ⟨_, rfl, Pst.ret S (Rp.int_.mpr rfl) p⟩
  · exact p.elim⟩
def bInt : List A → Mo A
  | [.int i] => fun ah => .ok (.int i) ah
  | [.bl k] => fun ah => .ok (.int (if k then 1 else 0)) ah
  | _ => fun _ => .no
theorem b_int : CallM X (gO X tb) W (.type "int") bInt := ⟨_, call_int1, fun σ vs ah ρ H us Q S r p => by
  unfold bInt at p
  split at p
  · obtain ⟨u, rfl, r1⟩ := r.one
    rw [Rp.int_] at r1; subst r1
    exact .inl ⟨_, rfl, Pst.ret S (Rp.int_.mpr rfl) p⟩
  · obtain ⟨u, rfl, r1⟩ := r.one
    rw [Rp.bl_] at r1; subst r1
    exact .inr ⟨_, rfl, Pst.ret S (Rp.int_.mpr rfl) p⟩
  · exact p.elim⟩
def bStr : List A → Mo A
  | [.int i] => fun ah => if i.natAbs.log2 < 1920 then .ok (.str (toString i)) ah else .no
  | _ => fun _ => .no
theorem b_str : CallM X (gO X tb) W (.type "str") bStr := ⟨_, call_str_int, fun σ vs ah ρ H us Q S r p => by
  unfold bStr at p
  split at p
  · obtain ⟨u, rfl, r1⟩ := r.one
    rw [Rp.int_] at r1; subst r1
    try dsimp only at p
    split at p
    · rename_i c
      exact ⟨_, rfl, c, Pst.ret S (Rp.str_.mpr rfl) p⟩
    · exact p.elim
  · exact p.elim⟩
def bMax2 : List A → Mo A
  | [.int i, .int j] => fun ah => .ok (.int (if j > i then j else i)) ah
  | _ => fun _ => .no
def bMin2 : List A → Mo A
  | [.int i, .int j] => fun ah => .ok (.int (if j < i then j else i)) ah
  | _ => fun _ => .no
theorem b_max2 (hc : X.calm = true) : CallM X (gO X tb) W (.builtin "max") bMax2 := ⟨_, call_max2 hc, fun σ vs ah ρ H us Q S r p => by
  unfold bMax2 at p
  split at p
  · obtain ⟨u, v, rfl, r1, r2⟩ := r.two
    rw [Rp.int_] at r1 r2; subst r1; subst r2
    exact ⟨_, _, rfl, Pst.ret S (Rp.int_.mpr rfl) p⟩
  · exact p.elim⟩
theorem b_min2 (hc : X.calm = true) : CallM X (gO X tb) W (.builtin "min") bMin2 := ⟨_, call_min2 hc, fun σ vs ah ρ H us Q S r p => by
  unfold bMin2 at p
  split at p
  · obtain ⟨u, v, rfl, r1, r2⟩ := r.two
    rw [Rp.int_] at r1 r2; subst r1; subst r2
    exact ⟨_, _, rfl, Pst.ret S (Rp.int_.mpr rfl) p⟩
  · exact p.elim⟩
def bGcd : List A → Mo A
  | [.int i, .int j] => fun ah => .ok (.int ((Nat.gcd i.natAbs j.natAbs : Nat) : Int)) ah
  | _ => fun _ => .no
theorem b_gcd : CallM X (gO X tb) W (.builtin "math.gcd") bGcd := ⟨_, cr_gcd, fun σ vs ah ρ H us Q S r p => by
  unfold bGcd at p
  split at p
  · obtain ⟨u, v, rfl, r1, r2⟩ := r.two
    rw [Rp.int_] at r1 r2; subst r1; subst r2
    exact ⟨_, _, rfl, Pst.ret S (Rp.int_.mpr rfl) p⟩
  · exact p.elim⟩
/-- the items of a list that may be read -/
def lsA (ah : AH) (n : Nat) : Option (List A) := match ah[n]? with
  | some (.lst xs) => some xs
  | _ => none
theorem lsA_of {ah : AH} {n : Nat} {xs : List A} (h : lsA ah n = some xs) : ah[n]? = some (.lst xs) := by
  unfold lsA at h
  split at h
  · cases h; assumption
  · cases h
/-- a list that may be read -/
theorem sim_seq {ρ : List Addr} {ah : AH} {H : Hp} {n : Nat} {a : Addr} {xs : List A} (S : Sim Γ ρ ah H) (e : ah[n]? = some (.lst xs)) (ea : ρ[n]? = some a) : ∃ vs, SqL Γ.K H a vs ∧ RpL Γ.K ρ H xs vs := by
  obtain ⟨vs, hv, r⟩ := S.ob n _ a e ea
  exact ⟨vs, .inl (.inl hv), r⟩
/-- len -/
def bLen : List A → Mo A
  | [.str x] => fun ah => if x.length ≤ sizeLine then .ok (.int x.length) ah else .no
  | [.tup xs] => fun ah => .ok (.int xs.length) ah
  | [.fro xs] => fun ah => .ok (.int xs.length) ah
  | [.ref n] => fun ah => match lsA ah n with
    | some xs => .ok (.int xs.length) ah
    | none => .no
  | _ => fun _ => .no
theorem b_len : CallM X (gO X tb) W (.builtin "len") bLen := ⟨_, call_len, fun σ vs ah ρ H us Q S r p => by
  unfold bLen at p
  split at p
  · obtain ⟨u, rfl, r1⟩ := r.one
    rw [Rp.str_] at r1; subst r1
    try dsimp only at p
    split at p
    · rename_i c
      exact ⟨_, _, rfl, ⟨c, rfl⟩, Pst.ret S (Rp.int_.mpr rfl) p⟩
    · exact p.elim
  · obtain ⟨u, rfl, r1⟩ := r.one
    rw [Rp.tup_] at r1
    obtain ⟨a, ws, rfl, t, q⟩ := r1
    exact ⟨_, _, rfl, .inr ⟨ws, t, rfl⟩, Pst.ret S (Rp.int_.mpr (by rw [q.length])) p⟩
  · obtain ⟨u, rfl, r1⟩ := r.one
    rw [Rp.fro_] at r1
    obtain ⟨a, ws, rfl, t, q⟩ := r1
    exact ⟨_, _, rfl, .inl ⟨ws, t.seq, rfl⟩, Pst.ret S (Rp.int_.mpr (by rw [q.length])) p⟩
  · obtain ⟨u, rfl, r1⟩ := r.one
    rw [Rp.ref_] at r1
    obtain ⟨a, rfl, ea⟩ := r1
    try dsimp only at p
    split at p
    · rename_i xs e
      obtain ⟨ws, t, q⟩ := sim_seq S (lsA_of e) ea
      exact ⟨_, _, rfl, .inl ⟨ws, t, rfl⟩, Pst.ret S (Rp.int_.mpr (by rw [q.length])) p⟩
    · exact p.elim
  · exact p.elim⟩
/-- list(x) -/
def bList : List A → Mo A
  | [.tup xs] => fun ah => .ok (.ref ah.length) (ah ++ [.lst xs])
  | [.fro xs] => fun ah => .ok (.ref ah.length) (ah ++ [.lst xs])
  | [.ref n] => fun ah => match lsA ah n with
    | some xs => .ok (.ref ah.length) (ah ++ [.lst xs])
    | none => .no
  | _ => fun _ => .no
theorem b_list : CallM X (gO X tb) W (.type "list") bList := ⟨_, call_list_of, fun σ vs ah ρ H us Q S r p => by
  unfold bList at p
  split at p
  · obtain ⟨u, rfl, r1⟩ := r.one
    rw [Rp.tup_] at r1
    obtain ⟨a, ws, rfl, t, q⟩ := r1
    exact ⟨_, _, rfl, .inr t, fun l nl => Pst.lst p S nl q⟩
  · obtain ⟨u, rfl, r1⟩ := r.one
    rw [Rp.fro_] at r1
    obtain ⟨a, ws, rfl, t, q⟩ := r1
    exact ⟨_, _, rfl, .inl t.seq, fun l nl => Pst.lst p S nl q⟩
  · obtain ⟨u, rfl, r1⟩ := r.one
    rw [Rp.ref_] at r1
    obtain ⟨a, rfl, ea⟩ := r1
    try dsimp only at p
    split at p
    · rename_i xs e
      obtain ⟨ws, t, q⟩ := sim_seq S (lsA_of e) ea
      exact ⟨_, _, rfl, .inl t, fun l nl => Pst.lst p S nl q⟩
    · exact p.elim
  · exact p.elim⟩
def bTuple : List A → Mo A
  | [.tup xs] => fun ah => .ok (.tup xs) ah
  | [.fro xs] => fun ah => .ok (.tup xs) ah
  | [.ref n] => fun ah => match lsA ah n with
    | some xs => .ok (.tup xs) ah
    | none => .no
  | _ => fun _ => .no
theorem b_tuple : CallM X (gO X tb) W (.type "tuple") bTuple := ⟨_, call_tuple_of, fun σ vs ah ρ H us Q S r p => by
  unfold bTuple at p
  split at p
  · obtain ⟨u, rfl, r1⟩ := r.one
    have r2 := r1
    rw [Rp.tup_] at r1
    obtain ⟨a, ws, rfl, t, q⟩ := r1
    exact ⟨_, _, rfl, .inr ⟨t, Pst.ret S r2 p⟩⟩
  · obtain ⟨u, rfl, r1⟩ := r.one
    rw [Rp.fro_] at r1
    obtain ⟨a, ws, rfl, t, q⟩ := r1
    exact ⟨_, _, rfl, .inl ⟨t.seq, fun l nl => Pst.tup p S nl q⟩⟩
  · obtain ⟨u, rfl, r1⟩ := r.one
    rw [Rp.ref_] at r1
    obtain ⟨a, rfl, ea⟩ := r1
    try dsimp only at p
    split at p
    · rename_i xs e
      obtain ⟨ws, t, q⟩ := sim_seq S (lsA_of e) ea
      exact ⟨_, _, rfl, .inl ⟨t, fun l nl => Pst.tup p S nl q⟩⟩
    · exact p.elim
  · exact p.elim⟩
/-- isinstance(x, T), T a built-in class -/
def tyOf (ah : AH) : A → Option String
  | .non => some "NoneType"
  | .bl _ => some "bool"
  | .int _ => some "int"
  | .str _ => some "str"
  | .tup _ => some "tuple"
  | .ref n => match ah[n]? with
    | some (.lst _) => some "list"
    | some (.dct _) => some "dict"
    | _ => none
  | .fro _ => some "list"
  | .fn _ => none
def mIsi (T : String) (m : ME) : ME := fun sa ah => (m sa ah).bind fun v ah1 => match (tyOf ah1 v).bind fun t => kitB t T with
  | some b => .ok (.bl b) ah1
  | none => .no
theorem tyX_of {ρ : List Addr} {ah : AH} {H : Hp} {v : A} {u : V} {t : String} (S : Sim Γ ρ ah H) (r : Rp Γ.K ρ H v u) (e : tyOf ah v = some t) : TyX Γ.K H u (.type t) := by
  cases v with
  | non => rw [Rp.non_] at r; subst r; cases e; exact .base .non
  | bl b => rw [Rp.bl_] at r; subst r; cases e; exact .base (.bl b)
  | int b => rw [Rp.int_] at r; subst r; cases e; exact .base (.int b)
  | str b => rw [Rp.str_] at r; subst r; cases e; exact .base (.str b)
  | tup b =>
    rw [Rp.tup_] at r
    obtain ⟨p, vs, rfl, h, _⟩ := r
    cases e
    rcases h with (h | ⟨o, h⟩) | ⟨o, its, n, hk, hc, hd⟩
    · exact .base (.tup h)
    · exact .fTuple h
    · exact .kTuple hk hc
  | ref n =>
    rw [Rp.ref_] at r
    obtain ⟨a, rfl, ea⟩ := r
    simp only [tyOf] at e
    split at e
    · rename_i xs h
      cases e
      obtain ⟨vs, hv, _⟩ := S.ob _ _ _ h ea
      exact .base (.lst hv)
    · rename_i xs h
      cases e
      obtain ⟨vs, hv, _⟩ := S.ob _ _ _ h ea
      exact .base (.dK hv)
    · cases e
  | fro b =>
    rw [Rp.fro_] at r
    obtain ⟨p, vs, rfl, h, _⟩ := r
    cases e
    rcases h with ⟨o, h⟩ | ⟨o, its, n, hk, hc, hd⟩
    · exact .base (.frz h)
    · exact .kList hk hc
  | fn x => cases e
theorem t_isi {y : Str} {p2 : Pos} {m : ME} (he : Tri X (gO X tb) W e m) (hm : X.mg "isinstance" = none) (hmT : X.mg y = none) (hvT : bootBuiltins y = some (.type T) := by decide +kernel) (hg : Gl X "isinstance" := by rfl) (hgT : Gl X y := by rfl) (hn : y ≠ "__name__" := by decide) (hdb : (y == ("__debug__" : Str)) = false := by decide)
    (h1 : starEach [e, .Name y p2] X.env = (false, eval e X.env) :: starEach [.Name y p2] X.env := by rfl) : Tri X (gO X tb) W (.Call (.Name "isinstance" p) [e, .Name y p2] [] pos) (mIsi T m) := by
  refine pe_weak (pe_callB call_isi hg hm (by decide +kernel) (pa_cons he (pa_cons (pe_bltn (v := .ty T) hgT hmT hvT rfl hn hdb) pa_nil) h1) (he := h1)) fun σ H Q ⟨ρ, ah, sa, S, rs, p⟩ => ?_
  refine ⟨ρ, ah, sa, S, rs, p.bind.imp fun u H1 ⟨ρ1, ah1, v, S1, p1, k1, r1, q1⟩ => ?_⟩
  try dsimp only at q1
  split at q1
  · rename_i b e
    rw [Option.bind_eq_some_iff] at e
    obtain ⟨t, e1, e2⟩ := e
    exact ⟨u, .ty T, .type t, .type T, b, rfl, .ty T, tyX_of S1 r1 e1, kit_ty e2, Pst.ret S1 (Rp.bl_.mpr rfl) q1⟩
  · exact q1.elim
end

/-! ### subscripts -/
section
variable {X : Cx} {tb : Addr → Prop} {W : WX} {a b : Expr} {ma mb : ME} {pos : Pos}
def oIx : A → A → Mo A
  | .tup xs, .int i => fun ah => match atI xs i with
    | some v => .ok v ah
    | none => .no
  | .fro xs, .int i => fun ah => match atI xs i with
    | some v => .ok v ah
    | none => .no
  | .str z, .int i => fun ah => if z.length ≤ sizeLine then match atI z.cps.toList i with
    | some c => .ok (.str ⟨#[c]⟩) ah
    | none => .no else .no
  | .ref n, .int i => fun ah => match lsA ah n with
    | some xs => match atI xs i with
      | some v => .ok v ah
      | none => .no
    | none => .no
  | _, _ => fun _ => .no
theorem RpL.atI {K : PySem.W.Frag} {ρ : List Addr} {H : Hp} {xs : List A} {vs : List V} {i : Int} {x : A} (r : RpL K ρ H xs vs) (e : L2.atI xs i = some x) : ∃ v, L2.atI vs i = some v ∧ Rp K ρ H x v := by
  unfold L2.atI at e ⊢
  rw [Option.bind_eq_some_iff] at e
  obtain ⟨j, e1, e2⟩ := e
  obtain ⟨v, e3, r3⟩ := r.get e2
  exact ⟨v, by rw [← r.length, e1]; exact e3, r3⟩
theorem t_ix (ha : Tri X (gO X tb) W a ma) (hb : Tri X (gO X tb) W b mb) (hs : PlainIx b := by exact fun _ _ => rfl) : Tri X (gO X tb) W (.Subscript a b pos) (m2 oIx ma mb) := by
  refine pe_weak (pe_ix ix_seq ha hb hs) fun σ H Q h => tE.two (fun v1 v2 ah ρ H u1 u2 S r1 r2 p => ?_) h
  unfold oIx at p
  split at p
  · rw [Rp.tup_] at r1
    rw [Rp.int_] at r2
    obtain ⟨q, vs, rfl, t, rl⟩ := r1
    try dsimp only at p
    split at p
    · rename_i v e
      obtain ⟨u, e1, r3⟩ := rl.atI e
      exact .inr (.inl ⟨q, vs, _, u, rfl, r2, t, e1, Pst.ret S r3 p⟩)
    · exact p.elim
  · rw [Rp.fro_] at r1
    rw [Rp.int_] at r2
    obtain ⟨q, vs, rfl, t, rl⟩ := r1
    try dsimp only at p
    split at p
    · rename_i v e
      obtain ⟨u, e1, r3⟩ := rl.atI e
      exact .inl ⟨q, vs, _, u, rfl, r2, t.seq, e1, Pst.ret S r3 p⟩
    · exact p.elim
  · rw [Rp.str_] at r1
    rw [Rp.int_] at r2
    try dsimp only at p
    split at p
    · rename_i c
      split at p
      · rename_i d e
        exact .inr (.inr ⟨_, _, d, r1, r2, c, e, Pst.ret S (Rp.str_.mpr rfl) p⟩)
      · exact p.elim
    · exact p.elim
  · rw [Rp.ref_] at r1
    rw [Rp.int_] at r2
    obtain ⟨q, rfl, ea⟩ := r1
    try dsimp only at p
    split at p
    · rename_i xs e0
      split at p
      · rename_i v e
        obtain ⟨vs, t, rl⟩ := sim_seq S (lsA_of e0) ea
        obtain ⟨u, e1, r3⟩ := rl.atI e
        exact .inl ⟨q, vs, _, u, rfl, r2, t, e1, Pst.ret S r3 p⟩
      · exact p.elim
    · exact p.elim
  · exact p.elim
end
end Z

namespace Z
open PySem PySem.Spec PyProof.Rows L2

/-! ### tests -/
def PstT (Γ : G) (W : WX) (σ : L2.St) (ρ : List Addr) (H : Hp) (Q : Bool → Hp → Prop) : Rs Bool → Prop
  | .ok v ah' => ∀ ρ' H', Sim Γ ρ' ah' H' → ρ <+: ρ' → Kept H H' → Q v H'
  | .ex e ah' => ∀ ρ' H' cls d, Sim Γ ρ' ah' H' → ρ <+: ρ' → Kept H H' → Xp Γ ρ' H' e cls d → W cls d σ H'
  | .no => False
abbrev MT := SA → Mo Bool
def tT (Γ : G) (W : WX) (m : MT) : TT := fun σ H Q => ∃ ρ ah sa, Sim Γ ρ ah H ∧ SRp Γ.K ρ H sa σ ∧ PstT Γ W σ ρ H Q (m sa ah)
def TriT (X : Cx) (Γ : G) (W : WX) (e : Expr) (m : MT) : Prop := PT X e (tT Γ W m)
theorem pt_weak {X : Cx} {e : Expr} {t t' : TT} (h : PT X e t) (f : ∀ σ H Q, t' σ H Q → t σ H Q) : PT X e t' := ⟨fun pins s σ H Q I q => h.run pins s σ H Q I (f _ _ _ q)⟩
section
variable {Γ : G} {W : WX} {σ : L2.St} {ρ ρ1 : List Addr} {H H1 : Hp}
theorem PstT.later {Q : Bool → Hp → Prop} {r : Rs Bool} (h : PstT Γ W σ ρ H Q r) (hr : ρ <+: ρ1) (k : Kept H H1) : PstT Γ W σ ρ1 H1 Q r := by
  cases r with
  | ok v ah' => exact fun ρ' H' S a b => h ρ' H' S (hr.trans a) (k.trans b)
  | ex e ah' => exact fun ρ' H' cls d S a b r => h ρ' H' cls d S (hr.trans a) (k.trans b) r
  | no => exact h
theorem PstT.imp {Q Q' : Bool → Hp → Prop} {r : Rs Bool} (h : PstT Γ W σ ρ H Q r) (f : ∀ v H, Q v H → Q' v H) : PstT Γ W σ ρ H Q' r := by
  cases r with
  | ok v ah' => exact fun ρ' H' S a b => f _ _ (h ρ' H' S a b)
  | ex e ah' => exact h
  | no => exact h
theorem PstT.ret {ah : AH} {Q : Bool → Hp → Prop} {b : Bool} (S : Sim Γ ρ ah H) (h : PstT Γ W σ ρ H Q (.ok b ah)) : Q b H := h ρ H S (List.prefix_refl _) (Kept.refl _)
/-- from a value to a test -/
theorem PstT.ofE {Q : Bool → Hp → Prop} {r : Rs A} {k : A → AH → Rs Bool} (h : PstT Γ W σ ρ H Q (r.bind k)) :
    Pst Γ W σ ρ H (fun u H1 => ∃ ρ1 ah1 v, Sim Γ ρ1 ah1 H1 ∧ ρ <+: ρ1 ∧ Kept H H1 ∧ Rp Γ.K ρ1 H1 v u ∧ PstT Γ W σ ρ1 H1 Q (k v ah1)) r := by
  cases r with
  | ok v ah' => exact fun ρ' H' u S a b r => ⟨ρ', ah', v, S, a, b, r, PstT.later h a b⟩
  | ex e ah' => exact h
  | no => exact h
theorem PstT.bindT {Q : Bool → Hp → Prop} {r : Rs Bool} {k : Bool → AH → Rs Bool} (h : PstT Γ W σ ρ H Q (r.bind k)) :
    PstT Γ W σ ρ H (fun b H1 => ∃ ρ1 ah1, Sim Γ ρ1 ah1 H1 ∧ ρ <+: ρ1 ∧ Kept H H1 ∧ PstT Γ W σ ρ1 H1 Q (k b ah1)) r := by
  cases r with
  | ok v ah' => exact fun ρ' H' S a b => ⟨ρ', ah', S, a, b, PstT.later h a b⟩
  | ex e ah' => exact h
  | no => exact h
theorem PstT.bindE {Q : VK} {r : Rs Bool} {k : Bool → AH → Rs A} (h : Pst Γ W σ ρ H Q (r.bind k)) :
    PstT Γ W σ ρ H (fun b H1 => ∃ ρ1 ah1, Sim Γ ρ1 ah1 H1 ∧ ρ <+: ρ1 ∧ Kept H H1 ∧ Pst Γ W σ ρ1 H1 Q (k b ah1)) r := by
  cases r with
  | ok v ah' => exact fun ρ' H' S a b => ⟨ρ', ah', S, a, b, Pst.later h a b⟩
  | ex e ah' => exact h
  | no => exact h
end
/-- truth -/
def tru : A → Mo Bool
  | .non => fun ah => .ok false ah
  | .bl b => fun ah => .ok b ah
  | .int i => fun ah => .ok (i != 0) ah
  | .str y => fun ah => if y.length ≤ sizeLine then .ok ((y.length : Int) != 0) ah else .no
  | .tup xs => fun ah => .ok (!xs.isEmpty) ah
  | .ref n => fun ah => match ah[n]? with
    | some (.lst xs) => .ok (!xs.isEmpty) ah
    | some (.dct kvs) => .ok (!kvs.isEmpty) ah
    | _ => .no
  | .fro xs => fun ah => .ok (!xs.isEmpty) ah
  | .fn _ => fun _ => .no
theorem RpL.isEmpty {K : PySem.W.Frag} {ρ : List Addr} {H : Hp} {xs : List A} {vs : List V} (r : RpL K ρ H xs vs) : xs.isEmpty = vs.isEmpty := by
  have := r.length
  cases xs <;> cases vs <;> simp at this <;> rfl
theorem tru_rel {Γ : G} {W : WX} {σ : L2.St} {ρ : List Addr} {ah : AH} {H : Hp} {Q : Bool → Hp → Prop} {v : A} {u : V} (S : Sim Γ ρ ah H) (r : Rp Γ.K ρ H v u) (p : PstT Γ W σ ρ H Q (tru v ah)) : ∃ k, TruV Γ.K u H k ∧ Q k H := by
  cases v with
  | non => rw [Rp.non_] at r; subst r; exact ⟨false, rfl, PstT.ret S p⟩
  | bl b => rw [Rp.bl_] at r; subst r; exact ⟨b, rfl, PstT.ret S p⟩
  | int i => rw [Rp.int_] at r; subst r; exact ⟨_, rfl, PstT.ret S p⟩
  | str y =>
    rw [Rp.str_] at r; subst r
    simp only [tru] at p
    split at p
    · rename_i c; exact ⟨_, ⟨c, rfl⟩, PstT.ret S p⟩
    · exact p.elim
  | tup xs =>
    rw [Rp.tup_] at r
    obtain ⟨a, vs, rfl, t, q⟩ := r
    exact ⟨_, .inr (.inl ⟨vs, t, by rw [q.isEmpty]⟩), PstT.ret S p⟩
  | ref n =>
    rw [Rp.ref_] at r
    obtain ⟨a, rfl, ea⟩ := r
    simp only [tru] at p
    split at p
    · rename_i xs e
      obtain ⟨vs, hv, q⟩ := S.ob _ _ _ e ea
      exact ⟨_, .inl ⟨vs, .inl (.inl hv), by rw [q.isEmpty]⟩, PstT.ret S p⟩
    · rename_i xs e
      obtain ⟨gs, hv, q1, q2⟩ := S.ob _ _ _ e ea
      refine ⟨_, .inr (.inr ⟨gs, hv, ?_⟩), PstT.ret S p⟩
      have h1 := congrArg List.length q1
      simp at h1
      cases xs <;> cases gs <;> simp at h1 <;> rfl
    · exact p.elim
  | fro xs =>
    rw [Rp.fro_] at r
    obtain ⟨a, vs, rfl, t, q⟩ := r
    exact ⟨_, .inl ⟨vs, t.seq, by rw [q.isEmpty]⟩, PstT.ret S p⟩
  | fn x => exact p.elim
section
variable {X : Cx} {tb : Addr → Prop} {W : WX} {a b c : Expr} {ma mb mc : ME} {ta tb' : MT} {rest : List Expr} {pos : Pos}
def mTru (m : ME) : MT := fun sa ah => (m sa ah).bind tru
/-- any expression as a test -/
theorem tt_e (ha : Tri X (gO X tb) W a ma) (he : ∀ whole, isTrue a X.env whole = (do let v ← whole; standAt a.pos; holding [v] (truthy v)) := by intro _; rfl) : TriT X (gO X tb) W a (mTru ma) :=
  pt_weak (pt_truth ha he) fun σ H Q ⟨ρ, ah, sa, S, rs, p⟩ =>
    ⟨ρ, ah, sa, S, rs, p.ofE.imp fun u H1 ⟨ρ1, ah1, v, S1, p1, k1, r1, q1⟩ => tru_rel S1 r1 q1⟩
/-- a comparison as a test -/
def mTst (mo : A → A → Mo A) (ma mb : ME) : MT := fun sa ah => (m2 mo ma mb sa ah).bind tru
theorem tE.twoT {Γ : G} {ma mb : ME} {mo : A → A → Mo A} {r : V → V → Hp → VK → Prop} {σ : L2.St} {H : Hp} {Q : Bool → Hp → Prop}
    (hr : ∀ v1 v2 ah ρ H u1 u2 Q, Sim Γ ρ ah H → Rp Γ.K ρ H v1 u1 → Rp Γ.K ρ H v2 u2 → Pst Γ W σ ρ H Q (mo v1 v2 ah) → r u1 u2 H Q) (hb : ∀ v1 v2 ah, (∃ b ah', mo v1 v2 ah = .ok (.bl b) ah') ∨ mo v1 v2 ah = .no)
    (h : tT Γ W (mTst mo ma mb) σ H Q) : tOp r (tE Γ W ma) (tE Γ W mb) σ H (fun x H' => ∃ k, x = .bl k ∧ Q k H') := by
  obtain ⟨ρ, ah, sa, S, rs, p⟩ := h
  have p' : PstT Γ W σ ρ H Q ((ma sa ah).bind fun v ah1 => ((mb sa ah1).bind fun u ah2 => mo v u ah2).bind tru) := by
    simp only [mTst, m2] at p
    cases e : ma sa ah <;> rw [e] at p <;> exact p
  refine ⟨ρ, ah, sa, S, rs, p'.ofE.imp fun u H1 ⟨ρ1, ah1, v, S1, p1, k1, r1, q1⟩ => ?_⟩
  have q1' : PstT Γ W σ ρ1 H1 Q ((mb sa ah1).bind fun u ah2 => (mo v u ah2).bind tru) := by
    cases e : mb sa ah1 <;> rw [e] at q1 <;> exact q1
  refine ⟨ρ1, ah1, sa, S1, rs.mono p1 k1, q1'.ofE.imp fun u2 H2 ⟨ρ2, ah2, v2, S2, p2, k2, r2, q2⟩ => ?_⟩
  refine hr v v2 ah2 ρ2 H2 u u2 _ S2 (Rp.mono p2 k2 _ _ r1) r2 ?_
  rcases hb v v2 ah2 with ⟨b, ah', e⟩ | e
  · rw [e] at q2 ⊢
    intro ρ' H' x S' pr kp rx
    rw [Rp.bl_] at rx
    exact ⟨b, rx, PstT.ret S' (PstT.later q2 pr kp)⟩
  · rw [e] at q2; exact q2.elim
def BoolOut (mo : A → A → Mo A) : Prop := ∀ v1 v2 ah, (∃ b ah', mo v1 v2 ah = .ok (.bl b) ah') ∨ mo v1 v2 ah = .no
theorem tt_cmp {op : CmpOp} {mo : A → A → Mo A} (ho : OpM X (gO X tb) W (compareOp op) mo) (hb : BoolOut mo) (h1 : Tri X (gO X tb) W a ma) (h2 : Tri X (gO X tb) W b mb) (hm : behindInMarks op b = false := by first | exact nomark _ | rfl) : TriT X (gO X tb) W (.Compare a [op] [b] pos) (mTst mo ma mb) := by
  obtain ⟨r, g1, g2⟩ := ho
  exact pt_weak (pt_cmpR g1 h1 h2 hm) fun σ H Q h => tE.twoT (fun v1 v2 ah ρ H u1 u2 Q => g2 σ v1 v2 ah ρ H u1 u2 Q) hb h
theorem bo_lt : BoolOut oLt := fun v1 v2 ah => by
  cases v1 <;> cases v2 <;> first | exact .inr rfl | exact .inl ⟨_, _, rfl⟩
theorem bo_le : BoolOut oLe := fun v1 v2 ah => by
  cases v1 <;> cases v2 <;> first | exact .inr rfl | exact .inl ⟨_, _, rfl⟩
theorem bo_gt : BoolOut oGt := fun v1 v2 ah => by
  cases v1 <;> cases v2 <;> first | exact .inr rfl | exact .inl ⟨_, _, rfl⟩
theorem bo_ge : BoolOut oGe := fun v1 v2 ah => by
  cases v1 <;> cases v2 <;> first | exact .inr rfl | exact .inl ⟨_, _, rfl⟩
theorem bo_eq : BoolOut oEq := fun v1 v2 ah => by
  unfold oEq
  split
  · exact .inl ⟨_, _, rfl⟩
  · exact .inl ⟨_, _, rfl⟩
  · exact .inl ⟨_, _, rfl⟩
  · try dsimp only
    split
    · exact .inl ⟨_, _, rfl⟩
    · exact .inr rfl
theorem bo_ne : BoolOut oNe := fun v1 v2 ah => by
  unfold oNe
  split
  · exact .inl ⟨_, _, rfl⟩
  · exact .inl ⟨_, _, rfl⟩
  · exact .inl ⟨_, _, rfl⟩
  · try dsimp only
    split
    · exact .inl ⟨_, _, rfl⟩
    · exact .inr rfl
theorem bo_is : BoolOut oIs := fun v1 v2 ah => by
  unfold oIs
  split
  · exact .inl ⟨_, _, rfl⟩
  · exact .inl ⟨_, _, rfl⟩
  · exact .inr rfl
theorem bo_isN : BoolOut oIsN := fun v1 v2 ah => by
  unfold oIsN
  split
  · exact .inl ⟨_, _, rfl⟩
  · exact .inl ⟨_, _, rfl⟩
  · exact .inr rfl
/-! and, or, not as tests -/
def PTW (X : Cx) (Γ : G) (W : WX) (e : Expr) (m : MT) : Prop := PW X e (tT Γ W m)
theorem pw_weak {e : Expr} {t t' : TT} (h : PW X e t) (f : ∀ σ H Q, t' σ H Q → t σ H Q) : PW X e t' := ⟨fun wh pins s σ H Q I q => h.run wh pins s σ H Q I (f _ _ _ q)⟩
def mAndT (ta tb : MT) : MT := fun sa ah => (ta sa ah).bind fun c ah1 => if c = true then tb sa ah1 else .ok false ah1
def mOrT (ta tb : MT) : MT := fun sa ah => (ta sa ah).bind fun c ah1 => if c = true then .ok true ah1 else tb sa ah1
def mNotT (ta : MT) : MT := fun sa ah => (ta sa ah).bind fun c ah1 => .ok (!c) ah1
theorem tw_and1 (ha : TriT X (gO X tb) W a ta) : PTW X (gO X tb) W (.BoolOp .And [a] pos) ta := pw_and1 ha
theorem tw_or1 (ha : TriT X (gO X tb) W a ta) : PTW X (gO X tb) W (.BoolOp .Or [a] pos) ta := pw_or1 ha
theorem tw_and (ha : TriT X (gO X tb) W a ta) (hb : PTW X (gO X tb) W (.BoolOp .And (b :: rest) pos) tb') : PTW X (gO X tb) W (.BoolOp .And (a :: b :: rest) pos) (mAndT ta tb') := by
  refine pw_weak (pw_and ha hb) fun σ H Q ⟨ρ, ah, sa, S, rs, p⟩ => ?_
  refine ⟨ρ, ah, sa, S, rs, p.bindT.imp fun c H1 ⟨ρ1, ah1, S1, p1, k1, q1⟩ => ?_⟩
  cases c with
  | true => exact iteT ⟨ρ1, ah1, sa, S1, rs.mono p1 k1, q1⟩
  | false => exact iteF (PstT.ret S1 q1)
theorem tw_or (ha : TriT X (gO X tb) W a ta) (hb : PTW X (gO X tb) W (.BoolOp .Or (b :: rest) pos) tb') : PTW X (gO X tb) W (.BoolOp .Or (a :: b :: rest) pos) (mOrT ta tb') := by
  refine pw_weak (pw_or ha hb) fun σ H Q ⟨ρ, ah, sa, S, rs, p⟩ => ?_
  refine ⟨ρ, ah, sa, S, rs, p.bindT.imp fun c H1 ⟨ρ1, ah1, S1, p1, k1, q1⟩ => ?_⟩
  cases c with
  | true => exact iteT (PstT.ret S1 q1)
  | false => exact iteF ⟨ρ1, ah1, sa, S1, rs.mono p1 k1, q1⟩
theorem tt_w {e : Expr} {t : MT} (h : PTW X (gO X tb) W e t) : TriT X (gO X tb) W e t := h.pt
theorem tt_not (ha : TriT X (gO X tb) W a ta) : TriT X (gO X tb) W (.UnaryOp .Not a pos) (mNotT ta) := by
  refine pt_weak (pt_not ha) fun σ H Q ⟨ρ, ah, sa, S, rs, p⟩ => ?_
  exact ⟨ρ, ah, sa, S, rs, p.bindT.imp fun c H1 ⟨ρ1, ah1, S1, p1, k1, q1⟩ => PstT.ret S1 q1⟩
/-- chains -/
def mChain (mo mo' : A → A → Mo A) (ma mb mc : ME) : ME := fun sa ah => (ma sa ah).bind fun v ah1 => (mb sa ah1).bind fun u ah2 => (mo v u ah2).bind fun z ah3 => match z with
  | .bl true => (mc sa ah3).bind fun w ah4 => mo' u w ah4
  | .bl false => .ok (.bl false) ah3
  | _ => .no
theorem t_chain {op op' : CmpOp} {mo mo' : A → A → Mo A} (ho : OpM X (gO X tb) W (compareOp op) mo) (ho' : OpM X (gO X tb) W (compareOp op') mo') (ha : Tri X (gO X tb) W a ma) (hb : Tri X (gO X tb) W b mb) (hc : Tri X (gO X tb) W c mc)
    (hm : lastMarks [op, op'] [b, c] = false := by with_unfolding_all rfl) : Tri X (gO X tb) W (.Compare a [op, op'] [b, c] pos) (mChain mo mo' ma mb mc) := by
  obtain ⟨r, g1, g2⟩ := ho
  obtain ⟨r', g1', g2'⟩ := ho'
  refine pe_weak (pe_chain g1 g1' ha hb hc hm) fun σ H Q ⟨ρ, ah, sa, S, rs, p⟩ => ?_
  refine ⟨ρ, ah, sa, S, rs, p.bind.imp fun u H1 ⟨ρ1, ah1, v, S1, p1, k1, r1, q1⟩ => ?_⟩
  refine ⟨ρ1, ah1, sa, S1, rs.mono p1 k1, q1.bind.imp fun u2 H2 ⟨ρ2, ah2, v2, S2, p2, k2, r2, q2⟩ => ?_⟩
  refine g2 σ v v2 ah2 ρ2 H2 u u2 _ S2 (Rp.mono p2 k2 _ _ r1) r2 (q2.bind.imp fun z H3 ⟨ρ3, ah3, zz, S3, p3, k3, r3, q3⟩ => ?_)
  split at q3
  · rw [Rp.bl_] at r3; subst r3
    refine ⟨true, rfl, iteT ⟨ρ3, ah3, sa, S3, (rs.mono (p1.trans (p2.trans p3)) (k1.trans (k2.trans k3))), q3.bind.imp fun u4 H4 ⟨ρ4, ah4, v4, S4, p4, k4, r4, q4⟩ => ?_⟩⟩
    exact g2' σ v2 v4 ah4 ρ4 H4 u2 u4 _ S4 (Rp.mono p4 k4 _ _ (Rp.mono p3 k3 _ _ r2)) r4 q4
  · rw [Rp.bl_] at r3; subst r3
    exact ⟨false, rfl, iteF (Pst.ret S3 (Rp.bl_.mpr rfl) q3)⟩
  · exact q3.elim
/-- an expression that is a bool as a test (a chain) -/
def mB (m : ME) : MT := fun sa ah => (m sa ah).bind fun v ah1 => match v with
  | .bl b => .ok b ah1
  | _ => .no
theorem tt_chain {op op' : CmpOp} {mo mo' : A → A → Mo A} (ho : OpM X (gO X tb) W (compareOp op) mo) (ho' : OpM X (gO X tb) W (compareOp op') mo') (ha : Tri X (gO X tb) W a ma) (hb : Tri X (gO X tb) W b mb) (hc : Tri X (gO X tb) W c mc)
    (hm : lastMarks [op, op'] [b, c] = false := by with_unfolding_all rfl) : TriT X (gO X tb) W (.Compare a [op, op'] [b, c] pos) (mB (mChain mo mo' ma mb mc)) := by
  obtain ⟨r, g1, g2⟩ := ho
  obtain ⟨r', g1', g2'⟩ := ho'
  refine pt_weak (pt_chain g1 g1' ha hb hc hm) fun σ H Q ⟨ρ, ah, sa, S, rs, p⟩ => ?_
  have p' : PstT (gO X tb) W σ ρ H Q ((ma sa ah).bind fun v ah1 => ((mb sa ah1).bind fun u ah2 => (mo v u ah2).bind fun z ah3 => match z with
      | .bl true => (mc sa ah3).bind fun w ah4 => mo' u w ah4
      | .bl false => .ok (.bl false) ah3
      | _ => .no).bind fun v ah1 => match v with
      | .bl b => .ok b ah1
      | _ => .no) := by
    simp only [mB, mChain] at p
    cases e : ma sa ah <;> rw [e] at p <;> exact p
  refine ⟨ρ, ah, sa, S, rs, p'.ofE.imp fun u H1 ⟨ρ1, ah1, v, S1, p1, k1, r1, q1⟩ => ?_⟩
  have q1' : PstT (gO X tb) W σ ρ1 H1 Q ((mb sa ah1).bind fun u ah2 => ((mo v u ah2).bind fun z ah3 => match z with
      | .bl true => (mc sa ah3).bind fun w ah4 => mo' u w ah4
      | .bl false => .ok (.bl false) ah3
      | _ => .no).bind fun v ah1 => match v with
      | .bl b => .ok b ah1
      | _ => .no) := by
    cases e : mb sa ah1 <;> rw [e] at q1 <;> exact q1
  refine ⟨ρ1, ah1, sa, S1, rs.mono p1 k1, q1'.ofE.imp fun u2 H2 ⟨ρ2, ah2, v2, S2, p2, k2, r2, q2⟩ => ?_⟩
  have q2' : PstT (gO X tb) W σ ρ2 H2 Q ((mo v v2 ah2).bind fun z ah3 => (match z with
      | .bl true => (mc sa ah3).bind fun w ah4 => mo' v2 w ah4
      | .bl false => .ok (.bl false) ah3
      | _ => .no : Rs A).bind fun v ah1 => match v with
      | .bl b => .ok b ah1
      | _ => .no) := by
    cases e : mo v v2 ah2 <;> rw [e] at q2 <;> exact q2
  refine g2 σ v v2 ah2 ρ2 H2 u u2 _ S2 (Rp.mono p2 k2 _ _ r1) r2 (q2'.ofE.imp fun z H3 ⟨ρ3, ah3, zz, S3, p3, k3, r3, q3⟩ => ?_)
  have lst : ∀ {r : Rs A} {ρ : List Addr} {H : Hp}, PstT (gO X tb) W σ ρ H Q (r.bind fun v ah1 => match v with
      | .bl b => .ok b ah1
      | _ => .no) → Pst (gO X tb) W σ ρ H (fun z2 H5 => ∃ k2, z2 = .bl k2 ∧ Q k2 H5) r := fun {r ρ H} h => by
    cases r with
    | ok v ah' =>
      cases v with
      | bl b => exact fun ρ' H' u S a b' r => ⟨b, Rp.bl_.mp r, h ρ' H' S a b'⟩
      | _ => exact h.elim
    | ex e ah' => exact h
    | no => exact h
  cases zz with
  | bl bb =>
    rw [Rp.bl_] at r3; subst r3
    cases bb with
    | true =>
      refine ⟨true, rfl, iteT ⟨ρ3, ah3, sa, S3, (rs.mono (p1.trans (p2.trans p3)) (k1.trans (k2.trans k3))), ?_⟩⟩
      have q3' : PstT (gO X tb) W σ ρ3 H3 Q ((mc sa ah3).bind fun w ah4 => (mo' v2 w ah4).bind fun v ah1 => match v with
        | .bl b => .ok b ah1
        | _ => .no) := by
        cases e : mc sa ah3 <;> (try dsimp only at q3) <;> rw [e] at q3 <;> exact q3
      exact q3'.ofE.imp fun u4 H4 ⟨ρ4, ah4, v4, S4, p4, k4, r4, q4⟩ => g2' σ v2 v4 ah4 ρ4 H4 u2 u4 _ S4 (Rp.mono p4 k4 _ _ (Rp.mono p3 k3 _ _ r2)) r4 (lst q4)
    | false => exact ⟨false, rfl, iteF ⟨false, rfl, PstT.ret S3 q3⟩⟩
  | _ => exact q3.elim
/-! and, or, not, if as values -/
def mAnd (ma mb : ME) : ME := fun sa ah => (ma sa ah).bind fun v ah1 => (tru v ah1).bind fun k ah2 => if k = true then mb sa ah2 else .ok v ah2
def mOr (ma mb : ME) : ME := fun sa ah => (ma sa ah).bind fun v ah1 => (tru v ah1).bind fun k ah2 => if k = true then .ok v ah2 else mb sa ah2
def mNot (ma : ME) : ME := fun sa ah => (ma sa ah).bind fun v ah1 => (tru v ah1).bind fun k ah2 => .ok (.bl (!k)) ah2
theorem t_one {op} (h : Tri X (gO X tb) W a ma) : Tri X (gO X tb) W (.BoolOp op [a] pos) ma := pe_one h
theorem tru_relE {Γ : G} {σ : L2.St} {ρ : List Addr} {ah : AH} {H : Hp} {Q : VK} {v : A} {u : V} {k : Bool → AH → Rs A} (S : Sim Γ ρ ah H) (r : Rp Γ.K ρ H v u) (p : Pst Γ W σ ρ H Q ((tru v ah).bind k)) : ∃ b, TruV Γ.K u H b ∧ Pst Γ W σ ρ H Q (k b ah) := by
  have e : (∃ b, tru v ah = .ok b ah) ∨ tru v ah = .no := by
    cases v <;> simp only [tru] <;> first | exact .inl ⟨_, rfl⟩ | skip
    · split
      · exact .inl ⟨_, rfl⟩
      · exact .inr rfl
    · split
      · exact .inl ⟨_, rfl⟩
      · exact .inl ⟨_, rfl⟩
      · exact .inr rfl
    · first | exact .inr rfl | exact .inr trivial | simp
  rcases e with ⟨b, e⟩ | e
  · rw [e] at p
    obtain ⟨b', h1, h2⟩ := tru_rel (Q := fun k _ => k = b) (W := W) (σ := σ) S r (by rw [e]; exact fun _ _ _ _ _ => rfl)
    subst h2
    exact ⟨b', h1, p⟩
  · rw [e] at p; exact p.elim
theorem t_and (ha : Tri X (gO X tb) W a ma) (hb : Tri X (gO X tb) W (.BoolOp .And (b :: rest) pos) mb) : Tri X (gO X tb) W (.BoolOp .And (a :: b :: rest) pos) (mAnd ma mb) := by
  refine pe_weak (pe_andT ha hb) fun σ H Q ⟨ρ, ah, sa, S, rs, p⟩ => ?_
  refine ⟨ρ, ah, sa, S, rs, p.bind.imp fun u H1 ⟨ρ1, ah1, v, S1, p1, k1, r1, q1⟩ => ?_⟩
  obtain ⟨k, t, q⟩ := tru_relE S1 r1 q1
  refine ⟨k, t, ?_⟩
  cases k with
  | true => exact iteT ⟨ρ1, ah1, sa, S1, rs.mono p1 k1, q⟩
  | false => exact iteF (Pst.ret S1 r1 q)
theorem t_or (ha : Tri X (gO X tb) W a ma) (hb : Tri X (gO X tb) W (.BoolOp .Or (b :: rest) pos) mb) : Tri X (gO X tb) W (.BoolOp .Or (a :: b :: rest) pos) (mOr ma mb) := by
  refine pe_weak (pe_orT ha hb) fun σ H Q ⟨ρ, ah, sa, S, rs, p⟩ => ?_
  refine ⟨ρ, ah, sa, S, rs, p.bind.imp fun u H1 ⟨ρ1, ah1, v, S1, p1, k1, r1, q1⟩ => ?_⟩
  obtain ⟨k, t, q⟩ := tru_relE S1 r1 q1
  refine ⟨k, t, ?_⟩
  cases k with
  | true => exact iteT (Pst.ret S1 r1 q)
  | false => exact iteF ⟨ρ1, ah1, sa, S1, rs.mono p1 k1, q⟩
theorem t_not (ha : Tri X (gO X tb) W a ma) : Tri X (gO X tb) W (.UnaryOp .Not a pos) (mNot ma) := by
  refine pe_weak (pe_notT ha) fun σ H Q ⟨ρ, ah, sa, S, rs, p⟩ => ?_
  refine ⟨ρ, ah, sa, S, rs, p.bind.imp fun u H1 ⟨ρ1, ah1, v, S1, p1, k1, r1, q1⟩ => ?_⟩
  obtain ⟨k, t, q⟩ := tru_relE S1 r1 q1
  exact ⟨k, t, Pst.ret S1 (Rp.bl_.mpr rfl) q⟩
def mIfE (tc : MT) (ma mb : ME) : ME := fun sa ah => (tc sa ah).bind fun c ah1 => if c = true then ma sa ah1 else mb sa ah1
theorem t_ifE (hc : TriT X (gO X tb) W c ta) (ha : Tri X (gO X tb) W a ma) (hb : Tri X (gO X tb) W b mb) : Tri X (gO X tb) W (.IfExp c a b pos) (mIfE ta ma mb) := by
  refine pe_weak (pe_ifExp hc ha hb) fun σ H Q ⟨ρ, ah, sa, S, rs, p⟩ => ?_
  refine ⟨ρ, ah, sa, S, rs, (PstT.bindE p).imp fun k H1 ⟨ρ1, ah1, S1, p1, k1, q1⟩ => ?_⟩
  cases k with
  | true => exact iteT ⟨ρ1, ah1, sa, S1, rs.mono p1 k1, q1⟩
  | false => exact iteF ⟨ρ1, ah1, sa, S1, rs.mono p1 k1, q1⟩
def oNeg : A → Mo A
  | .int i => fun ah => .ok (.int (-i)) ah
  | _ => fun _ => .no
theorem t_neg (ha : Tri X (gO X tb) W a ma) : Tri X (gO X tb) W (.UnaryOp .USub a pos) (m1 oNeg ma) :=
  pe_weak (pe_un un_neg ha) fun σ H Q h => tE.one (fun v1 ah ρ H u1 S r1 p => by
    unfold oNeg at p
    split at p
    · rw [Rp.int_] at r1
      exact ⟨_, r1, Pst.ret S (Rp.int_.mpr rfl) p⟩
    · exact p.elim) h
end
end Z

namespace Z
open PySem PySem.Spec PyProof.Rows L2

/-! ### statements -/
inductive Rt where
  | nx (s : SA) (h : AH)
  | rt (v : A) (h : AH)
  | bk (s : SA) (h : AH)
  | ct (s : SA) (h : AH)
  | ex (e : Ex) (s : SA) (h : AH)
  | no
abbrev MS := SA → AH → Rt
/-- a value, then a statement -/
@[reducible] def Rs.st {α : Type} (r : Rs α) (s : SA) (k : α → AH → Rt) : Rt := match r with
  | .ok v h => k v h
  | .ex e h => .ex e s h
  | .no => .no
@[reducible] def Rt.seq (r : Rt) (k : SA → AH → Rt) : Rt := match r with
  | .nx s h => k s h
  | r => r
def PstS (Γ : G) (W : WX) (ρ : List Addr) (H : Hp) (D : Ends) : Rt → Prop
  | .nx s h => ∀ ρ' H' σ', Sim Γ ρ' h H' → ρ <+: ρ' → Kept H H' → SRp Γ.K ρ' H' s σ' → D.nx σ' H'
  | .rt v h => ∀ ρ' H' u, Sim Γ ρ' h H' → ρ <+: ρ' → Kept H H' → Rp Γ.K ρ' H' v u → D.rt u H'
  | .bk s h => ∀ ρ' H' σ', Sim Γ ρ' h H' → ρ <+: ρ' → Kept H H' → SRp Γ.K ρ' H' s σ' → D.bk σ' H'
  | .ct s h => ∀ ρ' H' σ', Sim Γ ρ' h H' → ρ <+: ρ' → Kept H H' → SRp Γ.K ρ' H' s σ' → D.ct σ' H'
  | .ex e s h => ∀ ρ' H' σ' cls d, Sim Γ ρ' h H' → ρ <+: ρ' → Kept H H' → SRp Γ.K ρ' H' s σ' → Xp Γ ρ' H' e cls d → W cls d σ' H'
  | .no => False
def tS (Γ : G) (W : WX) (m : MS) : TS := fun D σ H => ∃ ρ ah sa, Sim Γ ρ ah H ∧ SRp Γ.K ρ H sa σ ∧ PstS Γ W ρ H D (m sa ah)
def TriS (X : Cx) (Γ : G) (W : WX) (st : Stmt) (m : MS) : Prop := PS X st (tS Γ W m)
def TriB (X : Cx) (Γ : G) (W : WX) (sts : List Stmt) (m : MS) : Prop := PSs X sts (tS Γ W m)
theorem ps_weak {X : Cx} {e : Stmt} {t t' : TS} (h : PS X e t) (f : ∀ D σ H, t' D σ H → t D σ H) : PS X e t' := ⟨fun pins s σ H D I q => h.run pins s σ H D I (f _ _ _ q)⟩
theorem pss_weak {X : Cx} {e : List Stmt} {t t' : TS} (h : PSs X e t) (f : ∀ D σ H, t' D σ H → t D σ H) : PSs X e t' := ⟨fun pins s σ H D I q => h.run pins s σ H D I (f _ _ _ q)⟩
section
variable {Γ : G} {W : WX} {σ : L2.St} {ρ ρ1 : List Addr} {H H1 : Hp} {D D' : Ends}
theorem PstS.later {r : Rt} (h : PstS Γ W ρ H D r) (hr : ρ <+: ρ1) (k : Kept H H1) : PstS Γ W ρ1 H1 D r := by
  cases r with
  | nx s ah' => exact fun ρ' H' u S a b r => h ρ' H' u S (hr.trans a) (k.trans b) r
  | rt s ah' => exact fun ρ' H' u S a b r => h ρ' H' u S (hr.trans a) (k.trans b) r
  | bk s ah' => exact fun ρ' H' u S a b r => h ρ' H' u S (hr.trans a) (k.trans b) r
  | ct s ah' => exact fun ρ' H' u S a b r => h ρ' H' u S (hr.trans a) (k.trans b) r
  | ex e s ah' => exact fun ρ' H' u cls d S a b r => h ρ' H' u cls d S (hr.trans a) (k.trans b) r
  | no => exact h
/-- from a value to a statement -/
theorem PstS.ofE {sa : SA} {r : Rs A} {k : A → AH → Rt} (hs : SRp Γ.K ρ H sa σ) (h : PstS Γ W ρ H D (r.st sa k)) :
    Pst Γ W σ ρ H (fun u H1 => ∃ ρ1 ah1 v, Sim Γ ρ1 ah1 H1 ∧ ρ <+: ρ1 ∧ Kept H H1 ∧ Rp Γ.K ρ1 H1 v u ∧ PstS Γ W ρ1 H1 D (k v ah1)) r := by
  cases r with
  | ok v ah' => exact fun ρ' H' u S a b r => ⟨ρ', ah', v, S, a, b, r, PstS.later h a b⟩
  | ex e ah' => exact fun ρ' H' cls d S a b x => h ρ' H' σ cls d S a b (hs.mono a b) x
  | no => exact h
theorem PstS.ofT {sa : SA} {r : Rs Bool} {k : Bool → AH → Rt} (hs : SRp Γ.K ρ H sa σ) (h : PstS Γ W ρ H D (r.st sa k)) :
    PstT Γ W σ ρ H (fun c H1 => ∃ ρ1 ah1, Sim Γ ρ1 ah1 H1 ∧ ρ <+: ρ1 ∧ Kept H H1 ∧ PstS Γ W ρ1 H1 D (k c ah1)) r := by
  cases r with
  | ok v ah' => exact fun ρ' H' S a b => ⟨ρ', ah', S, a, b, PstS.later h a b⟩
  | ex e ah' => exact fun ρ' H' cls d S a b x => h ρ' H' σ cls d S a b (hs.mono a b) x
  | no => exact h
theorem PstS.ofL {sa : SA} {r : Rs (List A)} {k : List A → AH → Rt} (hs : SRp Γ.K ρ H sa σ) (h : PstS Γ W ρ H D (r.st sa k)) :
    PstL Γ W σ ρ H (fun us H1 => ∃ ρ1 ah1 vs, Sim Γ ρ1 ah1 H1 ∧ ρ <+: ρ1 ∧ Kept H H1 ∧ RpL Γ.K ρ1 H1 vs us ∧ PstS Γ W ρ1 H1 D (k vs ah1)) r := by
  cases r with
  | ok v ah' => exact fun ρ' H' u S a b r => ⟨ρ', ah', v, S, a, b, r, PstS.later h a b⟩
  | ex e ah' => exact fun ρ' H' cls d S a b x => h ρ' H' σ cls d S a b (hs.mono a b) x
  | no => exact h
theorem PstS.nx {s : SA} {ah : AH} {σ : L2.St} (S : Sim Γ ρ ah H) (hs : SRp Γ.K ρ H s σ) (h : PstS Γ W ρ H D (.nx s ah)) : D.nx σ H := h ρ H σ S (List.prefix_refl _) (Kept.refl _) hs
theorem PstS.seq {r : Rt} {k : SA → AH → Rt} (h : PstS Γ W ρ H D (r.seq k)) :
    PstS Γ W ρ H { D with nx := fun σ1 H1 => ∃ ρ1 ah1 sa1, Sim Γ ρ1 ah1 H1 ∧ ρ <+: ρ1 ∧ Kept H H1 ∧ SRp Γ.K ρ1 H1 sa1 σ1 ∧ PstS Γ W ρ1 H1 D (k sa1 ah1) } r := by
  cases r with
  | nx s ah' => exact fun ρ' H' u S a b r => ⟨ρ', ah', s, S, a, b, r, PstS.later h a b⟩
  | rt s ah' => exact h
  | bk s ah' => exact h
  | ct s ah' => exact h
  | ex e s ah' => exact h
  | no => exact h
end
section
variable {X : Cx} {tb : Addr → Prop} {W : WX} {e c : Expr} {me : ME} {mc : MT} {st : Stmt} {sts p q : List Stmt} {ms mp mq : MS} {pos : Pos}
def mSkip : MS := fun s h => .nx s h
def mSeq (m n : MS) : MS := fun s h => (m s h).seq n
theorem tb_nil : TriB X (gO X tb) W [] mSkip := pss_weak pss_nil fun D σ H ⟨ρ, ah, sa, S, rs, p⟩ => PstS.nx S rs p
theorem tb_one (h : TriS X (gO X tb) W st ms) : TriB X (gO X tb) W [st] ms := pss_one h
theorem tb_cons (h1 : TriS X (gO X tb) W st mp) (h2 : TriB X (gO X tb) W sts mq) : TriB X (gO X tb) W (st :: sts) (mSeq mp mq) := by
  refine pss_weak (pss_cons h1 h2) fun D σ H ⟨ρ, ah, sa, S, rs, p⟩ => ?_
  refine ⟨ρ, ah, sa, S, rs, ?_⟩
  have q := PstS.seq p
  have im : ∀ {r : Rt}, PstS (gO X tb) W ρ H { D with nx := fun σ1 H1 => ∃ ρ1 ah1 sa1, Sim (gO X tb) ρ1 ah1 H1 ∧ ρ <+: ρ1 ∧ Kept H H1 ∧ SRp X.K ρ1 H1 sa1 σ1 ∧ PstS (gO X tb) W ρ1 H1 D (mq sa1 ah1) } r →
      PstS (gO X tb) W ρ H { D with nx := tS (gO X tb) W mq D } r := fun {r} h => by
    cases r with
    | nx s ah' =>
      intro ρ' H' u S a b r
      obtain ⟨ρ1, ah1, sa1, S1, p1, k1, r1, q1⟩ := h ρ' H' u S a b r
      exact ⟨ρ1, ah1, sa1, S1, r1, q1⟩
    | rt s ah' => exact h
    | bk s ah' => exact h
    | ct s ah' => exact h
    | ex e s ah' => exact h
    | no => exact h
  exact im q
theorem ts_pass : TriS X (gO X tb) W (.Pass pos) mSkip := ps_weak ps_pass fun D σ H ⟨ρ, ah, sa, S, rs, p⟩ => PstS.nx S rs p
def mBreak : MS := fun s h => .bk s h
def mCont : MS := fun s h => .ct s h
theorem ts_break : TriS X (gO X tb) W (.Break pos) mBreak := ps_weak ps_break fun D σ H ⟨ρ, ah, sa, S, rs, p⟩ => p ρ H σ S (List.prefix_refl _) (Kept.refl _) rs
theorem ts_cont : TriS X (gO X tb) W (.Continue pos) mCont := ps_weak ps_continue fun D σ H ⟨ρ, ah, sa, S, rs, p⟩ => p ρ H σ S (List.prefix_refl _) (Kept.refl _) rs
def mExpr (m : ME) : MS := fun s h => (m s h).st s fun _ h1 => .nx s h1
theorem ts_expr (he : Tri X (gO X tb) W e me) (hs : swapsWith e none pos.line X.env = pure false := by rfl) : TriS X (gO X tb) W (.Expr e pos) (mExpr me) := by
  refine ps_weak (ps_expr he hs) fun D σ H ⟨ρ, ah, sa, S, rs, p⟩ => ?_
  exact ⟨ρ, ah, sa, S, rs, (PstS.ofE rs p).imp fun u H1 ⟨ρ1, ah1, v, S1, p1, k1, r1, q1⟩ => PstS.nx S1 (rs.mono p1 k1) q1⟩
def mRet (m : ME) : MS := fun s h => (m s h).st s fun v h1 => .rt v h1
theorem ts_ret (he : Tri X (gO X tb) W e me) : TriS X (gO X tb) W (.Return (some e) pos) (mRet me) := by
  refine ps_weak (ps_ret he) fun D σ H ⟨ρ, ah, sa, S, rs, p⟩ => ?_
  exact ⟨ρ, ah, sa, S, rs, (PstS.ofE rs p).imp fun u H1 ⟨ρ1, ah1, v, S1, p1, k1, r1, q1⟩ => q1 ρ1 H1 u S1 (List.prefix_refl _) (Kept.refl _) r1⟩
def mRetN : MS := fun _ h => .rt .non h
theorem ts_retN : TriS X (gO X tb) W (.Return none pos) mRetN := ps_weak ps_retN fun D σ H ⟨ρ, ah, sa, S, rs, p⟩ => p ρ H .non S (List.prefix_refl _) (Kept.refl _) (Rp.non_.mpr rfl)
def mIf (c : MT) (m n : MS) : MS := fun s h => (c s h).st s fun b h1 => if b = true then m s h1 else n s h1
theorem ts_if (hc : TriT X (gO X tb) W c mc) (ha : TriB X (gO X tb) W p mp) (hb : TriB X (gO X tb) W q mq) : TriS X (gO X tb) W (.If c p q pos) (mIf mc mp mq) := by
  refine ps_weak (ps_if hc ha hb) fun D σ H ⟨ρ, ah, sa, S, rs, p⟩ => ?_
  refine ⟨ρ, ah, sa, S, rs, (PstS.ofT rs p).imp fun b H1 ⟨ρ1, ah1, S1, p1, k1, q1⟩ => ?_⟩
  cases b with
  | true => exact iteT ⟨ρ1, ah1, sa, S1, rs.mono p1 k1, q1⟩
  | false => exact iteF ⟨ρ1, ah1, sa, S1, rs.mono p1 k1, q1⟩

/-! ### targets -/
/-- a target's meaning: a value and a state to a state -/
abbrev MG := A → SA → AH → Rt
def tG (Γ : G) (W : WX) (g : MG) : TG := fun u σ H Q => ∃ ρ ah sa v, Sim Γ ρ ah H ∧ SRp Γ.K ρ H sa σ ∧ Rp Γ.K ρ H v u ∧ PstS Γ W ρ H { nx := Q, rt := fun _ _ => False } (g v sa ah)
def TriG (X : Cx) (Γ : G) (W : WX) (e : Expr) (g : MG) : Prop := PG X e (tG Γ W g)
theorem pg_weak {e : Expr} {t t' : TG} (h : PG X e t) (f : ∀ u σ H Q, t' u σ H Q → t u σ H Q) : PG X e t' := ⟨fun pins s σ H v u Q I r q => h.run pins s σ H v u Q I r (f _ _ _ _ q)⟩
def gN (i : Nat) : MG := fun v s h => .nx (s.set i (some v)) h
theorem tg_name {x : Str} (i : Nat) (hN : X.N.Nodup) (hi : X.N[i]? = some x := by rfl) (hx : Loc X.env.scope x := by first | exact Or.inl rfl | exact Or.inr rfl) (hf : X.fn x = true ∨ X.env.scope.names.lookup x = some .local := by first | exact .inl rfl | exact .inr rfl | assumption) : TriG X (gO X tb) W (.Name x pos) (gN i) :=
  pg_weak (pg_name hN hi hx hf) fun u σ H Q ⟨ρ, ah, sa, v, S, rs, r, p⟩ => PstS.nx S (rs.set i r) p
abbrev MGs := List A → SA → AH → Rt
def tGs (Γ : G) (W : WX) (g : MGs) : TGs := fun us σ H Q => ∃ ρ ah sa vs, Sim Γ ρ ah H ∧ SRp Γ.K ρ H sa σ ∧ RpL Γ.K ρ H vs us ∧ PstS Γ W ρ H { nx := Q, rt := fun _ _ => False } (g vs sa ah)
def TriGs (X : Cx) (Γ : G) (W : WX) (es : List Expr) (g : MGs) : Prop := PGs X es (tGs Γ W g)
theorem pgs_weak {e : List Expr} {t t' : TGs} (h : PGs X e t) (f : ∀ u σ H Q, t' u σ H Q → t u σ H Q) : PGs X e t' := ⟨fun pins s σ H v u Q I r q => h.run pins s σ H v u Q I r (f _ _ _ _ q)⟩
def gsNil : MGs := fun vs s h => match vs with
  | [] => .nx s h
  | _ => .no
def gsCons (g : MG) (gs : MGs) : MGs := fun vs s h => match vs with
  | v :: r => (g v s h).seq fun s1 h1 => gs r s1 h1
  | _ => .no
theorem tgs_nil : TriGs X (gO X tb) W [] gsNil := pgs_weak pgs_nil fun us σ H Q ⟨ρ, ah, sa, vs, S, rs, r, p⟩ => by
  cases vs with
  | nil => simp only [RpL] at r; exact ⟨r, PstS.nx S rs p⟩
  | cons _ _ => exact p.elim
theorem tgs_cons {es : List Expr} {g : MG} {gs : MGs} (h1 : TriG X (gO X tb) W e g) (h2 : TriGs X (gO X tb) W es gs)
    (hs : (assignEach (e :: es) X.env).map (·.2) = assign e X.env :: (assignEach es X.env).map (·.2) := by rfl) : TriGs X (gO X tb) W (e :: es) (gsCons g gs) := pgs_weak (pgs_cons h1 h2 hs) fun us σ H Q ⟨ρ, ah, sa, vs, S, rs, r, p⟩ => by
  cases vs with
  | nil => exact p.elim
  | cons v vs =>
    simp only [RpL] at r
    obtain ⟨u, us', rfl, r1, r2⟩ := r
    refine ⟨u, us', rfl, ρ, ah, sa, v, S, rs, r1, ?_⟩
    have q := PstS.seq (k := fun s1 h1 => gs vs s1 h1) p
    cases e : g v sa ah with
    | nx s h =>
      rw [e] at q
      intro ρ' H' σ' S' a b rs'
      obtain ⟨ρ1, ah1, sa1, S1, p1, k1, rs1, q1⟩ := q ρ' H' σ' S' a b rs'
      exact ⟨ρ1, ah1, sa1, vs, S1, rs1, RpL.mono p1 k1 _ _ r2, q1⟩
    | rt s h => rw [e] at q; exact q
    | bk s h => rw [e] at q; exact q
    | ct s h => rw [e] at q; exact q
    | ex e s h => rw [e] at q; exact q
    | no => rw [e] at q; exact q
/-- (a, b, ..) = a tuple -/
def gTp (n : Nat) (gs : MGs) : MG := fun v s h => match v with
  | .tup xs => if xs.length = n then gs xs s h else .no
  | _ => .no
theorem tg_tup {es : List Expr} {k : Nat} {gs : MGs} {n : Nat} (hc : X.calm = true) (h : TriGs X (gO X tb) W es gs)
    (hn : (assignEach es X.env).length = n := by rfl) (hst : (assignEach es X.env).findIdx? (·.1) = none := by rfl) : TriG X (gO X tb) W (.Tuple es k pos) (gTp n gs) :=
  pg_weak (pg_tup hc h hn hst) fun u σ H Q ⟨ρ, ah, sa, v, S, rs, r, p⟩ => by
    unfold gTp at p
    split at p
    · rename_i xs
      split at p
      · rename_i c
        rw [Rp.tup_] at r
        obtain ⟨a, vs, rfl, t, q⟩ := r
        exact ⟨a, vs, rfl, t, by rw [← q.length]; exact c, ρ, ah, sa, xs, S, rs, q, p⟩
      · exact p.elim
    · exact p.elim
/-- o[i] = v -/
def oSet (o i v : A) (s : SA) (h : AH) : Rt := match o, i with
  | .ref n, .int k => match h[n]? with
    | some (.lst xs) => match ixN xs.length k with
      | some j => .nx s (h.set n (.lst (xs.set j v)))
      | none => .no
    | _ => .no
  | _, _ => .no
def gSb (mo mi : ME) : MG := fun v s h => (mo s h).st s fun o h1 => (mi s h1).st s fun i h2 => oSet o i v s h2
theorem sim_set {Γ : G} {ρ : List Addr} {ah : AH} {H : Hp} {n : Nat} {a : Addr} {vs : List V} {ys : List A} {ws : List V} (S : Sim Γ ρ ah H) (ea : ρ[n]? = some a) (hv : H a = some (.lst vs)) (r : RpL Γ.K ρ H ys ws) :
    Sim Γ ρ (ah.set n (.lst ys)) (upd H a (.lst ws)) ∧ Kept H (upd H a (.lst ws)) :=
  have k : Kept H (upd H a (.lst ws)) := Kept.write hv (fun _ z => by cases z) (fun _ _ z => by cases z) (fun _ z => by cases z)
  ⟨S.write ea hv (fun _ z => by cases z) (fun _ _ z => by cases z) (fun _ z => by cases z) (fun _ z => by cases z) ⟨ws, upd_same, RpL.mono (List.prefix_refl _) k _ _ r⟩, k⟩
theorem oSet_rel {Γ : G} {ρ : List Addr} {ah : AH} {H : Hp} {sa : SA} {σ : L2.St} {D : Ends} {o i v : A} {x y u : V} (S : Sim Γ ρ ah H) (rs : SRp Γ.K ρ H sa σ) (r1 : Rp Γ.K ρ H o x) (r2 : Rp Γ.K ρ H i y) (r3 : Rp Γ.K ρ H v u)
    (p : PstS Γ W ρ H D (oSet o i v sa ah)) : rSetL x y u H fun H3 => D.nx σ H3 := by
  unfold oSet at p
  split at p
  · rw [Rp.ref_] at r1
    rw [Rp.int_] at r2
    obtain ⟨a, rfl, ea⟩ := r1
    split at p
    · rename_i xs e
      split at p
      · rename_i j ej
        obtain ⟨vs, hv, q⟩ := sim_lst S e ea
        obtain ⟨S2, k2⟩ := sim_set S ea hv (q.set j r3)
        exact ⟨a, vs, _, j, rfl, r2, hv, by rw [← q.length]; exact ej, p ρ _ σ S2 (List.prefix_refl _) k2 (rs.mono (List.prefix_refl _) k2)⟩
      · exact p.elim
    · exact p.elim
  · exact p.elim
theorem tg_sub {o i : Expr} {mo mi : ME} (ho : Tri X (gO X tb) W o mo) (hi : Tri X (gO X tb) W i mi)
    (ha : ∀ v, assign (.Subscript o i pos) X.env v = (do
      let ov ← holding [v] (eval o X.env)
      let iv ← holding [v, ov] (eval i X.env)
      standAt pos
      holding [v, ov, iv] (setItem ov iv v)
      release [v, ov, iv] []) := by intro _; rfl) : TriG X (gO X tb) W (.Subscript o i pos) (gSb mo mi) :=
  pg_weak (pg_sub ho hi set_list ha) fun u σ H Q ⟨ρ, ah, sa, v, S, rs, r, p⟩ => by
    refine ⟨ρ, ah, sa, S, rs, (PstS.ofE rs p).imp fun x H1 ⟨ρ1, ah1, v1, S1, p1, k1, r1, q1⟩ => ?_⟩
    refine ⟨ρ1, ah1, sa, S1, rs.mono p1 k1, (PstS.ofE (rs.mono p1 k1) q1).imp fun y H2 ⟨ρ2, ah2, v2, S2, p2, k2, r2, q2⟩ => ?_⟩
    exact oSet_rel (D := { nx := Q, rt := fun _ _ => False }) S2 (rs.mono (p1.trans p2) (k1.trans k2)) (Rp.mono p2 k2 _ _ r1) r2 (Rp.mono (p1.trans p2) (k1.trans k2) _ _ r) q2

/-! ### assignments -/
def mAsg (m : ME) (g : MG) : MS := fun s h => (m s h).st s fun v h1 => (g v s h1)
/-- what a target may end in -/
theorem PstS.tgt {Γ : G} {ρ : List Addr} {H : Hp} {D : Ends} {r : Rt} (hg : ∀ s h, r ≠ .bk s h ∧ r ≠ .ct s h ∧ ∀ v, r ≠ .rt v h) (p : PstS Γ W ρ H D r) : PstS Γ W ρ H { nx := D.nx, rt := fun _ _ => False } r := by
  cases r with
  | nx s h => exact p
  | rt v h => exact absurd rfl ((hg [] h).2.2 v)
  | bk s h => exact absurd rfl (hg s h).1
  | ct s h => exact absurd rfl (hg s h).2.1
  | ex e s h => exact p
  | no => exact p
/-- a target's ends -/
def TgtOk (g : MG) : Prop := ∀ v s h s' h', g v s h ≠ .bk s' h' ∧ g v s h ≠ .ct s' h' ∧ ∀ v', g v s h ≠ .rt v' h'
def TgtsOk (g : MGs) : Prop := ∀ v s h s' h', g v s h ≠ .bk s' h' ∧ g v s h ≠ .ct s' h' ∧ ∀ v', g v s h ≠ .rt v' h'
theorem ko_n {i : Nat} : TgtOk (gN i) := fun v s h s' h' => ⟨fun z => (by cases z), fun z => (by cases z), fun v' z => (by cases z)⟩
theorem kos_nil : TgtsOk gsNil := fun v s h s' h' => by
  unfold gsNil
  split <;> exact ⟨fun z => (by cases z), fun z => (by cases z), fun v' z => (by cases z)⟩
theorem kos_cons {g : MG} {gs : MGs} (h1 : TgtOk g) (h2 : TgtsOk gs) : TgtsOk (gsCons g gs) := fun v s h s' h' => by
  unfold gsCons
  split
  · rename_i v r
    cases e : g v s h with
    | nx s1 h3 => exact h2 r s1 h3 s' h'
    | rt v1 h3 => exact absurd e ((h1 v s h [] h3).2.2 v1)
    | bk v1 h3 => exact absurd e (h1 v s h v1 h3).1
    | ct v1 h3 => exact absurd e (h1 v s h v1 h3).2.1
    | ex e s1 h3 => exact ⟨fun z => (by cases z), fun z => (by cases z), fun v' z => (by cases z)⟩
    | no => exact ⟨fun z => (by cases z), fun z => (by cases z), fun v' z => (by cases z)⟩
  · exact ⟨fun z => (by cases z), fun z => (by cases z), fun v' z => (by cases z)⟩
theorem ko_tp {n : Nat} {gs : MGs} (h2 : TgtsOk gs) : TgtOk (gTp n gs) := fun v s h s' h' => by
  unfold gTp
  split
  · split
    · exact h2 _ s h s' h'
    · exact ⟨fun z => (by cases z), fun z => (by cases z), fun v' z => (by cases z)⟩
  · exact ⟨fun z => (by cases z), fun z => (by cases z), fun v' z => (by cases z)⟩
theorem oSet_ok (o i v : A) (s : SA) (h : AH) (s' : SA) (h' : AH) : oSet o i v s h ≠ .bk s' h' ∧ oSet o i v s h ≠ .ct s' h' ∧ ∀ v', oSet o i v s h ≠ .rt v' h' := by
  unfold oSet
  split
  · split
    · split <;> exact ⟨fun z => (by cases z), fun z => (by cases z), fun v' z => (by cases z)⟩
    · exact ⟨fun z => (by cases z), fun z => (by cases z), fun v' z => (by cases z)⟩
  · exact ⟨fun z => (by cases z), fun z => (by cases z), fun v' z => (by cases z)⟩
theorem st_ko {α : Type} {r : Rs α} {s : SA} {k : α → AH → Rt} (hk : ∀ v h1 s' h', k v h1 ≠ .bk s' h' ∧ k v h1 ≠ .ct s' h' ∧ ∀ v', k v h1 ≠ .rt v' h') (s' : SA) (h' : AH) : r.st s k ≠ .bk s' h' ∧ r.st s k ≠ .ct s' h' ∧ ∀ v', r.st s k ≠ .rt v' h' := by
  cases r with
  | ok v h => exact hk v h s' h'
  | ex _ _ => exact ⟨fun z => (by cases z), fun z => (by cases z), fun v' z => (by cases z)⟩
  | no => exact ⟨fun z => (by cases z), fun z => (by cases z), fun v' z => (by cases z)⟩
theorem ko_sb {mo mi : ME} : TgtOk (gSb mo mi) := fun v s h s' h' => st_ko (fun o h1 s' h' => st_ko (fun i h2 s' h' => oSet_ok o i v s h2 s' h') s' h') s' h'
theorem ts_asg {tg : Expr} {g : MG} (he : Tri X (gO X tb) W e me) (hg : TriG X (gO X tb) W tg g) (ko : TgtOk g) (hs : swapsWithSole [tg] e pos.line X.env = pure false := by rfl) (hw : swappedStores [tg] e X.env = pure none := by rfl)
    (h1 : (assignEach [tg] X.env).map (·.2) = [assign tg X.env] := by rfl) : TriS X (gO X tb) W (.Assign [tg] e pos) (mAsg me g) := by
  refine ps_weak (ps_asg he hg hs hw h1) fun D σ H ⟨ρ, ah, sa, S, rs, p⟩ => ?_
  refine ⟨ρ, ah, sa, S, rs, (PstS.ofE rs p).imp fun x H1 ⟨ρ1, ah1, v1, S1, p1, k1, r1, q1⟩ => ?_⟩
  exact ⟨ρ1, ah1, sa, v1, S1, rs.mono p1 k1, r1, PstS.tgt (fun s h => ko v1 sa ah1 s h) q1⟩
theorem ts_set {x : Str} {pos' : Pos} (i : Nat) (he : Tri X (gO X tb) W e me) (hN : X.N.Nodup) (hi : X.N[i]? = some x := by rfl) (hx : Loc X.env.scope x := by first | exact Or.inl rfl | exact Or.inr rfl) (hs : swapsWith e (some (.Name x pos')) pos.line X.env = pure false := by rfl)
    (hf : X.fn x = true ∨ X.env.scope.names.lookup x = some .local := by first | exact .inl rfl | exact .inr rfl | assumption) : TriS X (gO X tb) W (.Assign [.Name x pos'] e pos) (mAsg me (gN i)) := by
  refine ps_weak (ps_set (i := i) hN hi hx he hs hf) fun D σ H ⟨ρ, ah, sa, S, rs, p⟩ => ?_
  exact ⟨ρ, ah, sa, S, rs, (PstS.ofE rs p).imp fun x H1 ⟨ρ1, ah1, v1, S1, p1, k1, r1, q1⟩ => PstS.nx S1 ((rs.mono p1 k1).set i r1) q1⟩
/-- a, b = x, y -/
def mPar (i j : Nat) (ms : List ME) : MS := fun s h => (mArgs ms s h).st s fun vs h1 => match vs with
  | [v, w] => .nx ((s.set i (some v)).set j (some w)) h1
  | _ => .no
theorem ts_par {i j : Nat} {x y : Str} {a b : Expr} {ms : List ME} {px py pt : Pos} {kt k2 pt2} (hc : X.calm = true) (ha : TriA X (gO X tb) W [a, b] ms) (hN : X.N.Nodup) (hi : X.N[i]? = some x := by rfl) (hj : X.N[j]? = some y := by rfl) (hij : i ≠ j := by decide)
    (hx : X.env.scope.names.lookup x = some .local := by rfl) (hy : X.env.scope.names.lookup y = some .local := by rfl)
    (hw : swappedStores [.Tuple [.Name x px, .Name y py] kt pt] (.Tuple [a, b] k2 pt2) X.env = pure (some [x, y]) := by rfl)
    (hs : swapsWithSole [.Tuple [.Name x px, .Name y py] kt pt] (.Tuple [a, b] k2 pt2) pos.line X.env = pure false := by rfl) :
    TriS X (gO X tb) W (.Assign [.Tuple [.Name x px, .Name y py] kt pt] (.Tuple [a, b] k2 pt2) pos) (mPar i j ms) := by
  refine ps_weak (ps_par hc hN hi hj hij hx hy ha hw hs) fun D σ H ⟨ρ, ah, sa, S, rs, p⟩ => ?_
  refine ⟨ρ, ah, sa, S, rs, (PstS.ofL rs p).imp fun us H1 ⟨ρ1, ah1, vs, S1, p1, k1, r1, q1⟩ => ?_⟩
  split at q1
  · obtain ⟨u, w, rfl, ru, rw'⟩ := r1.two
    exact ⟨u, w, rfl, PstS.nx S1 (((rs.mono p1 k1).set i ru).set j rw') q1⟩
  · exact q1.elim
/-- x += e -/
def mAug (i : Nat) (mo : A → A → Mo A) (m : ME) : MS := fun s h => match s[i]? with
  | some (some x) => (m s h).st s fun y h1 => (mo x y h1).st s fun z h2 => .nx (s.set i (some z)) h2
  | _ => .no
def IpM (X : Cx) (Γ : G) (W : WX) (op : Operator) (mo : A → A → Mo A) : Prop :=
  ∃ r, PIp X op r ∧ ∀ σ v1 v2 ah ρ H u1 u2 Q, Sim Γ ρ ah H → Rp Γ.K ρ H v1 u1 → Rp Γ.K ρ H v2 u2 → Pst Γ W σ ρ H Q (mo v1 v2 ah) → r u1 u2 H Q
theorem ts_aug {x : Str} {op : Operator} {mo : A → A → Mo A} {pos' : Pos} (i : Nat) (ho : IpM X (gO X tb) W op mo) (he : Tri X (gO X tb) W e me) (hN : X.N.Nodup) (hi : X.N[i]? = some x := by rfl) (hx : Loc X.env.scope x := by first | exact Or.inl rfl | exact Or.inr rfl)
    (hf : X.fn x = true ∨ X.env.scope.names.lookup x = some .local := by first | exact .inl rfl | exact .inr rfl | assumption) : TriS X (gO X tb) W (.AugAssign (.Name x pos') op e pos) (mAug i mo me) := by
  obtain ⟨r, h1, h2⟩ := ho
  refine ps_weak (ps_aug (i := i) hN hi hx he h1 hf) fun D σ H ⟨ρ, ah, sa, S, rs, p⟩ => ?_
  unfold mAug at p
  split at p
  · rename_i xv e0
    obtain ⟨u, e1, rx⟩ := rs.get e0
    refine ⟨u, e1, ρ, ah, sa, S, rs, (PstS.ofE rs p).imp fun y H1 ⟨ρ1, ah1, v1, S1, p1, k1, r1, q1⟩ => ?_⟩
    refine h2 σ xv v1 ah1 ρ1 H1 u y _ S1 (Rp.mono p1 k1 _ _ rx) r1 ((PstS.ofE (rs.mono p1 k1) q1).imp fun z H2 ⟨ρ2, ah2, v2, S2, p2, k2, r2, q2⟩ => ?_)
    exact PstS.nx S2 ((rs.mono (p1.trans p2) (k1.trans k2)).set i r2) q2
  · exact p.elim
def oIAdd : A → A → Mo A
  | .int i, .int j => fun ah => .ok (.int (i + j)) ah
  | _, _ => fun _ => .no
theorem i_add : IpM X (gO X tb) W .Add oIAdd := ⟨_, ip_add, fun σ v1 v2 ah ρ H u1 u2 Q S r1 r2 p => by
  unfold oIAdd at p
  split at p
  · rw [Rp.int_] at r1 r2
    exact ⟨_, _, r1, r2, Pst.ret S (Rp.int_.mpr rfl) p⟩
  · exact p.elim⟩
theorem i_sub : IpM X (gO X tb) W .Sub oSub := ⟨_, ip_sub, fun σ v1 v2 ah ρ H u1 u2 Q S r1 r2 p => by
  unfold oSub at p
  split at p
  · rw [Rp.int_] at r1 r2
    exact ⟨_, _, r1, r2, Pst.ret S (Rp.int_.mpr rfl) p⟩
  · exact p.elim⟩
end
end Z

namespace Z
open PySem PySem.Spec PyProof.Rows L2

/-! ### while -/
def mWhile (c : MT) (b : MS) : Nat → MS
  | 0 => fun _ _ => .no
  | n + 1 => fun s h => (c s h).st s fun k h1 => if k = true then match b s h1 with
      | .nx s' h' => mWhile c b n s' h'
      | .ct s' h' => mWhile c b n s' h'
      | .bk s' h' => .nx s' h'
      | r => r
    else .nx s h1
section
variable {X : Cx} {tb : Addr → Prop} {W : WX} {c : Expr} {mc : MT} {body : List Stmt} {mb : MS} {pos : Pos}
theorem ts_while (fuel : Nat) (hp : PassesOwn (model X.prog X.w) X.A X.env X.xe) (hc : TriT X (gO X tb) W c mc) (hb : TriB X (gO X tb) W body mb) : TriS X (gO X tb) W (.While c body [] pos) (mWhile mc mb fuel) := by
  refine ps_weak (ps_while hp hc hb) fun D σ H ⟨ρ, ah, sa, S, rs, p⟩ => ?_
  refine ⟨fun m σ H => ∃ ρ ah sa, Sim (gO X tb) ρ ah H ∧ SRp X.K ρ H sa σ ∧ PstS (gO X tb) W ρ H D (mWhile mc mb m sa ah), ⟨fuel, ρ, ah, sa, S, rs, p⟩, ?_⟩
  rintro m σ H ⟨ρ, ah, sa, S, rs, p⟩
  cases m with
  | zero => exact p.elim
  | succ n =>
    refine ⟨ρ, ah, sa, S, rs, (PstS.ofT rs p).imp fun k H1 ⟨ρ1, ah1, S1, p1, k1, q1⟩ => ?_⟩
    cases k with
    | false => exact iteF (PstS.nx S1 (rs.mono p1 k1) q1)
    | true =>
      refine iteT ⟨fun σ' H' => ∃ ρ ah sa, Sim (gO X tb) ρ ah H' ∧ SRp X.K ρ H' sa σ' ∧ PstS (gO X tb) W ρ H' D (mWhile mc mb n sa ah), fun σ' H' h => ⟨n, Nat.lt_succ_self n, h⟩, ρ1, ah1, sa, S1, rs.mono p1 k1, ?_⟩
      rw [if_pos rfl] at q1
      cases e : mb sa ah1 with
      | nx s' h' => rw [e] at q1; exact fun ρ' H' σ' S' a b r => ⟨ρ', h', s', S', r, PstS.later q1 a b⟩
      | ct s' h' => rw [e] at q1; exact fun ρ' H' σ' S' a b r => ⟨ρ', h', s', S', r, PstS.later q1 a b⟩
      | bk s' h' => rw [e] at q1; exact q1
      | rt v h' => rw [e] at q1; exact q1
      | ex x s' h' => rw [e] at q1; exact q1
      | no => rw [e] at q1; exact q1
end

/-! ### what is walked -/
structure IT where
  cnt : Nat
  item : Nat → AH → Option A
  fin : AH → Bool
def IT.tup (xs : List A) : IT := ⟨xs.length, fun i _ => xs[i]?, fun _ => true⟩
def IT.lst (n len : Nat) : IT := ⟨len, fun i ah => match lsA ah n with
  | some ys => if ys.length = len then ys[i]? else none
  | none => none, fun ah => match lsA ah n with
  | some ys => ys.length == len
  | none => false⟩
def IT.rng (lo : Int) (n : Nat) : IT := ⟨n, fun i _ => some (.int (lo + i)), fun _ => true⟩
def IT.rngC (lo c : Int) (n : Nat) : IT := ⟨n, fun i _ => some (.int (lo + i * c)), fun _ => true⟩
structure ItR (Γ : G) (ρ0 : List Addr) (H0 : Hp) (J : It) (it : IT) : Prop where
  go : ∀ i ρ ah H v, i < it.cnt → ρ0 <+: ρ → Kept H0 H → Sim Γ ρ ah H → it.item i ah = some v → J.go i H ∧ ∀ x H', J.yld i H x H' → Sim Γ ρ ah H' ∧ Kept H H' ∧ Rp Γ.K ρ H' v x
  stop : ∀ ρ ah H, ρ0 <+: ρ → Kept H0 H → Sim Γ ρ ah H → it.fin ah = true → J.stop it.cnt H
abbrev MI := SA → Mo IT
def PstI (Γ : G) (W : WX) (σ : L2.St) (ρ : List Addr) (H : Hp) (R : It → Hp → Prop) : Rs IT → Prop
  | .ok it ah' => ∀ ρ' H' J, Sim Γ ρ' ah' H' → ρ <+: ρ' → Kept H H' → ItR Γ ρ' H' J it → R J H'
  | .ex e ah' => ∀ ρ' H' cls d, Sim Γ ρ' ah' H' → ρ <+: ρ' → Kept H H' → Xp Γ ρ' H' e cls d → W cls d σ H'
  | .no => False
def tI (Γ : G) (W : WX) (m : MI) : TI := fun σ H R => ∃ ρ ah sa, Sim Γ ρ ah H ∧ SRp Γ.K ρ H sa σ ∧ PstI Γ W σ ρ H R (m sa ah)
def TriI (X : Cx) (Γ : G) (W : WX) (tg iter : Expr) (m : MI) : Prop := PI X tg iter (tI Γ W m)
theorem pi_weak {X : Cx} {tg e : Expr} {t t' : TI} (h : PI X tg e t) (f : ∀ σ H Q, t' σ H Q → t σ H Q) : PI X tg e t' := ⟨fun pins s σ H Q I q => h.run pins s σ H Q I (f _ _ _ q)⟩
def forGo (it : IT) (g : MG) (b : MS) : Nat → Nat → MS
  | 0, _ => fun s h => if it.fin h = true then .nx s h else .no
  | k + 1, i => fun s h => match it.item i h with
    | none => .no
    | some v => match (g v s h).seq b with
      | .nx s' h' => forGo it g b k (i + 1) s' h'
      | .ct s' h' => forGo it g b k (i + 1) s' h'
      | .bk s' h' => .nx s' h'
      | r => r
def mFor (mi : MI) (g : MG) (b : MS) : MS := fun s h => (mi s h).st s fun it h1 => forGo it g b it.cnt 0 s h1
section
variable {X : Cx} {tb : Addr → Prop} {W : WX} {tg iter : Expr} {mi : MI} {g : MG} {body : List Stmt} {mb : MS} {pos : Pos}
theorem ts_for (hp : PassesOwn (model X.prog X.w) X.A X.env X.xe) (hc : X.calm = true) (hi : TriI X (gO X tb) W tg iter mi) (hg : TriG X (gO X tb) W tg g) (ko : TgtOk g) (hb : TriB X (gO X tb) W body mb)
    (hs : ∀ x, foldedSetIterable iter X.env x = pure x := by intro _; rfl) : TriS X (gO X tb) W (.For tg iter body [] pos) (mFor mi g mb) := by
  refine ps_weak (ps_for hp hc hi hg hb hs) fun D σ H ⟨ρ, ah, sa, S, rs, p⟩ => ?_
  refine ⟨ρ, ah, sa, S, rs, ?_⟩
  unfold mFor at p
  cases e : mi sa ah with
  | no => rw [e] at p; exact p.elim
  | ex x h => rw [e] at p; exact fun ρ' H' cls d S' a b r => p ρ' H' σ cls d S' a b (rs.mono a b) r
  | ok it h1 =>
    rw [e] at p
    intro ρ0 H0 J S0 a0 b0 R
    refine ⟨fun i m σ H => ∃ ρ ah sa, ρ0 <+: ρ ∧ Kept H0 H ∧ m + i = it.cnt ∧ Sim (gO X tb) ρ ah H ∧ SRp X.K ρ H sa σ ∧ PstS (gO X tb) W ρ H D (forGo it g mb m i sa ah), ⟨it.cnt, ρ0, h1, sa, List.prefix_refl _, Kept.refl _, rfl, S0, rs.mono a0 b0, PstS.later p a0 b0⟩, ?_⟩
    rintro i m σ H ⟨ρ, ah, sa, pr, kp, em, S, rs, p⟩
    cases m with
    | zero =>
      unfold forGo at p
      split at p
      · rename_i hf
        have ei : i = it.cnt := by omega
        subst ei
        exact .inl ⟨R.stop ρ ah H pr kp S hf, PstS.nx S rs p⟩
      · exact p.elim
    | succ k =>
      unfold forGo at p
      split at p
      · exact p.elim
      · rename_i v ev
        obtain ⟨g1, g2⟩ := R.go i ρ ah H v (by omega) pr kp S ev
        refine .inr ⟨g1, fun σ' H' => ∃ ρ ah sa, ρ0 <+: ρ ∧ Kept H0 H' ∧ k + (i + 1) = it.cnt ∧ Sim (gO X tb) ρ ah H' ∧ SRp X.K ρ H' sa σ' ∧ PstS (gO X tb) W ρ H' D (forGo it g mb k (i + 1) sa ah), fun σ' H' h => ⟨k, Nat.lt_succ_self k, h⟩, fun x H' hy => ?_⟩
        obtain ⟨S', k', r'⟩ := g2 x H' hy
        refine ⟨ρ, ah, sa, v, S', rs.mono (List.prefix_refl _) k', r', ?_⟩
        cases eg : g v sa ah with
        | nx s2 h2 =>
          rw [eg] at p
          intro ρ2 H2 σ2 S2 a2 b2 rs2
          refine ⟨ρ2, h2, s2, S2, rs2, ?_⟩
          have p' : PstS (gO X tb) W ρ H D (match mb s2 h2 with
            | .nx s' h' => forGo it g mb k (i + 1) s' h'
            | .ct s' h' => forGo it g mb k (i + 1) s' h'
            | .bk s' h' => .nx s' h'
            | r => r) := p
          have fin : ∀ {s' : SA} {h' : AH}, PstS (gO X tb) W ρ H D (forGo it g mb k (i + 1) s' h') → ∀ (ρ' : List Addr) (H3 : Hp) (σ' : L2.St), Sim (gO X tb) ρ' h' H3 → ρ2 <+: ρ' → Kept H2 H3 → SRp X.K ρ' H3 s' σ' →
              ∃ ρ ah sa, ρ0 <+: ρ ∧ Kept H0 H3 ∧ k + (i + 1) = it.cnt ∧ Sim (gO X tb) ρ ah H3 ∧ SRp X.K ρ H3 sa σ' ∧ PstS (gO X tb) W ρ H3 D (forGo it g mb k (i + 1) sa ah) := fun {s' h'} q ρ' H3 σ' S3 a3 b3 r3 =>
            ⟨ρ', h', s', pr.trans (a2.trans a3), kp.trans (k'.trans (b2.trans b3)), by omega, S3, r3, PstS.later q (a2.trans a3) (k'.trans (b2.trans b3))⟩
          cases eb : mb s2 h2 with
          | nx s' h' => rw [eb] at p'; exact fin p'
          | ct s' h' => rw [eb] at p'; exact fin p'
          | bk s' h' => rw [eb] at p'; exact PstS.later (D := D) (r := .nx s' h') p' a2 (k'.trans b2)
          | rt v' h' => rw [eb] at p'; exact PstS.later (D := D) (r := .rt v' h') p' a2 (k'.trans b2)
          | ex x' s' h' => rw [eb] at p'; exact PstS.later (D := D) (r := .ex x' s' h') p' a2 (k'.trans b2)
          | no => rw [eb] at p'; exact p'.elim
        | ct s2 h2 => exact absurd eg (ko v sa ah s2 h2).2.1
        | bk s2 h2 => exact absurd eg (ko v sa ah s2 h2).1
        | rt v2 h2 => exact absurd eg ((ko v sa ah [] h2).2.2 v2)
        | ex x2 s2 h2 => rw [eg] at p; exact PstS.later (D := D) (r := .ex x2 s2 h2) p (List.prefix_refl _) k'
        | no => rw [eg] at p; exact p.elim
/-! the iterators -/
theorem itr_tup {Γ : G} {ρ0 : List Addr} {H0 : Hp} {a : Addr} {xs : List A} {vs : List V} (h : SqT Γ.K H0 a vs) (r : RpL Γ.K ρ0 H0 xs vs) : ItR Γ ρ0 H0 (Itt Γ.K a) (IT.tup xs) where
  go := fun i ρ ah H v hi pr kp S e => by
    obtain ⟨u, e1, r1⟩ := (RpL.mono pr kp _ _ r).get e
    refine ⟨⟨vs, u, kp.sqt h, e1⟩, fun x H' hy => ?_⟩
    obtain ⟨rfl, f⟩ := hy
    have := f vs (kp.sqt h)
    rw [e1] at this
    cases this
    exact ⟨S, Kept.refl _, r1⟩
  stop := fun ρ ah H pr kp S hf => ⟨vs, kp.sqt h, by rw [← r.length]; exact Nat.le_refl _⟩
theorem itr_lst {Γ : G} {ρ0 : List Addr} {H0 : Hp} {a : Addr} {n len : Nat} (ea : ρ0[n]? = some a) : ItR Γ ρ0 H0 (Itl Γ.K a) (IT.lst n len) where
  go := fun i ρ ah H v hi pr kp S e => by
    have ea' : ρ[n]? = some a := by
      obtain ⟨t, rfl⟩ := pr
      rw [List.getElem?_append_left]
      · exact ea
      · rcases Nat.lt_or_ge n ρ0.length with z | z
        · exact z
        · rw [List.getElem?_eq_none z] at ea; cases ea
    simp only [IT.lst] at e
    split at e
    · rename_i ys ey
      split at e
      · rename_i c
        obtain ⟨vs, hv, r⟩ := S.ob n _ a (lsA_of ey) ea'
        obtain ⟨u, e1, r1⟩ := r.get e
        refine ⟨⟨vs, u, .inl (.inl hv), e1⟩, fun x H' hy => ?_⟩
        obtain ⟨rfl, f⟩ := hy
        have := f vs (.inl (.inl hv))
        rw [e1] at this
        cases this
        exact ⟨S, Kept.refl _, r1⟩
      · cases e
    · cases e
  stop := fun ρ ah H pr kp S hf => by
    have ea' : ρ[n]? = some a := by
      obtain ⟨t, rfl⟩ := pr
      rw [List.getElem?_append_left]
      · exact ea
      · rcases Nat.lt_or_ge n ρ0.length with z | z
        · exact z
        · rw [List.getElem?_eq_none z] at ea; cases ea
    simp only [IT.lst] at hf
    split at hf
    · rename_i ys ey
      obtain ⟨vs, hv, r⟩ := S.ob n _ a (lsA_of ey) ea'
      have hl : ys.length = len := by simpa using hf
      refine ⟨vs, .inl (.inl hv), ?_⟩
      show vs.length ≤ len
      rw [← r.length, hl]
      exact Nat.le_refl _
    · cases hf
theorem itr_fro {Γ : G} {ρ0 : List Addr} {H0 : Hp} {a : Addr} {xs : List A} {vs : List V} (h : SqF Γ.K H0 a vs) (r : RpL Γ.K ρ0 H0 xs vs) : ItR Γ ρ0 H0 (Itl Γ.K a) (IT.tup xs) where
  go := fun i ρ ah H v hi pr kp S e => by
    obtain ⟨u, e1, r1⟩ := (RpL.mono pr kp _ _ r).get e
    refine ⟨⟨vs, u, (kp.sqf h).seq, e1⟩, fun x H' hy => ?_⟩
    obtain ⟨rfl, f⟩ := hy
    have := f vs (kp.sqf h).seq
    rw [e1] at this
    cases this
    exact ⟨S, Kept.refl _, r1⟩
  stop := fun ρ ah H pr kp S hf => ⟨vs, (kp.sqf h).seq, by rw [← r.length]; exact Nat.le_refl _⟩
theorem itr_rng {Γ : G} {ρ0 : List Addr} {H0 : Hp} {lo : Int} {n : Nat} : ItR Γ ρ0 H0 (Itr lo n) (IT.rng lo n) where
  go := fun i ρ ah H v hi pr kp S e => by
    cases e
    exact ⟨hi, fun x H' hy => by obtain ⟨rfl, rfl⟩ := hy; exact ⟨S, Kept.refl _, Rp.int_.mpr rfl⟩⟩
  stop := fun ρ ah H pr kp S hf => Nat.le_refl _
/-- for .. in a list, a name's or another's -/
def mItL (m : ME) : MI := fun s h => (m s h).bind fun v h1 => match v with
  | .ref n => match lsA h1 n with
    | some xs => .ok (IT.lst n xs.length) h1
    | none => .no
  | .fro xs => .ok (IT.tup xs) h1
  | _ => .no
def mItT (m : ME) : MI := fun s h => (m s h).bind fun v h1 => match v with
  | .tup xs => .ok (IT.tup xs) h1
  | _ => .no
theorem PstI.ofE {Γ : G} {σ : L2.St} {ρ : List Addr} {H : Hp} {R : It → Hp → Prop} {r : Rs A} {k : A → AH → Rs IT} (h : PstI Γ W σ ρ H R (r.bind k)) :
    Pst Γ W σ ρ H (fun u H1 => ∃ ρ1 ah1 v, Sim Γ ρ1 ah1 H1 ∧ ρ <+: ρ1 ∧ Kept H H1 ∧ Rp Γ.K ρ1 H1 v u ∧ PstI Γ W σ ρ1 H1 R (k v ah1)) r := by
  cases r with
  | ok v ah' =>
    intro ρ' H' u S a b r
    refine ⟨ρ', ah', v, S, a, b, r, ?_⟩
    have h' : PstI Γ W σ ρ H R (k v ah') := h
    cases e : k v ah' with
    | ok it h2 => rw [e] at h'; exact fun ρ2 H2 J S2 a2 b2 R2 => h' ρ2 H2 J S2 (a.trans a2) (b.trans b2) R2
    | ex x h2 => rw [e] at h'; exact fun ρ2 H2 c d S2 a2 b2 R2 => h' ρ2 H2 c d S2 (a.trans a2) (b.trans b2) R2
    | no => rw [e] at h'; exact h'
  | ex e ah' => exact h
  | no => exact h
theorem ti_list {l : Expr} {m : ME} (hl : Tri X (gO X tb) W l m) : TriI X (gO X tb) W tg l (mItL m) := by
  refine pi_weak (pi_list hl) fun σ H Q ⟨ρ, ah, sa, S, rs, p⟩ => ?_
  refine ⟨ρ, ah, sa, S, rs, p.ofE.imp fun u H1 ⟨ρ1, ah1, v, S1, p1, k1, r1, q1⟩ => ?_⟩
  split at q1
  · rename_i n
    rw [Rp.ref_] at r1
    obtain ⟨a, rfl, ea⟩ := r1
    split at q1
    · rename_i xs e
      obtain ⟨vs, hv, r⟩ := S1.ob n _ a (lsA_of e) ea
      exact ⟨a, rfl, ⟨vs, .inl (.inl hv)⟩, q1 ρ1 H1 _ S1 (List.prefix_refl _) (Kept.refl _) (itr_lst ea)⟩
    · exact q1.elim
  · rw [Rp.fro_] at r1
    obtain ⟨a, vs, rfl, t, r⟩ := r1
    exact ⟨a, rfl, ⟨vs, t.seq⟩, q1 ρ1 H1 _ S1 (List.prefix_refl _) (Kept.refl _) (itr_fro t r)⟩
  · exact q1.elim
theorem ti_tup {l : Expr} {m : ME} (hl : Tri X (gO X tb) W l m) : TriI X (gO X tb) W tg l (mItT m) := by
  refine pi_weak (pi_tup hl) fun σ H Q ⟨ρ, ah, sa, S, rs, p⟩ => ?_
  refine ⟨ρ, ah, sa, S, rs, p.ofE.imp fun u H1 ⟨ρ1, ah1, v, S1, p1, k1, r1, q1⟩ => ?_⟩
  split at q1
  · rw [Rp.tup_] at r1
    obtain ⟨a, vs, rfl, t, r⟩ := r1
    exact ⟨a, rfl, ⟨vs, t⟩, q1 ρ1 H1 _ S1 (List.prefix_refl _) (Kept.refl _) (itr_tup t r)⟩
  · exact q1.elim
/-- range(n), range(a, b) -/
def mRng1 (m : ME) : MI := fun s h => (m s h).bind fun v h1 => match v with
  | .int j => if -(2 ^ 62) ≤ j ∧ j < 2 ^ 62 then .ok (IT.rng 0 j.toNat) h1 else .no
  | _ => .no
def mRng2 (m n : ME) : MI := fun s h => (m s h).bind fun v h1 => (n s h1).bind fun u h2 => match v, u with
  | .int i, .int j => if -(2 ^ 62) ≤ i ∧ i < 2 ^ 62 ∧ -(2 ^ 62) ≤ j ∧ j < 2 ^ 62 then .ok (IT.rng i (j - i).toNat) h2 else .no
  | _, _ => .no
theorem ti_rng1 {a : Expr} {m : ME} {p : Pos} (ha : Tri X (gO X tb) W a m) (hm : X.mg "range" = none) (hg : Gl X "range" := by rfl) (hs : starEach [a] X.env = [(false, eval a X.env)] := by rfl) : TriI X (gO X tb) W tg (.Call (.Name "range" p) [a] [] pos) (mRng1 m) := by
  refine pi_weak (pi_range1 hg hm (pa_cons ha pa_nil hs) hs) fun σ H Q ⟨ρ, ah, sa, S, rs, p⟩ => ?_
  refine ⟨ρ, ah, sa, S, rs, p.ofE.imp fun u H1 ⟨ρ1, ah1, v, S1, p1, k1, r1, q1⟩ => ?_⟩
  split at q1
  · rw [Rp.int_] at r1
    split at q1
    · rename_i c
      exact ⟨_, by rw [r1], c.1, c.2, q1 ρ1 H1 _ S1 (List.prefix_refl _) (Kept.refl _) itr_rng⟩
    · exact q1.elim
  · exact q1.elim
theorem ti_rng2 {a b : Expr} {m n : ME} {p : Pos} (ha : Tri X (gO X tb) W a m) (hb : Tri X (gO X tb) W b n) (hm : X.mg "range" = none) (hg : Gl X "range" := by rfl) (hs : starEach [a, b] X.env = [(false, eval a X.env), (false, eval b X.env)] := by rfl) (hs2 : starEach [b] X.env = [(false, eval b X.env)] := by rfl) :
    TriI X (gO X tb) W tg (.Call (.Name "range" p) [a, b] [] pos) (mRng2 m n) := by
  refine pi_weak (pi_range2 hg hm (pa_cons ha (pa_cons hb pa_nil hs2) (by rw [hs, hs2])) hs hs2) fun σ H Q ⟨ρ, ah, sa, S, rs, p⟩ => ?_
  refine ⟨ρ, ah, sa, S, rs, p.ofE.imp fun u H1 ⟨ρ1, ah1, v, S1, p1, k1, r1, q1⟩ => ?_⟩
  refine ⟨ρ1, ah1, sa, S1, rs.mono p1 k1, q1.ofE.imp fun u2 H2 ⟨ρ2, ah2, v2, S2, p2, k2, r2, q2⟩ => ?_⟩
  split at q2
  · rw [Rp.int_] at r1 r2
    split at q2
    · rename_i c
      exact ⟨_, _, by rw [r1, r2], c, q2 ρ2 H2 _ S2 (List.prefix_refl _) (Kept.refl _) itr_rng⟩
    · exact q2.elim
  · exact q2.elim
end

/-! ### defs -/
abbrev MF := List A → Mo A
/-- a def's meaning: its body at its parameters -/
def mFn (n : Nat) (b : MS) : MF := fun vs h => match b (vs.map some ++ List.replicate (n - vs.length) none) h with
  | .nx _ h' => .ok .non h'
  | .rt v h' => .ok v h'
  | .ex e _ h' => .ex e h'
  | _ => .no
def spF (Γ : G) (k : Nat) (F : MF) : Sp := fun us H Q E => ∃ ρ ah vs, Sim Γ ρ ah H ∧ RpL Γ.K ρ H vs us ∧ vs.length = k ∧ Pst Γ (fun cls d _ H => E cls d H) [] ρ H Q (F vs ah)
def HasFn (P : Program) (w : World) (K : PySem.W.Frag) (mg : Str → Option Value) (base : Heap) (tb : Addr → Prop) (x : Str) (k n : Nat) (F : MF) : Prop :=
  ∃ f fd ps, ps.length = n ∧ mg x = some (.ref f) ∧ FnOk P w K mg base (L2.CX P w) k f fd ps (spF ⟨K, mg, tb⟩ n F) ∧ Binds K fd ps [] ∧ PySem.W.keepIn K (.ref f) = true
abbrev HasFnX (X : Cx) (tb : Addr → Prop) (x : Str) (k n : Nat) (F : MF) : Prop := HasFn X.prog X.w X.K X.mg X.base tb x k n F
section
variable {X : Cx} {tb : Addr → Prop} {W : WX} {x : Str} {k n : Nat} {F : MF} {p pos : Pos} {e : Expr} {es : List Expr} {ms : List ME}
theorem mArgs_len : ∀ {ms : List ME} {sa : SA} {ah : AH} {vs : List A} {h : AH}, mArgs ms sa ah = .ok vs h → vs.length = ms.length
  | [], sa, ah, vs, h, e => by cases e; rfl
  | m :: ms, sa, ah, vs, h, e => by
    unfold mArgs at e
    cases e1 : m sa ah with
    | no => rw [e1] at e; cases e
    | ex _ _ => rw [e1] at e; cases e
    | ok v h1 =>
      rw [e1] at e
      have e' : ((mArgs ms sa h1).bind fun vs ah2 => .ok (v :: vs) ah2) = .ok vs h := e
      cases e2 : mArgs ms sa h1 with
      | no => rw [e2] at e'; cases e'
      | ex _ _ => rw [e2] at e'; cases e'
      | ok ws h2 =>
        rw [e2] at e'
        cases e'
        simp [mArgs_len e2]
theorem PstL.bindEq {Γ : G} {σ : L2.St} {ρ : List Addr} {H : Hp} {Q : VK} {r : Rs (List A)} {k : List A → AH → Rs A} (h : Pst Γ W σ ρ H Q (r.bind k)) :
    PstL Γ W σ ρ H (fun us H1 => ∃ ρ1 ah1 vs, r = .ok vs ah1 ∧ Sim Γ ρ1 ah1 H1 ∧ ρ <+: ρ1 ∧ Kept H H1 ∧ RpL Γ.K ρ1 H1 vs us ∧ Pst Γ W σ ρ1 H1 Q (k vs ah1)) r := by
  cases r with
  | ok v ah' => exact fun ρ' H' u S a b r => ⟨ρ', ah', v, rfl, S, a, b, r, Pst.later h a b⟩
  | ex e ah' => exact h
  | no => exact h
theorem Pst.flat {Γ : G} {σ σ' : L2.St} {E : XK} {ρ : List Addr} {H : Hp} {Q : VK} {r : Rs A} (h : Pst Γ W σ ρ H Q r) (hE : ∀ cls d H, W cls d σ H → E cls d H) : Pst Γ (fun cls d _ H => E cls d H) σ' ρ H Q r := by
  cases r with
  | ok v ah' => exact h
  | ex e ah' => exact fun ρ' H' cls d S a b r => hE _ _ _ (h ρ' H' cls d S a b r)
  | no => exact h
theorem t_call (h : HasFnX X tb x k n F) (hr : Room k X.A) (tk : Takes X W) (ha : TriA X (gO X tb) W (e :: es) ms) (hn : ms.length = n := by rfl) (hg : Gl X x := by rfl) (hdb : (x == ("__debug__" : Str)) = false := by decide)
    (he : starEach (e :: es) X.env = (false, eval e X.env) :: starEach es X.env := by rfl) (hpl : (backTo pos (starEach es X.env)).any (·.1) = false := by rfl) : Tri X (gO X tb) W (.Call (.Name x p) (e :: es) [] pos) (mBi F ms) := by
  obtain ⟨f, fd, ps, e1, hm, G, hb, hk⟩ := h
  refine pe_weak (pe_callS (E := fun σ => WE W σ) G hr hg hm hk hb (fun σ => passAt tk σ) ha hdb he hpl) fun σ H Q ⟨ρ, ah, sa, S, rs, p⟩ => ?_
  refine ⟨ρ, ah, sa, S, rs, (PstL.bindEq p).imp fun us H1 ⟨ρ1, ah1, vs, ev, S1, p1, k1, r1, q1⟩ => ?_⟩
  exact ⟨ρ1, ah1, vs, S1, r1, by rw [mArgs_len ev, hn], q1.flat fun _ _ _ h => h⟩
/-- THE RULE for a def -/
theorem fn_okF {P : Program} {w : World} {K : PySem.W.Frag} {mg : Str → Option Value} {base : Heap} {qual : Str} {st : Stmt} {f : Addr} {fd : FuncData} {N ps : List Str} (Fn : Fun K x qual st f fd) (hm : mg x = some (.ref f)) (Sc : FnScope N ps (defScope st))
    (hb : Binds K fd ps []) {b : MS} (hps : ps.length = n := by rfl) (hN : N.length = k := by rfl) {lv : Nat}
    (hbody : ∀ (cdv : Value) (A : Around) (outer : List Env) (s : Shared) (H : Hp) (E : XK) (W : WX), Room lv (A.deeper (envOfC qual (defScope st) s.heap.objs.size f cdv)) →
      (X : Cx) → X = cxOf (L2.CX P w) P w K mg base N qual (defScope st) f cdv A outer s H E → Takes X W → PassesOwn (model X.prog X.w) X.A X.env X.xe → TriB (cxOf (L2.CX P w) P w K mg base N qual (defScope st) f cdv A outer s H E) ⟨K, mg, tb⟩ W (defBody st) b) :
    FnOk P w K mg base (L2.CX P w) (lv + 1) f fd ps (spF ⟨K, mg, tb⟩ n (mFn k b)) := by
  refine Fn.okX Sc (fun us H Q E h => ?_) (fun cdv A outer s H us Q E hr h => ?_)
  · obtain ⟨ρ, ah, vs, S, r, hl, _⟩ := h
    rw [← r.length, hl, hps]
  · obtain ⟨ρ, ah, vs, S, r, hl, p⟩ := h
    refine ⟨_, hbody cdv A outer s H E (fun cls d _ H => E cls d H) hr _ rfl (takes_of rfl rfl rfl rfl) (passes_of rfl), ?_⟩
    refine ⟨ρ, ah, vs.map some ++ List.replicate (N.length - vs.length) none, S, ?_, ?_⟩
    · unfold L2.start
      rw [r.length]
      exact SRp.start _ r
    · unfold mFn at p
      rw [← hN] at p
      cases e : b (vs.map some ++ List.replicate (N.length - vs.length) none) ah with
      | nx s' h' => rw [e] at p; exact fun ρ' H' σ' S' a b' r' => p ρ' H' .non S' a b' (Rp.non_.mpr rfl)
      | rt v h' => rw [e] at p; exact p
      | bk s' h' => rw [e] at p; exact p.elim
      | ct s' h' => rw [e] at p; exact p.elim
      | ex e' s' h' => rw [e] at p; exact fun ρ' H' σ' cls d S' a b' r' x' => p ρ' H' cls d S' a b' x'
      | no => rw [e] at p; exact p.elim
theorem fn_ok {P : Program} {w : World} {K : PySem.W.Frag} {mg : Str → Option Value} {base : Heap} {qual : Str} {st : Stmt} {f : Addr} {fd : FuncData} {N ps : List Str} (Fn : Fun K x qual st f fd) (hm : mg x = some (.ref f)) (Sc : FnScope N ps (defScope st))
    (hb : Binds K fd ps []) {b : MS} (hps : ps.length = n := by rfl) (hN : N.length = k := by rfl) {lv : Nat}
    (hbody : ∀ (cdv : Value) (A : Around) (outer : List Env) (s : Shared) (H : Hp) (E : XK) (W : WX), Room lv (A.deeper (envOfC qual (defScope st) s.heap.objs.size f cdv)) →
      (X : Cx) → X = cxOf (L2.CX P w) P w K mg base N qual (defScope st) f cdv A outer s H E → Takes X W → PassesOwn (model X.prog X.w) X.A X.env X.xe → TriB (cxOf (L2.CX P w) P w K mg base N qual (defScope st) f cdv A outer s H E) ⟨K, mg, tb⟩ W (defBody st) b) :
    HasFn P w K mg base tb x (lv + 1) n (mFn k b) := ⟨f, fd, ps, hps, hm, fn_okF Fn hm Sc hb hps hN hbody, hb, Fn.kp⟩
end
end Z

namespace Z
open PySem PySem.Spec PyProof.Rows L2
section
variable {X : Cx} {tb : Addr → Prop} {W : WX} {st : Stmt} {x : Str} {pos : Pos}
def mNever : MS := fun _ _ => .no
theorem ts_never : TriS X (gO X tb) W st mNever := ps_weak ps_never fun D σ H ⟨ρ, ah, sa, S, rs, p⟩ => p
theorem t_glob {i : Int} (hm : ∃ t, X.mg x = some (.int i t)) (hg : Gl X x := by rfl) (hd : (x == ("__debug__" : Str)) = false := by decide) : Tri X (gO X tb) W (.Name x pos) (mC (.int i)) := by
  obtain ⟨t, hm⟩ := hm
  exact t_c (v := .int i) (pe_glob hg hm ⟨t, rfl⟩ hd) fun _ _ => by simp [Rp]
theorem t_globS {i : Str} (hm : ∃ t, X.mg x = some (.str i t)) (hg : Gl X x := by rfl) (hd : (x == ("__debug__" : Str)) = false := by decide) : Tri X (gO X tb) W (.Name x pos) (mC (.str i)) := by
  obtain ⟨t, hm⟩ := hm
  exact t_c (v := .str i) (pe_glob hg hm ⟨t, rfl⟩ hd) fun _ _ => by simp [Rp]
end
/-- the items of a list, a still one or one of the heap's -/
def lsV (ah : AH) : A → Option (List A)
  | .fro xs => some xs
  | .ref n => lsA ah n
  | _ => none
/-- the law holds: from its meaning -/
def LawM (F : MF) : Prop := ∀ (v : A) (ah : AH) (ns : List Int), ns.length ≤ 63 → (∀ z ∈ ns, Builtin.Int.intBits z ≤ 1048576) → lsV ah v = some (ns.map .int) → ∃ ah', F [v] ah = .ok (.bl true) ah'
theorem RpL.ints {K : PySem.W.Frag} {ρ : List Addr} {H : Hp} : ∀ ns : List Int, RpL K ρ H (ns.map .int) (ns.map V.int)
  | [] => RpL.nil
  | n :: ns => RpL.cons (Rp.int_.mpr rfl) (RpL.ints ns)
theorem law_sp {Γ : G} {F : MF} (hF : LawM F) {H : Hp} {a : Addr} {ns : List Int} (hl : ns.length ≤ 63) (hb : ∀ z ∈ ns, Builtin.Int.intBits z ≤ 1048576) (ht : ∀ P, Γ.tb P → Tb H P) (hS : SqL Γ.K H a (ns.map V.int)) :
    spF Γ 1 F [.ref a] H (fun v _ => v = .bl true) fun _ _ _ => False := by
  have fin : ∀ {ρ : List Addr} {ah : AH} {v : A}, Sim Γ ρ ah H → Rp Γ.K ρ H v (.ref a) → lsV ah v = some (ns.map .int) → spF Γ 1 F [.ref a] H (fun v _ => v = .bl true) fun _ _ _ => False := fun {ρ ah v} S r e => by
    obtain ⟨ah', e2⟩ := hF v ah ns hl hb e
    refine ⟨ρ, ah, [v], S, RpL.cons r RpL.nil, rfl, ?_⟩
    rw [e2]
    intro ρ' H' u S' _ _ r'
    exact Rp.bl_.mp r'
  have S0 : Sim Γ [] [] H := ⟨rfl, List.nodup_nil, fun n o a e _ => by simp at e, ht⟩
  have froz : SqF Γ.K H a (ns.map V.int) → spF Γ 1 F [.ref a] H (fun v _ => v = .bl true) fun _ _ _ => False := fun h =>
    fin S0 (v := .fro (ns.map .int)) (Rp.fro_.mpr ⟨a, _, rfl, h, RpL.ints ns⟩) rfl
  rcases hS with (h | ⟨o, h⟩) | h
  · have S1 : Sim Γ [a] [.lst (ns.map .int)] H := ⟨rfl, by simp, fun n o b e1 e2 => by
      cases n with
      | zero => cases e1; cases e2; exact ⟨_, h, RpL.ints ns⟩
      | succ n => simp at e1, ht⟩
    exact fin S1 (v := .ref 0) (Rp.ref_.mpr ⟨a, rfl, rfl⟩) rfl
  · exact froz (.inl ⟨o, h⟩)
  · exact froz (.inr h)
theorem cx_end {P : Program} {w : World} (H : Hp) (s : Shared) (e : Value) (s' : Shared) : L2.CX P w [] H s (fun _ _ _ => False) e s' → False := fun h => by
  obtain ⟨_, _, _, _, _, _, _, _, _, _, _, _, z⟩ := h
  exact z
end Z

namespace Z
open PySem PySem.Spec PyProof.Rows L2

/-! ### an own error of one field, raised -/
def spI (C : Addr) (f : Str) : Sp := fun us H Q _ => ∃ a v, us = [.ref a, v] ∧ H a = some (exo a C none) ∧ ∀ d, H d = none → d ≠ a → Q .non (upd (upd H d (exd d [(f, v)])) a (exo a C (some d)))
structure HasEx (P : Program) (w : World) (K : PySem.W.Frag) (mg : Str → Option Value) (base : Heap) (c f : Str) (C : Addr) : Prop where
  gC : mg c = some (.ref C)
  T : OexC K C
  noN : PySem.W.findIn K (.ref C) f = some none
  init : ∃ fI fd, PySem.W.findIn K (.ref C) "__init__" = some (some (.ref fI)) ∧ PySem.W.typeIn K (.ref fI) = some (.type "function") ∧ FnOk P w K mg base CX0 1 fI fd ["self", f] (spI C f) ∧ Binds K fd ["self", f] []
/-- its __init__ -/
theorem init_ok {P : Program} {w : World} {K : PySem.W.Frag} {mg : Str → Option Value} {base : Heap} {x qual f : Str} {st : Stmt} {fI C : Addr} {fd : FuncData} {p1 p2 p3 p4 : Pos} (Fn : Fun K x qual st fI fd) (Sc : FnScope ["self", f] ["self", f] (defScope st)) (T : OexC K C) (noN : PySem.W.findIn K (.ref C) f = some none)
    (hb : defBody st = [.Assign [.Attribute (.Name "self" p1) f p2] (.Name f p3) p4]) (hs : (defScope st).names.lookup ("self" : Str) = some .local) (hf : (defScope st).names.lookup f = some .local) (hd : (f == ("__debug__" : Str)) = false) (hcd : (f == ("__classdict__" : Str)) = false) : FnOk P w K mg base CX0 1 fI fd ["self", f] (spI C f) := by
  refine Fn.ok Sc (fun us H Q E h => ?_) (fun cdv A outer s H us Q E hr h => ?_)
  · obtain ⟨a, v, rfl, _⟩ := h
    rfl
  · obtain ⟨a, v, rfl, ha, q⟩ := h
    rw [hb]
    refine ⟨_, pss_one (ps_ost (pv 0 rfl (.inl hs)) (pv 1 rfl (.inl hf) hd hcd)), ?_⟩
    refine ⟨v, rfl, .ref a, rfl, a, C, rfl, T, noN, .inl ⟨ha, fun dx n1 n2 => q dx n1 n2⟩⟩
def mRaise (c f : Str) (m : ME) : MS := fun s h => (m s h).st s fun v h1 => .ex ⟨c, [(f, v)]⟩ s h1
section
variable {X : Cx} {tb : Addr → Prop} {W : WX} {e : Expr} {m : ME} {c f : Str} {C : Addr} {p pos pos2 : Pos}
theorem upd_del {H1 : Hp} {a d C : Addr} {fs : List (Str × V)} (ha : H1 a = none) (hd : H1 d = none) (ne : d ≠ a) : upd (del (upd (upd (upd H1 a (exo a C none)) d (exd d fs)) a (exo a C (some d))) a) d (.xd fs) = upd H1 d (.xd fs) := by
  funext b
  unfold upd del
  by_cases h1 : b = d
  · simp [h1]
  · by_cases h2 : b = a
    · simp [h1, h2, ha]
    · simp [h1, h2]
theorem ts_raise (h : HasEx X.prog X.w X.K X.mg X.base c f C) (hr : Room 2 X.A) (hc : X.calm = true) (tk : Takes X W) (he : Tri X (gO X tb) W e m) (hg : Gl X c := by rfl) (hdb : (c == ("__debug__" : Str)) = false := by decide)
    (hst : starEach [e] X.env = (false, eval e X.env) :: starEach [] X.env := by rfl) (hpl : (backTo pos (starEach ([] : List Expr) X.env)).any (·.1) = false := by rfl) : TriS X (gO X tb) W (.Raise (some (.Call (.Name c p) [e] [] pos)) none pos2) (mRaise c f m) := by
  obtain ⟨fI, fd, iC, tI, F1, hb⟩ := h.init
  refine ps_weak (ps_raise hc tk (pmk_oex h.T iC tI F1 hr hb .nil (fun _ _ _ _ _ _ _ z => z.elim) hg h.gC (pa_cons he pa_nil hst) hdb hst hpl)) fun D σ H ⟨ρ, ah, sa, S, rs, p⟩ => ?_
  refine ⟨ρ, ah, sa, S, rs, (PstS.ofE rs p).imp fun u H1 ⟨ρ1, ah1, v, S1, p1, k1, r1, q1⟩ => ?_⟩
  refine ⟨by show 1 ≤ 1000; decide, fun a na => ⟨a, u, rfl, upd_same, fun d nd ne => ?_⟩⟩
  have nd' : H1 d = none := by rw [upd_ne ne] at nd; exact nd
  refine ⟨rfl, d, [(f, u)], upd_same, by rw [upd_ne ne, upd_same], nd', ?_⟩
  rw [upd_del na nd' ne]
  have kp : Kept H1 (upd H1 d (.xd [(f, u)])) := Kept.new nd'
  exact q1 ρ1 _ σ _ _ (S1.beside nd') (List.prefix_refl _) kp (rs.mono p1 (k1.trans kp)) ⟨C, d, [(f, u)], h.gC, rfl, rfl, upd_same, rfl, RpL.cons (Rp.mono (List.prefix_refl _) kp _ _ r1) RpL.nil⟩
end
end Z

namespace Z
open PySem PySem.Spec PyProof.Rows L2

/-! ### list comprehensions -/
abbrev W0 : WX := fun _ _ _ _ => False
/-- what is raised within is not told -/
def Rs.bindN {α β : Type} (r : Rs α) (k : α → AH → Rs β) : Rs β := match r with
  | .ok a h => k a h
  | _ => .no
def wipeA (s : SA) : List Nat → SA
  | [] => s
  | v :: vs => (wipeA s vs).set v none
theorem SRp.wipe {K : PySem.W.Frag} {ρ : List Addr} {H : Hp} {sa : SA} {σ : L2.St} (r : SRp K ρ H sa σ) : ∀ vs : List Nat, SRp K ρ H (wipeA sa vs) (L2.wipe σ vs)
  | [] => r
  | v :: vs => by
    unfold wipeA L2.wipe
    exact (r.wipe vs).forget v
theorem wipe_comm (σ : L2.St) (v w : Nat) (vs : List Nat) : (L2.wipe σ vs).set w none = L2.wipe (σ.set w none) vs := by
  induction vs with
  | nil => rfl
  | cons u us ih =>
    unfold L2.wipe
    by_cases e : u = w
    · subst e; rw [← ih]
    · rw [List.set_comm _ _ e, ih]
theorem wipe_set {σ : L2.St} {i : Nat} {u : Option V} : ∀ {vs : List Nat}, i ∈ vs → L2.wipe (σ.set i u) vs = L2.wipe σ vs
  | [], h => by simp at h
  | v :: vs, h => by
    unfold L2.wipe
    by_cases e : i = v
    · subst e
      by_cases hm : i ∈ vs
      · rw [wipe_set hm]
      · rw [wipe_comm _ i, wipe_comm _ i, List.set_set]
    · rw [wipe_set (by simpa [e] using h)]
theorem wipe_wipe (σ : L2.St) : ∀ vs : List Nat, L2.wipe (L2.wipe σ vs) vs = L2.wipe σ vs
  | [] => rfl
  | v :: vs => by
    show L2.wipe ((L2.wipe σ vs).set v none) (v :: vs) = _
    rw [wipe_set (List.mem_cons_self ..)]
    show (L2.wipe (L2.wipe σ vs) vs).set v none = _
    rw [wipe_wipe σ vs]
    rfl
/-- a comprehension's target: to its own slots alone -/
def CtM (X : Cx) (Γ : G) (tg : Expr) (vs : List Nat) (ga : A → SA → Option SA) : Prop :=
  ∃ g, PG X tg g ∧ ∀ v u σ sa sa' ρ H Q, Rp Γ.K ρ H v u → SRp Γ.K ρ H sa σ → ga v sa = some sa' → (∀ σ', SRp Γ.K ρ H sa' σ' → L2.wipe σ' vs = L2.wipe σ vs → Q σ' H) → g u σ H Q
def c1 (i : Nat) (v : A) (s : SA) : Option SA := some (s.set i (some v))
def cTs : List Nat → List A → SA → Option SA
  | [], [], s => some s
  | i :: is, v :: vs, s => cTs is vs (s.set i (some v))
  | _, _, _ => none
def cT (is : List Nat) (v : A) (s : SA) : Option SA := match v with
  | .tup xs => cTs is xs s
  | _ => none
section
variable {X : Cx} {Γ : G} {tb : Addr → Prop} {vs : List Nat}
theorem ct_1 {x : Str} {pos : Pos} (i : Nat) (hv : i ∈ vs := by decide) (hN : X.N.Nodup) (hi : X.N[i]? = some x := by rfl) (hx : Loc X.env.scope x := by first | exact Or.inl rfl | exact Or.inr rfl) (hf : X.fn x = true ∨ X.env.scope.names.lookup x = some .local := by first | exact .inl rfl | exact .inr rfl | assumption) : CtM X Γ (.Name x pos) vs (c1 i) :=
  ⟨_, pg_name hN hi hx hf, fun v u σ sa sa' ρ H Q r rs e q => by
    cases e
    exact q _ (rs.set i r) (wipe_set hv)⟩
/-- names in a row -/
def CtsM (X : Cx) (Γ : G) (tgs : List Expr) (vs : List Nat) (is : List Nat) : Prop :=
  (assignEach tgs X.env).length = is.length ∧ (assignEach tgs X.env).findIdx? (·.1) = none ∧ ∃ g, PGs X tgs g ∧ ∀ xs us σ sa sa' ρ H Q, RpL Γ.K ρ H xs us → SRp Γ.K ρ H sa σ → cTs is xs sa = some sa' → (∀ σ', SRp Γ.K ρ H sa' σ' → L2.wipe σ' vs = L2.wipe σ vs → Q σ' H) → g us σ H Q
theorem cts_nil : CtsM X Γ [] vs [] := ⟨rfl, rfl, _, pgs_nil, fun xs us σ sa sa' ρ H Q r rs e q => by
  cases xs with
  | nil => simp only [RpL] at r; cases e; exact ⟨r, q _ rs rfl⟩
  | cons _ _ => cases e⟩
theorem cts_cons {x : Str} {pos : Pos} {es : List Expr} {is : List Nat} (i : Nat) (t : CtsM X Γ es vs is) (hN : X.N.Nodup) (hv : i ∈ vs := by decide) (hi : X.N[i]? = some x := by rfl) (hx : Loc X.env.scope x := by first | exact Or.inl rfl | exact Or.inr rfl) (hf : X.fn x = true ∨ X.env.scope.names.lookup x = some .local := by first | exact .inl rfl | exact .inr rfl | assumption)
    (hs : (assignEach (.Name x pos :: es) X.env).map (·.2) = assign (.Name x pos) X.env :: (assignEach es X.env).map (·.2) := by rfl) (hn : (assignEach (.Name x pos :: es) X.env).length = (assignEach es X.env).length + 1 := by rfl) (hst : (assignEach (.Name x pos :: es) X.env).findIdx? (·.1) = none := by rfl) : CtsM X Γ (.Name x pos :: es) vs (i :: is) := by
  obtain ⟨l, st, g, h1, h2⟩ := t
  refine ⟨by rw [hn, l]; rfl, hst, _, pgs_cons (pg_name hN hi hx hf) h1 hs, fun xs us σ sa sa' ρ H Q r rs e q => ?_⟩
  cases xs with
  | nil => cases e
  | cons v xs =>
    simp only [RpL] at r
    obtain ⟨u, us', rfl, r1, r2⟩ := r
    exact ⟨u, us', rfl, h2 xs us' _ _ _ ρ H _ r2 (rs.set i r1) e fun σ' rs' w => q σ' rs' (w.trans (wipe_set hv))⟩
theorem cTs_len : ∀ {is : List Nat} {xs : List A} {s s' : SA}, cTs is xs s = some s' → xs.length = is.length
  | [], [], _, _, _ => rfl
  | _ :: is, _ :: xs, _, _, e => by simp [cTs_len (is := is) (xs := xs) e]
  | [], _ :: _, _, _, e => by cases e
  | _ :: _, [], _, _, e => by cases e
theorem ct_t {es : List Expr} {is : List Nat} {k : Nat} {pos : Pos} (hc : X.calm = true) (t : CtsM X (gO X tb) es vs is) : CtM X (gO X tb) (.Tuple es k pos) vs (cT is) := by
  obtain ⟨l, st, g, h1, h2⟩ := t
  refine ⟨_, pg_tup hc h1 l st, fun v u σ sa sa' ρ H Q r rs e q => ?_⟩
  cases v with
  | tup xs =>
    rw [Rp.tup_] at r
    obtain ⟨a, vs', rfl, t, rl⟩ := r
    exact ⟨a, vs', rfl, t, by rw [← rl.length]; exact cTs_len e, h2 xs vs' σ sa sa' ρ H Q rl rs e q⟩
  | _ => cases e
end
def mYes : MT := fun _ h => .ok true h
def TriPTs (X : Cx) (Γ : G) (W : WX) (ifs : List Expr) (m : MT) : Prop := PTs X ifs (tT Γ W m)
theorem pts_weak {X : Cx} {e : List Expr} {t t' : TT} (h : PTs X e t) (f : ∀ σ H Q, t' σ H Q → t σ H Q) : PTs X e t' := ⟨fun pins s σ H Q I q => h.run pins s σ H Q I (f _ _ _ q)⟩
theorem tp_nil {X : Cx} {Γ : G} {W : WX} : TriPTs X Γ W [] mYes := pts_weak pts_nil fun σ H Q ⟨ρ, ah, sa, S, rs, p⟩ => PstT.ret S p
theorem tp_one {X : Cx} {Γ : G} {W : WX} {c : Expr} {m : MT} (h : TriT X Γ W c m) : TriPTs X Γ W [c] m := pts_one h
def lcGo (it : IT) (ga : A → SA → Option SA) (tt : MT) (me : ME) (n : Nat) (sa : SA) : Nat → Nat → AH → Rs A
  | 0, _, h => if it.fin h = true then .ok (.ref n) h else .no
  | k + 1, i, h => match it.item i h with
    | none => .no
    | some v => match ga v sa with
      | none => .no
      | some s2 => (tt s2 h).bindN fun b h3 => if b = true then (me s2 h3).bindN fun y h4 => match h4[n]? with
          | some (.lst acc) => if acc.length < sizeLine then lcGo it ga tt me n sa k (i + 1) (h4.set n (.lst (acc ++ [y]))) else .no
          | _ => .no
        else lcGo it ga tt me n sa k (i + 1) h3
def mLc (mi : MI) (ga : A → SA → Option SA) (tt : MT) (me : ME) (vs : List Nat) : ME := fun s h => (mi s h).bind fun it h1 => lcGo it ga tt me h1.length (wipeA s vs) it.cnt 0 (h1 ++ [.lst []])
section
variable {X : Cx} {tb : Addr → Prop} {W : WX} {tg iter elt : Expr} {ifs : List Expr} {mi : MI} {ga : A → SA → Option SA} {mt : MT} {me : ME} {own : List (Str × Nat)} {scope : Scope} {pos : Pos}
theorem PstT.N {Γ : G} {σ : L2.St} {ρ : List Addr} {H : Hp} {Q : VK} {r : Rs Bool} {k : Bool → AH → Rs A} (h : Pst Γ W σ ρ H Q (r.bindN k)) :
    PstT Γ W0 σ ρ H (fun b H1 => ∃ ρ1 ah1, Sim Γ ρ1 ah1 H1 ∧ ρ <+: ρ1 ∧ Kept H H1 ∧ Pst Γ W σ ρ1 H1 Q (k b ah1)) r := by
  cases r with
  | ok v ah' => exact fun ρ' H' S a b => ⟨ρ', ah', S, a, b, Pst.later h a b⟩
  | ex e ah' => exact False.elim h
  | no => exact h
theorem Pst.N {Γ : G} {σ : L2.St} {ρ : List Addr} {H : Hp} {Q : VK} {r : Rs A} {k : A → AH → Rs A} (h : Pst Γ W σ ρ H Q (r.bindN k)) :
    Pst Γ W0 σ ρ H (fun u H1 => ∃ ρ1 ah1 v, Sim Γ ρ1 ah1 H1 ∧ ρ <+: ρ1 ∧ Kept H H1 ∧ Rp Γ.K ρ1 H1 v u ∧ Pst Γ W σ ρ1 H1 Q (k v ah1)) r := by
  cases r with
  | ok v ah' => exact fun ρ' H' u S a b r => ⟨ρ', ah', v, S, a, b, r, Pst.later h a b⟩
  | ex e ah' => exact False.elim h
  | no => exact h
theorem Pst.slot {Γ : G} {σ σ' : L2.St} {ρ : List Addr} {H : Hp} {Q : VK} {r : Rs A} (h : Pst Γ W0 σ ρ H Q r) : Pst Γ W0 σ' ρ H Q r := by
  cases r with
  | ok v ah' => exact h
  | ex e ah' => exact fun ρ' H' cls d S a b x => h ρ' H' cls d S a b x
  | no => exact h
theorem PstT.slot {Γ : G} {σ σ' : L2.St} {ρ : List Addr} {H : Hp} {Q : Bool → Hp → Prop} {r : Rs Bool} (h : PstT Γ W0 σ ρ H Q r) : PstT Γ W0 σ' ρ H Q r := by
  cases r with
  | ok v ah' => exact h
  | ex e ah' => exact fun ρ' H' cls d S a b x => h ρ' H' cls d S a b x
  | no => exact h
/-- the reading -/
theorem lc_rel {g : TG} {σ : L2.St} {H : Hp} {Q : VK} (hg : ∀ v u σ sa sa' ρ H Q, Rp X.K ρ H v u → SRp X.K ρ H sa σ → ga v sa = some sa' → (∀ σ', SRp X.K ρ H sa' σ' → L2.wipe σ' (own.map (·.2)) = L2.wipe σ (own.map (·.2)) → Q σ' H) → g u σ H Q)
    (h : tE (gO X tb) W (mLc mi ga mt me (own.map (·.2))) σ H Q) : tLc (tI (gO X tb) W mi) g (tT (gO X tb) W0 mt) (tE (gO X tb) W0 me) (own.map (·.2)) σ H Q := by
  obtain ⟨ρ, ah, sa, S, rs, p⟩ := h
  refine ⟨ρ, ah, sa, S, rs, ?_⟩
  unfold mLc at p
  cases e : mi sa ah with
  | no => rw [e] at p; exact p.elim
  | ex x h => rw [e] at p; exact fun ρ' H' cls d S' a b r => p ρ' H' cls d S' a b r
  | ok it h1 =>
    rw [e] at p
    intro ρ0 H0 J S0 a0 b0 R D hD
    have SN : Sim (gO X tb) (ρ0 ++ [D]) (h1 ++ [.lst []]) (upd H0 D (.lst [])) := S0.new hD (show Orp _ _ _ _ (.lst []) from ⟨[], upd_same, RpL.nil⟩)
    have kN : Kept H0 (upd H0 D (.lst [])) := Kept.new hD
    have p0 : Pst (gO X tb) W σ (ρ0 ++ [D]) (upd H0 D (.lst [])) Q (lcGo it ga mt me h1.length (wipeA sa (own.map (·.2))) it.cnt 0 (h1 ++ [.lst []])) := Pst.later p (a0.trans ⟨[D], rfl⟩) (b0.trans kN)
    refine ⟨fun i m H => ∃ ρ ah, ρ0 ++ [D] <+: ρ ∧ Kept (upd H0 D (.lst [])) H ∧ m + i = it.cnt ∧ Sim (gO X tb) ρ ah H ∧ Pst (gO X tb) W σ ρ H Q (lcGo it ga mt me h1.length (wipeA sa (own.map (·.2))) m i ah), ⟨it.cnt, ρ0 ++ [D], _, List.prefix_refl _, Kept.refl _, rfl, SN, p0⟩, ?_⟩
    rintro i m H ⟨ρ, ah, pr, kp, em, S, p⟩
    have hDn : ρ[h1.length]? = some D := by
      obtain ⟨t, rfl⟩ := pr
      rw [List.append_assoc, List.getElem?_append_right (by rw [S0.len]; exact Nat.le_refl _), S0.len]
      simp
    have pr0 : ρ0 <+: ρ := List.IsPrefix.trans ⟨[D], rfl⟩ pr
    have kp0 : Kept H0 H := kN.trans kp
    have rsW : SRp X.K ρ H (wipeA sa (own.map (·.2))) (L2.wipe σ (own.map (·.2))) := SRp.mono (a0.trans pr0) (b0.trans kp0) (rs.wipe _)
    cases m with
    | zero =>
      unfold lcGo at p
      split at p
      · rename_i hf
        have ei : i = it.cnt := by omega
        subst ei
        exact .inl ⟨R.stop ρ ah H pr0 kp0 S hf, Pst.ret S (Rp.ref_.mpr ⟨D, rfl, hDn⟩) p⟩
      · exact p.elim
    | succ k =>
      unfold lcGo at p
      split at p
      · exact p.elim
      · rename_i v ev
        split at p
        · exact p.elim
        · rename_i s2 es2
          obtain ⟨g1, g2⟩ := R.go i ρ ah H v (by omega) pr0 kp0 S ev
          refine .inr ⟨g1, fun H' => ∃ ρ ah, ρ0 ++ [D] <+: ρ ∧ Kept (upd H0 D (.lst [])) H' ∧ k + (i + 1) = it.cnt ∧ Sim (gO X tb) ρ ah H' ∧ Pst (gO X tb) W σ ρ H' Q (lcGo it ga mt me h1.length (wipeA sa (own.map (·.2))) k (i + 1) ah), fun H' h => ⟨k, Nat.lt_succ_self k, h⟩, fun x H' hy => ?_⟩
          obtain ⟨S', k', r'⟩ := g2 x H' hy
          refine hg v x _ _ s2 ρ H' _ r' (rsW.mono (List.prefix_refl _) k') es2 fun σ2 rs2 w2 => ⟨by rw [w2, wipe_wipe], ?_⟩
          refine ⟨ρ, ah, s2, S', rs2, (PstT.slot (PstT.N (Pst.later p (List.prefix_refl _) k'))).imp fun b H3 ⟨ρ3, ah3, S3, p3, k3, q3⟩ => ?_⟩
          cases b with
          | false =>
            exact iteF ⟨ρ3, ah3, pr.trans p3, kp.trans (k'.trans k3), by omega, S3, q3⟩
          | true =>
            refine iteT ⟨ρ3, ah3, s2, S3, rs2.mono p3 k3, (Pst.slot (Pst.N q3)).imp fun y H4 ⟨ρ4, ah4, yv, S4, p4, k4, r4, q4⟩ => ?_⟩
            split at q4
            · rename_i acc eacc
              split at q4
              · rename_i hl
                have hD4 : ρ4[h1.length]? = some D := by
                  obtain ⟨t, rfl⟩ := p3.trans p4
                  rw [List.getElem?_append_left]
                  · exact hDn
                  · rcases Nat.lt_or_ge h1.length ρ.length with z | z
                    · exact z
                    · rw [List.getElem?_eq_none z] at hDn; cases hDn
                obtain ⟨vs, hv, rv⟩ := S4.ob _ _ _ eacc hD4
                obtain ⟨S5, k5⟩ := sim_set (ws := vs ++ [y]) (ys := acc ++ [yv]) S4 hD4 hv (rv.append (RpL.cons r4 RpL.nil))
                exact ⟨vs, hv, by rw [← rv.length]; exact hl, ρ4, _, pr.trans (p3.trans p4), kp.trans (k'.trans (k3.trans (k4.trans k5))), by omega, S5, Pst.later q4 (List.prefix_refl _) k5⟩
              · exact q4.elim
            · exact q4.elim
theorem t_lc (hc : X.calm = true) (hN : X.N.Nodup) (hi : TriI X (gO X tb) W tg iter mi) (ok : BlkOk X.N X.env.scope scope own) {g : TG}
    (hg : (∀ (s : Shared) (H : Hp) (C : Addr) (cl : List (Str × Addr)) (fp : List Addr), PG (X.blk s H scope (compEnvC scope cl C X.env) fp) tg g) ∧ ∀ v u σ sa sa' ρ H Q, Rp X.K ρ H v u → SRp X.K ρ H sa σ → ga v sa = some sa' → (∀ σ', SRp X.K ρ H sa' σ' → L2.wipe σ' (own.map (·.2)) = L2.wipe σ (own.map (·.2)) → Q σ' H) → g u σ H Q)
    (ht : ∀ (s : Shared) (H : Hp) (C : Addr) (cl : List (Str × Addr)) (fp : List Addr), TriPTs (X.blk s H scope (compEnvC scope cl C X.env) fp) (gO X tb) W0 ifs mt)
    (he : ∀ (s : Shared) (H : Hp) (C : Addr) (cl : List (Str × Addr)) (fp : List Addr), Tri (X.blk s H scope (compEnvC scope cl C X.env) fp) (gO X tb) W0 elt me) (hs : ∀ x, foldedSetIterable iter X.env x = pure x := by intro _; rfl) :
    Tri X (gO X tb) W (.ListComp elt [⟨tg, iter, ifs, 0⟩] scope pos) (mLc mi ga mt me (own.map (·.2))) :=
  pe_weak (pe_lc hc hN hi ok hg.1 ht he hs) fun σ H Q h => lc_rel hg.2 h
theorem ts_setLc {i : Nat} {y : Str} {py spos : Pos} (hc : X.calm = true) (hN : X.N.Nodup) (hsw : swapsWith (.ListComp elt [⟨tg, iter, ifs, 0⟩] scope pos) (some (.Name y py)) spos.line X.env = pure true) (hi : TriI X (gO X tb) W tg iter mi) (ok : BlkOk X.N X.env.scope scope own) {g : TG}
    (hg : (∀ (s : Shared) (H : Hp) (C : Addr) (cl : List (Str × Addr)) (fp : List Addr), PG (X.blk s H scope (compEnvC scope cl C X.env) fp) tg g) ∧ ∀ v u σ sa sa' ρ H Q, Rp X.K ρ H v u → SRp X.K ρ H sa σ → ga v sa = some sa' → (∀ σ', SRp X.K ρ H sa' σ' → L2.wipe σ' (own.map (·.2)) = L2.wipe σ (own.map (·.2)) → Q σ' H) → g u σ H Q)
    (ht : ∀ (s : Shared) (H : Hp) (C : Addr) (cl : List (Str × Addr)) (fp : List Addr), TriPTs (X.blk s H scope (compEnvC scope cl C X.env) fp) (gO X tb) W0 ifs mt)
    (he : ∀ (s : Shared) (H : Hp) (C : Addr) (cl : List (Str × Addr)) (fp : List Addr), Tri (X.blk s H scope (compEnvC scope cl C X.env) fp) (gO X tb) W0 elt me) (hs : ∀ x, foldedSetIterable iter X.env x = pure x := by intro _; rfl) (hy : X.N[i]? = some y := by rfl) (hyl : X.env.scope.names.lookup y = some .local := by rfl) :
    TriS X (gO X tb) W (.Assign [.Name y py] (.ListComp elt [⟨tg, iter, ifs, 0⟩] scope pos) spos) (mAsg (mLc mi ga mt me (own.map (·.2))) (gN i)) := by
  refine ps_weak (ps_setLc hc hN hy hyl hsw hi ok hg.1 ht he hs) fun D σ H ⟨ρ, ah, sa, S, rs, p⟩ => ?_
  exact lc_rel hg.2 ⟨ρ, ah, sa, S, rs, (PstS.ofE rs p).imp fun u H1 ⟨ρ1, ah1, v, S1, p1, k1, r1, q1⟩ => PstS.nx S1 ((rs.mono p1 k1).set i r1) q1⟩
end
end Z

namespace Z
open PySem PySem.Spec PyProof.Rows L2

section
variable {X : Cx} {tb : Addr → Prop} {W : WX}
/-! ### isqrt -/
def bIsqrt : List A → Mo A
  | [.int i] => fun ah => if 0 ≤ i ∧ i.toNat.log2 < 13000 then .ok (.int ((Float64.isqrt i.toNat : Nat) : Int)) ah else .no
  | _ => fun _ => .no
theorem cr_isqrt : CallR X (.builtin "math.isqrt") (fun vs H Q => ∃ i : Int, vs = [.int i] ∧ 0 ≤ i ∧ i.toNat.log2 < 13000 ∧ Q (.int ((Float64.isqrt i.toNat : Nat) : Int)) H) := by
  intro pins s σ H vs us Q I r h
  obtain ⟨i, rfl, h0, hl, q⟩ := h
  obtain ⟨u, rfl, t, rfl⟩ := vals1 r
  exact call_function_meets PySem.W.MGF.kind_isqrt PySem.W.MGF.plain_isqrt PySem.W.MGF.entry_isqrt (PySem.W.MGF.args_isqrt _) (PySem.W.mg_run_isqrt i t (by omega) (by omega) (by omega)).meets ⟨.int _, H, I.tok _, ⟨_, rfl⟩, q⟩
theorem b_isqrt : CallM X (gO X tb) W (.builtin "math.isqrt") bIsqrt := ⟨_, cr_isqrt, fun σ vs ah ρ H us Q S r p => by
  unfold bIsqrt at p
  split at p
  · obtain ⟨u, rfl, r1⟩ := r.one
    rw [Rp.int_] at r1; subst r1
    try dsimp only at p
    split at p
    · rename_i c
      exact ⟨_, rfl, c.1, c.2, Pst.ret S (Rp.int_.mpr rfl) p⟩
    · exact p.elim
  · exact p.elim⟩

/-! ### any, all of a list or a tuple of numbers, bools, Nones -/
def trV : V → Option Bool
  | .non => some false
  | .bl b => some b
  | .int i => some (i != 0)
  | _ => none
def trA : A → Option Bool
  | .non => some false
  | .bl b => some b
  | .int i => some (i != 0)
  | _ => none
theorem truth_vals {prog : Program} {w : World} {A : Around} {vs : List V} {its : List Value} {bs : List Bool} (r : Vals vs its) (e : vs.mapM trV = some bs) :
    TruthOf prog w A (fun i v => its.toArray[i]? = some v) (fun i => bs.getD i false) := fun i v s Q E hv hq => by
  have hv' : its[i]? = some v := by simpa using hv
  have key : ∀ {vs : List V} {its : List Value} {bs : List Bool} {i : Nat}, Vals vs its → vs.mapM trV = some bs → its[i]? = some v → Q (bs.getD i false) s → wpAny (model prog w) A (truthy v) Q E s := by
    intro vs
    induction vs with
    | nil => intro its bs i r e hv hq; cases r; simp at hv
    | cons x xs ih =>
      intro its bs i r e hv hq
      cases r with
      | cons r1 r2 =>
        rw [List.mapM_cons] at e
        cases e1 : trV x with
        | none => rw [e1] at e; cases e
        | some b =>
          cases e2 : xs.mapM trV with
          | none => rw [e1, e2] at e; cases e
          | some bs' =>
            rw [e1, e2] at e
            cases e
            cases i with
            | zero =>
              simp at hv; subst hv
              have hq' : Q b s := hq
              cases x with
              | non => cases r1; cases e1; exact fun _ _ _ => hq'
              | bl z => cases r1; cases e1; exact wpAny_truthy_bool hq'
              | int z => obtain ⟨t, rfl⟩ := r1; cases e1; exact PyProof.Rows.truthy_int hq'
              | _ => cases e1
            | succ i => exact ih r2 e2 (by simpa using hv) hq
  exact key r e hv' hq
theorem iter_anyT {prog : Program} {w : World} {A : Around} {E : Value → Shared → Prop} {s : Shared} {l : Addr} {items : Array Value} {Q : Value → Shared → Prop} (hl : s.heap.IsTuple l items)
    (h : ∀ s₂ : Shared, s₂ = { s with heap := s.heap.push { cls := .type "tuple_iterator", data := .fields #[.ref l, .int 0 0] } } →
      (s₂.heap.IsTupleIter s.heap.objs.size l 0 ∧ s₂.heap.IsTuple l items) → l ≠ s.heap.objs.size → Q (.ref s.heap.objs.size) s₂) : wpAny (model prog w) A (pyIter (.ref l)) Q E s := by
  have hlt : l < s.heap.objs.size := by obtain ⟨_, e, _⟩ := hl; exact Heap.lt_size e
  refine wpAny_pyIter_tuple hl (h _ rfl ⟨⟨_, Heap.get?_push_size _ rfl, rfl, rfl⟩, ?_⟩ (Nat.ne_of_lt hlt))
  obtain ⟨o, e, r⟩ := hl
  exact ⟨o, Heap.get?_push_of_some _ e, r⟩
theorem mapM_len {α β : Type} {f : α → Option β} : ∀ {xs : List α} {ys : List β}, xs.mapM f = some ys → xs.length = ys.length
  | [], ys, e => by simp at e; subst e; rfl
  | x :: xs, ys, e => by
    rw [List.mapM_cons] at e
    cases e1 : f x with
    | none => rw [e1] at e; cases e
    | some b =>
      cases e2 : xs.mapM f with
      | none => rw [e1, e2] at e; cases e
      | some bs' => rw [e1, e2] at e; cases e; simp [mapM_len e2]
def rAnyV (K : PySem.W.Frag) : List V → Hp → VK → Prop := fun vs H Q => ∃ (a : Addr) (xs : List V) (bs : List Bool), vs = [V.ref a] ∧ (SqL K H a xs ∨ SqT K H a xs) ∧ xs.mapM trV = some bs ∧ Q (.bl (bs.any id)) H
def rAllV (K : PySem.W.Frag) : List V → Hp → VK → Prop := fun vs H Q => ∃ (a : Addr) (xs : List V) (bs : List Bool), vs = [V.ref a] ∧ (SqL K H a xs ∨ SqT K H a xs) ∧ xs.mapM trV = some bs ∧ Q (.bl (bs.all id)) H
theorem cr_anyV (hc : X.calm = true) : CallR X (.builtin "any") (rAnyV X.K) := by
  intro pins s σ H vs us Q I r h
  obtain ⟨a, xs, bs, rfl, hs, e, q⟩ := h
  rw [Vals.ref1 r]
  rcases hs with hs | hs
  · obtain ⟨its, rv, hl, _⟩ := I.list hs
    have hlen := mapM_len e
    have hl2 := rv.length
    refine call_any_walk (iter_any hl.isList fun s₂ e2 st hne => ?_)
    subst e2
    refine ⟨_, _, _, _, _, _, _, rfl, Walks.list (A := X.A.in1) (I.ok.hd hc) _ a hne its.toArray, st, truth_vals rv e, fun h' tk hk => ?_⟩
    refine ⟨.bl _, H, I.kept fun b o eo => hk b o (fun hmem => ?_) (Heap.get?_push_of_some _ eo), ?_, q⟩
    · rcases List.mem_cons.mp hmem with e1 | hmem
      · exact absurd (e1 ▸ Heap.lt_size eo) (Nat.lt_irrefl _)
      · cases hmem
    · show Value.bool _ = Value.bool _
      rw [← L2.any_range, List.size_toArray, ← hl2, hlen]
  · obtain ⟨its, rv, hl, _⟩ := I.tuple hs
    have hlen := mapM_len e
    have hl2 := rv.length
    refine call_any_walk (iter_anyT (show s.heap.IsTuple a its.toArray from hl) fun s₂ e2 st hne => ?_)
    subst e2
    refine ⟨_, _, _, _, _, _, _, rfl, Walks.tuple (A := X.A.in1) (I.ok.hd hc) _ a hne its.toArray, st, truth_vals rv e, fun h' tk hk => ?_⟩
    refine ⟨.bl _, H, I.kept fun b o eo => hk b o (fun hmem => ?_) (Heap.get?_push_of_some _ eo), ?_, q⟩
    · rcases List.mem_cons.mp hmem with e1 | hmem
      · exact absurd (e1 ▸ Heap.lt_size eo) (Nat.lt_irrefl _)
      · cases hmem
    · show Value.bool _ = Value.bool _
      rw [← L2.any_range, List.size_toArray, ← hl2, hlen]
theorem cr_allV (hc : X.calm = true) : CallR X (.builtin "all") (rAllV X.K) := by
  intro pins s σ H vs us Q I r h
  obtain ⟨a, xs, bs, rfl, hs, e, q⟩ := h
  rw [Vals.ref1 r]
  rcases hs with hs | hs
  · obtain ⟨its, rv, hl, _⟩ := I.list hs
    have hlen := mapM_len e
    have hl2 := rv.length
    refine call_all_walk (iter_any hl.isList fun s₂ e2 st hne => ?_)
    subst e2
    refine ⟨_, _, _, _, _, _, _, rfl, Walks.list (A := X.A.in1) (I.ok.hd hc) _ a hne its.toArray, st, truth_vals rv e, fun h' tk hk => ?_⟩
    refine ⟨.bl _, H, I.kept fun b o eo => hk b o (fun hmem => ?_) (Heap.get?_push_of_some _ eo), ?_, q⟩
    · rcases List.mem_cons.mp hmem with e1 | hmem
      · exact absurd (e1 ▸ Heap.lt_size eo) (Nat.lt_irrefl _)
      · cases hmem
    · show Value.bool _ = Value.bool _
      rw [← L2.all_range, List.size_toArray, ← hl2, hlen]
  · obtain ⟨its, rv, hl, _⟩ := I.tuple hs
    have hlen := mapM_len e
    have hl2 := rv.length
    refine call_all_walk (iter_anyT (show s.heap.IsTuple a its.toArray from hl) fun s₂ e2 st hne => ?_)
    subst e2
    refine ⟨_, _, _, _, _, _, _, rfl, Walks.tuple (A := X.A.in1) (I.ok.hd hc) _ a hne its.toArray, st, truth_vals rv e, fun h' tk hk => ?_⟩
    refine ⟨.bl _, H, I.kept fun b o eo => hk b o (fun hmem => ?_) (Heap.get?_push_of_some _ eo), ?_, q⟩
    · rcases List.mem_cons.mp hmem with e1 | hmem
      · exact absurd (e1 ▸ Heap.lt_size eo) (Nat.lt_irrefl _)
      · cases hmem
    · show Value.bool _ = Value.bool _
      rw [← L2.all_range, List.size_toArray, ← hl2, hlen]
theorem RpL.trs {K : PySem.W.Frag} {ρ : List Addr} {H : Hp} : ∀ {xs : List A} {vs : List V} {bs : List Bool}, RpL K ρ H xs vs → xs.mapM trA = some bs → vs.mapM trV = some bs
  | [], vs, bs, r, e => by simp only [RpL] at r; subst r; simpa using e
  | x :: xs, vs, bs, r, e => by
    simp only [RpL] at r
    obtain ⟨v, vs', rfl, r1, r2⟩ := r
    rw [List.mapM_cons] at e ⊢
    cases e1 : trA x with
    | none => rw [e1] at e; cases e
    | some b =>
      cases e2 : xs.mapM trA with
      | none => rw [e1, e2] at e; cases e
      | some bs' =>
        rw [e1, e2] at e
        have e3 : trV v = some b := by
          cases x with
          | non => rw [Rp.non_] at r1; subst r1; exact e1
          | bl z => rw [Rp.bl_] at r1; subst r1; exact e1
          | int z => rw [Rp.int_] at r1; subst r1; exact e1
          | _ => cases e1
        rw [e3, RpL.trs r2 e2]
        exact e
/-- the items of a list or a tuple -/
def sqA (ah : AH) : A → Option (List A)
  | .tup xs => some xs
  | .fro xs => some xs
  | .ref n => lsA ah n
  | _ => none
theorem sq_rel {Γ : G} {ρ : List Addr} {ah : AH} {H : Hp} {v : A} {u : V} {xs : List A} (S : Sim Γ ρ ah H) (r : Rp Γ.K ρ H v u) (e : sqA ah v = some xs) : ∃ a vs, u = .ref a ∧ (SqL Γ.K H a vs ∨ SqT Γ.K H a vs) ∧ RpL Γ.K ρ H xs vs := by
  cases v with
  | tup ys =>
    rw [Rp.tup_] at r; cases e
    obtain ⟨a, vs, rfl, t, q⟩ := r
    exact ⟨a, vs, rfl, .inr t, q⟩
  | fro ys =>
    rw [Rp.fro_] at r; cases e
    obtain ⟨a, vs, rfl, t, q⟩ := r
    exact ⟨a, vs, rfl, .inl t.seq, q⟩
  | ref n =>
    rw [Rp.ref_] at r
    obtain ⟨a, rfl, ea⟩ := r
    obtain ⟨vs, t, q⟩ := sim_seq S (lsA_of e) ea
    exact ⟨a, vs, rfl, .inl t, q⟩
  | _ => cases e
def bAny : List A → Mo A
  | [v] => fun ah => match (sqA ah v).bind fun xs => xs.mapM trA with
    | some bs => .ok (.bl (bs.any id)) ah
    | none => .no
  | _ => fun _ => .no
def bAll : List A → Mo A
  | [v] => fun ah => match (sqA ah v).bind fun xs => xs.mapM trA with
    | some bs => .ok (.bl (bs.all id)) ah
    | none => .no
  | _ => fun _ => .no
theorem b_any (hc : X.calm = true) : CallM X (gO X tb) W (.builtin "any") bAny := ⟨_, cr_anyV hc, fun σ vs ah ρ H us Q S r p => by
  unfold bAny at p
  split at p
  · obtain ⟨u, rfl, r1⟩ := r.one
    try dsimp only at p
    split at p
    · rename_i bs e
      rw [Option.bind_eq_some_iff] at e
      obtain ⟨xs, e1, e2⟩ := e
      obtain ⟨a, ws, rfl, t, q⟩ := sq_rel S r1 e1
      exact ⟨a, ws, bs, rfl, t, q.trs e2, Pst.ret S (Rp.bl_.mpr rfl) p⟩
    · exact p.elim
  · exact p.elim⟩
theorem b_all (hc : X.calm = true) : CallM X (gO X tb) W (.builtin "all") bAll := ⟨_, cr_allV hc, fun σ vs ah ρ H us Q S r p => by
  unfold bAll at p
  split at p
  · obtain ⟨u, rfl, r1⟩ := r.one
    try dsimp only at p
    split at p
    · rename_i bs e
      rw [Option.bind_eq_some_iff] at e
      obtain ⟨xs, e1, e2⟩ := e
      obtain ⟨a, ws, rfl, t, q⟩ := sq_rel S r1 e1
      exact ⟨a, ws, bs, rfl, t, q.trs e2, Pst.ret S (Rp.bl_.mpr rfl) p⟩
    · exact p.elim
  · exact p.elim⟩

/-! ### slices -/
def cutL {α : Type} (xs : List α) (lo hi : Option Int) : List α := (xs.drop (HT.sIx xs.length 0 lo)).take (HT.sIx xs.length xs.length hi - HT.sIx xs.length 0 lo)
theorem RpL.cut {K : PySem.W.Frag} {ρ : List Addr} {H : Hp} {xs : List A} {vs : List V} (r : RpL K ρ H xs vs) (lo hi : Option Int) : RpL K ρ H (cutL xs lo hi) (cutV vs lo hi) := by
  unfold cutL cutV
  rw [r.length]
  exact (r.drop _).take _
abbrev MO := SA → Mo (Option Int)
def PstO (Γ : G) (W : WX) (σ : L2.St) (ρ : List Addr) (H : Hp) (Q : Option Int → Hp → Prop) : Rs (Option Int) → Prop
  | .ok v ah' => ∀ ρ' H', Sim Γ ρ' ah' H' → ρ <+: ρ' → Kept H H' → Q v H'
  | .ex e ah' => ∀ ρ' H' cls d, Sim Γ ρ' ah' H' → ρ <+: ρ' → Kept H H' → Xp Γ ρ' H' e cls d → W cls d σ H'
  | .no => False
def tOO (Γ : G) (W : WX) (m : MO) : TO := fun σ H Q => ∃ ρ ah sa, Sim Γ ρ ah H ∧ SRp Γ.K ρ H sa σ ∧ PstO Γ W σ ρ H Q (m sa ah)
def TriO (X : Cx) (Γ : G) (W : WX) (e : Option Expr) (m : MO) : Prop := PO X e (tOO Γ W m)
theorem po_weak {e : Option Expr} {t t' : TO} (h : PO X e t) (f : ∀ σ H Q, t' σ H Q → t σ H Q) : PO X e t' := ⟨fun pins s σ H Q I q => h.run pins s σ H Q I (f _ _ _ q)⟩
def oNone : MO := fun _ h => .ok none h
def oSome (m : ME) : MO := fun s h => (m s h).bind fun v h1 => match v with
  | .int i => .ok (some i) h1
  | _ => .no
theorem PstO.imp {Γ : G} {σ : L2.St} {ρ : List Addr} {H : Hp} {Q Q' : Option Int → Hp → Prop} {r : Rs (Option Int)} (h : PstO Γ W σ ρ H Q r) (f : ∀ v H, Q v H → Q' v H) : PstO Γ W σ ρ H Q' r := by
  cases r with
  | ok v ah' => exact fun ρ' H' S a b => f _ _ (h ρ' H' S a b)
  | ex e ah' => exact h
  | no => exact h
theorem PstO.later {Γ : G} {σ : L2.St} {ρ ρ1 : List Addr} {H H1 : Hp} {Q : Option Int → Hp → Prop} {r : Rs (Option Int)} (h : PstO Γ W σ ρ H Q r) (hr : ρ <+: ρ1) (k : Kept H H1) : PstO Γ W σ ρ1 H1 Q r := by
  cases r with
  | ok v ah' => exact fun ρ' H' S a b => h ρ' H' S (hr.trans a) (k.trans b)
  | ex e ah' => exact fun ρ' H' cls d S a b r => h ρ' H' cls d S (hr.trans a) (k.trans b) r
  | no => exact h
theorem PstO.bind {Γ : G} {σ : L2.St} {ρ : List Addr} {H : Hp} {Q : VK} {r : Rs (Option Int)} {k : Option Int → AH → Rs A} (h : Pst Γ W σ ρ H Q (r.bind k)) :
    PstO Γ W σ ρ H (fun o H1 => ∃ ρ1 ah1, Sim Γ ρ1 ah1 H1 ∧ ρ <+: ρ1 ∧ Kept H H1 ∧ Pst Γ W σ ρ1 H1 Q (k o ah1)) r := by
  cases r with
  | ok v ah' => exact fun ρ' H' S a b => ⟨ρ', ah', S, a, b, Pst.later h a b⟩
  | ex e ah' => exact h
  | no => exact h
theorem PstO.ofE {Γ : G} {σ : L2.St} {ρ : List Addr} {H : Hp} {Q : Option Int → Hp → Prop} {r : Rs A} {k : A → AH → Rs (Option Int)} (h : PstO Γ W σ ρ H Q (r.bind k)) :
    Pst Γ W σ ρ H (fun u H1 => ∃ ρ1 ah1 v, Sim Γ ρ1 ah1 H1 ∧ ρ <+: ρ1 ∧ Kept H H1 ∧ Rp Γ.K ρ1 H1 v u ∧ PstO Γ W σ ρ1 H1 Q (k v ah1)) r := by
  cases r with
  | ok v ah' => exact fun ρ' H' u S a b r => ⟨ρ', ah', v, S, a, b, r, PstO.later h a b⟩
  | ex e ah' => exact h
  | no => exact h
theorem to_none : TriO X (gO X tb) W none oNone := po_weak po_none fun σ H Q ⟨ρ, ah, sa, S, rs, p⟩ => p ρ H S (List.prefix_refl _) (Kept.refl _)
theorem to_some {e : Expr} {m : ME} (h : Tri X (gO X tb) W e m) : TriO X (gO X tb) W (some e) (oSome m) := po_weak (po_some h) fun σ H Q ⟨ρ, ah, sa, S, rs, p⟩ => by
  refine ⟨ρ, ah, sa, S, rs, p.ofE.imp fun u H1 ⟨ρ1, ah1, v, S1, p1, k1, r1, q1⟩ => ?_⟩
  split at q1
  · rw [Rp.int_] at r1
    exact ⟨_, r1, q1 ρ1 H1 S1 (List.prefix_refl _) (Kept.refl _)⟩
  · exact q1.elim
def oSl (v : A) (lo hi : Option Int) : Mo A := match v with
  | .tup xs => fun ah => .ok (.tup (cutL xs lo hi)) ah
  | .fro xs => fun ah => .ok (.ref ah.length) (ah ++ [.lst (cutL xs lo hi)])
  | .str z => fun ah => if z.length ≤ sizeLine then .ok (.str (cutS z lo hi)) ah else .no
  | .ref n => fun ah => match lsA ah n with
    | some xs => .ok (.ref ah.length) (ah ++ [.lst (cutL xs lo hi)])
    | none => .no
  | _ => fun _ => .no
def mSl (m : ME) (lo hi : MO) : ME := fun s h => (m s h).bind fun v h1 => (lo s h1).bind fun l h2 => (hi s h2).bind fun u h3 => oSl v l u h3
theorem t_slice {e : Expr} {lo hi : Option Expr} {m : ME} {ml mh : MO} {p2 pos : Pos} (he : Tri X (gO X tb) W e m) (hl : TriO X (gO X tb) W lo ml) (hh : TriO X (gO X tb) W hi mh) : Tri X (gO X tb) W (.Subscript e (.Slice lo hi none p2) pos) (mSl m ml mh) := by
  refine pe_weak (pe_slice (sl_list.or (sl_tupA.or sl_str)) he hl hh) fun σ H Q ⟨ρ, ah, sa, S, rs, p⟩ => ?_
  refine ⟨ρ, ah, sa, S, rs, p.bind.imp fun u H1 ⟨ρ1, ah1, v, S1, p1, k1, r1, q1⟩ => ?_⟩
  refine ⟨ρ1, ah1, sa, S1, rs.mono p1 k1, (PstO.bind q1).imp fun l H2 ⟨ρ2, ah2, S2, p2, k2, q2⟩ => ?_⟩
  refine ⟨ρ2, ah2, sa, S2, rs.mono (p1.trans p2) (k1.trans k2), (PstO.bind q2).imp fun o H3 ⟨ρ3, ah3, S3, p3, k3, q3⟩ => ?_⟩
  have r3 := Rp.mono (p2.trans p3) (k2.trans k3) _ _ r1
  cases v with
  | tup xs =>
    simp only [oSl] at q3
    rw [Rp.tup_] at r3
    obtain ⟨a, vs, rfl, t, rl⟩ := r3
    refine .inr (.inl ⟨a, vs, rfl, t, fun c => ?_, fun c p np => Pst.tup q3 S3 np (rl.cut l o)⟩)
    have : cutL xs l o = xs := by
      unfold cutL
      rw [rl.length, c.1, c.2, List.drop_zero, Nat.sub_zero, List.take_of_length_le (by rw [rl.length]; exact Nat.le_refl _)]
    rw [this] at q3
    exact Pst.ret S3 (Rp.tup_.mpr ⟨a, vs, rfl, t, rl⟩) q3
  | fro xs =>
    simp only [oSl] at q3
    rw [Rp.fro_] at r3
    obtain ⟨a, vs, rfl, t, rl⟩ := r3
    exact .inl ⟨a, vs, rfl, t.seq, fun p np => Pst.lst q3 S3 np (rl.cut l o)⟩
  | fn x => simp only [oSl] at q3; exact q3.elim
  | str z =>
    simp only [oSl] at q3
    rw [Rp.str_] at r3
    split at q3
    · rename_i c
      exact .inr (.inr ⟨_, r3, c, Pst.ret S3 (Rp.str_.mpr rfl) q3⟩)
    · exact q3.elim
  | ref n =>
    simp only [oSl] at q3
    rw [Rp.ref_] at r3
    obtain ⟨a, rfl, ea⟩ := r3
    split at q3
    · rename_i xs e
      obtain ⟨vs, t, rl⟩ := sim_seq S3 (lsA_of e) ea
      exact .inl ⟨a, vs, rfl, t, fun p np => Pst.lst q3 S3 np (rl.cut l o)⟩
    · exact q3.elim
  | non => exact q3.elim
  | bl _ => exact q3.elim
  | int _ => exact q3.elim

/-! ### in -/
def eqA : A → A → Bool
  | .non, .non => true
  | .bl a, .bl b => a == b
  | .bl a, .int b => (if a then 1 else 0) == b
  | .int a, .bl b => a == (if b then 1 else 0)
  | .int a, .int b => a == b
  | .str a, .str b => a == b
  | _, _ => false
def flatA : A → Bool
  | .non => true
  | .bl _ => true
  | .int _ => true
  | .str _ => true
  | _ => false
theorem flat_rel {K : PySem.W.Frag} {ρ : List Addr} {H : Hp} {v : A} {u : V} (r : Rp K ρ H v u) (f : flatA v = true) : flatV u = true := by
  cases v <;> first | cases f | skip
  · rw [Rp.non_] at r; subst r; rfl
  · rw [Rp.bl_] at r; subst r; rfl
  · rw [Rp.int_] at r; subst r; rfl
  · rw [Rp.str_] at r; subst r; rfl
theorem eqA_rel {K : PySem.W.Frag} {ρ : List Addr} {H : Hp} {v w : A} {u x : V} (r : Rp K ρ H v u) (r2 : Rp K ρ H w x) (f : flatA v = true) (g : flatA w = true) : eqV u x = eqA v w := by
  cases v <;> first | cases f | skip
  all_goals cases w <;> first | cases g | skip
  all_goals (simp only [Rp] at r r2; subst r; subst r2; rfl)
theorem RpL.any_eq {K : PySem.W.Frag} {ρ : List Addr} {H : Hp} {w : A} {x : V} (rx : Rp K ρ H w x) (g : flatA w = true) : ∀ {xs : List A} {vs : List V}, RpL K ρ H xs vs → xs.all flatA = true → vs.all flatV = true ∧ inV x vs = xs.any fun y => eqA y w
  | [], vs, r, f => by simp only [RpL] at r; subst r; exact ⟨rfl, rfl⟩
  | y :: ys, vs, r, f => by
    simp only [RpL] at r
    obtain ⟨v, vs', rfl, r1, r2⟩ := r
    simp only [List.all_cons, Bool.and_eq_true] at f
    obtain ⟨h1, h2⟩ := RpL.any_eq rx g r2 f.2
    refine ⟨by simp [flat_rel r1 f.1, h1], ?_⟩
    show (eqV v x || inV x vs') = (eqA y w || ys.any _)
    rw [eqA_rel r1 rx f.1 g, h2]
def inA (ah : AH) (v u : A) : Option Bool := match v, u with
  | .str x, .str y => some (!(Builtin.Str.occurrences y x 0 y.length 1).isEmpty)
  | v, u => match sqA ah u with
    | some xs => if flatA v && xs.all flatA then some (xs.any fun y => eqA y v) else
      match u, dOf 60 ah v, dOf 60 ah u with
      | .tup _, _, _ => none
      | _, some d, some (.list ds) => if SeqAt.shaped d && SeqAt.shaped (.list ds) then some (ds.any fun z => PyData.eqv z d) else none
      | _, _, _ => none
    | none => none
def oIn (v u : A) : Mo A := fun ah => match inA ah v u with
  | some b => .ok (.bl b) ah
  | none => .no
def oNin (v u : A) : Mo A := fun ah => match inA ah v u with
  | some b => .ok (.bl (!b)) ah
  | none => .no
theorem inA_rel {Γ : G} {ρ : List Addr} {ah : AH} {H : Hp} {v w : A} {u x : V} {b : Bool} (S : Sim Γ ρ ah H) (r : Rp Γ.K ρ H v u) (r2 : Rp Γ.K ρ H w x) (e : inA ah v w = some b) :
    (∃ i j, u = .str i ∧ x = .str j ∧ b = !(Builtin.Str.occurrences j i 0 j.length 1).isEmpty) ∨
    (∃ p xs, x = .ref p ∧ (SqL Γ.K H p xs ∨ SqT Γ.K H p xs) ∧ flatV u = true ∧ xs.all flatV = true ∧ b = inV u xs) ∨
    ∃ d ds, Dp Γ.K H u d ∧ Dp Γ.K H x (.list ds) ∧ SeqAt.shaped d = true ∧ SeqAt.shaped (.list ds) = true ∧ b = ds.any fun z => PyData.eqv z d := by
  unfold inA at e
  split at e
  · cases e
    rw [Rp.str_] at r r2
    exact .inl ⟨_, _, r, r2, rfl⟩
  · split at e
    · rename_i xs es
      split at e
      · rename_i c
        cases e
        rw [Bool.and_eq_true] at c
        obtain ⟨a, vs, rfl, t, q⟩ := sq_rel S r2 es
        obtain ⟨h1, h2⟩ := RpL.any_eq r c.1 q c.2
        exact .inr (.inl ⟨a, vs, rfl, t, flat_rel r c.1, h1, h2.symm⟩)
      · split at e
        · cases e
        · rename_i d ds _ h1 _ h2
          split at e
          · rename_i c
            cases e
            rw [Bool.and_eq_true] at c
            exact .inr (.inr ⟨d, ds, dOf_ok S _ _ _ _ r h1, dOf_ok S _ _ _ _ r2 h2, c.1, c.2, rfl⟩)
          · cases e
        · cases e
    · cases e
theorem o_in {k : Nat} (hr : Room k X.A) : OpM X (gO X tb) W (compareOp .In) oIn := by
  refine ⟨_, (op_in_str (X := X)).or ((op_in_seq (X := X)).or (op_inD (by have := hr.un; omega))), fun σ v1 v2 ah ρ H u1 u2 Q S r1 r2 p => ?_⟩
  unfold oIn at p
  split at p
  · rename_i b e
    have q : Q (.bl b) H := Pst.ret S (Rp.bl_.mpr rfl) p
    rcases inA_rel S r1 r2 e with ⟨i, j, h1, h2, rfl⟩ | ⟨a, xs, h1, h2, h3, h4, rfl⟩ | ⟨d, ds, h1, h2, h3, h4, rfl⟩
    · exact .inl ⟨i, j, h1, h2, q⟩
    · exact .inr (.inl ⟨a, xs, h1, h2, h3, h4, q⟩)
    · exact .inr (.inr ⟨d, ds, h1, h2, h3, h4, q⟩)
  · exact p.elim
theorem o_nin {k : Nat} (hr : Room k X.A) : OpM X (gO X tb) W (compareOp .NotIn) oNin := by
  refine ⟨_, (op_notIn_str (X := X)).or ((op_notIn_seq (X := X)).or (op_notInD (by have := hr.un; omega))), fun σ v1 v2 ah ρ H u1 u2 Q S r1 r2 p => ?_⟩
  unfold oNin at p
  split at p
  · rename_i b e
    have q : Q (.bl (!b)) H := Pst.ret S (Rp.bl_.mpr rfl) p
    rcases inA_rel S r1 r2 e with ⟨i, j, h1, h2, rfl⟩ | ⟨a, xs, h1, h2, h3, h4, rfl⟩ | ⟨d, ds, h1, h2, h3, h4, rfl⟩
    · exact .inl ⟨i, j, h1, h2, q⟩
    · exact .inr (.inl ⟨a, xs, h1, h2, h3, h4, q⟩)
    · exact .inr (.inr ⟨d, ds, h1, h2, h3, h4, q⟩)
  · exact p.elim
theorem bo_in : BoolOut oIn := fun v u ah => by
  unfold oIn
  split
  · exact .inl ⟨_, _, rfl⟩
  · exact .inr rfl
theorem bo_nin : BoolOut oNin := fun v u ah => by
  unfold oNin
  split
  · exact .inl ⟨_, _, rfl⟩
  · exact .inr rfl

/-! ### xs.append(e) -/
def mApp (m n : ME) : ME := fun s h => (m s h).bind fun v h1 => match v with
  | .ref k => match lsA h1 k with
    | some _ => (n s h1).bind fun y h2 => match h2[k]? with
      | some (.lst xs) => if xs.length < sizeLine then .ok .non (h2.set k (.lst (xs ++ [y]))) else .no
      | _ => .no
    | none => .no
  | _ => .no
theorem t_app {o e : Expr} {m n : ME} {apos cpos : Pos} (ho : Tri X (gO X tb) W o m) (he : Tri X (gO X tb) W e n)
    (hbase : attributeBase o "append" X.env (eval o X.env) = eval o X.env := by rfl)
    (hfew : ((backTo cpos (starEach [e] X.env)).all (fun x => !x.1) && (backToKw cpos (keywordEach [] X.env)).all (fun x => x.1.isSome)
      && decide (([e] : List Expr).length + ([] : List Keyword).length + (if ([] : List Keyword).isEmpty then 0 else 1) < 30)) = true := by rfl)
    (hline : (apos.endLine == cpos.line) = true := by rfl) (hs : starEach [e] X.env = (false, eval e X.env) :: starEach [] X.env := by rfl) (hplain : (backTo cpos (starEach ([] : List Expr) X.env)).any (·.1) = false := by rfl) :
    Tri X (gO X tb) W (.Call (.Attribute o "append" apos) [e] [] cpos) (mApp m n) := by
  refine pe_weak (pe_bm PySem.F.plainAttrs_list PySem.F.slot_list_append PySem.F.type_list_append mt_append ho (pa_cons he pa_nil hs) hbase hfew hline hs hplain) fun σ H Q ⟨ρ, ah, sa, S, rs, p⟩ => ?_
  refine ⟨ρ, ah, sa, S, rs, p.bind.imp fun u H1 ⟨ρ1, ah1, v, S1, p1, k1, r1, q1⟩ => ?_⟩
  split at q1
  · rename_i k
    split at q1
    · rename_i ys ek
      rw [Rp.ref_] at r1
      obtain ⟨a, rfl, ea⟩ := r1
      obtain ⟨vs, hv, rv⟩ := S1.ob _ _ _ (lsA_of ek) ea
      refine ⟨.inl ⟨rfl, vs, .inl (.inl hv)⟩, ρ1, ah1, sa, S1, rs.mono p1 k1, q1.bind.imp fun y H2 ⟨ρ2, ah2, yv, S2, p2, k2, r2, q2⟩ => ?_⟩
      split at q2
      · rename_i xs ex
        split at q2
        · rename_i hl
          have ea2 : ρ2[k]? = some a := by
            obtain ⟨t, rfl⟩ := p2
            rw [List.getElem?_append_left]
            · exact ea
            · rcases Nat.lt_or_ge k ρ1.length with z | z
              · exact z
              · rw [List.getElem?_eq_none z] at ea; cases ea
          obtain ⟨ws, hw, rw'⟩ := S2.ob _ _ _ ex ea2
          obtain ⟨S3, k3⟩ := sim_set (ws := ws ++ [y]) (ys := xs ++ [yv]) S2 ea2 hw (rw'.append (RpL.cons r2 RpL.nil))
          exact ⟨a, ws, y, rfl, rfl, hw, by rw [← rw'.length]; exact hl, q2 ρ2 _ .non S3 (List.prefix_refl _) k3 (Rp.non_.mpr rfl)⟩
        · exact q2.elim
      · exact q2.elim
    · exact q1.elim
  · exact q1.elim
/-! ### range(a, b, -1) -/
theorem itr_rngC {Γ : G} {ρ0 : List Addr} {H0 : Hp} {lo c : Int} {n : Nat} : ItR Γ ρ0 H0 (Itc lo c n) (IT.rngC lo c n) where
  go := fun i ρ ah H v hi pr kp S e => by
    cases e
    exact ⟨hi, fun x H' hy => by obtain ⟨rfl, rfl⟩ := hy; exact ⟨S, Kept.refl _, Rp.int_.mpr rfl⟩⟩
  stop := fun ρ ah H pr kp S hf => Nat.le_refl _
def mRngD (m n : ME) : MI := fun s h => (m s h).bind fun v h1 => (n s h1).bind fun u h2 => match v, u with
  | .int i, .int j => if -(2 ^ 62) ≤ i ∧ i < 2 ^ 62 ∧ -(2 ^ 62) ≤ j ∧ j < 2 ^ 62 then .ok (IT.rngC i (-1) (i - j).toNat) h2 else .no
  | _, _ => .no
theorem ti_rngD {tg a b : Expr} {m n : ME} {p p1 p2 : Pos} {k : Nat} (ha : Tri X (gO X tb) W a m) (hb : Tri X (gO X tb) W b n) (hm : X.mg "range" = none) (hg : Gl X "range" := by rfl)
    (hs : starEach [a, b, .UnaryOp .USub (.Constant (.int 1) k p1) p2] X.env = (false, eval a X.env) :: starEach [b, .UnaryOp .USub (.Constant (.int 1) k p1) p2] X.env := by rfl)
    (hs2 : starEach [b, .UnaryOp .USub (.Constant (.int 1) k p1) p2] X.env = (false, eval b X.env) :: starEach [.UnaryOp .USub (.Constant (.int 1) k p1) p2] X.env := by rfl)
    (hpl : (PySem.backTo pos (starEach [b, .UnaryOp .USub (.Constant (.int 1) k p1) p2] X.env)).any (·.1) = false := by rfl) :
    TriI X (gO X tb) W tg (.Call (.Name "range" p) [a, b, .UnaryOp .USub (.Constant (.int 1) k p1) p2] [] pos) (mRngD m n) := by
  refine pi_weak (pi_range3 hg hm (pa_cons ha (pa_cons hb (pa_cons (pe_un un_neg pe_int) pa_nil rfl) hs2) hs) hs hpl) fun σ H Q ⟨ρ, ah, sa, S, rs, p⟩ => ?_
  refine ⟨ρ, ah, sa, S, rs, p.ofE.imp fun u H1 ⟨ρ1, ah1, v, S1, p1, k1, r1, q1⟩ => ?_⟩
  refine ⟨ρ1, ah1, sa, S1, rs.mono p1 k1, q1.ofE.imp fun u2 H2 ⟨ρ2, ah2, v2, S2, p2, k2, r2, q2⟩ => ?_⟩
  refine ⟨1, rfl, ?_⟩
  split at q2
  · rw [Rp.int_] at r1 r2
    split at q2
    · rename_i c
      exact ⟨_, _, _, _, by rw [r1, r2], RgC.neg c.1 c.2.1 c.2.2.1 c.2.2.2, q2 ρ2 H2 _ S2 (List.prefix_refl _) (Kept.refl _) itr_rngC⟩
    · exact q2.elim
  · exact q2.elim
end

/-! ### defs that call themselves: so deep -/
def recF (b : MF → MS) (n : Nat) : Nat → MF
  | 0 => fun _ _ => .no
  | k + 1 => mFn n (b (recF b n k))
theorem rec_ok {P : Program} {w : World} {K : PySem.W.Frag} {mg : Str → Option Value} {base : Heap} {tb : Addr → Prop} {x qual : Str} {st : Stmt} {f : Addr} {fd : FuncData} {ps : List Str} (Fn : Fun K x qual st f fd) (hm : mg x = some (.ref f)) (hb : Binds K fd ps []) {b : MF → MS} {n l0 kN : Nat} (hps : ps.length = n)
    (step : ∀ (lv : Nat) (F : MF), l0 ≤ lv → HasFn P w K mg base tb x lv n F → HasFn P w K mg base tb x (lv + 1) n (mFn kN (b F))) :
    ∀ k : Nat, HasFn P w K mg base tb x (l0 + k) n (recF b kN k)
  | 0 => by
    refine ⟨f, fd, ps, hps, hm, ⟨fun vs H Q E h => ?_, fun A outer s H args us vs Q E hr he hbb hv h => ?_⟩, hb, Fn.kp⟩
    · obtain ⟨_, _, _, _, _, _, z⟩ := h
      exact False.elim z
    · obtain ⟨_, _, _, _, _, _, z⟩ := h
      exact False.elim z
  | k + 1 => step (l0 + k) _ (Nat.le_add_right _ _) (rec_ok Fn hm hb hps step k)
end Z

namespace Z
open PySem PySem.Spec PyProof.Rows L2
section
variable {X : Cx} {scope : Scope} {own : List (Str × Nat)} {pos : Pos}
theorem hg_1 {x : Str} (i : Nat) (hN : X.N.Nodup) (hv : i ∈ own.map (·.2) := by decide) (hi : X.N[i]? = some x := by rfl) (hx : ∀ (C : Addr) (cl : List (Str × Addr)), (compEnvC scope cl C X.env).scope.names.lookup x = some .local := by intros; rfl) :
    (∀ (s : Shared) (H : Hp) (C : Addr) (cl : List (Str × Addr)) (fp : List Addr), PG (X.blk s H scope (compEnvC scope cl C X.env) fp) (.Name x pos) (gName i)) ∧
    ∀ v u σ sa sa' ρ H Q, Rp X.K ρ H v u → SRp X.K ρ H sa σ → c1 i v sa = some sa' → (∀ σ', SRp X.K ρ H sa' σ' → L2.wipe σ' (own.map (·.2)) = L2.wipe σ (own.map (·.2)) → Q σ' H) → gName i u σ H Q :=
  ⟨fun s H C cl fp => pg_name (X := X.blk s H scope (compEnvC scope cl C X.env) fp) hN hi (Or.inl (hx _ _)) (Or.inr (hx _ _)), fun v u σ sa sa' ρ H Q r rs e q => by
    cases e
    exact q _ (rs.set i r) (wipe_set hv)⟩
theorem tk0 : Takes X W0 := fun u s' ⟨a, B, sI, pins, σ, H, cls, d, e, I, nb, up, sky, na, os, ag, w⟩ => w.elim
end
end Z

/-! generator expressions within all and any: an element may call, make new things and run other generators -/
namespace Z
open PySem PySem.Spec PyProof.Rows L2 GenW

theorem over_gx {A : Around} {elt : Expr} {cs : List Comprehension} {scope : Scope} {pos : Pos} {it acc : Value} {env : Env} : A.over (.compLoop (.GeneratorExp elt cs scope pos) 0 it acc env) [] = A.deeper env := by
  first
    | rfl
    | (obtain ⟨hd, d, fr, gs, u⟩ := A; simp [Around.over, Around.deeper, marksOver, frameCount, unitsOf, envsOf, guardsOf, pushEnvs, pushGuards, Code.envs, Code.env?, Code.isFrame, Code.guards, Code.isGuard, Code.weight, Code.frames, Code.isCreation, Code.isCaller, Code.cUnits])
theorem over_gs {A : Around} {elt : Expr} {cs : List Comprehension} {scope : Scope} {pos : Pos} {it acc : Value} {env : Env} : A.over (.compStart (.GeneratorExp elt cs scope pos) 0 it acc env) [] = A.deeper env := by
  first
    | rfl
    | (obtain ⟨hd, d, fr, gs, u⟩ := A; simp [Around.over, Around.deeper, marksOver, frameCount, unitsOf, envsOf, guardsOf, pushEnvs, pushGuards, Code.envs, Code.env?, Code.isFrame, Code.guards, Code.isGuard, Code.weight, Code.frames, Code.isCreation, Code.isCaller, Code.cUnits])

/-- its scope: its own names, and those that it takes from around -/
structure GxOk (N : List Str) (sc scope : Scope) (own : List (Str × Nat)) : Prop where
  blk : BlkOk N sc scope own
  co : scope.isCoroutine = false
  cell : ∀ y ∈ scope.names, y.2 ≠ .cell
  dot : scope.names.lookup (".0" : Str) = some NameKind.local
def gxC (N : List Str) (sc scope : Scope) (own : List (Str × Nat)) : Bool :=
  blkC N sc scope own && !scope.isCoroutine && scope.names.all (fun y => !decide (y.2 = .cell)) && decide (scope.names.lookup (".0" : Str) = some NameKind.local)
theorem gxOk_by {N : List Str} {sc scope : Scope} {own : List (Str × Nat)} (h : gxC N sc scope own = true) : GxOk N sc scope own := by
  unfold gxC at h
  simp only [Bool.and_eq_true, Bool.not_eq_true', List.all_eq_true, decide_eq_true_eq, decide_eq_false_iff_not] at h
  obtain ⟨⟨⟨h1, h2⟩, h3⟩, h4⟩ := h
  exact ⟨blkOk_by h1, h2, fun y hy => h3 y hy, h4⟩

abbrev gxEnv (X : Cx) (scope : Scope) (C : Addr) (code : Value) : Env := genEnv scope (cloFrom X.env.cells scope.names []) C code builtinsNs X.env
/-- the frame of the generator, entered at s -/
def gxCx (X : Cx) (A : Around) (s : Shared) (H : Hp) (fp : List Addr) (cenv : Env) (pn : List (Addr × Obj)) : Cx where
  prog := X.prog
  w := X.w
  K := X.K
  mg := X.mg
  base := X.base
  A := A.deeper cenv
  N := X.N
  s_0 := s
  H_0 := H
  env := cenv
  outer := X.stack
  stack := cenv :: X.stack
  ex := fp
  fn := fun _ => false
  calm := true
  pn := pn
  xe := fun _ _ => False

section
variable {X : Cx} {pins : List (Addr × Obj)} {σ : L2.St} {H : Hp} {s : Shared} {scope : Scope} {own : List (Str × Nat)}
theorem gx_cells (I : Inv X pins σ H s) (L : GxOk X.N X.env.scope scope own) : ∀ y ∈ scope.names, y.2 = .free → ∃ c, X.env.cells.lookup y.1 = some c := fun y hy e =>
  (L.blk.free y hy e).elim (fun k => I.ok.has _ (.inl k)) fun k => I.ok.has _ (.inr k)
theorem inv_gx {A : Around} {fp : List Addr} {code : Value} {h' : Heap} {m0 : Str → Option Value} {go : Obj} {tk : Nat} {g' : Array GenState} (hN : X.N.Nodup) (I : Inv X pins σ H s) (L : GxOk X.N X.env.scope scope own) (hA : A.frames = some X.stack) (hd : A.handled = none)
    (hfp : ∀ b ∈ fp, FpOk X pins H b) (hfo : ∀ b ∈ fp, b < s.heap.objs.size) (hns : h'.Ns s.heap.objs.size m0) (kp : ∀ b o, s.heap.get? b = some o → h'.get? b = some o) (hsz : h'.objs.size = s.heap.objs.size + 1)
    (hgp : (h'.push go).get? h'.objs.size = some go) (hgd : ∀ v, go.data ≠ .cell v) (hg : AllBare g') :
    Inv (gxCx X A s H fp (gxEnv X scope s.heap.objs.size code) [(h'.objs.size, go)]) [] (L2.wipe σ (own.map (·.2))) H { s with gens := g', toks := tk, heap := h'.push go } := by
  have hfree := gx_cells I L
  have cm : ∀ {y c}, (cloFrom X.env.cells scope.names []).lookup y = some c → X.env.cells.lookup y = some c := fun {y c} e => by
    rcases cloFrom_mem (PySem.mem_of_lookup e) with hm | ⟨h1, h2⟩
    · cases hm
    · obtain ⟨c1, hc⟩ := hfree _ h1 rfl
      have hc : X.env.cells.lookup y = some c1 := hc
      have e2 : c = c1 := by
        rw [h2, hc] <;> rfl
      rw [e2]; exact hc
  have look : ∀ {y}, scope.names.lookup y = some .free → ∃ c, (cloFrom X.env.cells scope.names []).lookup y = some c := fun {y} hl =>
    mem_lookup (cloFrom_has (cells := X.env.cells) (acc := []) (PySem.mem_of_lookup hl))
  have kp2 : ∀ b o, s.heap.get? b = some o → (h'.push go).get? b = some o := fun b o e => Heap.get?_push_of_some _ (kp b o e)
  have cellK : ∀ {c : Addr} {v : Option Value}, s.heap.IsCell c v → (h'.push go).IsCell c v := fun {c v} ⟨o, ho, hd⟩ => ⟨o, kp2 _ _ ho, hd⟩
  have sub : ∀ b, b ∈ frs X.stack → b = X.env.locals ∨ b ∈ X.fs := fun b hb => List.mem_cons.mp (I.stkSub b hb)
  have outF : ∀ b, s.heap.objs.size ≤ b → b ∉ frs X.stack := fun b hb hm => by
    rcases sub b hm with z | z
    · have h1 := I.lt
      rw [← z] at h1
      exact Nat.lt_irrefl _ (Nat.lt_of_lt_of_le h1 hb)
    · exact I.nofs hb z
  refine ⟨⟨I.ok.mod, L.blk.kind, I.ok.glob, rfl, Nat.le_refl _, fun y z c e1 e2 => I.ok.inj y z c (cm e1) (cm e2), fun y hy => ?_, fun y c z _ => ?_, fun _ => hd, Around.frames_deeper hA, .inr ⟨rfl, rfl⟩,
      fun b hb => ⟨Nat.ne_of_lt (hfo b hb), fun y c e => (hfp b hb).2.2.2.2.1 y c (cm e)⟩, I.bs, Nat.le_trans I.ok.bsz I.sz, fun b o e hb => ?_, fun b hb hm => ?_, I.stack, I.stkFree⟩,
    rfl, hg, Un.kept kp2, ⟨m0, hns.push _, fun i y v e1 e2 e3 => ?_⟩, fun y c e => ?_, I.hok.fresh (Nat.le_refl _), fun y c e => I.freeC y c (cm e), fun q hq => ?_, I.hok.kept kp2, ?_⟩
  · have hy : scope.names.lookup y = some .cell ∨ scope.names.lookup y = some .free := hy
    rcases hy with hy | hy
    · exact absurd rfl (L.cell _ (PySem.mem_of_lookup hy))
    · exact look hy
  · have z : false = true := z
    cases z
  · rcases (hfp b hb).2.2.2.1 with z | z
    · exact I.ok.noex b o e z
    · exact absurd (Nat.lt_of_lt_of_le (Heap.lt_size e) (Nat.le_trans I.ok.bsz z)) (Nat.lt_irrefl _)
  · rcases sub b hm with z | z
    · exact (hfp b hb).2.1 z
    · exact (hfp b hb).2.2.1 z
  · obtain ⟨e2, hi⟩ := wipe_some e2
    have e3 : Vis scope y := e3
    rcases e3 with k | k | k
    · exfalso
      rcases L.blk.own _ (PySem.mem_of_lookup k) (.inl rfl) with z | z
      · obtain ⟨p, hp, ep⟩ := List.mem_map.mp z
        have q := L.blk.ix p hp
        have e4 : X.N[p.2]? = some y := by rw [q, ep]
        have := nodup_ix hN e4 e1
        exact hi (by rw [← this]; exact List.mem_map.mpr ⟨p, hp, rfl⟩)
      · exact z (List.mem_of_getElem? e1)
    · exact absurd rfl (L.cell _ (PySem.mem_of_lookup k))
    · obtain ⟨m, hn, hl⟩ := I.loc
      have hvis : Vis X.env.scope y := (L.blk.free _ (PySem.mem_of_lookup k) rfl).elim (fun k => .inr (.inl k)) (fun k => .inr (.inr k))
      obtain ⟨w', r, q⟩ := hl i y v e1 e2 hvis
      obtain ⟨c2, h2⟩ := look k
      refine ⟨w', r, .inr ⟨.inr k, c2, h2, ?_⟩⟩
      have c1 := cm h2
      rcases q with ⟨k', _⟩ | ⟨_, c3, e', z⟩
      · have k' : X.env.scope.names.lookup y = some .local := k'
        rcases L.blk.free _ (PySem.mem_of_lookup k) rfl with k2 | k2 <;> rw [show X.env.scope.names.lookup y = _ from k2] at k' <;> cases k'
      · rw [c1] at e'
        cases e'
        exact cellK z
  · obtain ⟨w', z⟩ := I.cell y c (cm e)
    exact ⟨w', cellK z⟩
  · have e : q = (h'.objs.size, go) := by simpa [gxCx] using hq
    subst e
    have hle : s.heap.objs.size ≤ h'.objs.size := by rw [hsz]; exact Nat.le_succ _
    exact ⟨hgp, I.hok.fresh hle, by show h'.objs.size ≠ s.heap.objs.size; rw [hsz]; exact Nat.succ_ne_self _, outF _ hle, hgd⟩
  · rw [wipe_length]; exact I.len
/-- the generator's own slots are forgotten -/
theorem inv_forget {i : Nat} (I : Inv X pins σ H s) : Inv X pins (σ.set i none) H s :=
  ⟨I.ok, I.os, I.bare, I.base, (by
    obtain ⟨m, hn, hl⟩ := I.loc
    refine ⟨m, hn, fun j y v e1 e2 e3 => hl j y v e1 ?_ e3⟩
    by_cases e : i = j
    · subst e
      rw [List.getElem?_set] at e2
      split at e2
      · split at e2 <;> cases e2
      · exact e2
    · rwa [List.getElem?_set_ne e] at e2), I.cell, I.free, I.freeC, I.pin, I.hok, by rw [List.length_set]; exact I.len⟩
theorem inv_wipe (I : Inv X pins σ H s) : ∀ vs : List Nat, Inv X pins (L2.wipe σ vs) H s
  | [] => I
  | v :: vs => by unfold L2.wipe; exact inv_forget (inv_wipe I vs)
end
/-- an item is out -/
def GXY (Xg : Cx) (W : Nat → Nat → Hp → Prop) (YV : Nat → Nat → V → Hp → Prop) : Protocol := fun n _ v s kap =>
  ∃ k i y σ H, k ≤ n ∧ RelV y v ∧ Inv Xg [] σ H s ∧ YV k i y H ∧
    (W k i H → ∀ s' : Shared, s'.os = s.os → AllBare s'.gens → (∀ b o, s.heap.get? b = some o → s'.heap.get? b = some o) → kap (.send .none) s')
/-- no item is left -/
def GXE (Xg : Cx) (End : Hp → Prop) : Nat → Shared → Shared → Prop := fun _ _ s => ∃ σ H, Inv Xg [] σ H s ∧ End H
theorem gx_loop {Xg : Cx} {A : Around} {elt iter tg : Expr} {ifs : List Expr} {scope : Scope} {pos : Pos} {it : Addr} {fp : List Addr} {tn : Nat → Heap → Prop} {J : It} {g : TG} {tt : TT} {te : TE} {vs : List Nat} {σw : L2.St} {W : Nat → Nat → Hp → Prop} {YV : Nat → Nat → V → Hp → Prop} {End : Hp → Prop}
    (hov : A.deeper Xg.env = Xg.A) (hc : Xg.calm = true) (hxe : ∀ e s, ¬ Xg.xe e s) (hco : Xg.env.scope.isCoroutine = false) (T : Turn Xg.prog Xg.w Xg.K tg J fp it tn) (hg : PG Xg tg g) (ht : PTs Xg ifs tt) (he : PE Xg elt te)
    (turn : ∀ k i H, W k i H → (J.stop i H ∧ End H) ∨ (J.go i H ∧ ∃ k', k = k' + 1 ∧ ∀ x H', J.yld i H x H' → g x σw H' fun σ1 H1 => L2.wipe σ1 vs = σw ∧ tt σ1 H1 fun b H2 => if b = true then te σ1 H2 fun y H3 => YV k' (i + 1) y H3 else W k' (i + 1) H2)) :
    ∀ (k n i : Nat) (H : Hp) (s₀ s : Shared), k ≤ n → W k i H → Inv Xg [] σw H s → tn i s.heap → (∀ b ∈ fp, FpOk Xg [] H b) →
      Seg (model Xg.prog Xg.w) A (fun n s₀ r s₁ => r = .ok .next ∧ GXE Xg End n s₀ s₁) (GXY Xg W YV) n s₀ (.compLoop (.GeneratorExp elt [⟨tg, iter, ifs, 0⟩] scope pos) 0 (.ref it) .none Xg.env)
        ((model Xg.prog Xg.w).den (.compLoop (.GeneratorExp elt [⟨tg, iter, ifs, 0⟩] scope pos) 0 (.ref it) .none Xg.env)) [] s := by
  intro k
  induction k with
  | zero =>
    intro n i H s₀ s hk w I st f
    show Seg _ A _ _ _ s₀ _ ((compTurn (.GeneratorExp elt [⟨tg, iter, ifs, 0⟩] scope pos) 0 (.ref it) .none Xg.env).onRaise (leaving Xg.env)) [] s
    rw [compTurn_gen, Sem.onRaise_eq_wrap]
    refine seg_bind_wrap (wpAny_standAt ?_)
    rcases turn _ i H w with ⟨stop, e⟩ | ⟨_, k', hk', _⟩
    · refine seg_bind_wrap ?_
      rw [over_gx, hov]
      refine wpAny_mono (T.done Xg rfl rfl rfl hc i [] s σw H (fun _ _ => False) I f st stop) (fun r s1 hr => ?_) fun _ _ z => z.elim
      obtain ⟨rfl, I1⟩ := hr
      exact seg_end (.ok .next) ⟨rfl, σw, H, I1, e⟩
    · cases hk'
  | succ k ih =>
    intro n i H s₀ s hk w I st f
    obtain ⟨n, rfl⟩ : ∃ m, n = m + 1 := ⟨n - 1, by omega⟩
    show Seg _ A _ _ _ s₀ _ ((compTurn (.GeneratorExp elt [⟨tg, iter, ifs, 0⟩] scope pos) 0 (.ref it) .none Xg.env).onRaise (leaving Xg.env)) [] s
    rw [compTurn_gen, Sem.onRaise_eq_wrap]
    refine seg_bind_wrap (wpAny_standAt ?_)
    have stat : ∀ {H' : Hp}, (∀ b ∈ fp, H' b = none) → ∀ b ∈ fp, FpOk Xg [] H' b := fun hn b hb => ⟨hn b hb, (f b hb).2⟩
    rcases turn _ i H w with ⟨stop, e⟩ | ⟨go, k', hk', step⟩
    · refine seg_bind_wrap ?_
      rw [over_gx, hov]
      refine wpAny_mono (T.done Xg rfl rfl rfl hc i [] s σw H (fun _ _ => False) I f st stop) (fun r s1 hr => ?_) fun _ _ z => z.elim
      obtain ⟨rfl, I1⟩ := hr
      exact seg_end (.ok .next) ⟨rfl, σw, H, I1, e⟩
    · obtain rfl : k = k' := by omega
      refine seg_bind_wrap ?_
      rw [over_gx, hov]
      refine wpAny_mono (T.item Xg rfl rfl rfl hc i [] s σw H (fun _ _ => False) I f st go) (fun r s1 hr => ?_) fun _ _ z => z.elim
      obtain ⟨u, rfl, h4⟩ := hr
      refine seg_bind_wrap ?_
      rw [over_gx, hov]
      refine wpAny_mono h4 (fun _ s2 hs2 => ?_) fun _ _ z => z.elim
      obtain ⟨x, H2, I2, r2, y2, st2, fr2⟩ := hs2
      have I2' := I2.pinned (stat fr2) (T.obj _ _ st2)
      refine seg_bind_wrap ?_
      rw [over_gx, hov]
      refine wpAny_mono (hg.run _ s2 σw H2 x u _ I2' r2 (step x H2 y2)) (fun _ s3 hs3 => ?_) fun _ _ z => (hxe _ _ z).elim
      obtain ⟨σ3, H3, I3, hw3, q3⟩ := hs3
      refine seg_bind_wrap ?_
      rw [over_gx, hov]
      refine wpAny_mono (ht.run _ s3 σ3 H3 _ I3 q3) (fun b s4 hs4 => ?_) fun _ _ z => (hxe _ _ z).elim
      obtain ⟨H4, I4, q4⟩ := hs4
      have on : ∀ {H5 : Hp} {s5 : Shared}, Inv Xg ([] ++ pinsAt fp s2.heap) σ3 H5 s5 → Inv Xg [] σw H5 s5 ∧ tn (i + 1) s5.heap ∧ ∀ b ∈ fp, FpOk Xg [] H5 b := fun {H5 s5} I5 => by
        refine ⟨by rw [← hw3]; exact inv_wipe I5.unpinned vs, T.keep _ _ _ st2 fun b hb o e => (I5.pin (b, o) (List.mem_append_right _ (List.mem_append_right _ (mem_pinsAt hb e)))).1, stat fun b hb => ?_⟩
        obtain ⟨o, e, d⟩ := T.obj _ _ st2 b hb
        exact (I5.pin (b, o) (List.mem_append_right _ (List.mem_append_right _ (mem_pinsAt hb e)))).2.1
      cases b with
      | false =>
        obtain ⟨a1, a2, a3⟩ := on I4
        have q4 : W k (i + 1) H4 := q4
        simp only [Bool.false_eq_true, if_false]
        exact seg_again rfl (ih _ _ _ _ _ (by omega) q4 a1 a2 a3)
      | true =>
        have q4 : te σ3 H4 fun y H3 => YV k (i + 1) y H3 := q4
        simp only [if_true]
        have hy : ∀ v, yieldOut Xg.env v = yieldValue v := fun v => by simp only [yieldOut, hco, Bool.false_eq_true, if_false]
        simp only [hy]
        rw [Sem.bind_eq_wrap', Sem.bind_eq_wrap', Sem.wrap_wrap, Sem.wrap_wrap]
        refine seg_wrap ?_
        rw [over_gx, hov]
        refine wpAny_mono (he.run _ s4 σ3 H4 _ I4 q4) (fun v s5 hs5 => ?_) fun _ _ z => (hxe _ _ z).elim
        obtain ⟨y, H5, I5, r5, q5⟩ := hs5
        obtain ⟨a1, a2, a3⟩ := on I5
        refine seg_at (seg_yield rfl rfl rfl ⟨k, i + 1, y, σw, H5, by omega, r5, a1, q5, fun w5 s' ho hb hk5 => ?_⟩)
        have J5 : Inv Xg [] σw H5 s' := a1.call' (ch := []) ho (Un.kept hk5) (a1.hok.kept hk5) hb fun b z => absurd z (by simp)
        exact seg_again rfl (ih _ _ _ _ _ (by omega) w5 J5 (T.keep _ _ _ a2 fun b _ o e => hk5 b o e) a3)
end Z

/-! generator expressions: how they begin, all and any over them -/
namespace Z
open PySem PySem.Spec PyProof.Rows L2 GenW

theorem gx_start {Xg : Cx} {A : Around} {elt iter tg : Expr} {ifs : List Expr} {scope : Scope} {pos : Pos} {it : Addr} {fp : List Addr} {tn : Nat → Heap → Prop} {J : It} {g : TG} {tt : TT} {te : TE} {vs : List Nat} {σw : L2.St} {W : Nat → Nat → Hp → Prop} {YV : Nat → Nat → V → Hp → Prop} {End : Hp → Prop}
    (hov : A.deeper Xg.env = Xg.A) (hc : Xg.calm = true) (hxe : ∀ e s, ¬ Xg.xe e s) (hco : Xg.env.scope.isCoroutine = false) (T : Turn Xg.prog Xg.w Xg.K tg J fp it tn) (hg : PG Xg tg g) (ht : PTs Xg ifs tt) (he : PE Xg elt te)
    (turn : ∀ k i H, W k i H → (J.stop i H ∧ End H) ∨ (J.go i H ∧ ∃ k', k = k' + 1 ∧ ∀ x H', J.yld i H x H' → g x σw H' fun σ1 H1 => L2.wipe σ1 vs = σw ∧ tt σ1 H1 fun b H2 => if b = true then te σ1 H2 fun y H3 => YV k' (i + 1) y H3 else W k' (i + 1) H2))
    {k : Nat} {H : Hp} {s₀ s : Shared} (w : W k 0 H) (I : Inv Xg [] σw H s) (st : tn 0 s.heap) (f : ∀ b ∈ fp, FpOk Xg [] H b) :
      Seg (model Xg.prog Xg.w) A (fun n s₀ r s₁ => r = .ok .next ∧ GXE Xg End n s₀ s₁) (GXY Xg W YV) k s₀ (.compStart (.GeneratorExp elt [⟨tg, iter, ifs, 0⟩] scope pos) 0 (.ref it) .none Xg.env)
        ((model Xg.prog Xg.w).den (.compStart (.GeneratorExp elt [⟨tg, iter, ifs, 0⟩] scope pos) 0 (.ref it) .none Xg.env)) [] s := by
  have loop := gx_loop (A := A) (iter := iter) (scope := scope) (pos := pos) hov hc hxe hco T hg ht he turn k k 0 H s₀ s (Nat.le_refl _) w I st f
  show Seg _ A _ _ _ s₀ _ ((compStart (.GeneratorExp elt [⟨tg, iter, ifs, 0⟩] scope pos) 0 (.ref it) .none Xg.env).onRaise (leaving Xg.env)) [] s
  unfold compStart
  rw [Sem.onRaise_eq_wrap]
  show Seg _ A _ _ _ s₀ _ ((ask >>= _).wrap _ _ _ _) [] s
  refine seg_bind_wrap (wpAny_askSetting ?_)
  split
  · exact seg_again rfl loop
  · first
      | exact seg_bind_wrap (wpAny_rule (seg_bind_wrap (wpAny_standAt (seg_bind_wrap (T.self _ 0 s _ _ st (seg_again rfl loop))))))
      | (refine seg_bind_wrap (wpAny_rule ?_); show Seg _ A _ _ _ s₀ _ ((standAt iter.pos >>= _).wrap _ _ _ _) [] s; exact seg_bind_wrap (wpAny_standAt (seg_bind_wrap (T.self _ 0 s _ _ st (seg_again rfl loop)))))

/-- it sleeps, and may hand out at most n items -/
def GXS (X : Cx) (pins : List (Addr × Obj)) (σ : L2.St) (W : Nat → Nat → Hp → Prop) (YV : Nat → Nat → V → Hp → Prop) (End : Hp → Prop) (a : Addr) (n : Nat) (s : Shared) : Prop :=
  ∃ (g : Nat) (Xg : Cx) (gs : GenState), s.heap.IsGen a g ∧ s.heap.NoLimit ∧ s.gens[g]? = some gs ∧ AllBare s.gens ∧
    gs.Goes (model X.prog X.w) X.A.in1.in1 (fun n s₀ r s₁ => r = .ok .next ∧ GXE Xg End n s₀ s₁) (GXY Xg W YV) n (.send .none) (s.setGen g .running) ∧
    ∀ σ' H' s', Inv Xg [] σ' H' s' → s'.heap.IsGen a g ∧ s'.heap.NoLimit ∧ AllBare s'.gens ∧ ∀ g' h' tk, AllBare g' → (∀ b o, s'.heap.get? b = some o → h'.get? b = some o) → Inv X pins σ H' { s' with gens := g', heap := h', toks := tk }
section
variable {X : Cx} {pins : List (Addr × Obj)} {σ : L2.St} {H : Hp} {s : Shared} {W : Nat → Nat → Hp → Prop} {End Fl : Hp → Prop} {a : Addr} {R : Result → Shared → Prop}
/-- the next item, or none -/
theorem gx_next {YV : Nat → Nat → V → Hp → Prop} {n : Nat} {Q : Option Value → Shared → Prop} {E : Value → Shared → Prop} (hh : X.A.handled = none) (hd : X.A.depth < recursionLimit) (S : GXS X pins σ W YV End a n s)
    (hi : ∀ k i y v H' s', k ≤ n → RelV y v → Inv X pins σ H' s' → YV k i y H' → (W k i H' → ∃ m, n = m + 1 ∧ GXS X pins σ W YV End a m s') → Q (some v) s')
    (he : ∀ H' s', Inv X pins σ H' s' → End H' → Q none s') : wpAny (model X.prog X.w) X.A.in1 (pyNext (.ref a)) Q E s := by
  obtain ⟨g, Xg, gs, hg, hl, hgs, hb, hgo, back⟩ := S
  have hgl : g < s.gens.size := (Array.getElem?_eq_some_iff.mp hgs).1
  refine wpAny_gsz (n := g + 1) hgl (wpAny_pyNext_genexpQ (A := X.A.in1) (P := GXE Xg End) hh hl hd hg hgs hgo (fun v s₁ gs' hbare hv => ?_) (fun s₁ hp h' hk => ?_))
  · intro hsz
    obtain ⟨k, i, y, σ', H', hk, rv, I', hYV, hkap⟩ := hv
    obtain ⟨b1, b2, b3, b4⟩ := back _ _ _ I'
    have nb : AllBare (s₁.setGen g gs').gens := allBare_setGen b3 hbare
    refine hi k i y v H' _ (by omega) rv (b4 (s₁.setGen g gs').gens s₁.heap s₁.toks nb fun _ _ e => e) hYV fun w => ?_
    cases n with
    | zero => exact (hkap w s₁ rfl b3 fun _ _ e => e).elim
    | succ m =>
      have hsz1 : g < s₁.gens.size := by
        have q : (s₁.setGen g gs').gens.size = s₁.gens.size := setGen_size _ _ _
        have hsz' : g + 1 ≤ (s₁.setGen g gs').gens.size := hsz
        omega
      exact ⟨m, rfl, g, Xg, gs', b1, b2, setGen_at hsz1, nb, hkap w _ rfl (allBare_setGen (s := s₁.setGen g gs') nb rfl) fun _ _ e => e, back⟩
  · intro hsz
    obtain ⟨σ', H', I', e⟩ := hp
    obtain ⟨b1, b2, b3, b4⟩ := back _ _ _ I'
    exact he H' _ (b4 (s₁.setGen g .finished).gens h' s₁.toks (allBare_setGen b3 rfl) hk) e
def YAll (W : Nat → Nat → Hp → Prop) (Fl : Hp → Prop) : Nat → Nat → V → Hp → Prop := fun k i y H => ∃ b, y = .bl b ∧ (b = true → W k i H) ∧ (b = false → Fl H)
def YAny (W : Nat → Nat → Hp → Prop) (Fl : Hp → Prop) : Nat → Nat → V → Hp → Prop := fun k i y H => ∃ b, y = .bl b ∧ (b = false → W k i H) ∧ (b = true → Fl H)
theorem all_drain (hh : X.A.handled = none) (hd : X.A.depth < recursionLimit) (ht : ∀ H' s', Inv X pins σ H' s' → End H' → R (.ok (.ret (.bool true))) s') (hf : ∀ H' s', Inv X pins σ H' s' → Fl H' → R (.ok (.ret (.bool false))) s') :
    ∀ (n : Nat) (s : Shared), GXS X pins σ W (YAll W Fl) End a n s → codeAny (model X.prog X.w) X.A (.builtin "all.loop" ⟨[.ref a], []⟩) R s := by
  intro n
  induction n with
  | zero =>
    intro s S
    refine codeAny_builtin F.entry_all_loop ?_
    rw [Around.under_plainId F.plain_all_loop _]
    show wpAny _ X.A.in1 (pyNext (.ref a) >>= _) _ _ s
    refine wpAny_bind (gx_next hh hd S (fun k i y v H' s' hk rv I' hY hw => ?_) fun H' s' I' e => ?_)
    · obtain ⟨b, rfl, h1, h2⟩ := hY
      cases rv
      refine wpAny_bind (wpAny_holding (wpAny_truthy_bool ?_))
      refine wpAny_bind (wpAny_letGo ?_)
      cases b with
      | true => obtain ⟨m, hm, _⟩ := hw (h1 rfl); cases hm
      | false =>
        simp only [Bool.false_eq_true, if_false]
        exact wpAny_bind (wpAny_rule (wpAny_pure (hf _ _ I' (h2 rfl))))
    · exact wpAny_bind (wpAny_rule (wpAny_pure (ht _ _ I' e)))
  | succ n ih =>
    intro s S
    refine codeAny_builtin F.entry_all_loop ?_
    rw [Around.under_plainId F.plain_all_loop _]
    show wpAny _ X.A.in1 (pyNext (.ref a) >>= _) _ _ s
    refine wpAny_bind (gx_next hh hd S (fun k i y v H' s' hk rv I' hY hw => ?_) fun H' s' I' e => ?_)
    · obtain ⟨b, rfl, h1, h2⟩ := hY
      cases rv
      refine wpAny_bind (wpAny_holding (wpAny_truthy_bool ?_))
      refine wpAny_bind (wpAny_letGo ?_)
      cases b with
      | true =>
        obtain ⟨m, hm, S'⟩ := hw (h1 rfl)
        obtain rfl : n = m := by omega
        simp only [if_true]
        exact wpAny_pure ⟨plainId_quiet F.plain_all_loop _, ih _ S'⟩
      | false =>
        simp only [Bool.false_eq_true, if_false]
        exact wpAny_bind (wpAny_rule (wpAny_pure (hf _ _ I' (h2 rfl))))
    · exact wpAny_bind (wpAny_rule (wpAny_pure (ht _ _ I' e)))
theorem any_drain (hh : X.A.handled = none) (hd : X.A.depth < recursionLimit) (ht : ∀ H' s', Inv X pins σ H' s' → End H' → R (.ok (.ret (.bool false))) s') (hf : ∀ H' s', Inv X pins σ H' s' → Fl H' → R (.ok (.ret (.bool true))) s') :
    ∀ (n : Nat) (s : Shared), GXS X pins σ W (YAny W Fl) End a n s → codeAny (model X.prog X.w) X.A (.builtin "any.loop" ⟨[.ref a], []⟩) R s := by
  intro n
  induction n with
  | zero =>
    intro s S
    refine codeAny_builtin F.entry_any_loop ?_
    rw [Around.under_plainId F.plain_any_loop _]
    show wpAny _ X.A.in1 (pyNext (.ref a) >>= _) _ _ s
    refine wpAny_bind (gx_next hh hd S (fun k i y v H' s' hk rv I' hY hw => ?_) fun H' s' I' e => ?_)
    · obtain ⟨b, rfl, h1, h2⟩ := hY
      cases rv
      refine wpAny_bind (wpAny_holding (wpAny_truthy_bool ?_))
      refine wpAny_bind (wpAny_letGo ?_)
      cases b with
      | false => obtain ⟨m, hm, _⟩ := hw (h1 rfl); cases hm
      | true =>
        simp only [if_true]
        exact wpAny_bind (wpAny_rule (wpAny_pure (hf _ _ I' (h2 rfl))))
    · exact wpAny_bind (wpAny_rule (wpAny_pure (ht _ _ I' e)))
  | succ n ih =>
    intro s S
    refine codeAny_builtin F.entry_any_loop ?_
    rw [Around.under_plainId F.plain_any_loop _]
    show wpAny _ X.A.in1 (pyNext (.ref a) >>= _) _ _ s
    refine wpAny_bind (gx_next hh hd S (fun k i y v H' s' hk rv I' hY hw => ?_) fun H' s' I' e => ?_)
    · obtain ⟨b, rfl, h1, h2⟩ := hY
      cases rv
      refine wpAny_bind (wpAny_holding (wpAny_truthy_bool ?_))
      refine wpAny_bind (wpAny_letGo ?_)
      cases b with
      | false =>
        obtain ⟨m, hm, S'⟩ := hw (h1 rfl)
        obtain rfl : n = m := by omega
        simp only [Bool.false_eq_true, if_false]
        exact wpAny_pure ⟨plainId_quiet F.plain_any_loop _, ih _ S'⟩
      | true =>
        simp only [if_true]
        exact wpAny_bind (wpAny_rule (wpAny_pure (hf _ _ I' (h2 rfl))))
    · exact wpAny_bind (wpAny_rule (wpAny_pure (ht _ _ I' e)))
end
end Z

/-! all(.. for .. in ..), any(.. for .. in ..): the rules -/
namespace Z
open PySem PySem.Spec PyProof.Rows L2 GenW

def YB (d : Bool) (W : Nat → Nat → Hp → Prop) (Fl : Hp → Prop) : Nat → Nat → V → Hp → Prop := fun k i y H => ∃ b, y = .bl b ∧ (b = d → W k i H) ∧ (b = !d → Fl H)
theorem yb_all {W : Nat → Nat → Hp → Prop} {Fl : Hp → Prop} : YB true W Fl = YAll W Fl := rfl
theorem yb_any {W : Nat → Nat → Hp → Prop} {Fl : Hp → Prop} : YB false W Fl = YAny W Fl := rfl
abbrev genObj (n t : Nat) (q : Str) : Obj := { cls := .type "generator", data := .fields #[.int n 0, .str "<genexpr>" (t + 1), .str (q ++ "<genexpr>") (t + 1 + 1)] }
/-- the turns of a generator -/
def GTurn (J : It) (g : TG) (tt : TT) (te : TE) (vs : List Nat) (σw : L2.St) (W : Nat → Nat → Hp → Prop) (YV : Nat → Nat → V → Hp → Prop) (End : Hp → Prop) : Prop :=
  ∀ k i H, W k i H → (J.stop i H ∧ End H) ∨ (J.go i H ∧ ∃ k', k = k' + 1 ∧ ∀ x H', J.yld i H x H' → g x σw H' fun σ1 H1 => L2.wipe σ1 vs = σw ∧ tt σ1 H1 fun b H2 => if b = true then te σ1 H2 fun y H3 => YV k' (i + 1) y H3 else W k' (i + 1) H2)
def GRs (d : Bool) (P : Addr) (g : TG) (tt : TT) (te : TE) (vs : List Nat) (σ : L2.St) (Q : VK) : It → Hp → Prop := fun J H1 => ∀ H2, GxR.Tabbed P H1 H2 →
  ∃ W : Nat → Nat → Hp → Prop, (∃ k, W k 0 H2) ∧ GTurn J g tt te vs (L2.wipe σ vs) W (YB d W (Q (.bl (!d)))) (Q (.bl d))
def tGX (d : Bool) (P : Addr) (wi : TI) (g : TG) (tt : TT) (te : TE) (vs : List Nat) : TE := fun σ H Q => wi σ H fun J H1 => GxR.TabG H1 P ∧ GRs d P g tt te vs σ Q J H1
theorem inv_gens {X : Cx} {pins : List (Addr × Obj)} {σ : L2.St} {H : Hp} {s : Shared} (I : Inv X pins σ H s) (g' : Array GenState) (hb : AllBare g') : Inv X pins σ H { s with gens := g' } :=
  Inv.call' (s := s) (s' := { s with gens := g' }) (H' := H) (ch := []) I rfl (Un.kept fun _ _ e => e) (I.hok.kept fun _ _ e => e) hb fun b z => absurd z (by simp)
/-- the rules within the generator's frame -/
structure GxRules (X : Cx) (k : Nat) (scope : Scope) (tg : Expr) (ifs : List Expr) (elt : Expr) (g : TG) (tt : TT) (te : TE) : Prop where
  g : ∀ (A : Around) (s : Shared) (H : Hp) (fp : List Addr) (C : Addr) (code : Value) (pn : List (Addr × Obj)), PG (gxCx X A s H fp (gxEnv X scope C code) pn) tg g
  t : ∀ (A : Around) (s : Shared) (H : Hp) (fp : List Addr) (C : Addr) (code : Value) (pn : List (Addr × Obj)), Room k (A.deeper (gxEnv X scope C code)) → PTs (gxCx X A s H fp (gxEnv X scope C code) pn) ifs tt
  e : ∀ (A : Around) (s : Shared) (H : Hp) (fp : List Addr) (C : Addr) (code : Value) (pn : List (Addr × Obj)), Room k (A.deeper (gxEnv X scope C code)) → PE (gxCx X A s H fp (gxEnv X scope C code) pn) elt te

section
variable {X : Cx} {pins : List (Addr × Obj)} {σ : L2.St} {H : Hp} {s : Shared} {scope : Scope} {own : List (Str × Nat)} {k : Nat} {c P : Addr} {elt iter tg : Expr} {ifs : List Expr} {gpos pos : Pos} {wi : TI} {g : TG} {tt : TT} {te : TE}
theorem gx_made {Q' : Value → Shared → Prop} {R : It → Hp → Prop} (hN : X.N.Nodup) (hr : Room (k + 1) X.A) (TB : GxR.TabB X.base X.mg c P) (hcode : X.env.code = .ref c) (L : GxOk X.N X.env.scope scope own) (hi : PI X tg iter wi) (G : GxRules X k scope tg ifs elt g tt te)
    (hs : ∀ v, genFold iter X.env v = pure v) (I : Inv X pins σ H s) (h : wi σ H fun J H1 => GxR.TabG H1 P ∧ R J H1)
    (hQ : ∀ J H1 H2 a s5, R J H1 → GxR.Tabbed P H1 H2 → (∀ (W : Nat → Nat → Hp → Prop) (YV : Nat → Nat → V → Hp → Prop) (End : Hp → Prop) (n : Nat), W n 0 H2 → GTurn J g tt te (own.map (·.2)) (L2.wipe σ (own.map (·.2))) W YV End → GXS X pins σ W YV End a n s5) → (∃ g, s5.heap.IsGen a g) → Q' (.ref a) s5) :
    wpAny (model X.prog X.w) X.A (eval (.GeneratorExp elt [⟨tg, iter, ifs, 0⟩] scope gpos) X.env) Q' X.xe s := by
  have hfree := gx_cells I L
  refine wpAny_GeneratorExp_make L.co (closure_ok hfree) L.cell L.dot L.blk.kind (by have := hr.dp; omega) ?_ hs
  refine thn (hi.run pins s σ H _ I h) fun xv s1 h1 => thn h1 fun itv s2 h2 => ?_
  obtain ⟨it, fp, tn, J, H2, rfl, I2, T, st2, f2, ⟨ps, hP, ht⟩, hR⟩ := h2
  refine ⟨I2.nolimit, ?_⟩
  have hPs : s2.heap.get? P = some { cls := .none, data := .fields ps } := I2.hok P _ hP
  have cd : PySem.W.CodeHd s2.heap c P := TB.code.keeps fun b u e => I2.bk b u e
  have fpP : ∀ b ∈ fp, b ≠ P := fun b hb e => by
    have q := (f2 b hb).1
    rw [e, hP] at q; cases q
  have cont : ∀ (code : Value) (h3 : Heap) (tk : Nat) (ps' : Array Value), Heap.ExtBut P s2.heap h3 → s2.heap.objs.size ≤ h3.objs.size → h3.get? P = some { cls := .none, data := .fields ps' } → (∃ more, ps' = ps ++ more) → TriplesOk ps'.toList →
      wpAny (model X.prog X.w) X.A (builtinsFor X.env.globals X.env.builtins) (fun bi s₄ =>
        ∀ h', h'.Ns s₄.heap.objs.size (fun y => if y = ".0" then some (Value.ref it) else none) → Heap.SameBut s₄.heap.objs.size (s₄.heap.push { cls := .type "frame", data := .dict #[] }) h' →
          Q' (.ref h'.objs.size) { s₄ with
            gens := s₄.gens.push (.fresh (.compStart (.GeneratorExp elt [⟨tg, iter, ifs, 0⟩] scope gpos) 0 (.ref it) .none (genEnv scope (cloFrom X.env.cells scope.names []) s₄.heap.objs.size code bi X.env))),
            toks := s₄.toks + 1 + 1 + 1,
            heap := h'.push { cls := .type "generator", data := .fields #[.int s₄.gens.size 0, .str "<genexpr>" (s₄.toks + 1), .str (X.env.qual ++ "<genexpr>") (s₄.toks + 1 + 1)] } }) X.xe { s2 with heap := h3, toks := tk } := by
    intro code h3 tk ps' hx hsz hP3 hmore ht3
    obtain ⟨more, rfl⟩ := hmore
    obtain ⟨bm, ob, e1, e2, e3, e4, e5, e6, e7, e8⟩ := TB.bm
    have keep3 : ∀ b u, b ≠ P → s2.heap.get? b = some u → h3.get? b = some u := fun b u hb e => hx b u hb e
    refine wpAny_builtinsFor (m := X.mg) (by rw [I2.ok.glob]; exact (I2.mod.glob.keeps I2.bk).extBut hx TB.gP) e1 e2 (keep3 _ _ e4 (I2.bk _ _ e5)) e6 e7 e8 ?_
    intro h' hns hs'
    have I4 : Inv X pins σ (upd H2 P (.tbl (ps ++ more))) { s2 with heap := h3, toks := tk } := GxR.inv_tab (g' := s2.gens) (d' := s2.drawn) I2 hP keep3 hP3 I2.bare
    generalize hs4 : ({ s2 with heap := h3, toks := tk } : Shared) = s4 at *
    have e4h : s4.heap = h3 := by rw [← hs4]
    have f4 : ∀ b ∈ fp, FpOk X pins (upd H2 P (.tbl (ps ++ more))) b := fun b hb => ⟨by rw [upd_ne (fpP b hb)]; exact (f2 b hb).1, (f2 b hb).2⟩
    have fo4 : ∀ b ∈ fp, b < s4.heap.objs.size := fun b hb => by
      obtain ⟨o, e, _⟩ := T.obj _ _ st2 b hb
      rw [e4h]
      exact Nat.lt_of_lt_of_le (Heap.lt_size e) hsz
    have st4 : tn 0 s4.heap := T.keep _ _ _ st2 fun b hb o e => by rw [e4h]; exact keep3 b o (fpP b hb) e
    have kp : ∀ b o, s4.heap.get? b = some o → h'.get? b = some o := fun b o e => hs'.extBut b o (Nat.ne_of_lt (Heap.lt_size e)) (Heap.get?_push_of_some _ e)
    have hsz5 : h'.objs.size = s4.heap.objs.size + 1 := by rw [hs'.1, Heap.size_push]
    have hd : X.A.in1.in1.handled = none := hr.hd
    have bp : AllBare (s4.gens.push (.fresh (.compStart (.GeneratorExp elt [⟨tg, iter, ifs, 0⟩] scope gpos) 0 (.ref it) .none (genEnv scope (cloFrom X.env.cells scope.names []) s4.heap.objs.size code builtinsNs X.env)))) := AllBare.push I4.bare rfl
    have I5 := inv_gx (A := X.A.in1.in1) (code := code) (tk := s4.toks + 1 + 1 + 1) (go := genObj s4.gens.size s4.toks X.env.qual)
      hN I4 L I4.ok.frames hd f4 fo4 hns kp hsz5 (Heap.get?_push_size _ rfl) (fun v q => by cases q) bp
    have isg : ∀ h : Heap, h.get? h'.objs.size = some (genObj s4.gens.size s4.toks X.env.qual) → h.IsGen h'.objs.size s4.gens.size := fun h e => ⟨_, _, _, e, rfl, rfl, rfl⟩
    refine hQ J H2 (upd H2 P (.tbl (ps ++ more))) h'.objs.size _ hR ⟨⟨ps ++ more, upd_same, ht3⟩, fun b hb => upd_ne hb⟩ (fun W YV End n w turn => ?_) ⟨_, isg _ (Heap.get?_push_size _ rfl)⟩
    refine ⟨s4.gens.size, gxCx X X.A.in1.in1 s4 (upd H2 P (.tbl (ps ++ more))) fp (gxEnv X scope s4.heap.objs.size code) [(h'.objs.size, genObj s4.gens.size s4.toks X.env.qual)], _, isg _ (Heap.get?_push_size _ rfl), I5.nolimit, Array.getElem?_push_size .., bp, ⟨rfl, ?_⟩, fun σ' H' s' I' => ⟨isg _ (I'.pin (h'.objs.size, genObj s4.gens.size s4.toks X.env.qual) (List.mem_append_left _ (List.mem_singleton.mpr rfl))).1, I'.nolimit, I'.bare, fun g' hh tk' hb hk => ?_⟩⟩
    · have rm : Room k (X.A.in1.in1.deeper (gxEnv X scope s4.heap.objs.size code)) := ⟨hr.hd, by have := hr.dp; show X.A.depth + 1 + 3 * k + 5 < _; omega, by have := hr.un; show X.A.units + 1 + 1 + 3 + 16 * k + 200 < _; omega⟩
      refine gx_start (Xg := gxCx X X.A.in1.in1 s4 (upd H2 P (.tbl (ps ++ more))) fp (gxEnv X scope s4.heap.objs.size code) [(h'.objs.size, genObj s4.gens.size s4.toks X.env.qual)]) (A := X.A.in1.in1) (vs := own.map (·.2)) (σw := L2.wipe σ (own.map (·.2))) (W := W) (YV := YV) (End := End) rfl rfl (fun _ _ z => z) L.co T (G.g _ _ _ _ _ _ _) (G.t _ _ _ _ _ _ _ rm) (G.e _ _ _ _ _ _ _ rm) (fun k i H w => turn k i H w) w
        (inv_gens I5 _ (allBare_setGen (s := { s4 with gens := _ }) bp rfl)) (T.keep _ _ _ st4 fun b hb o e => Heap.get?_push_of_some _ (kp b o e)) fun b hb => ?_
      have hm : b ∉ frs X.stack := fun hm => by
        rcases List.mem_cons.mp (I4.stkSub b hm) with z | z
        · exact (f4 b hb).2.1 z
        · exact (f4 b hb).2.2.1 z
      refine ⟨(f4 b hb).1, Nat.ne_of_lt (fo4 b hb), hm, .inl hb, (I5.ok.exf b hb).2, fun p hp => ?_⟩
      have e : p = (h'.objs.size, genObj s4.gens.size s4.toks X.env.qual) := by simpa [gxCx] using hp
      subst e
      exact Ne.symm (Nat.ne_of_lt (Nat.lt_of_lt_of_le (fo4 b hb) (by rw [hsz5]; exact Nat.le_succ _)))
    · have un : Un (frs X.stack) fp (upd H2 P (.tbl (ps ++ more))) H' s4.heap s'.heap := I'.base
      have J1 : Inv X pins σ H' s' := I4.call' (ch := fp) I'.os un I'.hok I'.bare fun b hb => ⟨(f4 b hb).2.2.2.1, (f4 b hb).2.1, (f4 b hb).2.2.2.2.1, (f4 b hb).2.2.2.2.2⟩
      exact J1.call' (s' := { s' with gens := g', heap := hh, toks := tk' }) (ch := []) rfl (Un.kept hk) (J1.hok.kept hk) hb fun b z => absurd z (by simp)
  cases hf : codeAmong gpos ps.toList with
  | none =>
    refine wpAny_genexprCodeX hcode (cd.code hPs ht) (cd.tab hPs) hf fun c' h' tk hx hge hlt hco' _ htab' _ => ?_
    obtain ⟨o1, vs, f1, tf, fl, tg1, inF, tx, tt1, op, _, _, _, _, _, _, _, _, _, htr, _⟩ := hco'
    exact cont _ h' tk _ hx (Nat.le_trans hge (Nat.le_of_lt hlt)) htab'.2 ⟨_, rfl⟩ htr
  | some cv =>
    refine wpAny_genexprCode_hit hcode (cd.code hPs ht) hf ?_
    exact cont cv s2.heap s2.toks ps (Heap.ExtBut.refl _ _) (Nat.le_refl _) hPs ⟨#[], by simp⟩ ht
theorem pe_allX {p : Pos} (hN : X.N.Nodup) (hr : Room (k + 1) X.A) (hg : Gl X "all") (hm : X.mg "all" = none) (TB : GxR.TabB X.base X.mg c P) (hcode : X.env.code = .ref c) (L : GxOk X.N X.env.scope scope own) (hi : PI X tg iter wi) (G : GxRules X k scope tg ifs elt g tt te)
    (hs : ∀ v, genFold iter X.env v = pure v)
    (he : starEach [.GeneratorExp elt [⟨tg, iter, ifs, 0⟩] scope gpos] X.env = (false, eval (.GeneratorExp elt [⟨tg, iter, ifs, 0⟩] scope gpos) X.env) :: starEach [] X.env := by rfl) :
    PE X (.Call (.Name "all" p) [.GeneratorExp elt [⟨tg, iter, ifs, 0⟩] scope gpos] [] pos) (tGX true P wi g tt te (own.map (·.2))) := by
  refine ⟨fun pins s σ H Q I h => ?_⟩
  refine wpAny_Call_Name_kw (ld_blt I hg hm boot_all ?_)
  refine PyProof.Rows.callWith_builtin1 ?_ he (by rfl)
  rw [he]
  show wpAny _ _ (spliced ((false, eval (.GeneratorExp elt [⟨tg, iter, ifs, 0⟩] scope gpos) X.env) :: backTo pos (starEach [] X.env))) _ _ s
  refine Calls.spliced_cons (gx_made hN hr TB hcode L hi G hs I h fun J H1 H2 a s5 hR hT hS hG => ?_)
  obtain ⟨W, ⟨n, w⟩, turn⟩ := hR H2 hT
  have S := hS W _ _ n w turn
  obtain ⟨g0, isg⟩ := hG
  refine Calls.spliced_nil ?_
  refine call_function_tree F.kind_all F.plain_all F.entry_all (F.args_all1 _) ?_
  unfold Builtin.«all»
  refine wpAny_bind (m := oneArg "all" _) (wpAny_pure ?_)
  refine wpAny_bind (wpAny_pyIter_gen isg ?_)
  exact wpAny_pure ⟨plainId_quiet F.plain_all_loop _, all_drain hr.hd (by have := hr.dp; omega) (fun H' s' I' e => ⟨.bl true, H', I', rfl, e⟩) (fun H' s' I' e => ⟨.bl false, H', I', rfl, e⟩) n s5 S⟩
theorem pe_anyX {p : Pos} (hN : X.N.Nodup) (hr : Room (k + 1) X.A) (hg : Gl X "any") (hm : X.mg "any" = none) (TB : GxR.TabB X.base X.mg c P) (hcode : X.env.code = .ref c) (L : GxOk X.N X.env.scope scope own) (hi : PI X tg iter wi) (G : GxRules X k scope tg ifs elt g tt te)
    (hs : ∀ v, genFold iter X.env v = pure v)
    (he : starEach [.GeneratorExp elt [⟨tg, iter, ifs, 0⟩] scope gpos] X.env = (false, eval (.GeneratorExp elt [⟨tg, iter, ifs, 0⟩] scope gpos) X.env) :: starEach [] X.env := by rfl) :
    PE X (.Call (.Name "any" p) [.GeneratorExp elt [⟨tg, iter, ifs, 0⟩] scope gpos] [] pos) (tGX false P wi g tt te (own.map (·.2))) := by
  refine ⟨fun pins s σ H Q I h => ?_⟩
  refine wpAny_Call_Name_kw (ld_blt I hg hm boot_any ?_)
  refine PyProof.Rows.callWith_builtin1 ?_ he (by rfl)
  rw [he]
  show wpAny _ _ (spliced ((false, eval (.GeneratorExp elt [⟨tg, iter, ifs, 0⟩] scope gpos) X.env) :: backTo pos (starEach [] X.env))) _ _ s
  refine Calls.spliced_cons (gx_made hN hr TB hcode L hi G hs I h fun J H1 H2 a s5 hR hT hS hG => ?_)
  obtain ⟨W, ⟨n, w⟩, turn⟩ := hR H2 hT
  have S := hS W _ _ n w turn
  obtain ⟨g0, isg⟩ := hG
  refine Calls.spliced_nil ?_
  refine call_function_tree F.kind_any F.plain_any F.entry_any (F.args_any1 _) ?_
  unfold Builtin.«any»
  refine wpAny_bind (m := oneArg "any" _) (wpAny_pure ?_)
  refine wpAny_bind (wpAny_pyIter_gen isg ?_)
  exact wpAny_pure ⟨plainId_quiet F.plain_any_loop _, any_drain hr.hd (by have := hr.dp; omega) (fun H' s' I' e => ⟨.bl false, H', I', rfl, e⟩) (fun H' s' I' e => ⟨.bl true, H', I', rfl, e⟩) n s5 S⟩
end
/-! ### over the abstract heap -/
def gaGo (d : Bool) (it : IT) (ga : A → SA → Option SA) (tt : MT) (me : ME) (sa : SA) : Nat → Nat → AH → Rs A
  | 0, _, h => if it.fin h = true then .ok (.bl d) h else .no
  | k + 1, i, h => match it.item i h with
    | none => .no
    | some v => match ga v sa with
      | none => .no
      | some s2 => (tt s2 h).bindN fun b h3 => if b = true then (me s2 h3).bindN fun y h4 => match y with
          | .bl c => if c = d then gaGo d it ga tt me sa k (i + 1) h4 else .ok (.bl c) h4
          | _ => .no
        else gaGo d it ga tt me sa k (i + 1) h3
def mGx (d : Bool) (mi : MI) (ga : A → SA → Option SA) (tt : MT) (me : ME) (vs : List Nat) : ME := fun s h => (mi s h).bind fun it h1 => gaGo d it ga tt me (wipeA s vs) it.cnt 0 h1
section
variable {X : Cx} {tb : Addr → Prop} {W : WX} {scope : Scope} {own : List (Str × Nat)} {P : Addr} {mi : MI} {ga : A → SA → Option SA} {mt : MT} {me : ME} {d : Bool}
theorem sim_tab {Γ : G} {ρ : List Addr} {ah : AH} {H H2 : Hp} (hP : Γ.tb P) (S : Sim Γ ρ ah H) (T : GxR.Tabbed P H H2) : Sim Γ ρ ah H2 ∧ Kept H H2 := by
  obtain ⟨ps, e, _⟩ := S.tb P hP
  have k : Kept H H2 := ⟨fun b xs h => by rw [T.2 b (fun z => by rw [z, e] at h; cases h)]; exact h, fun b o u h => by rw [T.2 b (fun z => by rw [z, e] at h; cases h)]; exact h, fun b fs h => by rw [T.2 b (fun z => by rw [z, e] at h; cases h)]; exact h⟩
  refine ⟨⟨S.len, S.nd, fun n o a e1 e2 => ?_, fun Q hQ => ?_⟩, k⟩
  · have h := S.ob n o a e1 e2
    have ne : a ≠ P := fun z => by
      subst z
      cases o with
      | lst xs => obtain ⟨vs, h, _⟩ := h; rw [e] at h; cases h
      | dct xs => obtain ⟨vs, h, _⟩ := h; rw [e] at h; cases h
      | ins c xs => obtain ⟨_, _, _, _, h, _⟩ := h; rw [e] at h; cases h
    exact h.mono (List.prefix_refl _) k (T.2 a ne)
  · by_cases z : Q = P
    · subst z; exact T.1
    · obtain ⟨qs, h, t⟩ := S.tb Q hQ
      exact ⟨qs, by rw [T.2 Q z]; exact h, t⟩
theorem gx_rel {g : TG} {σ : L2.St} {H : Hp} {Q : VK} (hP : tb P) (hg : ∀ v u σ sa sa' ρ H Q, Rp X.K ρ H v u → SRp X.K ρ H sa σ → ga v sa = some sa' → (∀ σ', SRp X.K ρ H sa' σ' → L2.wipe σ' (own.map (·.2)) = L2.wipe σ (own.map (·.2)) → Q σ' H) → g u σ H Q)
    (h : tE (gO X tb) W (mGx d mi ga mt me (own.map (·.2))) σ H Q) : tGX d P (tI (gO X tb) W mi) g (tT (gO X tb) W0 mt) (tE (gO X tb) W0 me) (own.map (·.2)) σ H Q := by
  obtain ⟨ρ, ah, sa, S, rs, p⟩ := h
  refine ⟨ρ, ah, sa, S, rs, ?_⟩
  unfold mGx at p
  cases e : mi sa ah with
  | no => rw [e] at p; exact p.elim
  | ex x h => rw [e] at p; exact fun ρ' H' cls d S' a b r => p ρ' H' cls d S' a b r
  | ok it h1 =>
    rw [e] at p
    intro ρ0 H0 J S0 a0 b0 R
    refine ⟨S0.tb P hP, fun H1 T1 => ?_⟩
    obtain ⟨S1, k1⟩ := sim_tab hP S0 T1
    have p0 : Pst (gO X tb) W σ ρ0 H1 Q (gaGo d it ga mt me (wipeA sa (own.map (·.2))) it.cnt 0 h1) := Pst.later p a0 (b0.trans k1)
    refine ⟨fun m i H => ∃ ρ ah, ρ0 <+: ρ ∧ Kept H1 H ∧ m + i = it.cnt ∧ Sim (gO X tb) ρ ah H ∧ Pst (gO X tb) W σ ρ H Q (gaGo d it ga mt me (wipeA sa (own.map (·.2))) m i ah), ⟨it.cnt, ρ0, _, List.prefix_refl _, Kept.refl _, rfl, S1, p0⟩, ?_⟩
    rintro m i H ⟨ρ, ah, pr, kp, em, S, p⟩
    have rsW : SRp X.K ρ H (wipeA sa (own.map (·.2))) (L2.wipe σ (own.map (·.2))) := SRp.mono (a0.trans pr) (b0.trans (k1.trans kp)) (rs.wipe _)
    cases m with
    | zero =>
      unfold gaGo at p
      split at p
      · rename_i hf
        have ei : i = it.cnt := by omega
        subst ei
        exact .inl ⟨R.stop ρ ah H pr (k1.trans kp) S hf, Pst.ret S (Rp.bl_.mpr rfl) p⟩
      · exact p.elim
    | succ k =>
      unfold gaGo at p
      split at p
      · exact p.elim
      · rename_i v ev
        split at p
        · exact p.elim
        · rename_i s2 es2
          obtain ⟨g1, g2⟩ := R.go i ρ ah H v (by omega) pr (k1.trans kp) S ev
          refine .inr ⟨g1, k, rfl, fun x H' hy => ?_⟩
          obtain ⟨S', k', r'⟩ := g2 x H' hy
          refine hg v x _ _ s2 ρ H' _ r' (rsW.mono (List.prefix_refl _) k') es2 fun σ2 rs2 w2 => ⟨by rw [w2, wipe_wipe], ?_⟩
          refine ⟨ρ, ah, s2, S', rs2, (PstT.slot (PstT.N (Pst.later p (List.prefix_refl _) k'))).imp fun b H3 ⟨ρ3, ah3, S3, p3, k3, q3⟩ => ?_⟩
          cases b with
          | false =>
            exact iteF ⟨ρ3, ah3, pr.trans p3, kp.trans (k'.trans k3), by omega, S3, q3⟩
          | true =>
            refine iteT ⟨ρ3, ah3, s2, S3, rs2.mono p3 k3, (Pst.slot (Pst.N q3)).imp fun y H4 ⟨ρ4, ah4, yv, S4, p4, k4, r4, q4⟩ => ?_⟩
            cases yv with
            | bl c =>
              refine ⟨c, Rp.bl_.mp r4, fun ec => ?_, fun ec => ?_⟩
              · have q4 : Pst (gO X tb) W σ ρ4 H4 Q (if c = d then gaGo d it ga mt me (wipeA sa (own.map (·.2))) k (i + 1) ah4 else .ok (.bl c) ah4) := q4
                rw [if_pos ec] at q4
                exact ⟨ρ4, ah4, pr.trans (p3.trans p4), kp.trans (k'.trans (k3.trans k4)), by omega, S4, q4⟩
              · have nc : ¬ c = d := by rw [ec]; cases d <;> decide
                have q4 : Pst (gO X tb) W σ ρ4 H4 Q (if c = d then gaGo d it ga mt me (wipeA sa (own.map (·.2))) k (i + 1) ah4 else .ok (.bl c) ah4) := q4
                rw [if_neg nc] at q4
                subst ec
                exact Pst.ret S4 (Rp.bl_.mpr rfl) q4
            | _ => exact q4.elim
end
section
variable {X : Cx} {tb : Addr → Prop} {W : WX} {scope : Scope} {own : List (Str × Nat)} {k : Nat} {c P : Addr} {elt iter tg : Expr} {ifs : List Expr} {gpos pos p : Pos} {mi : MI} {ga : A → SA → Option SA} {mt : MT} {me : ME}
/-- what stands within the generator -/
structure GxIn (X : Cx) (tb : Addr → Prop) (k : Nat) (scope : Scope) (own : List (Str × Nat)) (tg : Expr) (ifs : List Expr) (elt : Expr) (ga : A → SA → Option SA) (mt : MT) (me : ME) : Prop where
  g : ∃ g : TG, (∀ (A : Around) (s : Shared) (H : Hp) (fp : List Addr) (C : Addr) (code : Value) (pn : List (Addr × Obj)), PG (gxCx X A s H fp (gxEnv X scope C code) pn) tg g) ∧
    ∀ v u σ sa sa' ρ H Q, Rp X.K ρ H v u → SRp X.K ρ H sa σ → ga v sa = some sa' → (∀ σ', SRp X.K ρ H sa' σ' → L2.wipe σ' (own.map (·.2)) = L2.wipe σ (own.map (·.2)) → Q σ' H) → g u σ H Q
  t : ∀ (A : Around) (s : Shared) (H : Hp) (fp : List Addr) (C : Addr) (code : Value) (pn : List (Addr × Obj)), Room k (A.deeper (gxEnv X scope C code)) → TriPTs (gxCx X A s H fp (gxEnv X scope C code) pn) (gO X tb) W0 ifs mt
  e : ∀ (A : Around) (s : Shared) (H : Hp) (fp : List Addr) (C : Addr) (code : Value) (pn : List (Addr × Obj)), Room k (A.deeper (gxEnv X scope C code)) → Tri (gxCx X A s H fp (gxEnv X scope C code) pn) (gO X tb) W0 elt me
theorem t_allX (hN : X.N.Nodup) (hr : Room (k + 1) X.A) (hm : X.mg "all" = none) (TB : GxR.TabB X.base X.mg c P) (hP : tb P) (hcode : X.env.code = .ref c) (L : GxOk X.N X.env.scope scope own) (hi : TriI X (gO X tb) W tg iter mi) (G : GxIn X tb k scope own tg ifs elt ga mt me)
    (hg : Gl X "all" := by rfl) (hs : ∀ v, genFold iter X.env v = pure v := by intro _; rfl)
    (he : starEach [.GeneratorExp elt [⟨tg, iter, ifs, 0⟩] scope gpos] X.env = (false, eval (.GeneratorExp elt [⟨tg, iter, ifs, 0⟩] scope gpos) X.env) :: starEach [] X.env := by rfl) :
    Tri X (gO X tb) W (.Call (.Name "all" p) [.GeneratorExp elt [⟨tg, iter, ifs, 0⟩] scope gpos] [] pos) (mGx true mi ga mt me (own.map (·.2))) := by
  obtain ⟨g, g1, g2⟩ := G.g
  exact pe_weak (pe_allX hN hr hg hm TB hcode L hi ⟨g1, G.t, G.e⟩ hs he) fun σ H Q h => gx_rel hP g2 h
theorem t_anyX (hN : X.N.Nodup) (hr : Room (k + 1) X.A) (hm : X.mg "any" = none) (TB : GxR.TabB X.base X.mg c P) (hP : tb P) (hcode : X.env.code = .ref c) (L : GxOk X.N X.env.scope scope own) (hi : TriI X (gO X tb) W tg iter mi) (G : GxIn X tb k scope own tg ifs elt ga mt me)
    (hg : Gl X "any" := by rfl) (hs : ∀ v, genFold iter X.env v = pure v := by intro _; rfl)
    (he : starEach [.GeneratorExp elt [⟨tg, iter, ifs, 0⟩] scope gpos] X.env = (false, eval (.GeneratorExp elt [⟨tg, iter, ifs, 0⟩] scope gpos) X.env) :: starEach [] X.env := by rfl) :
    Tri X (gO X tb) W (.Call (.Name "any" p) [.GeneratorExp elt [⟨tg, iter, ifs, 0⟩] scope gpos] [] pos) (mGx false mi ga mt me (own.map (·.2))) := by
  obtain ⟨g, g1, g2⟩ := G.g
  exact pe_weak (pe_anyX hN hr hg hm TB hcode L hi ⟨g1, G.t, G.e⟩ hs he) fun σ H Q h => gx_rel hP g2 h
/-- the one name of a generator's target -/
theorem gg_1 {x : Str} {tpos : Pos} (i : Nat) (hN : X.N.Nodup) (hv : i ∈ own.map (·.2) := by decide) (hi : X.N[i]? = some x := by rfl) (hx : scope.names.lookup x = some .local := by rfl) :
    ∃ g : TG, (∀ (A : Around) (s : Shared) (H : Hp) (fp : List Addr) (C : Addr) (code : Value) (pn : List (Addr × Obj)), PG (gxCx X A s H fp (gxEnv X scope C code) pn) (.Name x tpos) g) ∧
    ∀ v u σ sa sa' ρ H Q, Rp X.K ρ H v u → SRp X.K ρ H sa σ → c1 i v sa = some sa' → (∀ σ', SRp X.K ρ H sa' σ' → L2.wipe σ' (own.map (·.2)) = L2.wipe σ (own.map (·.2)) → Q σ' H) → g u σ H Q :=
  ⟨gName i, fun A s H fp C code pn => pg_name (X := gxCx X A s H fp (gxEnv X scope C code) pn) hN hi (Or.inl hx) (Or.inr hx), fun v u σ sa sa' ρ H Q r rs e q => by
    cases e
    exact q _ (rs.set i r) (wipe_set hv)⟩
end
end Z

/-! the head by names: defs, their code objects' tables, own exceptions -/
namespace Z
open PySem PySem.Spec PyProof.Rows L2
/-! ### own exceptions with an own __init__ -/
def oexB (K : PySem.W.Frag) (C : Addr) : Bool := match K.lookup C with
  | some ⟨.type "type", _, .cls cd, sl⟩ => (match cd.mro, sl.toList with
    | .ref D :: bm, [_, _, _, _, some (.builtin n), _] => ((D == C && n == "ValueError.__new__") && (!cd.hasDel && cd.hasDict)) && PySem.HandSPX.refsVE bm
    | _, _ => false)
  | _ => false
theorem oexB_ok {K : PySem.W.Frag} {C : Addr} (q : oexB K C = true) : ∃ nm q N bs bm sn sub ab col dd k0 k1 k2 k3 k5, K.lookup C = some (excClassObj nm q C N bs bm true sn sub ab col dd k0 k1 k2 k3 k5 "ValueError.__new__") ∧ PySem.HandSPX.refsVE bm = true := by
  unfold oexB at q
  split at q
  · rename_i dd cd sl ho
    split at q
    · rename_i D bm k0 k1 k2 k3 n k5 hm hs
      simp only [Bool.and_eq_true, beq_iff_eq, Bool.not_eq_true'] at q
      obtain ⟨⟨⟨rfl, rfl⟩, hdel, hdi⟩, ht⟩ := q
      obtain ⟨nm, bs, mro, ns, qn, hd, sn, sub, ab, col, del⟩ := cd
      dsimp only at hm hdel hdi
      subst hm hdel hdi
      have hsl : sl = #[k0, k1, k2, k3, some (.builtin "ValueError.__new__"), k5] := by
        obtain ⟨l⟩ := sl
        simp only at hs
        rw [hs]
      subst hsl
      exact ⟨nm, qn, ns, bs, bm, sn, sub, ab, col, dd, k0, k1, k2, k3, k5, ho, ht⟩
    · cases q
  · cases q
/-- the class c, whose __init__ keeps its one argument as f -/
def exB (c f : Str) (K : PySem.W.Frag) : Bool :=
  (oexB K (He.ga K c) && (He.eqO (PySem.W.findIn K (.ref (He.ga K c)) "__setattr__") (some (some (.builtin "object.__setattr__"))) && He.eqO (PySem.W.findIn K (.ref (He.ga K c)) f) (some none))) &&
  ((He.eqO (PySem.W.findIn K (.ref (He.ga K c)) "__init__") (some (some (.ref (He.ma K (He.ga K c) "__init__")))) && decide (PySem.W.typeIn K (.ref (He.ma K (He.ga K c) "__init__")) = some (.type "function"))) &&
  (decide (PySem.W.subIn K (.ref (He.ga K c)) (.type "BaseException") = some true) && (decide (PySem.W.typeIn K (.ref (He.ga K c)) = some (.type "type")) && PySem.W.keepIn K (.ref (He.ga K c)))))
theorem and2 {a b : Bool} (h : (a && b) = true) : a = true ∧ b = true := Bool.and_eq_true_iff.mp h
theorem exB_ok {c f : Str} {K : PySem.W.Frag} (h : exB c f K = true) : OexC K (He.ga K c) ∧ PySem.W.findIn K (.ref (He.ga K c)) f = some none ∧
    PySem.W.findIn K (.ref (He.ga K c)) "__init__" = some (some (.ref (He.ma K (He.ga K c) "__init__"))) ∧ PySem.W.typeIn K (.ref (He.ma K (He.ga K c) "__init__")) = some (.type "function") := by
  obtain ⟨h1, h2⟩ := and2 h
  obtain ⟨a1, a2⟩ := and2 h1
  obtain ⟨a2, a3⟩ := and2 a2
  obtain ⟨b1, b2⟩ := and2 h2
  obtain ⟨b0, b1⟩ := and2 b1
  obtain ⟨c1, c2⟩ := and2 b2
  obtain ⟨c2, c3⟩ := and2 c2
  exact ⟨⟨oexB_ok a1, He.eqO_ok a2, of_decide_eq_true c1, of_decide_eq_true c2, c3⟩, He.eqO_ok a3, He.eqO_ok b0, of_decide_eq_true b1⟩
/-- a name that stands for a builtin of another module -/
def bimB (x : Str) (id : String) (K : PySem.W.Frag) : Bool := He.eqO (PySem.W.nsIn K mainGlobals x) (some (some (.builtin id)))
theorem bimB_ok {x : Str} {id : String} {K : PySem.W.Frag} {h : Heap} {mg : Str → Option Value} (X : K.In h) (G : h.Ns mainGlobals mg) (c : bimB x id K = true) : mg x = some (.builtin id) := PySem.W.mg_of X G (He.eqO_ok c)
/-! ### defs -/
theorem fun_of {K : PySem.W.Frag} {x qual : Str} {st : Stmt} {f : Addr} {fd : FuncData} (F : FunD K x qual (defArgs st) (defBody st) (defScope st) [] [] f fd) : Fun K x qual st f fd := by
  obtain ⟨oc, od, dV, kV, doc, pm, an, cdv, ct, osl, rfl, lk, hcd, hD, hK⟩ := F.ex
  rcases hD with ⟨_, rfl⟩ | ⟨e, _⟩
  · exact ⟨⟨oc, od, kV, doc, pm, an, cdv, ct, osl, rfl, lk, hcd⟩, F.kp⟩
  · exact absurd rfl e
theorem fun_code {K : PySem.W.Frag} {x qual : Str} {p : Str × Option Str} {params : Arguments} {body : List Stmt} {scope : Scope} {fd : FuncData} (F : FunD K x qual params body scope [] [] (He.fAd K p) fd) : fd.code = .ref (He.cT K p).1 := by
  obtain ⟨oc, od, dV, kV, doc, pm, an, cdv, ct, osl, rfl, lk, hcd, hD, hK⟩ := F.ex
  obtain ⟨c, rfl⟩ := He.codeIn_ref hcd
  show Value.ref c = .ref (He.codeOf K p)
  rw [He.codeOf_eq lk rfl]
theorem gtab {base : Heap} {mg : Str → Option Value} {c P : Addr} (t : LamX.TabB base mg c P) : GxR.TabB base mg c P := ⟨t.code, t.bm, t.gP⟩
section
variable {x : Str} {tb : Addr → Prop} {n k : Nat}
/-- the rule for a def whose code object is known -/
theorem fn_okFC {P : Program} {w : World} {K : PySem.W.Frag} {mg : Str → Option Value} {base : Heap} {qual : Str} {st : Stmt} {f c : Addr} {fd : FuncData} {N ps : List Str} (Fn : Fun K x qual st f fd) (hc : fd.code = .ref c) (hm : mg x = some (.ref f)) (Sc : FnScope N ps (defScope st))
    (hb : Binds K fd ps []) {b : MS} (hps : ps.length = n := by rfl) (hN : N.length = k := by rfl) {lv : Nat}
    (hbody : ∀ (A : Around) (outer : List Env) (s : Shared) (H : Hp) (E : XK) (W : WX), Room lv (A.deeper (envOfC qual (defScope st) s.heap.objs.size f (.ref c))) →
      (X : Cx) → X = cxOf (L2.CX P w) P w K mg base N qual (defScope st) f (.ref c) A outer s H E → Takes X W → PassesOwn (model X.prog X.w) X.A X.env X.xe → TriB (cxOf (L2.CX P w) P w K mg base N qual (defScope st) f (.ref c) A outer s H E) ⟨K, mg, tb⟩ W (defBody st) b) :
    FnOk P w K mg base (L2.CX P w) (lv + 1) f fd ps (spF ⟨K, mg, tb⟩ n (mFn k b)) := by
  obtain ⟨oc, od, kV, doc, pm, an, cdv, ct, osl, rfl, lk, hcd⟩ := Fn.ex
  have hc : cdv = .ref c := hc
  subst hc
  refine fn_of lk hcd Sc (fun us H Q E h => ?_) (fun A outer s H us Q E hr h => ?_)
  · obtain ⟨ρ, ah, vs, S, r, hl, _⟩ := h
    rw [← r.length, hl, hps]
  · obtain ⟨ρ, ah, vs, S, r, hl, p⟩ := h
    refine ⟨_, hbody A outer s H E (fun cls d _ H => E cls d H) hr _ rfl (takes_of rfl rfl rfl rfl) (passes_of rfl), ?_⟩
    refine ⟨ρ, ah, vs.map some ++ List.replicate (N.length - vs.length) none, S, ?_, ?_⟩
    · unfold L2.start
      rw [r.length]
      exact SRp.start _ r
    · unfold mFn at p
      rw [← hN] at p
      cases e : b (vs.map some ++ List.replicate (N.length - vs.length) none) ah with
      | nx s' h' => rw [e] at p; exact fun ρ' H' σ' S' a b' r' => p ρ' H' .non S' a b' (Rp.non_.mpr rfl)
      | rt v h' => rw [e] at p; exact p
      | bk s' h' => rw [e] at p; exact p.elim
      | ct s' h' => rw [e] at p; exact p.elim
      | ex e' s' h' => rw [e] at p; exact fun ρ' H' σ' cls d S' a b' r' x' => p ρ' H' cls d S' a b' x'
      | no => rw [e] at p; exact p.elim
theorem fn_okC {P : Program} {w : World} {K : PySem.W.Frag} {mg : Str → Option Value} {base : Heap} {qual : Str} {st : Stmt} {f c : Addr} {fd : FuncData} {N ps : List Str} (Fn : Fun K x qual st f fd) (hc : fd.code = .ref c) (hm : mg x = some (.ref f)) (Sc : FnScope N ps (defScope st))
    (hb : Binds K fd ps []) {b : MS} (hps : ps.length = n := by rfl) (hN : N.length = k := by rfl) {lv : Nat}
    (hbody : ∀ (A : Around) (outer : List Env) (s : Shared) (H : Hp) (E : XK) (W : WX), Room lv (A.deeper (envOfC qual (defScope st) s.heap.objs.size f (.ref c))) →
      (X : Cx) → X = cxOf (L2.CX P w) P w K mg base N qual (defScope st) f (.ref c) A outer s H E → Takes X W → PassesOwn (model X.prog X.w) X.A X.env X.xe → TriB (cxOf (L2.CX P w) P w K mg base N qual (defScope st) f (.ref c) A outer s H E) ⟨K, mg, tb⟩ W (defBody st) b) :
    HasFn P w K mg base tb x (lv + 1) n (mFn k b) := ⟨f, fd, ps, hps, hm, fn_okFC Fn hc hm Sc hb hps hN hbody, hb, Fn.kp⟩
end
theorem tb0 {cs : List (Addr × Addr)} {H : Hp} (h : ∀ p ∈ cs, H p.2 = some (.tbl #[])) : ∀ P, (∃ p ∈ cs, p.2 = P) → Tb H P := fun P ⟨p, hp, e⟩ => ⟨#[], by rw [← e]; exact h p hp, by show TriplesOk []; exact trivial⟩
/-! ### sums -/
def ntA : A → Option Int
  | .int i => some i
  | _ => none
def ntV : V → Option Int
  | .int i => some i
  | _ => none
def bSum : List A → Mo A
  | [v] => fun h => match (sqA h v).bind fun xs => xs.mapM ntA with
    | some ns => .ok (.int ns.sum) h
    | none => .no
  | _ => fun _ => .no
end Z

/-! sum of a list or a tuple of whole numbers -/
namespace Z
open PySem PySem.Spec PyProof.Rows L2
theorem vals_int_at : ∀ {ns : List Int} {its : List Value} {i : Nat} {v : Value}, Vals (ns.map V.int) its → its[i]? = some v → ∃ t, v = .int (ns.getD i 0) t
  | [], _, i, v, r, e => by cases r; simp at e
  | n :: ns, _, i, v, r, e => by
    cases r with
    | cons r1 r2 =>
      obtain ⟨t, rfl⟩ := r1
      cases i with
      | zero => simp at e; subst e; exact ⟨t, rfl⟩
      | succ i => obtain ⟨t, h⟩ := vals_int_at (ns := ns) (i := i) r2 (by simpa using e); exact ⟨t, h⟩
theorem preSum_append (f g : Nat → Int) (n : Nat) (h : ∀ i, i < n → f i = g i) : preSum f n = preSum g n := by
  induction n with
  | zero => rfl
  | succ n ih => show preSum f n + f n = preSum g n + g n; rw [ih (fun i hi => h i (by omega)), h n (by omega)]
theorem preSum_cons (f : Nat → Int) : ∀ n, preSum f (n + 1) = f 0 + preSum (fun i => f (i + 1)) n
  | 0 => by show (0 : Int) + f 0 = f 0 + 0; omega
  | n + 1 => by
    show preSum f (n + 1) + f (n + 1) = _
    rw [preSum_cons f n]
    show _ = f 0 + (preSum (fun i => f (i + 1)) n + f (n + 1))
    omega
theorem preSum_list : ∀ ns : List Int, preSum (fun i => ns.getD i 0) ns.length = ns.sum
  | [] => rfl
  | n :: ns => by
    rw [List.length_cons, preSum_cons, List.sum_cons]
    have := preSum_list ns
    simp only [List.getD_cons_zero, List.getD_cons_succ]
    rw [this]
section
variable {X : Cx} {tb : Addr → Prop} {W : WX}
def rSum2 (K : PySem.W.Frag) : List V → Hp → VK → Prop := fun vs H Q => ∃ (a : Addr) (ns : List Int), vs = [V.ref a] ∧ (SqL K H a (ns.map V.int) ∨ SqT K H a (ns.map V.int)) ∧ Q (.int ns.sum) H
theorem cr_sum2 (hc : X.calm = true) : CallR X (.builtin "sum") (rSum2 X.K) := by
  intro pins s σ H vs us Q I r h
  obtain ⟨a, ns, rfl, hs, q⟩ := h
  rcases hs with hs | hs
  · exact cr_sum hc pins s σ H _ us Q I r ⟨a, ns, rfl, hs, q⟩
  · rw [Vals.ref1 r]
    obtain ⟨its, rv, hl, _⟩ := I.tuple hs
    have hl2 := rv.length
    refine call_sum_walkG (iter_anyT (show s.heap.IsTuple a its.toArray from hl) fun s₂ e2 st hne => ?_)
    subst e2
    refine ⟨_, _, _, _, _, _, fun i => ns.getD i 0, rfl, Walks.tuple (A := X.A.in1) (I.ok.hd hc) _ a hne its.toArray, st, fun b hb => ?_, fun i v hv => vals_int_at rv (by simpa using hv), fun h' tk t' hk => ?_⟩
    · have hlt : a < s.heap.objs.size := by obtain ⟨_, e, _⟩ := (show s.heap.IsTuple a its.toArray from hl); exact Heap.lt_size e
      show b < (s.heap.push _).objs.size
      rw [Heap.size_push]
      simp only [List.mem_cons, List.not_mem_nil, or_false] at hb
      rcases hb with rfl | rfl
      · exact Nat.lt_succ_self _
      · exact Nat.lt_succ_of_lt hlt
    · refine ⟨.int _, H, I.kept fun b o eo => hk b o (fun hmem => ?_) (Heap.get?_push_of_some _ eo), ⟨t', ?_⟩, q⟩
      · rcases List.mem_cons.mp hmem with e1 | hmem
        · exact absurd (e1 ▸ Heap.lt_size eo) (Nat.lt_irrefl _)
        · cases hmem
      · have e : its.toArray.size = ns.length := by simp at hl2 ⊢; omega
        rw [e, preSum_list]
theorem RpL.nts {K : PySem.W.Frag} {ρ : List Addr} {H : Hp} : ∀ {xs : List A} {vs : List V} {ns : List Int}, RpL K ρ H xs vs → xs.mapM ntA = some ns → vs = ns.map V.int
  | [], vs, ns, r, e => by
    simp only [RpL] at r; subst r
    simp at e; subst e; rfl
  | x :: xs, vs, ns, r, e => by
    simp only [RpL] at r
    obtain ⟨v, vs', rfl, r1, r2⟩ := r
    rw [List.mapM_cons] at e
    cases e1 : ntA x with
    | none => rw [e1] at e; cases e
    | some i =>
      cases e2 : xs.mapM ntA with
      | none => rw [e1, e2] at e; cases e
      | some ms =>
        rw [e1, e2] at e
        cases e
        cases x with
        | int j => cases e1; rw [Rp.int_] at r1; subst r1; rw [RpL.nts r2 e2]; rfl
        | _ => cases e1
theorem b_sum (hc : X.calm = true) : CallM X (gO X tb) W (.builtin "sum") bSum := ⟨_, cr_sum2 hc, fun σ vs ah ρ H us Q S r p => by
  unfold bSum at p
  split at p
  · obtain ⟨u, rfl, r1⟩ := r.one
    try dsimp only at p
    split at p
    · rename_i ns e
      rw [Option.bind_eq_some_iff] at e
      obtain ⟨xs, e1, e2⟩ := e
      obtain ⟨a, ws, rfl, t, q⟩ := sq_rel S r1 e1
      obtain rfl := q.nts e2
      exact ⟨a, ns, rfl, t, Pst.ret S (Rp.int_.mpr rfl) p⟩
    · exact p.elim
  · exact p.elim⟩
end
end Z

/-! try .. except C as e, the suite returning constants and fields of e -/
namespace Z
open PySem PySem.Spec PyProof.Rows L2
/-- an item: a text, a field -/
inductive SI where
  | c (v : Str) | f (x : Str)
def siV (fs : List (Str × A)) : SI → Option A
  | .c v => some (.str v)
  | .f x => fs.lookup x
def siL (fs : List (Str × A)) : List SI → Option (List A)
  | [] => some []
  | i :: is => match siV fs i, siL fs is with
    | some v, some vs => some (v :: vs)
    | _, _ => none
/-- the suite's forms: one item; a tuple; a list; item == text -/
inductive SF where
  | one (i : SI) | tup (is : List SI) | lst (is : List SI)
def sfR (fs : List (Str × A)) (h : AH) : SF → Rt
  | .one i => match siV fs i with
    | some v => .rt v h
    | none => .no
  | .tup is => match siL fs is with
    | some vs => if vs.length ≤ sizeLine then .rt (.tup vs) h else .no
    | none => .no
  | .lst is => match siL fs is with
    | some vs => if vs.length ≤ sizeLine then .rt (.ref h.length) (h ++ [.lst vs]) else .no
    | none => .no
/-- c0: the class that is caught; ps: those that pass -/
def mTry (i : Nat) (mb : MS) (c0 : Str) (ps : List Str) (sf : SF) : MS := fun s h => match mb s h with
  | .ex e s' h' => if e.cls = c0 then (if i < s'.length then sfR e.fs h' sf else .no) else if e.cls ∈ ps then .ex e s' h' else .no
  | r => r
def kTry (i : Nat) (c0 : Str) (ps : List Str) (sf : SF) (r : Rt) : Rt := match r with
  | .ex e s' h' => if e.cls = c0 then (if i < s'.length then sfR e.fs h' sf else .no) else if e.cls ∈ ps then .ex e s' h' else .no
  | r => r
def tSI (a : Addr) (cls : Value) (d : Option Addr) (C : Addr) (i : Nat) : SI → TE
  | .c v => tC (.str v)
  | .f x => tXf a cls d C x (tVar i)
def tSIs (a : Addr) (cls : Value) (d : Option Addr) (C : Addr) (i : Nat) : List SI → TA
  | [] => tNil
  | k :: ks => tCons (tSI a cls d C i k) (tSIs a cls d C i ks)
def tSF (a : Addr) (cls : Value) (d : Option Addr) (C : Addr) (i : Nat) : SF → TS
  | .one k => tRet (tSI a cls d C i k)
  | .tup ks => tRet (tTup (tSIs a cls d C i ks))
  | .lst ks => tRet (tLst (tSIs a cls d C i ks))
/-- the suite's rules -/
def SuiteOk (X : Cx) (C : Addr) (i : Nat) (sf : SF) (suite : List Stmt) : Prop :=
  ∀ (a : Addr) (oe : Obj) (cls : Value) (d : Option Addr) (pn : List (Addr × Obj)), Zc cls d oe → (∃ vs, oe.data = .fields vs) → PSs (X.suite a ((a, oe) :: pn)) suite (tSF a cls d C i sf)
theorem RpF.look {K : PySem.W.Frag} {ρ : List Addr} {H : Hp} {x : Str} {v : A} : ∀ {fs : List (Str × A)} {gs : List (Str × V)}, RpF K ρ H fs gs → fs.lookup x = some v → ∃ u, gs.lookup x = some u ∧ Rp K ρ H v u
  | [], gs, _, e => by simp at e
  | (k, y) :: fs, gs, ⟨h1, h2⟩, e => by
    cases gs with
    | nil => cases h1
    | cons g gs =>
      obtain ⟨k2, z⟩ := g
      simp only [List.map_cons] at h1 h2
      injection h1 with e1 e2
      have e1 : k = k2 := e1
      subst e1
      simp only [RpL] at h2
      obtain ⟨w, ws, ew, r1, r2⟩ := h2
      injection ew with ew1 ew2
      rw [List.lookup_cons] at e ⊢
      cases q : x == k with
      | true => rw [q] at e; cases e; exact ⟨z, rfl, by rw [ew1]; exact r1⟩
      | false => rw [q] at e; exact RpF.look ⟨e2, by rw [ew2]; exact r2⟩ e
theorem SRp.len {K : PySem.W.Frag} {ρ : List Addr} {H : Hp} : ∀ {sa : SA} {σ : L2.St}, SRp K ρ H sa σ → sa.length = σ.length
  | [], σ, rs => by simp only [SRp] at rs; subst rs; rfl
  | none :: ys, σ, rs => by simp only [SRp] at rs; obtain ⟨v, s2, rfl, t⟩ := rs; simp [SRp.len t]
  | some y :: ys, σ, rs => by simp only [SRp] at rs; obtain ⟨v, s2, rfl, _, t⟩ := rs; simp [SRp.len t]
section
variable {X : Cx} {Γ : G} {a C : Addr} {cls : Value} {dx : Addr} {i : Nat} {σ : L2.St} {ρ : List Addr} {H : Hp} {fs : List (Str × A)} {gs : List (Str × V)} {ah : AH}
theorem tSI_ok {k : SI} {Q : VK} {v : A} (hc : cls = .ref C) (hs : σ[i]? = some (some (.ref a))) (hd : H dx = some (.xd gs)) (r : RpF Γ.K ρ H fs gs) (e : siV fs k = some v) (q : ∀ u, Rp Γ.K ρ H v u → Q u H) : tSI a cls (some dx) C i k σ H Q := by
  cases k with
  | c t => cases e; exact q _ (Rp.str_.mpr rfl)
  | f x =>
    obtain ⟨u, e2, r2⟩ := RpF.look r e
    exact ⟨_, hs, rfl, hc, dx, gs, u, rfl, hd, e2, q u r2⟩
theorem tSIs_ok (hc : cls = .ref C) (hs : σ[i]? = some (some (.ref a))) (hd : H dx = some (.xd gs)) (r : RpF Γ.K ρ H fs gs) : ∀ {ks : List SI} {vs : List A} {Q : List V → Hp → Prop}, siL fs ks = some vs → (∀ us, RpL Γ.K ρ H vs us → Q us H) → tSIs a cls (some dx) C i ks σ H Q
  | [], vs, Q, e, q => by cases e; exact q [] RpL.nil
  | k :: ks, vs, Q, e, q => by
    unfold siL at e
    cases e1 : siV fs k with
    | none => rw [e1] at e; cases e
    | some v =>
      cases e2 : siL fs ks with
      | none => rw [e1, e2] at e; cases e
      | some ws =>
        rw [e1, e2] at e
        cases e
        exact tSI_ok hc hs hd r e1 fun u r1 => tSIs_ok hc hs hd r e2 fun us r2 => q _ (RpL.cons r1 r2)
theorem tSF_ok {W : WX} {D : Ends} {sf : SF} (hc : cls = .ref C) (hs : σ[i]? = some (some (.ref a))) (hd : H dx = some (.xd gs)) (r : RpF Γ.K ρ H fs gs) (S : Sim Γ ρ ah H) {D' : Ends} (hD : D'.rt = D.rt) (p : PstS Γ W ρ H D (sfR fs ah sf)) : tSF a cls (some dx) C i sf D' σ H := by
  cases sf with
  | one k =>
    have p : PstS Γ W ρ H D (match siV fs k with | some v => .rt v ah | none => .no) := p
    cases e : siV fs k with
    | none => rw [e] at p; exact p.elim
    | some v =>
      rw [e] at p
      show tSI a cls (some dx) C i k σ H D'.rt
      rw [hD]
      exact tSI_ok hc hs hd r e fun u ru => p ρ H u S (List.prefix_refl _) (Kept.refl _) ru
  | tup ks =>
    have p : PstS Γ W ρ H D (match siL fs ks with | some vs => if vs.length ≤ sizeLine then .rt (.tup vs) ah else .no | none => .no) := p
    cases e : siL fs ks with
    | none => rw [e] at p; exact p.elim
    | some vs =>
      rw [e] at p
      dsimp only at p
      split at p
      · rename_i c
        show tTup (tSIs a cls (some dx) C i ks) σ H D'.rt
        rw [hD]
        refine tSIs_ok hc hs hd r e fun us ru => ⟨by rw [← ru.length]; exact c, fun b hb => ?_⟩
        exact p ρ (upd H b (.tup us)) (.ref b) (S.beside hb) (List.prefix_refl _) (Kept.new hb) (Rp.tup_.mpr ⟨b, us, rfl, .inl (.inl upd_same), RpL.mono (List.prefix_refl _) (Kept.new hb) _ _ ru⟩)
      · exact p.elim
  | lst ks =>
    have p : PstS Γ W ρ H D (match siL fs ks with | some vs => if vs.length ≤ sizeLine then .rt (.ref ah.length) (ah ++ [.lst vs]) else .no | none => .no) := p
    cases e : siL fs ks with
    | none => rw [e] at p; exact p.elim
    | some vs =>
      rw [e] at p
      dsimp only at p
      split at p
      · rename_i c
        show tLst (tSIs a cls (some dx) C i ks) σ H D'.rt
        rw [hD]
        refine tSIs_ok hc hs hd r e fun us ru => ⟨by rw [← ru.length]; exact c, fun b hb => ?_⟩
        have kN : Kept H (upd H b (.lst us)) := Kept.new hb
        have SN : Sim Γ (ρ ++ [b]) (ah ++ [.lst vs]) (upd H b (.lst us)) := S.new hb (show Orp _ _ _ _ (.lst vs) from ⟨us, upd_same, RpL.mono ⟨[b], rfl⟩ kN _ _ ru⟩)
        exact p (ρ ++ [b]) (upd H b (.lst us)) (.ref b) SN ⟨[b], rfl⟩ kN (Rp.ref_.mpr ⟨b, rfl, by rw [← S.len]; simp⟩)
      · exact p.elim
end
section
variable {X : Cx} {tb : Addr → Prop} {W : WX} {body suite : List Stmt} {b₀ : Stmt} {x n : Str} {c0 : Str} {ps : List Str} {sf : SF} {mb : MS} {i : Nat} {C Ch : Addr} {np pos pos' : Pos}
theorem ts_try (hs : X.stack = X.env :: X.outer) (hf : X.env.frame = some X.env.locals) (hN : X.N.Nodup) (gC : X.mg c0 = some (.ref C)) (gH : X.mg x = some (.ref Ch)) (hx : PySem.W.exmOne X.K (.ref C) (.ref Ch) = some true) (hps : ∀ p ∈ ps, ∃ D, X.mg p = some (.ref D) ∧ PySem.W.exmOne X.K (.ref D) (.ref Ch) = some false)
    (tk : Takes X W) (hb : ∀ (W' : WX) (pn : List (Addr × Obj)) (xe : Value → Shared → Prop), Takes (X.tr pn xe) W' → PassesOwn (model X.prog X.w) X.A X.env xe → TriB (X.tr pn xe) (gO X tb) W' body mb) (hsu : SuiteOk X C i sf (b₀ :: suite))
    (hi : X.N[i]? = some n := by rfl) (hln : X.env.kindOf n = some .local := by rfl) (hg : Gl X x := by rfl) (hdb : (x == ("__debug__" : Str)) = false := by decide) :
    TriS X (gO X tb) W (.Try body [.ExceptHandler (some (.Name x np)) (some n) (b₀ :: suite) pos'] [] [] pos) (mTry i mb c0 ps sf) := by
  refine ps_weak (ps_try_as (tb := fun W' => tS (gO X tb) W' mb) hs hf hN hi hln ⟨hg, hdb, .inl gH⟩ tk hb hsu) fun D σ H ⟨ρ, ah, sa, S, rs, p⟩ => ?_
  refine ⟨ρ, ah, sa, S, rs, ?_⟩
  unfold mTry at p
  cases e : mb sa ah with
  | ex ee s' h' =>
    rw [e] at p
    intro ρ' H' σ' cls d S' pr kp rs' xp
    obtain ⟨C', dx, gs, m1, rfl, rfl, hd, rf⟩ := xp
    have m1 : X.mg ee.cls = some (.ref C') := m1
    dsimp only at p
    split at p
    · rename_i ec
      rw [ec, gC] at m1
      cases m1
      refine ⟨true, hx, fun _ a ha => ?_, fun z => Bool.noConfusion z⟩
      split at p
      · rename_i hlt
        rw [SRp.len rs'] at hlt
        exact tSF_ok (D := D) rfl (by rw [List.getElem?_set_self hlt]) hd rf S' rfl (PstS.later p pr kp)
      · exact p.elim
    · rename_i nec
      split at p
      · rename_i hm
        obtain ⟨D2, g1, g2⟩ := hps _ hm
        rw [g1] at m1
        cases m1
        exact ⟨false, g2, fun z => Bool.noConfusion z, fun _ => p ρ' H' σ' _ _ S' pr kp rs' ⟨_, dx, gs, g1, rfl, rfl, hd, rf⟩⟩
      · exact p.elim
  | nx s' h' => rw [e] at p; exact p
  | rt v h' => rw [e] at p; exact p
  | bk s' h' => rw [e] at p; exact p
  | ct s' h' => rw [e] at p; exact p
  | no => rw [e] at p; exact p
/-! the suite, item by item -/
def SItem (X : Cx) (a : Addr) (cls : Value) (d : Option Addr) (C : Addr) (i : Nat) (e : Expr) (k : SI) : Prop := PE X e (tSI a cls d C i k)
def SItems (X : Cx) (a : Addr) (cls : Value) (d : Option Addr) (C : Addr) (i : Nat) (es : List Expr) (ks : List SI) : Prop := PA X es (tSIs a cls d C i ks)
section
variable {a : Addr} {cls : Value} {d : Option Addr} {oe : Obj} {pn : List (Addr × Obj)} {es : List Expr} {e : Expr} {k : SI} {ks : List SI} {v : Str} {j : Nat}
theorem si_c {q : Pos} : SItem (X.suite a ((a, oe) :: pn)) a cls d C i (.Constant (.str v) j q) (.c v) := pe_str
theorem si_f {f y : Str} {q1 q2 : Pos} (T : XfC X.K C) (hno : PySem.W.findIn X.K (.ref C) f = some none) (hz : Zc cls d oe) (hf : ∃ vs, oe.data = .fields vs) (hi : X.N[i]? = some y := by rfl)
    (hv : Vis X.env.scope y := by first | exact Or.inl rfl | exact Or.inr (Or.inl rfl)) (hd : (y == ("__debug__" : Str)) = false := by decide) (hcd : (y == ("__classdict__" : Str)) = false := by decide)
    (hb : attributeBase (.Name y q1) f X.env (eval (.Name y q1) X.env) = eval (.Name y q1) X.env := by rfl) : SItem (X.suite a ((a, oe) :: pn)) a cls d C i (.Attribute (.Name y q1) f q2) (.f f) :=
  pe_xf (X := X) T hno hz hf (pe_var (X := X.suite a ((a, oe) :: pn)) hi hv hd hcd) hb
theorem si_nil : SItems (X.suite a ((a, oe) :: pn)) a cls d C i [] [] := pa_nil
theorem si_cons (h : SItem (X.suite a ((a, oe) :: pn)) a cls d C i e k) (t : SItems (X.suite a ((a, oe) :: pn)) a cls d C i es ks) (hs : starEach (e :: es) X.env = (false, eval e X.env) :: starEach es X.env := by rfl) : SItems (X.suite a ((a, oe) :: pn)) a cls d C i (e :: es) (k :: ks) := pa_cons h t hs
end
theorem su_one {e : Expr} {k : SI} {q : Pos} (h : ∀ (a : Addr) (oe : Obj) (cls : Value) (d : Option Addr) (pn : List (Addr × Obj)), Zc cls d oe → (∃ vs, oe.data = .fields vs) → SItem (X.suite a ((a, oe) :: pn)) a cls d C i e k) : SuiteOk X C i (.one k) [.Return (some e) q] :=
  fun a oe cls d pn hz hf => pss_one (ps_ret (h a oe cls d pn hz hf))
theorem su_tup {es : List Expr} {ks : List SI} {q q2 : Pos} {x1} (h : ∀ (a : Addr) (oe : Obj) (cls : Value) (d : Option Addr) (pn : List (Addr × Obj)), Zc cls d oe → (∃ vs, oe.data = .fields vs) → SItems (X.suite a ((a, oe) :: pn)) a cls d C i es ks) : SuiteOk X C i (.tup ks) [.Return (some (.Tuple es x1 q2)) q] :=
  fun a oe cls d pn hz hf => pss_one (ps_ret (pe_tup (h a oe cls d pn hz hf)))
theorem su_lst {es : List Expr} {ks : List SI} {q q2 : Pos} (h : ∀ (a : Addr) (oe : Obj) (cls : Value) (d : Option Addr) (pn : List (Addr × Obj)), Zc cls d oe → (∃ vs, oe.data = .fields vs) → SItems (X.suite a ((a, oe) :: pn)) a cls d C i es ks) : SuiteOk X C i (.lst ks) [.Return (some (.List es q2)) q] :=
  fun a oe cls d pn hz hf => pss_one (ps_ret (pe_lst (h a oe cls d pn hz hf)))
end
end Z

/-! more of what is walked: a text's signs, enumerate of a list -/
namespace Z
open PySem PySem.Spec PyProof.Rows L2
def IT.str (x : Str) : IT := ⟨x.cps.size, fun i _ => x.cps[i]?.map fun c => .str ⟨#[c]⟩, fun _ => true⟩
theorem itr_str {Γ : G} {ρ0 : List Addr} {H0 : Hp} {x : Str} : ItR Γ ρ0 H0 (Its x) (IT.str x) where
  go := fun i ρ ah H v hi pr kp S e => by
    have hi : i < x.cps.size := hi
    refine ⟨hi, fun y H' hy => ?_⟩
    obtain ⟨rfl, c, e2, rfl⟩ := hy
    have e : x.cps[i]?.map (fun c => A.str ⟨#[c]⟩) = some v := e
    rw [e2] at e
    cases e
    exact ⟨S, Kept.refl _, Rp.str_.mpr rfl⟩
  stop := fun ρ ah H pr kp S hf => Nat.le_refl _
def mItS (m : ME) : MI := fun s h => (m s h).bind fun v h1 => match v with
  | .str x => .ok (IT.str x) h1
  | _ => .no
section
variable {X : Cx} {tb : Addr → Prop} {W : WX} {tg l : Expr} {m : ME}
theorem ti_str (hl : Tri X (gO X tb) W l m) : TriI X (gO X tb) W tg l (mItS m) := by
  refine pi_weak (pi_str hl) fun σ H Q ⟨ρ, ah, sa, S, rs, p⟩ => ?_
  refine ⟨ρ, ah, sa, S, rs, p.ofE.imp fun u H1 ⟨ρ1, ah1, v, S1, p1, k1, r1, q1⟩ => ?_⟩
  split at q1
  · rename_i x
    rw [Rp.str_] at r1
    exact ⟨x, r1, q1 ρ1 H1 _ S1 (List.prefix_refl _) (Kept.refl _) itr_str⟩
  · exact q1.elim
end
/-- enumerate of the n-th object, len its length -/
def IT.enm (n len : Nat) : IT := ⟨len, fun i ah => match lsA ah n with
  | some ys => if ys.length = len then ys[i]?.map fun y => .tup [.int i, y] else none
  | none => none, fun ah => match lsA ah n with
  | some ys => ys.length == len
  | none => false⟩
theorem rho_at {ρ0 ρ : List Addr} {n : Nat} {a : Addr} (pr : ρ0 <+: ρ) (ea : ρ0[n]? = some a) : ρ[n]? = some a := by
  obtain ⟨t, rfl⟩ := pr
  rw [List.getElem?_append_left]
  · exact ea
  · rcases Nat.lt_or_ge n ρ0.length with z | z
    · exact z
    · rw [List.getElem?_eq_none z] at ea; cases ea
theorem itr_enm {Γ : G} {ρ0 : List Addr} {H0 : Hp} {a : Addr} {n len : Nat} (ea : ρ0[n]? = some a) : ItR Γ ρ0 H0 (Ite Γ.K a) (IT.enm n len) where
  go := fun i ρ ah H v hi pr kp S e => by
    have ea' := rho_at pr ea
    simp only [IT.enm] at e
    split at e
    · rename_i ys ey
      split at e
      · rename_i c
        rw [Option.map_eq_some_iff] at e
        obtain ⟨y, e1, rfl⟩ := e
        obtain ⟨vs, hv, r⟩ := S.ob n _ a (lsA_of ey) ea'
        obtain ⟨u, e2, r1⟩ := r.get e1
        refine ⟨⟨vs, u, .inl (.inl hv), e2⟩, fun x H' hy => ?_⟩
        obtain ⟨T, z, rfl, hT, rfl, f⟩ := hy
        have := f vs (.inl (.inl hv))
        rw [e2] at this
        cases this
        exact ⟨S.beside hT, Kept.new hT, Rp.tup_.mpr ⟨T, _, rfl, .inl (.inl upd_same), RpL.cons (Rp.int_.mpr rfl) (RpL.cons (Rp.mono (List.prefix_refl _) (Kept.new hT) _ _ r1) RpL.nil)⟩⟩
      · cases e
    · cases e
  stop := fun ρ ah H pr kp S hf => by
    have ea' := rho_at pr ea
    simp only [IT.enm] at hf
    split at hf
    · rename_i ys ey
      obtain ⟨vs, hv, r⟩ := S.ob n _ a (lsA_of ey) ea'
      have hl : ys.length = len := by simpa using hf
      exact ⟨vs, .inl (.inl hv), by show vs.length ≤ len; rw [← r.length, hl]; exact Nat.le_refl _⟩
    · cases hf
def mItE (m : ME) : MI := fun s h => (m s h).bind fun v h1 => match v with
  | .ref n => match lsA h1 n with
    | some xs => .ok (IT.enm n xs.length) h1
    | none => .no
  | _ => .no
section
variable {X : Cx} {tb : Addr → Prop} {W : WX} {e : Expr} {m : ME} {p pos tpos : Pos} {elts : List Expr} {kk : Nat}
theorem ti_enum (hl : Tri X (gO X tb) W e m) (hm : X.mg "enumerate" = none) (hg : Gl X "enumerate" := by rfl) (hs : starEach [e] X.env = [(false, eval e X.env)] := by rfl) : TriI X (gO X tb) W (.Tuple elts kk tpos) (.Call (.Name "enumerate" p) [e] [] pos) (mItE m) := by
  refine pi_weak (pi_enum hg hm (pa_cons hl pa_nil hs) hs) fun σ H Q ⟨ρ, ah, sa, S, rs, p⟩ => ?_
  refine ⟨ρ, ah, sa, S, rs, p.ofE.imp fun u H1 ⟨ρ1, ah1, v, S1, p1, k1, r1, q1⟩ => ?_⟩
  split at q1
  · rename_i n
    rw [Rp.ref_] at r1
    obtain ⟨a, rfl, ea⟩ := r1
    split at q1
    · rename_i xs ex
      obtain ⟨vs, hv, r⟩ := S1.ob n _ a (lsA_of ex) ea
      exact ⟨a, vs, rfl, .inl (.inl hv), q1 ρ1 H1 _ S1 (List.prefix_refl _) (Kept.refl _) (itr_enm ea)⟩
    · exact q1.elim
  · exact q1.elim
end
/-! a text, several times -/
def oMulS (v u : A) : Mo A := match v, u with
  | .str x, .int n => fun h => if 1 ≤ n ∧ n ≤ 1000 ∧ x.length ≤ 1000 then .ok (.str (Txt.mul x n)) h else .no
  | _, _ => fun _ => .no
theorem mulOk_small {x : Str} {n : Int} (c : 1 ≤ n ∧ n ≤ 1000 ∧ x.length ≤ 1000) : MulOk x n := by
  obtain ⟨c1, c2, c3⟩ := c
  refine ⟨by simp; omega, fun _ _ h => ?_, fun _ _ => ?_⟩
  · have h2 : (9223372036854775807 : Int) / n ≥ 9223372036854775 := by
      rw [ge_iff_le, Int.le_ediv_iff_mul_le (by omega)]
      omega
    have h3 : (x.length : Int) > 9223372036854775807 / n := h
    omega
  · have : x.length * n.toNat ≤ 1000 * 1000 := Nat.mul_le_mul c3 (by omega)
    unfold Builtin.Str.tooLong
    simp only [decide_eq_false_iff_not]
    rw [sizeLine_eq]
    omega
theorem op_mulS {X : Cx} : OpR X (binaryOp .Mult) (fun x y H Q => ∃ i n, x = .str i ∧ y = .int n ∧ (1 ≤ n ∧ n ≤ 1000 ∧ i.length ≤ 1000) ∧ Q (.str (Txt.mul i n)) H) := by
  intro pins s σ H x y v u Q I rx ry h
  obtain ⟨i, n, rfl, rfl, c, q⟩ := h
  obtain ⟨t, rfl⟩ := rx
  obtain ⟨t', rfl⟩ := ry
  exact SB.mul (mulOk_small c) fun t' k => ⟨.str _, H, I.tok _, ⟨_, rfl⟩, q⟩
theorem o_mulS {X : Cx} {tb : Addr → Prop} {W : WX} : OpM X (gO X tb) W (binaryOp .Mult) oMulS := by
  refine ⟨_, op_mulS, fun σ v1 v2 ah ρ H u1 u2 Q S r1 r2 p => ?_⟩
  cases v1 <;> cases v2 <;> first | exact p.elim | skip
  rw [Rp.str_] at r1
  rw [Rp.int_] at r2
  simp only [oMulS] at p
  split at p
  · rename_i c
    exact ⟨_, _, r1, r2, c, Pst.ret S (Rp.str_.mpr rfl) p⟩
  · exact p.elim
end Z

/-! displays with starred items -/
namespace Z
open PySem PySem.Spec PyProof.Rows L2
abbrev ML := SA → Mo (List A)
def tM (Γ : G) (W : WX) (ml : ML) : TA := fun σ H Q => ∃ ρ ah sa, Sim Γ ρ ah H ∧ SRp Γ.K ρ H sa σ ∧ PstL Γ W σ ρ H Q (ml sa ah)
def TriM (X : Cx) (Γ : G) (W : WX) (es : List Expr) (ml : ML) : Prop := PA X es (tM Γ W ml)
def mlNil : ML := fun _ ah => .ok [] ah
def mlCons (m : ME) (ml : ML) : ML := fun s h => (m s h).bind fun v h1 => (ml s h1).bind fun vs h2 => .ok (v :: vs) h2
def mlStar (m : ME) (ml : ML) : ML := fun s h => (m s h).bind fun v h1 => match sqA h1 v with
  | some xs => (ml s h1).bind fun vs h2 => .ok (xs ++ vs) h2
  | none => .no
section
variable {X : Cx} {Γ : G} {W : WX} {e : Expr} {es : List Expr} {m : ME} {ml : ML} {p pos : Pos}
theorem tm_nil : TriM X Γ W [] mlNil := pa_weak pa_nil fun σ H Q ⟨ρ, ah, sa, S, rs, p⟩ => p ρ H [] S (List.prefix_refl _) (Kept.refl _) RpL.nil
theorem tm_cons (h1 : Tri X Γ W e m) (h2 : TriM X Γ W es ml) (hs : starEach (e :: es) X.env = (false, eval e X.env) :: starEach es X.env := by rfl) : TriM X Γ W (e :: es) (mlCons m ml) := by
  refine pa_weak (pa_cons h1 h2 hs) fun σ H Q ⟨ρ, ah, sa, S, rs, p⟩ => ?_
  refine ⟨ρ, ah, sa, S, rs, (PstL.bind1 p).imp fun u H1 ⟨ρ1, ah1, v, S1, p1, k1, r1, q1⟩ => ?_⟩
  exact ⟨ρ1, ah1, sa, S1, rs.mono p1 k1, PstL.cons r1 q1⟩
theorem PstL.app {σ : L2.St} {ρ : List Addr} {H : Hp} {Q : List V → Hp → Prop} {r : Rs (List A)} {xs : List A} {us : List V} (r1 : RpL Γ.K ρ H xs us)
    (h : PstL Γ W σ ρ H Q (r.bind fun vs ah2 => .ok (xs ++ vs) ah2)) : PstL Γ W σ ρ H (fun ws H1 => Q (us ++ ws) H1) r := by
  cases r with
  | ok vs ah' => exact fun ρ' H' ws S a b r => h ρ' H' (us ++ ws) S a b (RpL.append (RpL.mono a b _ _ r1) r)
  | ex e ah' => exact h
  | no => exact h
theorem tm_star (h1 : Tri X Γ W e m) (h2 : TriM X Γ W es ml) (hK : Γ.K = X.K := by rfl) (hs : starEach (.Starred e p :: es) X.env = (true, eval e X.env) :: starEach es X.env := by rfl) : TriM X Γ W (.Starred e p :: es) (mlStar m ml) := by
  refine pa_weak (StX.pa_star h1 h2 hs) fun σ H Q ⟨ρ, ah, sa, S, rs, p⟩ => ?_
  refine ⟨ρ, ah, sa, S, rs, (PstL.bind1 p).imp fun u H1 ⟨ρ1, ah1, v, S1, p1, k1, r1, q1⟩ => ?_⟩
  split at q1
  · rename_i xs e1
    obtain ⟨a, vs, rfl, t, q⟩ := sq_rel S1 r1 e1
    rw [hK] at t
    exact ⟨a, vs, rfl, t.symm, ρ1, ah1, sa, S1, rs.mono p1 k1, PstL.app q q1⟩
  · exact q1.elim
end
section
variable {X : Cx} {tb : Addr → Prop} {W : WX} {es : List Expr} {ml : ML} {pos : Pos}
def mTupS (ml : ML) : ME := fun sa ah => (ml sa ah).bind fun vs ah1 => if vs.length ≤ sizeLine then .ok (.tup vs) ah1 else .no
def mLstS (ml : ML) : ME := fun sa ah => (ml sa ah).bind fun vs ah1 => if vs.length ≤ sizeLine then .ok (.ref ah1.length) (ah1 ++ [.lst vs]) else .no
theorem t_tupS {x1} (h : TriM X (gO X tb) W es ml) : Tri X (gO X tb) W (.Tuple es x1 pos) (mTupS ml) := by
  refine pe_weak (pe_tup h) fun σ H Q ⟨ρ, ah, sa, S, rs, p⟩ => ?_
  refine ⟨ρ, ah, sa, S, rs, (PstL.bind p).imp fun us H1 ⟨ρ1, ah1, vs, S1, p1, k1, r1, q1⟩ => ?_⟩
  split at q1
  · rename_i c
    exact ⟨by rw [← r1.length]; exact c, fun p np => Pst.tup q1 S1 np r1⟩
  · exact q1.elim
theorem t_lstS (h : TriM X (gO X tb) W es ml) : Tri X (gO X tb) W (.List es pos) (mLstS ml) := by
  refine pe_weak (pe_lst h) fun σ H Q ⟨ρ, ah, sa, S, rs, p⟩ => ?_
  refine ⟨ρ, ah, sa, S, rs, (PstL.bind p).imp fun us H1 ⟨ρ1, ah1, vs, S1, p1, k1, r1, q1⟩ => ?_⟩
  split at q1
  · rename_i c
    exact ⟨by rw [← r1.length]; exact c, fun p np => Pst.lst q1 S1 np r1⟩
  · exact q1.elim
end
end Z
namespace Z
open PySem PySem.Spec PyProof.Rows L2
/-! ### for a, b in .., inside a list -/
def c2 (i j : Nat) (v : A) (s : SA) : Option SA := match v with
  | .tup [a, b] => some ((s.set i (some a)).set j (some b))
  | _ => none
section
variable {X : Cx} {scope : Scope} {own : List (Str × Nat)} {p1 p2 pos : Pos} {k : Nat}
theorem hg_2 {x y : Str} (i j : Nat) (hN : X.N.Nodup) (hc : X.calm = true) (hv : i ∈ own.map (·.2) := by decide) (hv2 : j ∈ own.map (·.2) := by decide) (hi : X.N[i]? = some x := by rfl) (hj : X.N[j]? = some y := by rfl)
    (hx : ∀ (C : Addr) (cl : List (Str × Addr)), (compEnvC scope cl C X.env).scope.names.lookup x = some .local := by intros; rfl) (hy : ∀ (C : Addr) (cl : List (Str × Addr)), (compEnvC scope cl C X.env).scope.names.lookup y = some .local := by intros; rfl) :
    (∀ (s : Shared) (H : Hp) (C : Addr) (cl : List (Str × Addr)) (fp : List Addr), PG (X.blk s H scope (compEnvC scope cl C X.env) fp) (.Tuple [.Name x p1, .Name y p2] k pos) (gTup X.K 2 (gCons (gName i) (gCons (gName j) gNil)))) ∧
    ∀ v u σ sa sa' ρ H Q, Rp X.K ρ H v u → SRp X.K ρ H sa σ → c2 i j v sa = some sa' → (∀ σ', SRp X.K ρ H sa' σ' → L2.wipe σ' (own.map (·.2)) = L2.wipe σ (own.map (·.2)) → Q σ' H) → gTup X.K 2 (gCons (gName i) (gCons (gName j) gNil)) u σ H Q :=
  ⟨fun s H C cl fp => pg_tup (X := X.blk s H scope (compEnvC scope cl C X.env) fp) hc (pgs_cons (pg_name hN hi (Or.inl (hx _ _)) (Or.inr (hx _ _))) (pgs_cons (pg_name hN hj (Or.inl (hy _ _)) (Or.inr (hy _ _))) pgs_nil)), fun v u σ sa sa' ρ H Q r rs e q => by
    unfold c2 at e
    split at e
    · cases e
      rw [Rp.tup_] at r
      obtain ⟨a, vs, rfl, t, rl⟩ := r
      have hl := rl.length
      simp only [RpL] at rl
      obtain ⟨u1, v1, rfl, r1, u2, v2, rfl, r2, rfl⟩ := rl
      exact ⟨a, _, rfl, t, rfl, u1, _, rfl, u2, _, rfl, rfl, q _ ((rs.set i r1).set j r2) (by rw [wipe_set hv2, wipe_set hv])⟩
    · cases e⟩
end
/-! ### the least and the greatest of a list of numbers -/
def minL (n : Int) (ns : List Int) : Int := ns.foldl (fun a b => if b < a then b else a) n
def maxL (n : Int) (ns : List Int) : Int := ns.foldl (fun a b => if a < b then b else a) n
theorem minL_spec : ∀ (ns : List Int) (n : Int), minL n ns ∈ n :: ns ∧ ∀ y ∈ n :: ns, minL n ns ≤ y
  | [], n => ⟨by simp [minL], by simp [minL]⟩
  | a :: ns, n => by
    have h := minL_spec ns (if a < n then a else n)
    have e : minL n (a :: ns) = minL (if a < n then a else n) ns := rfl
    rw [e]
    generalize minL (if a < n then a else n) ns = m at *
    obtain ⟨h1, h2⟩ := h
    constructor
    · rcases List.mem_cons.mp h1 with q | q
      · rw [q]; split <;> simp
      · simp [q]
    · intro y hy
      have h0 := h2 _ List.mem_cons_self
      rcases List.mem_cons.mp hy with q | q
      · subst q; split at h0 <;> omega
      · rcases List.mem_cons.mp q with q | q
        · subst q; split at h0 <;> omega
        · exact h2 y (List.mem_cons_of_mem _ q)
theorem maxL_spec : ∀ (ns : List Int) (n : Int), maxL n ns ∈ n :: ns ∧ ∀ y ∈ n :: ns, y ≤ maxL n ns
  | [], n => ⟨by simp [maxL], by simp [maxL]⟩
  | a :: ns, n => by
    have h := maxL_spec ns (if n < a then a else n)
    have e : maxL n (a :: ns) = maxL (if n < a then a else n) ns := rfl
    rw [e]
    generalize maxL (if n < a then a else n) ns = m at *
    obtain ⟨h1, h2⟩ := h
    constructor
    · rcases List.mem_cons.mp h1 with q | q
      · rw [q]; split <;> simp
      · simp [q]
    · intro y hy
      have h0 := h2 _ List.mem_cons_self
      rcases List.mem_cons.mp hy with q | q
      · subst q; split at h0 <;> omega
      · rcases List.mem_cons.mp q with q | q
        · subst q; split at h0 <;> omega
        · exact h2 y (List.mem_cons_of_mem _ q)
def bMinL : List A → Mo A
  | [.ref n] => fun ah => match (lsA ah n).bind fun xs => xs.mapM ntA with
    | some (i :: is) => .ok (.int (minL i is)) ah
    | _ => .no
  | _ => fun _ => .no
def bMaxL : List A → Mo A
  | [.ref n] => fun ah => match (lsA ah n).bind fun xs => xs.mapM ntA with
    | some (i :: is) => .ok (.int (maxL i is)) ah
    | _ => .no
  | _ => fun _ => .no
section
variable {X : Cx} {tb : Addr → Prop} {W : WX}
theorem b_minL (hc : X.calm = true) : CallM X (gO X tb) W (.builtin "min") bMinL := ⟨_, cr_min hc, fun σ vs ah ρ H us Q S r p => by
  unfold bMinL at p
  split at p
  · obtain ⟨u, rfl, r1⟩ := r.one
    try dsimp only at p
    split at p
    · rename_i n i is e
      rw [Option.bind_eq_some_iff] at e
      obtain ⟨xs, e1, e2⟩ := e
      rw [Rp.ref_] at r1
      obtain ⟨a, rfl, ea⟩ := r1
      obtain ⟨ws, t, q⟩ := sim_seq S (lsA_of e1) ea
      obtain rfl := q.nts e2
      refine ⟨a, i :: is, rfl, t, by simp, fun m hm hy => ?_⟩
      have sp := minL_spec is i
      have : m = minL i is := Int.le_antisymm (hy _ sp.1) (sp.2 _ hm)
      subst this
      exact Pst.ret S (Rp.int_.mpr rfl) p
    · exact p.elim
  · exact p.elim⟩
theorem b_maxL (hc : X.calm = true) : CallM X (gO X tb) W (.builtin "max") bMaxL := ⟨_, cr_max hc, fun σ vs ah ρ H us Q S r p => by
  unfold bMaxL at p
  split at p
  · obtain ⟨u, rfl, r1⟩ := r.one
    try dsimp only at p
    split at p
    · rename_i n i is e
      rw [Option.bind_eq_some_iff] at e
      obtain ⟨xs, e1, e2⟩ := e
      rw [Rp.ref_] at r1
      obtain ⟨a, rfl, ea⟩ := r1
      obtain ⟨ws, t, q⟩ := sim_seq S (lsA_of e1) ea
      obtain rfl := q.nts e2
      refine ⟨a, i :: is, rfl, t, by simp, fun m hm hy => ?_⟩
      have sp := maxL_spec is i
      have : m = maxL i is := Int.le_antisymm (sp.2 _ hm) (hy _ sp.1)
      subst this
      exact Pst.ret S (Rp.int_.mpr rfl) p
    · exact p.elim
  · exact p.elim⟩
end
end Z

/-! an except suite that asks isinstance of the error first -/
namespace Z
open PySem PySem.Spec PyProof.Rows L2
/-- isinstance(e, c), e caught, with a dict -/
def rIsX (K : PySem.W.Frag) (D a dd : Addr) : List V → Hp → VK → Prop := fun xs H Q => ∃ (c : V) (cv : Value) (b : Bool) (gs : List (Str × V)), xs = [.ref a, c] ∧ (∀ u, RelV c u → u = cv) ∧ PySem.W.kitOne K (.ref D) cv = some b ∧ H dd = some (.xd gs) ∧ Q (.bl b) H
theorem call_isX {X : Cx} {a D dd : Addr} {oe : Obj} {pn : List (Addr × Obj)} (C : ExcC X.K D) (hz : Zc (.ref D) (some dd) oe) (hf : ∃ vs, oe.data = .fields vs) : CallR (X.suite a ((a, oe) :: pn)) (.builtin "isinstance") (rIsX X.K D a dd) := by
  intro pins s σ H xs us Q I r ⟨c, cv, b, gs, e1, hcv, e2, ed, q⟩
  subst e1
  obtain ⟨u1, u2, rfl, r1, r2⟩ := vals2 r
  obtain rfl : u1 = Value.ref a := r1
  obtain rfl := hcv _ r2
  have hp := (I.pin (a, oe) (List.mem_append.mpr (.inl List.mem_cons_self))).1
  obtain ⟨vs, hv⟩ := hf
  obtain ⟨mA, hns, _⟩ : ObjOk X.prog X.w H s.heap dd (.xd gs) := I.hok dd _ ed
  obtain ⟨od, ho, _⟩ := lookIn_ns hns
  have J : PySem.W.InstAt s.heap a oe D (some od) := ⟨hp, hz.1, by unfold PySem.W.notCls; rw [hv] <;> rfl, by rw [hz.2]; exact ho⟩
  obtain ⟨cd, hc, _⟩ := PySem.W.any_some C.hd
  exact PySem.W.kia_one (PySem.W.kitx_exc (by rw [hc]; rfl) C.hg C.hk C.hs C.ha C.hn C.ht C.hm) I.kIn J e2 (fun z => nomatch z) fun tk => ⟨.bl b, H, I.kept (t' := tk) fun _ _ z => z, rfl, q⟩
def isB (K : PySem.W.Frag) (C D : Addr) (T : String) : Bool :=
  (decide (PySem.W.findIn K (.ref C) "__getattribute__" = some (some (.builtin "BaseException.__getattribute__"))) && decide (PySem.W.findIn K (.ref C) "__getattr__" = some none)) &&
  ((decide (PySem.W.subIn K (.ref C) (.type "BaseException") = some true) && PySem.W.hasDictIn K C) && (decide (PySem.W.findIn K (.ref C) "__class__" = some (some (.builtin "object.__class__"))) &&
  ((decide (PySem.W.specialIn K (.builtin "object.__class__") "__get__" = some (some (.builtin "getset_descriptor.__get__"))) && decide (PySem.W.takesIn K (.builtin "object.__class__") = some true)) &&
  (decide (PySem.W.mroIn K C (.type "object") = some true) && (decide (PySem.W.kitOne K (.ref C) (.ref D) = some true) && decide (PySem.W.kitOne K (.ref C) (.type T) = some true))))))
structure IsC (K : PySem.W.Frag) (C D : Addr) (T : String) : Prop where
  ex : ExcC K C
  own : PySem.W.kitOne K (.ref C) (.ref D) = some true
  bi : PySem.W.kitOne K (.ref C) (.type T) = some true
theorem isB_ok {K : PySem.W.Frag} {C D : Addr} {T : String} (h : isB K C D T = true) : IsC K C D T := by
  simp only [isB, Bool.and_eq_true, decide_eq_true_eq] at h
  obtain ⟨⟨h1, h2⟩, ⟨h3, h4⟩, h5, ⟨h6, h7⟩, h8, h9, h0⟩ := h
  exact ⟨⟨h1, h2, h3, h4, h5, h6, h7, h8⟩, h9, h0⟩
section
variable {X : Cx} {C D : Addr} {i : Nat} {x y f : Str} {T : String}
theorem su_isi {n1 n2 n3 n4 n5 n6 n7 p1 p2 p3 p4 p5 p6 : Pos} {rest : List Stmt} (I : IsC X.K C D T) (xf : XfC X.K C) (hno : PySem.W.findIn X.K (.ref C) f = some none) (hm : X.mg "isinstance" = none) (hD : X.mg x = some (.ref D)) (hT : X.mg (T : Str) = none)
    (hi : X.N[i]? = some y := by rfl) (hv : Vis X.env.scope y := by first | exact Or.inl rfl | exact Or.inr (Or.inl rfl)) (hd : (y == ("__debug__" : Str)) = false := by decide) (hcd : (y == ("__classdict__" : Str)) = false := by decide)
    (hg : Gl X "isinstance" := by rfl) (hgD : Gl X x := by rfl) (hgT : Gl X (T : Str) := by rfl) (hdx : (x == ("__debug__" : Str)) = false := by decide) (hbT : bootBuiltins (T : Str) = some (.type T) := by decide +kernel) (hnT : (T : Str) ≠ "__name__" := by decide) (hdT : ((T : Str) == ("__debug__" : Str)) = false := by decide)
    (s1 : starEach [.Name y n2, .Name x n3] X.env = (false, eval (.Name y n2) X.env) :: starEach [.Name x n3] X.env := by rfl) (s2 : starEach [.Name y n5, .Name (T : Str) n6] X.env = (false, eval (.Name y n5) X.env) :: starEach [.Name (T : Str) n6] X.env := by rfl)
    (s3 : starEach [.Name x n3] X.env = (false, eval (.Name x n3) X.env) :: starEach [] X.env := by rfl) (s4 : starEach [.Name (T : Str) n6] X.env = (false, eval (.Name (T : Str) n6) X.env) :: starEach [] X.env := by rfl)
    (q1 : (backTo p1 (starEach [.Name x n3] X.env)).any (·.1) = false := by rfl) (q2 : (backTo p2 (starEach [.Name (T : Str) n6] X.env)).any (·.1) = false := by rfl)
    (w1 : ∀ whole, isTrue (.Call (.Name "isinstance" n1) [.Name y n2, .Name x n3] [] p1) X.env whole = (do let v ← whole; standAt p1; holding [v] (truthy v)) := by intro _; rfl) (w2 : ∀ whole, isTrue (.Call (.Name "isinstance" n4) [.Name y n5, .Name (T : Str) n6] [] p2) X.env whole = (do let v ← whole; standAt p2; holding [v] (truthy v)) := by intro _; rfl)
    (hb : attributeBase (.Name y n7) f X.env (eval (.Name y n7) X.env) = eval (.Name y n7) X.env := by rfl) :
    SuiteOk X C i (.one (.f f)) (.If (.BoolOp .And [.Call (.Name "isinstance" n1) [.Name y n2, .Name x n3] [] p1, .Call (.Name "isinstance" n4) [.Name y n5, .Name (T : Str) n6] [] p2] p3) [.Return (some (.Attribute (.Name y n7) f p4)) p5] [] p6 :: rest) := by
  intro a oe cls d pn hz hf
  by_cases c : cls = .ref C ∧ ∃ dd, d = some dd
  · obtain ⟨rfl, dd, rfl⟩ := c
    have v1 : ∀ {n : Pos}, PE (X.suite a ((a, oe) :: pn)) (.Name y n) (tVar i) := pe_var (X := X.suite a ((a, oe) :: pn)) hi hv hd hcd
    have c1 := pt_val (pe_callB (X := X.suite a ((a, oe) :: pn)) (call_isX I.ex hz hf) hg hm (by decide +kernel) (pa_cons v1 (pa_cons (pe_glob (X := X.suite a ((a, oe) :: pn)) (v := .ref D) hgD hD rfl hdx) pa_nil s3) s1) (he := s1) (hpl := q1)) w1
    have c2 := pt_val (pe_callB (X := X.suite a ((a, oe) :: pn)) (call_isX I.ex hz hf) hg hm (by decide +kernel) (pa_cons v1 (pa_cons (pe_bltn (X := X.suite a ((a, oe) :: pn)) (v := .ty T) hgT hT hbT rfl hnT hdT) pa_nil s4) s2) (he := s2) (hpl := q2)) w2
    refine pss_weak (pss_cons (ps_if (pw_and c1 (pw_and1 c2)).pt (pss_one (ps_ret (pe_xf (X := X) xf hno hz hf v1 hb))) pss_nil) (pss_never (sts := rest))) fun E σ H h => ?_
    obtain ⟨w, hw, rfl, _, dd', gs, v, e, hx, hl, q⟩ := h
    cases e
    have h2 : tVar i σ H fun x H1 => x = .ref a ∧ (Value.ref C = .ref C) ∧ ∃ (dd2 : Addr) (fs : List (Str × V)) (v : V), some dd = some dd2 ∧ H1 dd2 = some (.xd fs) ∧ fs.lookup f = some v ∧ E.rt v H1 := ⟨_, hw, rfl, rfl, dd, gs, v, rfl, hx, hl, q⟩
    exact ⟨_, hw, ⟨_, _, true, gs, rfl, fun u ru => ru, I.own, hx, _, rfl, ⟨_, hw, ⟨_, _, true, gs, rfl, fun u ru => ru, I.bi, hx, _, rfl, h2⟩⟩⟩⟩
  · refine pss_weak pss_never fun E σ H h => ?_
    obtain ⟨w, hw, rfl, e1, dd', gs, v, e2, _⟩ := h
    exact c ⟨e1, dd', e2⟩
end
/-! a, b, .. = a list -/
def gTl (n : Nat) (gs : MGs) : MG := fun v s h => match v with
  | .ref k => match lsA h k with
    | some xs => if xs.length = n then gs xs s h else .no
    | none => .no
  | _ => .no
theorem gTl_ok {gs : MGs} {s : SA} {h : AH} {k n : Nat} {xs : List A} (e : h[k]? = some (.lst xs)) (c : xs.length = n) : gTl n gs (.ref k) s h = gs xs s h := by simp only [gTl, lsA, e, c, if_true]
section
variable {X : Cx} {tb : Addr → Prop} {W : WX} {pos : Pos}
theorem tg_lst {es : List Expr} {k : Nat} {gs : MGs} {n : Nat} (hc : X.calm = true) (h : TriGs X (gO X tb) W es gs)
    (hn : (assignEach es X.env).length = n := by rfl) (hst : (assignEach es X.env).findIdx? (·.1) = none := by rfl) : TriG X (gO X tb) W (.Tuple es k pos) (gTl n gs) :=
  pg_weak (pg_lst hc h hn hst) fun u σ H Q ⟨ρ, ah, sa, v, S, rs, r, p⟩ => by
    unfold gTl at p
    split at p
    · rename_i m
      split at p
      · rename_i xs ex
        split at p
        · rename_i c
          rw [Rp.ref_] at r
          obtain ⟨a, rfl, ea⟩ := r
          obtain ⟨vs, hv, q⟩ := S.ob m _ a (lsA_of ex) ea
          exact ⟨a, vs, rfl, .inl (.inl hv), by rw [← q.length]; exact c, ρ, ah, sa, xs, S, rs, q, p⟩
        · exact p.elim
      · exact p.elim
    · exact p.elim
theorem ko_tl {n : Nat} {gs : MGs} (h2 : TgtsOk gs) : TgtOk (gTl n gs) := fun v s h s' h' => by
  unfold gTl
  split
  · split
    · split
      · exact h2 _ s h s' h'
      · exact ⟨fun z => (by cases z), fun z => (by cases z), fun v' z => (by cases z)⟩
    · exact ⟨fun z => (by cases z), fun z => (by cases z), fun v' z => (by cases z)⟩
  · exact ⟨fun z => (by cases z), fun z => (by cases z), fun v' z => (by cases z)⟩
end
end Z

/-! module constants that are tuples; count, join of texts; list(range(a, b)) -/
namespace Z
open PySem PySem.Spec PyProof.Rows L2
def strsB : List Value → List Str → Bool
  | [], [] => true
  | .str y _ :: us, z :: zs => decide (y = z) && strsB us zs
  | _, _ => false
theorem strsB_ok : ∀ {us : List Value} {zs : List Str}, strsB us zs = true → Vals (zs.map V.str) us
  | [], [], _ => .nil
  | .str y t :: us, z :: zs, h => by
    simp only [strsB, Bool.and_eq_true, decide_eq_true_eq] at h
    obtain ⟨rfl, h⟩ := h
    exact .cons ⟨t, rfl⟩ (strsB_ok h)
  | [], z :: zs, h => by simp [strsB] at h
  | u :: us, [], h => by cases u <;> simp [strsB] at h
  | .none :: us, z :: zs, h => by simp [strsB] at h
  | .bool _ :: us, z :: zs, h => by simp [strsB] at h
  | .int _ _ :: us, z :: zs, h => by simp [strsB] at h
  | .ref _ :: us, z :: zs, h => by simp [strsB] at h
  | .float _ _ :: us, z :: zs, h => by simp [strsB] at h
  | .bytes _ _ :: us, z :: zs, h => by simp [strsB] at h
  | .type _ :: us, z :: zs, h => by simp [strsB] at h
  | .builtin _ :: us, z :: zs, h => by simp [strsB] at h
/-- the tuple of these texts stands in the written part -/
structure TupK (K : PySem.W.Frag) (a : Addr) (ss : List Str) : Prop where
  ex : ∃ (o : Obj) (its : Array Value) (n : Nat), K.lookup a = some o ∧ o.cls = .type "tuple" ∧ o.data = .seq its n ∧ its.size ≤ sizeLine ∧ Vals (ss.map V.str) its.toList
def tupB (K : PySem.W.Frag) (a : Addr) (ss : List Str) : Bool := match K.lookup a with
  | some o => decide (o.cls = .type "tuple") && (match o.data with
    | .seq its n => decide (its.size ≤ 1000) && strsB its.toList ss
    | _ => false)
  | none => false
theorem tupB_ok {K : PySem.W.Frag} {a : Addr} {ss : List Str} (h : tupB K a ss = true) : TupK K a ss := by
  unfold tupB at h
  cases e : K.lookup a with
  | none => rw [e] at h; cases h
  | some o =>
    rw [e] at h
    simp only [Bool.and_eq_true, decide_eq_true_eq] at h
    obtain ⟨h1, h2⟩ := h
    split at h2
    · rename_i its n ed
      simp only [Bool.and_eq_true, decide_eq_true_eq] at h2
      exact ⟨o, its, n, e, h1, ed, by rw [sizeLine_eq]; omega, strsB_ok h2.2⟩
    · cases h2
theorem rpL_strs {K : PySem.W.Frag} {ρ : List Addr} {H : Hp} : ∀ ss : List Str, RpL K ρ H (ss.map A.str) (ss.map V.str)
  | [] => RpL.nil
  | s :: ss => RpL.cons (Rp.str_.mpr rfl) (rpL_strs ss)
section
variable {X : Cx} {tb : Addr → Prop} {W : WX} {x : Str} {pos apos : Pos}
theorem t_globT {a : Addr} {ss : List Str} {v : A} (hm : X.mg x = some (.ref a)) (ht : TupK X.K a ss) (hv : A.tup (ss.map A.str) = v := by rfl) (hg : Gl X x := by rfl) (hd : (x == ("__debug__" : Str)) = false := by decide) : Tri X (gO X tb) W (.Name x pos) (mC v) := by
  subst hv
  refine t_c (v := .ref a) (pe_glob hg hm rfl hd) fun ρ H => ?_
  obtain ⟨o, its, n, e1, e2, e3, e4, e5⟩ := ht.ex
  exact Rp.tup_.mpr ⟨a, _, rfl, .inr ⟨o, its, n, e1, e2, e3, e4, e5⟩, rpL_strs ss⟩
/-! x.count(y) -/
def mCnt (m n : ME) : ME := fun s h => (m s h).bind fun v h1 => match v with
  | .str a => (n s h1).bind fun u h2 => match u with
    | .str b => .ok (.int (Txt.count a b)) h2
    | _ => .no
  | _ => .no
theorem t_count {o e : Expr} {m n : ME} (ho : Tri X (gO X tb) W o m) (he : Tri X (gO X tb) W e n) (hs : starEach [e] X.env = [(false, eval e X.env)] := by rfl) (hbase : attributeBase o "count" X.env (eval o X.env) = eval o X.env := by rfl) (hline : (apos.endLine == pos.line) = true := by rfl) :
    Tri X (gO X tb) W (.Call (.Attribute o "count" apos) [e] [] pos) (mCnt m n) := by
  refine pe_weak (pe_m1 F.slot_str_count F.type_str_count mt_count ho he hs hbase hline) fun σ H Q ⟨ρ, ah, sa, S, rs, p⟩ => ?_
  refine ⟨ρ, ah, sa, S, rs, p.bind.imp fun u H1 ⟨ρ1, ah1, v, S1, p1, k1, r1, q1⟩ => ?_⟩
  split at q1
  · rename_i a
    rw [Rp.str_] at r1
    subst r1
    refine ⟨⟨a, rfl⟩, ρ1, ah1, sa, S1, rs.mono p1 k1, q1.bind.imp fun w H2 ⟨ρ2, ah2, v2, S2, p2, k2, r2, q2⟩ => ?_⟩
    split at q2
    · rename_i b
      rw [Rp.str_] at r2
      subst r2
      exact ⟨a, b, rfl, rfl, Pst.ret S2 (Rp.int_.mpr rfl) q2⟩
    · exact q2.elim
  · exact q1.elim
/-! sep.join(a list or a tuple of texts) -/
def stA : A → Option Str
  | .str s => some s
  | _ => none
def mJoin (m n : ME) : ME := fun s h => (m s h).bind fun v h1 => match v with
  | .str a => (n s h1).bind fun u h2 => match u with
    | .ref k => match lsA h2 k with
      | some xs => match xs.mapM stA with
        | some ys => if (ys.map (·.length)).sum + ys.length * a.length ≤ 16777216 then .ok (.str (Txt.join a ys)) h2 else .no
        | none => .no
      | none => .no
    | .tup xs => match xs.mapM stA with
      | some ys => if (ys.map (·.length)).sum + ys.length * a.length ≤ 16777216 then .ok (.str (Txt.join a ys)) h2 else .no
      | none => .no
    | _ => .no
  | _ => .no
theorem rpL_st {K : PySem.W.Frag} {ρ : List Addr} {H : Hp} : ∀ {xs : List A} {ys : List Str} {vs : List V}, xs.mapM stA = some ys → RpL K ρ H xs vs → vs = ys.map V.str
  | [], ys, vs, e, r => by
    simp at e
    subst e
    simp only [RpL] at r
    rw [r]
    rfl
  | x :: xs, ys, vs, e, r => by
    simp only [RpL] at r
    obtain ⟨v, vs', rfl, r1, r2⟩ := r
    rw [List.mapM_cons] at e
    cases x with
    | str z =>
      cases e2 : xs.mapM stA with
      | none => rw [e2] at e; cases e
      | some zs =>
        rw [e2] at e
        cases e
        rw [Rp.str_] at r1
        rw [r1, rpL_st e2 r2]
        rfl
    | _ => cases e
theorem t_join {o e : Expr} {m n : ME} (ho : Tri X (gO X tb) W o m) (he : Tri X (gO X tb) W e n) (hs : starEach [e] X.env = [(false, eval e X.env)] := by rfl) (hbase : attributeBase o "join" X.env (eval o X.env) = eval o X.env := by rfl) (hline : (apos.endLine == pos.line) = true := by rfl) :
    Tri X (gO X tb) W (.Call (.Attribute o "join" apos) [e] [] pos) (mJoin m n) := by
  refine pe_weak (pe_join ho he hs hbase hline) fun σ H Q ⟨ρ, ah, sa, S, rs, p⟩ => ?_
  refine ⟨ρ, ah, sa, S, rs, p.bind.imp fun u H1 ⟨ρ1, ah1, v, S1, p1, k1, r1, q1⟩ => ?_⟩
  split at q1
  · rename_i a
    rw [Rp.str_] at r1
    subst r1
    refine ⟨⟨a, rfl⟩, ρ1, ah1, sa, S1, rs.mono p1 k1, q1.bind.imp fun w H2 ⟨ρ2, ah2, v2, S2, p2, k2, r2, q2⟩ => ?_⟩
    split at q2
    · rename_i k
      split at q2
      · rename_i xs ex
        split at q2
        · rename_i ys ey
          split at q2
          · rename_i c
            rw [Rp.ref_] at r2
            obtain ⟨b, rfl, eb⟩ := r2
            obtain ⟨vs, hv, rl⟩ := S2.ob k _ b (lsA_of ex) eb
            exact ⟨a, b, ys, rfl, rfl, .inl (by rw [← rpL_st ey rl]; exact .inl (.inl hv)), c, Pst.ret S2 (Rp.str_.mpr rfl) q2⟩
          · exact q2.elim
        · exact q2.elim
      · exact q2.elim
    · rename_i xs
      split at q2
      · rename_i ys ey
        split at q2
        · rename_i c
          rw [Rp.tup_] at r2
          obtain ⟨b, vs, rfl, t, rl⟩ := r2
          exact ⟨a, b, ys, rfl, rfl, .inr (by rw [← rpL_st ey rl]; exact t), c, Pst.ret S2 (Rp.str_.mpr rfl) q2⟩
        · exact q2.elim
      · exact q2.elim
    · exact q2.elim
  · exact q1.elim
/-! list(range(a, b)), list(range(b)) -/
def rgA (a b : Int) : List A := (List.range (b - a).toNat).map fun i => A.int (a + (i : Nat))
def mLR (m n : ME) : ME := fun s h => (m s h).bind fun v h1 => (n s h1).bind fun u h2 => match v, u with
  | .int a, .int b => if -1000000000 ≤ a ∧ a ≤ 1000000000 ∧ -1000000000 ≤ b ∧ b ≤ 1000000000 ∧ b - a ≤ 16777216 then .ok (.ref h2.length) (h2 ++ [.lst (rgA a b)]) else .no
  | _, _ => .no
theorem rpL_rg {K : PySem.W.Frag} {ρ : List Addr} {H : Hp} (a : Int) : ∀ l : List Nat, RpL K ρ H (l.map fun i => A.int (a + (i : Nat))) (l.map fun i => V.int (a + (i : Nat)))
  | [] => RpL.nil
  | i :: l => RpL.cons (Rp.int_.mpr rfl) (rpL_rg a l)
theorem t_listRg {p p2 pos2 : Pos} {e f : Expr} {m n : ME} (hc : X.calm = true) (he : Tri X (gO X tb) W e m) (hf : Tri X (gO X tb) W f n) (hm : X.mg "list" = none) (hm2 : X.mg "range" = none) (hg : Gl X "list" := by rfl) (hg2 : Gl X "range" := by rfl)
    (na : starEach [e, f] X.env = (false, eval e X.env) :: starEach [f] X.env := by rfl) (nb : starEach [f] X.env = (false, eval f X.env) :: starEach [] X.env := by rfl) (hp : (backTo pos2 (starEach [f] X.env)).any (·.1) = false := by rfl)
    (nc : starEach [.Call (.Name "range" p2) [e, f] [] pos2] X.env = (false, eval (.Call (.Name "range" p2) [e, f] [] pos2) X.env) :: starEach [] X.env := by rfl) :
    Tri X (gO X tb) W (.Call (.Name "list" p) [.Call (.Name "range" p2) [e, f] [] pos2] [] pos) (mLR m n) := by
  refine pe_weak (pe_listRg hc hg hm (prg_2 hg2 hm2 he hf na nb hp) nc) fun σ H Q ⟨ρ, ah, sa, S, rs, q⟩ => ?_
  refine ⟨ρ, ah, sa, S, rs, q.bind.imp fun u H1 ⟨ρ1, ah1, v, S1, p1, k1, r1, q1⟩ => ?_⟩
  refine ⟨ρ1, ah1, sa, S1, rs.mono p1 k1, q1.bind.imp fun w H2 ⟨ρ2, ah2, v2, S2, p2, k2, r2, q2⟩ => ?_⟩
  have r1 := Rp.mono p2 k2 _ _ r1
  cases v with
  | int a =>
    cases v2 with
    | int b =>
      dsimp only at q2
      split at q2
      · rename_i c
        rw [Rp.int_] at r2 r1
        refine ⟨a, b, r1, r2, ⟨by omega, by omega, by omega, by omega, by omega⟩, fun z hz => Pst.lst q2 S2 hz (rpL_rg a _)⟩
      · exact q2.elim
    | _ => exact q2.elim
  | _ => exact q2.elim
end
end Z

/-! a text read backwards -/
namespace Z
open PySem PySem.Spec PyProof.Rows L2
def revS (z : Str) : Str := ⟨z.cps.toList.reverse.toArray⟩
theorem pick_rev (z : Str) : (Builtin.Str.strSliceIndices none none (-1) z.length).filterMap (z.cps[·]?) = z.cps.toList.reverse := by
  have e : Builtin.Str.strSliceIndices none none (-1) z.length = PySem.sliceRange ((z.cps.size : Int) - 1) (-1) (-1) := rfl
  rw [e, PySem.W.krv_sliceRange, PySem.W.krv_range, List.filterMap_reverse, PySem.W.krv_all]
/-- z[::-1] -/
def tRevS (te : TE) : TE := fun σ H Q => te σ H fun x H1 => ∃ z, x = .str z ∧ z.length ≤ sizeLine ∧ Q (.str (revS z)) H1
theorem pe_revS {X : Cx} {e : Expr} {te : TE} {k : Nat} {p1 p2 p3 pos : Pos} (he : PE X e te) : PE X (.Subscript e (.Slice none none (some (.UnaryOp .USub (.Constant (.int 1) k p1) p2)) p3) pos) (tRevS te) := by
  constructor
  intro pins sh σ H Q inv pre
  -- the text itself
  refine Subscript_ (thn (he.run pins sh σ H _ inv pre) fun val sA ⟨x, HA, invA, rel, post⟩ => ?_)
  obtain ⟨z, rfl, short, post⟩ := post
  obtain ⟨t, rfl⟩ := rel
  -- the three parts of the slice: none, none, -1
  have minus := po_some (X := X) (pe_un (pos := p2) un_neg (pe_int (X := X) (i := 1) (j := k) (pos := p1)))
  refine wpAny_Slice (thn (po_none.run pins sA σ HA (fun o G => o = none ∧ G = HA) invA ⟨rfl, rfl⟩) fun va sB ⟨oa, HB, invB, isA, eoa, eHB⟩ => ?_)
  subst eoa eHB
  refine thn (po_none.run pins sB σ HB (fun o G => o = none ∧ G = HB) invB ⟨rfl, rfl⟩) fun vb sC ⟨ob, HC, invC, isB, eob, eHC⟩ => ?_
  subst eob eHC
  refine thn (minus.run pins sC σ HC (fun o G => o = some (-1) ∧ G = HC) invC ⟨1, rfl, -1, rfl, rfl, rfl⟩) fun vc sD ⟨oc, HD, invD, isC, eoc, eHD⟩ => ?_
  subst eoc eHD
  obtain ⟨a, rfl, na⟩ := IsPart.raw isA
  obtain ⟨b, rfl, nb⟩ := IsPart.raw isB
  obtain ⟨c, rfl, nc⟩ := IsPart.raw isC
  rcases a with _ | a
  · rcases b with _ | b
    · rcases c with _ | ⟨m, tm⟩
      · cases nc
      · have em : m = -1 := by cases nc; rfl
        subst em
        have invS : Inv X pins σ HD { sD with heap := sD.heap.push { cls := .type "slice", data := .fields #[partValue none, partValue none, partValue (some (-1, tm))] } } :=
          invD.kept (t' := sD.toks) fun adr obj there => Heap.get?_push_of_some _ there
        refine tail_any (ops := [.ref sD.heap.objs.size, .str z t]) (typeIs_str _ _ _) F.slot_str_getitem.lookup ?_ (by with_unfolding_all rfl)
        refine wpAny_getItem_str_slice (l := none) (u := none) (st := some (-1, tm)) ⟨_, Heap.get?_push_size _ rfl, rfl, rfl⟩ rfl ?_
        have made : sliceMade z t none none (some (-1, tm)) = Made.str ⟨((Builtin.Str.strSliceIndices none none (-1) z.length).filterMap (z.cps[·]?)).toArray⟩ := rfl
        rw [made, pick_rev]
        refine ⟨?_, .str _, HD, invS.tok _, ⟨_, rfl⟩, post⟩
        show (z.cps.toList.reverse.toArray).size ≤ sizeLine
        rw [List.size_toArray, List.length_reverse, Array.length_toList]
        exact short
    · cases nb
  · cases na
def mRevS (m : ME) : ME := fun s h => (m s h).bind fun v h1 => match v with
  | .str z => if z.length ≤ sizeLine then .ok (.str (revS z)) h1 else .no
  | _ => .no
section
variable {X : Cx} {tb : Addr → Prop} {W : WX}
theorem t_revS {e : Expr} {m : ME} {k : Nat} {p1 p2 p3 pos : Pos} (he : Tri X (gO X tb) W e m) : Tri X (gO X tb) W (.Subscript e (.Slice none none (some (.UnaryOp .USub (.Constant (.int 1) k p1) p2)) p3) pos) (mRevS m) := by
  refine pe_weak (pe_revS he) fun σ H Q ⟨ρ, ah, sa, S, rs, p⟩ => ?_
  refine ⟨ρ, ah, sa, S, rs, p.bind.imp fun u H1 ⟨ρ1, ah1, v, S1, p1, k1, r1, q1⟩ => ?_⟩
  split at q1
  · rename_i z
    rw [Rp.str_] at r1
    subst r1
    split at q1
    · rename_i c
      exact ⟨z, rfl, c, Pst.ret S1 (Rp.str_.mpr rfl) q1⟩
    · exact q1.elim
  · exact q1.elim
end
end Z

/-! list comprehensions with two loops -/
namespace Z
open PySem PySem.Spec PyProof.Rows L2
def lc2In (it : IT) (ga : A → SA → Option SA) (tt : MT) (me : ME) (n : Nat) (sa : SA) (C : AH → Rs A) : Nat → Nat → AH → Rs A
  | 0, _, h => if it.fin h = true then C h else .no
  | k + 1, j, h => match it.item j h with
    | none => .no
    | some v => match ga v sa with
      | none => .no
      | some s2 => (tt s2 h).bindN fun b h3 => if b = true then (me s2 h3).bindN fun y h4 => match h4[n]? with
          | some (.lst acc) => if acc.length < sizeLine then lc2In it ga tt me n sa C k (j + 1) (h4.set n (.lst (acc ++ [y]))) else .no
          | _ => .no
        else lc2In it ga tt me n sa C k (j + 1) h3
def lc2Go (it : IT) (ga : A → SA → Option SA) (tt : MT) (mi1 : MI) (ga1 : A → SA → Option SA) (tt1 : MT) (me : ME) (vs1 : List Nat) (n : Nat) (sa : SA) : Nat → Nat → AH → Rs A
  | 0, _, h => if it.fin h = true then .ok (.ref n) h else .no
  | k + 1, i, h => match it.item i h with
    | none => .no
    | some v => match ga v sa with
      | none => .no
      | some s2 => (tt s2 h).bindN fun b h3 => if b = true then (mi1 s2 h3).bindN fun it1 h4 => lc2In it1 ga1 tt1 me n (wipeA s2 vs1) (lc2Go it ga tt mi1 ga1 tt1 me vs1 n sa k (i + 1)) it1.cnt 0 h4
        else lc2Go it ga tt mi1 ga1 tt1 me vs1 n sa k (i + 1) h3
def mLc2 (mi : MI) (ga : A → SA → Option SA) (tt : MT) (mi1 : MI) (ga1 : A → SA → Option SA) (tt1 : MT) (me : ME) (vs vs1 : List Nat) : ME := fun s h => (mi s h).bind fun it h1 => lc2Go it ga tt mi1 ga1 tt1 me vs1 h1.length (wipeA s vs) it.cnt 0 (h1 ++ [.lst []])
section
variable {X : Cx} {tb : Addr → Prop} {W : WX} {tg iter elt tg1 iter1 : Expr} {ifs ifs1 : List Expr} {mi mi1 : MI} {ga ga1 : A → SA → Option SA} {mt mt1 : MT} {me : ME} {own : List (Str × Nat)} {vs1 : List Nat} {scope : Scope} {pos : Pos}
theorem PstI.ofN {Γ : G} {σ σ' : L2.St} {ρ : List Addr} {H : Hp} {Q : VK} {R : It → Hp → Prop} {r : Rs IT} {k : IT → AH → Rs A} (h : Pst Γ W σ ρ H Q (r.bindN k))
    (f : ∀ J H1 ρ1 ah1 it, Sim Γ ρ1 ah1 H1 → ρ <+: ρ1 → Kept H H1 → ItR Γ ρ1 H1 J it → Pst Γ W σ ρ1 H1 Q (k it ah1) → R J H1) : PstI Γ W0 σ' ρ H R r := by
  cases r with
  | ok v ah' => exact fun ρ' H' J S a b R' => f J H' ρ' ah' v S a b R' (Pst.later h a b)
  | ex e ah' => exact False.elim h
  | no => exact h
theorem lc2_rel {g g1 : TG} {σ : L2.St} {H : Hp} {Q : VK} (hg : ∀ v u σ sa sa' ρ H Q, Rp X.K ρ H v u → SRp X.K ρ H sa σ → ga v sa = some sa' → (∀ σ', SRp X.K ρ H sa' σ' → L2.wipe σ' (own.map (·.2)) = L2.wipe σ (own.map (·.2)) → Q σ' H) → g u σ H Q)
    (hg1 : ∀ v u σ sa sa' ρ H Q, Rp X.K ρ H v u → SRp X.K ρ H sa σ → ga1 v sa = some sa' → (∀ σ', SRp X.K ρ H sa' σ' → L2.wipe σ' vs1 = L2.wipe σ vs1 → Q σ' H) → g1 u σ H Q)
    (h : tE (gO X tb) W (mLc2 mi ga mt mi1 ga1 mt1 me (own.map (·.2)) vs1) σ H Q) : tLc2 (tI (gO X tb) W mi) g (tT (gO X tb) W0 mt) (tI (gO X tb) W0 mi1) g1 (tT (gO X tb) W0 mt1) (tE (gO X tb) W0 me) (own.map (·.2)) vs1 σ H Q := by
  obtain ⟨ρ, ah, sa, S, rs, p⟩ := h
  refine ⟨ρ, ah, sa, S, rs, ?_⟩
  unfold mLc2 at p
  cases e : mi sa ah with
  | no => rw [e] at p; exact p.elim
  | ex x h => rw [e] at p; exact fun ρ' H' cls d S' a b r => p ρ' H' cls d S' a b r
  | ok it h1 =>
    rw [e] at p
    intro ρ0 H0 J S0 a0 b0 R D hD
    have SN : Sim (gO X tb) (ρ0 ++ [D]) (h1 ++ [.lst []]) (upd H0 D (.lst [])) := S0.new hD (show Orp _ _ _ _ (.lst []) from ⟨[], upd_same, RpL.nil⟩)
    have kN : Kept H0 (upd H0 D (.lst [])) := Kept.new hD
    have p : Pst (gO X tb) W σ ρ H Q (lc2Go it ga mt mi1 ga1 mt1 me vs1 h1.length (wipeA sa (own.map (·.2))) it.cnt 0 (h1 ++ [.lst []])) := p
    generalize en : h1.length = n at p
    generalize eL : lc2Go it ga mt mi1 ga1 mt1 me vs1 n (wipeA sa (own.map (·.2))) = L at p
    have L0 : ∀ i h, L 0 i h = if it.fin h = true then .ok (.ref n) h else .no := fun i h => by rw [← eL, lc2Go]
    have LS : ∀ k i h, L (k + 1) i h = (match it.item i h with
      | none => .no
      | some v => match ga v (wipeA sa (own.map (·.2))) with
        | none => .no
        | some s2 => (mt s2 h).bindN fun b h3 => if b = true then (mi1 s2 h3).bindN fun it1 h4 => lc2In it1 ga1 mt1 me n (wipeA s2 vs1) (L k (i + 1)) it1.cnt 0 h4
          else L k (i + 1) h3) := fun k i h => by rw [← eL, lc2Go]
    clear eL
    have p0 : Pst (gO X tb) W σ (ρ0 ++ [D]) (upd H0 D (.lst [])) Q (L it.cnt 0 (h1 ++ [.lst []])) := Pst.later p (a0.trans ⟨[D], rfl⟩) (b0.trans kN)
    refine ⟨fun i m H => ∃ ρ ah, ρ0 ++ [D] <+: ρ ∧ Kept (upd H0 D (.lst [])) H ∧ m + i = it.cnt ∧ Sim (gO X tb) ρ ah H ∧ Pst (gO X tb) W σ ρ H Q (L m i ah), ⟨it.cnt, ρ0 ++ [D], _, List.prefix_refl _, Kept.refl _, rfl, SN, p0⟩, ?_⟩
    have hDat : ∀ {ρ : List Addr}, ρ0 ++ [D] <+: ρ → ρ[n]? = some D := fun {ρ} pr => by
      obtain ⟨t, rfl⟩ := pr
      rw [← en, List.append_assoc, List.getElem?_append_right (by rw [S0.len]; exact Nat.le_refl _), S0.len]
      simp
    rintro i m H ⟨ρ, ah, pr, kp, em, S, p⟩
    have hDn : ρ[n]? = some D := hDat pr
    have pr0 : ρ0 <+: ρ := List.IsPrefix.trans ⟨[D], rfl⟩ pr
    have kp0 : Kept H0 H := kN.trans kp
    have rsW : SRp X.K ρ H (wipeA sa (own.map (·.2))) (L2.wipe σ (own.map (·.2))) := SRp.mono (a0.trans pr0) (b0.trans kp0) (rs.wipe _)
    cases m with
    | zero =>
      rw [L0] at p
      split at p
      · rename_i hf
        have ei : i = it.cnt := by omega
        subst ei
        exact .inl ⟨R.stop ρ ah H pr0 kp0 S hf, Pst.ret S (Rp.ref_.mpr ⟨D, rfl, hDn⟩) p⟩
      · exact p.elim
    | succ k =>
      rw [LS] at p
      split at p
      · exact p.elim
      · rename_i v ev
        split at p
        · exact p.elim
        · rename_i s2 es2
          obtain ⟨q1, q2⟩ := R.go i ρ ah H v (by omega) pr0 kp0 S ev
          refine .inr ⟨q1, fun H' => ∃ ρ ah, ρ0 ++ [D] <+: ρ ∧ Kept (upd H0 D (.lst [])) H' ∧ k + (i + 1) = it.cnt ∧ Sim (gO X tb) ρ ah H' ∧ Pst (gO X tb) W σ ρ H' Q (L k (i + 1) ah), fun H' h => ⟨k, Nat.lt_succ_self k, h⟩, fun x H' hy => ?_⟩
          obtain ⟨S', k', r'⟩ := q2 x H' hy
          refine hg v x _ _ s2 ρ H' _ r' (rsW.mono (List.prefix_refl _) k') es2 fun σ2 rs2 w2 => ⟨by rw [w2, wipe_wipe], ?_⟩
          refine ⟨ρ, ah, s2, S', rs2, (PstT.slot (PstT.N (Pst.later p (List.prefix_refl _) k'))).imp fun b H3 ⟨ρ3, ah3, S3, p3, k3, q3⟩ => ?_⟩
          cases b with
          | false =>
            exact iteF ⟨ρ3, ah3, pr.trans p3, kp.trans (k'.trans k3), by omega, S3, q3⟩
          | true =>
            have q3 : Pst (gO X tb) W σ ρ3 H3 Q ((mi1 s2 ah3).bindN fun it1 h4 => lc2In it1 ga1 mt1 me n (wipeA s2 vs1) (L k (i + 1)) it1.cnt 0 h4) := q3
            refine iteT ⟨ρ3, ah3, s2, S3, rs2.mono p3 k3, PstI.ofN q3 fun J1 H4 ρ4 ah4 it1 S4 p4 k4 R1 q4 => ?_⟩
            refine ⟨fun j k1 H => ∃ ρ ah, ρ4 <+: ρ ∧ Kept H4 H ∧ k1 + j = it1.cnt ∧ Sim (gO X tb) ρ ah H ∧ Pst (gO X tb) W σ ρ H Q (lc2In it1 ga1 mt1 me n (wipeA s2 vs1) (L k (i + 1)) k1 j ah), ⟨it1.cnt, ρ4, ah4, List.prefix_refl _, Kept.refl _, rfl, S4, q4⟩, ?_⟩
            rintro j k1 H5 ⟨ρ5, ah5, pr5, kp5, em5, S5, p5⟩
            have prD : ρ0 ++ [D] <+: ρ5 := pr.trans (p3.trans (p4.trans pr5))
            have kpD : Kept (upd H0 D (.lst [])) H5 := kp.trans (k'.trans (k3.trans (k4.trans kp5)))
            have rs5 : SRp X.K ρ5 H5 (wipeA s2 vs1) (L2.wipe σ2 vs1) := SRp.mono (p3.trans (p4.trans pr5)) (k3.trans (k4.trans kp5)) (rs2.wipe _)
            cases k1 with
            | zero =>
              unfold lc2In at p5
              split at p5
              · rename_i hf
                have ej : j = it1.cnt := by omega
                subst ej
                exact .inl ⟨R1.stop ρ5 ah5 H5 pr5 kp5 S5 hf, ρ5, ah5, prD, kpD, by omega, S5, p5⟩
              · exact p5.elim
            | succ k2 =>
              unfold lc2In at p5
              split at p5
              · exact p5.elim
              · rename_i v1 ev1
                split at p5
                · exact p5.elim
                · rename_i s3 es3
                  obtain ⟨r1, r2⟩ := R1.go j ρ5 ah5 H5 v1 (by omega) pr5 kp5 S5 ev1
                  refine .inr ⟨r1, fun H' => ∃ ρ ah, ρ4 <+: ρ ∧ Kept H4 H' ∧ k2 + (j + 1) = it1.cnt ∧ Sim (gO X tb) ρ ah H' ∧ Pst (gO X tb) W σ ρ H' Q (lc2In it1 ga1 mt1 me n (wipeA s2 vs1) (L k (i + 1)) k2 (j + 1) ah), fun H' h => ⟨k2, Nat.lt_succ_self k2, h⟩, fun x H' hy => ?_⟩
                  obtain ⟨S6, k6, r6⟩ := r2 x H' hy
                  refine hg1 v1 x _ _ s3 ρ5 H' _ r6 (rs5.mono (List.prefix_refl _) k6) es3 fun σ3 rs3 w3 => ⟨by rw [w3, wipe_wipe], ?_⟩
                  refine ⟨ρ5, ah5, s3, S6, rs3, (PstT.slot (PstT.N (Pst.later p5 (List.prefix_refl _) k6))).imp fun b H7 ⟨ρ7, ah7, S7, p7, k7, q7⟩ => ?_⟩
                  cases b with
                  | false =>
                    exact iteF ⟨ρ7, ah7, pr5.trans p7, kp5.trans (k6.trans k7), by omega, S7, q7⟩
                  | true =>
                    refine iteT ⟨ρ7, ah7, s3, S7, rs3.mono p7 k7, (Pst.slot (Pst.N q7)).imp fun y H8 ⟨ρ8, ah8, yv, S8, p8, k8, r8, q8⟩ => ?_⟩
                    split at q8
                    · rename_i acc eacc
                      split at q8
                      · rename_i hl
                        have hD8 : ρ8[n]? = some D := hDat (prD.trans (p7.trans p8))
                        obtain ⟨vs, hv, rv⟩ := S8.ob _ _ _ eacc hD8
                        obtain ⟨S9, k9⟩ := sim_set (ws := vs ++ [y]) (ys := acc ++ [yv]) S8 hD8 hv (rv.append (RpL.cons r8 RpL.nil))
                        exact ⟨vs, hv, by rw [← rv.length]; exact hl, ρ8, _, pr5.trans (p7.trans p8), kp5.trans (k6.trans (k7.trans (k8.trans k9))), by omega, S9, Pst.later q8 (List.prefix_refl _) k9⟩
                      · exact q8.elim
                    · exact q8.elim
theorem t_lc2 (hc : X.calm = true) (hN : X.N.Nodup) (hi : TriI X (gO X tb) W tg iter mi) (ok : BlkOk X.N X.env.scope scope own) {g g1 : TG} (hv : ∀ i ∈ vs1, i ∈ own.map (·.2))
    (hg : (∀ (s : Shared) (H : Hp) (C : Addr) (cl : List (Str × Addr)) (fp : List Addr), PG (X.blk s H scope (compEnvC scope cl C X.env) fp) tg g) ∧ ∀ v u σ sa sa' ρ H Q, Rp X.K ρ H v u → SRp X.K ρ H sa σ → ga v sa = some sa' → (∀ σ', SRp X.K ρ H sa' σ' → L2.wipe σ' (own.map (·.2)) = L2.wipe σ (own.map (·.2)) → Q σ' H) → g u σ H Q)
    (ht : ∀ (s : Shared) (H : Hp) (C : Addr) (cl : List (Str × Addr)) (fp : List Addr), TriPTs (X.blk s H scope (compEnvC scope cl C X.env) fp) (gO X tb) W0 ifs mt)
    (hi1 : ∀ (s : Shared) (H : Hp) (C : Addr) (cl : List (Str × Addr)) (fp : List Addr), TriI (X.blk s H scope (compEnvC scope cl C X.env) fp) (gO X tb) W0 tg1 iter1 mi1)
    (hg1 : (∀ (s : Shared) (H : Hp) (C : Addr) (cl : List (Str × Addr)) (fp : List Addr), PG (X.blk s H scope (compEnvC scope cl C X.env) fp) tg1 g1) ∧ ∀ v u σ sa sa' ρ H Q, Rp X.K ρ H v u → SRp X.K ρ H sa σ → ga1 v sa = some sa' → (∀ σ', SRp X.K ρ H sa' σ' → L2.wipe σ' vs1 = L2.wipe σ vs1 → Q σ' H) → g1 u σ H Q)
    (ht1 : ∀ (s : Shared) (H : Hp) (C : Addr) (cl : List (Str × Addr)) (fp : List Addr), TriPTs (X.blk s H scope (compEnvC scope cl C X.env) fp) (gO X tb) W0 ifs1 mt1)
    (he : ∀ (s : Shared) (H : Hp) (C : Addr) (cl : List (Str × Addr)) (fp : List Addr), Tri (X.blk s H scope (compEnvC scope cl C X.env) fp) (gO X tb) W0 elt me) (hs : ∀ x, foldedSetIterable iter X.env x = pure x := by intro _; rfl) (hs1 : ∀ env x, foldedSetIterable iter1 env x = pure x := by intro _ _; rfl) :
    Tri X (gO X tb) W (.ListComp elt [⟨tg, iter, ifs, 0⟩, ⟨tg1, iter1, ifs1, 0⟩] scope pos) (mLc2 mi ga mt mi1 ga1 mt1 me (own.map (·.2)) vs1) :=
  pe_weak (pe_lc2 hc hN hi ok hv hg.1 ht hi1 hg1.1 ht1 he hs hs1) fun σ H Q h => lc2_rel hg.2 hg1.2 h
theorem hg1_1 {x : Str} {p : Pos} (i : Nat) {vs : List Nat} (hN : X.N.Nodup) (hv : i ∈ vs := by decide) (hi : X.N[i]? = some x := by rfl)
    (hx : ∀ (C : Addr) (cl : List (Str × Addr)), (compEnvC scope cl C X.env).scope.names.lookup x = some .local := by intros; rfl) :
    (∀ (s : Shared) (H : Hp) (C : Addr) (cl : List (Str × Addr)) (fp : List Addr), PG (X.blk s H scope (compEnvC scope cl C X.env) fp) (.Name x p) (gName i)) ∧
    ∀ v u σ sa sa' ρ H Q, Rp X.K ρ H v u → SRp X.K ρ H sa σ → c1 i v sa = some sa' → (∀ σ', SRp X.K ρ H sa' σ' → L2.wipe σ' vs = L2.wipe σ vs → Q σ' H) → gName i u σ H Q :=
  ⟨fun s H C cl fp => pg_name hN hi (Or.inl (hx _ _)) (Or.inr (hx _ _)), fun v u σ sa sa' ρ H Q r rs e q => by
    cases e
    exact q _ (rs.set i r) (wipe_set hv)⟩
end
end Z

/-! zip of two lists, of two tuples -/
namespace Z
open PySem PySem.Spec PyProof.Rows L2
/-- zip of the n-th and the m-th object, ln and lm their lengths -/
def IT.zipL (n m ln lm : Nat) : IT := ⟨min ln lm, fun i ah => match lsA ah n, lsA ah m with
  | some xs, some ys => if xs.length = ln ∧ ys.length = lm then (match xs[i]?, ys[i]? with
    | some x, some y => some (.tup [x, y])
    | _, _ => none) else none
  | _, _ => none, fun ah => match lsA ah n, lsA ah m with
  | some xs, some ys => xs.length == ln && ys.length == lm
  | _, _ => false⟩
theorem itr_zipL {Γ : G} {ρ0 : List Addr} {H0 : Hp} {a b : Addr} {n m ln lm : Nat} (ea : ρ0[n]? = some a) (eb : ρ0[m]? = some b) : ItR Γ ρ0 H0 (Itz Γ.K a b) (IT.zipL n m ln lm) where
  go := fun i ρ ah H v hi pr kp S e => by
    have ea' := rho_at pr ea
    have eb' := rho_at pr eb
    simp only [IT.zipL] at e
    split at e
    · rename_i xs ys ex ey
      split at e
      · rename_i c
        split at e
        · rename_i x y e1 e2
          cases e
          obtain ⟨vs, hv, r⟩ := S.ob n _ a (lsA_of ex) ea'
          obtain ⟨us, hu, r2⟩ := S.ob m _ b (lsA_of ey) eb'
          obtain ⟨u, k1, r1⟩ := r.get e1
          obtain ⟨w, k2, r3⟩ := r2.get e2
          refine ⟨⟨vs, us, u, w, .inl (.inl hv), .inl (.inl hu), k1, k2⟩, fun z H' hy => ?_⟩
          obtain ⟨T, p, q, rfl, hT, rfl, f, f2⟩ := hy
          have h1 := f vs (.inl (.inl hv))
          have h2 := f2 us (.inl (.inl hu))
          rw [k1] at h1
          rw [k2] at h2
          cases h1
          cases h2
          exact ⟨S.beside hT, Kept.new hT, Rp.tup_.mpr ⟨T, _, rfl, .inl (.inl upd_same), RpL.cons (Rp.mono (List.prefix_refl _) (Kept.new hT) _ _ r1) (RpL.cons (Rp.mono (List.prefix_refl _) (Kept.new hT) _ _ r3) RpL.nil)⟩⟩
        · cases e
      · cases e
    · cases e
  stop := fun ρ ah H pr kp S hf => by
    have ea' := rho_at pr ea
    have eb' := rho_at pr eb
    simp only [IT.zipL] at hf
    split at hf
    · rename_i xs ys ex ey
      obtain ⟨vs, hv, r⟩ := S.ob n _ a (lsA_of ex) ea'
      obtain ⟨us, hu, r2⟩ := S.ob m _ b (lsA_of ey) eb'
      simp only [Bool.and_eq_true, beq_iff_eq] at hf
      have l1 := r.length
      have l2 := r2.length
      exact ⟨vs, us, .inl (.inl hv), .inl (.inl hu), by show vs.length ≤ min ln lm ∨ us.length ≤ min ln lm; omega⟩
    · cases hf
def IT.zipT (xs ys : List A) : IT := ⟨min xs.length ys.length, fun i _ => match xs[i]?, ys[i]? with
    | some x, some y => some (.tup [x, y])
    | _, _ => none, fun _ => true⟩
def mItZ (m n : ME) : MI := fun s h => (m s h).bind fun v h1 => (n s h1).bind fun u h2 => match v, u with
  | .ref a, .ref b => match lsA h2 a, lsA h2 b with
    | some xs, some ys => .ok (IT.zipL a b xs.length ys.length) h2
    | _, _ => .no
  | _, _ => .no
section
variable {X : Cx} {tb : Addr → Prop} {W : WX} {e e2 : Expr} {m n : ME} {p pos tpos : Pos} {elts : List Expr} {kk : Nat}
theorem ti_zip (hl : Tri X (gO X tb) W e m) (hl2 : Tri X (gO X tb) W e2 n) (hm : X.mg "zip" = none) (hg : Gl X "zip" := by rfl)
    (hs : starEach [e, e2] X.env = (false, eval e X.env) :: starEach [e2] X.env := by rfl) (hs2 : starEach [e2] X.env = (false, eval e2 X.env) :: starEach [] X.env := by rfl) (hpl : (backTo pos (starEach [e2] X.env)).any (·.1) = false := by rfl) : TriI X (gO X tb) W (.Tuple elts kk tpos) (.Call (.Name "zip" p) [e, e2] [] pos) (mItZ m n) := by
  refine pi_weak (pi_zip hg hm (pa_cons hl (pa_cons hl2 pa_nil hs2) hs) hs hpl) fun σ H Q ⟨ρ, ah, sa, S, rs, p⟩ => ?_
  refine ⟨ρ, ah, sa, S, rs, p.ofE.imp fun u H1 ⟨ρ1, ah1, v, S1, p1, k1, r1, q1⟩ => ?_⟩
  refine ⟨ρ1, ah1, sa, S1, rs.mono p1 k1, q1.ofE.imp fun w H2 ⟨ρ2, ah2, v2, S2, p2, k2, r2, q2⟩ => ?_⟩
  have r1 := Rp.mono p2 k2 _ _ r1
  cases v with
  | ref na =>
    cases v2 with
    | ref nb =>
      rw [Rp.ref_] at r1 r2
      obtain ⟨x, rfl, ex⟩ := r1
      obtain ⟨y, rfl, ey⟩ := r2
      dsimp only at q2
      split at q2
      · rename_i xs ys e1 e2
        obtain ⟨vs, hv, r⟩ := S2.ob na _ x (lsA_of e1) ex
        obtain ⟨us, hu, r'⟩ := S2.ob nb _ y (lsA_of e2) ey
        exact ⟨x, y, vs, us, rfl, .inl (.inl hv), .inl (.inl hu), q2 ρ2 H2 _ S2 (List.prefix_refl _) (Kept.refl _) (itr_zipL ex ey)⟩
      · exact q2.elim
    | _ => exact q2.elim
  | _ => exact q2.elim
end
end Z

/-! a new list: of a text's signs; of a list read backwards -/
namespace Z
open PySem PySem.Spec PyProof.Rows L2
theorem vals_by : ∀ (xs : List V) (its : List Value), xs.length = its.length → (∀ (i : Nat) (x : V) (v : Value), xs[i]? = some x → its[i]? = some v → RelV x v) → Vals xs its
  | [], [], _, _ => .nil
  | x :: xs, v :: its, e, f => .cons (f 0 x v rfl rfl) (vals_by xs its (by simpa using e) fun i x v a b => f (i + 1) x v (by simpa using a) (by simpa using b))
  | [], _ :: _, e, _ => by cases e
  | _ :: _, [], e, _ => by cases e
def sgV (z : Str) : List V := z.cps.toList.map fun c => V.str ⟨#[c]⟩
theorem sgV_vals {z : Str} {acc : Array Value} (h : ItemsOf (SignAt z) acc z.cps.size) : Vals (sgV z) acc.toList := by
  refine vals_by _ _ (by unfold sgV; rw [List.length_map, Array.length_toList, Array.length_toList, h.1]) fun i x v a b => ?_
  obtain ⟨c, u, e1, rfl⟩ := h.2 i v (by rw [← Array.getElem?_toList]; exact b)
  unfold sgV at a
  rw [List.getElem?_map, Array.getElem?_toList, e1] at a
  cases a
  exact ⟨u, rfl⟩
/-- list(z) -/
theorem call_listZ {X : Cx} (hc : X.calm = true) : CallR X (.type "list") (fun xs H Q => ∃ z, xs = [.str z] ∧ z.length ≤ sizeLine ∧ ∀ l, H l = none → Q (.ref l) (upd H l (.lst (sgV z)))) := by
  intro pins sh σ H xs us Q inv rel pre
  obtain ⟨z, rfl, short, post⟩ := pre
  obtain ⟨_, rfl, t, rfl⟩ := vals1 rel
  refine call_list_str (hn := short) (inv.ok.hd hc) z t fun hp tk acc cap keep new items => ?_
  have vals := sgV_vals items
  have len : (sgV z).length ≤ sizeLine := by unfold sgV; rw [List.length_map, Array.length_toList]; exact short
  refine ⟨.ref sh.heap.objs.size, _, inv.laid (t' := tk) keep (Nat.le_refl _) (show ObjOk X.prog X.w _ hp _ (.lst (sgV z)) from ⟨len, acc.toList, cap, vals, ?_⟩), rfl, post _ (inv.hok.fresh (Nat.le_refl _))⟩
  rw [Array.toArray_toList]
  exact new
/-! list(reversed(a list)) -/
section
variable {prog : Program} {w : World} {A : Around} {E : Value → Shared → Prop} {s : Shared}
theorem call_list_back {J L : Addr} {its : Array Value} {Q : Value → Shared → Prop} (calm : A.handled = none) (hJ : s.heap.IsRevIter J L ((its.size : Int) - 1)) (hL : s.heap.IsList L its) (ne : L ≠ J) (few : its.size ≤ sizeLine)
    (done : ∀ (hp : Heap) (tk : Nat) (acc : Array Value) (cap : Nat), (∀ b o, b ≠ J → s.heap.get? b = some o → hp.get? b = some o) → hp.get? s.heap.objs.size = some { cls := .type "list", dict := none, data := .seq acc cap, slots := #[] } →
      ItemsOf (fun i v => its[its.size - 1 - i]? = some v) acc its.size → Q (.ref s.heap.objs.size) { s with heap := hp, toks := tk }) :
    wpAny (model prog w) A (call (.type "list") [.ref J]) Q E s := by
  have walks := (Walks.listRev (prog := prog) (w := w) (A := A.in1.in1) calm J L ne its).toS
  obtain ⟨oJ, atJ, _⟩ := id hJ
  obtain ⟨oL, atL, _⟩ := id hL
  have nJ : s.heap.objs.size ≠ J := Nat.ne_of_gt (Heap.lt_size atJ)
  have nL : s.heap.objs.size ≠ L := Nat.ne_of_gt (Heap.lt_size atL)
  have fresh : s.heap.objs.size ∉ [J, L] := by
    intro m
    rcases List.mem_cons.mp m with e | m
    · exact nJ e
    · exact nL (List.mem_singleton.mp m)
  refine callType_codes (Q₁ := fun ob sB => ob = .ref s.heap.objs.size ∧ sB = { s with heap := s.heap.push { cls := .type "list", data := .seq #[] } })
    F.called_list (F.typeCall_list_1 _) F.entry_list_init (code_list_new _ ⟨rfl, rfl⟩) fun ob sB both => ?_
  obtain ⟨rfl, rfl⟩ := both
  have here : (s.heap.push { cls := .type "list", data := .seq #[] }).get? s.heap.objs.size = some { cls := .type "list", data := .seq #[] } := Heap.get?_push_size _ rfl
  refine ⟨⟨_, here, rfl⟩, F.args_list_init_2 _ _, ?_⟩
  show wpAny _ _ (Builtin.List.listItems (.ref s.heap.objs.size) >>= fun old => Builtin.List.listUpdate (.ref s.heap.objs.size) (fun _ => #[]) >>= fun _ => letGo old.toList.reverse >>= fun _ => Builtin.List.listExtendWith (.ref s.heap.objs.size) (.ref J) .none) _ _ _
  refine wpAny_bind ?_
  unfold Builtin.List.listItems
  refine wpAny_bind (wpAny_seqItems here rfl (wpAny_pure ?_))
  show wpAny _ _ (updateSeq s.heap.objs.size (fun _ => #[]) >>= fun _ => letGo (#[] : Array Value).toList.reverse >>= fun _ => Builtin.List.listExtendWith (.ref s.heap.objs.size) (.ref J) .none) _ _ _
  refine wpAny_bind (wpAny_updateSeq here rfl ?_)
  have there := Heap.get?_update_self (Obj.mapSeq (fun _ => (#[] : Array Value))) here rfl
  refine wpAny_bind (wpAny_letGo ?_)
  have oth : ∀ b o, s.heap.get? b = some o → ((s.heap.push { cls := .type "list", data := .seq #[] }).update s.heap.objs.size (Obj.mapSeq (fun _ => (#[] : Array Value)))).get? b = some o := fun b o e =>
    (Heap.get?_update_other _ _ (Nat.ne_of_gt (Heap.lt_size e))).trans (Heap.get?_push_of_some _ e)
  generalize (s.heap.push { cls := .type "list", data := .seq #[] }).update s.heap.objs.size (Obj.mapSeq (fun _ => (#[] : Array Value))) = hB at there oth
  have hJ2 : hB.IsRevIter J L ((its.size : Int) - 1) := hJ.at fun o e => oth _ _ e
  have hL2 : hB.IsList L its := by
    obtain ⟨o, e, r⟩ := hL
    exact ⟨o, oth _ _ e, r⟩
  have ty : ({ s with heap := hB } : Shared).TypeIs (.ref J) "list_reverseiterator" := Heap.IsRevIter.typeIs (s := { s with heap := hB }) hJ2
  have other : Builtin.List.listSameRef (.ref s.heap.objs.size) (.ref J) = false := by simp [Builtin.List.listSameRef, nJ]
  unfold Builtin.List.listExtendWith
  refine wpAny_bind (wpAny_typeOf ty ?_)
  rw [if_neg (by rw [other]; decide)]
  refine wpAny_bind (wpAny_pyIter_revIter (s := { s with heap := hB }) hJ2 ?_)
  refine wpAny_bind (wpAny_holding ?_)
  unfold Builtin.List.listLengthHint
  refine wpAny_bind (wpAny_specialOf ty RT.nolen_lri ?_)
  show wpAny _ _ (specialOf (Value.ref J) (Str.ofString "__length_hint__") >>= _) _ _ _
  refine wpAny_bind (wpAny_specialOf ty RT.hint_lri ?_)
  generalize hid : ("list_reverseiterator.__length_hint__" : String) = hint
  wp_delta
  rw [show splitId hint = some ("list_reverseiterator", "__length_hint__") from by subst hid; decide +kernel]
  subst hid
  refine wpAny_bind (wpAny_isInstance (b := true) ty (by rw [isSubtype_type]; kernel_rfl) ?_)
  refine wpAny_pure ?_
  rw [if_neg (by decide)]
  have e0 : ((its.size : Nat) : Int) - 1 - ((0 : Nat) : Int) = (its.size : Int) - 1 := by omega
  refine wpAny_pure ⟨plainId_quiet F.plain_extend_loop _, codeAny_extend_loopS walks few _ fresh _ its.size 0 _ _ _ rfl (Nat.zero_le _) ⟨Nat.zero_le _, by rw [e0]; exact hJ2, hL2⟩ there (ItemsOf.nil _) fun sC acc cap moved new items => ?_⟩
  refine ⟨rfl, ?_⟩
  rw [Moved.eq_with moved]
  refine done sC.heap sC.toks acc cap (fun b o nb e => moved.heap b o (fun m => ?_) (oth _ _ e)) new items
  rcases List.mem_cons.mp m with q | m
  · exact Nat.ne_of_lt (Heap.lt_size e) q
  · exact nb (List.mem_singleton.mp m)
end
/-- list(reversed(x)), x a list -/
def tLstRev (K : PySem.W.Frag) (te : TE) : TE := fun σ H Q => te σ H fun v H1 => ∃ (a : Addr) (xs : List V), v = .ref a ∧ SqL K H1 a xs ∧ ∀ q, H1 q = none → Q (.ref q) (upd H1 q (.lst xs.reverse))
section
variable {X : Cx} {tb : Addr → Prop} {W : WX}
theorem pe_listRev {e : Expr} {te : TE} {p p2 pos pos2 : Pos} (calm : X.calm = true) (gl : Gl X "list") (no : X.mg "list" = none) (gr : Gl X "reversed") (nr_ : X.mg "reversed" = none) (he : PE X e te)
    (one : starEach [e] X.env = (false, eval e X.env) :: starEach [] X.env := by rfl)
    (two : starEach [.Call (.Name "reversed" p2) [e] [] pos2] X.env = (false, eval (.Call (.Name "reversed" p2) [e] [] pos2) X.env) :: starEach [] X.env := by rfl) :
    PE X (.Call (.Name "list" p) [.Call (.Name "reversed" p2) [e] [] pos2] [] pos) (tLstRev X.K te) := by
  constructor
  intro pins sh σ H Q inv pre
  refine Call_ (ld_blt inv gl no boot_list (PyProof.Rows.callWith_type1 (args_cons (Call_ (ld_blt inv gr nr_ PyProof.Rows.boot_reversed
    (PyProof.Rows.callWith_type1 (args_cons (thn (he.run pins sh σ H _ inv pre) fun val sA ⟨v, HA, invA, rel, post⟩ => args_nil ?_) one) one rfl))) two) two rfl))
  obtain ⟨L, xs, rfl, sq, post⟩ := post
  obtain rfl : val = Value.ref L := rel
  obtain ⟨its, vs, isL, few⟩ := invA.list sq
  refine call_reversed_list isL.isList (args_nil ?_)
  have keep : ∀ b o, sA.heap.get? b = some o → (sA.heap.push (revObj L ((its.toArray.size : Int) - 1))).get? b = some o := fun b o e => Heap.get?_push_of_some _ e
  have invB : Inv X pins σ HA { sA with heap := sA.heap.push (revObj L ((its.toArray.size : Int) - 1)) } := invA.kept (t' := sA.toks) keep
  obtain ⟨f0, f1, f2, f3, f4, f5⟩ := invA.fpOk (H' := HA) (b := sA.heap.objs.size) (Nat.le_refl _) (invA.hok.fresh (Nat.le_refl _))
  obtain ⟨oL, atL, _⟩ := id isL.isList
  have ne : L ≠ sA.heap.objs.size := Nat.ne_of_lt (Heap.lt_size atL)
  have short : its.toArray.size ≤ sizeLine := by rw [List.size_toArray, ← vs.length]; exact few
  refine call_list_back (s := { sA with heap := sA.heap.push (revObj L ((its.toArray.size : Int) - 1)) }) (invB.ok.hd calm) ⟨_, Heap.get?_push_size _ rfl, rfl, rfl⟩ (isL.isList.push _) ne short fun hp tk acc cap stay new items => ?_
  have stay' : ∀ b o, b ≠ sA.heap.objs.size → (sA.heap.push (revObj L ((its.toArray.size : Int) - 1))).get? b = some o → hp.get? b = some o := stay
  have grown : sA.heap.objs.size ≤ (sA.heap.push (revObj L ((its.toArray.size : Int) - 1))).objs.size := by rw [Heap.size_push]; exact Nat.le_succ _
  have back := RT.vals_rev vs items
  refine ⟨.ref _, _, invA.laid (t' := tk) (o := .lst xs.reverse) (fun b o e => stay' b o (Nat.ne_of_lt (Heap.lt_size e)) (keep b o e)) grown (show ObjOk X.prog X.w _ hp _ (.lst xs.reverse) from ⟨by rw [List.length_reverse]; exact few, acc.toList, cap, back, ?_⟩), rfl, post _ (invA.hok.fresh grown)⟩
  rw [Array.toArray_toList]
  exact new
def bListZ : List A → Mo A
  | [.str z] => fun ah => if z.length ≤ sizeLine then .ok (.ref ah.length) (ah ++ [.lst (z.cps.toList.map fun c => A.str ⟨#[c]⟩)]) else .no
  | _ => fun _ => .no
theorem rpL_sg {K : PySem.W.Frag} {ρ : List Addr} {H : Hp} : ∀ l : List Nat, RpL K ρ H (l.map fun c => A.str ⟨#[c]⟩) (l.map fun c => V.str ⟨#[c]⟩)
  | [] => RpL.nil
  | c :: l => RpL.cons (Rp.str_.mpr rfl) (rpL_sg l)
theorem b_listZ (hc : X.calm = true) : CallM X (gO X tb) W (.type "list") bListZ := ⟨_, call_listZ hc, fun σ vs ah ρ H us Q S r p => by
  unfold bListZ at p
  split at p
  · rename_i z
    obtain ⟨u, rfl, r1⟩ := r.one
    rw [Rp.str_] at r1
    subst r1
    split at p
    · rename_i c
      exact ⟨z, rfl, c, fun l nl => Pst.lst p S nl (rpL_sg _)⟩
    · exact p.elim
  · exact p.elim⟩
def mLstRev (m : ME) : ME := fun s h => (m s h).bind fun v h1 => match v with
  | .ref n => match lsA h1 n with
    | some xs => .ok (.ref h1.length) (h1 ++ [.lst xs.reverse])
    | none => .no
  | _ => .no
theorem rpL_rev {K : PySem.W.Frag} {ρ : List Addr} {H : Hp} : ∀ {xs : List A} {vs : List V}, RpL K ρ H xs vs → RpL K ρ H xs.reverse vs.reverse
  | [], vs, h => by simp only [RpL] at h; subst h; exact RpL.nil
  | x :: xs, vs, h => by
    simp only [RpL] at h
    obtain ⟨v, vs', rfl, r, h⟩ := h
    rw [List.reverse_cons, List.reverse_cons]
    exact (rpL_rev h).append (RpL.cons r RpL.nil)
theorem t_listRev {e : Expr} {m : ME} {p p2 pos pos2 : Pos} (hc : X.calm = true) (he : Tri X (gO X tb) W e m) (hm : X.mg "list" = none) (hm2 : X.mg "reversed" = none) (hg : Gl X "list" := by rfl) (hg2 : Gl X "reversed" := by rfl)
    (one : starEach [e] X.env = (false, eval e X.env) :: starEach [] X.env := by rfl)
    (two : starEach [.Call (.Name "reversed" p2) [e] [] pos2] X.env = (false, eval (.Call (.Name "reversed" p2) [e] [] pos2) X.env) :: starEach [] X.env := by rfl) :
    Tri X (gO X tb) W (.Call (.Name "list" p) [.Call (.Name "reversed" p2) [e] [] pos2] [] pos) (mLstRev m) := by
  refine pe_weak (pe_listRev hc hg hm hg2 hm2 he one two) fun σ H Q ⟨ρ, ah, sa, S, rs, p⟩ => ?_
  refine ⟨ρ, ah, sa, S, rs, p.bind.imp fun u H1 ⟨ρ1, ah1, v, S1, p1, k1, r1, q1⟩ => ?_⟩
  cases v with
  | ref n =>
    rw [Rp.ref_] at r1
    obtain ⟨a, rfl, ea⟩ := r1
    dsimp only at q1
    split at q1
    · rename_i xs ex
      obtain ⟨vs, sq, r⟩ := sim_seq S1 (lsA_of ex) ea
      exact ⟨a, vs, rfl, sq, fun q nq => Pst.lst q1 S1 nq (rpL_rev r)⟩
    · exact q1.elim
  | _ => exact q1.elim
end
end Z

/-! all and any over generators with two loops -/
namespace Z
open PySem PySem.Spec PyProof.Rows L2 GenW
section
variable (elt t0 i0 t1 i1 : Expr) (ifs0 ifs1 : List Expr) (scope : Scope) (pos : Pos)
abbrev gen2 : Expr := .GeneratorExp elt [⟨t0, i0, ifs0, 0⟩, ⟨t1, i1, ifs1, 0⟩] scope pos
theorem g2_out (it acc : Value) (env : Env) : compTurn (gen2 elt t0 i0 t1 i1 ifs0 ifs1 scope pos) 0 it acc env = (do
    standAt i0.pos
    match ← pyNext it with
    | none => pure (.done .next)
    | some v => do
      letOwnedTupleGo t0 it v
      assign t0 env v
      let mut more := true
      for c in ifs0 do
        if more then more ← isTrue c env (eval c env)
      if more then
        let x ← eval i1 env
        standAt i1.pos
        let x ← foldedSetIterable i1 env x
        let _ ← runOwn (.compStart (gen2 elt t0 i0 t1 i1 ifs0 ifs1 scope pos) 1 (← holding [x] (pyIter x)) acc env) env
      again (.compLoop (gen2 elt t0 i0 t1 i1 ifs0 ifs1 scope pos) 0 it acc env)) := by rfl
theorem g2_in (it acc : Value) (env : Env) : compTurn (gen2 elt t0 i0 t1 i1 ifs0 ifs1 scope pos) 1 it acc env = (do
    standAt i1.pos
    match ← pyNext it with
    | none => pure (.done .next)
    | some v => do
      letOwnedTupleGo t1 it v
      assign t1 env v
      let mut more := true
      for c in ifs1 do
        if more then more ← isTrue c env (eval c env)
      if more then
        (do let v ← eval elt env; standAt elt.pos; let _ ← yieldOut env v)
      again (.compLoop (gen2 elt t0 i0 t1 i1 ifs0 ifs1 scope pos) 1 it acc env)) := by rfl
end
section
variable {A : Around} {elt t0 i0 t1 i1 : Expr} {ifs0 ifs1 : List Expr} {scope : Scope} {pos p : Pos} {it it1 acc acc1 : Value} {env : Env} {k : Result → Sem Fin} {l kp : List Value}
theorem over_2o : A.over (.compLoop (gen2 elt t0 i0 t1 i1 ifs0 ifs1 scope pos) 0 it acc env) [] = A.deeper env := over_gx
theorem over_2s : A.over (.compStart (gen2 elt t0 i0 t1 i1 ifs0 ifs1 scope pos) 0 it acc env) [] = A.deeper env := over_gs
theorem over_2i : A.over (.compLoop (gen2 elt t0 i0 t1 i1 ifs0 ifs1 scope pos) 1 it1 acc1 env) [.ret k none false l (.compLoop (gen2 elt t0 i0 t1 i1 ifs0 ifs1 scope pos) 0 it acc env) p kp] = A.deeper env := by
  first
    | rfl
    | (obtain ⟨hd, d, fr, gs, u⟩ := A; simp [Around.over, Around.deeper, marksOver, frameCount, unitsOf, envsOf, guardsOf, pushEnvs, pushGuards, Code.envs, Code.env?, Code.isFrame, Code.guards, Code.isGuard, Code.weight, Code.frames, Code.isCreation, Code.isCaller, Code.cUnits, Frame.where_, Frame.marks, markOver])
theorem over_2j : A.over (.compStart (gen2 elt t0 i0 t1 i1 ifs0 ifs1 scope pos) 1 it1 acc1 env) [.ret k none false l (.compLoop (gen2 elt t0 i0 t1 i1 ifs0 ifs1 scope pos) 0 it acc env) p kp] = A.deeper env := by
  first
    | rfl
    | (obtain ⟨hd, d, fr, gs, u⟩ := A; simp [Around.over, Around.deeper, marksOver, frameCount, unitsOf, envsOf, guardsOf, pushEnvs, pushGuards, Code.envs, Code.env?, Code.isFrame, Code.guards, Code.isGuard, Code.weight, Code.frames, Code.isCreation, Code.isCaller, Code.cUnits, Frame.where_, Frame.marks, markOver])
end
/-- whether it goes on behind an item -/
abbrev goOn : Nat → Nat → Hp → Prop := fun _ i _ => i = 1
/-- the turns of the inner loop -/
def GTurnI (d : Bool) (J1 : It) (g1 : TG) (tt1 : TT) (te : TE) (vs1 : List Nat) (σb : L2.St) (W1 : Nat → Nat → Hp → Prop) (Fl : Hp → Prop) (NxK : Nat → Hp → Prop) : Prop :=
  ∀ K j H, W1 K j H → ∃ K', K = K' + 1 ∧ ((J1.stop j H ∧ NxK K' H) ∨ (J1.go j H ∧ ∀ x H', J1.yld j H x H' → g1 x σb H' fun σ3 H5 => L2.wipe σ3 vs1 = σb ∧ tt1 σ3 H5 fun b H6 =>
    if b = true then te σ3 H6 fun y H7 => ∃ c, y = .bl c ∧ (c = d → W1 K' (j + 1) H7) ∧ (c = !d → Fl H7) else W1 K' (j + 1) H6))
section
variable {Xg : Cx} {A : Around} {elt t0 i0 t1 i1 : Expr} {ifs0 ifs1 : List Expr} {scope : Scope} {pos p : Pos} {it acc : Value} {k : Result → Sem Fin} {l kp : List Value} {d : Bool} {End Fl : Hp → Prop}
theorem gx2_inner {p0 : List (Addr × Obj)} {it1 : Addr} {fp1 : List Addr} {tn1 : Nat → Heap → Prop} {J1 : It} {g1 : TG} {tt1 : TT} {te : TE} {vs1 : List Nat} {σb : L2.St} {W1 : Nat → Nat → Hp → Prop} {NxK : Nat → Hp → Prop}
    (hov : A.deeper Xg.env = Xg.A) (hc : Xg.calm = true) (hxe : ∀ e s, ¬ Xg.xe e s) (hco : Xg.env.scope.isCoroutine = false) (T : Turn Xg.prog Xg.w Xg.K t1 J1 fp1 it1 tn1) (hg : PG Xg t1 g1) (ht : PTs Xg ifs1 tt1) (he : PE Xg elt te)
    (turn : GTurnI d J1 g1 tt1 te vs1 σb W1 Fl NxK)
    (hend : ∀ K n H s₀ s, K ≤ n → NxK K H → Inv Xg p0 σb H s → Seg (model Xg.prog Xg.w) A (fun n s₀ r s₁ => r = .ok .next ∧ GXE Xg End n s₀ s₁) (GXY Xg goOn (YB d goOn Fl)) n s₀ (.compLoop (gen2 elt t0 i0 t1 i1 ifs0 ifs1 scope pos) 0 it acc Xg.env) (k (.ok .next)) [] s) :
    ∀ (K n j : Nat) (H : Hp) (s₀ s : Shared), K ≤ n → W1 K j H → Inv Xg p0 σb H s → tn1 j s.heap → (∀ b ∈ fp1, FpOk Xg p0 H b) →
      Seg (model Xg.prog Xg.w) A (fun n s₀ r s₁ => r = .ok .next ∧ GXE Xg End n s₀ s₁) (GXY Xg goOn (YB d goOn Fl)) n s₀ (.compLoop (gen2 elt t0 i0 t1 i1 ifs0 ifs1 scope pos) 1 (.ref it1) acc Xg.env)
        ((model Xg.prog Xg.w).den (.compLoop (gen2 elt t0 i0 t1 i1 ifs0 ifs1 scope pos) 1 (.ref it1) acc Xg.env)) [.ret k none false l (.compLoop (gen2 elt t0 i0 t1 i1 ifs0 ifs1 scope pos) 0 it acc Xg.env) p kp] s := by
  intro K
  induction K with
  | zero =>
    intro n j H s₀ s hk w
    obtain ⟨K', e, _⟩ := turn 0 j H w
    cases e
  | succ K ih =>
    intro n j H s₀ s hk w I st f
    obtain ⟨n, rfl⟩ : ∃ m, n = m + 1 := ⟨n - 1, by omega⟩
    obtain ⟨K', e, w⟩ := turn (K + 1) j H w
    obtain rfl : K = K' := by omega
    show Seg _ A _ _ _ s₀ _ ((compTurn (gen2 elt t0 i0 t1 i1 ifs0 ifs1 scope pos) 1 (.ref it1) acc Xg.env).onRaise (fun x => do noteFrame x Xg.env; theTreesLotGoes x)) _ s
    rw [g2_in, Sem.onRaise_eq_wrap]
    refine seg_bind_wrap (wpAny_standAt ?_)
    have stat : ∀ {H' : Hp}, (∀ b ∈ fp1, H' b = none) → ∀ b ∈ fp1, FpOk Xg p0 H' b := fun hn b hb => ⟨hn b hb, (f b hb).2⟩
    rcases w with ⟨stop, nx⟩ | ⟨go, step⟩
    · refine seg_bind_wrap ?_
      rw [over_2i, hov]
      refine wpAny_mono (T.done Xg rfl rfl rfl hc j _ s σb H (fun _ _ => False) I f st stop) (fun r s1 hr => ?_) fun _ _ z => z.elim
      obtain ⟨rfl, I1⟩ := hr
      exact seg_leaf (.ok .next) (hend K (n + 1) H s₀ s1 (by omega) nx I1)
    · refine seg_bind_wrap ?_
      rw [over_2i, hov]
      refine wpAny_mono (T.item Xg rfl rfl rfl hc j _ s σb H (fun _ _ => False) I f st go) (fun r s1 hr => ?_) fun _ _ z => z.elim
      obtain ⟨u, rfl, h4⟩ := hr
      refine seg_bind_wrap ?_
      rw [over_2i, hov]
      refine wpAny_mono h4 (fun _ s2 hs2 => ?_) fun _ _ z => z.elim
      obtain ⟨x, H2, I2, r2, y2, st2, fr2⟩ := hs2
      have I2' := I2.pinned (stat fr2) (T.obj _ _ st2)
      refine seg_bind_wrap ?_
      rw [over_2i, hov]
      refine wpAny_mono (hg.run _ s2 σb H2 x u _ I2' r2 (step x H2 y2)) (fun _ s3 hs3 => ?_) fun _ _ z => (hxe _ _ z).elim
      obtain ⟨σ3, H3, I3, hw3, q3⟩ := hs3
      refine seg_bind_wrap ?_
      rw [over_2i, hov]
      refine wpAny_mono (ht.run _ s3 σ3 H3 _ I3 q3) (fun b s4 hs4 => ?_) fun _ _ z => (hxe _ _ z).elim
      obtain ⟨H4, I4, q4⟩ := hs4
      have on : ∀ {H5 : Hp} {s5 : Shared}, Inv Xg (p0 ++ pinsAt fp1 s2.heap) σ3 H5 s5 → Inv Xg p0 σb H5 s5 ∧ tn1 (j + 1) s5.heap ∧ ∀ b ∈ fp1, FpOk Xg p0 H5 b := fun {H5 s5} I5 => by
        refine ⟨by rw [← hw3]; exact inv_wipe I5.unpinned vs1, T.keep _ _ _ st2 fun b hb o e => (I5.pin (b, o) (List.mem_append_right _ (List.mem_append_right _ (mem_pinsAt hb e)))).1, stat fun b hb => ?_⟩
        obtain ⟨o, e, _⟩ := T.obj _ _ st2 b hb
        exact (I5.pin (b, o) (List.mem_append_right _ (List.mem_append_right _ (mem_pinsAt hb e)))).2.1
      cases b with
      | false =>
        obtain ⟨a1, a2, a3⟩ := on I4
        have q4 : W1 K (j + 1) H4 := q4
        simp only [Bool.false_eq_true, if_false]
        exact seg_again rfl (ih _ _ _ _ _ (by omega) q4 a1 a2 a3)
      | true =>
        have q4 : te σ3 H4 fun y H7 => ∃ c, y = .bl c ∧ (c = d → W1 K (j + 1) H7) ∧ (c = !d → Fl H7) := q4
        simp only [if_true]
        have hy : ∀ v, yieldOut Xg.env v = yieldValue v := fun v => by simp only [yieldOut, hco, Bool.false_eq_true, if_false]
        simp only [hy]
        rw [Sem.bind_eq_wrap', Sem.bind_eq_wrap', Sem.wrap_wrap, Sem.wrap_wrap]
        refine seg_wrap ?_
        rw [over_2i, hov]
        refine wpAny_mono (he.run _ s4 σ3 H4 _ I4 q4) (fun v s5 hs5 => ?_) fun _ _ z => (hxe _ _ z).elim
        obtain ⟨y, H5, I5, r5, c, rfl, q5, q6⟩ := hs5
        obtain ⟨a1, a2, a3⟩ := on I5
        have b1 : Inv Xg [] σb H5 s5 := a1.unpinned (pins := [])
        refine seg_at (seg_yield rfl rfl rfl ⟨K, if c = d then 1 else 0, .bl c, σb, H5, by omega, r5, b1, ⟨c, rfl, fun e => if_pos e, q6⟩, fun w5 s' ho hb hk5 => ?_⟩)
        have ec : c = d := by
          by_cases e : c = d
          · exact e
          · have w5 : (if c = d then 1 else 0) = 1 := w5
            rw [if_neg e] at w5
            cases w5
        have J5 : Inv Xg p0 σb H5 s' := a1.call' (ch := []) ho (Un.kept hk5) (a1.hok.kept hk5) hb fun b z => absurd z (by simp)
        exact seg_again rfl (ih _ _ _ _ _ (by omega) (q5 ec) J5 (T.keep _ _ _ a2 fun b _ o e => hk5 b o e) a3)
theorem gx2_enter {fs : List Frame} {R : GenEnd} {Y : Protocol} {n : Nat} {s₀ s : Shared} {it1 : Addr} {fp1 : List Addr} {tn1 : Nat → Heap → Prop} {J1 : It} (T : Turn Xg.prog Xg.w Xg.K t1 J1 fp1 it1 tn1) (st : tn1 0 s.heap)
    (loop : Seg (model Xg.prog Xg.w) A R Y n s₀ (.compLoop (gen2 elt t0 i0 t1 i1 ifs0 ifs1 scope pos) 1 (.ref it1) acc Xg.env) ((model Xg.prog Xg.w).den (.compLoop (gen2 elt t0 i0 t1 i1 ifs0 ifs1 scope pos) 1 (.ref it1) acc Xg.env)) fs s) :
    Seg (model Xg.prog Xg.w) A R Y n s₀ (.compStart (gen2 elt t0 i0 t1 i1 ifs0 ifs1 scope pos) 1 (.ref it1) acc Xg.env) ((model Xg.prog Xg.w).den (.compStart (gen2 elt t0 i0 t1 i1 ifs0 ifs1 scope pos) 1 (.ref it1) acc Xg.env)) fs s := by
  show Seg _ A _ _ _ s₀ _ ((compStart (gen2 elt t0 i0 t1 i1 ifs0 ifs1 scope pos) 1 (.ref it1) acc Xg.env).onRaise (fun x => do noteFrame x Xg.env; standAt theWindowsPlace)) fs s
  unfold compStart
  rw [Sem.onRaise_eq_wrap]
  show Seg _ A _ _ _ s₀ _ ((ask >>= _).wrap _ _ _ _) fs s
  refine seg_bind_wrap (wpAny_askSetting ?_)
  split
  · exact seg_again rfl loop
  · refine seg_bind_wrap (wpAny_rule ?_)
    show Seg _ A _ _ _ s₀ _ ((standAt i1.pos >>= _).wrap _ _ _ _) fs s
    exact seg_bind_wrap (wpAny_standAt (seg_bind_wrap (T.self _ 0 s _ _ st (seg_again rfl loop))))
/-- the turns of the outer loop -/
def GTurnO (d : Bool) (J : It) (g : TG) (tt : TT) (wi1 : TI) (g1 : TG) (tt1 : TT) (te : TE) (vs vs1 : List Nat) (σw : L2.St) (W : Nat → Nat → Hp → Prop) (Fl End : Hp → Prop) : Prop :=
  ∀ K i H, W K i H → ∃ K', K = K' + 1 ∧ ((J.stop i H ∧ End H) ∨ (J.go i H ∧ ∀ x H', J.yld i H x H' → g x σw H' fun σ1 H1 => L2.wipe σ1 vs = σw ∧ tt σ1 H1 fun b H2 =>
    if b = true then wi1 σ1 H2 fun J1 H3 => ∃ W1 : Nat → Nat → Hp → Prop, W1 K' 0 H3 ∧ GTurnI d J1 g1 tt1 te vs1 (L2.wipe σ1 vs1) W1 Fl (fun K2 H => K2 ≤ K' ∧ W K2 (i + 1) H) else W K' (i + 1) H2))
theorem gx2_loop {it0 : Addr} {fp : List Addr} {tn : Nat → Heap → Prop} {J : It} {g g1 : TG} {tt tt1 : TT} {wi1 : TI} {te : TE} {vs vs1 : List Nat} {σw : L2.St} {W : Nat → Nat → Hp → Prop}
    (hov : A.deeper Xg.env = Xg.A) (hc : Xg.calm = true) (hxe : ∀ e s, ¬ Xg.xe e s) (hco : Xg.env.scope.isCoroutine = false) (T : Turn Xg.prog Xg.w Xg.K t0 J fp it0 tn) (hv : ∀ i ∈ vs1, i ∈ vs) (hg : PG Xg t0 g) (ht : PTs Xg ifs0 tt) (hi1 : PI Xg t1 i1 wi1) (hg1 : PG Xg t1 g1) (ht1 : PTs Xg ifs1 tt1) (he : PE Xg elt te)
    (hs1 : ∀ env x, foldedSetIterable i1 env x = pure x) (turn : GTurnO d J g tt wi1 g1 tt1 te vs vs1 σw W Fl End) :
    ∀ (K n i : Nat) (H : Hp) (s₀ s : Shared), K ≤ n → W K i H → Inv Xg [] σw H s → tn i s.heap → (∀ b ∈ fp, FpOk Xg [] H b) →
      Seg (model Xg.prog Xg.w) A (fun n s₀ r s₁ => r = .ok .next ∧ GXE Xg End n s₀ s₁) (GXY Xg goOn (YB d goOn Fl)) n s₀ (.compLoop (gen2 elt t0 i0 t1 i1 ifs0 ifs1 scope pos) 0 (.ref it0) .none Xg.env)
        ((model Xg.prog Xg.w).den (.compLoop (gen2 elt t0 i0 t1 i1 ifs0 ifs1 scope pos) 0 (.ref it0) .none Xg.env)) [] s := by
  intro K
  induction K using Nat.strongRecOn with
  | _ K ih =>
    intro n i H s₀ s hk w I st f
    obtain ⟨K, rfl, w2⟩ := turn K i H w
    obtain ⟨n, rfl⟩ : ∃ m, n = m + 1 := ⟨n - 1, by omega⟩
    show Seg _ A _ _ _ s₀ _ ((compTurn (gen2 elt t0 i0 t1 i1 ifs0 ifs1 scope pos) 0 (.ref it0) .none Xg.env).onRaise (leaving Xg.env)) [] s
    rw [g2_out, Sem.onRaise_eq_wrap]
    refine seg_bind_wrap (wpAny_standAt ?_)
    have stat : ∀ {H' : Hp}, (∀ b ∈ fp, H' b = none) → ∀ b ∈ fp, FpOk Xg [] H' b := fun hn b hb => ⟨hn b hb, (f b hb).2⟩
    rcases w2 with ⟨stop, e⟩ | ⟨go, step⟩
    · refine seg_bind_wrap ?_
      rw [over_2o, hov]
      refine wpAny_mono (T.done Xg rfl rfl rfl hc i [] s σw H (fun _ _ => False) I f st stop) (fun r s1 hr => ?_) fun _ _ z => z.elim
      obtain ⟨rfl, I1⟩ := hr
      exact seg_end (.ok .next) ⟨rfl, σw, H, I1, e⟩
    · refine seg_bind_wrap ?_
      rw [over_2o, hov]
      refine wpAny_mono (T.item Xg rfl rfl rfl hc i [] s σw H (fun _ _ => False) I f st go) (fun r s1 hr => ?_) fun _ _ z => z.elim
      obtain ⟨u, rfl, h4⟩ := hr
      refine seg_bind_wrap ?_
      rw [over_2o, hov]
      refine wpAny_mono h4 (fun _ s2 hs2 => ?_) fun _ _ z => z.elim
      obtain ⟨x, H2, I2, r2, y2, st2, fr2⟩ := hs2
      have I2' := I2.pinned (stat fr2) (T.obj _ _ st2)
      refine seg_bind_wrap ?_
      rw [over_2o, hov]
      refine wpAny_mono (hg.run _ s2 σw H2 x u _ I2' r2 (step x H2 y2)) (fun _ s3 hs3 => ?_) fun _ _ z => (hxe _ _ z).elim
      obtain ⟨σ3, H3, I3, hw3, q3⟩ := hs3
      refine seg_bind_wrap ?_
      rw [over_2o, hov]
      refine wpAny_mono (ht.run _ s3 σ3 H3 _ I3 q3) (fun b s4 hs4 => ?_) fun _ _ z => (hxe _ _ z).elim
      obtain ⟨H4, I4, q4⟩ := hs4
      have on : ∀ {σ9 : L2.St} {H5 : Hp} {s5 : Shared}, Inv Xg ([] ++ pinsAt fp s2.heap) σ9 H5 s5 → σw.length = σ9.length → (∀ (j : Nat) v, σw[j]? = some (some v) → σ9[j]? = some (some v)) → Inv Xg [] σw H5 s5 ∧ tn (i + 1) s5.heap ∧ ∀ b ∈ fp, FpOk Xg [] H5 b := fun {σ9 H5 s5} I5 hl hk => by
        refine ⟨(I5.unpinned (pins := [])).weak hl hk, T.keep _ _ _ st2 fun b hb o e => (I5.pin (b, o) (List.mem_append_right _ (List.mem_append_right _ (mem_pinsAt hb e)))).1, stat fun b hb => ?_⟩
        obtain ⟨o, e, _⟩ := T.obj _ _ st2 b hb
        exact (I5.pin (b, o) (List.mem_append_right _ (List.mem_append_right _ (mem_pinsAt hb e)))).2.1
      have hl3 : σw.length = σ3.length := by rw [← hw3, wipe_length]
      have hk3 : ∀ (j : Nat) v, σw[j]? = some (some v) → σ3[j]? = some (some v) := fun j v e => by
        rw [← hw3] at e
        exact (wipe_some e).1
      have hk4 : ∀ (j : Nat) v, σw[j]? = some (some v) → (L2.wipe σ3 vs1)[j]? = some (some v) := fun j v e => by
        rw [← hw3] at e
        obtain ⟨e1, e2⟩ := wipe_some e
        rw [wipe_out fun z => e2 (hv j z)]
        exact e1
      cases b with
      | false =>
        obtain ⟨a1, a2, a3⟩ := on I4 hl3 hk3
        have q4 : W K (i + 1) H4 := q4
        simp only [Bool.false_eq_true, if_false]
        exact seg_again rfl (ih K (Nat.lt_succ_self K) _ _ _ _ _ (by omega) q4 a1 a2 a3)
      | true =>
        have q4 : wi1 σ3 H4 fun J1 H3 => ∃ W1 : Nat → Nat → Hp → Prop, W1 K 0 H3 ∧ GTurnI d J1 g1 tt1 te vs1 (L2.wipe σ3 vs1) W1 Fl (fun K2 H => K2 ≤ K ∧ W K2 (i + 1) H) := q4
        simp only [if_true]
        refine seg_bind_wrap ?_
        rw [over_2o, hov]
        refine wpAny_mono (hi1.run _ s4 σ3 H4 _ I4 q4) (fun xv s5 hx => ?_) fun _ _ z => (hxe _ _ z).elim
        refine seg_bind_wrap (wpAny_standAt ?_)
        refine seg_bind_wrap (wpAny_of_eq (hs1 _ xv) ?_)
        refine seg_bind_wrap (wpAny_holding ?_)
        rw [over_2o, hov]
        refine wpAny_mono hx (fun itv s6 h6 => ?_) fun _ _ z => (hxe _ _ z).elim
        obtain ⟨it1, fp1, tn1, J1, H6, rfl, I6, T1, st6, f6, W1, w6, turn1⟩ := h6
        have inner := fun (k : Result → Sem PySem.Fin) (l : List Value) (p : Pos) hend => gx2_inner (acc := .none) (it := .ref it0) (k := k) (l := l) (p := p) (kp := []) (A := A) (elt := elt) (t0 := t0) (i0 := i0) (ifs0 := ifs0) (i1 := i1) (scope := scope) (pos := pos) (End := End) hov hc hxe hco T1 hg1 ht1 he turn1 hend K (n + 1) 0 H6 s₀ s6 (by omega) w6 (I6.weak (wipe_length _ _) (fun j v e => (wipe_some e).1)) st6 f6
        have back : ∀ K2 m H' s0' s', K2 ≤ m → (K2 ≤ K ∧ W K2 (i + 1) H') → Inv Xg ([] ++ pinsAt fp s2.heap) (L2.wipe σ3 vs1) H' s' → Seg (model Xg.prog Xg.w) A (fun n s₀ r s₁ => r = .ok .next ∧ GXE Xg End n s₀ s₁) (GXY Xg goOn (YB d goOn Fl)) m s0' (.compLoop (gen2 elt t0 i0 t1 i1 ifs0 ifs1 scope pos) 0 (.ref it0) .none Xg.env) (.pure (.again (.compLoop (gen2 elt t0 i0 t1 i1 ifs0 ifs1 scope pos) 0 (.ref it0) .none Xg.env))) [] s' := fun K2 m H' s0' s' hm hw I' => by
          obtain ⟨a1, a2, a3⟩ := on I' (hl3.trans (wipe_length σ3 vs1).symm) hk4
          exact seg_again rfl (ih K2 (by omega) _ _ _ _ _ hm hw.2 a1 a2 a3)
        unfold runOwn
        rw [Sem.bind_eq_wrap', Sem.wrap_wrap, Sem.onRaise_eq_wrap, Sem.wrap_wrap]
        refine seg_call fun p => ?_
        exact gx2_enter T1 st6 (inner _ _ p fun K2 m H' s0' s' hm hw I' => back K2 m H' s0' s' hm hw I')
end
end Z

/-! generators with two loops: made, and read by all and any -/
namespace Z
open PySem PySem.Spec PyProof.Rows L2 GenW
section
variable {elt t0 i0 t1 i1 : Expr} {ifs0 ifs1 : List Expr} {scope : Scope} {pos : Pos}
theorem eval_g2 (env : Env) (hco : scope.isCoroutine = false) : eval (gen2 elt t0 i0 t1 i1 ifs0 ifs1 scope pos) env = (do
    let src ← eval i0 env
    standAt i0.pos
    let src ← genFold i0 env src
    let it ← holding [src] (pyIter src)
    enterFrame
    let cells ← closureFor scope env
    let cd ← genexprCode env pos (env.qual ++ "<genexpr>") scope
    let bl ← builtinsFor env.globals env.builtins
    let own ← newFunctionEnv scope env.globals cells [(".0", it)] (env.qual ++ "<genexpr>.") none cd none bl
    newGenerator (.compStart (gen2 elt t0 i0 t1 i1 ifs0 ifs1 scope pos) 0 it .none own) "<genexpr>" (env.qual ++ "<genexpr>")) := by
  rw [arm_eval_GeneratorExp, hco]
  cases i0 <;> rfl
theorem only_dot {it : Value} {z : Str} : ([((".0" : Str), it)] : List (Str × Value)).reverse.lookup z = if z = (".0" : Str) then some it else none := by
  show (match z == (".0" : Str) with | true => some it | false => none) = _
  by_cases e : z = (".0" : Str)
  · rw [if_pos e, e, beq_self_eq_true]
  · rw [if_neg e, beq_eq_false_iff_ne.mpr e]
/-- the generator of a frame of its own -/
theorem make_g2 {M : Model} {A : Around} {E : Value → Shared → Prop} {s : Shared} {env : Env} {cells : List (Str × Addr)} {Q : Value → Shared → Prop}
    (co : scope.isCoroutine = false) (clo : closureFor scope env = pure cells) (nc : ∀ y ∈ scope.names, y.2 ≠ .cell) (dot : scope.names.lookup (".0" : Str) = some NameKind.local) (fn : scope.kind = .function) (room : A.depth < recursionLimit) (fold : ∀ x, genFold i0 env x = pure x)
    (h : wpAny M A (eval i0 env) (fun xv s1 => wpAny M A (pyIter xv) (fun it s2 => s2.heap.NoLimit ∧ wpAny M A (genexprCode env pos (env.qual ++ "<genexpr>") scope) (fun cd s3 => wpAny M A (builtinsFor env.globals env.builtins) (fun bl s4 =>
      ∀ h', h'.Ns s4.heap.objs.size (fun y => if y = ".0" then some it else none) → Heap.SameBut s4.heap.objs.size (s4.heap.push { cls := .type "frame", data := .dict #[] }) h' →
        Q (.ref h'.objs.size) { s4 with gens := s4.gens.push (.fresh (.compStart (gen2 elt t0 i0 t1 i1 ifs0 ifs1 scope pos) 0 it .none (genEnv scope cells s4.heap.objs.size cd bl env))), toks := s4.toks + 1 + 1 + 1, heap := h'.push (genObj s4.gens.size s4.toks env.qual) }) E s3) E s2) E s1) E s) :
    wpAny M A (eval (gen2 elt t0 i0 t1 i1 ifs0 ifs1 scope pos) env) Q E s := by
  rw [eval_g2 env co, clo]
  have same : ∀ (x : Value) (s : Shared), E x s → E x s := fun _ _ e => e
  refine wpAny_bind (wpAny_mono h (fun xv s1 a1 => wpAny_bind (wpAny_standAt (wpAny_bind (wpAny_of_eq (fold xv) (wpAny_bind (wpAny_holding (wpAny_mono a1 (fun it s2 a2 => ?_) same))))))) same)
  obtain ⟨nl, a2⟩ := a2
  refine wpAny_bind (wpAny_enterFrame nl room (wpAny_bind (wpAny_pure (wpAny_bind (wpAny_mono a2 (fun cd s3 a3 => wpAny_bind (wpAny_mono a3 (fun bl s4 a4 => ?_) same)) same)))))
  refine wpAny_bind (wpAny_newFunctionEnv nc (fun y m => ?_) (fun h' ns sb => ?_) fn)
  · obtain rfl := List.mem_singleton.mp m
    exact dot
  · simp only [only_dot] at ns
    simp only [newGenerator, newFields]
    exact wpAny_bind (wpAny_newGen (wpAny_bind (wpAny_mkText (wpAny_bind (wpAny_mkText (wpAny_newObj_type (a4 h' ns sb) (by size_fits)))))))
end
theorem gx2_start {Xg : Cx} {A : Around} {elt t0 i0 t1 i1 : Expr} {ifs0 ifs1 : List Expr} {scope : Scope} {pos : Pos} {d : Bool} {End Fl : Hp → Prop} {it0 : Addr} {fp : List Addr} {tn : Nat → Heap → Prop} {J : It} {g g1 : TG} {tt tt1 : TT} {wi1 : TI} {te : TE} {vs vs1 : List Nat} {σw : L2.St} {W : Nat → Nat → Hp → Prop}
    (hov : A.deeper Xg.env = Xg.A) (hc : Xg.calm = true) (hxe : ∀ e s, ¬ Xg.xe e s) (hco : Xg.env.scope.isCoroutine = false) (T : Turn Xg.prog Xg.w Xg.K t0 J fp it0 tn) (hv : ∀ i ∈ vs1, i ∈ vs) (hg : PG Xg t0 g) (ht : PTs Xg ifs0 tt) (hi1 : PI Xg t1 i1 wi1) (hg1 : PG Xg t1 g1) (ht1 : PTs Xg ifs1 tt1) (he : PE Xg elt te)
    (hs1 : ∀ env x, foldedSetIterable i1 env x = pure x) (turn : GTurnO d J g tt wi1 g1 tt1 te vs vs1 σw W Fl End) {K : Nat} {H : Hp} {s₀ s : Shared} (w : W K 0 H) (I : Inv Xg [] σw H s) (st : tn 0 s.heap) (f : ∀ b ∈ fp, FpOk Xg [] H b) :
      Seg (model Xg.prog Xg.w) A (fun n s₀ r s₁ => r = .ok .next ∧ GXE Xg End n s₀ s₁) (GXY Xg goOn (YB d goOn Fl)) K s₀ (.compStart (gen2 elt t0 i0 t1 i1 ifs0 ifs1 scope pos) 0 (.ref it0) .none Xg.env)
        ((model Xg.prog Xg.w).den (.compStart (gen2 elt t0 i0 t1 i1 ifs0 ifs1 scope pos) 0 (.ref it0) .none Xg.env)) [] s := by
  have loop := gx2_loop (A := A) (i0 := i0) (scope := scope) (pos := pos) hov hc hxe hco T hv hg ht hi1 hg1 ht1 he hs1 turn K K 0 H s₀ s (Nat.le_refl _) w I st f
  show Seg _ A _ _ _ s₀ _ ((compStart (gen2 elt t0 i0 t1 i1 ifs0 ifs1 scope pos) 0 (.ref it0) .none Xg.env).onRaise (leaving Xg.env)) [] s
  unfold compStart
  rw [Sem.onRaise_eq_wrap]
  show Seg _ A _ _ _ s₀ _ ((ask >>= _).wrap _ _ _ _) [] s
  refine seg_bind_wrap (wpAny_askSetting ?_)
  split
  · exact seg_again rfl loop
  · refine seg_bind_wrap (wpAny_rule ?_)
    show Seg _ A _ _ _ s₀ _ ((standAt i0.pos >>= _).wrap _ _ _ _) [] s
    exact seg_bind_wrap (wpAny_standAt (seg_bind_wrap (T.self _ 0 s _ _ st (seg_again rfl loop))))
/-- the rules within its frame -/
structure Gx2Rules (X : Cx) (k : Nat) (scope : Scope) (tg : Expr) (ifs : List Expr) (elt t1 i1 : Expr) (ifs1 : List Expr) (g : TG) (tt : TT) (te : TE) (wi1 : TI) (g1 : TG) (tt1 : TT) : Prop where
  g : GxRules X k scope tg ifs elt g tt te
  i : ∀ (A : Around) (s : Shared) (H : Hp) (fp : List Addr) (C : Addr) (code : Value) (pn : List (Addr × Obj)), Room k (A.deeper (gxEnv X scope C code)) → PI (gxCx X A s H fp (gxEnv X scope C code) pn) t1 i1 wi1
  g1 : ∀ (A : Around) (s : Shared) (H : Hp) (fp : List Addr) (C : Addr) (code : Value) (pn : List (Addr × Obj)), PG (gxCx X A s H fp (gxEnv X scope C code) pn) t1 g1
  t1 : ∀ (A : Around) (s : Shared) (H : Hp) (fp : List Addr) (C : Addr) (code : Value) (pn : List (Addr × Obj)), Room k (A.deeper (gxEnv X scope C code)) → PTs (gxCx X A s H fp (gxEnv X scope C code) pn) ifs1 tt1
def GRs2 (d : Bool) (P : Addr) (g : TG) (tt : TT) (wi1 : TI) (g1 : TG) (tt1 : TT) (te : TE) (vs vs1 : List Nat) (σ : L2.St) (Q : VK) : It → Hp → Prop := fun J H1 => ∀ H2, GxR.Tabbed P H1 H2 →
  ∃ W : Nat → Nat → Hp → Prop, (∃ k, W k 0 H2) ∧ GTurnO d J g tt wi1 g1 tt1 te vs vs1 (L2.wipe σ vs) W (Q (.bl (!d))) (Q (.bl d))
def tGX2 (d : Bool) (P : Addr) (wi : TI) (g : TG) (tt : TT) (wi1 : TI) (g1 : TG) (tt1 : TT) (te : TE) (vs vs1 : List Nat) : TE := fun σ H Q => wi σ H fun J H1 => GxR.TabG H1 P ∧ GRs2 d P g tt wi1 g1 tt1 te vs vs1 σ Q J H1
section
variable {X : Cx} {pins : List (Addr × Obj)} {σ : L2.St} {H : Hp} {s : Shared} {scope : Scope} {own : List (Str × Nat)} {k : Nat} {c P : Addr} {elt iter tg t1 i1 : Expr} {ifs ifs1 : List Expr} {gpos pos : Pos} {wi wi1 : TI} {g g1 : TG} {tt tt1 : TT} {te : TE} {vs1 : List Nat}
theorem gx2_made {Q' : Value → Shared → Prop} {R : It → Hp → Prop} (hN : X.N.Nodup) (hr : Room (k + 1) X.A) (TB : GxR.TabB X.base X.mg c P) (hcode : X.env.code = .ref c) (L : GxOk X.N X.env.scope scope own) (hi : PI X tg iter wi) (G : Gx2Rules X k scope tg ifs elt t1 i1 ifs1 g tt te wi1 g1 tt1) (hv : ∀ i ∈ vs1, i ∈ own.map (·.2)) (hs1 : ∀ env x, foldedSetIterable i1 env x = pure x)
    (hs : ∀ v, genFold iter X.env v = pure v) (I : Inv X pins σ H s) (h : wi σ H fun J H1 => GxR.TabG H1 P ∧ R J H1)
    (hQ : ∀ J H1 H2 a s5, R J H1 → GxR.Tabbed P H1 H2 → (∀ (d : Bool) (W : Nat → Nat → Hp → Prop) (Fl End : Hp → Prop) (n : Nat), W n 0 H2 → GTurnO d J g tt wi1 g1 tt1 te (own.map (·.2)) vs1 (L2.wipe σ (own.map (·.2))) W Fl End → GXS X pins σ goOn (YB d goOn Fl) End a n s5) → (∃ g, s5.heap.IsGen a g) → Q' (.ref a) s5) :
    wpAny (model X.prog X.w) X.A (eval (gen2 elt tg iter t1 i1 ifs ifs1 scope gpos) X.env) Q' X.xe s := by
  have hfree := gx_cells I L
  refine make_g2 L.co (closure_ok hfree) L.cell L.dot L.blk.kind (by have := hr.dp; omega) hs ?_
  refine thn (hi.run pins s σ H _ I h) fun xv s1 h1 => thn h1 fun itv s2 h2 => ?_
  obtain ⟨it, fp, tn, J, H2, rfl, I2, T, st2, f2, ⟨ps, hP, ht⟩, hR⟩ := h2
  refine ⟨I2.nolimit, ?_⟩
  have hPs : s2.heap.get? P = some { cls := .none, data := .fields ps } := I2.hok P _ hP
  have cd : PySem.W.CodeHd s2.heap c P := TB.code.keeps fun b u e => I2.bk b u e
  have fpP : ∀ b ∈ fp, b ≠ P := fun b hb e => by
    have q := (f2 b hb).1
    rw [e, hP] at q; cases q
  have cont : ∀ (code : Value) (h3 : Heap) (tk : Nat) (ps' : Array Value), Heap.ExtBut P s2.heap h3 → s2.heap.objs.size ≤ h3.objs.size → h3.get? P = some { cls := .none, data := .fields ps' } → (∃ more, ps' = ps ++ more) → TriplesOk ps'.toList →
      wpAny (model X.prog X.w) X.A (builtinsFor X.env.globals X.env.builtins) (fun bi s₄ =>
        ∀ h', h'.Ns s₄.heap.objs.size (fun y => if y = ".0" then some (Value.ref it) else none) → Heap.SameBut s₄.heap.objs.size (s₄.heap.push { cls := .type "frame", data := .dict #[] }) h' →
          Q' (.ref h'.objs.size) { s₄ with
            gens := s₄.gens.push (.fresh (.compStart (gen2 elt tg iter t1 i1 ifs ifs1 scope gpos) 0 (.ref it) .none (genEnv scope (cloFrom X.env.cells scope.names []) s₄.heap.objs.size code bi X.env))),
            toks := s₄.toks + 1 + 1 + 1,
            heap := h'.push { cls := .type "generator", data := .fields #[.int s₄.gens.size 0, .str "<genexpr>" (s₄.toks + 1), .str (X.env.qual ++ "<genexpr>") (s₄.toks + 1 + 1)] } }) X.xe { s2 with heap := h3, toks := tk } := by
    intro code h3 tk ps' hx hsz hP3 hmore ht3
    obtain ⟨more, rfl⟩ := hmore
    obtain ⟨bm, ob, e1, e2, e3, e4, e5, e6, e7, e8⟩ := TB.bm
    have keep3 : ∀ b u, b ≠ P → s2.heap.get? b = some u → h3.get? b = some u := fun b u hb e => hx b u hb e
    refine wpAny_builtinsFor (m := X.mg) (by rw [I2.ok.glob]; exact (I2.mod.glob.keeps I2.bk).extBut hx TB.gP) e1 e2 (keep3 _ _ e4 (I2.bk _ _ e5)) e6 e7 e8 ?_
    intro h' hns hs'
    have I4 : Inv X pins σ (upd H2 P (.tbl (ps ++ more))) { s2 with heap := h3, toks := tk } := GxR.inv_tab (g' := s2.gens) (d' := s2.drawn) I2 hP keep3 hP3 I2.bare
    generalize hs4 : ({ s2 with heap := h3, toks := tk } : Shared) = s4 at *
    have e4h : s4.heap = h3 := by rw [← hs4]
    have f4 : ∀ b ∈ fp, FpOk X pins (upd H2 P (.tbl (ps ++ more))) b := fun b hb => ⟨by rw [upd_ne (fpP b hb)]; exact (f2 b hb).1, (f2 b hb).2⟩
    have fo4 : ∀ b ∈ fp, b < s4.heap.objs.size := fun b hb => by
      obtain ⟨o, e, _⟩ := T.obj _ _ st2 b hb
      rw [e4h]
      exact Nat.lt_of_lt_of_le (Heap.lt_size e) hsz
    have st4 : tn 0 s4.heap := T.keep _ _ _ st2 fun b hb o e => by rw [e4h]; exact keep3 b o (fpP b hb) e
    have kp : ∀ b o, s4.heap.get? b = some o → h'.get? b = some o := fun b o e => hs'.extBut b o (Nat.ne_of_lt (Heap.lt_size e)) (Heap.get?_push_of_some _ e)
    have hsz5 : h'.objs.size = s4.heap.objs.size + 1 := by rw [hs'.1, Heap.size_push]
    have hd : X.A.in1.in1.handled = none := hr.hd
    have bp : AllBare (s4.gens.push (.fresh (.compStart (gen2 elt tg iter t1 i1 ifs ifs1 scope gpos) 0 (.ref it) .none (genEnv scope (cloFrom X.env.cells scope.names []) s4.heap.objs.size code builtinsNs X.env)))) := AllBare.push I4.bare rfl
    have I5 := inv_gx (A := X.A.in1.in1) (code := code) (tk := s4.toks + 1 + 1 + 1) (go := genObj s4.gens.size s4.toks X.env.qual)
      hN I4 L I4.ok.frames hd f4 fo4 hns kp hsz5 (Heap.get?_push_size _ rfl) (fun v q => by cases q) bp
    have isg : ∀ h : Heap, h.get? h'.objs.size = some (genObj s4.gens.size s4.toks X.env.qual) → h.IsGen h'.objs.size s4.gens.size := fun h e => ⟨_, _, _, e, rfl, rfl, rfl⟩
    refine hQ J H2 (upd H2 P (.tbl (ps ++ more))) h'.objs.size _ hR ⟨⟨ps ++ more, upd_same, ht3⟩, fun b hb => upd_ne hb⟩ (fun d W Fl End n w turn => ?_) ⟨_, isg _ (Heap.get?_push_size _ rfl)⟩
    refine ⟨s4.gens.size, gxCx X X.A.in1.in1 s4 (upd H2 P (.tbl (ps ++ more))) fp (gxEnv X scope s4.heap.objs.size code) [(h'.objs.size, genObj s4.gens.size s4.toks X.env.qual)], _, isg _ (Heap.get?_push_size _ rfl), I5.nolimit, Array.getElem?_push_size .., bp, ⟨rfl, ?_⟩, fun σ' H' s' I' => ⟨isg _ (I'.pin (h'.objs.size, genObj s4.gens.size s4.toks X.env.qual) (List.mem_append_left _ (List.mem_singleton.mpr rfl))).1, I'.nolimit, I'.bare, fun g' hh tk' hb hk => ?_⟩⟩
    · have rm : Room k (X.A.in1.in1.deeper (gxEnv X scope s4.heap.objs.size code)) := ⟨hr.hd, by have := hr.dp; show X.A.depth + 1 + 3 * k + 5 < _; omega, by have := hr.un; show X.A.units + 1 + 1 + 3 + 16 * k + 200 < _; omega⟩
      refine gx2_start (Xg := (gxCx X X.A.in1.in1 s4 (upd H2 P (.tbl (ps ++ more))) fp (gxEnv X scope s4.heap.objs.size code) [(h'.objs.size, genObj s4.gens.size s4.toks X.env.qual)])) (A := X.A.in1.in1) (vs := own.map (·.2)) (vs1 := vs1) (σw := L2.wipe σ (own.map (·.2))) (W := W) (End := End) (Fl := Fl) (d := d) rfl rfl (fun _ _ z => z) L.co T hv (G.g.g _ _ _ _ _ _ _) (G.g.t _ _ _ _ _ _ _ rm) (G.i _ _ _ _ _ _ _ rm) (G.g1 _ _ _ _ _ _ _) (G.t1 _ _ _ _ _ _ _ rm) (G.g.e _ _ _ _ _ _ _ rm) hs1 turn w
        (inv_gens I5 _ (allBare_setGen (s := { s4 with gens := _ }) bp rfl)) (T.keep _ _ _ st4 fun b hb o e => Heap.get?_push_of_some _ (kp b o e)) fun b hb => ?_
      have hm : b ∉ frs X.stack := fun hm => by
        rcases List.mem_cons.mp (I4.stkSub b hm) with z | z
        · exact (f4 b hb).2.1 z
        · exact (f4 b hb).2.2.1 z
      refine ⟨(f4 b hb).1, Nat.ne_of_lt (fo4 b hb), hm, .inl hb, (I5.ok.exf b hb).2, fun p hp => ?_⟩
      have e : p = (h'.objs.size, genObj s4.gens.size s4.toks X.env.qual) := by simpa [gxCx] using hp
      subst e
      exact Ne.symm (Nat.ne_of_lt (Nat.lt_of_lt_of_le (fo4 b hb) (by rw [hsz5]; exact Nat.le_succ _)))
    · have un : Un (frs X.stack) fp (upd H2 P (.tbl (ps ++ more))) H' s4.heap s'.heap := I'.base
      have J1 : Inv X pins σ H' s' := I4.call' (ch := fp) I'.os un I'.hok I'.bare fun b hb => ⟨(f4 b hb).2.2.2.1, (f4 b hb).2.1, (f4 b hb).2.2.2.2.1, (f4 b hb).2.2.2.2.2⟩
      exact J1.call' (s' := { s' with gens := g', heap := hh, toks := tk' }) (ch := []) rfl (Un.kept hk) (J1.hok.kept hk) hb fun b z => absurd z (by simp)
  cases hf : codeAmong gpos ps.toList with
  | none =>
    refine wpAny_genexprCodeX hcode (cd.code hPs ht) (cd.tab hPs) hf fun c' h' tk hx hge hlt hco' _ htab' _ => ?_
    obtain ⟨o1, vs, f1, tf, fl, tg1, inF, tx, tt1, op, _, _, _, _, _, _, _, _, _, htr, _⟩ := hco'
    exact cont _ h' tk _ hx (Nat.le_trans hge (Nat.le_of_lt hlt)) htab'.2 ⟨_, rfl⟩ htr
  | some cv =>
    refine wpAny_genexprCode_hit hcode (cd.code hPs ht) hf ?_
    exact cont cv s2.heap s2.toks ps (Heap.ExtBut.refl _ _) (Nat.le_refl _) hPs ⟨#[], by simp⟩ ht
theorem pe_allX2 {p : Pos} (hN : X.N.Nodup) (hr : Room (k + 1) X.A) (hg : Gl X "all") (hm : X.mg "all" = none) (TB : GxR.TabB X.base X.mg c P) (hcode : X.env.code = .ref c) (L : GxOk X.N X.env.scope scope own) (hi : PI X tg iter wi) (G : Gx2Rules X k scope tg ifs elt t1 i1 ifs1 g tt te wi1 g1 tt1) (hv : ∀ i ∈ vs1, i ∈ own.map (·.2)) (hs1 : ∀ env x, foldedSetIterable i1 env x = pure x)
    (hs : ∀ v, genFold iter X.env v = pure v)
    (he : starEach [gen2 elt tg iter t1 i1 ifs ifs1 scope gpos] X.env = (false, eval (gen2 elt tg iter t1 i1 ifs ifs1 scope gpos) X.env) :: starEach [] X.env := by rfl) :
    PE X (.Call (.Name "all" p) [gen2 elt tg iter t1 i1 ifs ifs1 scope gpos] [] pos) (tGX2 true P wi g tt wi1 g1 tt1 te (own.map (·.2)) vs1) := by
  refine ⟨fun pins s σ H Q I h => ?_⟩
  refine wpAny_Call_Name_kw (ld_blt I hg hm boot_all ?_)
  refine PyProof.Rows.callWith_builtin1 ?_ he (by rfl)
  rw [he]
  show wpAny _ _ (spliced ((false, eval (gen2 elt tg iter t1 i1 ifs ifs1 scope gpos) X.env) :: backTo pos (starEach [] X.env))) _ _ s
  refine Calls.spliced_cons (gx2_made hN hr TB hcode L hi G hv hs1 hs I h fun J H1 H2 a s5 hR hT hS hG => ?_)
  obtain ⟨W, ⟨n, w⟩, turn⟩ := hR H2 hT
  have S := hS _ W _ _ n w turn
  obtain ⟨g0, isg⟩ := hG
  refine Calls.spliced_nil ?_
  refine call_function_tree F.kind_all F.plain_all F.entry_all (F.args_all1 _) ?_
  unfold Builtin.«all»
  refine wpAny_bind (m := oneArg "all" _) (wpAny_pure ?_)
  refine wpAny_bind (wpAny_pyIter_gen isg ?_)
  exact wpAny_pure ⟨plainId_quiet F.plain_all_loop _, all_drain hr.hd (by have := hr.dp; omega) (fun H' s' I' e => ⟨.bl true, H', I', rfl, e⟩) (fun H' s' I' e => ⟨.bl false, H', I', rfl, e⟩) n s5 S⟩
theorem pe_anyX2 {p : Pos} (hN : X.N.Nodup) (hr : Room (k + 1) X.A) (hg : Gl X "any") (hm : X.mg "any" = none) (TB : GxR.TabB X.base X.mg c P) (hcode : X.env.code = .ref c) (L : GxOk X.N X.env.scope scope own) (hi : PI X tg iter wi) (G : Gx2Rules X k scope tg ifs elt t1 i1 ifs1 g tt te wi1 g1 tt1) (hv : ∀ i ∈ vs1, i ∈ own.map (·.2)) (hs1 : ∀ env x, foldedSetIterable i1 env x = pure x)
    (hs : ∀ v, genFold iter X.env v = pure v)
    (he : starEach [gen2 elt tg iter t1 i1 ifs ifs1 scope gpos] X.env = (false, eval (gen2 elt tg iter t1 i1 ifs ifs1 scope gpos) X.env) :: starEach [] X.env := by rfl) :
    PE X (.Call (.Name "any" p) [gen2 elt tg iter t1 i1 ifs ifs1 scope gpos] [] pos) (tGX2 false P wi g tt wi1 g1 tt1 te (own.map (·.2)) vs1) := by
  refine ⟨fun pins s σ H Q I h => ?_⟩
  refine wpAny_Call_Name_kw (ld_blt I hg hm boot_any ?_)
  refine PyProof.Rows.callWith_builtin1 ?_ he (by rfl)
  rw [he]
  show wpAny _ _ (spliced ((false, eval (gen2 elt tg iter t1 i1 ifs ifs1 scope gpos) X.env) :: backTo pos (starEach [] X.env))) _ _ s
  refine Calls.spliced_cons (gx2_made hN hr TB hcode L hi G hv hs1 hs I h fun J H1 H2 a s5 hR hT hS hG => ?_)
  obtain ⟨W, ⟨n, w⟩, turn⟩ := hR H2 hT
  have S := hS _ W _ _ n w turn
  obtain ⟨g0, isg⟩ := hG
  refine Calls.spliced_nil ?_
  refine call_function_tree F.kind_any F.plain_any F.entry_any (F.args_any1 _) ?_
  unfold Builtin.«any»
  refine wpAny_bind (m := oneArg "any" _) (wpAny_pure ?_)
  refine wpAny_bind (wpAny_pyIter_gen isg ?_)
  exact wpAny_pure ⟨plainId_quiet F.plain_any_loop _, any_drain hr.hd (by have := hr.dp; omega) (fun H' s' I' e => ⟨.bl false, H', I', rfl, e⟩) (fun H' s' I' e => ⟨.bl true, H', I', rfl, e⟩) n s5 S⟩
end
/-! ### over the abstract heap: K turns at most, of both loops together -/
def ga2 (d : Bool) (it : IT) (ga : A → SA → Option SA) (tt : MT) (mi1 : MI) (ga1 : A → SA → Option SA) (tt1 : MT) (me : ME) (vs1 : List Nat) (sa : SA) : Nat → Nat → Option (IT × SA × Nat) → AH → Rs A
  | 0, _, _, _ => .no
  | K + 1, i, none, h => if i = it.cnt then (if it.fin h = true then .ok (.bl d) h else .no) else match it.item i h with
    | none => .no
    | some v => match ga v sa with
      | none => .no
      | some s2 => (tt s2 h).bindN fun b h3 => if b = true then (mi1 s2 h3).bindN fun it1 h4 => ga2 d it ga tt mi1 ga1 tt1 me vs1 sa K i (some (it1, wipeA s2 vs1, 0)) h4
        else ga2 d it ga tt mi1 ga1 tt1 me vs1 sa K (i + 1) none h3
  | K + 1, i, some (it1, s2, j), h => if j = it1.cnt then (if it1.fin h = true then ga2 d it ga tt mi1 ga1 tt1 me vs1 sa K (i + 1) none h else .no) else match it1.item j h with
    | none => .no
    | some v => match ga1 v s2 with
      | none => .no
      | some s3 => (tt1 s3 h).bindN fun b h3 => if b = true then (me s3 h3).bindN fun y h4 => match y with
          | .bl c => if c = d then ga2 d it ga tt mi1 ga1 tt1 me vs1 sa K i (some (it1, s2, j + 1)) h4 else .ok (.bl c) h4
          | _ => .no
        else ga2 d it ga tt mi1 ga1 tt1 me vs1 sa K i (some (it1, s2, j + 1)) h3
def mGx2 (K : Nat) (d : Bool) (mi : MI) (ga : A → SA → Option SA) (tt : MT) (mi1 : MI) (ga1 : A → SA → Option SA) (tt1 : MT) (me : ME) (vs vs1 : List Nat) : ME := fun s h => (mi s h).bind fun it h1 => ga2 d it ga tt mi1 ga1 tt1 me vs1 (wipeA s vs) K 0 none h1
section
variable {X : Cx} {tb : Addr → Prop} {W : WX} {scope : Scope} {own : List (Str × Nat)} {P : Addr} {mi mi1 : MI} {ga ga1 : A → SA → Option SA} {mt mt1 : MT} {me : ME} {d : Bool} {vs1 : List Nat} {K0 : Nat}
theorem gx2_rel {g g1 : TG} {σ : L2.St} {H : Hp} {Q : VK} (hP : tb P) (hg : ∀ v u σ sa sa' ρ H Q, Rp X.K ρ H v u → SRp X.K ρ H sa σ → ga v sa = some sa' → (∀ σ', SRp X.K ρ H sa' σ' → L2.wipe σ' (own.map (·.2)) = L2.wipe σ (own.map (·.2)) → Q σ' H) → g u σ H Q)
    (hg1 : ∀ v u σ sa sa' ρ H Q, Rp X.K ρ H v u → SRp X.K ρ H sa σ → ga1 v sa = some sa' → (∀ σ', SRp X.K ρ H sa' σ' → L2.wipe σ' vs1 = L2.wipe σ vs1 → Q σ' H) → g1 u σ H Q)
    (h : tE (gO X tb) W (mGx2 K0 d mi ga mt mi1 ga1 mt1 me (own.map (·.2)) vs1) σ H Q) : tGX2 d P (tI (gO X tb) W mi) g (tT (gO X tb) W0 mt) (tI (gO X tb) W0 mi1) g1 (tT (gO X tb) W0 mt1) (tE (gO X tb) W0 me) (own.map (·.2)) vs1 σ H Q := by
  obtain ⟨ρ, ah, sa, S, rs, p⟩ := h
  refine ⟨ρ, ah, sa, S, rs, ?_⟩
  unfold mGx2 at p
  cases e : mi sa ah with
  | no => rw [e] at p; exact p.elim
  | ex x h => rw [e] at p; exact fun ρ' H' cls d S' a b r => p ρ' H' cls d S' a b r
  | ok it h1 =>
    rw [e] at p
    intro ρ0 H0 J S0 a0 b0 R
    refine ⟨S0.tb P hP, fun H1 T1 => ?_⟩
    obtain ⟨S1, k1⟩ := sim_tab hP S0 T1
    have p0 : Pst (gO X tb) W σ ρ0 H1 Q (ga2 d it ga mt mi1 ga1 mt1 me vs1 (wipeA sa (own.map (·.2))) K0 0 none h1) := Pst.later p a0 (b0.trans k1)
    refine ⟨fun K i H => ∃ ρ ah, ρ0 <+: ρ ∧ Kept H1 H ∧ i ≤ it.cnt ∧ Sim (gO X tb) ρ ah H ∧ Pst (gO X tb) W σ ρ H Q (ga2 d it ga mt mi1 ga1 mt1 me vs1 (wipeA sa (own.map (·.2))) K i none ah), ⟨K0, ρ0, _, List.prefix_refl _, Kept.refl _, Nat.zero_le _, S1, p0⟩, ?_⟩
    rintro K i H ⟨ρ, ah, pr, kp, hi, S, p⟩
    have rsW : SRp X.K ρ H (wipeA sa (own.map (·.2))) (L2.wipe σ (own.map (·.2))) := SRp.mono (a0.trans pr) (b0.trans (k1.trans kp)) (rs.wipe _)
    cases K with
    | zero => rw [ga2] at p; exact p.elim
    | succ K =>
      refine ⟨K, rfl, ?_⟩
      rw [ga2] at p
      split at p
      · rename_i ei
        subst ei
        split at p
        · rename_i hf
          exact .inl ⟨R.stop ρ ah H pr (k1.trans kp) S hf, Pst.ret S (Rp.bl_.mpr rfl) p⟩
        · exact p.elim
      · rename_i ne
        split at p
        · exact p.elim
        · rename_i v ev
          split at p
          · exact p.elim
          · rename_i s2 es2
            obtain ⟨q1, q2⟩ := R.go i ρ ah H v (by omega) pr (k1.trans kp) S ev
            refine .inr ⟨q1, fun x H' hy => ?_⟩
            obtain ⟨S', k', r'⟩ := q2 x H' hy
            refine hg v x _ _ s2 ρ H' _ r' (rsW.mono (List.prefix_refl _) k') es2 fun σ2 rs2 w2 => ⟨by rw [w2, wipe_wipe], ?_⟩
            refine ⟨ρ, ah, s2, S', rs2, (PstT.slot (PstT.N (Pst.later p (List.prefix_refl _) k'))).imp fun b H3 ⟨ρ3, ah3, S3, p3, k3, q3⟩ => ?_⟩
            cases b with
            | false => exact iteF ⟨ρ3, ah3, pr.trans p3, kp.trans (k'.trans k3), by omega, S3, q3⟩
            | true =>
              have q3 : Pst (gO X tb) W σ ρ3 H3 Q ((mi1 s2 ah3).bindN fun it1 h4 => ga2 d it ga mt mi1 ga1 mt1 me vs1 (wipeA sa (own.map (·.2))) K i (some (it1, wipeA s2 vs1, 0)) h4) := q3
              refine iteT ⟨ρ3, ah3, s2, S3, rs2.mono p3 k3, PstI.ofN q3 fun J1 H4 ρ4 ah4 it1 S4 p4 k4 R1 q4 => ?_⟩
              refine ⟨fun K1 j H => ∃ ρ ah, ρ4 <+: ρ ∧ Kept H4 H ∧ K1 ≤ K ∧ j ≤ it1.cnt ∧ Sim (gO X tb) ρ ah H ∧ Pst (gO X tb) W σ ρ H Q (ga2 d it ga mt mi1 ga1 mt1 me vs1 (wipeA sa (own.map (·.2))) K1 i (some (it1, wipeA s2 vs1, j)) ah), ⟨ρ4, ah4, List.prefix_refl _, Kept.refl _, Nat.le_refl _, Nat.zero_le _, S4, q4⟩, ?_⟩
              rintro K1 j H5 ⟨ρ5, ah5, pr5, kp5, hK, hj, S5, p5⟩
              have prA : ρ0 <+: ρ5 := pr.trans (p3.trans (p4.trans pr5))
              have kpA : Kept H1 H5 := kp.trans (k'.trans (k3.trans (k4.trans kp5)))
              have rs5 : SRp X.K ρ5 H5 (wipeA s2 vs1) (L2.wipe σ2 vs1) := SRp.mono (p3.trans (p4.trans pr5)) (k3.trans (k4.trans kp5)) (rs2.wipe _)
              cases K1 with
              | zero => rw [ga2] at p5; exact p5.elim
              | succ K1 =>
                refine ⟨K1, rfl, ?_⟩
                rw [ga2] at p5
                split at p5
                · rename_i ej
                  subst ej
                  split at p5
                  · rename_i hf
                    exact .inl ⟨R1.stop ρ5 ah5 H5 pr5 kp5 S5 hf, by omega, ρ5, ah5, prA, kpA, by omega, S5, p5⟩
                  · exact p5.elim
                · rename_i nj
                  split at p5
                  · exact p5.elim
                  · rename_i v1 ev1
                    split at p5
                    · exact p5.elim
                    · rename_i s3 es3
                      obtain ⟨r1, r2⟩ := R1.go j ρ5 ah5 H5 v1 (by omega) pr5 kp5 S5 ev1
                      refine .inr ⟨r1, fun x H' hy => ?_⟩
                      obtain ⟨S6, k6, r6⟩ := r2 x H' hy
                      refine hg1 v1 x _ _ s3 ρ5 H' _ r6 (rs5.mono (List.prefix_refl _) k6) es3 fun σ3 rs3 w3 => ⟨by rw [w3, wipe_wipe], ?_⟩
                      refine ⟨ρ5, ah5, s3, S6, rs3, (PstT.slot (PstT.N (Pst.later p5 (List.prefix_refl _) k6))).imp fun b H7 ⟨ρ7, ah7, S7, p7, k7, q7⟩ => ?_⟩
                      cases b with
                      | false => exact iteF ⟨ρ7, ah7, pr5.trans p7, kp5.trans (k6.trans k7), by omega, by omega, S7, q7⟩
                      | true =>
                        refine iteT ⟨ρ7, ah7, s3, S7, rs3.mono p7 k7, (Pst.slot (Pst.N q7)).imp fun y H8 ⟨ρ8, ah8, yv, S8, p8, k8, r8, q8⟩ => ?_⟩
                        cases yv with
                        | bl c =>
                          have q8 : Pst (gO X tb) W σ ρ8 H8 Q (if c = d then ga2 d it ga mt mi1 ga1 mt1 me vs1 (wipeA sa (own.map (·.2))) K1 i (some (it1, wipeA s2 vs1, j + 1)) ah8 else .ok (.bl c) ah8) := q8
                          refine ⟨c, Rp.bl_.mp r8, fun ec => ?_, fun ec => ?_⟩
                          · rw [if_pos ec] at q8
                            exact ⟨ρ8, ah8, pr5.trans (p7.trans p8), kp5.trans (k6.trans (k7.trans k8)), by omega, by omega, S8, q8⟩
                          · rw [if_neg (by rw [ec]; cases d <;> decide)] at q8
                            subst ec
                            exact Pst.ret S8 (Rp.bl_.mpr rfl) q8
                        | _ => exact q8.elim
end
section
variable {X : Cx} {tb : Addr → Prop} {W : WX} {scope : Scope} {own : List (Str × Nat)} {k : Nat} {c P : Addr} {elt iter tg t1 i1 : Expr} {ifs ifs1 : List Expr} {gpos pos p : Pos} {mi mi1 : MI} {ga ga1 : A → SA → Option SA} {mt mt1 : MT} {me : ME} {vs1 : List Nat} {K0 : Nat}
/-- what stands within it, of the second loop -/
structure GxIn2 (X : Cx) (tb : Addr → Prop) (k : Nat) (scope : Scope) (vs1 : List Nat) (t1 i1 : Expr) (ifs1 : List Expr) (mi1 : MI) (ga1 : A → SA → Option SA) (mt1 : MT) : Prop where
  i : ∀ (A : Around) (s : Shared) (H : Hp) (fp : List Addr) (C : Addr) (code : Value) (pn : List (Addr × Obj)), Room k (A.deeper (gxEnv X scope C code)) → TriI (gxCx X A s H fp (gxEnv X scope C code) pn) (gO X tb) W0 t1 i1 mi1
  g : ∃ g : TG, (∀ (A : Around) (s : Shared) (H : Hp) (fp : List Addr) (C : Addr) (code : Value) (pn : List (Addr × Obj)), PG (gxCx X A s H fp (gxEnv X scope C code) pn) t1 g) ∧
    ∀ v u σ sa sa' ρ H Q, Rp X.K ρ H v u → SRp X.K ρ H sa σ → ga1 v sa = some sa' → (∀ σ', SRp X.K ρ H sa' σ' → L2.wipe σ' vs1 = L2.wipe σ vs1 → Q σ' H) → g u σ H Q
  t : ∀ (A : Around) (s : Shared) (H : Hp) (fp : List Addr) (C : Addr) (code : Value) (pn : List (Addr × Obj)), Room k (A.deeper (gxEnv X scope C code)) → TriPTs (gxCx X A s H fp (gxEnv X scope C code) pn) (gO X tb) W0 ifs1 mt1
theorem t_allX2 (hN : X.N.Nodup) (hr : Room (k + 1) X.A) (hm : X.mg "all" = none) (TB : GxR.TabB X.base X.mg c P) (hP : tb P) (hcode : X.env.code = .ref c) (L : GxOk X.N X.env.scope scope own) (hv : ∀ i ∈ vs1, i ∈ own.map (·.2)) (hi : TriI X (gO X tb) W tg iter mi) (G : GxIn X tb k scope own tg ifs elt ga mt me) (G2 : GxIn2 X tb k scope vs1 t1 i1 ifs1 mi1 ga1 mt1)
    (hg : Gl X "all" := by rfl) (hs : ∀ v, genFold iter X.env v = pure v := by intro _; rfl) (hs1 : ∀ env x, foldedSetIterable i1 env x = pure x := by intro _ _; rfl)
    (he : starEach [gen2 elt tg iter t1 i1 ifs ifs1 scope gpos] X.env = (false, eval (gen2 elt tg iter t1 i1 ifs ifs1 scope gpos) X.env) :: starEach [] X.env := by rfl) :
    Tri X (gO X tb) W (.Call (.Name "all" p) [gen2 elt tg iter t1 i1 ifs ifs1 scope gpos] [] pos) (mGx2 K0 true mi ga mt mi1 ga1 mt1 me (own.map (·.2)) vs1) := by
  obtain ⟨g, a1, a2⟩ := G.g
  obtain ⟨g1, b1, b2⟩ := G2.g
  exact pe_weak (pe_allX2 hN hr hg hm TB hcode L hi ⟨⟨a1, G.t, G.e⟩, G2.i, b1, G2.t⟩ hv hs1 hs he) fun σ H Q h => gx2_rel hP a2 b2 h
theorem t_anyX2 (hN : X.N.Nodup) (hr : Room (k + 1) X.A) (hm : X.mg "any" = none) (TB : GxR.TabB X.base X.mg c P) (hP : tb P) (hcode : X.env.code = .ref c) (L : GxOk X.N X.env.scope scope own) (hv : ∀ i ∈ vs1, i ∈ own.map (·.2)) (hi : TriI X (gO X tb) W tg iter mi) (G : GxIn X tb k scope own tg ifs elt ga mt me) (G2 : GxIn2 X tb k scope vs1 t1 i1 ifs1 mi1 ga1 mt1)
    (hg : Gl X "any" := by rfl) (hs : ∀ v, genFold iter X.env v = pure v := by intro _; rfl) (hs1 : ∀ env x, foldedSetIterable i1 env x = pure x := by intro _ _; rfl)
    (he : starEach [gen2 elt tg iter t1 i1 ifs ifs1 scope gpos] X.env = (false, eval (gen2 elt tg iter t1 i1 ifs ifs1 scope gpos) X.env) :: starEach [] X.env := by rfl) :
    Tri X (gO X tb) W (.Call (.Name "any" p) [gen2 elt tg iter t1 i1 ifs ifs1 scope gpos] [] pos) (mGx2 K0 false mi ga mt mi1 ga1 mt1 me (own.map (·.2)) vs1) := by
  obtain ⟨g, a1, a2⟩ := G.g
  obtain ⟨g1, b1, b2⟩ := G2.g
  exact pe_weak (pe_anyX2 hN hr hg hm TB hcode L hi ⟨⟨a1, G.t, G.e⟩, G2.i, b1, G2.t⟩ hv hs1 hs he) fun σ H Q h => gx2_rel hP a2 b2 h
/-- the one name of the second target -/
theorem gg1_1 {x : Str} {tpos : Pos} (i : Nat) {vs : List Nat} (hN : X.N.Nodup) (hv : i ∈ vs := by decide) (hi : X.N[i]? = some x := by rfl) (hx : scope.names.lookup x = some .local := by rfl) :
    ∃ g : TG, (∀ (A : Around) (s : Shared) (H : Hp) (fp : List Addr) (C : Addr) (code : Value) (pn : List (Addr × Obj)), PG (gxCx X A s H fp (gxEnv X scope C code) pn) (.Name x tpos) g) ∧
    ∀ v u σ sa sa' ρ H Q, Rp X.K ρ H v u → SRp X.K ρ H sa σ → c1 i v sa = some sa' → (∀ σ', SRp X.K ρ H sa' σ' → L2.wipe σ' vs = L2.wipe σ vs → Q σ' H) → g u σ H Q :=
  ⟨gName i, fun A s H fp C code pn => pg_name (X := gxCx X A s H fp (gxEnv X scope C code) pn) hN hi (Or.inl hx) (Or.inr hx), fun v u σ sa sa' ρ H Q r rs e q => by
    cases e
    exact q _ (rs.set i r) (wipe_set hv)⟩
end
end Z

/-! a tuple, once or several times -/
namespace Z
open PySem PySem.Spec PyProof.Rows L2
theorem once_tuple (l : Addr) (its : Array Value) (n : Nat) (dd : Option Addr) (sl : Array (Option Value)) (u : Tok) :
    Meets (Builtin.«tuple.__mul__» ⟨[.ref l, .int 1 u], []⟩) (fun _ R s => s.heap.get? l = some { cls := .type "tuple", dict := dd, data := .seq its n, slots := sl } ∧ R (.ok (.ret (.ref l))) s) :=
  .of_wp fun prog w A R s ⟨there, post⟩ => by
    obtain ⟨hp, g, d, tk, os⟩ := s
    have f1 := AutoSeq1.idx_int
    wp_walk using wpAny_loadPart' there
    exact ⟨_, rfl, post⟩
theorem op_onceT {X : Cx} : OpR X (binaryOp .Mult) (fun x y H Q => ∃ l xs, x = .ref l ∧ y = .int 1 ∧ SqT X.K H l xs ∧ Q (.ref l) H) := by
  intro pins s σ H x y v u Q I rx ry h
  obtain ⟨l, xs, rfl, rfl, hT, q⟩ := h
  obtain rfl : v = Value.ref l := rx
  obtain ⟨t, rfl⟩ := ry
  obtain ⟨its, r, ⟨o, ho, hc, n, hd⟩, hs⟩ := I.tuple hT
  have there : s.heap.get? l = some { cls := .type "tuple", dict := o.dict, data := .seq its.toArray n, slots := o.slots } := by
    rw [ho]
    obtain ⟨c, dd, da, sl⟩ := o
    dsimp only at hc hd
    rw [hc, hd]
  have ty : ∃ o, s.heap.get? l = some o ∧ o.cls = .type "tuple" := ⟨_, there, rfl⟩
  refine wpAny_binaryOp_repeat_ref (T := "tuple") (U := "int") (by decide) ty (fun s' => typeIs_int s' 1 t) noFill_tuple_mul F.fills_int_mul F.slot_int_rmul repeat_tuple F.slot_int_index.lookup
    (call_meets F.slot_int_rmul (typeIs_int s 1 t) F.entry_int_rmul (F.args_int_rmul_2 _ _) (int_rmul_tuple 1 t l its.toArray n _ _) ⟨there, rfl, ty, ?_⟩)
  exact call_meets F.slot_tuple_mul ty F.entry_tuple_mul (F.args_tuple_mul_2 _ _) (once_tuple l its.toArray n _ _ t) ⟨there, .ref l, H, I, rfl, q⟩
def oMulT (v u : A) : Mo A := match v, u with
  | .tup xs, .int i => fun h => if i = 1 then .ok (.tup xs) h else oMul (.tup xs) (.int i) h
  | _, _ => fun _ => .no
theorem o_mulT {X : Cx} {tb : Addr → Prop} {W : WX} : OpM X (gO X tb) W (binaryOp .Mult) oMulT := by
  obtain ⟨R, h1, h2⟩ := o_mul (X := X) (tb := tb) (W := W)
  refine ⟨_, (op_onceT (X := X)).or h1, fun σ v1 v2 ah ρ H u1 u2 Q S r1 r2 p => ?_⟩
  cases v1 <;> cases v2 <;> first | exact p.elim | skip
  simp only [oMulT] at p
  split at p
  · rename_i e
    subst e
    rw [Rp.int_] at r2
    have r1' := r1
    rw [Rp.tup_] at r1
    obtain ⟨l, vs, rfl, t, q⟩ := r1
    exact .inl ⟨l, vs, rfl, r2, t, Pst.ret S r1' p⟩
  · exact .inr (h2 σ _ _ ah ρ H u1 u2 Q S r1 r2 p)
end Z

/-! a tuple read backwards -/
namespace Z
open PySem PySem.Spec PyProof.Rows L2 HT
theorem picks_back (xs : List Value) : ((List.range xs.length).filterMap fun (m : Nat) => xs.toArray[(((xs.length : Int) - 1) + (m : Int) * (-1)).toNat]?) = xs.reverse := by
  have e : ∀ m ∈ List.range xs.length, xs.toArray[(((xs.length : Int) - 1) + (m : Int) * (-1)).toNat]? = xs.reverse[m]? := fun m hm => by
    have lt := List.mem_range.mp hm
    rw [List.getElem?_toArray, List.getElem?_reverse lt]
    congr 1
    omega
  have cong : ∀ (l : List Nat) (f g : Nat → Option Value), (∀ m ∈ l, f m = g m) → l.filterMap f = l.filterMap g := fun l f g => by
    induction l with
    | nil => intro _; rfl
    | cons a l ih =>
      intro q
      rw [List.filterMap_cons, List.filterMap_cons, q a (List.mem_cons_self ..), ih fun m hm => q m (List.mem_cons_of_mem _ hm)]
  rw [cong _ _ _ e]
  have : ∀ ys : List Value, (List.range ys.length).filterMap (fun m => ys[m]?) = ys := fun ys => by
    induction ys with
    | nil => rfl
    | cons y ys ih =>
      rw [List.length_cons, List.range_succ_eq_map, List.filterMap_cons]
      show (y :: List.filterMap _ _) = _
      rw [List.filterMap_map]
      exact congrArg _ ih
  have q := this xs.reverse
  rw [List.length_reverse] at q
  exact q
section
variable {prog : Program} {w : World} {A : Around} {E : Value → Shared → Prop} {s : Shared}
theorem applied_back {sl : Addr} {vl vu vs : Value} {n : Nat} {Q : Int × Int × Nat → Shared → Prop} (hs : s.heap.IsSliceOf sl vl vu vs) (pl : IsPart vl none) (pu : IsPart vu none) (ps : IsPart vs (some (-1))) (h : Q ((n : Int) - 1, -1, n) s) :
    wpAny (model prog w) A (Builtin.Slice.sliceApplied (.ref sl) (pure (n : Int))) Q E s := by
  obtain ⟨os, hos, hcs, hds⟩ := id hs
  unfold Builtin.Slice.sliceApplied Builtin.Slice.sliceFields
  refine wpAny_bind (wpAny_bind (wpAny_field hos hds (x := vl) rfl (wpAny_bind (wpAny_field hos hds (x := vu) rfl (wpAny_bind (wpAny_field hos hds (x := vs) rfl (wpAny_pure ?_)))))))
  refine wpAny_bind (slicePart_ ps ?_)
  show wpAny _ _ (if ((-1 : Int) == 0) = true then _ else _) _ _ s
  rw [if_neg (by decide)]
  refine wpAny_bind (slicePart_ pl (wpAny_bind (slicePart_ pu (wpAny_bind (wpAny_pure ?_)))))
  have places : Builtin.Slice.slicePlaces ((n : Int) - 1) (-1) (-1) = n := by
    unfold Builtin.Slice.slicePlaces
    rw [if_neg (by decide)]
    split
    · rw [show -(-1 : Int) = 1 from rfl, Int.ediv_one]
      omega
    · omega
  show wpAny _ _ (pure ((n : Int) - 1, (-1 : Int), Builtin.Slice.slicePlaces ((n : Int) - 1) (-1) (-1))) _ _ s
  rw [places]
  exact wpAny_pure h
theorem item_back {t sl : Addr} {its : Array Value} {vl vu vs : Value} {Q : Value → Shared → Prop} (ht : IsTup s.heap t its) (hs : s.heap.IsSliceOf sl vl vu vs) (pl : IsPart vl none) (pu : IsPart vu none) (ps : IsPart vs (some (-1)))
    (h : Q (.ref s.heap.objs.size) { s with heap := s.heap.push { cls := .type "tuple", data := .seq its.toList.reverse.toArray } }) (few : its.size ≤ sizeLine) : wpAny (model prog w) A (getItem (.ref t) (.ref sl)) Q E s := by
  have room : sizeOk (.seq its.toList.reverse.toArray) := by
    show its.toList.reverse.toArray.size ≤ sizeLine
    rw [List.size_toArray, List.length_reverse, Array.length_toList]
    exact few
  obtain ⟨os, hos, hcs, hds⟩ := id hs
  have kind : s.TypeIs (.ref sl) "slice" := ⟨os, hos, hcs⟩
  unfold getItem
  try with_reducible refine wpAny_holding ?_
  first | refine wpAny_bind (wpAny_pure ?_) | skip
  refine wpAny_bind (wpAny_sequenceKey ht.typeIs (by decide) (wpAny_callSpecial?_slot (name := Str.ofString "__getitem__") ht.typeIs PyProof.Rows.slot_tuple_getitem (wpAny_call_entry PyProof.Rows.slot_tuple_getitem ht.typeIs entry_tuple_getitem ?_ (args_tuple_getitem _ _)) |> wpAny_bind))
  show wpAny _ _ (Builtin.Tuple.tupleItemsOf (.ref t) >>= _) _ _ s
  refine wpAny_bind (tupleItemsOf_ ht (wpAny_bind (wpAny_typeOf kind ?_)))
  rw [if_pos (by decide)]
  refine wpAny_bind (applied_back hs pl pu ps ?_)
  show wpAny _ _ (if (((its.size : Int) - 1) == 0 && (-1 : Int) == 1 && its.size == its.size) = true then _ else _) _ _ s
  have odd : ¬ ((((its.size : Int) - 1) == 0 && (-1 : Int) == 1 && its.size == its.size) = true) := by
    rw [show ((-1 : Int) == 1) = false from rfl, Bool.and_false, Bool.false_and]
    exact Bool.false_ne_true
  rw [if_neg odd]
  have e : ((List.range its.size).filterMap fun (m : Nat) => its[(((its.size : Int) - 1) + (m : Int) * (-1)).toNat]?) = its.toList.reverse := picks_back its.toList
  rw [e]
  first
    | exact wpAny_bind (m := Builtin.Tuple.tupleExact _) (wpAny_newObj_type (wpAny_pure ⟨_, rfl, wpAny_pure h⟩) room)
    | exact wpAny_bind (m := Builtin.Tuple.tupleExact _) (wpAny_newObj_type (wpAny_bind (wpAny_pure (wpAny_pure ⟨_, rfl, wpAny_pure h⟩))) room)
    | exact wpAny_bind (wpAny_bind (m := Builtin.Tuple.tupleExact _) (wpAny_newObj_type (wpAny_pure (wpAny_pure ⟨_, rfl, wpAny_pure h⟩)) room))
    | exact wpAny_bind (wpAny_bind (m := Builtin.Tuple.tupleExact _) (wpAny_newObj_type (wpAny_pure ⟨_, rfl, wpAny_pure h⟩) room))
end
/-- x[::-1], x a tuple -/
def tRevT (K : PySem.W.Frag) (te : TE) : TE := fun σ H Q => te σ H fun x H1 => ∃ a xs, x = .ref a ∧ SqT K H1 a xs ∧ ∀ p, H1 p = none → Q (.ref p) (upd H1 p (.tup xs.reverse))
theorem pe_revT {X : Cx} {e : Expr} {te : TE} {k : Nat} {p1 p2 p3 pos : Pos} (he : PE X e te) : PE X (.Subscript e (.Slice none none (some (.UnaryOp .USub (.Constant (.int 1) k p1) p2)) p3) pos) (tRevT X.K te) := by
  constructor
  intro pins sh σ H Q inv pre
  refine Subscript_ (thn (he.run pins sh σ H _ inv pre) fun val sA ⟨x, HA, invA, rel, post⟩ => ?_)
  obtain ⟨a, xs, rfl, sq, post⟩ := post
  obtain rfl : val = Value.ref a := rel
  have minus := po_some (X := X) (pe_un (pos := p2) un_neg (pe_int (X := X) (i := 1) (j := k) (pos := p1)))
  refine wpAny_Slice (thn (po_none.run pins sA σ HA (fun o G => o = none ∧ G = HA) invA ⟨rfl, rfl⟩) fun va sB ⟨oa, HB, invB, isA, eoa, eHB⟩ => ?_)
  subst eoa eHB
  refine thn (po_none.run pins sB σ HB (fun o G => o = none ∧ G = HB) invB ⟨rfl, rfl⟩) fun vb sC ⟨ob, HC, invC, isB, eob, eHC⟩ => ?_
  subst eob eHC
  refine thn (minus.run pins sC σ HC (fun o G => o = some (-1) ∧ G = HC) invC ⟨1, rfl, -1, rfl, rfl, rfl⟩) fun vc sD ⟨oc, HD, invD, isC, eoc, eHD⟩ => ?_
  subst eoc eHD
  have invS : Inv X pins σ HD { sD with heap := sD.heap.push { cls := .type "slice", data := .fields #[va, vb, vc] } } := invD.kept (t' := sD.toks) fun adr obj there => Heap.get?_push_of_some _ there
  obtain ⟨its, vs, isT, few⟩ := invS.tuple sq
  have len := vs.length
  refine tail_any (ops := [.ref a, .ref sD.heap.objs.size]) isT.typeIs (PyProof.Rows.slot_tuple_getitem.lookup) ?_ (by with_unfolding_all rfl)
  refine item_back isT (Heap.IsSliceOf.new _ va vb vc) isA isB isC ?_ (by rw [List.size_toArray]; omega)
  refine ⟨.ref _, _, invS.laid (t' := sD.toks) (o := .tup xs.reverse) (fun adr obj there => Heap.get?_push_of_some _ there) (Nat.le_refl _) ?_, rfl, post _ (invS.hok.fresh (Nat.le_refl _))⟩
  exact ⟨by rw [List.length_reverse]; omega, _, vs.reverse, IsTup.new _ _⟩
def mRevT (m : ME) : ME := fun s h => (m s h).bind fun v h1 => match v with
  | .tup xs => .ok (.tup xs.reverse) h1
  | _ => .no
section
variable {X : Cx} {tb : Addr → Prop} {W : WX}
theorem t_revT {e : Expr} {m : ME} {k : Nat} {p1 p2 p3 pos : Pos} (he : Tri X (gO X tb) W e m) : Tri X (gO X tb) W (.Subscript e (.Slice none none (some (.UnaryOp .USub (.Constant (.int 1) k p1) p2)) p3) pos) (mRevT m) := by
  refine pe_weak (pe_revT he) fun σ H Q ⟨ρ, ah, sa, S, rs, p⟩ => ?_
  refine ⟨ρ, ah, sa, S, rs, p.bind.imp fun u H1 ⟨ρ1, ah1, v, S1, p1, k1, r1, q1⟩ => ?_⟩
  cases v with
  | tup xs =>
    rw [Rp.tup_] at r1
    obtain ⟨l, vs, rfl, t, r⟩ := r1
    exact ⟨l, vs, rfl, t, fun q nq => Pst.tup q1 S1 nq (rpL_rev r)⟩
  | _ => exact q1.elim
end
section
variable {X : Cx} {scope : Scope} {own : List (Str × Nat)} {pos : Pos}
/-- a comprehension's name that a comprehension within it reads: a cell -/
theorem hgc_1 {x : Str} (i : Nat) (hN : X.N.Nodup) (hv : i ∈ own.map (·.2) := by decide) (hi : X.N[i]? = some x := by rfl) (hx : ∀ (C : Addr) (cl : List (Str × Addr)), (compEnvC scope cl C X.env).scope.names.lookup x = some .cell := by intros; rfl) (hc : (scope.names.lookup x == some NameKind.cell) = true := by rfl) :
    (∀ (s : Shared) (H : Hp) (C : Addr) (cl : List (Str × Addr)) (fp : List Addr), PG (X.blk s H scope (compEnvC scope cl C X.env) fp) (.Name x pos) (gName i)) ∧
    ∀ v u σ sa sa' ρ H Q, Rp X.K ρ H v u → SRp X.K ρ H sa σ → c1 i v sa = some sa' → (∀ σ', SRp X.K ρ H sa' σ' → L2.wipe σ' (own.map (·.2)) = L2.wipe σ (own.map (·.2)) → Q σ' H) → gName i u σ H Q :=
  ⟨fun s H C cl fp => pg_name (X := X.blk s H scope (compEnvC scope cl C X.env) fp) hN hi (Or.inr (hx _ _)) (Or.inl hc), fun v u σ sa sa' ρ H Q r rs e q => by
    cases e
    exact q _ (rs.set i r) (wipe_set hv)⟩
end
end Z

/-! instances: fields, methods, makers -/
namespace Z
open PySem PySem.Spec PyProof.Rows L2

def putA (f : Str) (v : A) : List (Str × A) → List (Str × A)
  | [] => [(f, v)]
  | (g, x) :: r => if g = f then (g, v) :: r else (g, x) :: putA f v r
section
variable {K : PySem.W.Frag} {ρ : List Addr} {H : Hp}
theorem rpf_nil {gs : List (Str × V)} (h : RpF K ρ H ([] : List (Str × A)) gs) : gs = [] := by
  have := h.1
  simp at this
  exact this
theorem rpf_cons {g : Str} {x : A} {fs : List (Str × A)} {gs : List (Str × V)} (h : RpF K ρ H ((g, x) :: fs) gs) : ∃ u gs', gs = (g, u) :: gs' ∧ Rp K ρ H x u ∧ RpF K ρ H fs gs' := by
  obtain ⟨h1, h2⟩ := h
  cases gs with
  | nil => simp at h1
  | cons p gs' =>
    obtain ⟨g', u⟩ := p
    simp only [List.map_cons, List.cons.injEq] at h1
    obtain ⟨e, h1⟩ := h1
    simp only [List.map_cons, RpL] at h2
    obtain ⟨v, vs', e2, r, t⟩ := h2
    cases e2
    have e : g = g' := e
    subst e
    exact ⟨u, gs', rfl, r, h1, t⟩
theorem rpf_mk {g : Str} {x : A} {u : V} {fs : List (Str × A)} {gs : List (Str × V)} (r : Rp K ρ H x u) (h : RpF K ρ H fs gs) : RpF K ρ H ((g, x) :: fs) ((g, u) :: gs) := by
  refine ⟨by simp only [List.map_cons, h.1], ?_⟩
  simp only [List.map_cons]
  exact RpL.cons r h.2
theorem rpf_len {fs : List (Str × A)} {gs : List (Str × V)} (h : RpF K ρ H fs gs) : fs.length = gs.length := by
  have := congrArg List.length h.1
  simpa using this
theorem rpf_put {f : Str} {v : A} {u : V} (r : Rp K ρ H v u) : ∀ {fs : List (Str × A)} {gs : List (Str × V)}, RpF K ρ H fs gs → RpF K ρ H (putA f v fs) (putF f u gs)
  | [], gs, h => by
    obtain rfl := rpf_nil h
    exact rpf_mk r h
  | (g, x) :: fs, gs, h => by
    obtain ⟨w, gs', rfl, rw', t⟩ := rpf_cons h
    show RpF K ρ H (if g = f then (g, v) :: fs else (g, x) :: putA f v fs) (if g = f then (g, u) :: gs' else (g, w) :: putF f u gs')
    by_cases c : g = f
    · rw [if_pos c, if_pos c]; exact rpf_mk r t
    · rw [if_neg c, if_neg c]; exact rpf_mk rw' (rpf_put r t)
theorem rpf_look {f : Str} : ∀ {fs : List (Str × A)} {gs : List (Str × V)}, RpF K ρ H fs gs → (fs.lookup f = none ∧ gs.lookup f = none) ∨ ∃ v u, fs.lookup f = some v ∧ gs.lookup f = some u ∧ Rp K ρ H v u
  | [], gs, h => by
    obtain rfl := rpf_nil h
    exact .inl ⟨rfl, rfl⟩
  | (g, x) :: fs, gs, h => by
    obtain ⟨w, gs', rfl, rw', t⟩ := rpf_cons h
    by_cases c : (f == g) = true
    · exact .inr ⟨x, w, by simp only [List.lookup, c], by simp only [List.lookup, c], rw'⟩
    · have c : (f == g) = false := by simpa using c
      rcases rpf_look (f := f) t with ⟨a, b⟩ | ⟨v, u, a, b, r⟩
      · exact .inl ⟨by simp only [List.lookup, c]; exact a, by simp only [List.lookup, c]; exact b⟩
      · exact .inr ⟨v, u, by simp only [List.lookup, c]; exact a, by simp only [List.lookup, c]; exact b, r⟩
end
/-- a class of the text -/
structure ClsH (K : PySem.W.Frag) (mg : Str → Option Value) (c : Str) (C : Addr) : Prop where
  at_ : mg c = some (.ref C)
  cls : Cls K C
/-- o.f -/
def oFld (c f : Str) : A → Mo A
  | .ref n => fun ah => match ah[n]? with
    | some (.ins d fs) => if d = c then (match fs.lookup f with
      | some v => .ok v ah
      | none => .no) else .no
    | _ => .no
  | _ => fun _ => .no
theorem oFld_ok {c f : Str} {n : Nat} {ah : AH} {fs : List (Str × A)} {v : A} (e : ah[n]? = some (.ins c fs)) (l : fs.lookup f = some v) : oFld c f (.ref n) ah = .ok v ah := by
  simp only [oFld, e, if_true, l]
theorem oFld_out {c f : Str} {o : A} {ah : AH} : (∃ v, oFld c f o ah = .ok v ah) ∨ oFld c f o ah = .no := by
  unfold oFld
  split
  · split
    · split
      · split
        · exact .inl ⟨_, rfl⟩
        · exact .inr rfl
      · exact .inr rfl
    · exact .inr rfl
  · exact .inr rfl
/-- the instance that is meant -/
theorem oFld_rel {Γ : G} {c f : Str} {C : Addr} {ρ : List Addr} {ah : AH} {H : Hp} {o v : A} {u : V} (S : Sim Γ ρ ah H) (h : ClsH Γ.K Γ.mg c C) (r : Rp Γ.K ρ H o u) (e : oFld c f o ah = .ok v ah) :
    ∃ a dx gs w, u = .ref a ∧ H a = some (.ins C dx gs) ∧ gs.lookup f = some w ∧ Rp Γ.K ρ H v w := by
  unfold oFld at e
  split at e
  · rename_i n
    try dsimp only at e
    split at e
    · rename_i d fs eo
      split at e
      · rename_i cd
        subst cd
        split at e
        · rename_i x el
          cases e
          rw [Rp.ref_] at r
          obtain ⟨a, rfl, ea⟩ := r
          obtain ⟨C', dx, gs, m, eh, rf⟩ := S.ob n _ a eo ea
          rw [h.at_] at m
          cases m
          rcases rpf_look (f := f) rf with ⟨z, _⟩ | ⟨v', w, e1, e2, rw'⟩
          · rw [z] at el; cases el
          · rw [e1] at el; cases el
            exact ⟨a, dx, gs, w, rfl, eh, e2, rw'⟩
        · cases e
      · cases e
    · cases e
  · cases e
section
variable {X : Cx} {tb : Addr → Prop} {W : WX} {e o value : Expr} {m mo mv : ME} {c f : Str} {C : Addr} {pos pos' : Pos}
theorem t_fld (h : ClsH X.K X.mg c C) (n : NoAttr X.K C f) (he : Tri X (gO X tb) W e m) (hb : attributeBase e f X.env (eval e X.env) = eval e X.env := by rfl) : Tri X (gO X tb) W (.Attribute e f pos) (m1 (oFld c f) m) := by
  refine pe_weak (pe_fld he hb) fun σ H Q ⟨ρ, ah, sa, S, rs, p⟩ => ?_
  refine ⟨ρ, ah, sa, S, rs, p.bind.imp fun u H1 ⟨ρ1, ah1, v, S1, p1, k1, r1, q1⟩ => ?_⟩
  rcases oFld_out (c := c) (f := f) (o := v) (ah := ah1) with ⟨x, ex⟩ | ex
  · rw [ex] at q1
    obtain ⟨a, dx, gs, w, rfl, eh, el, rw'⟩ := oFld_rel S1 h r1 ex
    exact ⟨a, C, dx, gs, w, rfl, eh, h.cls, n, el, Pst.ret S1 rw' q1⟩
  · rw [ex] at q1; exact q1.elim
/-- o.f = v -/
def oFldS (c f : Str) (o v : A) (s : SA) (h : AH) : Rt := match o with
  | .ref n => match h[n]? with
    | some (.ins d fs) => if d = c ∧ fs.length < 1000 then .nx s (h.set n (.ins d (putA f v fs))) else .no
    | _ => .no
  | _ => .no
theorem oFldS_ok {n : Nat} {s : SA} {h : AH} {fs : List (Str × A)} {v : A} (e : h[n]? = some (.ins c fs)) (l : fs.length < 1000) : oFldS c f (.ref n) v s h = .nx s (h.set n (.ins c (putA f v fs))) := by
  simp only [oFldS, e]
  rw [if_pos ⟨trivial, l⟩]
theorem oFldS_rel {Γ : G} {ρ : List Addr} {ah : AH} {H : Hp} {D : Ends} {sa : SA} {σ : L2.St} {o v : A} {x u : V} (S : Sim Γ ρ ah H) (rs : SRp Γ.K ρ H sa σ) (h : ClsH Γ.K Γ.mg c C) (r : Rp Γ.K ρ H o x) (r2 : Rp Γ.K ρ H v u) (p : PstS Γ W ρ H D (oFldS c f o v sa ah)) :
    ∃ a dx gs, x = .ref a ∧ H a = some (.ins C dx gs) ∧ gs.length < 1000 ∧ D.nx σ (upd H a (.ins C dx (putF f u gs))) := by
  unfold oFldS at p
  split at p
  · rename_i n
    split at p
    · rename_i d fs eo
      split at p
      · rename_i cd
        obtain ⟨cd, cl⟩ := cd
        subst cd
        rw [Rp.ref_] at r
        obtain ⟨a, rfl, ea⟩ := r
        obtain ⟨C', dx, gs, m, eh, rf⟩ := S.ob n _ a eo ea
        have em : Γ.mg d = some (.ref C) := h.at_
        rw [em] at m
        cases m
        refine ⟨a, dx, gs, rfl, eh, by rw [← rpf_len rf]; exact cl, ?_⟩
        have k : Kept H (upd H a (.ins C dx (putF f u gs))) := Kept.write eh (fun _ z => by cases z) (fun _ _ z => by cases z) (fun _ z => by cases z)
        have S2 : Sim Γ ρ (ah.set n (.ins d (putA f v fs))) (upd H a (.ins C dx (putF f u gs))) := S.write ea eh (fun _ z => by cases z) (fun _ _ z => by cases z) (fun _ z => by cases z) (fun _ z => by cases z)
          ⟨C, dx, _, em, upd_same, (rpf_put r2 rf).mono (List.prefix_refl _) k⟩
        exact p ρ _ σ S2 (List.prefix_refl _) k (rs.mono (List.prefix_refl _) k)
      · exact p.elim
    · exact p.elim
  · exact p.elim
def gFd (c f : Str) (mo : ME) : MG := fun v s h => (mo s h).st s fun o h1 => oFldS c f o v s h1
theorem ts_fld (h : ClsH X.K X.mg c C) (n : NoAttr X.K C f) (ho : Tri X (gO X tb) W o mo) (hv : Tri X (gO X tb) W value mv) (hs : swapsWith value (some (.Attribute o f pos')) pos.line X.env = pure false := by rfl) : TriS X (gO X tb) W (.Assign [.Attribute o f pos'] value pos) (mAsg mv (gFd c f mo)) := by
  refine ps_weak (ps_fld ho hv hs) fun D σ H ⟨ρ, ah, sa, S, rs, p⟩ => ?_
  refine ⟨ρ, ah, sa, S, rs, (PstS.ofE rs p).imp fun y H1 ⟨ρ1, ah1, v, S1, p1, k1, r1, q1⟩ => ?_⟩
  refine ⟨ρ1, ah1, sa, S1, rs.mono p1 k1, (PstS.ofE (rs.mono p1 k1) q1).imp fun x H2 ⟨ρ2, ah2, ov, S2, p2, k2, r2, q2⟩ => ?_⟩
  obtain ⟨a, dx, gs, e1, e2, e3, q⟩ := oFldS_rel S2 (rs.mono (p1.trans p2) (k1.trans k2)) h r2 (Rp.mono p2 k2 _ _ r1) q2
  exact ⟨a, C, dx, gs, e1, e2, h.cls, n, e3, q⟩
/-- o.f op= v -/
def mAugF (c f : Str) (mo : ME) (op : A → A → Mo A) (mv : ME) : MS := fun s h => (mo s h).st s fun o h1 => (oFld c f o h1).st s fun x h2 => (mv s h2).st s fun y h3 => (op x y h3).st s fun z h4 => oFldS c f o z s h4
def IoM (X : Cx) (Γ : G) (W : WX) (op : Operator) (mo : A → A → Mo A) : Prop :=
  ∃ r, InOp X op r ∧ ∀ σ v1 v2 ah ρ H u1 u2 Q, Sim Γ ρ ah H → Rp Γ.K ρ H v1 u1 → Rp Γ.K ρ H v2 u2 → Pst Γ W σ ρ H Q (mo v1 v2 ah) → r u1 u2 H Q
theorem io_add : IoM X (gO X tb) W .Add oIAdd := ⟨_, in_add, fun σ v1 v2 ah ρ H u1 u2 Q S r1 r2 p => by
  unfold oIAdd at p
  split at p
  · rw [Rp.int_] at r1 r2
    exact ⟨_, _, r1, r2, Pst.ret S (Rp.int_.mpr rfl) p⟩
  · exact p.elim⟩
theorem io_sub : IoM X (gO X tb) W .Sub oSub := ⟨_, in_sub, fun σ v1 v2 ah ρ H u1 u2 Q S r1 r2 p => by
  unfold oSub at p
  split at p
  · rw [Rp.int_] at r1 r2
    exact ⟨_, _, r1, r2, Pst.ret S (Rp.int_.mpr rfl) p⟩
  · exact p.elim⟩
theorem ts_augF {op : Operator} {mop : A → A → Mo A} {tpos : Pos} (hop : IoM X (gO X tb) W op mop) (h : ClsH X.K X.mg c C) (n : NoAttr X.K C f) (ho : Tri X (gO X tb) W o mo) (hv : Tri X (gO X tb) W value mv) : TriS X (gO X tb) W (.AugAssign (.Attribute o f tpos) op value pos) (mAugF c f mo mop mv) := by
  obtain ⟨r, g1, g2⟩ := hop
  refine ps_weak (ps_fldaug ho hv g1) fun D σ H ⟨ρ, ah, sa, S, rs, p⟩ => ?_
  refine ⟨ρ, ah, sa, S, rs, (PstS.ofE rs p).imp fun x H1 ⟨ρ1, ah1, ov, S1, p1, k1, r1, q1⟩ => ?_⟩
  rcases oFld_out (c := c) (f := f) (o := ov) (ah := ah1) with ⟨fv, ex⟩ | ex
  · rw [ex] at q1
    obtain ⟨a, dx, gs, w, rfl, eh, el, rw'⟩ := oFld_rel S1 h r1 ex
    have rs1 := rs.mono p1 k1
    have q1 : PstS (gO X tb) W ρ1 H1 D ((mv sa ah1).st sa fun y h3 => (mop fv y h3).st sa fun z h4 => oFldS c f ov z sa h4) := q1
    refine ⟨a, C, dx, gs, w, rfl, eh, h.cls, n, el, ρ1, ah1, sa, S1, rs1, (PstS.ofE rs1 q1).imp fun y H2 ⟨ρ2, ah2, yv, S2, p2, k2, r2, q2⟩ => ?_⟩
    have rs2 := rs1.mono p2 k2
    refine g2 σ fv yv ah2 ρ2 H2 w y _ S2 (Rp.mono p2 k2 _ _ rw') r2 ((PstS.ofE rs2 q2).imp fun z H3 ⟨ρ3, ah3, zv, S3, p3, k3, r3, q3⟩ => ?_)
    obtain ⟨a', dx', gs', e1, e2, e3, q⟩ := oFldS_rel S3 (rs2.mono p3 k3) h (Rp.mono (p2.trans p3) (k2.trans k3) _ _ r1) r3 q3
    cases e1
    exact ⟨dx', gs', e2, e3, q⟩
  · rw [ex] at q1; exact q1.elim
end
/-! ### items changed -/
/-- o[i] op= e -/
def mAugS (mg : A → A → Mo A) (mo mi : ME) (op : A → A → Mo A) (mv : ME) (st : A → A → A → SA → AH → Rt) : MS := fun s h => (mo s h).st s fun o h1 => (mi s h1).st s fun i h2 => (mg o i h2).st s fun x h3 => (mv s h3).st s fun y h4 => (op x y h4).st s fun z h5 => st o i z s h5
section
variable {X : Cx} {tb : Addr → Prop} {W : WX} {e o i value : Expr} {me mo mi mv : ME} {pos pos' : Pos}
def rGetL : V → V → Hp → VK → Prop := fun o i H Q => ∃ p xs k v, o = .ref p ∧ i = .int k ∧ H p = some (.lst xs) ∧ atI xs k = some v ∧ Q v H
theorem pget_list : PGet X rGetL := by
  intro pins s σ H o i ov iv Q I rx ry h
  obtain ⟨p, xs, i, z, rfl, rfl, hp, he, q⟩ := h
  cases rx
  obtain ⟨t, rfl⟩ := ry
  obtain ⟨its, r, pl, hz⟩ := I.list (.inl (.inl hp))
  obtain ⟨j, h1, h2, h3, h4, h5⟩ := atI_get he
  obtain ⟨w, ew, rw'⟩ := r.get h2
  have hl := r.length
  have hn := line63
  have fin : EP X pins σ Q w s := ⟨z, H, I, rw', q⟩
  by_cases h0 : 0 ≤ i
  · have hj : i.toNat = j := by
      rw [seqIndex_of h0 h5] at h1
      exact Option.some.inj h1
    refine wpAny_mono (wpAny_getItem_list (Q := fun r s' => r = w ∧ EP X pins σ Q r s') pl.isList h0 (by omega) (by rw [hj]; simpa using ew) ⟨rfl, fin⟩) (fun _ _ h => h.2) fun _ _ z => z
  · have hj : (i + (its.toArray.size : Int)).toNat = j := by
      rw [seqIndex_neg (by omega) h4] at h1
      rw [List.size_toArray, ← hl]
      exact Option.some.inj h1
    exact wpAny_mono (wpAny_getItem_list_neg (Q := fun r s' => r = w ∧ EP X pins σ Q r s') pl.isList (by omega) (by rw [List.size_toArray] <;> omega) (by omega) (by rw [hj]; simpa using ew) ⟨rfl, fin⟩) (fun _ _ h => h.2) fun _ _ z => z
/-- an item of a list -/
def oIxL : A → A → Mo A
  | .ref n, .int k => fun ah => match ah[n]? with
    | some (.lst xs) => match atI xs k with
      | some v => .ok v ah
      | none => .no
    | _ => .no
  | _, _ => fun _ => .no
theorem oIxL_ok {n : Nat} {k : Int} {xs : List A} {v : A} {ah : AH} (e : ah[n]? = some (.lst xs)) (l : atI xs k = some v) : oIxL (.ref n) (.int k) ah = .ok v ah := by simp only [oIxL, e, l]
theorem oIxL_rel {Γ : G} {σ : L2.St} {ρ : List Addr} {ah : AH} {H : Hp} {Q : VK} {v1 v2 : A} {u1 u2 : V} (S : Sim Γ ρ ah H) (r1 : Rp Γ.K ρ H v1 u1) (r2 : Rp Γ.K ρ H v2 u2) (p : Pst Γ W σ ρ H Q (oIxL v1 v2 ah)) : rGetL u1 u2 H Q := by
  unfold oIxL at p
  split at p
  · rw [Rp.ref_] at r1
    rw [Rp.int_] at r2
    obtain ⟨a, rfl, ea⟩ := r1
    try dsimp only at p
    split at p
    · rename_i xs e
      split at p
      · rename_i v ev
        obtain ⟨vs, hv, rl⟩ := sim_lst S e ea
        obtain ⟨u, e1, r3⟩ := rl.atI ev
        exact ⟨a, vs, _, u, rfl, r2, hv, e1, Pst.ret S r3 p⟩
      · exact p.elim
    · exact p.elim
  · exact p.elim
theorem ts_augS {op : Operator} {mop : A → A → Mo A} {tpos : Pos} (hop : IpM X (gO X tb) W op mop) (ho : Tri X (gO X tb) W o mo) (hi : Tri X (gO X tb) W i mi) (hv : Tri X (gO X tb) W value mv)
    (ha : ∀ ov iv new, augStore i ov iv new = (do holding [new, ov, iv] (setItem ov iv new); release [new, ov, iv] []; pure .next) := by intros; rfl) : TriS X (gO X tb) W (.AugAssign (.Subscript o i tpos) op value pos) (mAugS oIxL mo mi mop mv oSet) := by
  obtain ⟨r, g1, g2⟩ := hop
  refine ps_weak (ps_augS ho hi pget_list hv g1 set_list ha) fun D σ H ⟨ρ, ah, sa, S, rs, p⟩ => ?_
  refine ⟨ρ, ah, sa, S, rs, (PstS.ofE rs p).imp fun x H1 ⟨ρ1, ah1, ov, S1, p1, k1, r1, q1⟩ => ?_⟩
  have rs1 := rs.mono p1 k1
  refine ⟨ρ1, ah1, sa, S1, rs1, (PstS.ofE rs1 q1).imp fun x2 H2 ⟨ρ2, ah2, iv, S2, p2, k2, r2, q2⟩ => ?_⟩
  have rs2 := rs1.mono p2 k2
  refine oIxL_rel (W := W) (σ := σ) S2 (Rp.mono p2 k2 _ _ r1) r2 ((PstS.ofE rs2 q2).imp fun x3 H3 ⟨ρ3, ah3, xv, S3, p3, k3, r3, q3⟩ => ?_)
  have rs3 := rs2.mono p3 k3
  refine ⟨ρ3, ah3, sa, S3, rs3, (PstS.ofE rs3 q3).imp fun x4 H4 ⟨ρ4, ah4, yv, S4, p4, k4, r4, q4⟩ => ?_⟩
  have rs4 := rs3.mono p4 k4
  refine g2 σ xv yv ah4 ρ4 H4 x3 x4 _ S4 (Rp.mono p4 k4 _ _ r3) r4 ((PstS.ofE rs4 q4).imp fun x5 H5 ⟨ρ5, ah5, zv, S5, p5, k5, r5, q5⟩ => ?_)
  exact oSet_rel S5 (rs4.mono p5 k5) (Rp.mono (p2.trans (p3.trans (p4.trans p5))) (k2.trans (k3.trans (k4.trans k5))) _ _ r1) (Rp.mono (p3.trans (p4.trans p5)) (k3.trans (k4.trans k5)) _ _ r2) r5 q5
end
/-! ### methods -/
def HasMe (P : Program) (w : World) (K : PySem.W.Frag) (mg : Str → Option Value) (base : Heap) (tb : Addr → Prop) (c m : Str) (k n : Nat) (F : MF) : Prop :=
  ∃ C f fd ps, ClsH K mg c C ∧ Meth K C m f ∧ ps.length = n ∧ FnOk P w K mg base (L2.CX P w) k f fd ps (spF ⟨K, mg, tb⟩ n F) ∧ Binds K fd ps []
/-- an instance of the class without a field of that name -/
def isMe (c m : Str) (ah : AH) : A → Bool
  | .ref n => match ah[n]? with
    | some (.ins d fs) => decide (d = c) && (fs.lookup m).isNone
    | _ => false
  | _ => false
def mMe (c m : Str) (F : MF) (mo : ME) (ms : List ME) : ME := fun sa ah => (mo sa ah).bind fun v ah1 => if isMe c m ah1 v = true then (mArgs ms sa ah1).bind fun vs ah2 => F (v :: vs) ah2 else .no
theorem isMe_rel {Γ : G} {c m : Str} {C : Addr} {ρ : List Addr} {ah : AH} {H : Hp} {o : A} {u : V} (S : Sim Γ ρ ah H) (h : ClsH Γ.K Γ.mg c C) (r : Rp Γ.K ρ H o u) (e : isMe c m ah o = true) :
    ∃ a dx gs, u = .ref a ∧ H a = some (.ins C dx gs) ∧ gs.lookup m = none := by
  unfold isMe at e
  split at e
  · rename_i n
    split at e
    · rename_i d fs eo
      rw [Bool.and_eq_true] at e
      obtain ⟨e1, e2⟩ := e
      have cd : d = c := of_decide_eq_true e1
      subst cd
      rw [Rp.ref_] at r
      obtain ⟨a, rfl, ea⟩ := r
      obtain ⟨C', dx, gs, mm, eh, rf⟩ := S.ob n _ a eo ea
      have em : Γ.mg d = some (.ref C) := h.at_
      rw [em] at mm
      cases mm
      rcases rpf_look (f := m) rf with ⟨_, z⟩ | ⟨v', w, e1, _, _⟩
      · exact ⟨a, dx, gs, rfl, eh, z⟩
      · rw [e1] at e2; cases e2
    · cases e
  · cases e
def tMethS (C : Addr) (m : Str) (sp : Sp) (E : L2.St → XK) (ta : TE) (t : TA) : TE := fun σ H Q => ta σ H fun x H1 => ∃ a dx fs, x = .ref a ∧ H1 a = some (.ins C dx fs) ∧ fs.lookup m = none ∧ t σ H1 fun vs H2 => sp (x :: vs) H2 Q (E σ)
section
variable {X : Cx} {CX : CXT} {k : Nat} {f C : Addr} {fd : FuncData} {ps : List Str} {sp : Sp} {E : L2.St → XK} {x m : Str} {p pos apos : Pos} {e o : Expr} {es : List Expr} {ta : TE} {t : TA}
theorem pe_methE {pl : Sem Bool} (he : PE X o ta) (c : Cls X.K C) (hm : Meth X.K C m f) (F : FnOk X.prog X.w X.K X.mg X.base CX k f fd ps sp) (hr : Room k X.A) (hb : Binds X.K fd ps []) (hx : ∀ σ, PassesAt CX X σ (E σ)) (ha : PA X (e :: es) t)
    (hst : starEach (e :: es) X.env = (false, eval e X.env) :: starEach es X.env := by rfl) (hpl : (backTo pos (starEach es X.env)).any (·.1) = false := by rfl)
    (ht : eval (.Call (.Attribute o m apos) (e :: es) [] pos) X.env = (do
      let ov ← eval o X.env
      standAt apos.atName
      let (f, first) ← holding [ov] (getMethod ov m pl)
      callWith pos f first (backTo pos (starEach (e :: es) X.env)) (backToKw pos (keywordEach [] X.env))) := by rfl) :
    PE X (.Call (.Attribute o m apos) (e :: es) [] pos) (tMethS C m sp E ta t) := by
  refine ⟨fun pins s σ H Q I h => ?_⟩
  refine PySem.W.methodCall_KW (pl := pl) (thn (he.run pins s σ H _ I h) fun u s1 ⟨x, H1, I1, rx, a, dx, fs, ex, ea, l, q⟩ => ?_) ht
  subst ex
  obtain rfl : u = Value.ref a := rx
  refine getmeth_ok I1 ea c hm l ?_
  refine PySem.W.callWith_K (first := [.ref a]) (h₀ := X.base) I.ok.mod.kin hm.kp (thn (ha.run pos pins s1 σ H1 _ I1 q) fun us s2 ⟨vs, H2, I2, r, q2⟩ => ⟨I2.kIn, ?_⟩) hst hpl
  exact run_fnS (us := .ref a :: us) (vs := .ref a :: vs) F hr hb (hx σ) I2 (.cons rfl r) q2
theorem pe_methE0 {pl : Sem Bool} (he : PE X o ta) (c : Cls X.K C) (hm : Meth X.K C m f) (F : FnOk X.prog X.w X.K X.mg X.base CX k f fd ps sp) (hr : Room k X.A) (hb : Binds X.K fd ps []) (hx : ∀ σ, PassesAt CX X σ (E σ))
    (ht : eval (.Call (.Attribute o m apos) [] [] pos) X.env = (do
      let ov ← eval o X.env
      standAt apos.atName
      let (f, first) ← holding [ov] (getMethod ov m pl)
      callWith pos f first (backTo pos (starEach [] X.env)) (backToKw pos (keywordEach [] X.env))) := by rfl) :
    PE X (.Call (.Attribute o m apos) [] [] pos) (tMethS C m sp E ta tNil) := by
  refine ⟨fun pins s σ H Q I h => ?_⟩
  refine PySem.W.methodCall_KW (pl := pl) (thn (he.run pins s σ H _ I h) fun u s1 ⟨x, H1, I1, rx, a, dx, fs, ex, ea, l, q⟩ => ?_) ht
  subst ex
  obtain rfl : u = Value.ref a := rx
  refine getmeth_ok I1 ea c hm l ?_
  exact PySem.W.callWith_K0 (first := [.ref a]) I1.kIn hm.kp (run_fnS (us := [.ref a]) (vs := [.ref a]) F hr hb (hx σ) I1 (.cons rfl .nil) q)
def tMakeS (C : Addr) (sp : Sp) (E : L2.St → XK) (t : TA) : TE := fun σ H Q => t σ H fun vs H1 => ∀ x dx, H1 x = none → H1 dx = none → dx ≠ x →
  sp (.ref x :: vs) (upd (upd H1 dx (.own x)) x (.ins C dx [])) (fun v H2 => v = .non ∧ Q (.ref x) H2) (E σ)
theorem run_makeS {pins : List (Addr × Obj)} {σ : L2.St} {H : Hp} {s : Shared} {Q : VK} {us : List Value} {vs : List V} (M : Mk X.K C f) (F : FnOk X.prog X.w X.K X.mg X.base CX k f fd ps sp) (hr : Room (k + 1) X.A) (hb : Binds X.K fd ps [])
    (hx : PassesAt CX X σ (E σ)) (I : Inv X pins σ H s) (r : Vals vs us)
    (h : ∀ x dx, H x = none → H dx = none → dx ≠ x → sp (.ref x :: vs) (upd (upd H dx (.own x)) x (.ins C dx [])) (fun v H2 => v = .non ∧ Q (.ref x) H2) (E σ)) :
    wpAny (model X.prog X.w) X.A (call (.ref C) us) (EP X pins σ Q) X.xe s := by
  have hq := h (s.heap.objs.size + 1) s.heap.objs.size (I.hok.fresh (Nat.le_succ _)) (I.hok.fresh (Nat.le_refl _)) (Nat.ne_of_lt (Nat.lt_succ_self _))
  have I2 := Inv.made (C := C) I
  have r2 : Vals (V.ref (s.heap.objs.size + 1) :: vs) (Value.ref (s.heap.objs.size + 1) :: us) := .cons rfl r
  have hl : (Value.ref (s.heap.objs.size + 1) :: us).length = ps.length := by
    have e := r2.length
    rw [F.len _ _ _ _ hq] at e
    exact e.symm
  have b := hb { s with heap := (s.heap.push PySem.W.emptyDict).push (PySem.W.instObj C s.heap.objs.size) } (Value.ref (s.heap.objs.size + 1) :: us) I2.kIn (by rw [List.append_nil]; exact hl)
  rw [List.append_nil] at b
  refine wpAny_call (make_map (f := f) I.kIn M.makes M.init (beq_iff_eq.mp M.fn) (codeAny_mono (F.run _ X.stack _ _ ⟨Value.ref (s.heap.objs.size + 1) :: us, []⟩ (Value.ref (s.heap.objs.size + 1) :: us) _ _ (E σ) (hr.make C us [])
    (I2.env0.make C us []) b r2 hq) fun r s' hq' => ?_))
  cases r with
  | error e => exact hx pins _ _ e s' I2 hq'
  | ok fl =>
    cases fl with
    | ret u =>
      obtain ⟨v, H', I3, rv, ev, q3⟩ := I2.after hq'
      subst ev
      exact ⟨rv, ⟨V.ref (s.heap.objs.size + 1), H', I3, rfl, q3⟩⟩
    | next => exact False.elim hq'
    | brk => exact False.elim hq'
    | cont => exact False.elim hq'
theorem pe_makeS (M : Mk X.K C f) (F : FnOk X.prog X.w X.K X.mg X.base CX k f fd ps sp) (hr : Room (k + 1) X.A) (hg : Gl X x) (hm : X.mg x = some (.ref C)) (hb : Binds X.K fd ps []) (hx : ∀ σ, PassesAt CX X σ (E σ))
    (ha : PA X (e :: es) t) (hdb : (x == ("__debug__" : Str)) = false := by decide) (he : starEach (e :: es) X.env = (false, eval e X.env) :: starEach es X.env := by rfl) (hpl : (backTo pos (starEach es X.env)).any (·.1) = false := by rfl) :
    PE X (.Call (.Name x p) (e :: es) [] pos) (tMakeS C sp E t) := by
  refine ⟨fun pins s σ H Q I h => ?_⟩
  refine wpAny_Call_Name_kw (ld_glob I hg hm ?_ hdb)
  refine PySem.W.callWith_K (h₀ := X.base) I.ok.mod.kin M.kp (thn (ha.run pos pins s σ H _ I h) fun us s1 ⟨vs, H1, I1, r, q⟩ => ⟨I1.kIn, ?_⟩) he hpl
  exact run_makeS M F hr hb (hx σ) I1 r q
theorem pe_makeS0 (M : Mk X.K C f) (F : FnOk X.prog X.w X.K X.mg X.base CX k f fd ps sp) (hr : Room (k + 1) X.A) (hg : Gl X x) (hm : X.mg x = some (.ref C)) (hb : Binds X.K fd ps []) (hx : ∀ σ, PassesAt CX X σ (E σ))
    (hdb : (x == ("__debug__" : Str)) = false := by decide) : PE X (.Call (.Name x p) [] [] pos) (tMakeS C sp E tNil) := by
  refine ⟨fun pins s σ H Q I h => ?_⟩
  refine wpAny_Call_Name_kw (ld_glob I hg hm ?_ hdb)
  exact PySem.W.callWith_K0 I.kIn M.kp (run_makeS (us := []) M F hr hb (hx σ) I .nil h)
end
section
variable {X : Cx} {tb : Addr → Prop} {W : WX} {o e : Expr} {es : List Expr} {mo : ME} {ms : List ME} {c m : Str} {k n : Nat} {F : MF} {p pos apos : Pos}
theorem t_me {pl : Sem Bool} (h : HasMe X.prog X.w X.K X.mg X.base tb c m k n F) (hr : Room k X.A) (tk : Takes X W) (ho : Tri X (gO X tb) W o mo) (ha : TriA X (gO X tb) W (e :: es) ms) (hn : ms.length + 1 = n := by rfl)
    (hst : starEach (e :: es) X.env = (false, eval e X.env) :: starEach es X.env := by rfl) (hpl : (backTo pos (starEach es X.env)).any (·.1) = false := by rfl)
    (ht : eval (.Call (.Attribute o m apos) (e :: es) [] pos) X.env = (do
      let ov ← eval o X.env
      standAt apos.atName
      let (f, first) ← holding [ov] (getMethod ov m pl)
      callWith pos f first (backTo pos (starEach (e :: es) X.env)) (backToKw pos (keywordEach [] X.env))) := by rfl) :
    Tri X (gO X tb) W (.Call (.Attribute o m apos) (e :: es) [] pos) (mMe c m F mo ms) := by
  obtain ⟨C, f, fd, ps, hC, hM, hl, G, hb⟩ := h
  refine pe_weak (pe_methE (E := fun σ => WE W σ) (pl := pl) ho hC.cls hM G hr hb (fun σ => passAt tk σ) ha hst hpl ht) fun σ H Q ⟨ρ, ah, sa, S, rs, p⟩ => ?_
  refine ⟨ρ, ah, sa, S, rs, p.bind.imp fun u H1 ⟨ρ1, ah1, v, S1, p1, k1, r1, q1⟩ => ?_⟩
  by_cases cc : isMe c m ah1 v = true
  · rw [if_pos cc] at q1
    obtain ⟨a, dx, gs, rfl, eh, el⟩ := isMe_rel S1 hC r1 cc
    refine ⟨a, dx, gs, rfl, eh, el, ρ1, ah1, sa, S1, rs.mono p1 k1, (PstL.bindEq q1).imp fun us H2 ⟨ρ2, ah2, vs, ev, S2, p2, k2, r2, q2⟩ => ?_⟩
    exact ⟨ρ2, ah2, v :: vs, S2, RpL.cons (Rp.mono p2 k2 _ _ r1) r2, by rw [List.length_cons, mArgs_len ev, hn], q2.flat fun _ _ _ h => h⟩
  · rw [if_neg cc] at q1; exact q1.elim
theorem t_me0 {pl : Sem Bool} (h : HasMe X.prog X.w X.K X.mg X.base tb c m k 1 F) (hr : Room k X.A) (tk : Takes X W) (ho : Tri X (gO X tb) W o mo)
    (ht : eval (.Call (.Attribute o m apos) [] [] pos) X.env = (do
      let ov ← eval o X.env
      standAt apos.atName
      let (f, first) ← holding [ov] (getMethod ov m pl)
      callWith pos f first (backTo pos (starEach [] X.env)) (backToKw pos (keywordEach [] X.env))) := by rfl) :
    Tri X (gO X tb) W (.Call (.Attribute o m apos) [] [] pos) (mMe c m F mo []) := by
  obtain ⟨C, f, fd, ps, hC, hM, hl, G, hb⟩ := h
  refine pe_weak (pe_methE0 (E := fun σ => WE W σ) (pl := pl) ho hC.cls hM G hr hb (fun σ => passAt tk σ) ht) fun σ H Q ⟨ρ, ah, sa, S, rs, p⟩ => ?_
  refine ⟨ρ, ah, sa, S, rs, p.bind.imp fun u H1 ⟨ρ1, ah1, v, S1, p1, k1, r1, q1⟩ => ?_⟩
  by_cases cc : isMe c m ah1 v = true
  · rw [if_pos cc] at q1
    obtain ⟨a, dx, gs, rfl, eh, el⟩ := isMe_rel S1 hC r1 cc
    refine ⟨a, dx, gs, rfl, eh, el, ρ1, ah1, [v], S1, RpL.cons r1 RpL.nil, rfl, ?_⟩
    have q2 : Pst (gO X tb) W σ ρ1 H1 Q (F [v] ah1) := q1
    exact q2.flat fun _ _ _ h => h
  · rw [if_neg cc] at q1; exact q1.elim
/-! ### makers -/
def HasMk (P : Program) (w : World) (K : PySem.W.Frag) (mg : Str → Option Value) (base : Heap) (tb : Addr → Prop) (c : Str) (k n : Nat) (F : MF) : Prop :=
  ∃ C f fd ps, ClsH K mg c C ∧ Mk K C f ∧ ps.length = n ∧ FnOk P w K mg base (L2.CX P w) k f fd ps (spF ⟨K, mg, tb⟩ n F) ∧ Binds K fd ps []
def mkA (c : Str) (F : MF) (vs : List A) (h : AH) : Rs A := (F (.ref h.length :: vs) (h ++ [.ins c []])).bind fun v h2 => match v with
  | .non => .ok (.ref h.length) h2
  | _ => .no
def mMk (c : Str) (F : MF) (ms : List ME) : ME := mBi (mkA c F) ms
theorem Sim.newI {Γ : G} {ρ : List Addr} {ah : AH} {H : Hp} {c : Str} {C x dx : Addr} (S : Sim Γ ρ ah H) (hC : ClsH Γ.K Γ.mg c C) (hx : H x = none) (hd : H dx = none) (ne : dx ≠ x) :
    Sim Γ (ρ ++ [x]) (ah ++ [.ins c []]) (upd (upd H dx (.own x)) x (.ins C dx [])) ∧ Kept H (upd (upd H dx (.own x)) x (.ins C dx [])) := by
  have hx2 : (upd H dx (HO.own x)) x = none := by rw [upd_ne (Ne.symm ne)]; exact hx
  exact ⟨(S.beside hd).new hx2 ⟨C, dx, [], hC.at_, upd_same, rfl, RpL.nil⟩, (Kept.new hd).trans (Kept.new hx2)⟩
theorem mk_rel {σ σ' : L2.St} {ρ : List Addr} {ah : AH} {H : Hp} {Q : VK} {vs : List A} {us : List V} {C : Addr} (S : Sim (gO X tb) ρ ah H) (hC : ClsH X.K X.mg c C) (r : RpL X.K ρ H vs us) (hl : vs.length + 1 = n) (p : Pst (gO X tb) W σ ρ H Q (mkA c F vs ah)) (x dx : Addr) (hx : H x = none) (hd : H dx = none) (ne : dx ≠ x) :
    spF ⟨X.K, X.mg, tb⟩ n F (.ref x :: us) (upd (upd H dx (.own x)) x (.ins C dx [])) (fun v H2 => v = .non ∧ Q (.ref x) H2) (WE W σ) := by
  obtain ⟨S2, k2⟩ := Sim.newI S hC hx hd ne
  have ex : (ρ ++ [x])[ah.length]? = some x := by rw [← S.len]; simp
  refine ⟨ρ ++ [x], ah ++ [.ins c []], .ref ah.length :: vs, S2, RpL.cons (Rp.ref_.mpr ⟨x, rfl, ex⟩) (RpL.mono ⟨[x], rfl⟩ k2 _ _ r), by rw [List.length_cons, hl], ?_⟩
  unfold mkA at p
  have p2 := (Pst.later p ⟨[x], rfl⟩ k2)
  cases e : F (.ref ah.length :: vs) (ah ++ [.ins c []]) with
  | ok v h' =>
    rw [e] at p2
    intro ρ' H' u S' a b r'
    cases v with
    | non =>
      rw [Rp.non_] at r'
      refine ⟨r', p2 ρ' H' _ S' a b (Rp.ref_.mpr ⟨x, rfl, ?_⟩)⟩
      obtain ⟨t, rfl⟩ := a
      rw [List.getElem?_append_left (by rw [List.length_append, S.len]; simp)]
      exact ex
    | _ => exact p2.elim
  | ex e' h' =>
    rw [e] at p2
    exact p2
  | no => rw [e] at p2; exact p2.elim
theorem t_mk (h : HasMk X.prog X.w X.K X.mg X.base tb c k n F) (hr : Room (k + 1) X.A) (tk : Takes X W) (ha : TriA X (gO X tb) W (e :: es) ms) (hn : ms.length + 1 = n := by rfl) (hg : Gl X c := by rfl) (hdb : (c == ("__debug__" : Str)) = false := by decide)
    (he : starEach (e :: es) X.env = (false, eval e X.env) :: starEach es X.env := by rfl) (hpl : (backTo pos (starEach es X.env)).any (·.1) = false := by rfl) : Tri X (gO X tb) W (.Call (.Name c p) (e :: es) [] pos) (mMk c F ms) := by
  obtain ⟨C, f, fd, ps, hC, hM, hl, G, hb⟩ := h
  refine pe_weak (pe_makeS (E := fun σ => WE W σ) hM G hr hg hC.at_ hb (fun σ => passAt tk σ) ha hdb he hpl) fun σ H Q ⟨ρ, ah, sa, S, rs, p⟩ => ?_
  refine ⟨ρ, ah, sa, S, rs, (PstL.bindEq p).imp fun us H1 ⟨ρ1, ah1, vs, ev, S1, p1, k1, r1, q1⟩ => ?_⟩
  exact fun x dx hx hd ne => mk_rel (σ' := σ) S1 hC r1 (by rw [mArgs_len ev, hn]) q1 x dx hx hd ne
theorem t_mk0 (h : HasMk X.prog X.w X.K X.mg X.base tb c k 1 F) (hr : Room (k + 1) X.A) (tk : Takes X W) (hg : Gl X c := by rfl) (hdb : (c == ("__debug__" : Str)) = false := by decide) : Tri X (gO X tb) W (.Call (.Name c p) [] [] pos) (mMk c F []) := by
  obtain ⟨C, f, fd, ps, hC, hM, hl, G, hb⟩ := h
  refine pe_weak (pe_makeS0 (E := fun σ => WE W σ) hM G hr hg hC.at_ hb (fun σ => passAt tk σ) hdb) fun σ H Q ⟨ρ, ah, sa, S, rs, p⟩ => ?_
  exact fun x dx hx hd ne => mk_rel (σ' := σ) (n := 1) (vs := []) (us := []) S hC RpL.nil rfl p x dx hx hd ne
end
/-! ### the rule for a method -/
section
variable {x : Str} {tb : Addr → Prop} {n k : Nat}
theorem me_okF {P : Program} {w : World} {K : PySem.W.Frag} {mg : Str → Option Value} {base : Heap} {qual : Str} {st : Stmt} {f : Addr} {fd : FuncData} {N ps : List Str} (Fn : Fun K x qual st f fd) (Sc : FnScope N ps (defScope st))
    {b : MS} (hps : ps.length = n := by rfl) (hN : N.length = k := by rfl) {lv : Nat}
    (hbody : ∀ (cdv : Value) (A : Around) (outer : List Env) (s : Shared) (H : Hp) (E : XK) (W : WX), Room lv (A.deeper (envOfC qual (defScope st) s.heap.objs.size f cdv)) →
      (X : Cx) → X = cxOf (L2.CX P w) P w K mg base N qual (defScope st) f cdv A outer s H E → Takes X W → PassesOwn (model X.prog X.w) X.A X.env X.xe → TriB (cxOf (L2.CX P w) P w K mg base N qual (defScope st) f cdv A outer s H E) ⟨K, mg, tb⟩ W (defBody st) b) :
    FnOk P w K mg base (L2.CX P w) (lv + 1) f fd ps (spF ⟨K, mg, tb⟩ n (mFn k b)) := by
  refine Fn.okX Sc (fun us H Q E h => ?_) (fun cdv A outer s H us Q E hr h => ?_)
  · obtain ⟨ρ, ah, vs, S, r, hl, _⟩ := h
    rw [← r.length, hl, hps]
  · obtain ⟨ρ, ah, vs, S, r, hl, p⟩ := h
    refine ⟨_, hbody cdv A outer s H E (fun cls d _ H => E cls d H) hr _ rfl (takes_of rfl rfl rfl rfl) (passes_of rfl), ?_⟩
    refine ⟨ρ, ah, vs.map some ++ List.replicate (N.length - vs.length) none, S, ?_, ?_⟩
    · unfold L2.start
      rw [r.length]
      exact SRp.start _ r
    · unfold mFn at p
      rw [← hN] at p
      cases e : b (vs.map some ++ List.replicate (N.length - vs.length) none) ah with
      | nx s' h' => rw [e] at p; exact fun ρ' H' σ' S' a b' r' => p ρ' H' .non S' a b' (Rp.non_.mpr rfl)
      | rt v h' => rw [e] at p; exact p
      | bk s' h' => rw [e] at p; exact p.elim
      | ct s' h' => rw [e] at p; exact p.elim
      | ex e' s' h' => rw [e] at p; exact fun ρ' H' σ' cls d S' a b' r' x' => p ρ' H' cls d S' a b' x'
      | no => rw [e] at p; exact p.elim
end
end Z

/-! dicts with ints and texts as keys -/
namespace Z
open PySem PySem.Spec PyProof.Rows L2
/-- a key -/
def keyA : A → Option Key
  | .int i => some (.inl i)
  | .str x => some (.inr x)
  | _ => none
def valA (kvs : List (Key × A)) (k : Key) : Option A := (kvs.find? fun kv => decide (kv.1 = k)).map (·.2)
def putKA (kvs : List (Key × A)) (k : Key) (v : A) : List (Key × A) :=
  if (kvs.any fun kv => decide (kv.1 = k)) = true then kvs.map (fun kv => if kv.1 = k then (kv.1, v) else kv) else kvs ++ [(k, v)]
def dropKA (kvs : List (Key × A)) (k : Key) : List (Key × A) := kvs.filter fun kv => decide (kv.1 ≠ k)
section
variable {K : PySem.W.Frag} {ρ : List Addr} {H : Hp}
theorem keyA_rel {v : A} {u : V} {k : Key} (r : Rp K ρ H v u) (e : keyA v = some k) : u = kV k := by
  cases v with
  | int i => rw [Rp.int_] at r; cases e; exact r
  | str i => rw [Rp.str_] at r; cases e; exact r
  | _ => cases e
theorem rpd_nil {gs : List (Key × V)} (h : RpF K ρ H ([] : List (Key × A)) gs) : gs = [] := by
  have := h.1
  simp at this
  exact this
theorem rpd_cons {g : Key} {x : A} {fs : List (Key × A)} {gs : List (Key × V)} (h : RpF K ρ H ((g, x) :: fs) gs) : ∃ u gs', gs = (g, u) :: gs' ∧ Rp K ρ H x u ∧ RpF K ρ H fs gs' := by
  obtain ⟨h1, h2⟩ := h
  cases gs with
  | nil => simp at h1
  | cons p gs' =>
    obtain ⟨g', u⟩ := p
    simp only [List.map_cons, List.cons.injEq] at h1
    obtain ⟨e, h1⟩ := h1
    simp only [List.map_cons, RpL] at h2
    obtain ⟨v, vs', e2, r, t⟩ := h2
    cases e2
    have e : g = g' := e
    subst e
    exact ⟨u, gs', rfl, r, h1, t⟩
theorem rpd_mk {g : Key} {x : A} {u : V} {fs : List (Key × A)} {gs : List (Key × V)} (r : Rp K ρ H x u) (h : RpF K ρ H fs gs) : RpF K ρ H ((g, x) :: fs) ((g, u) :: gs) := by
  refine ⟨by simp only [List.map_cons, h.1], ?_⟩
  simp only [List.map_cons]
  exact RpL.cons r h.2
theorem rpd_len {fs : List (Key × A)} {gs : List (Key × V)} (h : RpF K ρ H fs gs) : fs.length = gs.length := by
  have := congrArg List.length h.1
  simpa using this
theorem rpd_val {k : Key} : ∀ {fs : List (Key × A)} {gs : List (Key × V)}, RpF K ρ H fs gs → (valA fs k = none ∧ valV gs k = none) ∨ ∃ v u, valA fs k = some v ∧ valV gs k = some u ∧ Rp K ρ H v u
  | [], gs, h => by
    obtain rfl := rpd_nil h
    exact .inl ⟨rfl, rfl⟩
  | (g, x) :: fs, gs, h => by
    obtain ⟨w, gs', rfl, rw', t⟩ := rpd_cons h
    by_cases c : g = k
    · exact .inr ⟨x, w, by simp [valA, List.find?_cons, c], by simp [valV, List.find?_cons, c], rw'⟩
    · have ih := rpd_val (k := k) t
      have e1 : valA ((g, x) :: fs) k = valA fs k := by simp [valA, List.find?_cons, c]
      have e2 : valV ((g, w) :: gs') k = valV gs' k := by simp [valV, List.find?_cons, c]
      rw [e1, e2]
      exact ih
theorem rpd_any {k : Key} : ∀ {fs : List (Key × A)} {gs : List (Key × V)}, RpF K ρ H fs gs → (fs.any fun kv => decide (kv.1 = k)) = gs.any fun kv => decide (kv.1 = k)
  | [], gs, h => by
    obtain rfl := rpd_nil h
    rfl
  | (g, x) :: fs, gs, h => by
    obtain ⟨w, gs', rfl, rw', t⟩ := rpd_cons h
    simp only [List.any_cons, rpd_any (k := k) t]
theorem rpd_map {k : Key} {v : A} {u : V} (r : Rp K ρ H v u) : ∀ {fs : List (Key × A)} {gs : List (Key × V)}, RpF K ρ H fs gs → RpF K ρ H (fs.map fun kv => if kv.1 = k then (kv.1, v) else kv) (gs.map fun kv => if kv.1 = k then (kv.1, u) else kv)
  | [], gs, h => by
    obtain rfl := rpd_nil h
    exact ⟨rfl, RpL.nil⟩
  | (g, x) :: fs, gs, h => by
    obtain ⟨w, gs', rfl, rw', t⟩ := rpd_cons h
    simp only [List.map_cons]
    by_cases c : g = k
    · rw [if_pos c, if_pos c]; exact rpd_mk r (rpd_map r t)
    · rw [if_neg c, if_neg c]; exact rpd_mk rw' (rpd_map r t)
theorem rpd_app {k : Key} {v : A} {u : V} (r : Rp K ρ H v u) : ∀ {fs : List (Key × A)} {gs : List (Key × V)}, RpF K ρ H fs gs → RpF K ρ H (fs ++ [(k, v)]) (gs ++ [(k, u)])
  | [], gs, h => by
    obtain rfl := rpd_nil h
    exact rpd_mk r h
  | (g, x) :: fs, gs, h => by
    obtain ⟨w, gs', rfl, rw', t⟩ := rpd_cons h
    exact rpd_mk rw' (rpd_app r t)
theorem rpd_put {k : Key} {v : A} {u : V} (r : Rp K ρ H v u) {fs : List (Key × A)} {gs : List (Key × V)} (h : RpF K ρ H fs gs) : RpF K ρ H (putKA fs k v) (putK gs k u) := by
  unfold putKA putK
  rw [rpd_any h]
  split
  · exact rpd_map r h
  · exact rpd_app r h
theorem rpd_drop {k : Key} : ∀ {fs : List (Key × A)} {gs : List (Key × V)}, RpF K ρ H fs gs → RpF K ρ H (dropKA fs k) (dropK gs k)
  | [], gs, h => by
    obtain rfl := rpd_nil h
    exact ⟨rfl, RpL.nil⟩
  | (g, x) :: fs, gs, h => by
    obtain ⟨w, gs', rfl, rw', t⟩ := rpd_cons h
    have ih := rpd_drop (k := k) t
    unfold dropKA dropK at *
    by_cases c : g = k
    · rw [List.filter_cons, List.filter_cons]
      simp only [c, ne_eq, not_true_eq_false, decide_false, Bool.false_eq_true, if_false]
      rw [← c] at ih ⊢
      exact ih
    · rw [List.filter_cons, List.filter_cons]
      simp only [c, ne_eq, not_false_eq_true, decide_true, if_true]
      exact rpd_mk rw' ih
end
/-- the dict that is meant, and the key -/
def dkA (ah : AH) : A → A → Option (Nat × List (Key × A) × Key)
  | .ref n, y => match ah[n]? with
    | some (.dct kvs) => (keyA y).map fun k => (n, kvs, k)
    | _ => none
  | _, _ => none
theorem dkA_ok {ah : AH} {n : Nat} {kvs : List (Key × A)} {y : A} {k : Key} (e : ah[n]? = some (.dct kvs)) (ek : keyA y = some k) : dkA ah (.ref n) y = some (n, kvs, k) := by simp only [dkA, e, ek, Option.map]
theorem dkA_rel {Γ : G} {ρ : List Addr} {ah : AH} {H : Hp} {v1 v2 : A} {u1 u2 : V} {n : Nat} {kvs : List (Key × A)} {k : Key} (S : Sim Γ ρ ah H) (r1 : Rp Γ.K ρ H v1 u1) (r2 : Rp Γ.K ρ H v2 u2) (e : dkA ah v1 v2 = some (n, kvs, k)) :
    ∃ a gs, u1 = .ref a ∧ ρ[n]? = some a ∧ H a = some (.dK gs) ∧ RpF Γ.K ρ H kvs gs ∧ u2 = kV k ∧ ah[n]? = some (.dct kvs) := by
  unfold dkA at e
  split at e
  · rename_i m y
    split at e
    · rename_i kvs' eo
      rw [Option.map_eq_some_iff] at e
      obtain ⟨k', ek, e⟩ := e
      cases e
      rw [Rp.ref_] at r1
      obtain ⟨a, rfl, ea⟩ := r1
      obtain ⟨gs, hg, rf⟩ := S.ob _ _ a eo ea
      exact ⟨a, gs, rfl, ea, hg, rf, keyA_rel r2 ek, eo⟩
    · cases e
  · cases e
def oDGet (d y : A) : Mo A := fun ah => match dkA ah d y with
  | some (_, kvs, k) => match valA kvs k with
    | some v => .ok v ah
    | none => .no
  | none => .no
theorem oDGet_ok {ah : AH} {n : Nat} {kvs : List (Key × A)} {y v : A} {k : Key} (e : ah[n]? = some (.dct kvs)) (ek : keyA y = some k) (ev : valA kvs k = some v) : oDGet (.ref n) y ah = .ok v ah := by simp only [oDGet, dkA_ok e ek, ev]
def oDIn (y d : A) : Mo A := fun ah => match dkA ah d y with
  | some (_, kvs, k) => .ok (.bl (valA kvs k).isSome) ah
  | none => .no
def oDNin (y d : A) : Mo A := fun ah => match dkA ah d y with
  | some (_, kvs, k) => .ok (.bl (!(valA kvs k).isSome)) ah
  | none => .no
def oDSet (d y v : A) (s : SA) (ah : AH) : Rt := match dkA ah d y with
  | some (n, kvs, k) => if kvs.length < sizeLine then .nx s (ah.set n (.dct (putKA kvs k v))) else .no
  | none => .no
theorem oDSet_ok {ah : AH} {n : Nat} {kvs : List (Key × A)} {y v : A} {s : SA} {k : Key} (e : ah[n]? = some (.dct kvs)) (ek : keyA y = some k) (hl : kvs.length < sizeLine) : oDSet (.ref n) y v s ah = .nx s (ah.set n (.dct (putKA kvs k v))) := by
  simp only [oDSet, dkA_ok e ek]
  rw [if_pos hl]
section
variable {X : Cx} {tb : Addr → Prop} {W : WX} {o i value : Expr} {mo mi mv : ME} {pos pos' tpos : Pos} {j : Nat}
theorem oDGet_rel {Γ : G} {σ : L2.St} {ρ : List Addr} {ah : AH} {H : Hp} {Q : VK} {v1 v2 : A} {u1 u2 : V} (S : Sim Γ ρ ah H) (r1 : Rp Γ.K ρ H v1 u1) (r2 : Rp Γ.K ρ H v2 u2) (p : Pst Γ W σ ρ H Q (oDGet v1 v2 ah)) :
    ∃ a v, u1 = .ref a ∧ DGet H a u2 (some v) ∧ Q v H := by
  unfold oDGet at p
  split at p
  · rename_i n kvs k e
    split at p
    · rename_i v ev
      obtain ⟨a, gs, rfl, ea, hg, rf, rfl, _⟩ := dkA_rel S r1 r2 e
      rcases rpd_val (k := k) rf with ⟨z, _⟩ | ⟨v', u, e1, e2, r⟩
      · rw [z] at ev; cases ev
      · rw [e1] at ev; cases ev
        exact ⟨a, u, rfl, by rw [← e2]; exact DGet.k hg, Pst.ret S r p⟩
    · exact p.elim
  · exact p.elim
theorem t_dget (hr : Room j X.A) (ho : Tri X (gO X tb) W o mo) (hi : Tri X (gO X tb) W i mi) (hs : NoSl i := by exact fun _ _ => rfl) : Tri X (gO X tb) W (.Subscript o i pos) (m2 oDGet mo mi) := by
  have hu : X.A.units + 1 < cLine := by have := hr.un; omega
  refine pe_weak (pe_dget hu ho hi hs) fun σ H Q ⟨ρ, ah, sa, S, rs, p⟩ => ?_
  refine ⟨ρ, ah, sa, S, rs, p.bind.imp fun u H1 ⟨ρ1, ah1, v, S1, p1, k1, r1, q1⟩ => ?_⟩
  refine ⟨ρ1, ah1, sa, S1, rs.mono p1 k1, q1.bind.imp fun u2 H2 ⟨ρ2, ah2, v2, S2, p2, k2, r2, q2⟩ => ?_⟩
  exact oDGet_rel S2 (Rp.mono p2 k2 _ _ r1) r2 q2
theorem oDSet_rel {Γ : G} {ρ : List Addr} {ah : AH} {H : Hp} {D : Ends} {sa : SA} {σ : L2.St} {d y v : A} {x1 x2 u : V} (S : Sim Γ ρ ah H) (rs : SRp Γ.K ρ H sa σ) (r1 : Rp Γ.K ρ H d x1) (r2 : Rp Γ.K ρ H y x2) (r3 : Rp Γ.K ρ H v u) (p : PstS Γ W ρ H D (oDSet d y v sa ah)) :
    ∃ a H4, x1 = .ref a ∧ DPut H a x2 u H4 ∧ D.nx σ H4 := by
  unfold oDSet at p
  split at p
  · rename_i n kvs k e
    split at p
    · rename_i hl
      obtain ⟨a, gs, rfl, ea, hg, rf, rfl, eo⟩ := dkA_rel S r1 r2 e
      have kk : Kept H (upd H a (.dK (putK gs k u))) := Kept.write hg (fun _ z => by cases z) (fun _ _ z => by cases z) (fun _ z => by cases z)
      have S2 : Sim Γ ρ (ah.set n (.dct (putKA kvs k v))) (upd H a (.dK (putK gs k u))) := S.write ea hg (fun _ z => by cases z) (fun _ _ z => by cases z) (fun _ z => by cases z) (fun _ z => by cases z) ⟨_, upd_same, (rpd_put r3 rf).mono (List.prefix_refl _) kk⟩
      exact ⟨a, _, rfl, DPut.k hg (by rw [← rpd_len rf]; exact hl), p ρ _ σ S2 (List.prefix_refl _) kk (rs.mono (List.prefix_refl _) kk)⟩
    · exact p.elim
  · exact p.elim
def gDt (mo mi : ME) : MG := fun v s h => (mo s h).st s fun o h1 => (mi s h1).st s fun i h2 => oDSet o i v s h2
theorem ts_dput (hr : Room j X.A) (ho : Tri X (gO X tb) W o mo) (hi : Tri X (gO X tb) W i mi) (hv : Tri X (gO X tb) W value mv) (hs : swapsWith value (some (.Subscript o i pos')) pos.line X.env = pure false := by rfl) : TriS X (gO X tb) W (.Assign [.Subscript o i pos'] value pos) (mAsg mv (gDt mo mi)) := by
  have hu : X.A.units + 1 < cLine := by have := hr.un; omega
  refine ps_weak (ps_dput hu ho hi hv hs) fun D σ H ⟨ρ, ah, sa, S, rs, p⟩ => ?_
  refine ⟨ρ, ah, sa, S, rs, (PstS.ofE rs p).imp fun y H1 ⟨ρ1, ah1, v, S1, p1, k1, r1, q1⟩ => ?_⟩
  have rs1 := rs.mono p1 k1
  refine ⟨ρ1, ah1, sa, S1, rs1, (PstS.ofE rs1 q1).imp fun x H2 ⟨ρ2, ah2, ov, S2, p2, k2, r2, q2⟩ => ?_⟩
  have rs2 := rs1.mono p2 k2
  refine ⟨ρ2, ah2, sa, S2, rs2, (PstS.ofE rs2 q2).imp fun x3 H3 ⟨ρ3, ah3, iv, S3, p3, k3, r3, q3⟩ => ?_⟩
  exact oDSet_rel S3 (rs2.mono p3 k3) (Rp.mono p3 k3 _ _ r2) r3 (Rp.mono (p2.trans p3) (k2.trans k3) _ _ r1) q3
theorem ts_daug {op : Operator} {mop : A → A → Mo A} (hop : IoM X (gO X tb) W op mop) (hr : Room j X.A) (ho : Tri X (gO X tb) W o mo) (hi : Tri X (gO X tb) W i mi) (hv : Tri X (gO X tb) W value mv)
    (ha : ∀ ov iv new, augStore i ov iv new = (do holding [new, ov, iv] (setItem ov iv new); release [new, ov, iv] []; pure .next) := by intros; rfl) : TriS X (gO X tb) W (.AugAssign (.Subscript o i tpos) op value pos) (mAugS oDGet mo mi mop mv oDSet) := by
  have hu : X.A.units + 1 < cLine := by have := hr.un; omega
  obtain ⟨r, g1, g2⟩ := hop
  refine ps_weak (ps_daug hu ho hi hv g1 ha) fun D σ H ⟨ρ, ah, sa, S, rs, p⟩ => ?_
  refine ⟨ρ, ah, sa, S, rs, (PstS.ofE rs p).imp fun x H1 ⟨ρ1, ah1, ov, S1, p1, k1, r1, q1⟩ => ?_⟩
  have rs1 := rs.mono p1 k1
  refine ⟨ρ1, ah1, sa, S1, rs1, (PstS.ofE rs1 q1).imp fun x2 H2 ⟨ρ2, ah2, iv, S2, p2, k2, r2, q2⟩ => ?_⟩
  have rs2 := rs1.mono p2 k2
  obtain ⟨a, v, rfl, dg, ρ3, ah3, xv, S3, p3, k3, r3, q3⟩ := oDGet_rel (W := W) (σ := σ) S2 (Rp.mono p2 k2 _ _ r1) r2 (PstS.ofE rs2 q2)
  have rs3 := rs2.mono p3 k3
  refine ⟨a, v, rfl, dg, ρ3, ah3, sa, S3, rs3, (PstS.ofE rs3 q3).imp fun x4 H4 ⟨ρ4, ah4, yv, S4, p4, k4, r4, q4⟩ => ?_⟩
  have rs4 := rs3.mono p4 k4
  refine g2 σ xv yv ah4 ρ4 H4 v x4 _ S4 (Rp.mono p4 k4 _ _ r3) r4 ((PstS.ofE rs4 q4).imp fun x5 H5 ⟨ρ5, ah5, zv, S5, p5, k5, r5, q5⟩ => ?_)
  obtain ⟨a', H6, e6, dp, q6⟩ := oDSet_rel S5 (rs4.mono p5 k5) (Rp.mono (p2.trans (p3.trans (p4.trans p5))) (k2.trans (k3.trans (k4.trans k5))) _ _ r1) (Rp.mono (p3.trans (p4.trans p5)) (k3.trans (k4.trans k5)) _ _ r2) r5 q5
  cases e6
  exact ⟨H6, dp, q6⟩
/-- {} -/
def mDNew : ME := fun _ ah => .ok (.ref ah.length) (ah ++ [.dct []])
theorem Pst.dct {Γ : G} {σ : L2.St} {ρ : List Addr} {ah : AH} {H : Hp} {Q : VK} {xs : List (Key × A)} {vs : List (Key × V)} {p : Addr} (h : Pst Γ W σ ρ H Q (.ok (.ref ah.length) (ah ++ [.dct xs]))) (S : Sim Γ ρ ah H) (n : H p = none) (r : RpF Γ.K ρ H xs vs) :
    Q (.ref p) (upd H p (.dK vs)) :=
  h (ρ ++ [p]) _ _ (S.new n (show Orp Γ (ρ ++ [p]) (upd H p (.dK vs)) p (.dct xs) from ⟨vs, upd_same, r.mono ⟨[p], rfl⟩ (Kept.new n)⟩)) ⟨[p], rfl⟩ (Kept.new n) (Rp.ref_.mpr ⟨p, rfl, by rw [← S.len]; simp⟩)
theorem t_dnew : Tri X (gO X tb) W (.Dict [] [] pos) mDNew := by
  refine pe_weak pe_dnewK fun σ H Q ⟨ρ, ah, sa, S, rs, p⟩ => fun q nq => Pst.dct p S nq ⟨rfl, RpL.nil⟩
end
/-! ### a dict of the top with text keys -/
def tabA (kvs : List (Str × A)) (x : Str) : Option A := kvs.lookup x
/-- the dict at the name g holds kvs -/
def DctK (K : PySem.W.Frag) (w : World) (a : Addr) (kvs : List (Str × A)) : Prop := ∀ x v, kvs.lookup x = some v → ∃ u, KDct K w a x u ∧ ∀ ρ H, Rp K ρ H v u
def oGD (kvs : List (Str × A)) : A → Mo A
  | .str x => fun ah => match kvs.lookup x with
    | some y => .ok y ah
    | none => .no
  | _ => fun _ => .no
def mGD (kvs : List (Str × A)) (m : ME) : ME := m1 (oGD kvs) m
section
variable {X : Cx} {tb : Addr → Prop} {W : WX} {i : Expr} {mi : ME} {x : Str} {a : Addr} {pos p : Pos} {kvs : List (Str × A)}
theorem t_gd (hm : X.mg x = some (.ref a)) (hk : DctK X.K X.w a kvs) (hi : Tri X (gO X tb) W i mi) (hg : Gl X x := by rfl) (hs : PlainIx i := by exact fun _ _ => rfl) (hdb : (x == ("__debug__" : Str)) = false := by decide) : Tri X (gO X tb) W (.Subscript (.Name x p) i pos) (mGD kvs mi) := by
  refine pe_weak (pe_ix ix_kdict (pe_glob (v := .ref a) hg hm rfl hdb) hi hs) fun σ H Q ⟨ρ, ah, sa, S, rs, q⟩ => ?_
  refine ⟨ρ, ah, sa, S, rs, q.bind.imp fun u H1 ⟨ρ1, ah1, v, S1, p1, k1, r1, q1⟩ => ?_⟩
  have q1 : Pst (gO X tb) W σ ρ1 H1 Q (oGD kvs v ah1) := q1
  unfold oGD at q1
  split at q1
  · rename_i z _
    try dsimp only at q1
    split at q1
    · rename_i y ey
      rw [Rp.str_] at r1
      obtain ⟨u', kd, r⟩ := hk z y ey
      exact ⟨a, z, u', rfl, r1, kd, Pst.ret S1 (r ρ1 H1) q1⟩
    · exact q1.elim
  · exact q1.elim
end
/-! ### dict comprehensions -/
def dcGo (it : IT) (ga : A → SA → Option SA) (tt : MT) (mk me : ME) (n : Nat) (sa : SA) : Nat → Nat → AH → Rs A
  | 0, _, h => if it.fin h = true then .ok (.ref n) h else .no
  | k + 1, i, h => match it.item i h with
    | none => .no
    | some v => match ga v sa with
      | none => .no
      | some s2 => (tt s2 h).bindN fun b h3 => if b = true then (mk s2 h3).bindN fun y h4 => (me s2 h4).bindN fun z h5 => match h5[n]?, keyA y with
          | some (.dct kvs), some q => if kvs.length < sizeLine then dcGo it ga tt mk me n sa k (i + 1) (h5.set n (.dct (putKA kvs q z))) else .no
          | _, _ => .no
        else dcGo it ga tt mk me n sa k (i + 1) h3
def mDc (mi : MI) (ga : A → SA → Option SA) (tt : MT) (mk me : ME) (vs : List Nat) : ME := fun s h => (mi s h).bind fun it h1 => dcGo it ga tt mk me h1.length (wipeA s vs) it.cnt 0 (h1 ++ [.dct []])
theorem sim_dset {Γ : G} {ρ : List Addr} {ah : AH} {H : Hp} {n : Nat} {a : Addr} {gs : List (Key × V)} {ks : List (Key × A)} {hs : List (Key × V)} (S : Sim Γ ρ ah H) (ea : ρ[n]? = some a) (hv : H a = some (.dK gs)) (r : RpF Γ.K ρ H ks hs) :
    Sim Γ ρ (ah.set n (.dct ks)) (upd H a (.dK hs)) ∧ Kept H (upd H a (.dK hs)) :=
  have k : Kept H (upd H a (.dK hs)) := Kept.write hv (fun _ z => by cases z) (fun _ _ z => by cases z) (fun _ z => by cases z)
  ⟨S.write ea hv (fun _ z => by cases z) (fun _ _ z => by cases z) (fun _ z => by cases z) (fun _ z => by cases z) ⟨hs, upd_same, r.mono (List.prefix_refl _) k⟩, k⟩
section
variable {X : Cx} {tb : Addr → Prop} {W : WX} {tg iter kx elt : Expr} {ifs : List Expr} {mi : MI} {ga : A → SA → Option SA} {mt : MT} {mk me : ME} {own : List (Str × Nat)} {scope : Scope} {pos : Pos}
theorem dc_rel {g : TG} {σ : L2.St} {H : Hp} {Q : VK} (hg : ∀ v u σ sa sa' ρ H Q, Rp X.K ρ H v u → SRp X.K ρ H sa σ → ga v sa = some sa' → (∀ σ', SRp X.K ρ H sa' σ' → L2.wipe σ' (own.map (·.2)) = L2.wipe σ (own.map (·.2)) → Q σ' H) → g u σ H Q)
    (h : tE (gO X tb) W (mDc mi ga mt mk me (own.map (·.2))) σ H Q) : tDc (tI (gO X tb) W mi) g (tT (gO X tb) W0 mt) (tE (gO X tb) W0 mk) (tE (gO X tb) W0 me) (own.map (·.2)) σ H Q := by
  obtain ⟨ρ, ah, sa, S, rs, p⟩ := h
  refine ⟨ρ, ah, sa, S, rs, ?_⟩
  unfold mDc at p
  cases e : mi sa ah with
  | no => rw [e] at p; exact p.elim
  | ex x h => rw [e] at p; exact fun ρ' H' cls d S' a b r => p ρ' H' cls d S' a b r
  | ok it h1 =>
    rw [e] at p
    intro ρ0 H0 J S0 a0 b0 R D hD
    have SN : Sim (gO X tb) (ρ0 ++ [D]) (h1 ++ [.dct []]) (upd H0 D (.dK [])) := S0.new hD (show Orp _ _ _ _ (.dct []) from ⟨[], upd_same, rfl, RpL.nil⟩)
    have kN : Kept H0 (upd H0 D (.dK [])) := Kept.new hD
    have p0 : Pst (gO X tb) W σ (ρ0 ++ [D]) (upd H0 D (.dK [])) Q (dcGo it ga mt mk me h1.length (wipeA sa (own.map (·.2))) it.cnt 0 (h1 ++ [.dct []])) := Pst.later p (a0.trans ⟨[D], rfl⟩) (b0.trans kN)
    refine ⟨fun i m H => ∃ ρ ah, ρ0 ++ [D] <+: ρ ∧ Kept (upd H0 D (.dK [])) H ∧ m + i = it.cnt ∧ Sim (gO X tb) ρ ah H ∧ Pst (gO X tb) W σ ρ H Q (dcGo it ga mt mk me h1.length (wipeA sa (own.map (·.2))) m i ah), ⟨it.cnt, ρ0 ++ [D], _, List.prefix_refl _, Kept.refl _, rfl, SN, p0⟩, ?_⟩
    rintro i m H ⟨ρ, ah, pr, kp, em, S, p⟩
    have hDn : ρ[h1.length]? = some D := by
      obtain ⟨t, rfl⟩ := pr
      rw [List.append_assoc, List.getElem?_append_right (by rw [S0.len]; exact Nat.le_refl _), S0.len]
      simp
    have pr0 : ρ0 <+: ρ := List.IsPrefix.trans ⟨[D], rfl⟩ pr
    have kp0 : Kept H0 H := kN.trans kp
    have rsW : SRp X.K ρ H (wipeA sa (own.map (·.2))) (L2.wipe σ (own.map (·.2))) := SRp.mono (a0.trans pr0) (b0.trans kp0) (rs.wipe _)
    cases m with
    | zero =>
      unfold dcGo at p
      split at p
      · rename_i hf
        have ei : i = it.cnt := by omega
        subst ei
        exact .inl ⟨R.stop ρ ah H pr0 kp0 S hf, Pst.ret S (Rp.ref_.mpr ⟨D, rfl, hDn⟩) p⟩
      · exact p.elim
    | succ k =>
      unfold dcGo at p
      split at p
      · exact p.elim
      · rename_i v ev
        split at p
        · exact p.elim
        · rename_i s2 es2
          obtain ⟨g1, g2⟩ := R.go i ρ ah H v (by omega) pr0 kp0 S ev
          refine .inr ⟨g1, fun H' => ∃ ρ ah, ρ0 ++ [D] <+: ρ ∧ Kept (upd H0 D (.dK [])) H' ∧ k + (i + 1) = it.cnt ∧ Sim (gO X tb) ρ ah H' ∧ Pst (gO X tb) W σ ρ H' Q (dcGo it ga mt mk me h1.length (wipeA sa (own.map (·.2))) k (i + 1) ah), fun H' h => ⟨k, Nat.lt_succ_self k, h⟩, fun x H' hy => ?_⟩
          obtain ⟨S', k', r'⟩ := g2 x H' hy
          refine hg v x _ _ s2 ρ H' _ r' (rsW.mono (List.prefix_refl _) k') es2 fun σ2 rs2 w2 => ⟨by rw [w2, wipe_wipe], ?_⟩
          refine ⟨ρ, ah, s2, S', rs2, (PstT.slot (PstT.N (Pst.later p (List.prefix_refl _) k'))).imp fun b H3 ⟨ρ3, ah3, S3, p3, k3, q3⟩ => ?_⟩
          cases b with
          | false =>
            exact iteF ⟨ρ3, ah3, pr.trans p3, kp.trans (k'.trans k3), by omega, S3, q3⟩
          | true =>
            refine iteT ⟨ρ3, ah3, s2, S3, rs2.mono p3 k3, (Pst.slot (Pst.N q3)).imp fun y H4 ⟨ρ4, ah4, yv, S4, p4, k4, r4, q4⟩ => ?_⟩
            refine ⟨ρ4, ah4, s2, S4, rs2.mono (p3.trans p4) (k3.trans k4), (Pst.slot (Pst.N q4)).imp fun z H5 ⟨ρ5, ah5, zv, S5, p5, k5, r5, q5⟩ => ?_⟩
            split at q5
            · rename_i acc key eacc ekey
              split at q5
              · rename_i hl
                have hD4 : ρ5[h1.length]? = some D := by
                  obtain ⟨t, rfl⟩ := p3.trans (p4.trans p5)
                  rw [List.getElem?_append_left]
                  · exact hDn
                  · rcases Nat.lt_or_ge h1.length ρ.length with z | z
                    · exact z
                    · rw [List.getElem?_eq_none z] at hDn; cases hDn
                obtain ⟨gs, hv, rv⟩ := S5.ob _ _ _ eacc hD4
                obtain ⟨S6, k6⟩ := sim_dset S5 hD4 hv (rpd_put (k := key) r5 rv)
                exact ⟨gs, key, keyA_rel r4 ekey, hv, by rw [← rpd_len rv]; exact hl, ρ5, _, pr.trans (p3.trans (p4.trans p5)), kp.trans (k'.trans (k3.trans (k4.trans (k5.trans k6)))), by omega, S6, Pst.later q5 (List.prefix_refl _) k6⟩
              · exact q5.elim
            · exact q5.elim
theorem t_dc (hc : X.calm = true) (hN : X.N.Nodup) (hi : TriI X (gO X tb) W tg iter mi) (ok : BlkOk X.N X.env.scope scope own) {g : TG}
    (hg : (∀ (s : Shared) (H : Hp) (C : Addr) (cl : List (Str × Addr)) (fp : List Addr), PG (X.blk s H scope (compEnvC scope cl C X.env) fp) tg g) ∧ ∀ v u σ sa sa' ρ H Q, Rp X.K ρ H v u → SRp X.K ρ H sa σ → ga v sa = some sa' → (∀ σ', SRp X.K ρ H sa' σ' → L2.wipe σ' (own.map (·.2)) = L2.wipe σ (own.map (·.2)) → Q σ' H) → g u σ H Q)
    (ht : ∀ (s : Shared) (H : Hp) (C : Addr) (cl : List (Str × Addr)) (fp : List Addr), TriPTs (X.blk s H scope (compEnvC scope cl C X.env) fp) (gO X tb) W0 ifs mt)
    (hk : ∀ (s : Shared) (H : Hp) (C : Addr) (cl : List (Str × Addr)) (fp : List Addr), Tri (X.blk s H scope (compEnvC scope cl C X.env) fp) (gO X tb) W0 kx mk)
    (he : ∀ (s : Shared) (H : Hp) (C : Addr) (cl : List (Str × Addr)) (fp : List Addr), Tri (X.blk s H scope (compEnvC scope cl C X.env) fp) (gO X tb) W0 elt me) (hs : ∀ x, foldedSetIterable iter X.env x = pure x := by intro _; rfl) :
    Tri X (gO X tb) W (.DictComp kx elt [⟨tg, iter, ifs, 0⟩] scope pos) (mDc mi ga mt mk me (own.map (·.2))) :=
  pe_weak (pe_dc hc hN hi ok hg.1 ht hk he hs) fun σ H Q h => dc_rel hg.2 h
end
/-! ### constants of the top -/
mutual
def cvB (K : PySem.W.Frag) : Nat → Value → A → Bool
  | 0, _, _ => false
  | n + 1, u, a => match u, a with
    | .none, .non => true
    | .bool b, .bl c => b == c
    | .int i _, .int j => decide (i = j)
    | .str x _, .str y => decide (x = y)
    | .ref p, .tup xs => (match K.lookup p with
      | some o => decide (o.cls = .type "tuple") && (match o.data with
        | .seq its _ => decide (its.size ≤ 1000) && cvsB K n its.toList xs
        | _ => false)
      | none => false)
    | _, _ => false
def cvsB (K : PySem.W.Frag) : Nat → List Value → List A → Bool
  | 0, _, _ => false
  | _ + 1, [], [] => true
  | n + 1, u :: us, a :: as => cvB K n u a && cvsB K n us as
  | _ + 1, _, _ => false
end
def CstK (K : PySem.W.Frag) (u : Value) (a : A) : Prop := ∃ v, RelV v u ∧ ∀ ρ H, Rp K ρ H a v
def CstsK (K : PySem.W.Frag) (us : List Value) (as : List A) : Prop := ∃ vs, Vals vs us ∧ ∀ ρ H, RpL K ρ H as vs
mutual
theorem cvB_ok {K : PySem.W.Frag} : ∀ {n : Nat} {u : Value} {a : A}, cvB K n u a = true → CstK K u a
  | 0, _, _, h => by simp [cvB] at h
  | n + 1, u, a, h => by
    unfold cvB at h
    split at h
    · exact ⟨.non, rfl, fun ρ H => Rp.non_.mpr rfl⟩
    · rename_i b c
      have : b = c := by simpa using h
      subst this
      exact ⟨.bl b, rfl, fun ρ H => Rp.bl_.mpr rfl⟩
    · rename_i i t j
      have : i = j := of_decide_eq_true h
      subst this
      exact ⟨.int i, ⟨t, rfl⟩, fun ρ H => Rp.int_.mpr rfl⟩
    · rename_i i t j
      have : i = j := of_decide_eq_true h
      subst this
      exact ⟨.str i, ⟨t, rfl⟩, fun ρ H => Rp.str_.mpr rfl⟩
    · rename_i p xs
      split at h
      · rename_i o e
        rw [Bool.and_eq_true] at h
        obtain ⟨h1, h2⟩ := h
        split at h2
        · rename_i its k ed
          rw [Bool.and_eq_true] at h2
          obtain ⟨h3, h4⟩ := h2
          obtain ⟨vs, r, q⟩ := cvsB_ok h4
          have h3 : its.size ≤ 1000 := of_decide_eq_true h3
          exact ⟨.ref p, rfl, fun ρ H => Rp.tup_.mpr ⟨p, vs, rfl, .inr ⟨o, its, k, e, of_decide_eq_true h1, ed, by rw [sizeLine_eq]; omega, r⟩, q ρ H⟩⟩
        · cases h2
      · cases h
    · cases h
theorem cvsB_ok {K : PySem.W.Frag} : ∀ {n : Nat} {us : List Value} {as : List A}, cvsB K n us as = true → CstsK K us as
  | 0, _, _, h => by simp [cvsB] at h
  | n + 1, [], [], h => ⟨[], .nil, fun ρ H => RpL.nil⟩
  | n + 1, u :: us, a :: as, h => by
    simp only [cvsB, Bool.and_eq_true] at h
    obtain ⟨v, r, q⟩ := cvB_ok h.1
    obtain ⟨vs, rs, qs⟩ := cvsB_ok h.2
    exact ⟨v :: vs, .cons r rs, fun ρ H => RpL.cons (q ρ H) (qs ρ H)⟩
  | n + 1, [], a :: as, h => by simp [cvsB] at h
  | n + 1, u :: us, [], h => by simp [cvsB] at h
end
section
variable {X : Cx} {tb : Addr → Prop} {W : WX} {x : Str} {pos : Pos}
theorem t_globC {u : Value} {a : A} (hm : X.mg x = some u) (h : CstK X.K u a) (hg : Gl X x := by rfl) (hd : (x == ("__debug__" : Str)) = false := by decide) : Tri X (gO X tb) W (.Name x pos) (mC a) := by
  obtain ⟨v, r, q⟩ := h
  exact t_c (v := v) (pe_glob hg hm r hd) q
end
def dctB (K : PySem.W.Frag) (a : Addr) (kvs : List (Str × A)) : Bool := kvs.all fun q => match PySem.W.nsIn K a q.1 with
  | some (some u) => cvB K 1000 u q.2
  | _ => false
theorem dctB_ok {K : PySem.W.Frag} {w : World} {a : Addr} {kvs : List (Str × A)} (h : dctB K a kvs = true) (t : ∃ es n, KDict K w a es n) : DctK K w a kvs := by
  intro x v hx
  have hm : (x, v) ∈ kvs := by
    clear h
    induction kvs with
    | nil => simp at hx
    | cons p r ih =>
      obtain ⟨k, y⟩ := p
      by_cases c : (x == k) = true
      · simp only [List.lookup, c] at hx
        cases hx
        have : x = k := by simpa using c
        subst this
        exact List.mem_cons_self
      · have c : (x == k) = false := by simpa using c
        simp only [List.lookup, c] at hx
        exact List.mem_cons_of_mem _ (ih hx)
  have h2 := List.all_eq_true.mp h _ hm
  obtain ⟨es, n, lk⟩ := t
  split at h2
  · rename_i u e
    obtain ⟨v', r, q⟩ := cvB_ok h2
    exact ⟨v', ⟨es, n, u, lk.at_, lk.lit, e, r⟩, q⟩
  · cases h2
end Z

/-! chains of three, max of three, sorted ints -/
namespace Z
open PySem PySem.Spec PyProof.Rows L2
section
variable {X : Cx} {a b c d : Expr} {ta tb tc td : TE} {pos : Pos}
def tChain3 (r r' r'' : R2) (ta tb tc td : TE) : TE := fun σ H Q => ta σ H fun x H1 => tb σ H1 fun y H2 => r x y H2 fun z H3 => ∃ k, z = .bl k ∧
  (if k = true then tc σ H3 fun w H4 => r' y w H4 fun z2 H5 => ∃ k2, z2 = .bl k2 ∧ (if k2 = true then td σ H5 fun w2 H6 => r'' w w2 H6 Q else Q (.bl false) H5) else Q (.bl false) H3)
theorem pe_chain3 {op op' op'' : CmpOp} {r r' r'' : R2} (ho : OpR X (compareOp op) r) (ho' : OpR X (compareOp op') r') (ho'' : OpR X (compareOp op'') r'') (ha : PE X a ta) (hb : PE X b tb) (hc : PE X c tc) (hd : PE X d td)
    (hm : lastMarks [op, op', op''] [b, c, d] = false := by with_unfolding_all rfl) : PE X (.Compare a [op, op', op''] [b, c, d] pos) (tChain3 r r' r'' ta tb tc td) := by
  refine ⟨fun pins s σ H Q I h => ?_⟩
  refine Compare_chain (thn (ha.run pins s σ H _ I h) fun v s1 ⟨x, H1, I1, r1, q1⟩ => chain_link (thn (hb.run pins s1 σ H1 _ I1 q1) fun u s2 ⟨y, H2, I2, r2, q2⟩ =>
    thn (ho pins s2 σ H2 x y v u _ I2 r1 r2 q2) fun d s3 ⟨z, H3, I3, r3, k, e, q3⟩ => ?_)) hm
  subst e
  cases r3
  refine wpAny_truthy_bool ?_
  cases k with
  | false => exact ite_ff ⟨.bl false, H3, I3, rfl, q3⟩
  | true =>
    refine ite_tt (chain_link (thn (hc.run pins s3 σ H3 _ I3 q3) fun w' s4 ⟨z', H4, I4, r4, q4⟩ => thn (ho' pins s4 σ H4 y z' u w' _ I4 r2 r4 q4) fun d5 s5 ⟨z5, H5, I5, r5, k2, e2, q5⟩ => ?_))
    subst e2
    cases r5
    refine wpAny_truthy_bool ?_
    cases k2 with
    | false => exact ite_ff ⟨.bl false, H5, I5, rfl, q5⟩
    | true => exact ite_tt (chain_last (thn (hd.run pins s5 σ H5 _ I5 q5) fun w6 s6 ⟨z6, H6, I6, r6, q6⟩ => ho'' pins s6 σ H6 z' z6 w' w6 Q I6 r4 r6 q6))
end
section
variable {X : Cx} {tb : Addr → Prop} {W : WX} {a b c d : Expr} {ma mb mc md : ME} {pos : Pos}
def mChain3 (mo mo' mo'' : A → A → Mo A) (ma mb mc md : ME) : ME := fun sa ah => (ma sa ah).bind fun v ah1 => (mb sa ah1).bind fun u ah2 => (mo v u ah2).bind fun z ah3 => match z with
  | .bl true => (mc sa ah3).bind fun w ah4 => (mo' u w ah4).bind fun z2 ah5 => (match z2 with
    | .bl true => (md sa ah5).bind fun w2 ah6 => mo'' w w2 ah6
    | .bl false => .ok (.bl false) ah5
    | _ => .no)
  | .bl false => .ok (.bl false) ah3
  | _ => .no
theorem t_chain3 {op op' op'' : CmpOp} {mo mo' mo'' : A → A → Mo A} (ho : OpM X (gO X tb) W (compareOp op) mo) (ho' : OpM X (gO X tb) W (compareOp op') mo') (ho'' : OpM X (gO X tb) W (compareOp op'') mo'') (ha : Tri X (gO X tb) W a ma) (hb : Tri X (gO X tb) W b mb) (hc : Tri X (gO X tb) W c mc) (hd : Tri X (gO X tb) W d md)
    (hm : lastMarks [op, op', op''] [b, c, d] = false := by with_unfolding_all rfl) : Tri X (gO X tb) W (.Compare a [op, op', op''] [b, c, d] pos) (mChain3 mo mo' mo'' ma mb mc md) := by
  obtain ⟨r, g1, g2⟩ := ho
  obtain ⟨r', g1', g2'⟩ := ho'
  obtain ⟨r'', g1'', g2''⟩ := ho''
  refine pe_weak (pe_chain3 g1 g1' g1'' ha hb hc hd hm) fun σ H Q ⟨ρ, ah, sa, S, rs, p⟩ => ?_
  refine ⟨ρ, ah, sa, S, rs, p.bind.imp fun u H1 ⟨ρ1, ah1, v, S1, p1, k1, r1, q1⟩ => ?_⟩
  refine ⟨ρ1, ah1, sa, S1, rs.mono p1 k1, q1.bind.imp fun u2 H2 ⟨ρ2, ah2, v2, S2, p2, k2, r2, q2⟩ => ?_⟩
  refine g2 σ v v2 ah2 ρ2 H2 u u2 _ S2 (Rp.mono p2 k2 _ _ r1) r2 (q2.bind.imp fun z H3 ⟨ρ3, ah3, zz, S3, p3, k3, r3, q3⟩ => ?_)
  split at q3
  · rw [Rp.bl_] at r3; subst r3
    have rs3 := rs.mono (p1.trans (p2.trans p3)) (k1.trans (k2.trans k3))
    refine ⟨true, rfl, iteT ⟨ρ3, ah3, sa, S3, rs3, q3.bind.imp fun u4 H4 ⟨ρ4, ah4, v4, S4, p4, k4, r4, q4⟩ => ?_⟩⟩
    refine g2' σ v2 v4 ah4 ρ4 H4 u2 u4 _ S4 (Rp.mono p4 k4 _ _ (Rp.mono p3 k3 _ _ r2)) r4 (q4.bind.imp fun z5 H5 ⟨ρ5, ah5, zz5, S5, p5, k5, r5, q5⟩ => ?_)
    split at q5
    · rw [Rp.bl_] at r5; subst r5
      refine ⟨true, rfl, iteT ⟨ρ5, ah5, sa, S5, rs3.mono (p4.trans p5) (k4.trans k5), q5.bind.imp fun u6 H6 ⟨ρ6, ah6, v6, S6, p6, k6, r6, q6⟩ => ?_⟩⟩
      exact g2'' σ v4 v6 ah6 ρ6 H6 u4 u6 _ S6 (Rp.mono p6 k6 _ _ (Rp.mono p5 k5 _ _ r4)) r6 q6
    · rw [Rp.bl_] at r5; subst r5
      exact ⟨false, rfl, iteF (Pst.ret S5 (Rp.bl_.mpr rfl) q5)⟩
    · exact q5.elim
  · rw [Rp.bl_] at r3; subst r3
    exact ⟨false, rfl, iteF (Pst.ret S3 (Rp.bl_.mpr rfl) q3)⟩
  · exact q3.elim
def mx2 (i j : Int) : Int := if j > i then j else i
def bMax3 : List A → Mo A
  | [.int i, .int j, .int k] => fun ah => .ok (.int (mx2 (mx2 i j) k)) ah
  | _ => fun _ => .no
theorem nuMax2_int (i j : Int) : nuMax2 (.int i) (.int j) = some (.int (mx2 i j)) := by
  simp only [nuMax2, nuLt, nuCB, Option.map, mx2, decide_eq_true_eq]
  by_cases h : i < j
  · rw [if_pos h, if_pos h]
  · rw [if_neg h, if_neg h]
theorem b_max3 (hc : X.calm = true) : CallM X (gO X tb) W (.builtin "max") bMax3 := ⟨_, call_max3Nu hc, fun σ vs ah ρ H us Q S r p => by
  unfold bMax3 at p
  split at p
  · simp only [RpL] at r
    obtain ⟨u1, _, rfl, r1, u2, _, rfl, r2, u3, _, rfl, r3, rfl⟩ := r
    rw [Rp.int_] at r1 r2 r3; subst r1; subst r2; subst r3
    refine ⟨_, _, _, _, rfl, ?_, Pst.ret S (Rp.int_.mpr rfl) p⟩
    simp only [nuMax3, nuMax2_int, Option.bind]
  · exact p.elim⟩
/-! sorted ints -/
def insI (x : Int) : List Int → List Int
  | [] => [x]
  | y :: ys => if x ≤ y then x :: y :: ys else y :: insI x ys
def sortI : List Int → List Int
  | [] => []
  | x :: xs => insI x (sortI xs)
theorem insI_perm (x : Int) : ∀ l, (insI x l).Perm (x :: l)
  | [] => List.Perm.refl _
  | y :: ys => by
    unfold insI
    split
    · exact List.Perm.refl _
    · exact ((insI_perm x ys).cons y).trans (List.Perm.swap x y ys)
theorem sortI_perm : ∀ l, (sortI l).Perm l
  | [] => List.Perm.refl _
  | x :: xs => (insI_perm x _).trans ((sortI_perm xs).cons x)
theorem insI_srt (x : Int) : ∀ l, l.Pairwise (· ≤ ·) → (insI x l).Pairwise (· ≤ ·)
  | [], _ => by simp [insI]
  | y :: ys, h => by
    unfold insI
    rw [List.pairwise_cons] at h
    split
    · rename_i c
      rw [List.pairwise_cons, List.pairwise_cons]
      exact ⟨fun z hz => by
        rcases List.mem_cons.mp hz with e | e
        · rw [e]; exact c
        · exact Int.le_trans c (h.1 z e), h⟩
    · rename_i c
      rw [List.pairwise_cons]
      refine ⟨fun z hz => ?_, insI_srt x ys h.2⟩
      rcases List.mem_cons.mp ((insI_perm x ys).mem_iff.mp hz) with e | e
      · omega
      · exact h.1 z e
theorem sortI_srt : ∀ l, (sortI l).Pairwise (· ≤ ·)
  | [] => List.Pairwise.nil
  | x :: xs => insI_srt x _ (sortI_srt xs)
theorem srt_same : ∀ {l m : List Int}, l.Pairwise (· ≤ ·) → m.Pairwise (· ≤ ·) → l.Perm m → l = m
  | [], m, _, _, p => (List.nil_perm.mp p).symm
  | x :: l, [], _, _, p => by simp at p
  | x :: l, y :: m, hl, hm, p => by
    rw [List.pairwise_cons] at hl hm
    have e : x = y := by
      have h1 : x ∈ y :: m := p.mem_iff.mp List.mem_cons_self
      have h2 : y ∈ x :: l := p.mem_iff.mpr List.mem_cons_self
      rcases List.mem_cons.mp h1 with e | e
      · exact e
      · rcases List.mem_cons.mp h2 with f | f
        · exact f.symm
        · exact Int.le_antisymm (hl.1 _ f) (hm.1 _ e)
    subst e
    rw [srt_same hl.2 hm.2 ((List.perm_cons x).mp p)]
def bSorted : List A → Mo A
  | [.ref n] => fun ah => match (lsA ah n).bind fun xs => xs.mapM ntA with
    | some ns => .ok (.ref ah.length) (ah ++ [.lst ((sortI ns).map .int)])
    | none => .no
  | _ => fun _ => .no
theorem b_sorted : CallM X (gO X tb) W (.builtin "sorted") bSorted := ⟨_, cr_sortedI, fun σ vs ah ρ H us Q S r p => by
  unfold bSorted at p
  split at p
  · obtain ⟨u, rfl, r1⟩ := r.one
    try dsimp only at p
    split at p
    · rename_i n ns e
      rw [Option.bind_eq_some_iff] at e
      obtain ⟨xs, e1, e2⟩ := e
      rw [Rp.ref_] at r1
      obtain ⟨a, rfl, ea⟩ := r1
      obtain ⟨ws, t, q⟩ := sim_seq S (lsA_of e1) ea
      obtain rfl := q.nts e2
      refine ⟨a, ns, rfl, t, fun ns' p' hp hs hn => ?_⟩
      rw [srt_same hs (sortI_srt ns) (hp.trans (sortI_perm ns).symm)]
      exact Pst.lst p S hn (RpL.ints _)
    · exact p.elim
  · exact p.elim⟩
end
end Z

/-! enumerate(a tuple), enumerate(a text), zip(two tuples) -/
namespace EnuT
open PySem PySem.Spec PyProof.Rows L2
open Sem (wp)
open AutoSeq1 (wpAny_loadPart')
theorem meets_newT (l : Addr) (items : Array Value) (n : Nat) (dct : Option Addr) (sl : Array (Option Value)) :
    Meets (Builtin.«enumerate.__new__» ⟨[.type "enumerate", .ref l], []⟩) (fun _ R s => s.heap.get? l = some { cls := .type "tuple", dict := dct, data := .seq items n, slots := sl } ∧
      R (.ok (.ret (.ref (s.heap.push { cls := .type "tuple_iterator", data := .fields #[.ref l, .int 0 0] }).objs.size)))
        { s with heap := (s.heap.push { cls := .type "tuple_iterator", data := .fields #[.ref l, .int 0 0] }).push { cls := .type "enumerate", data := .fields #[.none, .bool false, .ref s.heap.objs.size, rawInt 0, .none, .none] } }) :=
  .of_wp fun prog w A R s h => by
    obtain ⟨hp, g, d, tk, os⟩ := s; obtain ⟨hl, h⟩ := h
    have hsub := sub_enumerate
    have hL : Heap.IsTuple (Shared.heap ⟨hp, g, d, tk, os⟩) l items := ⟨_, hl, rfl, n, rfl⟩
    wp_walk using wpAny_loadPart' hl
    refine wpAny_stack_any fun st => wpAny_pure ?_
    split
    · rename_i c _ _ _ _ _
      cases (c == Value.type "enumerate")
      · wp_walk using wpAny_loadPart' hl, wpAny_pyIter_tuple hL
        exact ⟨_, rfl, h⟩
      · wp_walk using wpAny_loadPart' hl, wpAny_pyIter_tuple hL
        exact ⟨_, rfl, h⟩
    · wp_walk using wpAny_loadPart' hl, wpAny_pyIter_tuple hL
      exact ⟨_, rfl, h⟩
section
variable {prog : Program} {w : World} {A : Around} {E : Value → Shared → Prop} {s : Shared}
theorem call_tuple {l : Addr} {items : Array Value} {Q : Value → Shared → Prop} (hL : s.heap.IsTuple l items)
    (h : ∀ h', IsEnum h' (s.heap.objs.size + 1) s.heap.objs.size 0 .none → h'.IsTupleIter s.heap.objs.size l 0 → h'.objs.size = s.heap.objs.size + 2 →
      (∀ b o, s.heap.get? b = some o → h'.get? b = some o) → Q (.ref (s.heap.objs.size + 1)) { s with heap := h' }) :
    wpAny (model prog w) A (call (.type "enumerate") [.ref l]) Q E s := by
  obtain ⟨⟨c, dct, dt, sl⟩, hl, hc, n, hd⟩ := hL
  replace hc : c = .type "tuple" := hc
  replace hd : dt = .seq items n := hd
  subst hc hd
  refine callType_new F.called_enumerate (by decide) (F.typeCall_enumerate_1 _) (F.newCall_enumerate_1 _) (fun obj => F.args_object_init_2 obj _) F.entry_enumerate_new
    (meets_newT l items n dct sl) ⟨hl, ?_⟩
  have hz : (s.heap.push { cls := .type "tuple_iterator", data := .fields #[.ref l, .int 0 0] }).objs.size = s.heap.objs.size + 1 := Heap.size_push ..
  show _ ∧ _
  rw [hz]
  have he : IsEnum ((s.heap.push { cls := .type "tuple_iterator", data := .fields #[.ref l, .int 0 0] }).push
      { cls := .type "enumerate", data := .fields #[.none, .bool false, .ref s.heap.objs.size, rawInt 0, .none, .none] }) (s.heap.objs.size + 1) s.heap.objs.size 0 .none := by
    have := Heap.get?_push_size (s.heap.push { cls := .type "tuple_iterator", data := .fields #[.ref l, .int 0 0] })
      (o := { cls := .type "enumerate", data := .fields #[.none, .bool false, .ref s.heap.objs.size, rawInt 0, .none, .none] }) rfl
    rw [hz] at this; exact this
  refine ⟨⟨_, he, rfl⟩, h _ he ⟨_, Heap.get?_push_of_some _ (Heap.get?_push_size _ rfl), rfl, rfl⟩ (by rw [Heap.size_push, hz]) fun b o x => Heap.get?_push_of_some _ (Heap.get?_push_of_some _ x)⟩
end
/-- an enumerate over an iterator that stays as it is: rd gives the item of each turn -/
def IteG (rd : Nat → Hp → Option V) (n : Nat) : It :=
  ⟨fun i H => i < n ∧ (rd i H).isSome, fun i H v H' => ∃ T x, v = .ref T ∧ H T = none ∧ H' = upd H T (.tup [.int (i : Nat), x]) ∧ rd i H = some x, fun i H => n ≤ i⟩
def IteT (K : PySem.W.Frag) (a : Addr) : It :=
  ⟨fun i H => ∃ (xs : List V) (x : V), SqT K H a xs ∧ xs[i]? = some x, fun i H v H' => ∃ T x, v = .ref T ∧ H T = none ∧ H' = upd H T (.tup [.int (i : Nat), x]) ∧ ∀ xs, SqT K H a xs → xs[i]? = some x, fun i H => ∃ xs : List V, SqT K H a xs ∧ xs.length = i⟩
theorem turn_enumT {P : Program} {w : World} {K : PySem.W.Frag} {elts : List Expr} {kk : Nat} {tpos : Pos} (a e it : Addr) :
    Turn P w K (.Tuple elts kk tpos) (IteT K a) [e, it] e (fun i h => (∃ old, IsEnum h e it ((i : Nat) : Int) old) ∧ h.IsTupleIter it a i ∧ e ≠ it) where
  mem := by simp
  obj := fun i h st b hb => by
    obtain ⟨⟨old, he⟩, ⟨o, ho, hc, hd⟩, _⟩ := st
    have e' : b = e ∨ b = it := by simpa using hb
    rcases e' with z | z
    · rw [z]; exact ⟨_, he, fun v q => nomatch q⟩
    · rw [z]; exact ⟨o, ho, fun v q => by rw [hd] at q; cases q⟩
  keep := fun i h h' st k => let ⟨⟨old, he⟩, hi, hne⟩ := st; ⟨⟨old, k e (by simp) _ he⟩, hi.at fun o q => k it (by simp) o q, hne⟩
  item := by
    intro X hP hw hK hc i pins s σ H E I hf st hg
    subst hP hw hK
    obtain ⟨⟨old, he⟩, hit, hne⟩ := st
    obtain ⟨xs, x, hq, hx⟩ := hg
    obtain ⟨its, rv, p, hz⟩ := I.tuple hq
    obtain ⟨u, hu, ru⟩ := rv.get hx
    have hel : e < s.heap.objs.size := Heap.lt_size he
    have hil : it < s.heap.objs.size := by obtain ⟨_, q, _⟩ := hit; exact Heap.lt_size q
    have ht : s.heap.IsTuple a its.toArray := p
    have hai : a ≠ it := by
      intro z
      subst z
      obtain ⟨o1, e1, c1, _⟩ := ht
      obtain ⟨o2, e2, c2, _⟩ := hit
      rw [e1] at e2
      cases e2
      rw [c1] at c2
      exact absurd c2 (by decide)
    have hil2 : i < its.toArray.size := by
      have := rv.length
      rcases Nat.lt_or_ge i its.length with z | z
      · simpa using z
      · rw [List.getElem?_eq_none z] at hu; cases hu
    have hae : e ≠ a := by
      intro z
      subst z
      obtain ⟨o1, e1, c1, _⟩ := ht
      rw [he] at e1
      cases e1
      exact absurd (show Value.type "enumerate" = Value.type "tuple" from c1) (by decide)
    refine wpAny_pyNext_enum_itemD (Draws.tuple (A := X.A.in1) (show X.A.in1.handled = none from I.ok.hd hc) it a hai its.toArray) he ⟨hit, ht⟩ hil2 hne (by simp [hne, hae]) fun x' h' tk hP ho hst hT hsz hk => ?_
    have hxu : x' = u := by
      have hP : its.toArray[i]? = some x' := hP
      have : its[i]? = some x' := by simpa using hP
      rw [hu] at this
      exact (Option.some.inj this).symm
    subst hxu
    refine ⟨_, rfl, wpAny_letOwnedTupleGo_enum (s := { s with heap := h', toks := tk + 1 }) ho fun h'' he' sb => ?_⟩
    have hT2 : h''.get? s.heap.objs.size = some { cls := .type "tuple", data := .seq #[.int i tk, x'] } := (sb.2 _ (Nat.ne_of_gt hel)).trans hT
    have new : ObjOk X.prog X.w (upd H s.heap.objs.size (.tup [.int (i : Nat), x])) h'' s.heap.objs.size (.tup [.int (i : Nat), x]) :=
      ⟨by show 2 ≤ sizeLine; decide, [.int i tk, x'], .cons ⟨_, rfl⟩ (.cons ru .nil), ⟨_, hT2, rfl, _, rfl⟩⟩
    have I1 : Inv X pins σ (upd H s.heap.objs.size (.tup [.int (i : Nat), x])) { s with heap := h'', toks := tk + 1 } :=
      I.turnedNew (ch := [e, it]) (fun b ob hb q => (sb.2 b (fun z => hb (by simp [z]))).trans (hk b ob (fun z => hb (by simp [z])) (fun z => hb (by simp [z])) q)) hf (Nat.le_refl _) new
    refine ⟨.ref s.heap.objs.size, _, I1, rfl, ⟨_, x, rfl, I.hok.fresh (Nat.le_refl _), rfl, fun ys hy => by rw [I.tuple_inj hy hq]; exact hx⟩, ⟨⟨x', ?_⟩, hst.1.at fun o q => (sb.2 it (Ne.symm hne)).trans q, hne⟩, fun b hb => ?_⟩
    · have e1 : ((i + 1 : Nat) : Int) = (i : Int) + 1 := by omega
      rw [e1]; exact he'
    · have hb' : b < s.heap.objs.size := by
        have e' : b = e ∨ b = it := by simpa using hb
        rcases e' with z | z
        · rw [z]; exact hel
        · rw [z]; exact hil
      rw [upd_ne (Nat.ne_of_lt hb')]
      exact (hf b hb).1
  done := by
    intro X hP hw hK hc i pins s σ H E I hf st hg
    subst hP hw hK
    obtain ⟨⟨old, he⟩, hit, hne⟩ := st
    obtain ⟨xs, hq, hx⟩ := hg
    obtain ⟨its, rv, p, hz⟩ := I.tuple hq
    obtain ⟨f0, f1, f2, f3, f4, f5⟩ := hf it (by simp)
    have hl := rv.length
    have ht : s.heap.IsTuple a its.toArray := p
    have hai : a ≠ it := by
      intro z
      subst z
      obtain ⟨o1, e1, c1, _⟩ := ht
      obtain ⟨o2, e2, c2, _⟩ := hit
      rw [e1] at e2
      cases e2
      rw [c1] at c2
      exact absurd c2 (by decide)
    have hi : its.toArray.size = i := by simp; omega
    exact wpAny_pyNext_enum_endD (Draws.tuple (A := X.A.in1) (show X.A.in1.handled = none from I.ok.hd hc) it a hai its.toArray) he (by rw [hi]; exact ⟨hit, ht⟩) fun h' eb => ⟨rfl, I.turned (t' := s.toks) (fun b o hb q => eb b o hb q) f0 f1 f3 f4 f5⟩
  self := fun A i s Q E st h => let ⟨⟨_, he⟩, _⟩ := st; wpAny_pyIter_enum he h
def iEnumT (K : PySem.W.Frag) (ta : TA) : TI := fun σ H R => ta σ H fun vs H1 => ∃ a xs, vs = [.ref a] ∧ SqT K H1 a xs ∧ R (IteT K a) H1
theorem pi_enumT {X : Cx} {e : Expr} {ta : TA} {p pos tpos : Pos} {elts : List Expr} {kk : Nat} (hg : Gl X "enumerate") (hm : X.mg "enumerate" = none) (ha : PA X [e] ta) (hs : starEach [e] X.env = [(false, eval e X.env)] := by rfl) :
    PI X (.Tuple elts kk tpos) (.Call (.Name "enumerate" p) [e] [] pos) (iEnumT X.K ta) := by
  refine ⟨fun pins s σ H R I h => ?_⟩
  refine Call_ (ld_blt I hg hm boot_enumerate (PyProof.Rows.callWith_type1 (thn (ha.run pos pins s σ H _ I h) fun us s1 ⟨vs, H1, I1, r1, q1⟩ => ?_) hs rfl))
  obtain ⟨a, xs, ex, hq, q⟩ := q1
  subst ex
  cases r1 with
  | cons r rr =>
    cases rr
    cases r
    obtain ⟨its, rv, p', hz⟩ := I1.tuple hq
    refine call_tuple (show s1.heap.IsTuple a its.toArray from p') fun h' he hit hsz hk => wpAny_pyIter_enum he ?_
    have I2 : Inv X pins σ H1 { s1 with heap := h' } := I1.kept (t' := s1.toks) hk
    refine ⟨s1.heap.objs.size + 1, [s1.heap.objs.size + 1, s1.heap.objs.size], _, _, H1, rfl, I2, turn_enumT a (s1.heap.objs.size + 1) s1.heap.objs.size, ⟨⟨.none, he⟩, hit, Nat.succ_ne_self _⟩, fun b hb => ?_, q⟩
    have e' : b = s1.heap.objs.size + 1 ∨ b = s1.heap.objs.size := by simpa using hb
    have hle : s1.heap.objs.size ≤ b := by
      rcases e' with z | z
      · rw [z]; exact Nat.le_add_right _ _
      · rw [z]; exact Nat.le_refl _
    exact I1.fpOk hle (I1.hok.fresh hle)
def IteS (z : Str) : It :=
  ⟨fun i _ => i < z.cps.size, fun i H v H' => ∃ T c, v = .ref T ∧ H T = none ∧ H' = upd H T (.tup [.int (i : Nat), .str ⟨#[c]⟩]) ∧ z.cps[i]? = some c, fun i _ => z.cps.size = i⟩
theorem turn_enumS {P : Program} {w : World} {K : PySem.W.Frag} {elts : List Expr} {kk : Nat} {tpos : Pos} (z : Str) (t : Tok) (e it : Addr) :
    Turn P w K (.Tuple elts kk tpos) (IteS z) [e, it] e (fun i h => (∃ old, IsEnum h e it ((i : Nat) : Int) old) ∧ h.IsStrIter it (strIterType z) z t i ∧ e ≠ it) where
  mem := by simp
  obj := fun i h st b hb => by
    obtain ⟨⟨old, he⟩, ⟨o, ho, hc, hd⟩, _⟩ := st
    have e' : b = e ∨ b = it := by simpa using hb
    rcases e' with z | z
    · rw [z]; exact ⟨_, he, fun v q => nomatch q⟩
    · rw [z]; exact ⟨o, ho, fun v q => by rw [hd] at q; cases q⟩
  keep := fun i h h' st k => let ⟨⟨old, he⟩, ⟨o, ho, r⟩, hne⟩ := st; ⟨⟨old, k e (by simp) _ he⟩, ⟨o, k it (by simp) o ho, r⟩, hne⟩
  item := by
    intro X hP hw hK hc i pins s σ H E I hf st hg
    subst hP hw hK
    obtain ⟨⟨old, he⟩, hit, hne⟩ := st
    have hel : e < s.heap.objs.size := Heap.lt_size he
    have hil : it < s.heap.objs.size := by obtain ⟨_, q, _⟩ := hit; exact Heap.lt_size q
    refine wpAny_pyNext_enum_itemD (Draws.text (A := X.A.in1) (show X.A.in1.handled = none from I.ok.hd hc) it z t) he hit hg hne (by simp [hne]) fun x' h' tk hP ho hst hT hsz hk => ?_
    obtain ⟨c, u, hcx, rfl⟩ := hP
    refine ⟨_, rfl, wpAny_letOwnedTupleGo_enum (s := { s with heap := h', toks := tk + 1 }) ho fun h'' he' sb => ?_⟩
    have hT2 : h''.get? s.heap.objs.size = some { cls := .type "tuple", data := .seq #[.int i tk, .str ⟨#[c]⟩ u] } := (sb.2 _ (Nat.ne_of_gt hel)).trans hT
    have new : ObjOk X.prog X.w (upd H s.heap.objs.size (.tup [.int (i : Nat), .str ⟨#[c]⟩])) h'' s.heap.objs.size (.tup [.int (i : Nat), .str ⟨#[c]⟩]) :=
      ⟨by show 2 ≤ sizeLine; decide, [.int i tk, .str ⟨#[c]⟩ u], .cons ⟨_, rfl⟩ (.cons ⟨_, rfl⟩ .nil), ⟨_, hT2, rfl, _, rfl⟩⟩
    have I1 : Inv X pins σ (upd H s.heap.objs.size (.tup [.int (i : Nat), .str ⟨#[c]⟩])) { s with heap := h'', toks := tk + 1 } :=
      I.turnedNew (ch := [e, it]) (fun b ob hb q => (sb.2 b (fun z => hb (by simp [z]))).trans (hk b ob (fun z => hb (by simp [z])) (fun z => hb (by simp [z])) q)) hf (Nat.le_refl _) new
    refine ⟨.ref s.heap.objs.size, _, I1, rfl, ⟨_, c, rfl, I.hok.fresh (Nat.le_refl _), rfl, hcx⟩, ⟨⟨.str ⟨#[c]⟩ u, ?_⟩, ?_, hne⟩, fun b hb => ?_⟩
    · have e1 : ((i + 1 : Nat) : Int) = (i : Int) + 1 := by omega
      rw [e1]; exact he'
    · obtain ⟨o, ho', r⟩ := hst
      exact ⟨o, (sb.2 it (Ne.symm hne)).trans ho', r⟩
    · have hb' : b < s.heap.objs.size := by
        have e' : b = e ∨ b = it := by simpa using hb
        rcases e' with z | z
        · rw [z]; exact hel
        · rw [z]; exact hil
      rw [upd_ne (Nat.ne_of_lt hb')]
      exact (hf b hb).1
  done := by
    intro X hP hw hK hc i pins s σ H E I hf st hg
    subst hP hw hK
    obtain ⟨⟨old, he⟩, hit, hne⟩ := st
    obtain ⟨f0, f1, f2, f3, f4, f5⟩ := hf it (by simp)
    have hi : z.cps.size = i := hg
    exact wpAny_pyNext_enum_endD (Draws.text (A := X.A.in1) (show X.A.in1.handled = none from I.ok.hd hc) it z t) he (by rw [hi]; exact hit) fun h' eb => ⟨rfl, I.turned (t' := s.toks) (fun b o hb q => eb b o hb q) f0 f1 f3 f4 f5⟩
  self := fun A i s Q E st h => let ⟨⟨_, he⟩, _⟩ := st; wpAny_pyIter_enum he h
def iEnumS (ta : TA) : TI := fun σ H R => ta σ H fun vs H1 => ∃ z, vs = [.str z] ∧ R (IteS z) H1
theorem pi_enumS {X : Cx} {e : Expr} {ta : TA} {p pos tpos : Pos} {elts : List Expr} {kk : Nat} (hg : Gl X "enumerate") (hm : X.mg "enumerate" = none) (ha : PA X [e] ta) (hs : starEach [e] X.env = [(false, eval e X.env)] := by rfl) :
    PI X (.Tuple elts kk tpos) (.Call (.Name "enumerate" p) [e] [] pos) (iEnumS ta) := by
  refine ⟨fun pins s σ H R I h => ?_⟩
  refine Call_ (ld_blt I hg hm boot_enumerate (PyProof.Rows.callWith_type1 (thn (ha.run pos pins s σ H _ I h) fun us s1 ⟨vs, H1, I1, r1, q1⟩ => ?_) hs rfl))
  obtain ⟨z, ex, q⟩ := q1
  subst ex
  cases r1 with
  | cons r rr =>
    cases rr
    obtain ⟨t, rfl⟩ := r
    refine call_enumerate_str fun h' he hit hsz hk => wpAny_pyIter_enum he ?_
    have I2 : Inv X pins σ H1 { s1 with heap := h' } := I1.kept (t' := s1.toks) hk
    refine ⟨s1.heap.objs.size + 1, [s1.heap.objs.size + 1, s1.heap.objs.size], _, _, H1, rfl, I2, turn_enumS z t (s1.heap.objs.size + 1) s1.heap.objs.size, ⟨⟨.none, he⟩, hit, Nat.succ_ne_self _⟩, fun b hb => ?_, q⟩
    have e' : b = s1.heap.objs.size + 1 ∨ b = s1.heap.objs.size := by simpa using hb
    have hle : s1.heap.objs.size ≤ b := by
      rcases e' with z | z
      · rw [z]; exact Nat.le_add_right _ _
      · rw [z]; exact Nat.le_refl _
    exact I1.fpOk hle (I1.hok.fresh hle)
end EnuT
namespace Z
open PySem PySem.Spec PyProof.Rows L2
def enmI (xs : List A) (i : Nat) : Option A := (xs[i]?).map fun y => .tup [.int (i : Nat), y]
def IT.enmT (xs : List A) : IT := ⟨xs.length, fun i _ => enmI xs i, fun _ => true⟩
def IT.enmS (z : Str) : IT := ⟨z.cps.size, fun i _ => (z.cps[i]?).map fun c => .tup [.int (i : Nat), .str ⟨#[c]⟩], fun _ => true⟩
theorem itr_enmT {Γ : G} {ρ0 : List Addr} {H0 : Hp} {a : Addr} {xs : List A} {vs : List V} (h : SqT Γ.K H0 a vs) (r : RpL Γ.K ρ0 H0 xs vs) : ItR Γ ρ0 H0 (EnuT.IteT Γ.K a) (IT.enmT xs) where
  go := fun i ρ ah H v hi pr kp S e => by
    simp only [IT.enmT, enmI, Option.map_eq_some_iff] at e
    obtain ⟨y, e0, rfl⟩ := e
    obtain ⟨u, e1, r1⟩ := (RpL.mono pr kp _ _ r).get e0
    refine ⟨⟨vs, u, kp.sqt h, e1⟩, fun x H' hy => ?_⟩
    obtain ⟨T, x1, rfl, nT, rfl, f⟩ := hy
    have := f vs (kp.sqt h)
    rw [e1] at this
    cases this
    exact ⟨S.beside nT, Kept.new nT, Rp.tup_.mpr ⟨T, _, rfl, .inl (.inl upd_same), RpL.cons (Rp.int_.mpr rfl) (RpL.cons (Rp.mono (List.prefix_refl _) (Kept.new nT) _ _ r1) RpL.nil)⟩⟩
  stop := fun ρ ah H pr kp S hf => ⟨vs, kp.sqt h, by show vs.length = xs.length; rw [← r.length]⟩
theorem itr_enmS {Γ : G} {ρ0 : List Addr} {H0 : Hp} {z : Str} : ItR Γ ρ0 H0 (EnuT.IteS z) (IT.enmS z) where
  go := fun i ρ ah H v hi pr kp S e => by
    simp only [IT.enmS, Option.map_eq_some_iff] at e
    obtain ⟨c, e0, rfl⟩ := e
    refine ⟨hi, fun x H' hy => ?_⟩
    obtain ⟨T, c1, rfl, nT, rfl, f⟩ := hy
    rw [e0] at f
    cases f
    exact ⟨S.beside nT, Kept.new nT, Rp.tup_.mpr ⟨T, _, rfl, .inl (.inl upd_same), RpL.cons (Rp.int_.mpr rfl) (RpL.cons (Rp.str_.mpr rfl) RpL.nil)⟩⟩
  stop := fun ρ ah H pr kp S hf => rfl
def mItET (m : ME) : MI := fun s h => (m s h).bind fun v h1 => match v with
  | .tup xs => .ok (IT.enmT xs) h1
  | _ => .no
def mItES (m : ME) : MI := fun s h => (m s h).bind fun v h1 => match v with
  | .str z => .ok (IT.enmS z) h1
  | _ => .no
section
variable {X : Cx} {tb : Addr → Prop} {W : WX} {e : Expr} {m : ME} {p pos tpos : Pos} {elts : List Expr} {kk : Nat}
theorem ti_enumT (hl : Tri X (gO X tb) W e m) (hm : X.mg "enumerate" = none) (hg : Gl X "enumerate" := by rfl) (hs : starEach [e] X.env = [(false, eval e X.env)] := by rfl) : TriI X (gO X tb) W (.Tuple elts kk tpos) (.Call (.Name "enumerate" p) [e] [] pos) (mItET m) := by
  refine pi_weak (EnuT.pi_enumT hg hm (pa_cons hl pa_nil hs) hs) fun σ H Q ⟨ρ, ah, sa, S, rs, p⟩ => ?_
  refine ⟨ρ, ah, sa, S, rs, p.ofE.imp fun u H1 ⟨ρ1, ah1, v, S1, p1, k1, r1, q1⟩ => ?_⟩
  split at q1
  · rw [Rp.tup_] at r1
    obtain ⟨a, vs, rfl, t, r⟩ := r1
    exact ⟨a, vs, rfl, t, q1 ρ1 H1 _ S1 (List.prefix_refl _) (Kept.refl _) (itr_enmT t r)⟩
  · exact q1.elim
theorem ti_enumS (hl : Tri X (gO X tb) W e m) (hm : X.mg "enumerate" = none) (hg : Gl X "enumerate" := by rfl) (hs : starEach [e] X.env = [(false, eval e X.env)] := by rfl) : TriI X (gO X tb) W (.Tuple elts kk tpos) (.Call (.Name "enumerate" p) [e] [] pos) (mItES m) := by
  refine pi_weak (EnuT.pi_enumS hg hm (pa_cons hl pa_nil hs) hs) fun σ H Q ⟨ρ, ah, sa, S, rs, p⟩ => ?_
  refine ⟨ρ, ah, sa, S, rs, p.ofE.imp fun u H1 ⟨ρ1, ah1, v, S1, p1, k1, r1, q1⟩ => ?_⟩
  split at q1
  · rw [Rp.str_] at r1
    exact ⟨_, by rw [r1], q1 ρ1 H1 _ S1 (List.prefix_refl _) (Kept.refl _) itr_enmS⟩
  · exact q1.elim
end
end Z

/-! dict displays: pairs with int and text keys -/
namespace Z
open PySem PySem.Spec PyProof.Rows L2
def mergeA (l : List (Key × A)) : List (Key × A) := l.foldl (fun acc kv => putKA acc kv.1 kv.2) []
def dsGo (n : Nat) (s : SA) : List (ME × ME) → List (Key × A) → AH → Rs A
  | [], acc, h => match h[n]? with
    | some (.dct []) => if acc.length ≤ 15 then .ok (.ref n) (h.set n (.dct (mergeA acc))) else .no
    | _ => .no
  | q :: r, acc, h => (q.1 s h).bind fun y h1 => (q.2 s h1).bind fun z h2 => match keyA y with
    | some k => dsGo n s r (acc ++ [(k, z)]) h2
    | none => .no
def mDs (prs : List (ME × ME)) : ME := fun s h => dsGo h.length s prs [] (h ++ [.dct []])
section
variable {X : Cx} {tb : Addr → Prop} {W : WX}
theorem rpd_app1 {K : PySem.W.Frag} {ρ : List Addr} {H : Hp} {k : Key} {v : A} {u : V} (r : Rp K ρ H v u) {fs : List (Key × A)} {gs : List (Key × V)} (h : RpF K ρ H fs gs) : RpF K ρ H (fs ++ [(k, v)]) (gs ++ [(k, u)]) := rpd_app r h
theorem rpd_merge {K : PySem.W.Frag} {ρ : List Addr} {H : Hp} : ∀ {fs : List (Key × A)} {gs : List (Key × V)} {as : List (Key × A)} {bs : List (Key × V)}, RpF K ρ H fs gs → RpF K ρ H as bs → RpF K ρ H (fs.foldl (fun acc kv => putKA acc kv.1 kv.2) as) (mergeK bs gs)
  | [], gs, as, bs, h, h2 => by
    rw [rpd_nil h]
    exact h2
  | (g, x) :: fs, gs, as, bs, h, h2 => by
    obtain ⟨u, gs', rfl, r, h'⟩ := rpd_cons h
    have := rpd_merge (fs := fs) (gs := gs') h' (rpd_put (k := g) r h2)
    exact this
theorem ds_rel {σ : L2.St} {Q : VK} {n : Nat} {D : Addr} {sa : SA} : ∀ (prs : List (ME × ME)) (acc : List (Key × A)) (accV : List (Key × V)) (ρ : List Addr) (ah : AH) (H : Hp) (F : List (V × V) → Hp → Prop),
    Sim (gO X tb) ρ ah H → SRp X.K ρ H sa σ → RpF X.K ρ H acc accV → ρ[n]? = some D → Pst (gO X tb) W σ ρ H Q (dsGo n sa prs acc ah) →
    (∀ ps H2, (H2 D = some (.dK []) ∧ ∃ kvs : List (Key × V), accV.map (fun kv => (kV kv.1, kv.2)) ++ ps = kvs.map (fun kv => (kV kv.1, kv.2)) ∧ kvs.length ≤ 15 ∧ Q (.ref D) (upd H2 D (.dK (mergeK [] kvs)))) → F ps H2) →
    tPairs (prs.map fun q => (tE (gO X tb) W q.1, tE (gO X tb) W q.2)) σ H F
  | [], acc, accV, ρ, ah, H, F, S, rs, rf, eD, p, hF => by
    unfold dsGo at p
    split at p
    · rename_i e
      split at p
      · rename_i hl
        obtain ⟨gs, hv, rv⟩ := S.ob _ _ _ e eD
        have g0 := rpd_nil rv
        subst g0
        refine hF [] H ⟨hv, accV, by rw [List.append_nil], by rw [← rpd_len rf]; exact hl, ?_⟩
        obtain ⟨S6, k6⟩ := sim_dset S eD hv (rpd_merge rf (as := []) (bs := []) ⟨rfl, RpL.nil⟩)
        exact Pst.ret' p S6 (List.prefix_refl _) k6 (Rp.ref_.mpr ⟨D, rfl, eD⟩)
      · exact p.elim
    · exact p.elim
  | q :: r, acc, accV, ρ, ah, H, F, S, rs, rf, eD, p, hF => by
    unfold dsGo at p
    refine ⟨ρ, ah, sa, S, rs, p.bind.imp fun x H1 ⟨ρ1, ah1, v, S1, p1, k1, r1, q1⟩ => ?_⟩
    refine ⟨ρ1, ah1, sa, S1, rs.mono p1 k1, q1.bind.imp fun y H2 ⟨ρ2, ah2, v2, S2, p2, k2, r2, q2⟩ => ?_⟩
    split at q2
    · rename_i k ek
      have ex := keyA_rel r1 ek
      have eD2 : ρ2[n]? = some D := by
        obtain ⟨t, rfl⟩ := p1.trans p2
        rw [List.getElem?_append_left]
        · exact eD
        · rcases Nat.lt_or_ge n ρ.length with z | z
          · exact z
          · rw [List.getElem?_eq_none z] at eD; cases eD
      exact ds_rel r (acc ++ [(k, v2)]) (accV ++ [(k, y)]) ρ2 ah2 H2 (fun ps H3 => F ((x, y) :: ps) H3) S2 (rs.mono (p1.trans p2) (k1.trans k2)) (rpd_app1 r2 (rf.mono (p1.trans p2) (k1.trans k2))) eD2 q2 (fun ps H3 ⟨e1, kvs, e2, e3, e4⟩ => hF ((x, y) :: ps) H3 ⟨e1, kvs, by rw [← e2, List.map_append, List.append_assoc, ex]; rfl, e3, e4⟩)
    · exact q2.elim
theorem t_ds {pos : Pos} {keys : List (Option Expr)} {values : List Expr} {prs : List (ME × ME)} (h : PPs X pos keys values (prs.map fun q => (tE (gO X tb) W q.1, tE (gO X tb) W q.2))) (h0 : keys ≠ []) (hall : keys.all (·.isSome) = true := by rfl) (hl : keys.length = values.length := by rfl) (h15 : keys.length ≤ 15 := by decide) :
    Tri X (gO X tb) W (.Dict keys values pos) (mDs prs) := by
  refine pe_weak (pe_disp h hall hl h0 h15) fun σ H Q ⟨ρ, ah, sa, S, rs, p⟩ => fun D hD => ?_
  have SN : Sim (gO X tb) (ρ ++ [D]) (ah ++ [.dct []]) (upd H D (.dK [])) := S.new hD (show Orp _ _ _ _ (.dct []) from ⟨[], upd_same, rfl, RpL.nil⟩)
  have kN : Kept H (upd H D (.dK [])) := Kept.new hD
  have eD : (ρ ++ [D])[ah.length]? = some D := by rw [← S.len]; simp
  exact ds_rel prs [] [] (ρ ++ [D]) _ _ _ SN (rs.mono ⟨[D], rfl⟩ kN) ⟨rfl, RpL.nil⟩ eD (Pst.later p ⟨[D], rfl⟩ kN) (fun ps H2 ⟨e1, kvs, e2, e3, e4⟩ => ⟨e1, kvs, e2, e3, e4⟩)
end
def c5 (i1 i2 i3 i4 i5 : Nat) (v : A) (s : SA) : Option SA := match v with
  | .tup [a, b, c, d, e] => some (((((s.set i1 (some a)).set i2 (some b)).set i3 (some c)).set i4 (some d)).set i5 (some e))
  | _ => none
section
variable {X : Cx} {scope : Scope} {own : List (Str × Nat)} {p1 p2 p3 p4 p5 pos : Pos} {k : Nat}
theorem hg_5 {x1 x2 x3 x4 x5 : Str} (i1 i2 i3 i4 i5 : Nat) (hN : X.N.Nodup) (hc : X.calm = true) (v1 : i1 ∈ own.map (·.2) := by decide) (v2 : i2 ∈ own.map (·.2) := by decide) (v3 : i3 ∈ own.map (·.2) := by decide) (v4 : i4 ∈ own.map (·.2) := by decide) (v5 : i5 ∈ own.map (·.2) := by decide)
    (e1 : X.N[i1]? = some x1 := by rfl) (e2 : X.N[i2]? = some x2 := by rfl) (e3 : X.N[i3]? = some x3 := by rfl) (e4 : X.N[i4]? = some x4 := by rfl) (e5 : X.N[i5]? = some x5 := by rfl)
    (h1 : ∀ (C : Addr) (cl : List (Str × Addr)), (compEnvC scope cl C X.env).scope.names.lookup x1 = some .local := by intros; rfl) (h2 : ∀ (C : Addr) (cl : List (Str × Addr)), (compEnvC scope cl C X.env).scope.names.lookup x2 = some .local := by intros; rfl)
    (h3 : ∀ (C : Addr) (cl : List (Str × Addr)), (compEnvC scope cl C X.env).scope.names.lookup x3 = some .local := by intros; rfl) (h4 : ∀ (C : Addr) (cl : List (Str × Addr)), (compEnvC scope cl C X.env).scope.names.lookup x4 = some .local := by intros; rfl)
    (h5 : ∀ (C : Addr) (cl : List (Str × Addr)), (compEnvC scope cl C X.env).scope.names.lookup x5 = some .local := by intros; rfl) :
    (∀ (s : Shared) (H : Hp) (C : Addr) (cl : List (Str × Addr)) (fp : List Addr), PG (X.blk s H scope (compEnvC scope cl C X.env) fp) (.Tuple [.Name x1 p1, .Name x2 p2, .Name x3 p3, .Name x4 p4, .Name x5 p5] k pos) (gTup X.K 5 (gCons (gName i1) (gCons (gName i2) (gCons (gName i3) (gCons (gName i4) (gCons (gName i5) gNil))))))) ∧
    ∀ v u σ sa sa' ρ H Q, Rp X.K ρ H v u → SRp X.K ρ H sa σ → c5 i1 i2 i3 i4 i5 v sa = some sa' → (∀ σ', SRp X.K ρ H sa' σ' → L2.wipe σ' (own.map (·.2)) = L2.wipe σ (own.map (·.2)) → Q σ' H) → gTup X.K 5 (gCons (gName i1) (gCons (gName i2) (gCons (gName i3) (gCons (gName i4) (gCons (gName i5) gNil))))) u σ H Q :=
  ⟨fun s H C cl fp => pg_tup (X := X.blk s H scope (compEnvC scope cl C X.env) fp) hc (pgs_cons (pg_name hN e1 (Or.inl (h1 _ _)) (Or.inr (h1 _ _))) (pgs_cons (pg_name hN e2 (Or.inl (h2 _ _)) (Or.inr (h2 _ _))) (pgs_cons (pg_name hN e3 (Or.inl (h3 _ _)) (Or.inr (h3 _ _))) (pgs_cons (pg_name hN e4 (Or.inl (h4 _ _)) (Or.inr (h4 _ _))) (pgs_cons (pg_name hN e5 (Or.inl (h5 _ _)) (Or.inr (h5 _ _))) pgs_nil))))), fun v u σ sa sa' ρ H Q r rs e q => by
    unfold c5 at e
    split at e
    · cases e
      rw [Rp.tup_] at r
      obtain ⟨a, vs, rfl, t, rl⟩ := r
      simp only [RpL] at rl
      obtain ⟨u1, w1, rfl, r1, u2, w2, rfl, r2, u3, w3, rfl, r3, u4, w4, rfl, r4, u5, w5, rfl, r5, rfl⟩ := rl
      exact ⟨a, _, rfl, t, rfl, u1, _, rfl, u2, _, rfl, u3, _, rfl, u4, _, rfl, u5, _, rfl, rfl, q _ (((((rs.set i1 r1).set i2 r2).set i3 r3).set i4 r4).set i5 r5) (by rw [wipe_set v5, wipe_set v4, wipe_set v3, wipe_set v2, wipe_set v1])⟩
    · cases e⟩
end
end Z

/-! methods that hold generators; pop, extend, ord -/
namespace Z
open PySem PySem.Spec PyProof.Rows L2
theorem fun_codeM {K : PySem.W.Frag} {x qual C m : Str} {params : Arguments} {body : List Stmt} {scope : Scope} {fd : FuncData} (F : FunD K x qual params body scope [] [] (He.ma K (He.ga K C) m) fd) : fd.code = .ref (He.cT K (C, some m)).1 := fun_code (p := (C, some m)) F
section
variable {x : Str} {tb : Addr → Prop} {n k : Nat}
theorem me_okFC {P : Program} {w : World} {K : PySem.W.Frag} {mg : Str → Option Value} {base : Heap} {qual : Str} {st : Stmt} {f c : Addr} {fd : FuncData} {N ps : List Str} (Fn : Fun K x qual st f fd) (hc : fd.code = .ref c) (Sc : FnScope N ps (defScope st))
    {b : MS} (hps : ps.length = n := by rfl) (hN : N.length = k := by rfl) {lv : Nat}
    (hbody : ∀ (A : Around) (outer : List Env) (s : Shared) (H : Hp) (E : XK) (W : WX), Room lv (A.deeper (envOfC qual (defScope st) s.heap.objs.size f (.ref c))) →
      (X : Cx) → X = cxOf (L2.CX P w) P w K mg base N qual (defScope st) f (.ref c) A outer s H E → Takes X W → PassesOwn (model X.prog X.w) X.A X.env X.xe → TriB (cxOf (L2.CX P w) P w K mg base N qual (defScope st) f (.ref c) A outer s H E) ⟨K, mg, tb⟩ W (defBody st) b) :
    FnOk P w K mg base (L2.CX P w) (lv + 1) f fd ps (spF ⟨K, mg, tb⟩ n (mFn k b)) := by
  obtain ⟨oc, od, kV, doc, pm, an, cdv, ct, osl, rfl, lk, hcd⟩ := Fn.ex
  have hc : cdv = .ref c := hc
  subst hc
  refine fn_of lk hcd Sc (fun us H Q E h => ?_) (fun A outer s H us Q E hr h => ?_)
  · obtain ⟨ρ, ah, vs, S, r, hl, _⟩ := h
    rw [← r.length, hl, hps]
  · obtain ⟨ρ, ah, vs, S, r, hl, p⟩ := h
    refine ⟨_, hbody A outer s H E (fun cls d _ H => E cls d H) hr _ rfl (takes_of rfl rfl rfl rfl) (passes_of rfl), ?_⟩
    refine ⟨ρ, ah, vs.map some ++ List.replicate (N.length - vs.length) none, S, ?_, ?_⟩
    · unfold L2.start
      rw [r.length]
      exact SRp.start _ r
    · unfold mFn at p
      rw [← hN] at p
      cases e : b (vs.map some ++ List.replicate (N.length - vs.length) none) ah with
      | nx s' h' => rw [e] at p; exact fun ρ' H' σ' S' a b' r' => p ρ' H' .non S' a b' (Rp.non_.mpr rfl)
      | rt v h' => rw [e] at p; exact p
      | bk s' h' => rw [e] at p; exact p.elim
      | ct s' h' => rw [e] at p; exact p.elim
      | ex e' s' h' => rw [e] at p; exact fun ρ' H' σ' cls d S' a b' r' x' => p ρ' H' cls d S' a b' x'
      | no => rw [e] at p; exact p.elim
end
/-! ### xs.pop() -/
theorem RpL.dropLast {K : PySem.W.Frag} {ρ : List Addr} {H : Hp} {xs : List A} {vs : List V} (h : RpL K ρ H xs vs) : RpL K ρ H xs.dropLast vs.dropLast := by
  rw [List.dropLast_eq_take, List.dropLast_eq_take, h.length]
  exact h.take _
def mPop (m : ME) : ME := fun s h => (m s h).bind fun v h1 => match v with
  | .ref k => match h1[k]? with
    | some (.lst xs) => match xs[xs.length - 1]? with
      | some y => .ok y (h1.set k (.lst xs.dropLast))
      | none => .no
    | _ => .no
  | _ => .no
section
variable {X : Cx} {tb : Addr → Prop} {W : WX}
theorem t_pop {o : Expr} {m : ME} {apos cpos : Pos} (ho : Tri X (gO X tb) W o m)
    (hbase : attributeBase o "pop" X.env (eval o X.env) = eval o X.env := by rfl) (hline : (apos.endLine == cpos.line) = true := by rfl) :
    Tri X (gO X tb) W (.Call (.Attribute o "pop" apos) [] [] cpos) (mPop m) := by
  refine pe_weak (pe_bm0 PySem.F.plainAttrs_list PySem.F.slot_list_pop PySem.F.type_list_pop mt_pop ho hbase hline) fun σ H Q ⟨ρ, ah, sa, S, rs, p⟩ => ?_
  refine ⟨ρ, ah, sa, S, rs, p.bind.imp fun u H1 ⟨ρ1, ah1, v, S1, p1, k1, r1, q1⟩ => ?_⟩
  split at q1
  · rename_i k
    split at q1
    · rename_i xs ek
      split at q1
      · rename_i y ey
        rw [Rp.ref_] at r1
        obtain ⟨a, rfl, ea⟩ := r1
        obtain ⟨vs, hv, rv⟩ := S1.ob _ _ _ ek ea
        obtain ⟨yv, hy, ry⟩ := rv.get ey
        obtain ⟨S3, k3⟩ := sim_set (ws := vs.dropLast) (ys := xs.dropLast) S1 ea hv rv.dropLast
        exact ⟨.inl ⟨rfl, vs, .inl (.inl hv)⟩, a, vs, yv, rfl, rfl, hv, by rw [← rv.length]; exact hy, q1 ρ1 _ yv S3 (List.prefix_refl _) k3 (Rp.mono (List.prefix_refl _) k3 _ _ ry)⟩
      · exact q1.elim
    · exact q1.elim
  · exact q1.elim
/-! ### xs.extend(ys) -/
def mExt (m n : ME) : ME := fun s h => (m s h).bind fun v h1 => match v with
  | .ref k => match lsA h1 k with
    | some _ => (n s h1).bind fun y h2 => match y with
      | .ref j => match h2[k]?, h2[j]? with
        | some (.lst xs), some (.lst ys) => if xs.length + ys.length ≤ sizeLine then .ok .non (h2.set k (.lst (xs ++ ys))) else .no
        | _, _ => .no
      | _ => .no
    | none => .no
  | _ => .no
theorem t_ext {o e : Expr} {m n : ME} {apos cpos : Pos} (ho : Tri X (gO X tb) W o m) (he : Tri X (gO X tb) W e n)
    (hbase : attributeBase o "extend" X.env (eval o X.env) = eval o X.env := by rfl)
    (hfew : ((backTo cpos (starEach [e] X.env)).all (fun x => !x.1) && (backToKw cpos (keywordEach [] X.env)).all (fun x => x.1.isSome)
      && decide (([e] : List Expr).length + ([] : List Keyword).length + (if ([] : List Keyword).isEmpty then 0 else 1) < 30)) = true := by rfl)
    (hline : (apos.endLine == cpos.line) = true := by rfl) (hs : starEach [e] X.env = (false, eval e X.env) :: starEach [] X.env := by rfl) (hplain : (backTo cpos (starEach ([] : List Expr) X.env)).any (·.1) = false := by rfl) :
    Tri X (gO X tb) W (.Call (.Attribute o "extend" apos) [e] [] cpos) (mExt m n) := by
  refine pe_weak (pe_bm PySem.F.plainAttrs_list PySem.F.slot_list_extend PySem.F.type_list_extend mt_extend ho (pa_cons he pa_nil hs) hbase hfew hline hs hplain) fun σ H Q ⟨ρ, ah, sa, S, rs, p⟩ => ?_
  refine ⟨ρ, ah, sa, S, rs, p.bind.imp fun u H1 ⟨ρ1, ah1, v, S1, p1, k1, r1, q1⟩ => ?_⟩
  split at q1
  · rename_i k
    split at q1
    · rename_i ys ek
      rw [Rp.ref_] at r1
      obtain ⟨a, rfl, ea⟩ := r1
      obtain ⟨vs, hv, rv⟩ := S1.ob _ _ _ (lsA_of ek) ea
      refine ⟨.inl ⟨rfl, vs, .inl (.inl hv)⟩, ρ1, ah1, sa, S1, rs.mono p1 k1, q1.bind.imp fun y H2 ⟨ρ2, ah2, yv, S2, p2, k2, r2, q2⟩ => ?_⟩
      split at q2
      · rename_i j
        split at q2
        · rename_i xs zs ex ez
          split at q2
          · rename_i hl
            have ea2 : ρ2[k]? = some a := by
              obtain ⟨t, rfl⟩ := p2
              rw [List.getElem?_append_left]
              · exact ea
              · rcases Nat.lt_or_ge k ρ1.length with z | z
                · exact z
                · rw [List.getElem?_eq_none z] at ea; cases ea
            rw [Rp.ref_] at r2
            obtain ⟨b, rfl, eb⟩ := r2
            obtain ⟨ws, hw, rw'⟩ := S2.ob _ _ _ ex ea2
            obtain ⟨us, hu, ru⟩ := S2.ob _ _ _ ez eb
            obtain ⟨S3, k3⟩ := sim_set (ws := ws ++ us) (ys := xs ++ zs) S2 ea2 hw (rw'.append ru)
            exact ⟨a, b, ws, us, rfl, rfl, hw, hu, by rw [← rw'.length, ← ru.length]; exact hl, q2 ρ2 _ .non S3 (List.prefix_refl _) k3 (Rp.non_.mpr rfl)⟩
          · exact q2.elim
        · exact q2.elim
      · exact q2.elim
    · exact q1.elim
  · exact q1.elim
end
end Z

/-! defs as values, called by a local name -/
namespace Z
open PySem PySem.Spec PyProof.Rows L2 RZ
/-- the def that a name stands for, and its promise -/
structure HasFv (P : Program) (w : World) (K : PySem.W.Frag) (mg : Str → Option Value) (base : Heap) (tb : Addr → Prop) (x : Str) (k n : Nat) (F : MF) : Prop where
  at_ : mg x = some (.ref (He.ga K x))
  fn : HasFn P w K mg base tb x k n F
def mCallV (tbl : List (Str × MF)) (i : Nat) (ms : List ME) : ME := fun s h => match s[i]? with
  | some (some (.fn x)) => match tbl.lookup x with
    | some F => (mArgs ms s h).bind fun vs h1 => F vs h1
    | none => .no
  | _ => .no
section
variable {X : Cx} {tb : Addr → Prop} {W : WX} {x : Str} {k n : Nat} {F : MF} {p pos : Pos} {e : Expr} {es : List Expr} {ms : List ME}
/-- a def's name as a value -/
theorem t_fnv (hm : X.mg x = some (.ref (He.ga X.K x))) (hg : Gl X x := by rfl) (hd : (x == ("__debug__" : Str)) = false := by decide) : Tri X (gO X tb) W (.Name x pos) (mC (.fn x)) :=
  t_c (v := .ref (He.ga X.K x)) (pe_glob hg hm rfl hd) fun ρ H => Rp.fn_.mpr rfl
inductive HasAll (P : Program) (w : World) (K : PySem.W.Frag) (mg : Str → Option Value) (base : Heap) (tb : Addr → Prop) (k n : Nat) : List (Str × MF) → Prop where
  | nil : HasAll P w K mg base tb k n []
  | cons {x : Str} {F : MF} {r : List (Str × MF)} {j : Nat} (h : HasFv P w K mg base tb x j n F) (hj : j ≤ k) (t : HasAll P w K mg base tb k n r) : HasAll P w K mg base tb k n ((x, F) :: r)
theorem HasAll.look {P : Program} {w : World} {K : PySem.W.Frag} {mg : Str → Option Value} {base : Heap} {tb : Addr → Prop} {k n : Nat} : ∀ {tbl : List (Str × MF)}, HasAll P w K mg base tb k n tbl → ∀ {x : Str} {F : MF}, tbl.lookup x = some F → ∃ j, j ≤ k ∧ HasFv P w K mg base tb x j n F
  | _, .nil, x, F, e => by cases e
  | _, .cons (x := y) (F := G) (r := r) h hj t, x, F, e => by
    by_cases c : (x == y) = true
    · simp only [List.lookup, c] at e
      cases e
      have : x = y := by simpa using c
      subst this
      exact ⟨_, hj, h⟩
    · have c : (x == y) = false := by simpa using c
      simp only [List.lookup, c] at e
      exact t.look e
theorem pe_callLS {CX : CXT} {i : Nat} {f : Addr} {fd : FuncData} {ps : List Str} {sp : Sp} {E : L2.St → XK} {t : TA} (F : FnOk X.prog X.w X.K X.mg X.base CX k f fd ps sp) (hr : Room k X.A) (hN : X.N[i]? = some x) (hv : Vis X.env.scope x) (hk : PySem.W.keepIn X.K (.ref f) = true) (hb : Binds X.K fd ps []) (hx : ∀ σ, PassesAt CX X σ (E σ)) (ha : PA X (e :: es) t)
    (hdb : (x == ("__debug__" : Str)) = false := by decide) (hcd : (x == ("__classdict__" : Str)) = false := by decide)
    (he : starEach (e :: es) X.env = (false, eval e X.env) :: starEach es X.env := by rfl) (hpl : (backTo pos (starEach es X.env)).any (·.1) = false := by rfl) : PE X (.Call (.Name x p) (e :: es) [] pos) (fun σ H Q => σ[i]? = some (some (.ref f)) ∧ tCallS sp E t σ H Q) := by
  refine ⟨fun pins s σ H Q I h => ?_⟩
  obtain ⟨hs, ht⟩ := h
  refine wpAny_Call_Name_kw (thn ((pe_var (pos := p) hN hv hdb hcd).run pins s σ H (fun v H1 => v = .ref f ∧ H1 = H) I ⟨.ref f, hs, rfl, rfl⟩) fun u s1 ⟨v, H1, I1, r1, q1⟩ => ?_)
  obtain ⟨rfl, rfl⟩ := q1
  cases r1
  refine PySem.W.callWith_K (h₀ := X.base) I.ok.mod.kin hk (thn (ha.run pos pins s1 σ _ _ I1 ht) fun us s2 ⟨vs, H2, I2, r, q⟩ => ⟨I2.kIn, ?_⟩) he hpl
  exact run_fnS F hr hb (hx σ) I2 r q
theorem t_callV (i : Nat) {tbl : List (Str × MF)} {y : Str} (T : HasAll X.prog X.w X.K X.mg X.base tb k n tbl) (hr : Room k X.A) (tk : Takes X W) (ha : TriA X (gO X tb) W (e :: es) ms) (hn : ms.length = n := by rfl) (hN : X.N[i]? = some y := by rfl) (hv : Vis X.env.scope y := by first | exact Or.inl rfl | exact Or.inr (Or.inl rfl) | exact Or.inr (Or.inr rfl))
    (hdb : (y == ("__debug__" : Str)) = false := by decide) (hcd : (y == ("__classdict__" : Str)) = false := by decide)
    (he : starEach (e :: es) X.env = (false, eval e X.env) :: starEach es X.env := by rfl) (hpl : (backTo pos (starEach es X.env)).any (·.1) = false := by rfl) : Tri X (gO X tb) W (.Call (.Name y p) (e :: es) [] pos) (mCallV tbl i ms) := by
  refine ⟨fun pins s σ H Q I h => ?_⟩
  obtain ⟨ρ, ah, sa, S, rs, p'⟩ := h
  unfold mCallV at p'
  split at p'
  · rename_i x ex
    split at p'
    · rename_i F eF
      obtain ⟨j, hj, hx⟩ := T.look eF
      obtain ⟨f, fd, ps, e1, hm, G, hb, hk⟩ := hx.fn
      have ef : f = He.ga X.K x := by
        have := hm.symm.trans hx.at_
        injection this with this
        injection this
      subst ef
      have q : PE X _ _ := pe_callLS (i := i) (p := p) (pos := pos) (e := e) (es := es) (E := fun σ => WE W σ) G (hr.mono hj) hN hv hk hb (fun σ => passAt tk σ) ha hdb hcd he hpl
      refine q.run pins s σ H Q I ⟨?_, ?_⟩
      · obtain ⟨u, e2, r⟩ := rs.get ex
        rw [Rp.fn_] at r
        rw [e2, r]
      · refine ⟨ρ, ah, sa, S, rs, (PstL.bindEq p').imp fun us H1 ⟨ρ1, ah1, vs, ev, S1, p1, k1, r1, q1⟩ => ?_⟩
        exact ⟨ρ1, ah1, vs, S1, r1, by rw [mArgs_len ev, hn], q1.flat fun _ _ _ h => h⟩
    · exact p'.elim
  · exact p'.elim
end
/-! ### zip of two tuples; generators with two names -/
theorem itr_zipT {Γ : G} {ρ0 : List Addr} {H0 : Hp} {a b : Addr} {xs ys : List A} {vs us : List V} (ta : SqT Γ.K H0 a vs) (tb : SqT Γ.K H0 b us) (r : RpL Γ.K ρ0 H0 xs vs) (r' : RpL Γ.K ρ0 H0 ys us) : ItR Γ ρ0 H0 (ItzT Γ.K a b) (IT.zipT xs ys) where
  go := fun i ρ ah H v hi pr kp S e => by
    have ta := kp.sqt ta
    have tb := kp.sqt tb
    have r := RpL.mono pr kp _ _ r
    have r' := RpL.mono pr kp _ _ r'
    simp only [IT.zipT] at e
    split at e
    · rename_i x y e1 e2
      cases e
      obtain ⟨u, k1, r1⟩ := r.get e1
      obtain ⟨w, k2, r3⟩ := r'.get e2
      refine ⟨⟨vs, us, u, w, ta, tb, k1, k2⟩, fun z H' hy => ?_⟩
      obtain ⟨T, p, q, rfl, hT, rfl, f, f2⟩ := hy
      have h1 := f vs ta
      have h2 := f2 us tb
      rw [k1] at h1
      rw [k2] at h2
      cases h1
      cases h2
      exact ⟨S.beside hT, Kept.new hT, Rp.tup_.mpr ⟨T, _, rfl, .inl (.inl upd_same), RpL.cons (Rp.mono (List.prefix_refl _) (Kept.new hT) _ _ r1) (RpL.cons (Rp.mono (List.prefix_refl _) (Kept.new hT) _ _ r3) RpL.nil)⟩⟩
    · cases e
  stop := fun ρ ah H pr kp S hf => by
    have l1 := r.length
    have l2 := r'.length
    exact ⟨vs, us, kp.sqt ta, kp.sqt tb, by show vs.length ≤ min xs.length ys.length ∨ us.length ≤ min xs.length ys.length; omega⟩
def mItZT (m n : ME) : MI := fun s h => (m s h).bind fun v h1 => (n s h1).bind fun u h2 => match v, u with
  | .tup xs, .tup ys => .ok (IT.zipT xs ys) h2
  | _, _ => .no
section
variable {X : Cx} {tb : Addr → Prop} {W : WX} {e e2 : Expr} {m n : ME} {p pos tpos : Pos} {elts : List Expr} {kk : Nat}
theorem ti_zipT (hl : Tri X (gO X tb) W e m) (hl2 : Tri X (gO X tb) W e2 n) (hm : X.mg "zip" = none) (hg : Gl X "zip" := by rfl)
    (hs : starEach [e, e2] X.env = (false, eval e X.env) :: starEach [e2] X.env := by rfl) (hs2 : starEach [e2] X.env = (false, eval e2 X.env) :: starEach [] X.env := by rfl) (hpl : (backTo pos (starEach [e2] X.env)).any (·.1) = false := by rfl) : TriI X (gO X tb) W (.Tuple elts kk tpos) (.Call (.Name "zip" p) [e, e2] [] pos) (mItZT m n) := by
  refine pi_weak (pi_zipA hg hm (pa_cons hl (pa_cons hl2 pa_nil hs2) hs) hs hpl) fun σ H Q ⟨ρ, ah, sa, S, rs, p⟩ => ?_
  refine ⟨ρ, ah, sa, S, rs, p.ofE.imp fun u H1 ⟨ρ1, ah1, v, S1, p1, k1, r1, q1⟩ => ?_⟩
  refine ⟨ρ1, ah1, sa, S1, rs.mono p1 k1, q1.ofE.imp fun w H2 ⟨ρ2, ah2, v2, S2, p2, k2, r2, q2⟩ => ?_⟩
  have r1 := Rp.mono p2 k2 _ _ r1
  cases v with
  | tup xs =>
    cases v2 with
    | tup ys =>
      rw [Rp.tup_] at r1 r2
      obtain ⟨x, vs, rfl, tx, rx⟩ := r1
      obtain ⟨y, us, rfl, ty, ry⟩ := r2
      exact ⟨x, y, vs, us, rfl, .inr ⟨tx, ty, q2 ρ2 H2 _ S2 (List.prefix_refl _) (Kept.refl _) (itr_zipT tx ty rx ry)⟩⟩
    | _ => exact q2.elim
  | _ => exact q2.elim
theorem gg_2 {X : Cx} {scope : Scope} {own : List (Str × Nat)} {x y : Str} {p1 p2 tpos : Pos} {k : Nat} (i j : Nat) (hN : X.N.Nodup) (hv : i ∈ own.map (·.2) := by decide) (hv2 : j ∈ own.map (·.2) := by decide) (hi : X.N[i]? = some x := by rfl) (hj : X.N[j]? = some y := by rfl) (hx : scope.names.lookup x = some .local := by rfl) (hy : scope.names.lookup y = some .local := by rfl) :
    ∃ g : TG, (∀ (A : Around) (s : Shared) (H : Hp) (fp : List Addr) (C : Addr) (code : Value) (pn : List (Addr × Obj)), PG (gxCx X A s H fp (gxEnv X scope C code) pn) (.Tuple [.Name x p1, .Name y p2] k tpos) g) ∧
    ∀ v u σ sa sa' ρ H Q, Rp X.K ρ H v u → SRp X.K ρ H sa σ → c2 i j v sa = some sa' → (∀ σ', SRp X.K ρ H sa' σ' → L2.wipe σ' (own.map (·.2)) = L2.wipe σ (own.map (·.2)) → Q σ' H) → g u σ H Q :=
  ⟨gTup X.K 2 (gCons (gName i) (gCons (gName j) gNil)), fun A s H fp C code pn => pg_tup (X := gxCx X A s H fp (gxEnv X scope C code) pn) rfl (pgs_cons (pg_name (X := gxCx X A s H fp (gxEnv X scope C code) pn) hN hi (Or.inl hx) (Or.inr hx)) (pgs_cons (pg_name (X := gxCx X A s H fp (gxEnv X scope C code) pn) hN hj (Or.inl hy) (Or.inr hy)) pgs_nil)), fun v u σ sa sa' ρ H Q r rs e q => by
    unfold c2 at e
    split at e
    · cases e
      rw [Rp.tup_] at r
      obtain ⟨a, vs, rfl, t, rl⟩ := r
      have hl := rl.length
      simp only [RpL] at rl
      obtain ⟨u1, v1, rfl, r1, u2, v2, rfl, r2, rfl⟩ := rl
      exact ⟨a, _, rfl, t, rfl, u1, _, rfl, u2, _, rfl, rfl, q _ ((rs.set i r1).set j r2) (by rw [wipe_set hv2, wipe_set hv])⟩
    · cases e⟩
end
end Z

/-! xs[a:b] = ys, ys another list -/
namespace Z
open PySem PySem.Spec PyProof.Rows L2
section
variable {X : Cx} {o : Expr} {lo hi : Option Expr} {to : TE} {tl th : TO} {pos p2 : Pos}
def tGSl (to : TE) (tl th : TO) : L2.TG := fun v σ H Q => to σ H fun x H1 => tl σ H1 fun l H2 => th σ H2 fun u H3 =>
  ∃ a b i j xs ys, x = .ref a ∧ v = .ref b ∧ l = some i ∧ u = some j ∧ H3 a = some (.lst xs) ∧ H3 b = some (.lst ys) ∧ a ≠ b ∧ 0 ≤ i ∧ i ≤ j ∧ j ≤ xs.length ∧ xs.length + ys.length ≤ sizeLine ∧
    Q σ (upd H3 a (.lst (xs.take i.toNat ++ ys ++ xs.drop j.toNat)))
theorem pg_subSl (ho : PE X o to) (hl : PO X lo tl) (hu : PO X hi th)
    (ha : ∀ v, assign (.Subscript o (.Slice lo hi none p2) pos) X.env v = (do
      let ov ← holding [v] (eval o X.env)
      let iv ← holding [v, ov] (eval (.Slice lo hi none p2) X.env)
      standAt pos
      holding [v, ov, iv] (setItem ov iv v)
      release [iv, v, ov] [])) : PG X (.Subscript o (.Slice lo hi none p2) pos) (tGSl to tl th) := by
  refine ⟨fun pins s σ H v u Q I r h => ?_⟩
  rw [ha]
  refine wpAny_bind (wpAny_holding (thn (ho.run pins s σ H _ I h) fun ov s1 ⟨x, H1, I1, r1, q1⟩ => ?_))
  refine wpAny_bind (wpAny_holding (wpAny_Slice (thn (hl.run pins s1 σ H1 _ I1 q1) fun vl s2 ⟨l, H2, I2, pl, q2⟩ => thn (hu.run pins s2 σ H2 _ I2 q2) fun vu s3 ⟨u1, H3, I3, pu, q3⟩ => ?_)))
  rw [evalPart_none]
  refine wpAny_pure ?_
  obtain ⟨a, b, i, j, xs, ys, rfl, rfl, rfl, rfl, ea, eb, ne, c1, c2, c3, c4, q⟩ := q3
  cases r1
  cases r
  have I4 : Inv X pins σ H3 { s3 with heap := s3.heap.push { cls := .type "slice", data := .fields #[vl, vu, .none] } } := I3.kept (t' := s3.toks) fun b ob q => Heap.get?_push_of_some _ q
  refine wpAny_bind (wpAny_standAt (wpAny_bind (wpAny_holding ?_)))
  refine set_slice I4 ea eb ne (Heap.IsSliceOf.new ..) ?_ ?_ c1 c2 c3 c4 fun s' I5 => wpAny_release ⟨σ, _, I5, q⟩
  · cases pl; exact ⟨_, rfl⟩
  · cases pu; exact ⟨_, rfl⟩
end
/-- o[l:u] = v -/
def oSetSl (o v : A) (l u : Option Int) (s : SA) (h : AH) : Rt := match o, v, l, u with
  | .ref n, .ref m, some i, some j => match h[n]?, h[m]? with
    | some (.lst xs), some (.lst ys) => if n ≠ m ∧ 0 ≤ i ∧ i ≤ j ∧ j ≤ xs.length ∧ xs.length + ys.length ≤ sizeLine then .nx s (h.set n (.lst (xs.take i.toNat ++ ys ++ xs.drop j.toNat))) else .no
    | _, _ => .no
  | _, _, _, _ => .no
def gSl (mo : ME) (ml mh : MO) : MG := fun v s h => (mo s h).st s fun o h1 => (ml s h1).st s fun l h2 => (mh s h2).st s fun u h3 => oSetSl o v l u s h3
theorem oSetSl_ok (o v : A) (l u : Option Int) (s : SA) (h : AH) (s' : SA) (h' : AH) : oSetSl o v l u s h ≠ .bk s' h' ∧ oSetSl o v l u s h ≠ .ct s' h' ∧ ∀ v', oSetSl o v l u s h ≠ .rt v' h' := by
  unfold oSetSl
  split
  · split
    · split <;> exact ⟨fun z => (by cases z), fun z => (by cases z), fun v' z => (by cases z)⟩
    · exact ⟨fun z => (by cases z), fun z => (by cases z), fun v' z => (by cases z)⟩
  · exact ⟨fun z => (by cases z), fun z => (by cases z), fun v' z => (by cases z)⟩
theorem ko_sl {mo : ME} {ml mh : MO} : TgtOk (gSl mo ml mh) := fun v s h s' h' => st_ko (fun o h1 s' h' => st_ko (fun l h2 s' h' => st_ko (fun u h3 s' h' => oSetSl_ok o v l u s h3 s' h') s' h') s' h') s' h'
section
variable {Γ : G} {W : WX} {σ : L2.St} {ρ ρ1 : List Addr} {H H1 : Hp} {D D' : Ends}
theorem PstS.ofO {sa : SA} {r : Rs (Option Int)} {k : Option Int → AH → Rt} (hs : SRp Γ.K ρ H sa σ) (h : PstS Γ W ρ H D (r.st sa k)) :
    PstO Γ W σ ρ H (fun c H1 => ∃ ρ1 ah1, Sim Γ ρ1 ah1 H1 ∧ ρ <+: ρ1 ∧ Kept H H1 ∧ PstS Γ W ρ1 H1 D (k c ah1)) r := by
  cases r with
  | ok v ah' => exact fun ρ' H' S a b => ⟨ρ', ah', S, a, b, PstS.later h a b⟩
  | ex e ah' => exact fun ρ' H' cls d S a b x => h ρ' H' σ cls d S a b (hs.mono a b) x
  | no => exact h
end
theorem oSetSl_rel {Γ : G} {W : WX} {ρ : List Addr} {ah : AH} {H : Hp} {sa : SA} {σ : L2.St} {Q : L2.St → Hp → Prop} {o v : A} {l u : Option Int} {x y : V} (S : Sim Γ ρ ah H) (rs : SRp Γ.K ρ H sa σ) (r1 : Rp Γ.K ρ H o x) (r : Rp Γ.K ρ H v y)
    (p : PstS Γ W ρ H { nx := Q, rt := fun _ _ => False } (oSetSl o v l u sa ah)) :
    ∃ a b i j xs ys, x = .ref a ∧ y = .ref b ∧ l = some i ∧ u = some j ∧ H a = some (.lst xs) ∧ H b = some (.lst ys) ∧ a ≠ b ∧ 0 ≤ i ∧ i ≤ j ∧ j ≤ xs.length ∧ xs.length + ys.length ≤ sizeLine ∧
      Q σ (upd H a (.lst (xs.take i.toNat ++ ys ++ xs.drop j.toNat))) := by
  unfold oSetSl at p
  split at p
  · rename_i n m i j
    split at p
    · rename_i xs ys ex ey
      split at p
      · rename_i c
        obtain ⟨c0, c1, c2, c3, c4⟩ := c
        rw [Rp.ref_] at r1 r
        obtain ⟨a, rfl, ea⟩ := r1
        obtain ⟨b, rfl, eb⟩ := r
        obtain ⟨vs, hv, q⟩ := sim_lst S ex ea
        obtain ⟨ws, hw, q'⟩ := sim_lst S ey eb
        have la : n < ρ.length := (List.getElem?_eq_some_iff.mp ea).1
        have ne : a ≠ b := fun e => by
          subst e
          exact c0 ((List.getElem?_inj la S.nd).mp (ea.trans eb.symm))
        have q4 := ((q.take i.toNat).append q').append (q.drop j.toNat)
        obtain ⟨S4, k4⟩ := sim_set S ea hv q4
        exact ⟨a, b, i, j, vs, ws, rfl, rfl, rfl, rfl, hv, hw, ne, c1, c2, by rw [← q.length]; exact c3, by rw [← q.length, ← q'.length]; exact c4, p ρ _ σ S4 (List.prefix_refl _) k4 (rs.mono (List.prefix_refl _) k4)⟩
      · exact p.elim
    · exact p.elim
  · exact p.elim
section
variable {X : Cx} {tb : Addr → Prop} {W : WX} {o : Expr} {lo hi : Option Expr} {pos p2 : Pos} {mo : ME} {ml mh : MO}
theorem tg_slice (ho : Tri X (gO X tb) W o mo) (hl : TriO X (gO X tb) W lo ml) (hu : TriO X (gO X tb) W hi mh)
    (ha : ∀ v, assign (.Subscript o (.Slice lo hi none p2) pos) X.env v = (do
      let ov ← holding [v] (eval o X.env)
      let iv ← holding [v, ov] (eval (.Slice lo hi none p2) X.env)
      standAt pos
      holding [v, ov, iv] (setItem ov iv v)
      release [iv, v, ov] []) := by intro _; rfl) : TriG X (gO X tb) W (.Subscript o (.Slice lo hi none p2) pos) (gSl mo ml mh) :=
  pg_weak (pg_subSl ho hl hu ha) fun u σ H Q ⟨ρ, ah, sa, v, S, rs, r, p⟩ => by
    refine ⟨ρ, ah, sa, S, rs, (PstS.ofE rs p).imp fun x H1 ⟨ρ1, ah1, v1, S1, p1, k1, r1, q1⟩ => ?_⟩
    refine ⟨ρ1, ah1, sa, S1, rs.mono p1 k1, (PstS.ofO (rs.mono p1 k1) q1).imp fun l H2 ⟨ρ2, ah2, S2, p2, k2, q2⟩ => ?_⟩
    refine ⟨ρ2, ah2, sa, S2, rs.mono (p1.trans p2) (k1.trans k2), (PstS.ofO (rs.mono (p1.trans p2) (k1.trans k2)) q2).imp fun j H3 ⟨ρ3, ah3, S3, p3, k3, q3⟩ => ?_⟩
    exact oSetSl_rel S3 (rs.mono ((p1.trans p2).trans p3) ((k1.trans k2).trans k3)) (Rp.mono (p2.trans p3) (k2.trans k3) _ _ r1) (Rp.mono ((p1.trans p2).trans p3) ((k1.trans k2).trans k3) _ _ r) q3
end
/-! ### reading it -/
def kSlG3 (o v : A) (l : Option Int) (s : SA) (r : Rs (Option Int)) : Rt := r.st s fun u h3 => oSetSl o v l u s h3
def kSlG2 (o v : A) (mh : MO) (s : SA) (r : Rs (Option Int)) : Rt := r.st s fun l h2 => (mh s h2).st s fun u h3 => oSetSl o v l u s h3
def kSlG1 (v : A) (ml mh : MO) (s : SA) (r : Rs A) : Rt := r.st s fun o h1 => (ml s h1).st s fun l h2 => (mh s h2).st s fun u h3 => oSetSl o v l u s h3
section
variable {mo : ME} {ml mh : MO} {v o : A} {s : SA} {h : AH} {l u : Option Int}
theorem gSl_eq : gSl mo ml mh v s h = kSlG1 v ml mh s (mo s h) := rfl
theorem kSlG1_ok : kSlG1 v ml mh s (.ok o h) = kSlG2 o v mh s (ml s h) := rfl
theorem kSlG2_ok : kSlG2 o v mh s (.ok l h) = kSlG3 o v l s (mh s h) := rfl
theorem kSlG3_ok : kSlG3 o v l s (.ok u h) = oSetSl o v l u s h := rfl
end
end Z

/-! get(key, other) of a module's dict; insert -/
namespace Z
open PySem PySem.Spec PyProof.Rows L2
structure GetK (K : PySem.W.Frag) (w : World) (a : Addr) (miss : List Str) : Prop where
  at_ : ∃ es n, K.lookup a = some ⟨.type "dict", none, .dict es n, #[]⟩ ∧ PySem.W.KeysLit w.params es.toList
  sys : (a == sysModules) = false
  miss : ∀ x ∈ miss, PySem.W.nsIn K a x = some none
def gtB (K : PySem.W.Frag) (a : Addr) (miss : List Str) : Bool := !(a == sysModules) && miss.all fun x => He.eqO (PySem.W.nsIn K a x) (some none)
theorem gtB_ok {K : PySem.W.Frag} {w : World} {a : Addr} {miss : List Str} (h : gtB K a miss = true) (t : ∃ es n, KDict K w a es n) : GetK K w a miss := by
  unfold gtB at h
  rw [Bool.and_eq_true, Bool.not_eq_true', List.all_eq_true] at h
  obtain ⟨es, n, lk⟩ := t
  exact ⟨⟨es, n, lk.at_, lk.lit⟩, h.1, fun x hx => He.eqO_ok (h.2 x hx)⟩
def tKGet (K : PySem.W.Frag) (a : Addr) (ty tx : TE) : TE := fun σ H Q => ty σ H fun y H1 => tx σ H1 fun z H2 => ∃ k, y = .str k ∧ ((∃ u v, PySem.W.nsIn K a k = some (some u) ∧ RelV v u ∧ Q v H2) ∨ (PySem.W.nsIn K a k = some none ∧ Q z H2))
section
variable {X : Cx} {o e f : Expr} {ty tx : TE} {a : Addr} {miss : List Str} {apos cpos : Pos}
theorem pe_kget (g : GetK X.K X.w a miss) (ho : PE X o (tC (.ref a))) (he : PE X e ty) (hf : PE X f tx) (m : M2 X o "get" apos e f cpos) : PE X (.Call (.Attribute o "get" apos) [e, f] [] cpos) (tKGet X.K a ty tx) := by
  obtain ⟨⟨es, n, hl, hk⟩, hsys, _⟩ := g
  refine ⟨fun pins s σ H Q I h => ?_⟩
  refine wpAny_Call_method m.base m.few m.line PySem.F.plainAttrs_dict PySem.F.slot_dict_get PySem.F.type_dict_get (thn (ho.run pins s σ H (fun x H1 => x = .ref a ∧ tKGet X.K a ty tx σ H1 Q) I ⟨rfl, h⟩) fun u s1 ⟨x, H1, I1, rx, ex, q1⟩ => ?_)
  subst ex
  obtain rfl : u = Value.ref a := rx
  have hm := PySem.W.mapOf_K (prog := X.prog) (w := X.w) I1.kIn hl hk
  refine ⟨hm.typeIs, fun b q => ?_, ?_⟩
  · cases q
    exact ⟨_, I1.kIn _ _ hl, rfl⟩
  rw [m.trees]
  refine Calls.callWith_builtin rfl (Calls.evalArgs_plain (Calls.spliced_cons (thn (he.run pins s1 σ H1 _ I1 q1) fun iv s2 ⟨y, H2, I2, ry, q2⟩ =>
    Calls.spliced_cons (thn (hf.run pins s2 σ H2 _ I2 q2) fun fv s3 ⟨z, H3, I3, rz, k, ey, q3⟩ => Calls.spliced_nil ?_))))
  subst ey
  obtain ⟨t, rfl⟩ := ry
  have hm3 := PySem.W.mapOf_K (prog := X.prog) (w := X.w) I3.kIn hl hk
  refine call_meetsIn PySem.F.slot_dict_get hm3.typeIs PySem.F.entry_dict_get (PySem.F.args_dict_get_3 _ _ _) (meets_dict_get_default (strKind X.prog X.w) a (strKind_is X.prog X.w k t) hsys fv) ⟨_, hm3, ?_⟩
  rcases q3 with ⟨u, v, e1, r, q⟩ | ⟨e1, q⟩
  · rw [PySem.W.find_K hl e1]
    exact ⟨v, H3, I3.tok _, r, q⟩
  · rw [PySem.W.find_K hl e1]
    exact ⟨z, H3, I3.tok _, rz, q⟩
end
def mKGet (kvs : List (Str × A)) (miss : List Str) (m d : ME) : ME := fun s h => (m s h).bind fun v h1 => (d s h1).bind fun z h2 => match v with
  | .str x => match kvs.lookup x with
    | some y => .ok y h2
    | none => if x ∈ miss then .ok z h2 else .no
  | _ => .no
section
variable {X : Cx} {tb : Addr → Prop} {W : WX} {e f : Expr} {m d : ME} {x : Str} {a : Addr} {p apos cpos : Pos} {kvs : List (Str × A)} {miss : List Str}
theorem t_kget (hm : X.mg x = some (.ref a)) (hk : DctK X.K X.w a kvs) (g : GetK X.K X.w a miss) (he : Tri X (gO X tb) W e m) (hf : Tri X (gO X tb) W f d) (hg : Gl X x := by rfl) (hdb : (x == ("__debug__" : Str)) = false := by decide)
    (hbase : attributeBase (.Name x p) "get" X.env (eval (.Name x p) X.env) = eval (.Name x p) X.env := by rfl)
    (hfew : ((backTo cpos (starEach [e, f] X.env)).all (fun x => !x.1) && (backToKw cpos (keywordEach [] X.env)).all (fun x => x.1.isSome)
      && decide (([e, f] : List Expr).length + ([] : List Keyword).length + (if ([] : List Keyword).isEmpty then 0 else 1) < 30)) = true := by rfl)
    (hline : (apos.endLine == cpos.line) = true := by rfl) (htr : backTo cpos (starEach [e, f] X.env) = [(false, eval e X.env), (false, eval f X.env)] := by rfl) :
    Tri X (gO X tb) W (.Call (.Attribute (.Name x p) "get" apos) [e, f] [] cpos) (mKGet kvs miss m d) := by
  refine pe_weak (pe_kget g (pe_glob (v := .ref a) hg hm rfl hdb) he hf ⟨hbase, hfew, hline, htr⟩) fun σ H Q ⟨ρ, ah, sa, S, rs, q⟩ => ?_
  refine ⟨ρ, ah, sa, S, rs, q.bind.imp fun u H1 ⟨ρ1, ah1, v, S1, p1, k1, r1, q1⟩ => ?_⟩
  refine ⟨ρ1, ah1, sa, S1, rs.mono p1 k1, q1.bind.imp fun u2 H2 ⟨ρ2, ah2, z, S2, p2, k2, r2, q2⟩ => ?_⟩
  cases v with
  | str k =>
    dsimp only at q2
    rw [Rp.str_] at r1
    refine ⟨k, r1, ?_⟩
    cases ey : kvs.lookup k with
    | some y =>
      rw [ey] at q2
      obtain ⟨u', ⟨es, n, u'', hl, hkl, en, rr⟩, rp⟩ := hk k y ey
      exact .inl ⟨u'', u', en, rr, Pst.ret S2 (rp ρ2 H2) q2⟩
    | none =>
      rw [ey] at q2
      dsimp only at q2
      by_cases c : k ∈ miss
      · rw [if_pos c] at q2
        exact .inr ⟨g.miss k c, Pst.ret S2 r2 q2⟩
      · rw [if_neg c] at q2
        exact q2.elim
  | _ => exact q2.elim
end
/-! ### xs.insert(i, y) -/
def mIns (m n q : ME) : ME := fun s h => (m s h).bind fun v h1 => match v with
  | .ref k => match lsA h1 k with
    | some _ => (n s h1).bind fun i h2 => (q s h2).bind fun y h3 => match i with
      | .int i => match h3[k]? with
        | some (.lst xs) => if xs.length < sizeLine ∧ 0 ≤ i ∧ i < 2 ^ 63 then .ok .non (h3.set k (.lst (xs.take i.toNat ++ [y] ++ xs.drop i.toNat))) else .no
        | _ => .no
      | _ => .no
    | none => .no
  | _ => .no
section
variable {X : Cx} {tb : Addr → Prop} {W : WX}
theorem t_ins {o e f : Expr} {m n q : ME} {apos cpos : Pos} (ho : Tri X (gO X tb) W o m) (he : Tri X (gO X tb) W e n) (hf : Tri X (gO X tb) W f q)
    (hbase : attributeBase o "insert" X.env (eval o X.env) = eval o X.env := by rfl)
    (hfew : ((backTo cpos (starEach [e, f] X.env)).all (fun x => !x.1) && (backToKw cpos (keywordEach [] X.env)).all (fun x => x.1.isSome)
      && decide (([e, f] : List Expr).length + ([] : List Keyword).length + (if ([] : List Keyword).isEmpty then 0 else 1) < 30)) = true := by rfl)
    (hline : (apos.endLine == cpos.line) = true := by rfl) (hs : starEach [e, f] X.env = (false, eval e X.env) :: starEach [f] X.env := by rfl) (hs2 : starEach [f] X.env = (false, eval f X.env) :: starEach [] X.env := by rfl) (hplain : (backTo cpos (starEach [f] X.env)).any (·.1) = false := by rfl) :
    Tri X (gO X tb) W (.Call (.Attribute o "insert" apos) [e, f] [] cpos) (mIns m n q) := by
  refine pe_weak (pe_bm PySem.F.plainAttrs_list PySem.F.slot_list_insert PySem.F.type_list_insert mt_insert ho (pa_cons he (pa_cons hf pa_nil hs2) hs) hbase hfew hline hs hplain) fun σ H Q ⟨ρ, ah, sa, S, rs, p⟩ => ?_
  refine ⟨ρ, ah, sa, S, rs, p.bind.imp fun u H1 ⟨ρ1, ah1, v, S1, p1, k1, r1, q1⟩ => ?_⟩
  cases v with
  | ref k =>
    dsimp only at q1
    cases ek : lsA ah1 k with
    | none => rw [ek] at q1; exact q1.elim
    | some ys =>
      rw [ek] at q1
      dsimp only at q1
      rw [Rp.ref_] at r1
      obtain ⟨a, rfl, ea⟩ := r1
      obtain ⟨vs, hv, rv⟩ := S1.ob _ _ _ (lsA_of ek) ea
      refine ⟨.inl ⟨rfl, vs, .inl (.inl hv)⟩, ρ1, ah1, sa, S1, rs.mono p1 k1, q1.bind.imp fun y H2 ⟨ρ2, ah2, yv, S2, p2, k2, r2, q2⟩ => ?_⟩
      refine ⟨ρ2, ah2, sa, S2, rs.mono (p1.trans p2) (k1.trans k2), q2.bind.imp fun z H3 ⟨ρ3, ah3, zv, S3, p3, k3, r3, q3⟩ => ?_⟩
      cases yv with
      | int i =>
        dsimp only at q3
        have ea2 : ρ3[k]? = some a := by
          obtain ⟨t, rfl⟩ := p2.trans p3
          rw [List.getElem?_append_left]
          · exact ea
          · exact (List.getElem?_eq_some_iff.mp ea).1
        have r2 := Rp.mono p3 k3 _ _ r2
        rw [Rp.int_] at r2
        cases ex : ah3[k]? with
        | none => rw [ex] at q3; exact q3.elim
        | some ob =>
          rw [ex] at q3
          cases ob with
          | lst xs =>
            dsimp only at q3
            by_cases hc : xs.length < sizeLine ∧ 0 ≤ i ∧ i < 2 ^ 63
            · rw [if_pos hc] at q3
              obtain ⟨ws, hw, rw'⟩ := S3.ob _ _ _ ex ea2
              obtain ⟨S4, k4⟩ := sim_set (ws := ws.take i.toNat ++ [z] ++ ws.drop i.toNat) (ys := xs.take i.toNat ++ [zv] ++ xs.drop i.toNat) S3 ea2 hw (((rw'.take _).append (RpL.cons r3 RpL.nil)).append (rw'.drop _))
              exact ⟨a, ws, i, z, rfl, by rw [r2], hw, by rw [← rw'.length]; exact hc.1, hc.2.1, hc.2.2, q3 ρ3 _ .non S4 (List.prefix_refl _) k4 (Rp.non_.mpr rfl)⟩
            · rw [if_neg hc] at q3
              exact q3.elim
          | _ => exact q3.elim
      | _ => exact q3.elim
  | _ => exact q1.elim
end
end Z

/-! try .. except C as e: return e.f == "text" -/
namespace Z
open PySem PySem.Spec PyProof.Rows L2
def mTryQ (i : Nat) (mb : MS) (c0 f c : Str) : MS := fun s h => match mb s h with
  | .ex e s' h' => if e.cls = c0 then (if i < s'.length then (match e.fs.lookup f with
    | some (.str x) => .rt (.bl (decide (x = c))) h'
    | _ => .no) else .no) else .no
  | r => r
def tEqT (a : Addr) (cls : Value) (d : Option Addr) (C : Addr) (i : Nat) (f c : Str) : TE := tOp rEq (tSI a cls d C i (.f f)) (tC (.str c))
section
variable {X : Cx} {tb : Addr → Prop} {W : WX} {body : List Stmt} {x n : Str} {c0 f c : Str} {mb : MS} {i j : Nat} {C Ch : Addr} {np pos pos' q q1 q2 q3 q4 : Pos} {y : Str}
theorem ts_tryQ (hs : X.stack = X.env :: X.outer) (hf : X.env.frame = some X.env.locals) (hN : X.N.Nodup) (gC : X.mg c0 = some (.ref C)) (gH : X.mg x = some (.ref Ch)) (hx : PySem.W.exmOne X.K (.ref C) (.ref Ch) = some true)
    (tk : Takes X W) (hb : ∀ (W' : WX) (pn : List (Addr × Obj)) (xe : Value → Shared → Prop), Takes (X.tr pn xe) W' → PassesOwn (model X.prog X.w) X.A X.env xe → TriB (X.tr pn xe) (gO X tb) W' body mb)
    (hsi : ∀ (a : Addr) (oe : Obj) (cls : Value) (d : Option Addr) (pn : List (Addr × Obj)), Zc cls d oe → (∃ vs, oe.data = .fields vs) → SItem (X.suite a ((a, oe) :: pn)) a cls d C i (.Attribute (.Name y q1) f q2) (.f f))
    (hi : X.N[i]? = some n := by rfl) (hln : X.env.kindOf n = some .local := by rfl) (hg : Gl X x := by rfl) (hdb : (x == ("__debug__" : Str)) = false := by decide) :
    TriS X (gO X tb) W (.Try body [.ExceptHandler (some (.Name x np)) (some n) [.Return (some (.Compare (.Attribute (.Name y q1) f q2) [.Eq] [.Constant (.str c) j q3] q4)) q] pos'] [] [] pos) (mTryQ i mb c0 f c) := by
  refine ps_weak (ps_try_as (tb := fun W' => tS (gO X tb) W' mb) (ts := fun a cls d => tRet (tEqT a cls d C i f c)) hs hf hN hi hln ⟨hg, hdb, .inl gH⟩ tk hb (fun a oe cls d pn hz hv => pss_one (ps_ret (pe_cmpR op_eq (hsi a oe cls d pn hz hv) pe_str rfl)))) fun D σ H ⟨ρ, ah, sa, S, rs, p⟩ => ?_
  refine ⟨ρ, ah, sa, S, rs, ?_⟩
  unfold mTryQ at p
  cases e : mb sa ah with
  | ex ee s' h' =>
    rw [e] at p
    intro ρ' H' σ' cls d S' pr kp rs' xp
    obtain ⟨C', dx, gs, m1, rfl, rfl, hd, rf⟩ := xp
    have m1 : X.mg ee.cls = some (.ref C') := m1
    dsimp only at p
    by_cases ec : ee.cls = c0
    · rw [if_pos ec] at p
      rw [ec, gC] at m1
      cases m1
      refine ⟨true, hx, fun _ a ha => ?_, fun z => Bool.noConfusion z⟩
      by_cases hlt : i < s'.length
      · rw [if_pos hlt] at p
        rw [SRp.len rs'] at hlt
        cases el : ee.fs.lookup f with
        | none => rw [el] at p; exact p.elim
        | some v =>
          rw [el] at p
          cases v with
          | str z =>
            have p : PstS (gO X tb) W ρ H D (.rt (.bl (decide (z = c))) h') := p
            show tSI a (.ref C) (some dx) C i (.f f) (List.set σ' i (some (V.ref a))) H' (fun x H1 => tC (.str c) (List.set σ' i (some (V.ref a))) H1 fun y H2 => rEq x y H2 D.rt)
            refine tSI_ok (k := .f f) (v := .str z) rfl (by rw [List.getElem?_set_self hlt]) hd rf el fun u ru => ?_
            rw [Rp.str_] at ru
            subst ru
            refine ⟨rfl, ?_⟩
            have := PstS.later p pr kp ρ' H' (.bl (decide (z = c))) S' (List.prefix_refl _) (Kept.refl _) (Rp.bl_.mpr rfl)
            rw [show decide (V.str z = V.str c) = decide (z = c) by simp]
            exact this
          | _ => exact p.elim
      · rw [if_neg hlt] at p
        exact p.elim
    · rw [if_neg ec] at p
      exact p.elim
  | nx s' h' => rw [e] at p; exact p
  | rt v h' => rw [e] at p; exact p
  | bk s' h' => rw [e] at p; exact p
  | ct s' h' => rw [e] at p; exact p
  | no => rw [e] at p; exact p
end
def kTryQ (i : Nat) (c0 f c : Str) (r : Rt) : Rt := match r with
  | .ex e s' h' => if e.cls = c0 then (if i < s'.length then (match e.fs.lookup f with
    | some (.str x) => .rt (.bl (decide (x = c))) h'
    | _ => .no) else .no) else .no
  | r => r
section
variable {i : Nat} {mb : MS} {c0 f c x : Str} {s s' : SA} {h : AH} {v : A}
theorem mTryQ_eq : mTryQ i mb c0 f c s h = kTryQ i c0 f c (mb s h) := by
  unfold mTryQ kTryQ
  cases mb s h <;> rfl
theorem kTryQ_ex (hi : i < s.length) : kTryQ i c0 f c (.ex ⟨c0, [(f, .str x)]⟩ s h) = .rt (.bl (decide (x = c))) h := by
  unfold kTryQ
  dsimp only
  rw [if_pos rfl, if_pos hi]
  simp [List.lookup]
end
end Z

/-! ord; pieces of a program that the law never reaches: no promise about them -/
namespace Z
open PySem PySem.Spec PyProof.Rows L2
def bOrd : List A → Mo A
  | [.str x] => fun ah => if x.length = 1 then .ok (.int (x.cps.getD 0 0 : Nat)) ah else .no
  | _ => fun _ => .no
section
variable {X : Cx} {tb : Addr → Prop} {W : WX}
theorem b_ord : CallM X (gO X tb) W (.builtin "ord") bOrd := ⟨_, call_ord, fun σ vs ah ρ H us Q S r p => by
  unfold bOrd at p
  split at p
  · rename_i x
    obtain ⟨u, rfl, r1⟩ := r.one
    rw [Rp.str_] at r1
    subst r1
    by_cases c : x.length = 1
    · simp only [if_pos c] at p
      exact ⟨x, rfl, c, Pst.ret S (Rp.int_.mpr rfl) p⟩
    · simp only [if_neg c] at p
      exact p.elim
  · exact p.elim⟩
/-- xs[::-1] of a list -/
def mRevL (m : ME) : ME := fun s h => (m s h).bind fun v h1 => match v with
  | .ref k => match h1[k]? with
    | some (.lst xs) => .ok (.ref h1.length) (h1 ++ [.lst xs.reverse])
    | _ => .no
  | _ => .no
theorem RpL.rev {K : PySem.W.Frag} {ρ : List Addr} {H : Hp} : ∀ {xs : List A} {vs : List V}, RpL K ρ H xs vs → RpL K ρ H xs.reverse vs.reverse
  | [], vs, r => by simp only [RpL] at r; subst r; exact RpL.nil
  | x :: xs, vs, r => by
    simp only [RpL] at r
    obtain ⟨u, us, rfl, r1, r2⟩ := r
    rw [List.reverse_cons, List.reverse_cons]
    exact (RpL.rev r2).append (RpL.cons r1 RpL.nil)
theorem t_revL {e : Expr} {m : ME} {k : Nat} {p1 p2 p3 pos : Pos} (he : Tri X (gO X tb) W e m) : Tri X (gO X tb) W (.Subscript e (.Slice none none (some (.UnaryOp .USub (.Constant (.int 1) k p1) p2)) p3) pos) (mRevL m) := by
  refine pe_weak (pe_revL he) fun σ H Q ⟨ρ, ah, sa, S, rs, p⟩ => ?_
  refine ⟨ρ, ah, sa, S, rs, p.bind.imp fun u H1 ⟨ρ1, ah1, v, S1, p1, k1, r1, q1⟩ => ?_⟩
  cases v with
  | ref n =>
    dsimp only at q1
    cases e1 : ah1[n]? with
    | none => rw [e1] at q1; exact q1.elim
    | some ob =>
      rw [e1] at q1
      cases ob with
      | lst xs =>
        dsimp only at q1
        rw [Rp.ref_] at r1
        obtain ⟨a, rfl, ea⟩ := r1
        obtain ⟨vs, hv, rv⟩ := S1.ob _ _ _ e1 ea
        exact ⟨a, vs, rfl, .inl (.inl hv), fun p np => Pst.lst q1 S1 np (RpL.rev rv)⟩
      | _ => exact q1.elim
  | _ => exact q1.elim
/-- statements that are never reached -/
def mDead : MS := fun _ _ => .no
theorem tb_dead {sts : List Stmt} : TriB X (gO X tb) W sts mDead := ⟨fun pins s σ H D I ⟨ρ, ah, sa, S, rs, p⟩ => p.elim⟩
def mDeadE : ME := fun _ _ => .no
theorem t_dead {e : Expr} : Tri X (gO X tb) W e mDeadE := ⟨fun pins s σ H Q I ⟨ρ, ah, sa, S, rs, p⟩ => p.elim⟩
end
theorem mDead_eq {s : SA} {h : AH} : mDead s h = .no := rfl
theorem bOrd_1 {n : Nat} {h : AH} : bOrd [.str ⟨#[n]⟩] h = .ok (.int (n : Int)) h := rfl
end Z
namespace Z
open PySem PySem.Spec PyProof.Rows L2
/-! ### x is True, x anything -/
theorem op_isAny {X : Cx} : OpR X (compareOp .Is) (fun x y H Q => ∃ b, y = .bl b ∧ ((∃ c, x = .bl c) ∨ x = .non ∨ (∃ i, x = .int i) ∨ (∃ z, x = .str z) ∨ ∃ n, x = .ref n) ∧ Q (.bl (decide (x = .bl b))) H) := by
  intro pins s σ H x y v u Q I rx ry h
  obtain ⟨b, rfl, hx, q⟩ := h
  cases (show u = Value.bool b from ry)
  rcases hx with ⟨c, rfl⟩ | rfl | ⟨i, rfl⟩ | ⟨z, rfl⟩ | ⟨n, rfl⟩
  · cases (show v = Value.bool c from rx)
    by_cases e : c = b
    · subst e
      exact wpAny_is_self rfl ⟨.bl true, H, I, rfl, by simpa using q⟩
    · exact wpAny_is_other rfl (fun z => e (Value.bool.inj z)) ⟨.bl false, H, I, rfl, by simpa [e] using q⟩
  · cases (show v = Value.none from rx)
    exact wpAny_is_other rfl (fun z => by cases z) ⟨.bl false, H, I, rfl, by simpa using q⟩
  · obtain ⟨t, rfl⟩ := rx
    exact wpAny_is_other rfl (fun z => by cases z) ⟨.bl false, H, I, rfl, by simpa using q⟩
  · obtain ⟨t, rfl⟩ := rx
    exact wpAny_is_other rfl (fun z => by cases z) ⟨.bl false, H, I, rfl, by simpa using q⟩
  · cases (show v = Value.ref n from rx)
    exact wpAny_is_other rfl (fun z => by cases z) ⟨.bl false, H, I, rfl, by simpa using q⟩
def oIsB : A → A → Mo A
  | v, .bl j => fun ah => match v with
    | .bl i => .ok (.bl (decide (i = j))) ah
    | .fn _ => .no
    | .fro _ => .no
    | _ => .ok (.bl false) ah
  | _, _ => fun _ => .no
theorem o_isB {X : Cx} {tb : Addr → Prop} {W : WX} : OpM X (gO X tb) W (compareOp .Is) oIsB := by
  refine ⟨_, op_isAny (X := X), fun σ v1 v2 ah ρ H u1 u2 Q S r1 r2 p => ?_⟩
  cases v2 with
  | bl j =>
    rw [Rp.bl_] at r2
    subst r2
    cases v1 with
    | bl i =>
      rw [Rp.bl_] at r1
      subst r1
      exact ⟨j, rfl, .inl ⟨i, rfl⟩, Pst.ret S (Rp.bl_.mpr (by simp)) p⟩
    | non =>
      rw [Rp.non_] at r1
      subst r1
      exact ⟨j, rfl, .inr (.inl rfl), Pst.ret S (Rp.bl_.mpr (by simp)) p⟩
    | int i =>
      rw [Rp.int_] at r1
      subst r1
      exact ⟨j, rfl, .inr (.inr (.inl ⟨i, rfl⟩)), Pst.ret S (Rp.bl_.mpr (by simp)) p⟩
    | str i =>
      rw [Rp.str_] at r1
      subst r1
      exact ⟨j, rfl, .inr (.inr (.inr (.inl ⟨i, rfl⟩))), Pst.ret S (Rp.bl_.mpr (by simp)) p⟩
    | tup xs =>
      rw [Rp.tup_] at r1
      obtain ⟨a, vs, rfl, _⟩ := r1
      exact ⟨j, rfl, .inr (.inr (.inr (.inr ⟨a, rfl⟩))), Pst.ret S (Rp.bl_.mpr (by simp)) p⟩
    | ref n =>
      rw [Rp.ref_] at r1
      obtain ⟨a, rfl, _⟩ := r1
      exact ⟨j, rfl, .inr (.inr (.inr (.inr ⟨a, rfl⟩))), Pst.ret S (Rp.bl_.mpr (by simp)) p⟩
    | fro xs => exact p.elim
    | fn x => exact p.elim
  | _ => exact p.elim
theorem bo_isB : BoolOut oIsB := fun v1 v2 ah => by
  cases v2 <;> first | exact .inr rfl | (cases v1 <;> first | exact .inl ⟨_, _, rfl⟩ | exact .inr rfl)
end Z

/-! meanings of defs that many texts share -/
namespace ZL
open PySem PySem.Spec PyProof.Rows L2 Z
def m__law_is_integer : MS :=
  (mRet (mAnd (mIsi "int" (mVar 0)) (mNot (mIsi "bool" (mVar 0)))))
def F__law_is_integer : MF := mFn 1 m__law_is_integer
def m__law_next : MS :=
  (mSeq (mIf (mTst oEq (m2 oIx (mVar 0) (mC (.int 1))) (mC (.int 0))) (mSeq (mAsg (m2 oIx (mVar 0) (mC (.int 2))) (gN 3))
  (mSeq (mAsg (m2 oAdd (mC (.int 7)) (mVar 3)) (gN 4))
  (mSeq (mIf (mTst oLt (mVar 3) (mBi bLen [(m2 oIx (mVar 0) (mC (.int 0)))])) (mAsg (mBi bAbs [(m2 oIx (m2 oIx (mVar 0) (mC (.int 0))) (mVar 3))]) (gN 4)) mSkip)
  (mSeq (mIf (mTst oLt (mVar 4) (m2 oPow (mC (.int 10)) (mC (.int 18)))) (mSeq (mAsg (m2 oMod (mBi bInt [(m2 oAdd (m2 oAdd (m2 oMul (mVar 4) (mC (.int 48271))) (m2 oMul (mVar 3) (mC (.int 69621)))) (mC (.int 11)))]) (mC (.int 2147483647))) (gN 4))
  (mAsg (m2 oAdd (m2 oMul (m2 oMod (mBi bInt [(m2 oAdd (m2 oMul (mVar 4) (mC (.int 16807))) (mC (.int 13)))]) (mC (.int 2147483647))) (mC (.int 65537))) (mVar 4)) (gN 4))) mSkip)
  (mSeq (mAsg (mVar 4) (gSb (mVar 0) (mC (.int 1))))
  (mAsg (m2 oAdd (mVar 3) (mC (.int 1))) (gSb (mVar 0) (mC (.int 2))))))))) mSkip)
  (mSeq (mAsg (m2 oMod (mBi bInt [(m2 oIx (mVar 0) (mC (.int 1)))]) (mVar 1)) (gN 2))
  (mSeq (mAsg (m2 oDiv (m2 oIx (mVar 0) (mC (.int 1))) (mVar 1)) (gSb (mVar 0) (mC (.int 1))))
  (mRet (mVar 2)))))
def F__law_next : MF := mFn 5 m__law_next
def m__law_stream : MS :=
  (mRet (mLst [(mBi bList [(mVar 0)]), (mC (.int 0)), (mC (.int 0))]))
def F__law_stream : MF := mFn 1 m__law_stream
def m_is_whole : MS :=
  (mRet (mAnd (mIsi "int" (mVar 0)) (mNot (mIsi "bool" (mVar 0)))))
def F_is_whole : MF := mFn 1 m_is_whole
def m_require : MS :=
  (mIf (mNotT (mTru (mVar 0))) (mRaise "BadValue" "name" (mVar 1)) mSkip)
def F_require : MF := mFn 2 m_require
def m__check_division : MS :=
  (mSeq (mExpr (mBi F_require [(mBi F_is_whole [(mVar 0)]), (mC (.str "n"))]))
  (mExpr (mBi F_require [(mAnd (mBi F_is_whole [(mVar 1)]) (m2 oNe (mVar 1) (mC (.int 0)))), (mC (.str "d"))])))
def F__check_division : MF := mFn 2 m__check_division
def m__law_dice_r2 : MS :=
  (mRet (m2 oAdd (mC (.int 1)) (mBi F__law_next [(mVar 0), (mC (.int 2147483562))])))
def m__law_dice : MS :=
  (mSeq (mAsg (mBi F__law_next [(mVar 0), (mC (.int 8))]) (gN 1))
  (mSeq (mIf (mTst oLt (mVar 1) (mC (.int 2))) (mRet (m2 oIx (mLst [(mC (.int 1)), (mC (.int 2147483562))]) (mVar 1))) mSkip)
  m__law_dice_r2))
def F__law_dice : MF := mFn 2 m__law_dice
def m__law_equal_r7 (F : MF) : MS :=
  (mRet (mBi bAll [(mLc (mRng1 (mBi bLen [(mVar 1)])) (c1 2) mYes (mBi F [(m2 oIx (mVar 0) (mVar 2)), (m2 oIx (mVar 1) (mVar 2))]) [2])]))
def m__law_equal_r6 (F : MF) : MS :=
  (mSeq (mIf (mTst oNe (mBi bLen [(mVar 0)]) (mBi bLen [(mVar 1)])) (mRet (mC (.bl false))) mSkip)
  (m__law_equal_r7 F))
def m__law_equal_r5 (F : MF) : MS :=
  (mSeq (mIf (mAndT (mTru (mIsi "list" (mVar 1))) (mNotT (mTru (mIsi "list" (mVar 0))))) (mRet (mC (.bl false))) mSkip)
  (m__law_equal_r6 F))
def m__law_equal_r4 (F : MF) : MS :=
  (mSeq (mIf (mAndT (mTru (mIsi "tuple" (mVar 1))) (mNotT (mTru (mIsi "tuple" (mVar 0))))) (mRet (mC (.bl false))) mSkip)
  (m__law_equal_r5 F))
def m__law_equal_r3 (F : MF) : MS :=
  (mSeq (mIf (mTru (mIsi "str" (mVar 1))) (mRet (mAnd (mIsi "str" (mVar 0)) (m2 oEq (mVar 0) (mVar 1)))) mSkip)
  (m__law_equal_r4 F))
def m__law_equal_r2 (F : MF) : MS :=
  (mSeq (mIf (mTru (mIsi "int" (mVar 1))) (mRet (mAnd (mBi F__law_is_integer [(mVar 0)]) (m2 oEq (mVar 0) (mVar 1)))) mSkip)
  (m__law_equal_r3 F))
def m__law_equal_r1 (F : MF) : MS :=
  (mSeq (mIf (mTru (mIsi "bool" (mVar 1))) (mRet (mAnd (mIsi "bool" (mVar 0)) (m2 oEq (mVar 0) (mVar 1)))) mSkip)
  (m__law_equal_r2 F))
def m__law_equal (F : MF) : MS :=
  (mSeq (mIf (mTst oIs (mVar 1) (mC .non)) (mRet (m2 oIs (mVar 0) (mC .non))) mSkip)
  (m__law_equal_r1 F))
def F__law_equal : MF := recF m__law_equal 3 8
def m__law_roll_r2 : MS :=
  (mRet (mTup [(m2 oMod (mBi bInt [(m2 oSub (mVar 0) (mC (.int 1)))]) (mVar 1)), (mVar 0)]))
def m__law_roll : MS :=
  (mSeq (mAsg (m2 oMul (mVar 1) (m2 oDiv (mC (.int 2147483562)) (mVar 1))) (gN 2))
  (mSeq (mFor (mRng1 (mC (.int 8))) (gN 3) (mSeq (mAsg (m2 oMod (mBi bInt [(m2 oMul (mVar 0) (mC (.int 40014)))]) (mC (.int 2147483563))) (gN 0))
  (mIf (mTst oLe (mVar 0) (mVar 2)) mBreak mSkip)))
  m__law_roll_r2))
def F__law_roll : MF := mFn 4 m__law_roll
def m__next_dice : MS :=
  (mRet (m2 oMod (m2 oMul (mC (.int (40014))) (mVar 0)) (mC (.int (2147483563)))))
def F__next_dice : MF := mFn 1 m__next_dice
def m__roll_r4 : MS :=
  (mRet (mTup [(m2 oMod (m2 oSub (mVar 3) (mC (.int 1))) (mVar 1)), (mVar 3)]))
def m__roll : MS :=
  (mSeq (mAsg (m2 oMul (mVar 1) (m2 oDiv (mC (.int (2147483562))) (mVar 1))) (gN 2))
  (mSeq (mAsg (mBi F__next_dice [(mVar 0)]) (gN 3))
  (mSeq (mAsg (mC (.int 1)) (gN 4))
  (mSeq (mWhile (mAndT (mTst oGt (mVar 3) (mVar 2)) (mTst oLt (mVar 4) (mC (.int (8))))) (mSeq (mAsg (mBi F__next_dice [(mVar 3)]) (gN 3))
  (mAug 4 oIAdd (mC (.int 1)))) 1000000000000000000)
  m__roll_r4))))
def F__roll : MF := mFn 5 m__roll
def m_is_between : MS :=
  (mRet (mAnd (mBi F_is_whole [(mVar 0)]) (mChain oLe oLe (mVar 1) (mVar 0) (mVar 2))))
def F_is_between : MF := mFn 3 m_is_between
def m_is_dice : MS :=
  (mRet (mBi F_is_between [(mVar 0), (mC (.int 1)), (mC (.int (2147483562)))]))
def F_is_dice : MF := mFn 1 m_is_dice
def m__law_body_r6 : MS :=
  (mSeq (mAsg (m2 oAdd (m2 oIx (mVar 2) (mC (.int 0))) (mBi F__law_next [(mVar 0), (mC (.int 90))])) (gN 8))
  (mSeq (mAsg (m2 oAdd (m2 oIx (mVar 2) (mC (.int 1))) (mBi F__law_next [(mVar 0), (mC (.int 40))])) (gN 9))
  (mRet (mTup [(mVar 1), (mVar 8), (mVar 9), (m2 oAdd (mC (.int 1)) (mBi F__law_next [(mVar 0), (mC (.int 20))])), (m2 oAdd (mC (.int 1)) (mBi F__law_next [(mVar 0), (mC (.int 20))])), (mVar 3), (mVar 4), (mVar 5), (mVar 6), (mVar 7)]))))
def m__law_body : MS :=
  (mSeq (mAsg (m2 oIx (mLst [(mC (.int 0)), (mC (.int 1)), (mC (.int 1)), (mC (.int 2)), (mC (.int 3)), (mC (.int 5)), (mC (.int 10)), (mC (.int 100))]) (mBi F__law_next [(mVar 0), (mC (.int 8))])) (gN 3))
  (mSeq (mAsg (mC (.int 0)) (gN 4))
  (mSeq (mAsg (mC (.int 0)) (gN 5))
  (mSeq (mAsg (mC (.int 0)) (gN 6))
  (mSeq (mAsg (mC (.int 0)) (gN 7))
  (mSeq (mIf (mTst oGt (mVar 3) (mC (.int 0))) (mSeq (mAsg (m2 oIx (mLst [(mC (.int 3)), (mC (.int 12)), (mC (.int 12)), (mC (.int 45))]) (mBi F__law_next [(mVar 0), (mC (.int 4))])) (gN 10))
  (mSeq (mAsg (m2 oSub (mBi F__law_next [(mVar 0), (m2 oAdd (m2 oMul (m2 oMul (mC (.int 2)) (mVar 10)) (mVar 3)) (mC (.int 1)))]) (m2 oMul (mVar 10) (mVar 3))) (gN 4))
  (mSeq (mAsg (m2 oMul (m2 oSub (mBi F__law_next [(mVar 0), (m2 oAdd (m2 oMul (m2 oMul (mC (.int 2)) (mVar 10)) (mVar 3)) (mC (.int 1)))]) (m2 oMul (mVar 10) (mVar 3))) (mBi F__law_next [(mVar 0), (mC (.int 2))])) (gN 5))
  (mSeq (mAsg (mBi F__law_next [(mVar 0), (mVar 3)]) (gN 6))
  (mAsg (mBi F__law_next [(mVar 0), (mVar 3)]) (gN 7)))))) mSkip)
  m__law_body_r6))))))
def F__law_body : MF := mFn 11 m__law_body
def m__law_box : MS :=
  (mRet (mTup [(m2 oIx (mVar 0) (mC (.int 1))), (m2 oIx (mVar 0) (mC (.int 2))), (m2 oAdd (m2 oIx (mVar 0) (mC (.int 1))) (m2 oIx (mVar 0) (mC (.int 3)))), (m2 oAdd (m2 oIx (mVar 0) (mC (.int 2))) (m2 oIx (mVar 0) (mC (.int 4))))]))
def F__law_box : MF := mFn 1 m__law_box
def m_body_box : MS :=
  (mSeq (mAsg (mSl (mVar 0) (oSome (mC (.int 1))) (oSome (mC (.int 5)))) (gTp 4 (gsCons (gN 1) (gsCons (gN 2) (gsCons (gN 3) (gsCons (gN 4) gsNil))))))
  (mRet (mTup [(mVar 1), (mVar 2), (m2 oAdd (mVar 1) (mVar 3)), (m2 oAdd (mVar 2) (mVar 4))])))
def F_body_box : MF := mFn 5 m_body_box
def m__is_motion_r1 : MS :=
  (mRet (mAnd (mBi F_is_whole [(mVar 0)]) (mBi F_is_between [(mVar 1), (mC (.int 0)), (m2 oSub (mVar 2) (mC (.int 1)))])))
def m__is_motion : MS :=
  (mSeq (mIf (mTst oEq (mVar 2) (mC (.int 0))) (mRet (mAnd (mBi F_is_between [(mVar 0), (mC (.int 0)), (mC (.int 0))]) (mBi F_is_between [(mVar 1), (mC (.int 0)), (mC (.int 0))]))) mSkip)
  m__is_motion_r1)
def F__is_motion : MF := mFn 3 m__is_motion
def m_is_coordinate : MS :=
  (mRet (mBi F_is_between [(mVar 0), (m1 oNeg (mC (.int (20000)))), (mC (.int (20000)))]))
def F_is_coordinate : MF := mFn 1 m_is_coordinate
def m__is_range : MS :=
  (mRet (mAnd (mBi F_is_coordinate [(mVar 0)]) (mAnd (mBi F_is_between [(mVar 1), (mC (.int 1)), (mC (.int (200)))]) (mBi F_is_coordinate [(m2 oAdd (mVar 0) (mVar 1))]))))
def F__is_range : MF := mFn 2 m__is_range
def m_is_name_r1 : MS :=
  (mRet (mAnd (m2 oIn (m2 oIx (mVar 0) (mC (.int 0))) (mC (.str "abcdefghijklmnopqrstuvwxyz"))) (mGx true (mItS (mVar 0)) (c1 1) mYes (mOr (m2 oIn (mVar 1) (mC (.str "abcdefghijklmnopqrstuvwxyz"))) (m2 oIn (mVar 1) (mC (.str "0123456789")))) [1])))
def m_is_name : MS :=
  (mSeq (mIf (mOrT (mNotT (mTru (mIsi "str" (mVar 0)))) (mNotT (mB (mChain oLe oLe (mC (.int 1)) (mBi bLen [(mVar 0)]) (mC (.int (12))))))) (mRet (mC (.bl false))) mSkip)
  m_is_name_r1)
def F_is_name : MF := mFn 2 m_is_name
def m_is_body_r1 : MS :=
  (mSeq (mAsg (mVar 0) (gTp 10 (gsCons (gN 1) (gsCons (gN 2) (gsCons (gN 3) (gsCons (gN 4) (gsCons (gN 5) (gsCons (gN 6) (gsCons (gN 7) (gsCons (gN 8) (gsCons (gN 9) (gsCons (gN 10) gsNil))))))))))))
  (mRet (mAnd (mBi F_is_name [(mVar 1)]) (mAnd (mBi F__is_range [(mVar 2), (mVar 4)]) (mAnd (mBi F__is_range [(mVar 3), (mVar 5)]) (mAnd (mBi F_is_between [(mVar 6), (mC (.int 0)), (mC (.int (100)))]) (mAnd (mBi F__is_motion [(mVar 7), (mVar 9), (mVar 6)]) (mBi F__is_motion [(mVar 8), (mVar 10), (mVar 6)]))))))))
def m_is_body : MS :=
  (mSeq (mIf (mOrT (mNotT (mTru (mIsi "tuple" (mVar 0)))) (mTst oNe (mBi bLen [(mVar 0)]) (mC (.int 10)))) (mRet (mC (.bl false))) mSkip)
  m_is_body_r1)
def F_is_body : MF := mFn 11 m_is_body
def m_box_of : MS :=
  (mSeq (mExpr (mBi F_require [(mBi F_is_body [(mVar 0)]), (mC (.str "body"))]))
  (mRet (mBi F_body_box [(mVar 0)])))
def F_box_of : MF := mFn 1 m_box_of
def m__law_in_world : MS :=
  (mRet (mBi bAll [(mLc (mItT (mVar 0)) (c1 1) mYes (mChain oLe oLe (m1 oNeg (mC (.int 20000))) (mVar 1) (mC (.int 20000))) [1])]))
def F__law_in_world : MF := mFn 2 m__law_in_world

end ZL

/-! meanings of defs that many texts share, more -/
namespace ZL
open PySem PySem.Spec PyProof.Rows L2 Z
def m__law_overlap : MS :=
  (mRet (mAnd (m2 oLt (m2 oIx (mVar 0) (mC (.int 0))) (m2 oIx (mVar 1) (mC (.int 2)))) (mAnd (m2 oLt (m2 oIx (mVar 1) (mC (.int 0))) (m2 oIx (mVar 0) (mC (.int 2)))) (mAnd (m2 oLt (m2 oIx (mVar 0) (mC (.int 1))) (m2 oIx (mVar 1) (mC (.int 3)))) (m2 oLt (m2 oIx (mVar 1) (mC (.int 1))) (m2 oIx (mVar 0) (mC (.int 3))))))))
def F__law_overlap : MF := mFn 2 m__law_overlap
def m__law_space_r3 : MS :=
  (mRet (mBi bTuple [(mVar 3)]))
def m__law_space : MS :=
  (mSeq (mAsg (m2 oIx (mLst [(mTup [(mC (.int 0)), (mC (.int 0))]), (mTup [(m1 oNeg (mC (.int 40))), (m1 oNeg (mC (.int 20)))]), (mTup [(m1 oNeg (mC (.int 20000))), (mC (.int 5))]), (mTup [(mC (.int 19905)), (mC (.int 19955))]), (mTup [(mC (.int 7)), (m1 oNeg (mC (.int 20000)))])]) (mBi F__law_next [(mVar 0), (mC (.int 5))])) (gN 2))
  (mSeq (mAsg (mLst []) (gN 3))
  (mSeq (mFor (mItL (mSl (mLst [(mC (.str "a")), (mC (.str "ball")), (mC (.str "c2")), (mC (.str "d")), (mC (.str "e")), (mC (.str "f")), (mC (.str "g")), (mC (.str "h")), (mC (.str "k")), (mC (.str "m")), (mC (.str "p")), (mC (.str "z"))]) oNone (oSome (mBi F__law_next [(mVar 0), (m2 oAdd (mVar 1) (mC (.int 1)))])))) (gN 4) (mSeq (mAsg (mBi F__law_body [(mVar 0), (mVar 4), (mVar 2)]) (gN 5))
  (mSeq (mAsg (mNot (mBi bAny [(mLc (mItL (mVar 3)) (c1 7) mYes (mBi F__law_overlap [(mBi F__law_box [(mVar 5)]), (mBi F__law_box [(mVar 7)])]) [7])])) (gN 6))
  (mIf (mAndT (mTru (mVar 6)) (mTru (mBi F__law_in_world [(mBi F__law_box [(mVar 5)])]))) (mExpr (mApp (mVar 3) (mVar 5))) mSkip))))
  m__law_space_r3)))
def F__law_space : MF := mFn 8 m__law_space
def m_boxes_overlap : MS :=
  (mSeq (mAsg (mVar 0) (gTp 4 (gsCons (gN 2) (gsCons (gN 3) (gsCons (gN 4) (gsCons (gN 5) gsNil))))))
  (mRet (mAnd (m2 oLt (mVar 2) (m2 oIx (mVar 1) (mC (.int 2)))) (mAnd (m2 oLt (m2 oIx (mVar 1) (mC (.int 0))) (mVar 4)) (mAnd (m2 oLt (mVar 3) (m2 oIx (mVar 1) (mC (.int 3)))) (m2 oLt (m2 oIx (mVar 1) (mC (.int 1))) (mVar 5)))))))
def F_boxes_overlap : MF := mFn 6 m_boxes_overlap
def m__boxes_are_apart_r2 : MS :=
  (mRet (mC (.bl true)))
def m__boxes_are_apart : MS :=
  (mSeq (mAsg (mLc (mItT (mVar 0)) (c1 5) mYes (mBi F_body_box [(mVar 5)]) [5]) (gN 1))
  (mSeq (mFor (mItE (mVar 1)) (gTp 2 (gsCons (gN 2) (gsCons (gN 3) gsNil))) (mFor (mRng1 (mVar 2)) (gN 4) (mIf (mTru (mBi F_boxes_overlap [(mVar 3), (m2 oIx (mVar 1) (mVar 4))])) (mRet (mC (.bl false))) mSkip)))
  m__boxes_are_apart_r2))
def F__boxes_are_apart : MF := mFn 6 m__boxes_are_apart
def m__names_ascend : MS :=
  (mRet (mGx true (mRng1 (m2 oSub (mBi bLen [(mVar 0)]) (mC (.int 1)))) (c1 1) mYes (m2 oLt (m2 oIx (m2 oIx (mVar 0) (mVar 1)) (mC (.int 0))) (m2 oIx (m2 oIx (mVar 0) (m2 oAdd (mVar 1) (mC (.int 1)))) (mC (.int 0)))) [1]))
def F__names_ascend : MF := mFn 2 m__names_ascend
def m_is_space_r2 : MS :=
  (mRet (mAnd (mBi F__names_ascend [(mVar 0)]) (mBi F__boxes_are_apart [(mVar 0)])))
def m_is_space_r1 : MS :=
  (mSeq (mIf (mNotT (mTru (mGx true (mItT (mVar 0)) (c1 1) mYes (mBi F_is_body [(mVar 1)]) [1]))) (mRet (mC (.bl false))) mSkip)
  m_is_space_r2)
def m_is_space : MS :=
  (mSeq (mIf (mOrT (mNotT (mTru (mIsi "tuple" (mVar 0)))) (mTst oGt (mBi bLen [(mVar 0)]) (mC (.int (12))))) (mRet (mC (.bl false))) mSkip)
  m_is_space_r1)
def F_is_space : MF := mFn 2 m_is_space

end ZL

/-! how a meaning is reckoned, step by step: each continuation is a def, inert until its value has come -/
namespace Z
open PySem PySem.Spec PyProof.Rows L2

theorem nr {α : Sort u} {a b : α} (h : a = b) : a = b := h

section
variable {m ma mb mc : ME} {ta tb : MT} {mo mo' : A → A → Mo A} {o1 : A → Mo A} {sa s : SA} {h : AH} {v u : A} {e : Ex} {ms : List ME} {vs : List A} {F : MF} {n : Nat} {i j : Nat}
def k1 (o : A → Mo A) (r : Rs A) : Rs A := r.bind o
theorem m1_eq : m1 o1 ma sa h = k1 o1 (ma sa h) := nr rfl
theorem k1_ok : k1 o1 (.ok v h) = o1 v h := nr rfl
theorem k1_ex : k1 o1 (.ex e h) = .ex e h := nr rfl
def k2 (mo : A → A → Mo A) (mb : ME) (sa : SA) (r : Rs A) : Rs A := r.bind fun v h => (mb sa h).bind fun u h2 => mo v u h2
def k2' (mo : A → A → Mo A) (v : A) (r : Rs A) : Rs A := r.bind fun u h2 => mo v u h2
theorem m2_eq : m2 mo ma mb sa h = k2 mo mb sa (ma sa h) := nr rfl
theorem k2_ok : k2 mo mb sa (.ok v h) = k2' mo v (mb sa h) := nr rfl
theorem k2'_ok : k2' mo v (.ok u h) = mo v u h := nr rfl
theorem k2_ex : k2 mo mb sa (.ex e h) = .ex e h := nr rfl
theorem k2'_ex : k2' mo v (.ex e h) = .ex e h := nr rfl
theorem mVar_eq : mVar i sa h = match sa[i]? with
  | some (some v) => .ok v h
  | _ => .no := rfl
theorem mVar0 {x : A} : mVar 0 (some x :: sa) h = .ok x h := nr rfl
theorem mVarS {y : Option A} : mVar (i + 1) (y :: sa) h = mVar i sa h := by simp [mVar]
theorem mC_eq : mC v sa h = .ok v h := nr rfl
def kTru (r : Rs A) : Rs Bool := r.bind tru
theorem mTst_eq : mTst mo ma mb sa h = kTru (m2 mo ma mb sa h) := nr rfl
theorem mTru_eq : mTru m sa h = kTru (m sa h) := nr rfl
theorem kTru_ok : kTru (.ok v h) = tru v h := nr rfl
theorem kTru_ex : kTru (.ex e h) = .ex e h := nr rfl
theorem tru_bl {b : Bool} : tru (.bl b) h = .ok b h := nr rfl
theorem tru_int {i : Int} : tru (.int i) h = .ok (i != 0) h := nr rfl
theorem tru_non : tru .non h = .ok false h := nr rfl
theorem tru_tup {xs : List A} : tru (.tup xs) h = .ok (!xs.isEmpty) h := nr rfl
def kAndT (tb : MT) (sa : SA) (r : Rs Bool) : Rs Bool := r.bind fun c h => if c = true then tb sa h else .ok false h
theorem mAndT_eq : mAndT ta tb sa h = kAndT tb sa (ta sa h) := nr rfl
theorem kAndT_t : kAndT tb sa (.ok true h) = tb sa h := nr rfl
theorem kAndT_f : kAndT tb sa (.ok false h) = .ok false h := nr rfl
theorem kAndT_ex : kAndT tb sa (.ex e h) = .ex e h := nr rfl
def kOrT (tb : MT) (sa : SA) (r : Rs Bool) : Rs Bool := r.bind fun c h => if c = true then .ok true h else tb sa h
theorem mOrT_eq : mOrT ta tb sa h = kOrT tb sa (ta sa h) := nr rfl
theorem kOrT_t : kOrT tb sa (.ok true h) = .ok true h := nr rfl
theorem kOrT_f : kOrT tb sa (.ok false h) = tb sa h := nr rfl
theorem kOrT_ex : kOrT tb sa (.ex e h) = .ex e h := nr rfl
def kNotT (r : Rs Bool) : Rs Bool := r.bind fun c h => .ok (!c) h
theorem mNotT_eq : mNotT ta sa h = kNotT (ta sa h) := nr rfl
theorem kNotT_ok {b : Bool} : kNotT (.ok b h) = .ok (!b) h := nr rfl
theorem kNotT_ex : kNotT (.ex e h) = .ex e h := nr rfl
def kC4 (mo' : A → A → Mo A) (u : A) (r : Rs A) : Rs A := r.bind fun w h => mo' u w h
def kC3 (mo' : A → A → Mo A) (mc : ME) (sa : SA) (u : A) (r : Rs A) : Rs A := r.bind fun z h => match z with
  | .bl true => (mc sa h).bind fun w h4 => mo' u w h4
  | .bl false => .ok (.bl false) h
  | _ => .no
def kC2 (mo mo' : A → A → Mo A) (mc : ME) (sa : SA) (v : A) (r : Rs A) : Rs A := r.bind fun u h => (mo v u h).bind fun z h => match z with
  | .bl true => (mc sa h).bind fun w h4 => mo' u w h4
  | .bl false => .ok (.bl false) h
  | _ => .no
def kC1 (mo mo' : A → A → Mo A) (mb mc : ME) (sa : SA) (r : Rs A) : Rs A := r.bind fun v h => (mb sa h).bind fun u h => (mo v u h).bind fun z h => match z with
  | .bl true => (mc sa h).bind fun w h4 => mo' u w h4
  | .bl false => .ok (.bl false) h
  | _ => .no
theorem mChain_eq : mChain mo mo' ma mb mc sa h = kC1 mo mo' mb mc sa (ma sa h) := nr rfl
theorem kC1_ok : kC1 mo mo' mb mc sa (.ok v h) = kC2 mo mo' mc sa v (mb sa h) := nr rfl
theorem kC2_ok : kC2 mo mo' mc sa v (.ok u h) = kC3 mo' mc sa u (mo v u h) := nr rfl
theorem kC3_t : kC3 mo' mc sa u (.ok (.bl true) h) = kC4 mo' u (mc sa h) := nr rfl
theorem kC3_f : kC3 mo' mc sa u (.ok (.bl false) h) = .ok (.bl false) h := nr rfl
theorem kC4_ok : kC4 mo' u (.ok v h) = mo' u v h := nr rfl
def kB (r : Rs A) : Rs Bool := r.bind fun v h => match v with
  | .bl b => .ok b h
  | _ => .no
theorem mB_eq : mB m sa h = kB (m sa h) := nr rfl
theorem kB_ok {b : Bool} : kB (.ok (.bl b) h) = .ok b h := nr rfl
def kAnd2 (mb : ME) (sa : SA) (v : A) (r : Rs Bool) : Rs A := r.bind fun k h => if k = true then mb sa h else .ok v h
def kAnd (mb : ME) (sa : SA) (r : Rs A) : Rs A := r.bind fun v h => (tru v h).bind fun k h => if k = true then mb sa h else .ok v h
theorem mAnd_eq : mAnd ma mb sa h = kAnd mb sa (ma sa h) := nr rfl
theorem kAnd_ok : kAnd mb sa (.ok v h) = kAnd2 mb sa v (tru v h) := nr rfl
theorem kAnd2_t : kAnd2 mb sa v (.ok true h) = mb sa h := nr rfl
theorem kAnd2_f : kAnd2 mb sa v (.ok false h) = .ok v h := nr rfl
theorem kAnd_ex : kAnd mb sa (.ex e h) = .ex e h := nr rfl
def kOr2 (mb : ME) (sa : SA) (v : A) (r : Rs Bool) : Rs A := r.bind fun k h => if k = true then .ok v h else mb sa h
def kOr (mb : ME) (sa : SA) (r : Rs A) : Rs A := r.bind fun v h => (tru v h).bind fun k h => if k = true then .ok v h else mb sa h
theorem mOr_eq : mOr ma mb sa h = kOr mb sa (ma sa h) := nr rfl
theorem kOr_ok : kOr mb sa (.ok v h) = kOr2 mb sa v (tru v h) := nr rfl
theorem kOr2_t : kOr2 mb sa v (.ok true h) = .ok v h := nr rfl
theorem kOr2_f : kOr2 mb sa v (.ok false h) = mb sa h := nr rfl
theorem kOr_ex : kOr mb sa (.ex e h) = .ex e h := nr rfl
def kNot2 (r : Rs Bool) : Rs A := r.bind fun k h => .ok (.bl (!k)) h
def kNot (r : Rs A) : Rs A := r.bind fun v h => (tru v h).bind fun k h => .ok (.bl (!k)) h
theorem mNot_eq : mNot ma sa h = kNot (ma sa h) := nr rfl
theorem kNot_ok : kNot (.ok v h) = kNot2 (tru v h) := nr rfl
theorem kNot2_ok {b : Bool} : kNot2 (.ok b h) = .ok (.bl (!b)) h := nr rfl
theorem kNot_ex : kNot (.ex e h) = .ex e h := nr rfl
def kIfE (ma mb : ME) (sa : SA) (r : Rs Bool) : Rs A := r.bind fun c h => if c = true then ma sa h else mb sa h
theorem mIfE_eq : mIfE ta ma mb sa h = kIfE ma mb sa (ta sa h) := nr rfl
theorem kIfE_t : kIfE ma mb sa (.ok true h) = ma sa h := nr rfl
theorem kIfE_f : kIfE ma mb sa (.ok false h) = mb sa h := nr rfl
def kA2 (v : A) (r : Rs (List A)) : Rs (List A) := r.bind fun vs h => .ok (v :: vs) h
def kA (ms : List ME) (sa : SA) (r : Rs A) : Rs (List A) := r.bind fun v h => (mArgs ms sa h).bind fun vs h => .ok (v :: vs) h
theorem mArgs_nil : mArgs [] sa h = .ok [] h := nr rfl
theorem mArgs_cons : mArgs (m :: ms) sa h = kA ms sa (m sa h) := nr rfl
theorem kA_ok : kA ms sa (.ok v h) = kA2 v (mArgs ms sa h) := nr rfl
theorem kA2_ok : kA2 v (.ok vs h) = .ok (v :: vs) h := nr rfl
theorem kA_ex : kA ms sa (.ex e h) = .ex e h := nr rfl
theorem kA2_ex : kA2 v (.ex e h) = .ex e h := nr rfl
def kBi (F : MF) (r : Rs (List A)) : Rs A := r.bind F
theorem mBi_eq : mBi F ms sa h = kBi F (mArgs ms sa h) := nr rfl
theorem kBi_ok : kBi F (.ok vs h) = F vs h := nr rfl
theorem kBi_ex : kBi F (.ex e h) = .ex e h := nr rfl
def kTup (r : Rs (List A)) : Rs A := r.bind fun vs h => if vs.length ≤ sizeLine then .ok (.tup vs) h else .no
theorem mTup_eq : mTup ms sa h = kTup (mArgs ms sa h) := nr rfl
theorem kTup_ok (c : vs.length ≤ 1000) : kTup (.ok vs h) = .ok (.tup vs) h := by
  show (if vs.length ≤ sizeLine then Rs.ok (A.tup vs) h else .no) = _
  rw [if_pos (by rw [sizeLine_eq]; omega)]
theorem kTup_ex : kTup (.ex e h) = .ex e h := nr rfl
def kLst (r : Rs (List A)) : Rs A := r.bind fun vs h => if vs.length ≤ sizeLine then .ok (.ref h.length) (h ++ [.lst vs]) else .no
theorem mLst_eq : mLst ms sa h = kLst (mArgs ms sa h) := nr rfl
theorem kLst_ok (c : vs.length ≤ 1000) : kLst (.ok vs h) = .ok (.ref h.length) (h ++ [.lst vs]) := by
  show (if vs.length ≤ sizeLine then Rs.ok (A.ref h.length) (h ++ [.lst vs]) else .no) = _
  rw [if_pos (by rw [sizeLine_eq]; omega)]
theorem kLst_ex : kLst (.ex e h) = .ex e h := nr rfl
def kIsi2 (o : Option Bool) (h : AH) : Rs A := match o with
  | some b => .ok (.bl b) h
  | none => .no
def kIsi (T : String) (r : Rs A) : Rs A := r.bind fun v h => match (tyOf h v).bind fun t => kitB t T with
  | some b => .ok (.bl b) h
  | none => .no
theorem mIsi_eq {T : String} : mIsi T m sa h = kIsi T (m sa h) := nr rfl
theorem kIsi_int {T : String} {i : Int} : kIsi T (.ok (.int i) h) = kIsi2 (kitB "int" T) h := nr rfl
theorem kIsi_bl {T : String} {i : Bool} : kIsi T (.ok (.bl i) h) = kIsi2 (kitB "bool" T) h := nr rfl
theorem kIsi_str {T : String} {i : Str} : kIsi T (.ok (.str i) h) = kIsi2 (kitB "str" T) h := nr rfl
theorem kIsi_non {T : String} : kIsi T (.ok .non h) = kIsi2 (kitB "NoneType" T) h := nr rfl
theorem kIsi_tup {T : String} {i : List A} : kIsi T (.ok (.tup i) h) = kIsi2 (kitB "tuple" T) h := nr rfl
theorem kIsi_lst {T : String} {n : Nat} {xs : List A} (e : h[n]? = some (.lst xs)) : kIsi T (.ok (.ref n) h) = kIsi2 (kitB "list" T) h := by
  show (match (tyOf h (.ref n)).bind fun t => kitB t T with
  | some b => Rs.ok (A.bl b) h
  | none => .no) = _
  have : tyOf h (.ref n) = some "list" := by simp only [tyOf, e]
  rw [this]; rfl
theorem kIsi2_ok {b : Bool} : kIsi2 (some b) h = .ok (.bl b) h := nr rfl
end
/-! the built-in classes -/
theorem kb_ii : kitB "int" "int" = some true := by decide +kernel
theorem kb_ib : kitB "int" "bool" = some false := by decide +kernel
theorem kb_is : kitB "int" "str" = some false := by decide +kernel
theorem kb_it : kitB "int" "tuple" = some false := by decide +kernel
theorem kb_il : kitB "int" "list" = some false := by decide +kernel
theorem kb_bi : kitB "bool" "int" = some true := by decide +kernel
theorem kb_bb : kitB "bool" "bool" = some true := by decide +kernel
theorem kb_bs : kitB "bool" "str" = some false := by decide +kernel
theorem kb_bt : kitB "bool" "tuple" = some false := by decide +kernel
theorem kb_bl : kitB "bool" "list" = some false := by decide +kernel
theorem kb_si : kitB "str" "int" = some false := by decide +kernel
theorem kb_sb : kitB "str" "bool" = some false := by decide +kernel
theorem kb_ss : kitB "str" "str" = some true := by decide +kernel
theorem kb_st : kitB "str" "tuple" = some false := by decide +kernel
theorem kb_sl : kitB "str" "list" = some false := by decide +kernel
theorem kb_ni : kitB "NoneType" "int" = some false := by decide +kernel
theorem kb_nb : kitB "NoneType" "bool" = some false := by decide +kernel
theorem kb_ns : kitB "NoneType" "str" = some false := by decide +kernel
theorem kb_nt : kitB "NoneType" "tuple" = some false := by decide +kernel
theorem kb_nl : kitB "NoneType" "list" = some false := by decide +kernel
theorem kb_ti : kitB "tuple" "int" = some false := by decide +kernel
theorem kb_tb : kitB "tuple" "bool" = some false := by decide +kernel
theorem kb_ts : kitB "tuple" "str" = some false := by decide +kernel
theorem kb_tt : kitB "tuple" "tuple" = some true := by decide +kernel
theorem kb_tl : kitB "tuple" "list" = some false := by decide +kernel
theorem kb_li : kitB "list" "int" = some false := by decide +kernel
theorem kb_lb : kitB "list" "bool" = some false := by decide +kernel
theorem kb_ls : kitB "list" "str" = some false := by decide +kernel
theorem kb_lt : kitB "list" "tuple" = some false := by decide +kernel
theorem kb_ll : kitB "list" "list" = some true := by decide +kernel
section
variable {m ma mb mc : ME} {ta tb : MT} {mo mo' : A → A → Mo A} {sa s : SA} {h : AH} {v u w : A} {e : Ex} {ms : List ME} {vs : List A} {F : MF} {n i j : Nat} {p q : MS} {g : MG} {gs : MGs}
/-! statements -/
def kSeq (n : MS) (r : Rt) : Rt := r.seq n
theorem mSeq_eq : mSeq p q s h = kSeq q (p s h) := nr rfl
theorem kSeq_nx : kSeq q (.nx s h) = q s h := nr rfl
theorem kSeq_rt : kSeq q (.rt v h) = .rt v h := nr rfl
theorem kSeq_bk : kSeq q (.bk s h) = .bk s h := nr rfl
theorem kSeq_ct : kSeq q (.ct s h) = .ct s h := nr rfl
theorem kSeq_ex : kSeq q (.ex e s h) = .ex e s h := nr rfl
def kIf (p q : MS) (s : SA) (r : Rs Bool) : Rt := r.st s fun b h => if b = true then p s h else q s h
theorem mIf_eq : mIf ta p q s h = kIf p q s (ta s h) := nr rfl
theorem kIf_t : kIf p q s (.ok true h) = p s h := nr rfl
theorem kIf_f : kIf p q s (.ok false h) = q s h := nr rfl
theorem kIf_ex : kIf p q s (.ex e h) = .ex e s h := nr rfl
def kAsg (g : MG) (s : SA) (r : Rs A) : Rt := r.st s fun v h => g v s h
theorem mAsg_eq : mAsg m g s h = kAsg g s (m s h) := nr rfl
theorem kAsg_ok : kAsg g s (.ok v h) = g v s h := nr rfl
theorem kAsg_ex : kAsg g s (.ex e h) = .ex e s h := nr rfl
theorem gN_eq : gN i v s h = .nx (s.set i (some v)) h := nr rfl
def kSb2 (o v : A) (s : SA) (r : Rs A) : Rt := r.st s fun i h => oSet o i v s h
def kSb (mi : ME) (v : A) (s : SA) (r : Rs A) : Rt := r.st s fun o h => (mi s h).st s fun i h => oSet o i v s h
theorem gSb_eq : gSb ma mb v s h = kSb mb v s (ma s h) := nr rfl
theorem kSb_ok : kSb mb v s (.ok u h) = kSb2 u v s (mb s h) := nr rfl
theorem kSb2_ok : kSb2 u v s (.ok w h) = oSet u w v s h := nr rfl
theorem oSet_ok' {k : Int} {xs : List A} {j : Nat} (e : h[n]? = some (.lst xs)) (ej : ixN xs.length k = some j) : oSet (.ref n) (.int k) v s h = .nx s (h.set n (.lst (xs.set j v))) := by
  simp only [oSet, e, ej]
theorem gTp_ok {xs : List A} (c : xs.length = n) : gTp n gs (.tup xs) s h = gs xs s h := by simp only [gTp, c, if_true]
theorem gsNil_eq : gsNil [] s h = .nx s h := nr rfl
theorem gsCons_eq : gsCons g gs (v :: vs) s h = kSeq (fun s h => gs vs s h) (g v s h) := nr rfl
theorem mSkip_eq : mSkip s h = .nx s h := nr rfl
theorem mBreak_eq : mBreak s h = .bk s h := nr rfl
theorem mCont_eq : mCont s h = .ct s h := nr rfl
def kExpr (s : SA) (r : Rs A) : Rt := r.st s fun _ h => .nx s h
theorem mExpr_eq : mExpr m s h = kExpr s (m s h) := nr rfl
theorem kExpr_ok : kExpr s (.ok v h) = .nx s h := nr rfl
theorem kExpr_ex : kExpr s (.ex e h) = .ex e s h := nr rfl
def kRet (s : SA) (r : Rs A) : Rt := r.st s fun v h => .rt v h
theorem mRet_eq : mRet m s h = kRet s (m s h) := nr rfl
theorem kRet_ok : kRet s (.ok v h) = .rt v h := nr rfl
theorem kRet_ex : kRet s (.ex e h) = .ex e s h := nr rfl
theorem mRetN_eq : mRetN s h = .rt .non h := nr rfl
def kPar (i j : Nat) (s : SA) (r : Rs (List A)) : Rt := r.st s fun vs h => match vs with
  | [v, w] => .nx ((s.set i (some v)).set j (some w)) h
  | _ => .no
theorem mPar_eq : mPar i j ms s h = kPar i j s (mArgs ms s h) := nr rfl
theorem kPar_ok : kPar i j s (.ok [v, w] h) = .nx ((s.set i (some v)).set j (some w)) h := nr rfl
def kAug2 (i : Nat) (s : SA) (r : Rs A) : Rt := r.st s fun z h => .nx (s.set i (some z)) h
def kAug (i : Nat) (mo : A → A → Mo A) (x : A) (s : SA) (r : Rs A) : Rt := r.st s fun y h => (mo x y h).st s fun z h => .nx (s.set i (some z)) h
def kAug0 (i : Nat) (mo : A → A → Mo A) (m : ME) (s : SA) (h : AH) (r : Rs A) : Rt := match r with
  | .ok x _ => (m s h).st s fun y h => (mo x y h).st s fun z h => .nx (s.set i (some z)) h
  | _ => .no
theorem mAug_eq : mAug i mo m s h = kAug0 i mo m s h (mVar i s h) := by
  unfold mAug mVar kAug0
  generalize s[i]? = o
  cases o with
  | none => rfl
  | some o => cases o <;> rfl
theorem kAug0_ok {h' : AH} : kAug0 i mo m s h (.ok v h') = kAug i mo v s (m s h) := nr rfl
theorem kAug_ok : kAug i mo v s (.ok u h) = kAug2 i s (mo v u h) := nr rfl
theorem kAug2_ok : kAug2 i s (.ok u h) = .nx (s.set i (some u)) h := nr rfl
def kRaise (c f : Str) (s : SA) (r : Rs A) : Rt := r.st s fun v h => .ex ⟨c, [(f, v)]⟩ s h
theorem mRaise_eq {c f : Str} : mRaise c f m s h = kRaise c f s (m s h) := nr rfl
theorem kRaise_ok {c f : Str} : kRaise c f s (.ok v h) = .ex ⟨c, [(f, v)]⟩ s h := nr rfl
def kFn (r : Rt) : Rs A := match r with
  | .nx _ h' => .ok .non h'
  | .rt v h' => .ok v h'
  | .ex e _ h' => .ex e h'
  | _ => .no
theorem mFn_eq : mFn n p vs h = kFn (p (vs.map some ++ List.replicate (n - vs.length) none) h) := nr rfl
theorem kFn_nx : kFn (.nx s h) = .ok .non h := nr rfl
theorem kFn_rt : kFn (.rt v h) = .ok v h := nr rfl
theorem kFn_ex : kFn (.ex e s h) = .ex e h := nr rfl
/-! operators -/
theorem oAdd_i {i j : Int} : oAdd (.int i) (.int j) h = .ok (.int (i + j)) h := nr rfl
theorem oIAdd_i {i j : Int} : oIAdd (.int i) (.int j) h = .ok (.int (i + j)) h := nr rfl
theorem oSub_i {i j : Int} : oSub (.int i) (.int j) h = .ok (.int (i - j)) h := nr rfl
theorem oNeg_i {i : Int} : oNeg (.int i) h = .ok (.int (-i)) h := nr rfl
theorem oMul_i {i j : Int} (c : i.natAbs.log2 + j.natAbs.log2 < 1000000) : oMul (.int i) (.int j) h = .ok (.int (i * j)) h := if_pos c
theorem oDiv_i {i j : Int} (c : j ≠ 0) (d : j.natAbs.log2 < 9000) : oDiv (.int i) (.int j) h = .ok (.int (i.fdiv j)) h := if_pos (.inr ⟨c, d⟩)
theorem oMod_i {i j : Int} (c : j ≠ 0) : oMod (.int i) (.int j) h = .ok (.int (i.fmod j)) h := if_pos c
theorem oPow_i {i j : Int} (c : 0 ≤ j ∧ j ≤ 1000000 ∧ i.natAbs < 2 ^ 64) : oPow (.int i) (.int j) h = .ok (.int (i ^ j.toNat)) h := if_pos c
theorem oLt_i {i j : Int} : oLt (.int i) (.int j) h = .ok (.bl (decide (i < j))) h := nr rfl
theorem oLe_i {i j : Int} : oLe (.int i) (.int j) h = .ok (.bl (decide (i ≤ j))) h := nr rfl
theorem oGt_i {i j : Int} : oGt (.int i) (.int j) h = .ok (.bl (decide (j < i))) h := nr rfl
theorem oGe_i {i j : Int} : oGe (.int i) (.int j) h = .ok (.bl (decide (j ≤ i))) h := nr rfl
theorem oEq_i {i j : Int} : oEq (.int i) (.int j) h = .ok (.bl (decide (i = j))) h := nr rfl
theorem oNe_i {i j : Int} : oNe (.int i) (.int j) h = .ok (.bl (!decide (i = j))) h := nr rfl
theorem oEq_s {i j : Str} : oEq (.str i) (.str j) h = .ok (.bl (decide (i = j))) h := nr rfl
theorem oNe_s {i j : Str} : oNe (.str i) (.str j) h = .ok (.bl (!decide (i = j))) h := nr rfl
theorem oEq_b {i j : Bool} : oEq (.bl i) (.bl j) h = .ok (.bl (decide (i = j))) h := nr rfl
theorem oNe_b {i j : Bool} : oNe (.bl i) (.bl j) h = .ok (.bl (!decide (i = j))) h := nr rfl
theorem oIs_n : oIs v .non h = .ok (.bl v.isN) h := by cases v <;> exact nr rfl
theorem oIsN_n : oIsN v .non h = .ok (.bl (!v.isN)) h := by cases v <;> exact nr rfl
theorem oIs_b {i j : Bool} : oIs (.bl i) (.bl j) h = .ok (.bl (decide (i = j))) h := nr rfl
theorem oIsN_b {i j : Bool} : oIsN (.bl i) (.bl j) h = .ok (.bl (!decide (i = j))) h := nr rfl
theorem isN_int {i : Int} : (A.int i).isN = false := nr rfl
theorem isN_bl {i : Bool} : (A.bl i).isN = false := nr rfl
theorem isN_str {i : Str} : (A.str i).isN = false := nr rfl
theorem isN_tup {i : List A} : (A.tup i).isN = false := nr rfl
theorem isN_ref {i : Nat} : (A.ref i).isN = false := nr rfl
theorem isN_non : A.non.isN = true := nr rfl
theorem oIx_t {xs : List A} {i : Int} (e : atI xs i = some v) : oIx (.tup xs) (.int i) h = .ok v h := by simp only [oIx, e]
theorem oIx_l {xs : List A} {i : Int} (e0 : h[n]? = some (.lst xs)) (e : atI xs i = some v) : oIx (.ref n) (.int i) h = .ok v h := by simp only [oIx, lsA, e0, e]
theorem bAbs_i {i : Int} : bAbs [.int i] h = .ok (.int (if i < 0 then -i else i)) h := nr rfl
theorem bInt_i {i : Int} : bInt [.int i] h = .ok (.int i) h := nr rfl
theorem bInt_b {i : Bool} : bInt [.bl i] h = .ok (.int (if i then 1 else 0)) h := nr rfl
theorem bLen_t {xs : List A} : bLen [.tup xs] h = .ok (.int xs.length) h := nr rfl
theorem bLen_l {xs : List A} (e0 : h[n]? = some (.lst xs)) : bLen [.ref n] h = .ok (.int xs.length) h := by simp only [bLen, lsA, e0]
theorem bMax2_i {i j : Int} : bMax2 [.int i, .int j] h = .ok (.int (if j > i then j else i)) h := nr rfl
theorem bMin2_i {i j : Int} : bMin2 [.int i, .int j] h = .ok (.int (if j < i then j else i)) h := nr rfl
theorem bGcd_i {i j : Int} : bGcd [.int i, .int j] h = .ok (.int ((Nat.gcd i.natAbs j.natAbs : Nat) : Int)) h := nr rfl
theorem atI_0 {x : A} {xs : List A} : atI (x :: xs) 0 = some x := by
  unfold atI ixN
  rw [if_pos (by omega), if_pos (by simp)]
  rfl
theorem atI_n {xs : List A} {k : Nat} (h : xs[k]? = some v) : atI xs (k : Int) = some v := atI_nat h
end
end Z

/-! how instances and dicts are reckoned -/
namespace Z
open PySem PySem.Spec PyProof.Rows L2
section
variable {m ma mb mc mo mi mv : ME} {op mg mo1 mo2 mo3 : A → A → Mo A} {st : A → A → A → SA → AH → Rt} {sa s : SA} {h h2 : AH} {v u w o i x y z : A} {e : Ex} {ms : List ME} {vs : List A} {F : MF} {c f : Str} {n : Nat}
def kFd (c f : Str) (v : A) (s : SA) (r : Rs A) : Rt := r.st s fun o h1 => oFldS c f o v s h1
theorem gFd_eq : gFd c f mo v s h = kFd c f v s (mo s h) := nr rfl
theorem kFd_ok : kFd c f v s (.ok o h) = oFldS c f o v s h := nr rfl
def kDt2 (o v : A) (s : SA) (r : Rs A) : Rt := r.st s fun i h => oDSet o i v s h
def kDt (mi : ME) (v : A) (s : SA) (r : Rs A) : Rt := r.st s fun o h => (mi s h).st s fun i h => oDSet o i v s h
theorem gDt_eq : gDt ma mb v s h = kDt mb v s (ma s h) := nr rfl
theorem kDt_ok : kDt mb v s (.ok u h) = kDt2 u v s (mb s h) := nr rfl
theorem kDt2_ok : kDt2 u v s (.ok w h) = oDSet u w v s h := nr rfl
def kAf4 (c f : Str) (o : A) (s : SA) (r : Rs A) : Rt := r.st s fun z h => oFldS c f o z s h
def kAf3 (c f : Str) (o : A) (op : A → A → Mo A) (x : A) (s : SA) (r : Rs A) : Rt := r.st s fun y h => (op x y h).st s fun z h => oFldS c f o z s h
def kAf2 (c f : Str) (o : A) (op : A → A → Mo A) (mv : ME) (s : SA) (r : Rs A) : Rt := r.st s fun x h => (mv s h).st s fun y h => (op x y h).st s fun z h => oFldS c f o z s h
def kAf1 (c f : Str) (op : A → A → Mo A) (mv : ME) (s : SA) (r : Rs A) : Rt := r.st s fun o h => (oFld c f o h).st s fun x h => (mv s h).st s fun y h => (op x y h).st s fun z h => oFldS c f o z s h
theorem mAugF_eq : mAugF c f mo op mv s h = kAf1 c f op mv s (mo s h) := nr rfl
theorem kAf1_ok : kAf1 c f op mv s (.ok o h) = kAf2 c f o op mv s (oFld c f o h) := nr rfl
theorem kAf2_ok : kAf2 c f o op mv s (.ok x h) = kAf3 c f o op x s (mv s h) := nr rfl
theorem kAf3_ok : kAf3 c f o op x s (.ok y h) = kAf4 c f o s (op x y h) := nr rfl
theorem kAf4_ok : kAf4 c f o s (.ok z h) = oFldS c f o z s h := nr rfl
def kAs5 (o i : A) (st : A → A → A → SA → AH → Rt) (s : SA) (r : Rs A) : Rt := r.st s fun z h => st o i z s h
def kAs4 (o i : A) (op : A → A → Mo A) (x : A) (st : A → A → A → SA → AH → Rt) (s : SA) (r : Rs A) : Rt := r.st s fun y h => (op x y h).st s fun z h => st o i z s h
def kAs3 (o i : A) (op : A → A → Mo A) (mv : ME) (st : A → A → A → SA → AH → Rt) (s : SA) (r : Rs A) : Rt := r.st s fun x h => (mv s h).st s fun y h => (op x y h).st s fun z h => st o i z s h
def kAs2 (mg : A → A → Mo A) (o : A) (op : A → A → Mo A) (mv : ME) (st : A → A → A → SA → AH → Rt) (s : SA) (r : Rs A) : Rt := r.st s fun i h => (mg o i h).st s fun x h => (mv s h).st s fun y h => (op x y h).st s fun z h => st o i z s h
def kAs1 (mg : A → A → Mo A) (mi : ME) (op : A → A → Mo A) (mv : ME) (st : A → A → A → SA → AH → Rt) (s : SA) (r : Rs A) : Rt := r.st s fun o h => (mi s h).st s fun i h => (mg o i h).st s fun x h => (mv s h).st s fun y h => (op x y h).st s fun z h => st o i z s h
theorem mAugS_eq : mAugS mg mo mi op mv st s h = kAs1 mg mi op mv st s (mo s h) := nr rfl
theorem kAs1_ok : kAs1 mg mi op mv st s (.ok o h) = kAs2 mg o op mv st s (mi s h) := nr rfl
theorem kAs2_ok : kAs2 mg o op mv st s (.ok i h) = kAs3 o i op mv st s (mg o i h) := nr rfl
theorem kAs3_ok : kAs3 o i op mv st s (.ok x h) = kAs4 o i op x st s (mv s h) := nr rfl
theorem kAs4_ok : kAs4 o i op x st s (.ok y h) = kAs5 o i st s (op x y h) := nr rfl
theorem kAs5_ok : kAs5 o i st s (.ok z h) = st o i z s h := nr rfl
def kMe2 (F : MF) (v : A) (r : Rs (List A)) : Rs A := r.bind fun vs h => F (v :: vs) h
def kMe (c f : Str) (F : MF) (ms : List ME) (s : SA) (r : Rs A) : Rs A := r.bind fun v h => if isMe c f h v = true then (mArgs ms s h).bind fun vs h => F (v :: vs) h else .no
theorem mMe_eq : mMe c f F mo ms s h = kMe c f F ms s (mo s h) := nr rfl
theorem kMe_ok {fs : List (Str × A)} (e : h[n]? = some (.ins c fs)) (l : fs.lookup f = none) : kMe c f F ms s (.ok (.ref n) h) = kMe2 F (.ref n) (mArgs ms s h) := by
  have : isMe c f h (.ref n) = true := by simp [isMe, e, l]
  show (if isMe c f h (.ref n) = true then (mArgs ms s h).bind fun vs h => F (.ref n :: vs) h else .no) = _
  rw [if_pos this]; rfl
theorem kMe2_ok : kMe2 F v (.ok vs h) = F (v :: vs) h := nr rfl
theorem mMk_eq : mMk c F ms s h = kBi (mkA c F) (mArgs ms s h) := nr rfl
theorem mkA_ok (e : F (.ref h.length :: vs) (h ++ [.ins c []]) = .ok .non h2) : mkA c F vs h = .ok (.ref h.length) h2 := by
  unfold mkA; rw [e]
def kD6 (mo'' : A → A → Mo A) (w : A) (r : Rs A) : Rs A := r.bind fun w2 h => mo'' w w2 h
def kD5 (mo'' : A → A → Mo A) (md : ME) (sa : SA) (w : A) (r : Rs A) : Rs A := r.bind fun z2 h => match z2 with
  | .bl true => (md sa h).bind fun w2 h => mo'' w w2 h
  | .bl false => .ok (.bl false) h
  | _ => .no
def kD4 (mo' mo'' : A → A → Mo A) (md : ME) (sa : SA) (u : A) (r : Rs A) : Rs A := r.bind fun w h => (mo' u w h).bind fun z2 h => match z2 with
  | .bl true => (md sa h).bind fun w2 h => mo'' w w2 h
  | .bl false => .ok (.bl false) h
  | _ => .no
def kD3 (mo' mo'' : A → A → Mo A) (mc md : ME) (sa : SA) (u : A) (r : Rs A) : Rs A := r.bind fun z h => match z with
  | .bl true => (mc sa h).bind fun w h => (mo' u w h).bind fun z2 h => (match z2 with
    | .bl true => (md sa h).bind fun w2 h => mo'' w w2 h
    | .bl false => .ok (.bl false) h
    | _ => .no)
  | .bl false => .ok (.bl false) h
  | _ => .no
def kD2 (mo mo' mo'' : A → A → Mo A) (mc md : ME) (sa : SA) (v : A) (r : Rs A) : Rs A := r.bind fun u h => kD3 mo' mo'' mc md sa u (mo v u h)
def kD1 (mo mo' mo'' : A → A → Mo A) (mb mc md : ME) (sa : SA) (r : Rs A) : Rs A := r.bind fun v h => kD2 mo mo' mo'' mc md sa v (mb sa h)
theorem mChain3_eq {md : ME} : mChain3 mo1 mo2 mo3 ma mb mc md sa h = kD1 mo1 mo2 mo3 mb mc md sa (ma sa h) := nr rfl
theorem kD1_ok {md : ME} : kD1 mo1 mo2 mo3 mb mc md sa (.ok v h) = kD2 mo1 mo2 mo3 mc md sa v (mb sa h) := nr rfl
theorem kD2_ok {md : ME} : kD2 mo1 mo2 mo3 mc md sa v (.ok u h) = kD3 mo2 mo3 mc md sa u (mo1 v u h) := nr rfl
theorem kD3_t {md : ME} : kD3 mo2 mo3 mc md sa u (.ok (.bl true) h) = kD4 mo2 mo3 md sa u (mc sa h) := nr rfl
theorem kD3_f {md : ME} : kD3 mo2 mo3 mc md sa u (.ok (.bl false) h) = .ok (.bl false) h := nr rfl
theorem kD4_ok {md : ME} : kD4 mo2 mo3 md sa u (.ok w h) = kD5 mo3 md sa w (mo2 u w h) := nr rfl
theorem kD5_t {md : ME} : kD5 mo3 md sa w (.ok (.bl true) h) = kD6 mo3 w (md sa h) := nr rfl
theorem kD5_f {md : ME} : kD5 mo3 md sa w (.ok (.bl false) h) = .ok (.bl false) h := nr rfl
theorem kD6_ok : kD6 mo3 w (.ok v h) = mo3 w v h := nr rfl
theorem bMax3_i {i j k : Int} : bMax3 [.int i, .int j, .int k] h = .ok (.int (mx2 (mx2 i j) k)) h := nr rfl
theorem mapM_ints : ∀ ns : List Int, (ns.map A.int).mapM ntA = some ns
  | [] => rfl
  | n :: ns => by rw [List.map_cons, List.mapM_cons, mapM_ints ns]; rfl
theorem bSorted_i {ns : List Int} (e : h[n]? = some (.lst (ns.map .int))) : bSorted [.ref n] h = .ok (.ref h.length) (h ++ [.lst ((sortI ns).map .int)]) := by
  simp only [bSorted, lsA, e, Option.bind, mapM_ints]
theorem mDNew_eq : mDNew s h = .ok (.ref h.length) (h ++ [.dct []]) := nr rfl
theorem mGD_eq {kvs : List (Str × A)} : mGD kvs m s h = k1 (oGD kvs) (m s h) := nr rfl
theorem oGD_ok {kvs : List (Str × A)} {x : Str} (l : kvs.lookup x = some v) : oGD kvs (.str x) h = .ok v h := by simp only [oGD, l]
end
/-! items of tuples that are written out -/
section
variable {h : AH} {a0 a1 a2 a3 a4 : A}
theorem tI20 : oIx (.tup [a0, a1]) (.int 0) h = .ok a0 h := oIx_t rfl
theorem tI21 : oIx (.tup [a0, a1]) (.int 1) h = .ok a1 h := oIx_t rfl
theorem tI30 : oIx (.tup [a0, a1, a2]) (.int 0) h = .ok a0 h := oIx_t rfl
theorem tI31 : oIx (.tup [a0, a1, a2]) (.int 1) h = .ok a1 h := oIx_t rfl
theorem tI32 : oIx (.tup [a0, a1, a2]) (.int 2) h = .ok a2 h := oIx_t rfl
theorem tI40 : oIx (.tup [a0, a1, a2, a3]) (.int 0) h = .ok a0 h := oIx_t rfl
theorem tI41 : oIx (.tup [a0, a1, a2, a3]) (.int 1) h = .ok a1 h := oIx_t rfl
theorem tI42 : oIx (.tup [a0, a1, a2, a3]) (.int 2) h = .ok a2 h := oIx_t rfl
theorem tI43 : oIx (.tup [a0, a1, a2, a3]) (.int 3) h = .ok a3 h := oIx_t rfl
theorem tI50 : oIx (.tup [a0, a1, a2, a3, a4]) (.int 0) h = .ok a0 h := oIx_t rfl
theorem tI51 : oIx (.tup [a0, a1, a2, a3, a4]) (.int 1) h = .ok a1 h := oIx_t rfl
theorem tI52 : oIx (.tup [a0, a1, a2, a3, a4]) (.int 2) h = .ok a2 h := oIx_t rfl
theorem tI53 : oIx (.tup [a0, a1, a2, a3, a4]) (.int 3) h = .ok a3 h := oIx_t rfl
theorem tI54 : oIx (.tup [a0, a1, a2, a3, a4]) (.int 4) h = .ok a4 h := oIx_t rfl
end
end Z

namespace ZP
open PySem PySem.Spec PyProof.Rows L2 Z ZL

theorem kit_ii : kitB "int" "int" = some true := by decide +kernel
theorem kit_ib : kitB "int" "bool" = some false := by decide +kernel
theorem kit_bi : kitB "bool" "int" = some true := by decide +kernel
theorem kit_bb : kitB "bool" "bool" = some true := by decide +kernel
theorem whole_int (i : Int) (ah : AH) : F_is_whole [.int i] ah = .ok (.bl true) ah := by
  simp only [F_is_whole, mFn, m_is_whole, mRet, mAnd, mIsi, mNot, mVar, tyOf, Option.bind, kit_ii, kit_ib, tru, List.map, List.cons_append, List.getElem?_cons_zero, Rs.bind, Rs.st, if_true, Bool.not_false]
theorem isint_int (i : Int) (ah : AH) : F__law_is_integer [.int i] ah = .ok (.bl true) ah := whole_int i ah
theorem require_t (v : A) (ah : AH) : F_require [.bl true, v] ah = .ok .non ah := rfl
theorem require_f (v : A) (ah : AH) : F_require [.bl false, v] ah = .ex ⟨"BadValue", [("name", v)]⟩ ah := rfl

/-! ### the frame: what stands as it stood -/
/-- but for the objects of ns, all stand; there may be more -/
structure Fr (ns : List Nat) (ah ah' : AH) : Prop where
  le : ah.length ≤ ah'.length
  eq : ∀ m, m < ah.length → m ∉ ns → ah'[m]? = ah[m]?
theorem Fr.refl (ns : List Nat) (ah : AH) : Fr ns ah ah := ⟨Nat.le_refl _, fun _ _ _ => rfl⟩
theorem Fr.trans {ns : List Nat} {a b c : AH} (h : Fr ns a b) (g : Fr ns b c) : Fr ns a c :=
  ⟨Nat.le_trans h.le g.le, fun m hm hn => (g.eq m (Nat.lt_of_lt_of_le hm h.le) hn).trans (h.eq m hm hn)⟩
theorem Fr.push {ns : List Nat} {a : AH} (x : List AO) : Fr ns a (a ++ x) := ⟨by simp, fun m hm _ => by rw [List.getElem?_append_left hm]⟩
theorem Fr.set {ns : List Nat} {a : AH} {n : Nat} {o : AO} (h : n ∈ ns) : Fr ns a (a.set n o) := ⟨by simp, fun m hm hn => by rw [List.getElem?_set_ne (fun e : n = m => hn (by rw [← e]; exact h))]⟩
theorem Fr.mono {ns ms : List Nat} {a b : AH} (h : Fr ns a b) (s : ∀ n ∈ ns, n ∈ ms) : Fr ms a b := ⟨h.le, fun m hm hn => h.eq m hm fun z => hn (s m z)⟩
theorem lt_of_some {ah : AH} {n : Nat} {o : AO} (h : ah[n]? = some o) : n < ah.length := by
  rcases Nat.lt_or_ge n ah.length with z | z
  · exact z
  · rw [List.getElem?_eq_none z] at h; cases h
theorem Fr.at {ns : List Nat} {a b : AH} (h : Fr ns a b) {m : Nat} {o : AO} (e : a[m]? = some o) (hn : m ∉ ns) : b[m]? = some o := by rw [h.eq m (lt_of_some e) hn]; exact e

/-! ### the stream -/
structure Strm (ah : AH) (n : Nat) : Prop where
  ex : ∃ (b : Nat) (xs : List Int) (c k : Int), ah[n]? = some (.lst [.ref b, .int c, .int k]) ∧ ah[b]? = some (.lst (xs.map .int)) ∧ b < n ∧ xs.length ≤ 63 ∧ 0 ≤ c ∧ 0 ≤ k
theorem Strm.keep {ah ah' : AH} {n : Nat} (S : Strm ah n) (h : ∀ (m : Nat) (o : AO), ah[m]? = some o → ah'[m]? = some o) : Strm ah' n := by
  obtain ⟨b, xs, c, k, h1, h2, h3⟩ := S
  exact ⟨b, xs, c, k, h _ _ h1, h _ _ h2, h3⟩
theorem Strm.push {ah : AH} {n : Nat} (S : Strm ah n) (x : List AO) : Strm (ah ++ x) n := S.keep fun m o e => by rw [List.getElem?_append_left (lt_of_some e)]; exact e
theorem Strm.lt {ah : AH} {n : Nat} (S : Strm ah n) : n < ah.length := by
  obtain ⟨b, xs, c, k, h1, h2, h3⟩ := S
  exact lt_of_some h1
theorem stream_ok {v : A} {ah : AH} {ns : List Int} (h : lsV ah v = some (ns.map .int)) (hl : ns.length ≤ 63) : ∃ ah', F__law_stream [v] ah = .ok (.ref (ah.length + 1)) ah' ∧ Fr [] ah ah' ∧ Strm ah' (ah.length + 1) := by
  have e : bList [v] ah = .ok (.ref ah.length) (ah ++ [.lst (ns.map .int)]) := by
    cases v with
    | fro xs => simp only [lsV, Option.some.injEq] at h; subst h; rfl
    | ref n => simp only [lsV] at h; simp only [bList, h]
    | _ => cases h
  refine ⟨(ah ++ [.lst (ns.map .int)]) ++ [.lst [.ref ah.length, .int 0, .int 0]], ?_, ?_, ?_⟩
  · simp only [F__law_stream, mFn, m__law_stream, mRet, mLst, mArgs, mBi, mVar, mC, List.map, List.cons_append, List.getElem?_cons_zero, Rs.bind, Rs.st, e]
    rw [if_pos (by show 3 ≤ sizeLine; decide)]
    simp
  · exact (Fr.push _).trans (Fr.push _)
  · refine ⟨ah.length, ns, 0, 0, ?_, ?_, by omega, hl, by omega, by omega⟩
    · rw [List.getElem?_append_right (by simp)]; simp
    · rw [List.append_assoc, List.getElem?_append_right (by simp)]; simp
theorem log_small {i : Int} {k : Nat} (h : i.natAbs < 2 ^ k) (hk : 0 < k) : i.natAbs.log2 < k := PySem.Flt.log2_lt_of hk h
theorem log_big {i : Int} (h : i.natAbs < 2 ^ 400) : i.natAbs.log2 < 400 := log_small h (by omega)
theorem mul_ok {i j : Int} (h1 : i.natAbs < 2 ^ 400) (h2 : j.natAbs < 2 ^ 400) : i.natAbs.log2 + j.natAbs.log2 < 1000000 := by
  have := log_big h1
  have := log_big h2
  omega

/-! ### a step of a meaning -/
local macro_rules | `(tactic| walk_at "zs") => `(tactic| simp (config := { decide := false }) only [m1_eq, k1_ok, m2_eq, k2_ok, k2'_ok, mVar0, mVarS, mC_eq, mTst_eq, mTru_eq, kTru_ok, tru_bl, tru_int, tru_non, tru_tup, mAndT_eq, kAndT_t, kAndT_f, mOrT_eq, kOrT_t, kOrT_f, mNotT_eq, kNotT_ok, mChain_eq, kC1_ok, kC2_ok, kC3_t, kC3_f, kC4_ok, mB_eq, kB_ok, mAnd_eq, kAnd_ok, kAnd2_t, kAnd2_f, mOr_eq, kOr_ok, kOr2_t, kOr2_f, mNot_eq, kNot_ok, kNot2_ok, mIfE_eq, kIfE_t, kIfE_f, mArgs_nil, mArgs_cons, kA_ok, kA2_ok, mBi_eq, kBi_ok, mTup_eq, mLst_eq, mIsi_eq, kIsi_int, kIsi_bl, kIsi_str, kIsi_non, kIsi_tup, kIsi2_ok, kb_ii, kb_ib, kb_is, kb_it, kb_il, kb_bi, kb_bb, kb_bs, kb_bt, kb_bl, kb_si, kb_sb, kb_ss, kb_st, kb_sl, kb_ni, kb_nb, kb_ns, kb_nt, kb_nl, kb_ti, kb_tb, kb_ts, kb_tt, kb_tl, kb_li, kb_lb, kb_ls, kb_lt, kb_ll, mSeq_eq, kSeq_nx, kSeq_rt, kSeq_bk, kSeq_ct, kSeq_ex, mIf_eq, kIf_t, kIf_f, kIf_ex, mAsg_eq, kAsg_ok, kAsg_ex, gN_eq, gSb_eq, kSb_ok, kSb2_ok, gsNil_eq, gsCons_eq, mSkip_eq, mBreak_eq, mCont_eq, mExpr_eq, kExpr_ok, kExpr_ex, mRet_eq, kRet_ok, kRet_ex, mRetN_eq, mPar_eq, kPar_ok, mAug_eq, kAug0_ok, kAug_ok, kAug2_ok, mRaise_eq, kRaise_ok, mFn_eq, kFn_nx, kFn_rt, kFn_ex, oAdd_i, oIAdd_i, oSub_i, oNeg_i, oLt_i, oLe_i, oGt_i, oGe_i, oEq_i, oNe_i, oEq_s, oNe_s, oEq_b, oNe_b, oIs_n, oIsN_n, oIs_b, oIsN_b, isN_int, isN_bl, isN_str, isN_tup, isN_ref, isN_non, bAbs_i, bInt_i, bInt_b, bLen_t, bMax2_i, bMin2_i, bGcd_i, atI_0, List.set_cons_zero, List.set_cons_succ, List.map_cons, List.map_nil, List.cons_append, List.nil_append, List.length_cons, List.length_nil, List.replicate, Bool.not_true, Bool.not_false, decide_true, decide_false, kBi_ex, kA_ex, kA2_ex])
local macro_rules | `(tactic| walk_at "za") => `(tactic| simp (config := { decide := false }) only [m1_eq, k1_ok, m2_eq, k2_ok, k2'_ok, mVar0, mVarS, mC_eq, mTst_eq, mTru_eq, kTru_ok, tru_bl, tru_int, tru_non, tru_tup, mAndT_eq, kAndT_t, kAndT_f, mOrT_eq, kOrT_t, kOrT_f, mNotT_eq, kNotT_ok, mChain_eq, kC1_ok, kC2_ok, kC3_t, kC3_f, kC4_ok, mB_eq, kB_ok, mAnd_eq, kAnd_ok, kAnd2_t, kAnd2_f, mOr_eq, kOr_ok, kOr2_t, kOr2_f, mNot_eq, kNot_ok, kNot2_ok, mIfE_eq, kIfE_t, kIfE_f, mArgs_nil, mArgs_cons, kA_ok, kA2_ok, mBi_eq, kBi_ok, mTup_eq, mLst_eq, mIsi_eq, kIsi_int, kIsi_bl, kIsi_str, kIsi_non, kIsi_tup, kIsi2_ok, kb_ii, kb_ib, kb_is, kb_it, kb_il, kb_bi, kb_bb, kb_bs, kb_bt, kb_bl, kb_si, kb_sb, kb_ss, kb_st, kb_sl, kb_ni, kb_nb, kb_ns, kb_nt, kb_nl, kb_ti, kb_tb, kb_ts, kb_tt, kb_tl, kb_li, kb_lb, kb_ls, kb_lt, kb_ll, mSeq_eq, kSeq_nx, kSeq_rt, kSeq_bk, kSeq_ct, kSeq_ex, mIf_eq, kIf_t, kIf_f, kIf_ex, mAsg_eq, kAsg_ok, kAsg_ex, gN_eq, gSb_eq, kSb_ok, kSb2_ok, gsNil_eq, gsCons_eq, mSkip_eq, mBreak_eq, mCont_eq, mExpr_eq, kExpr_ok, kExpr_ex, mRet_eq, kRet_ok, kRet_ex, mRetN_eq, mPar_eq, kPar_ok, mAug_eq, kAug0_ok, kAug_ok, kAug2_ok, mRaise_eq, kRaise_ok, mFn_eq, kFn_nx, kFn_rt, kFn_ex, oAdd_i, oIAdd_i, oSub_i, oNeg_i, oLt_i, oLe_i, oGt_i, oGe_i, oEq_i, oNe_i, oEq_s, oNe_s, oEq_b, oNe_b, oIs_n, oIsN_n, oIs_b, oIsN_b, isN_int, isN_bl, isN_str, isN_tup, isN_ref, isN_non, bAbs_i, bInt_i, bInt_b, bLen_t, bMax2_i, bMin2_i, bGcd_i, atI_0, List.set_cons_zero, List.set_cons_succ, List.map_cons, List.map_nil, List.cons_append, List.nil_append, List.length_cons, List.length_nil, List.replicate, Bool.not_true, Bool.not_false, decide_true, decide_false, kBi_ex, kA_ex, kA2_ex, *])

theorem abs_nn {i : Int} (h : 0 ≤ i) : i.natAbs = i.toNat := by omega
theorem lt400 {i : Int} (h0 : 0 ≤ i) (h : i < 10 ^ 100) : i.natAbs < 2 ^ 400 := by
  have : (10 : Int) ^ 100 < 2 ^ 400 := by decide
  have e : i < (2 ^ 400 : Nat) := by
    have : ((2 ^ 400 : Nat) : Int) = 2 ^ 400 := by norm_cast
    omega
  omega
theorem next_tail {ah : AH} {n : Nat} {many : Int} {b : Nat} {xs : List Int} {c k : Int} (h0 : 0 < many) (hm : many.natAbs < 2 ^ 400) (h1 : ah[n]? = some (.lst [.ref b, .int c, .int k])) (h2 : ah[b]? = some (.lst (xs.map .int))) (hb : b < n) (hl : xs.length ≤ 63) (hc : 0 ≤ c) (hk : 0 ≤ k) (s3 s4 : Option A) :
    ∃ d o, kFn (mSeq (mAsg (m2 oMod (mBi bInt [m2 oIx (mVar 0) (mC (A.int 1))]) (mVar 1)) (gN 2))
              (mSeq (mAsg (m2 oDiv (m2 oIx (mVar 0) (mC (A.int 1))) (mVar 1)) (gSb (mVar 0) (mC (A.int 1))))
                (mRet (mVar 2))) [some (.ref n), some (.int many), none, s3, s4] ah) = .ok (.int d) (ah.set n o) ∧ 0 ≤ d ∧ d < many ∧ Strm (ah.set n o) n := by
  have hn := lt_of_some h1
  have i1 : oIx (.ref n) (.int 1) ah = .ok (.int c) ah := oIx_l h1 rfl
  have hmod : oMod (.int c) (.int many) ah = .ok (.int (c.fmod many)) ah := oMod_i (by omega)
  have hdiv : oDiv (.int c) (.int many) ah = .ok (.int (c.fdiv many)) ah := oDiv_i (by omega) (by have := log_big hm; omega)
  refine ⟨c.fmod many, .lst [.ref b, .int (c.fdiv many), .int k], ?_, Int.fmod_nonneg_of_pos _ h0, Int.fmod_lt_of_pos _ h0, ⟨b, xs, c.fdiv many, k, ?_, ?_, hb, hl, Int.fdiv_nonneg hc (by omega), hk⟩⟩
  · walk_at "za"
    rw [oSet_ok' h1 (j := 1) rfl]
    walk_at "zs"
  · exact List.getElem?_set_self hn
  · rw [List.getElem?_set_ne (Nat.ne_of_gt hb)]; exact h2
theorem next_ok {ah : AH} {n : Nat} {many : Int} (S : Strm ah n) (h0 : 0 < many) (hm : many.natAbs < 2 ^ 400) :
    ∃ d o, F__law_next [.ref n, .int many] ah = .ok (.int d) (ah.set n o) ∧ 0 ≤ d ∧ d < many ∧ Strm (ah.set n o) n := by
  obtain ⟨b, xs, c, k, h1, h2, hb, hl, hc, hk⟩ := S
  have hn := lt_of_some h1
  have i0 : oIx (.ref n) (.int 0) ah = .ok (.ref b) ah := oIx_l h1 rfl
  have i1 : oIx (.ref n) (.int 1) ah = .ok (.int c) ah := oIx_l h1 rfl
  have i2 : oIx (.ref n) (.int 2) ah = .ok (.int k) ah := oIx_l h1 rfl
  unfold F__law_next m__law_next
  by_cases c0 : c = 0
  · subst c0
    simp only [mFn_eq]
    have fin : ∀ (cell : Int) (s4 : SA), 0 ≤ cell → s4 = [some (.ref n), some (.int many), none, some (.int k), some (.int cell)] → ∃ d o, kFn (kSeq (mSeq (mAsg (m2 oMod (mBi bInt [m2 oIx (mVar 0) (mC (A.int 1))]) (mVar 1)) (gN 2))
              (mSeq (mAsg (m2 oDiv (m2 oIx (mVar 0) (mC (A.int 1))) (mVar 1)) (gSb (mVar 0) (mC (A.int 1))))
                (mRet (mVar 2)))) (mSeq (mAsg (mVar 4) (gSb (mVar 0) (mC (A.int 1))))
          (mAsg (m2 oAdd (mVar 3) (mC (A.int 1))) (gSb (mVar 0) (mC (A.int 2)))) s4 ah)) = .ok (.int d) (ah.set n o) ∧ 0 ≤ d ∧ d < many ∧ Strm (ah.set n o) n := fun cell s4 h e4 => by
      subst e4
      have g1 : (ah.set n (.lst [.ref b, .int cell, .int k]))[n]? = some (.lst [.ref b, .int cell, .int k]) := List.getElem?_set_self hn
      have g2 : ((ah.set n (.lst [.ref b, .int cell, .int k])).set n (.lst [.ref b, .int cell, .int (k + 1)]))[n]? = some (.lst [.ref b, .int cell, .int (k + 1)]) := List.getElem?_set_self (by simpa using hn)
      have g3 : ((ah.set n (.lst [.ref b, .int cell, .int k])).set n (.lst [.ref b, .int cell, .int (k + 1)]))[b]? = some (.lst (xs.map .int)) := by
        rw [List.getElem?_set_ne (Nat.ne_of_gt hb), List.getElem?_set_ne (Nat.ne_of_gt hb)]; exact h2
      obtain ⟨d, o, e, r⟩ := next_tail h0 hm g2 g3 hb hl h (by omega) (some (.int k)) (some (.int cell))
      refine ⟨d, o, ?_, ?_⟩
      · walk_at "zs"
        rw [oSet_ok' h1 (j := 1) rfl]
        walk_at "zs"
        rw [oSet_ok' g1 (j := 2) rfl]
        simp only [List.set_cons_zero, List.set_cons_succ]
        simp only [kSeq_nx]
        rw [e, List.set_set, List.set_set]
      · rw [List.set_set, List.set_set] at r
        exact r
    have mix : ∀ (cell : Int), 0 ≤ cell → (cell < 10 ^ 18 → k < 10 ^ 18) → ∃ d o, kFn (kSeq (mSeq (mAsg (m2 oMod (mBi bInt [m2 oIx (mVar 0) (mC (A.int 1))]) (mVar 1)) (gN 2))
              (mSeq (mAsg (m2 oDiv (m2 oIx (mVar 0) (mC (A.int 1))) (mVar 1)) (gSb (mVar 0) (mC (A.int 1))))
                (mRet (mVar 2)))) (kSeq (mSeq
                (mIf (mTst oLt (mVar 4) (m2 oPow (mC (A.int 10)) (mC (A.int 18))))
                  (mSeq
                    (mAsg
                      (m2 oMod
                        (mBi bInt
                          [m2 oAdd (m2 oAdd (m2 oMul (mVar 4) (mC (A.int 48271))) (m2 oMul (mVar 3) (mC (A.int 69621))))
                              (mC (A.int 11))])
                        (mC (A.int 2147483647)))
                      (gN 4))
                    (mAsg
                      (m2 oAdd
                        (m2 oMul
                          (m2 oMod (mBi bInt [m2 oAdd (m2 oMul (mVar 4) (mC (A.int 16807))) (mC (A.int 13))])
                            (mC (A.int 2147483647)))
                          (mC (A.int 65537)))
                        (mVar 4))
                      (gN 4)))
                  mSkip)
                (mSeq (mAsg (mVar 4) (gSb (mVar 0) (mC (A.int 1))))
                  (mAsg (m2 oAdd (mVar 3) (mC (A.int 1))) (gSb (mVar 0) (mC (A.int 2)))))) (.nx [some (.ref n), some (.int many), none, some (.int k), some (.int cell)] ah))) = .ok (.int d) (ah.set n o) ∧ 0 ≤ d ∧ d < many ∧ Strm (ah.set n o) n := fun cell h hk2 => by
      have pw : oPow (.int 10) (.int 18) ah = .ok (.int (10 ^ 18)) ah := oPow_i (by decide)
      by_cases hs : cell < 10 ^ 18
      · have hk3 := hk2 hs
        have w1 : oMul (.int cell) (.int 48271) ah = .ok (.int (cell * 48271)) ah := oMul_i (mul_ok (lt400 h (by omega)) (by decide))
        have w2 : oMul (.int k) (.int 69621) ah = .ok (.int (k * 69621)) ah := oMul_i (mul_ok (lt400 hk (by omega)) (by decide))
        have w3 : ∀ x : Int, oMod (.int x) (.int 2147483647) ah = .ok (.int (x.fmod 2147483647)) ah := fun x => oMod_i (by decide)
        have md : ∀ x : Int, 0 ≤ x.fmod 2147483647 ∧ x.fmod 2147483647 < 2147483647 := fun x => ⟨Int.fmod_nonneg_of_pos _ (by decide), Int.fmod_lt_of_pos _ (by decide)⟩
        have w4 : ∀ x : Int, oMul (.int (x.fmod 2147483647)) (.int 16807) ah = .ok (.int (x.fmod 2147483647 * 16807)) ah := fun x => oMul_i (mul_ok (lt400 (md x).1 (by have := (md x).2; omega)) (by decide))
        have w5 : ∀ x : Int, oMul (.int (x.fmod 2147483647)) (.int 65537) ah = .ok (.int (x.fmod 2147483647 * 65537)) ah := fun x => oMul_i (mul_ok (lt400 (md x).1 (by have := (md x).2; omega)) (by decide))
        walk_at "za"
        refine fin _ _ ?_ rfl
        have := (md ((cell * 48271 + k * 69621 + 11).fmod 2147483647 * 16807 + 13)).1
        have := (md (cell * 48271 + k * 69621 + 11)).1
        omega
      · walk_at "za"
        exact fin cell _ h rfl
    have hlen : bLen [.ref b] ah = .ok (.int xs.length) ah := by rw [bLen_l h2]; simp
    by_cases hkx : k < xs.length
    · obtain ⟨z, hz⟩ : ∃ z, xs[k.toNat]? = some z := ⟨xs[k.toNat]'(by omega), List.getElem?_eq_getElem (by omega)⟩
      have hix : oIx (.ref b) (.int k) ah = .ok (.int z) ah := oIx_l h2 (by
        have e : k = (k.toNat : Int) := by omega
        rw [e]
        exact atI_nat (by rw [List.getElem?_map, hz]; rfl))
      walk_at "za"
      refine mix _ ?_ ?_
      · split <;> omega
      · intro _; have := xs.length; omega
    · walk_at "za"
      exact mix _ (by omega) (by omega)
  · obtain ⟨d, o, e, r⟩ := next_tail h0 hm h1 h2 hb hl hc hk none none
    refine ⟨d, o, ?_, r⟩
    rw [← e]
    walk_at "za"


theorem pick_ok {xs : List A} {d : Int} (h0 : 0 ≤ d) (h : d < xs.length) : ∃ v, atI xs d = some v ∧ v ∈ xs := by
  obtain ⟨k, rfl⟩ : ∃ k : Nat, d = (k : Int) := ⟨d.toNat, by omega⟩
  have hd : k < xs.length := by omega
  exact ⟨xs[k], atI_nat (by simp), List.getElem_mem hd⟩
theorem lt400' {i : Int} (h0 : 0 < i) (h : i < 10 ^ 100) : i.natAbs < 2 ^ 400 := lt400 (by omega) h
/-- a draw, from where it stands -/
theorem next_at {ah : AH} {n : Nat} {m : Int} {r : Rs A} (hr : F__law_next [.ref n, .int m] ah = r) (S : Strm ah n) (h0 : 0 < m) (hm : m < 10 ^ 100) :
    ∃ d ah', r = .ok (.int d) ah' ∧ 0 ≤ d ∧ d < m ∧ Strm ah' n ∧ Fr [n] ah ah' := by
  obtain ⟨d, o, e, h1, h2, S2⟩ := next_ok S h0 (lt400' h0 hm)
  exact ⟨d, _, hr.symm.trans e, h1, h2, S2, Fr.set (List.mem_singleton.mpr rfl)⟩
/-- a written list, and an item of it that is drawn -/
theorem pick_at {ah : AH} {n : Nat} {m : Int} {xs : List A} {r : Rs A} (hr : k2' oIx (.ref ah.length) (F__law_next [.ref n, .int m] (ah ++ [.lst xs])) = r) (S : Strm ah n) (h : (xs.length : Int) = m) (h0 : 0 < m) (hm : m < 10 ^ 100) :
    ∃ v ah', r = .ok v ah' ∧ v ∈ xs ∧ Strm ah' n ∧ Fr [n] ah ah' := by
  obtain ⟨d, o, e, h1, h2, S2⟩ := next_ok (S.push [AO.lst xs]) h0 (lt400' h0 hm)
  obtain ⟨v, e2, mv⟩ := pick_ok (xs := xs) h1 (by omega)
  have hn := S.lt
  refine ⟨v, _, hr.symm.trans ?_, mv, S2, (Fr.push _).trans (Fr.set (List.mem_singleton.mpr rfl))⟩
  rw [e, k2'_ok]
  exact oIx_l (by rw [List.getElem?_set_ne (by omega), List.getElem?_append_right (Nat.le_refl _)]; simp) e2
end ZP

/-! loops -/
namespace ZP
open PySem PySem.Spec PyProof.Rows L2 Z ZL
section
variable {c : MT} {b : MS} {s s' : SA} {h h' : AH} {it : IT} {g : MG} {v : A}
def kWh2 (c : MT) (b : MS) (n : Nat) (r : Rt) : Rt := match r with
  | .nx s' h' => mWhile c b n s' h'
  | .ct s' h' => mWhile c b n s' h'
  | .bk s' h' => .nx s' h'
  | r => r
def kWh (c : MT) (b : MS) (n : Nat) (s : SA) (r : Rs Bool) : Rt := r.st s fun k h1 => if k = true then kWh2 c b n (b s h1) else .nx s h1
theorem wh_eq {n : Nat} : mWhile c b (n + 1) s h = kWh c b n s (c s h) := nr rfl
theorem kWh_t {n : Nat} : kWh c b n s (.ok true h) = kWh2 c b n (b s h) := nr rfl
theorem kWh_f {n : Nat} : kWh c b n s (.ok false h) = .nx s h := nr rfl
theorem kWh2_nx {n : Nat} : kWh2 c b n (.nx s h) = mWhile c b n s h := nr rfl
def kFr (it : IT) (g : MG) (b : MS) (k i : Nat) (r : Rt) : Rt := match r with
  | .nx s' h' => forGo it g b k (i + 1) s' h'
  | .ct s' h' => forGo it g b k (i + 1) s' h'
  | .bk s' h' => .nx s' h'
  | r => r
theorem fr_eq {k i : Nat} (e : it.item i h = some v) : forGo it g b (k + 1) i s h = kFr it g b k i (kSeq b (g v s h)) := by
  rw [forGo]; simp only [e]; exact nr rfl
theorem kFr_nx {k i : Nat} : kFr it g b k i (.nx s h) = forGo it g b k (i + 1) s h := nr rfl
theorem kFr_ct {k i : Nat} : kFr it g b k i (.ct s h) = forGo it g b k (i + 1) s h := nr rfl
theorem kFr_bk {k i : Nat} : kFr it g b k i (.bk s h) = .nx s h := nr rfl
/-- a loop that runs to its end -/
theorem go_run (inv : Nat → SA → AH → Prop) {n : Nat} (hi : ∀ i h, i < n → ∃ v, it.item i h = some v ∧ ∀ s, inv i s h → ∃ s' h', kSeq b (g v s h) = .nx s' h' ∧ inv (i + 1) s' h') (hf : ∀ h, it.fin h = true) :
    ∀ k i s h, i + k = n → inv i s h → ∃ s' h', forGo it g b k i s h = .nx s' h' ∧ inv n s' h'
  | 0, i, s, h, e, q => ⟨s, h, by rw [forGo]; simp only [hf h, if_true], by rw [← e]; exact q⟩
  | k + 1, i, s, h, e, q => by
    obtain ⟨v, ev, f⟩ := hi i h (by omega)
    obtain ⟨s', h', e1, q1⟩ := f s q
    obtain ⟨s2, h2, e2, q2⟩ := go_run inv hi hf k (i + 1) s' h' (by omega) q1
    exact ⟨s2, h2, by rw [fr_eq ev, e1, kFr_nx, e2], q2⟩
def rngB (B : Int) (m : ME) : MI := fun s h => (m s h).bind fun v h1 => match v with
  | .int j => if -B ≤ j ∧ j < B then .ok (IT.rng 0 j.toNat) h1 else .no
  | _ => .no
theorem rngB_ok (B : Int) {m : ME} {n : Int} (e : m s h = .ok (.int n) h) (c : -B ≤ n ∧ n < B) : rngB B m s h = .ok (IT.rng 0 n.toNat) h := by
  unfold rngB
  rw [e]
  dsimp only [Rs.bind]
  rw [if_pos c]
theorem rng_B (m : ME) : mRng1 m = rngB (2 ^ 62) m := rfl
theorem c62 {n : Nat} (hn : n < 1000000000) : -(2 : Int) ^ 62 ≤ (n : Int) ∧ (n : Int) < 2 ^ 62 := by
  have p : (2 : Int) ^ 62 = 4611686018427387904 := rfl
  rw [p]
  omega
theorem rng_run (inv : Nat → SA → AH → Prop) {m : ME} {n : Nat} (e : m s h = .ok (.int n) h) (hn : n < 1000000000) (h0 : inv 0 s h)
    (st : ∀ i s h, i < n → inv i s h → ∃ s' h', kSeq b (g (.int (i : Int)) s h) = .nx s' h' ∧ inv (i + 1) s' h') :
    ∃ s' h', mFor (mRng1 m) g b s h = .nx s' h' ∧ inv n s' h' := by
  have e1 : mRng1 m s h = .ok (IT.rng 0 n) h := by
    rw [rng_B, rngB_ok _ e (c62 hn), Int.toNat_natCast]
  have e2 : mFor (mRng1 m) g b s h = forGo (IT.rng 0 n) g b n 0 s h := by
    unfold mFor
    rw [e1]
    exact nr rfl
  rw [e2]
  exact go_run inv (fun i h hi => ⟨.int (i : Int), by show some (A.int (0 + (i : Int))) = _; rw [Int.zero_add], fun s q => st i s h hi q⟩) (fun _ => rfl) n 0 s h (by omega) h0
theorem p60 {x : Nat} (h : x < 10 ^ 60) : x < 2 ^ 400 := Nat.lt_of_lt_of_le h (by decide)
theorem mu {i j : Int} {h : AH} (a : i.natAbs < 10 ^ 60) (b : j.natAbs < 10 ^ 60) : oMul (.int i) (.int j) h = .ok (.int (i * j)) h := oMul_i (mul_ok (p60 a) (p60 b))
theorem new_at (h : AH) (o : AO) : (h ++ [o])[h.length]? = some o := by rw [List.getElem?_append_right (Nat.le_refl _)]; simp
end
end ZP

/-! list comprehensions, reckoned; defs that call themselves -/
namespace ZP
open PySem PySem.Spec PyProof.Rows L2 Z ZL
section
variable {it : IT} {ga : A → SA → Option SA} {me : ME} {sa s : SA} {h : AH}
theorem set_same {n : Nat} {o : AO} (e : h[n]? = some o) : List.set h n o = h := by
  apply List.ext_getElem?
  intro m
  by_cases c : n = m
  · subst c
    rw [List.getElem?_set_self (lt_of_some e), e]
  · rw [List.getElem?_set_ne c]
theorem lc_0 {tt : MT} {n i : Nat} (hf : it.fin h = true) : lcGo it ga tt me n sa 0 i h = .ok (.ref n) h := by
  rw [lcGo, if_pos hf]
theorem lc_s {n k i : Nat} {v : A} {s2 : SA} {y : A} {acc : List A} {h4 : AH} (e1 : it.item i h = some v) (e2 : ga v sa = some s2) (e3 : me s2 h = .ok y h4) (e4 : h4[n]? = some (.lst acc)) (hl : acc.length < 1000) :
    lcGo it ga mYes me n sa (k + 1) i h = lcGo it ga mYes me n sa k (i + 1) (h4.set n (.lst (acc ++ [y]))) := by
  rw [lcGo]
  simp only [e1, e2, mYes, Rs.bindN, if_true, e3, e4]
  rw [if_pos (by rw [sizeLine_eq]; omega)]
theorem lc_run {n N : Nat} (ys : Nat → A) (f : ∀ i h, i < N → ∃ v s2, it.item i h = some v ∧ ga v sa = some s2 ∧ me s2 h = .ok (ys i) h) (hf : ∀ h, it.fin h = true) :
    ∀ (k i : Nat) (acc : List A) (h : AH), i + k = N → h[n]? = some (.lst acc) → acc.length + k < 1000 → lcGo it ga mYes me n sa k i h = .ok (.ref n) (h.set n (.lst (acc ++ (List.range' i k).map ys)))
  | 0, i, acc, h, e, h0, hl => by
    rw [lc_0 (hf h)]
    simp only [List.range'_zero, List.map_nil, List.append_nil]
    rw [set_same h0]
  | k + 1, i, acc, h, e, h0, hl => by
    obtain ⟨v, s2, e1, e2, e3⟩ := f i h (by omega)
    rw [lc_s e1 e2 e3 h0 (by omega)]
    have hn := lt_of_some h0
    rw [lc_run ys f hf k (i + 1) (acc ++ [ys i]) _ (by omega) (List.getElem?_set_self hn) (by simp; omega)]
    rw [List.set_set]
    simp [List.range'_succ]
theorem lcR {m : ME} {n : Nat} (ys : Nat → A) (e : m s h = .ok (.int n) h) (hn : n < 900) {vs : List Nat} (f : ∀ i h, i < n → ∃ s2, ga (.int (i : Int)) (wipeA s vs) = some s2 ∧ me s2 h = .ok (ys i) h) :
    mLc (mRng1 m) ga mYes me vs s h = .ok (.ref h.length) (h ++ [.lst ((List.range' 0 n).map ys)]) := by
  have e1 : mRng1 m s h = .ok (IT.rng 0 n) h := by
    rw [rng_B, rngB_ok _ e (c62 (by omega)), Int.toNat_natCast]
  have e2 : mLc (mRng1 m) ga mYes me vs s h = lcGo (IT.rng 0 n) ga mYes me h.length (wipeA s vs) n 0 (h ++ [.lst []]) := by
    unfold mLc
    rw [e1]
    exact nr rfl
  rw [e2, lc_run (N := n) ys (fun i h hi => by
    obtain ⟨s2, a, b⟩ := f i h hi
    exact ⟨.int (i : Int), s2, by show some (A.int (0 + (i : Int))) = _; rw [Int.zero_add], a, b⟩) (fun _ => rfl) n 0 [] _ (by omega) (new_at _ _) (by simp; omega)]
  simp
theorem rec_s {b : MF → MS} {n k : Nat} {vs : List A} : recF b n (k + 1) vs h = mFn n (b (recF b n k)) vs h := nr rfl
end
end ZP

/-! _law_equal of a value with itself */ -/
namespace ZP
open PySem PySem.Spec PyProof.Rows L2 Z ZL
local macro_rules | `(tactic| walk_at "zs") => `(tactic| simp (config := { decide := false }) only [m1_eq, k1_ok, m2_eq, k2_ok, k2'_ok, mVar0, mVarS, mC_eq, mTst_eq, mTru_eq, kTru_ok, tru_bl, tru_int, tru_non, tru_tup, mAndT_eq, kAndT_t, kAndT_f, mOrT_eq, kOrT_t, kOrT_f, mNotT_eq, kNotT_ok, mChain_eq, kC1_ok, kC2_ok, kC3_t, kC3_f, kC4_ok, mB_eq, kB_ok, mAnd_eq, kAnd_ok, kAnd2_t, kAnd2_f, mOr_eq, kOr_ok, kOr2_t, kOr2_f, mNot_eq, kNot_ok, kNot2_ok, mIfE_eq, kIfE_t, kIfE_f, mArgs_nil, mArgs_cons, kA_ok, kA2_ok, mBi_eq, kBi_ok, mTup_eq, mLst_eq, mIsi_eq, kIsi_int, kIsi_bl, kIsi_str, kIsi_non, kIsi_tup, kIsi2_ok, kb_ii, kb_ib, kb_is, kb_it, kb_il, kb_bi, kb_bb, kb_bs, kb_bt, kb_bl, kb_si, kb_sb, kb_ss, kb_st, kb_sl, kb_ni, kb_nb, kb_ns, kb_nt, kb_nl, kb_ti, kb_tb, kb_ts, kb_tt, kb_tl, kb_li, kb_lb, kb_ls, kb_lt, kb_ll, mSeq_eq, kSeq_nx, kSeq_rt, kSeq_bk, kSeq_ct, kSeq_ex, mIf_eq, kIf_t, kIf_f, kIf_ex, mAsg_eq, kAsg_ok, kAsg_ex, gN_eq, gSb_eq, kSb_ok, kSb2_ok, gsNil_eq, gsCons_eq, mSkip_eq, mBreak_eq, mCont_eq, mExpr_eq, kExpr_ok, kExpr_ex, mRet_eq, kRet_ok, kRet_ex, mRetN_eq, mPar_eq, kPar_ok, mAug_eq, kAug0_ok, kAug_ok, kAug2_ok, mRaise_eq, kRaise_ok, mFn_eq, kFn_nx, kFn_rt, kFn_ex, oAdd_i, oIAdd_i, oSub_i, oNeg_i, oLt_i, oLe_i, oGt_i, oGe_i, oEq_i, oNe_i, oEq_s, oNe_s, oEq_b, oNe_b, oIs_n, oIsN_n, oIs_b, oIsN_b, isN_int, isN_bl, isN_str, isN_tup, isN_ref, isN_non, bAbs_i, bInt_i, bInt_b, bLen_t, bMax2_i, bMin2_i, bGcd_i, atI_0, List.set_cons_zero, List.set_cons_succ, List.map_cons, List.map_nil, List.cons_append, List.nil_append, List.length_cons, List.length_nil, List.replicate, Bool.not_true, Bool.not_false, decide_true, decide_false, kLst_ok, kTup_ok, Nat.reduceAdd, Nat.reduceLeDiff, Int.reducePow, Int.reduceToNat, Int.reduceMul, Int.reduceAdd, Int.reduceSub, Int.reduceNeg, kBi_ex, kA_ex, kA2_ex])
local macro_rules | `(tactic| walk_at "za") => `(tactic| simp (config := { decide := false }) only [m1_eq, k1_ok, m2_eq, k2_ok, k2'_ok, mVar0, mVarS, mC_eq, mTst_eq, mTru_eq, kTru_ok, tru_bl, tru_int, tru_non, tru_tup, mAndT_eq, kAndT_t, kAndT_f, mOrT_eq, kOrT_t, kOrT_f, mNotT_eq, kNotT_ok, mChain_eq, kC1_ok, kC2_ok, kC3_t, kC3_f, kC4_ok, mB_eq, kB_ok, mAnd_eq, kAnd_ok, kAnd2_t, kAnd2_f, mOr_eq, kOr_ok, kOr2_t, kOr2_f, mNot_eq, kNot_ok, kNot2_ok, mIfE_eq, kIfE_t, kIfE_f, mArgs_nil, mArgs_cons, kA_ok, kA2_ok, mBi_eq, kBi_ok, mTup_eq, mLst_eq, mIsi_eq, kIsi_int, kIsi_bl, kIsi_str, kIsi_non, kIsi_tup, kIsi2_ok, kb_ii, kb_ib, kb_is, kb_it, kb_il, kb_bi, kb_bb, kb_bs, kb_bt, kb_bl, kb_si, kb_sb, kb_ss, kb_st, kb_sl, kb_ni, kb_nb, kb_ns, kb_nt, kb_nl, kb_ti, kb_tb, kb_ts, kb_tt, kb_tl, kb_li, kb_lb, kb_ls, kb_lt, kb_ll, mSeq_eq, kSeq_nx, kSeq_rt, kSeq_bk, kSeq_ct, kSeq_ex, mIf_eq, kIf_t, kIf_f, kIf_ex, mAsg_eq, kAsg_ok, kAsg_ex, gN_eq, gSb_eq, kSb_ok, kSb2_ok, gsNil_eq, gsCons_eq, mSkip_eq, mBreak_eq, mCont_eq, mExpr_eq, kExpr_ok, kExpr_ex, mRet_eq, kRet_ok, kRet_ex, mRetN_eq, mPar_eq, kPar_ok, mAug_eq, kAug0_ok, kAug_ok, kAug2_ok, mRaise_eq, kRaise_ok, mFn_eq, kFn_nx, kFn_rt, kFn_ex, oAdd_i, oIAdd_i, oSub_i, oNeg_i, oLt_i, oLe_i, oGt_i, oGe_i, oEq_i, oNe_i, oEq_s, oNe_s, oEq_b, oNe_b, oIs_n, oIsN_n, oIs_b, oIsN_b, isN_int, isN_bl, isN_str, isN_tup, isN_ref, isN_non, bAbs_i, bInt_i, bInt_b, bLen_t, bMax2_i, bMin2_i, bGcd_i, atI_0, List.set_cons_zero, List.set_cons_succ, List.map_cons, List.map_nil, List.cons_append, List.nil_append, List.length_cons, List.length_nil, List.replicate, Bool.not_true, Bool.not_false, decide_true, decide_false, kLst_ok, kTup_ok, Nat.reduceAdd, Nat.reduceLeDiff, Int.reducePow, Int.reduceToNat, Int.reduceMul, Int.reduceAdd, Int.reduceSub, Int.reduceNeg, kBi_ex, kA_ex, kA2_ex, *])

theorem Strm.fr {h h' : AH} {n : Nat} (S : Strm h n) (f : Fr [] h h') : Strm h' n := S.keep fun m o e => f.at e (by simp)
def EqV (k : Nat) (v : A) : Prop := ∀ h, ∃ h', recF m__law_equal 3 k [v, v] h = .ok (.bl true) h' ∧ Fr [] h h'
theorem eqv_non {k : Nat} : EqV (k + 1) .non := fun h => by
  refine ⟨h, ?_, Fr.refl _ _⟩
  rw [rec_s]
  simp only [mFn_eq]
  unfold m__law_equal
  walk_at "zs"
theorem eqv_bl {k : Nat} {i : Bool} : EqV (k + 1) (.bl i) := fun h => by
  refine ⟨h, ?_, Fr.refl _ _⟩
  rw [rec_s]
  simp only [mFn_eq]
  unfold m__law_equal
  walk_at "zs"
  unfold m__law_equal_r1
  walk_at "zs"
theorem eqv_int {k : Nat} {i : Int} : EqV (k + 1) (.int i) := fun h => by
  refine ⟨h, ?_, Fr.refl _ _⟩
  rw [rec_s]
  simp only [mFn_eq]
  unfold m__law_equal
  walk_at "zs"
  unfold m__law_equal_r1
  walk_at "zs"
  unfold m__law_equal_r2
  walk_at "zs"
  simp only [isint_int]
  walk_at "zs"
theorem eqv_str {k : Nat} {i : Str} : EqV (k + 1) (.str i) := fun h => by
  refine ⟨h, ?_, Fr.refl _ _⟩
  rw [rec_s]
  simp only [mFn_eq]
  unfold m__law_equal
  walk_at "zs"
  unfold m__law_equal_r1
  walk_at "zs"
  unfold m__law_equal_r2
  walk_at "zs"
  unfold m__law_equal_r3
  walk_at "zs"
theorem mapM_rep : ∀ n : Nat, (List.replicate n (A.bl true)).mapM trA = some (List.replicate n true)
  | 0 => rfl
  | n + 1 => by
    rw [List.replicate_succ, List.mapM_cons, mapM_rep n]
    rfl
theorem all_rep : ∀ n : Nat, (List.replicate n true).all id = true
  | 0 => rfl
  | n + 1 => by rw [List.replicate_succ, List.all_cons, all_rep n]; rfl
theorem bAll_rep {n N : Nat} {h : AH} (e : h[n]? = some (.lst (List.replicate N (.bl true)))) : bAll [.ref n] h = .ok (.bl true) h := by
  have e3 : sqA h (.ref n) = some (List.replicate N (.bl true)) := by
    unfold sqA
    simp only [lsA, lsV, e]
  unfold bAll
  dsimp only
  rw [e3]
  simp only [Option.bind, mapM_rep, all_rep]
theorem lc_eq {F : MF} {xs : List A} (hx : ∀ v ∈ xs, ∀ h, ∃ h', F [v, v] h = .ok (.bl true) h' ∧ Fr [] h h') {h0 : AH} {n : Nat} (hn : h0.length ≤ n) (hl : xs.length < 900) :
    ∀ (k i : Nat) (h : AH), i + k = xs.length → Fr [] h0 h → h[n]? = some (.lst (List.replicate i (.bl true))) →
    ∃ h', lcGo (IT.rng 0 xs.length) (c1 2) mYes (mBi F [(m2 oIx (mVar 0) (mVar 2)), (m2 oIx (mVar 1) (mVar 2))]) n [some (.tup xs), some (.tup xs), none] k i h = .ok (.ref n) h' ∧ Fr [] h0 h' ∧ h'[n]? = some (.lst (List.replicate xs.length (.bl true)))
  | 0, i, h, e, f, a => ⟨h, lc_0 rfl, f, by rw [← e]; exact a⟩
  | k + 1, i, h, e, f, a => by
    have hi : i < xs.length := by omega
    obtain ⟨h1, e1, f1⟩ := hx xs[i] (List.getElem_mem hi) h
    have a1 := f1.at a (by simp)
    have q : atI xs (i : Int) = some xs[i] := atI_n (List.getElem?_eq_getElem hi)
    rw [lc_s (v := .int (i : Int)) (s2 := [some (.tup xs), some (.tup xs), some (.int (i : Int))]) (y := .bl true) (acc := List.replicate i (.bl true)) (h4 := h1) (by show some (A.int (0 + (i : Int))) = _; rw [Int.zero_add]) rfl ?_ a1 (by simp; omega)]
    · refine lc_eq hx hn hl k (i + 1) _ (by omega) ⟨?_, fun m hm hns => ?_⟩ ?_
      · have := (f.trans f1).le
        simpa using this
      · rw [List.getElem?_set_ne (by omega)]
        exact (f.trans f1).eq m hm hns
      · rw [List.getElem?_set_self (lt_of_some a1), List.replicate_succ']
    · walk_at "zs"
      simp only [oIx_t q]
      walk_at "zs"
      simp only [oIx_t q]
      walk_at "zs"
      exact e1
theorem eqv_tup {k : Nat} {xs : List A} (hx : ∀ v ∈ xs, EqV k v) (hl : xs.length < 900) : EqV (k + 1) (.tup xs) := fun h => by
  rw [rec_s]
  unfold EqV at hx
  generalize recF m__law_equal 3 k = F at *
  simp only [mFn_eq]
  unfold m__law_equal
  walk_at "zs"
  unfold m__law_equal_r1
  walk_at "zs"
  unfold m__law_equal_r2
  walk_at "zs"
  unfold m__law_equal_r3
  walk_at "zs"
  unfold m__law_equal_r4
  walk_at "zs"
  unfold m__law_equal_r5
  walk_at "zs"
  unfold m__law_equal_r6
  walk_at "zs"
  unfold m__law_equal_r7
  have l1 : mRng1 (mBi bLen [mVar 1]) [some (.tup xs), some (.tup xs), none] h = .ok (IT.rng 0 xs.length) h := by
    rw [rng_B, rngB_ok (n := (xs.length : Int)) _ (by walk_at "zs") (c62 (by omega)), Int.toNat_natCast]
  obtain ⟨h', e, f, g⟩ := lc_eq hx (h0 := h) (n := h.length) (Nat.le_refl _) hl xs.length 0 (h ++ [.lst []]) (by omega) (Fr.push _) (new_at _ _)
  have e2 : mLc (mRng1 (mBi bLen [mVar 1])) (c1 2) mYes (mBi F [(m2 oIx (mVar 0) (mVar 2)), (m2 oIx (mVar 1) (mVar 2))]) [2] [some (.tup xs), some (.tup xs), none] h = .ok (.ref h.length) h' := by
    unfold mLc
    rw [l1, ← e]
    exact nr rfl
  refine ⟨h', ?_, f⟩
  walk_at "zs"
  rw [e2]
  simp only [kA_ok]
  walk_at "zs"
  rw [bAll_rep g]
  walk_at "zs"
theorem eq_self {v : A} (h : EqV 8 v) (ah : AH) : ∃ h', F__law_equal [v, v] ah = .ok (.bl true) h' ∧ Fr [] ah h' := h ah
end ZP

/-! the dice's numbers -/
namespace ZN
open PySem PySem.Spec PyProof.Rows L2 Z ZL ZP
theorem mm (x y p : Int) : (x % p * y) % p = (x * y) % p := by rw [Int.mul_emod, Int.emod_emod_of_dvd _ (Int.dvd_refl p), ← Int.mul_emod]
theorem mm2 (x y p : Int) : (y * (x % p)) % p = (y * x) % p := by rw [Int.mul_comm, mm, Int.mul_comm]
theorem pm (y x p : Int) : ∀ k : Nat, (y * (x % p) ^ k) % p = (y * x ^ k) % p
  | 0 => by rw [Int.pow_zero, Int.pow_zero]
  | k + 1 => by
    rw [Int.pow_succ, Int.pow_succ, ← Int.mul_assoc, ← Int.mul_assoc, mm2, ← mm, pm y x p k, mm]
def lp : Nat → Int → Int → Nat → Int
  | 0, l, _, _ => l
  | f + 1, l, b, e => if e = 0 then l else lp f (if e % 2 = 1 then l * b % 2147483563 else l) (b * b % 2147483563) (e / 2)
theorem lp_ok : ∀ (f : Nat) (l b : Int) (e : Nat), e < 2 ^ f → 0 ≤ l → l < 2147483563 → lp f l b e = (l * b ^ e) % 2147483563
  | 0, l, b, e, h, h0, h1 => by
    have : e = 0 := by simpa using h
    subst this
    rw [lp, Int.pow_zero, Int.mul_one, Int.emod_eq_of_lt h0 h1]
  | f + 1, l, b, e, h, h0, h1 => by
    rw [lp]
    split
    · rename_i z
      subst z
      rw [Int.pow_zero, Int.mul_one, Int.emod_eq_of_lt h0 h1]
    · have ih := lp_ok f (if e % 2 = 1 then l * b % 2147483563 else l) (b * b % 2147483563) (e / 2) (by rw [Nat.pow_succ] at h; omega) (by split; exact Int.emod_nonneg _ (by decide); exact h0) (by split; exact Int.emod_lt_of_pos _ (by decide); exact h1)
      rw [ih, pm]
      have hb : ∀ k : Nat, (b * b) ^ k = b ^ (2 * k) := fun k => by rw [Int.pow_mul]; congr 1; rw [Int.pow_succ, Int.pow_succ, Int.pow_zero, Int.one_mul]
      rw [hb]
      split
      · rename_i z
        have e2 : b ^ e = b * b ^ (2 * (e / 2)) := by
          rw [Int.mul_comm, ← Int.pow_succ]; congr 1; omega
        rw [mm, e2, Int.mul_assoc]
      · have e2 : 2 * (e / 2) = e := by omega
        rw [e2]
def Lf (d : Int) (k : Nat) : Int := (d * 40014 ^ k) % 2147483563
theorem L_add (d : Int) (j k : Nat) : Lf (Lf d j) k = Lf d (j + k) := by
  unfold Lf
  rw [mm, Int.mul_assoc, ← Int.pow_add]
theorem L_N (d : Int) : Lf d 2147483562 = d % 2147483563 := by
  have e : lp 31 1 40014 2147483562 = 1 := by decide +kernel
  rw [lp_ok 31 1 40014 2147483562 (by decide) (by decide) (by decide)] at e
  unfold Lf
  rw [← mm2]
  rw [Int.one_mul] at e
  generalize (40014 : Int) ^ 2147483562 % 2147483563 = q at *
  rw [e, Int.mul_one]
theorem L_lt (d : Int) (k : Nat) : 0 ≤ Lf d k ∧ Lf d k < 2147483563 := ⟨Int.emod_nonneg _ (by decide), Int.emod_lt_of_pos _ (by decide)⟩
theorem L_emod (d : Int) (k : Nat) : Lf (d % 2147483563) k = Lf d k := by unfold Lf; rw [mm]
theorem L_mul (d : Int) (q : Nat) : ∀ k : Nat, Lf d (q + 2147483562 * k) = Lf d q
  | 0 => rfl
  | k + 1 => by
    have : q + 2147483562 * (k + 1) = 2147483562 + (q + 2147483562 * k) := by omega
    rw [this, ← L_add, L_N, L_emod, L_mul d q k]
theorem L_mod (d : Int) (k : Nat) : Lf d (k % 2147483562) = Lf d k := by
  have := L_mul d (k % 2147483562) (k / 2147483562)
  rw [Nat.mod_add_div] at this
  exact this.symm
def Lz (d n : Int) : Int := Lf d (n % 2147483562).toNat
theorem Lz_add (d m n : Int) : Lz (Lz d m) n = Lz d (m + n) := by
  unfold Lz
  rw [L_add, ← L_mod]
  congr 1
  omega
theorem Lz_0 {d : Int} (h0 : 0 ≤ d) (h1 : d < 2147483563) : Lz d 0 = d := by
  unfold Lz Lf
  show (d * 40014 ^ 0) % 2147483563 = d
  rw [Int.pow_zero, Int.mul_one, Int.emod_eq_of_lt h0 h1]
theorem Lz_N {d : Int} (h0 : 0 ≤ d) (h1 : d < 2147483563) : Lz d 2147483562 = d := Lz_0 h0 h1
theorem Lz_1 (d : Int) : Lz d 1 = (d * 40014) % 2147483563 := by
  unfold Lz Lf
  show (d * 40014 ^ 1) % 2147483563 = _
  rw [Int.pow_succ, Int.pow_zero, Int.one_mul]
theorem Lz_in {d : Int} (n : Int) (h0 : 1 ≤ d) (h1 : d ≤ 2147483562) : 1 ≤ Lz d n ∧ Lz d n ≤ 2147483562 := by
  have a := L_lt d (n % 2147483562).toNat
  have b := Lz_add d n (-n)
  rw [show n + -n = 0 by omega, Lz_0 (by omega) (by omega)] at b
  rcases Int.lt_or_le 0 (Lz d n) with z | z
  · exact ⟨z, by have := a.2; show Lf _ _ ≤ _; omega⟩
  · exfalso
    have z2 : Lz d n = 0 := by have := a.1; have : 0 ≤ Lz d n := this; omega
    rw [z2] at b
    have : Lz 0 (-n) = 0 := by unfold Lz Lf; rw [Int.zero_mul]; rfl
    omega
theorem fmodN (x : Int) : x.fmod 2147483562 = x % 2147483562 := Int.fmod_eq_emod_of_nonneg _ (by decide)
theorem fmodP (x : Int) : x.fmod 2147483563 = x % 2147483563 := Int.fmod_eq_emod_of_nonneg _ (by decide)
theorem modN (x : Int) (ah : AH) : oMod (.int x) (.int 2147483562) ah = .ok (.int (x % 2147483562)) ah := by rw [oMod_i (by decide), fmodN]
theorem modP (x : Int) (ah : AH) : oMod (.int x) (.int 2147483563) ah = .ok (.int (x % 2147483563)) ah := by rw [oMod_i (by decide), fmodP]
end ZN

/-! dice: defs of the library -/
namespace ZN
open PySem PySem.Spec PyProof.Rows L2 Z ZL ZP
local macro_rules | `(tactic| walk_at "zs") => `(tactic| simp (config := { decide := false }) only [m1_eq, k1_ok, m2_eq, k2_ok, k2'_ok, mVar0, mVarS, mC_eq, mTst_eq, mTru_eq, kTru_ok, tru_bl, tru_int, tru_non, tru_tup, mAndT_eq, kAndT_t, kAndT_f, mOrT_eq, kOrT_t, kOrT_f, mNotT_eq, kNotT_ok, mChain_eq, kC1_ok, kC2_ok, kC3_t, kC3_f, kC4_ok, mB_eq, kB_ok, mAnd_eq, kAnd_ok, kAnd2_t, kAnd2_f, mOr_eq, kOr_ok, kOr2_t, kOr2_f, mNot_eq, kNot_ok, kNot2_ok, mIfE_eq, kIfE_t, kIfE_f, mArgs_nil, mArgs_cons, kA_ok, kA2_ok, mBi_eq, kBi_ok, mTup_eq, mLst_eq, mIsi_eq, kIsi_int, kIsi_bl, kIsi_str, kIsi_non, kIsi_tup, kIsi2_ok, kb_ii, kb_ib, kb_is, kb_it, kb_il, kb_bi, kb_bb, kb_bs, kb_bt, kb_bl, kb_si, kb_sb, kb_ss, kb_st, kb_sl, kb_ni, kb_nb, kb_ns, kb_nt, kb_nl, kb_ti, kb_tb, kb_ts, kb_tt, kb_tl, kb_li, kb_lb, kb_ls, kb_lt, kb_ll, mSeq_eq, kSeq_nx, kSeq_rt, kSeq_bk, kSeq_ct, kSeq_ex, mIf_eq, kIf_t, kIf_f, kIf_ex, mAsg_eq, kAsg_ok, kAsg_ex, gN_eq, gSb_eq, kSb_ok, kSb2_ok, gsNil_eq, gsCons_eq, mSkip_eq, mBreak_eq, mCont_eq, mExpr_eq, kExpr_ok, kExpr_ex, mRet_eq, kRet_ok, kRet_ex, mRetN_eq, mPar_eq, kPar_ok, mAug_eq, kAug0_ok, kAug_ok, kAug2_ok, mRaise_eq, kRaise_ok, mFn_eq, kFn_nx, kFn_rt, kFn_ex, oAdd_i, oIAdd_i, oSub_i, oNeg_i, oLt_i, oLe_i, oGt_i, oGe_i, oEq_i, oNe_i, oEq_s, oNe_s, oEq_b, oNe_b, oIs_n, oIsN_n, oIs_b, oIsN_b, isN_int, isN_bl, isN_str, isN_tup, isN_ref, isN_non, bAbs_i, bInt_i, bInt_b, bLen_t, bMax2_i, bMin2_i, bGcd_i, atI_0, List.set_cons_zero, List.set_cons_succ, List.map_cons, List.map_nil, List.cons_append, List.nil_append, List.length_cons, List.length_nil, List.replicate, Bool.not_true, Bool.not_false, decide_true, decide_false, kLst_ok, kTup_ok, Nat.reduceAdd, Nat.reduceLeDiff, Int.reducePow, Int.reduceToNat, Int.reduceMul, Int.reduceAdd, Int.reduceSub, Int.reduceNeg, kBi_ex, kA_ex, kA2_ex])
local macro_rules | `(tactic| walk_at "za") => `(tactic| simp (config := { decide := false }) only [m1_eq, k1_ok, m2_eq, k2_ok, k2'_ok, mVar0, mVarS, mC_eq, mTst_eq, mTru_eq, kTru_ok, tru_bl, tru_int, tru_non, tru_tup, mAndT_eq, kAndT_t, kAndT_f, mOrT_eq, kOrT_t, kOrT_f, mNotT_eq, kNotT_ok, mChain_eq, kC1_ok, kC2_ok, kC3_t, kC3_f, kC4_ok, mB_eq, kB_ok, mAnd_eq, kAnd_ok, kAnd2_t, kAnd2_f, mOr_eq, kOr_ok, kOr2_t, kOr2_f, mNot_eq, kNot_ok, kNot2_ok, mIfE_eq, kIfE_t, kIfE_f, mArgs_nil, mArgs_cons, kA_ok, kA2_ok, mBi_eq, kBi_ok, mTup_eq, mLst_eq, mIsi_eq, kIsi_int, kIsi_bl, kIsi_str, kIsi_non, kIsi_tup, kIsi2_ok, kb_ii, kb_ib, kb_is, kb_it, kb_il, kb_bi, kb_bb, kb_bs, kb_bt, kb_bl, kb_si, kb_sb, kb_ss, kb_st, kb_sl, kb_ni, kb_nb, kb_ns, kb_nt, kb_nl, kb_ti, kb_tb, kb_ts, kb_tt, kb_tl, kb_li, kb_lb, kb_ls, kb_lt, kb_ll, mSeq_eq, kSeq_nx, kSeq_rt, kSeq_bk, kSeq_ct, kSeq_ex, mIf_eq, kIf_t, kIf_f, kIf_ex, mAsg_eq, kAsg_ok, kAsg_ex, gN_eq, gSb_eq, kSb_ok, kSb2_ok, gsNil_eq, gsCons_eq, mSkip_eq, mBreak_eq, mCont_eq, mExpr_eq, kExpr_ok, kExpr_ex, mRet_eq, kRet_ok, kRet_ex, mRetN_eq, mPar_eq, kPar_ok, mAug_eq, kAug0_ok, kAug_ok, kAug2_ok, mRaise_eq, kRaise_ok, mFn_eq, kFn_nx, kFn_rt, kFn_ex, oAdd_i, oIAdd_i, oSub_i, oNeg_i, oLt_i, oLe_i, oGt_i, oGe_i, oEq_i, oNe_i, oEq_s, oNe_s, oEq_b, oNe_b, oIs_n, oIsN_n, oIs_b, oIsN_b, isN_int, isN_bl, isN_str, isN_tup, isN_ref, isN_non, bAbs_i, bInt_i, bInt_b, bLen_t, bMax2_i, bMin2_i, bGcd_i, atI_0, List.set_cons_zero, List.set_cons_succ, List.map_cons, List.map_nil, List.cons_append, List.nil_append, List.length_cons, List.length_nil, List.replicate, Bool.not_true, Bool.not_false, decide_true, decide_false, kLst_ok, kTup_ok, Nat.reduceAdd, Nat.reduceLeDiff, Int.reducePow, Int.reduceToNat, Int.reduceMul, Int.reduceAdd, Int.reduceSub, Int.reduceNeg, kBi_ex, kA_ex, kA2_ex, *])

theorem btw_ok (v l u : Int) (ah : AH) : F_is_between [.int v, .int l, .int u] ah = .ok (.bl (decide (l ≤ v) && decide (v ≤ u))) ah := by
  unfold F_is_between m_is_between
  simp only [mFn_eq]
  walk_at "zs"
  simp only [whole_int]
  walk_at "zs"
  by_cases c : l ≤ v
  · simp only [decide_eq_true c, Bool.true_and]; walk_at "zs"
  · simp only [decide_eq_false c, Bool.false_and]; walk_at "zs"
theorem dice_in {d : Int} (h0 : 1 ≤ d) (h1 : d ≤ 2147483562) (ah : AH) : F_is_dice [.int d] ah = .ok (.bl true) ah := by
  unfold F_is_dice m_is_dice
  walk_at "zs"
  simp only [btw_ok, decide_eq_true h0, decide_eq_true h1, Bool.and_self]
  walk_at "zs"
theorem next_dice_ok {d : Int} (h0 : 1 ≤ d) (h1 : d ≤ 2147483562) (ah : AH) : F__next_dice [.int d] ah = .ok (.int (Lz d 1)) ah := by
  unfold F__next_dice m__next_dice
  have w : oMul (.int 40014) (.int d) ah = .ok (.int (40014 * d)) ah := mu (by decide) (by omega)
  walk_at "zs"
  simp only [w]
  walk_at "zs"
  simp only [modP]
  walk_at "zs"
  rw [Lz_1, Int.mul_comm]
theorem law_dice_ok {st : Nat} {h : AH} {r : Rs A} (hr : F__law_dice [.ref st] h = r) (S : Strm h st) : ∃ (d : Int) (h' : AH), r = .ok (.int d) h' ∧ 1 ≤ d ∧ d ≤ 2147483562 ∧ Strm h' st := by
  subst hr
  unfold F__law_dice m__law_dice
  simp only [mFn_eq]
  walk_at "zs"
  generalize hr : F__law_next _ _ = q
  obtain ⟨d1, ah2, rfl, d1a, d1b, S2, _⟩ := next_at hr S (by omega) (by omega)
  clear hr
  walk_at "zs"
  by_cases z : d1 < 2
  · simp only [decide_eq_true z]
    walk_at "zs"
    have : d1 = 0 ∨ d1 = 1 := by omega
    rcases this with rfl | rfl
    · simp only [oIx_l (new_at _ _) (show atI [A.int 1, A.int 2147483562] 0 = some (.int 1) from rfl)]
      walk_at "zs"
      exact ⟨1, _, rfl, by decide, by decide, S2.push _⟩
    · simp only [oIx_l (new_at _ _) (show atI [A.int 1, A.int 2147483562] 1 = some (.int 2147483562) from rfl)]
      walk_at "zs"
      exact ⟨2147483562, _, rfl, by decide, by decide, S2.push _⟩
  · simp only [decide_eq_false z]
    walk_at "zs"
    unfold m__law_dice_r2
    walk_at "zs"
    generalize hr : F__law_next _ _ = q
    obtain ⟨d2, ah3, rfl, d2a, d2b, S3, _⟩ := next_at hr S2 (by omega) (by omega)
    clear hr
    walk_at "zs"
    exact ⟨1 + d2, _, rfl, by omega, by omega, S3⟩
/-! the roll -/
def ro (lim : Int) : Nat → Int → Int
  | 0, d => d
  | k + 1, d => if Lz d 1 ≤ lim then Lz d 1 else ro lim k (Lz d 1)
def wl (lim : Int) : Nat → Int → Int
  | 0, x => x
  | k + 1, x => if lim < x then wl lim k (Lz x 1) else x
theorem ro_wl (lim : Int) : ∀ (k : Nat) (d : Int), ro lim (k + 1) d = wl lim k (Lz d 1)
  | 0, d => by
    rw [ro, wl, ro]; split <;> rfl
  | k + 1, d => by
    rw [ro, wl, ro_wl lim k]
    by_cases c : Lz d 1 ≤ lim
    · rw [if_pos c, if_neg (by omega)]
    · rw [if_neg c, if_pos (by omega)]
theorem ro_in (lim : Int) : ∀ (k : Nat) (d : Int), 1 ≤ d → d ≤ 2147483562 → 1 ≤ ro lim k d ∧ ro lim k d ≤ 2147483562
  | 0, d, a, b => by rw [ro]; exact ⟨a, b⟩
  | k + 1, d, a, b => by
    have := Lz_in 1 a b
    rw [ro]
    split
    · exact this
    · exact ro_in lim k _ this.1 this.2
theorem lim_ok {n : Int} (n0 : 1 ≤ n) (n1 : n ≤ 65536) : 0 ≤ n * (2147483562 / n) ∧ 2147483562 - n * (2147483562 / n) = 2147483562 % n ∧ 0 ≤ 2147483562 % n ∧ 2147483562 % n < n ∧ 0 ≤ 2147483562 / n ∧ 2147483562 / n ≤ 2147483562 := by
  have a := Int.mul_ediv_add_emod 2147483562 n
  have b := Int.emod_nonneg 2147483562 (show n ≠ 0 by omega)
  have c := Int.emod_lt_of_pos 2147483562 (show 0 < n by omega)
  have d : 0 ≤ 2147483562 / n := Int.ediv_nonneg (by decide) (by omega)
  have e : 2147483562 / n ≤ 2147483562 := Int.ediv_le_self n (by decide)
  have f := Int.mul_nonneg (show 0 ≤ n by omega) d
  generalize 2147483562 / n = x at *
  generalize 2147483562 % n = y at *
  generalize n * x = z at *
  omega
theorem divN {n : Int} (n0 : 1 ≤ n) (n1 : n ≤ 65536) (h : AH) : oDiv (.int 2147483562) (.int n) h = .ok (.int (2147483562 / n)) h := by
  rw [oDiv_i (by omega) (by have := log_big (p60 (show n.natAbs < 10 ^ 60 by omega)); omega), Int.fdiv_eq_ediv_of_nonneg _ (by omega)]
theorem mulN {n : Int} (n0 : 1 ≤ n) (n1 : n ≤ 65536) (h : AH) : oMul (.int n) (.int (2147483562 / n)) h = .ok (.int (n * (2147483562 / n))) h := by
  have l := lim_ok n0 n1
  generalize 2147483562 / n = x at *
  exact mu (by omega) (by omega)
theorem roll_loop (lim n : Int) (s0 : Option A) (h : AH) : ∀ (k : Nat) (x dr : Int) (fuel : Nat), dr = 8 - (k : Int) → k < fuel → 1 ≤ x → x ≤ 2147483562 → ∃ y,
    mWhile (mAndT (mTst oGt (mVar 3) (mVar 2)) (mTst oLt (mVar 4) (mC (.int (8))))) (mSeq (mAsg (mBi F__next_dice [(mVar 3)]) (gN 3)) (mAug 4 oIAdd (mC (.int 1)))) fuel [s0, some (.int n), some (.int lim), some (.int x), some (.int dr)] h = .nx [s0, some (.int n), some (.int lim), some (.int (wl lim k x)), y] h
  | k, x, dr, 0, _, hf, _, _ => by omega
  | 0, x, dr, fuel + 1, e, hf, x0, x1 => by
    simp only [wh_eq]
    try walk_at "zs"
    by_cases c : lim < x
    · simp only [decide_eq_true c]
      try walk_at "zs"
      simp only [decide_eq_false (show ¬ dr < 8 by omega)]
      try walk_at "zs"
      simp only [kWh_f, wl]
      exact ⟨_, rfl⟩
    · simp only [decide_eq_false c]
      try walk_at "zs"
      simp only [kWh_f, wl]
      exact ⟨_, rfl⟩
  | k + 1, x, dr, fuel + 1, e, hf, x0, x1 => by
    simp only [wh_eq]
    try walk_at "zs"
    by_cases c : lim < x
    · simp only [decide_eq_true c]
      try walk_at "zs"
      simp only [decide_eq_true (show dr < 8 by omega)]
      try walk_at "zs"
      simp only [kWh_t]
      try walk_at "zs"
      simp only [next_dice_ok x0 x1]
      try walk_at "zs"
      simp only [kWh2_nx]
      rw [wl, if_pos c]
      have := Lz_in 1 x0 x1
      exact roll_loop lim n s0 h k (Lz x 1) (dr + 1) fuel (by omega) (by omega) this.1 this.2
    · simp only [decide_eq_false c]
      try walk_at "zs"
      simp only [kWh_f]
      rw [wl, if_neg c]
      exact ⟨_, rfl⟩
def due (n d : Int) : A := .tup [.int ((ro (n * (2147483562 / n)) 8 d - 1).fmod n), .int (ro (n * (2147483562 / n)) 8 d)]
theorem roll_ok {d n : Int} (d0 : 1 ≤ d) (d1 : d ≤ 2147483562) (n0 : 1 ≤ n) (n1 : n ≤ 65536) (h : AH) : F__roll [.int d, .int n] h = .ok (due n d) h := by
  have l := lim_ok n0 n1
  have q := Lz_in 1 d0 d1
  unfold F__roll m__roll
  simp only [mFn_eq]
  walk_at "zs"
  simp only [divN n0 n1]
  walk_at "zs"
  simp only [mulN n0 n1]
  walk_at "zs"
  simp only [next_dice_ok d0 d1]
  walk_at "zs"
  unfold due
  rw [ro_wl]
  generalize n * (2147483562 / n) = lim at *
  obtain ⟨y, e⟩ := roll_loop lim n (some (.int d)) h 7 (Lz d 1) 1 1000000000000000000 (by decide) (by decide) q.1 q.2
  rw [e]
  unfold m__roll_r4
  walk_at "zs"
  generalize wl lim 7 (Lz d 1) = x at *
  simp only [oMod_i (show n ≠ 0 by omega)]
  walk_at "zs"
theorem lroll_for (lim n : Int) (h : AH) : ∀ (k i : Nat) (d : Int) (s3 : Option A), 1 ≤ d → d ≤ 2147483562 → ∃ y,
    forGo (IT.rng 0 8) (gN 3) (mSeq (mAsg (m2 oMod (mBi bInt [(m2 oMul (mVar 0) (mC (.int 40014)))]) (mC (.int 2147483563))) (gN 0)) (mIf (mTst oLe (mVar 0) (mVar 2)) mBreak mSkip)) k i [some (.int d), some (.int n), some (.int lim), s3] h = .nx [some (.int (ro lim k d)), some (.int n), some (.int lim), y] h
  | 0, i, d, s3, d0, d1 => ⟨s3, by rw [forGo]; dsimp only; rw [if_pos (show (IT.rng 0 8).fin h = true from rfl), ro]⟩
  | k + 1, i, d, s3, d0, d1 => by
    rw [fr_eq (v := .int (0 + (i : Int))) rfl]
    have w : oMul (.int d) (.int 40014) h = .ok (.int (d * 40014)) h := mu (by omega) (by decide)
    have q := Lz_in 1 d0 d1
    walk_at "zs"
    simp only [w]
    walk_at "zs"
    simp only [modP, ← Lz_1]
    walk_at "zs"
    rw [ro]
    by_cases c : Lz d 1 ≤ lim
    · simp only [decide_eq_true c, if_pos c]
      try walk_at "zs"
      simp only [kFr_bk]
      exact ⟨_, rfl⟩
    · simp only [decide_eq_false c, if_neg c]
      try walk_at "zs"
      simp only [kFr_nx]
      exact lroll_for lim n h k (i + 1) (Lz d 1) _ q.1 q.2
theorem mFor_rng {m : ME} {g : MG} {b : MS} {s : SA} {h : AH} {n : Nat} (e : m s h = .ok (.int n) h) (hn : n < 1000000000) : mFor (mRng1 m) g b s h = forGo (IT.rng 0 n) g b n 0 s h := by
  have e1 : mRng1 m s h = .ok (IT.rng 0 n) h := by
    rw [rng_B, rngB_ok _ e (c62 hn), Int.toNat_natCast]
  unfold mFor
  rw [e1]
  exact nr rfl
theorem law_roll_ok {d n : Int} (d0 : 1 ≤ d) (d1 : d ≤ 2147483562) (n0 : 1 ≤ n) (n1 : n ≤ 65536) (h : AH) : F__law_roll [.int d, .int n] h = .ok (due n d) h := by
  unfold F__law_roll m__law_roll
  simp only [mFn_eq]
  walk_at "zs"
  simp only [divN n0 n1]
  walk_at "zs"
  simp only [mulN n0 n1]
  walk_at "zs"
  unfold due
  generalize n * (2147483562 / n) = lim at *
  obtain ⟨y, e⟩ := lroll_for lim n h 8 0 d none d0 d1
  rw [mFor_rng (n := 8) rfl (by decide), e]
  unfold m__law_roll_r2
  walk_at "zs"
  generalize ro lim 8 d = x at *
  simp only [oMod_i (show n ≠ 0 by omega)]
  walk_at "zs"
end ZN

/-! generator expressions reckoned; sums -/
namespace ZP
open PySem PySem.Spec PyProof.Rows L2 Z ZL
section
variable {it : IT} {ga : A → SA → Option SA} {me : ME} {sa s : SA} {h : AH} {d : Bool}
theorem ga_0 {tt : MT} {i : Nat} (hf : it.fin h = true) : gaGo d it ga tt me sa 0 i h = .ok (.bl d) h := by
  rw [gaGo, if_pos hf]
theorem ga_t {k i : Nat} {v : A} {s2 : SA} {h4 : AH} (e1 : it.item i h = some v) (e2 : ga v sa = some s2) (e3 : me s2 h = .ok (.bl d) h4) :
    gaGo d it ga mYes me sa (k + 1) i h = gaGo d it ga mYes me sa k (i + 1) h4 := by
  rw [gaGo]
  simp only [e1, e2, mYes, Rs.bindN, if_true, e3]
theorem ga_f {k i : Nat} {v : A} {s2 : SA} {h4 : AH} (e1 : it.item i h = some v) (e2 : ga v sa = some s2) (e3 : me s2 h = .ok (.bl (!d)) h4) :
    gaGo d it ga mYes me sa (k + 1) i h = .ok (.bl (!d)) h4 := by
  have nd : ¬ (!d) = d := by cases d <;> decide
  rw [gaGo]
  simp only [e1, e2, mYes, Rs.bindN, if_true, e3, if_neg nd]
/-- all elements say d, and an invariant of the heap goes on -/
theorem ga_inv (inv : AH → Prop) {N : Nat} (f : ∀ i h, i < N → inv h → ∃ v s2 h', it.item i h = some v ∧ ga v sa = some s2 ∧ me s2 h = .ok (.bl d) h' ∧ inv h') (hf : ∀ h, it.fin h = true) :
    ∀ (k i : Nat) (h : AH), i + k = N → inv h → ∃ h', gaGo d it ga mYes me sa k i h = .ok (.bl d) h' ∧ inv h'
  | 0, i, h, e, p => ⟨h, ga_0 (hf h), p⟩
  | k + 1, i, h, e, p => by
    obtain ⟨v, s2, h', e1, e2, e3, p'⟩ := f i h (by omega) p
    obtain ⟨h2, a, b⟩ := ga_inv inv f hf k (i + 1) h' (by omega) p'
    exact ⟨h2, by rw [ga_t e1 e2 e3, a], b⟩
theorem ga_all {N : Nat} (f : ∀ i, i < N → ∃ v s2, it.item i h = some v ∧ ga v sa = some s2 ∧ me s2 h = .ok (.bl d) h) (hf : it.fin h = true) :
    ∀ (k i : Nat), i + k = N → gaGo d it ga mYes me sa k i h = .ok (.bl d) h
  | 0, i, e => ga_0 hf
  | k + 1, i, e => by
    obtain ⟨v, s2, e1, e2, e3⟩ := f i (by omega)
    rw [ga_t e1 e2 e3, ga_all f hf k (i + 1) (by omega)]
/-- all(..) over a tuple -/
theorem gx_tup {m : ME} {xs : List A} {i : Nat} {vs : List Nat} (e : m s h = .ok (.tup xs) h) (f : ∀ v ∈ xs, me ((wipeA s vs).set i (some v)) h = .ok (.bl d) h) : mGx d (mItT m) (c1 i) mYes me vs s h = .ok (.bl d) h := by
  have e1 : mGx d (mItT m) (c1 i) mYes me vs s h = gaGo d (IT.tup xs) (c1 i) mYes me (wipeA s vs) xs.length 0 h := by
    unfold mGx mItT
    rw [e]
    exact nr rfl
  rw [e1]
  exact ga_all (N := xs.length) (fun j hj => ⟨xs[j], _, List.getElem?_eq_getElem hj, rfl, f _ (List.getElem_mem hj)⟩) rfl xs.length 0 (by omega)
theorem ntA_map : ∀ ns : List Int, (ns.map A.int).mapM ntA = some ns
  | [] => rfl
  | n :: ns => by
    rw [List.map_cons, List.mapM_cons, ntA_map ns]
    rfl
theorem sum_t (ns : List Int) : bSum [.tup (ns.map .int)] h = .ok (.int ns.sum) h := by
  unfold bSum
  dsimp only
  rw [show sqA h (.tup (ns.map .int)) = some (ns.map .int) from rfl]
  simp only [Option.bind, ntA_map]
theorem sum_l {n : Nat} {ns : List Int} (e : h[n]? = some (.lst (ns.map .int))) : bSum [.ref n] h = .ok (.int ns.sum) h := by
  have e3 : sqA h (.ref n) = some (ns.map .int) := by unfold sqA; simp only [lsA, lsV, e]
  unfold bSum
  dsimp only
  rw [e3]
  simp only [Option.bind, ntA_map]
def trB : A → Option Bool := trA
theorem trA_ints : ∀ ns : List Int, (ns.map A.int).mapM trA = some (ns.map fun i => i != 0)
  | [] => rfl
  | n :: ns => by
    rw [List.map_cons, List.mapM_cons, trA_ints ns]
    rfl
theorem anyT_ints (ns : List Int) : bAny [.tup (ns.map .int)] h = .ok (.bl (ns.any fun i => i != 0)) h := by
  unfold bAny
  dsimp only
  rw [show sqA h (.tup (ns.map .int)) = some (ns.map .int) from rfl]
  simp only [Option.bind, trA_ints, List.any_map, Function.comp_def, id]
theorem int_at {ns : List Int} {i : Nat} (h : i < ns.length) : atI (ns.map A.int) (i : Int) = some (.int ns[i]) := by
  refine atI_n ?_
  rw [List.getElem?_map, List.getElem?_eq_getElem h]; rfl
theorem ix_ok {n o : Nat} (h : o < n) : ixN n (o : Int) = some o := by
  unfold ixN
  rw [if_pos (by omega)]
  simp [h]
theorem ix_ok' {n : Nat} {i : Int} (h0 : 0 ≤ i) (h : i < n) : ixN n i = some i.toNat := by
  rw [show i = (i.toNat : Int) by omega]
  exact ix_ok (by omega)
end
end ZP

/-! checks as functions of their values -/
namespace ZC
open PySem PySem.Spec PyProof.Rows L2 Z ZL ZP ZN
local macro_rules | `(tactic| walk_at "zs") => `(tactic| simp (config := { decide := false }) only [m1_eq, k1_ok, m2_eq, k2_ok, k2'_ok, mVar0, mVarS, mC_eq, mTst_eq, mTru_eq, kTru_ok, tru_bl, tru_int, tru_non, tru_tup, mAndT_eq, kAndT_t, kAndT_f, mOrT_eq, kOrT_t, kOrT_f, mNotT_eq, kNotT_ok, mChain_eq, kC1_ok, kC2_ok, kC3_t, kC3_f, kC4_ok, mB_eq, kB_ok, mAnd_eq, kAnd_ok, kAnd2_t, kAnd2_f, mOr_eq, kOr_ok, kOr2_t, kOr2_f, mNot_eq, kNot_ok, kNot2_ok, mIfE_eq, kIfE_t, kIfE_f, mArgs_nil, mArgs_cons, kA_ok, kA2_ok, mBi_eq, kBi_ok, mTup_eq, mLst_eq, mIsi_eq, kIsi_int, kIsi_bl, kIsi_str, kIsi_non, kIsi_tup, kIsi2_ok, kb_ii, kb_ib, kb_is, kb_it, kb_il, kb_bi, kb_bb, kb_bs, kb_bt, kb_bl, kb_si, kb_sb, kb_ss, kb_st, kb_sl, kb_ni, kb_nb, kb_ns, kb_nt, kb_nl, kb_ti, kb_tb, kb_ts, kb_tt, kb_tl, kb_li, kb_lb, kb_ls, kb_lt, kb_ll, mSeq_eq, kSeq_nx, kSeq_rt, kSeq_bk, kSeq_ct, kSeq_ex, mIf_eq, kIf_t, kIf_f, kIf_ex, mAsg_eq, kAsg_ok, kAsg_ex, gN_eq, gSb_eq, kSb_ok, kSb2_ok, gsNil_eq, gsCons_eq, mSkip_eq, mBreak_eq, mCont_eq, mExpr_eq, kExpr_ok, kExpr_ex, mRet_eq, kRet_ok, kRet_ex, mRetN_eq, mPar_eq, kPar_ok, mAug_eq, kAug0_ok, kAug_ok, kAug2_ok, mRaise_eq, kRaise_ok, mFn_eq, kFn_nx, kFn_rt, kFn_ex, oAdd_i, oIAdd_i, oSub_i, oNeg_i, oLt_i, oLe_i, oGt_i, oGe_i, oEq_i, oNe_i, oEq_s, oNe_s, oEq_b, oNe_b, oIs_n, oIsN_n, oIs_b, oIsN_b, isN_int, isN_bl, isN_str, isN_tup, isN_ref, isN_non, bAbs_i, bInt_i, bInt_b, bLen_t, bMax2_i, bMin2_i, bGcd_i, atI_0, List.set_cons_zero, List.set_cons_succ, List.map_cons, List.map_nil, List.cons_append, List.nil_append, List.length_cons, List.length_nil, List.replicate, Bool.not_true, Bool.not_false, decide_true, decide_false, kLst_ok, kTup_ok, Nat.reduceAdd, Nat.reduceLeDiff, Int.reducePow, Int.reduceToNat, Int.reduceMul, Int.reduceAdd, Int.reduceSub, Int.reduceNeg, kBi_ex, kA_ex, kA2_ex])
local macro_rules | `(tactic| walk_at "za") => `(tactic| simp (config := { decide := false }) only [m1_eq, k1_ok, m2_eq, k2_ok, k2'_ok, mVar0, mVarS, mC_eq, mTst_eq, mTru_eq, kTru_ok, tru_bl, tru_int, tru_non, tru_tup, mAndT_eq, kAndT_t, kAndT_f, mOrT_eq, kOrT_t, kOrT_f, mNotT_eq, kNotT_ok, mChain_eq, kC1_ok, kC2_ok, kC3_t, kC3_f, kC4_ok, mB_eq, kB_ok, mAnd_eq, kAnd_ok, kAnd2_t, kAnd2_f, mOr_eq, kOr_ok, kOr2_t, kOr2_f, mNot_eq, kNot_ok, kNot2_ok, mIfE_eq, kIfE_t, kIfE_f, mArgs_nil, mArgs_cons, kA_ok, kA2_ok, mBi_eq, kBi_ok, mTup_eq, mLst_eq, mIsi_eq, kIsi_int, kIsi_bl, kIsi_str, kIsi_non, kIsi_tup, kIsi2_ok, kb_ii, kb_ib, kb_is, kb_it, kb_il, kb_bi, kb_bb, kb_bs, kb_bt, kb_bl, kb_si, kb_sb, kb_ss, kb_st, kb_sl, kb_ni, kb_nb, kb_ns, kb_nt, kb_nl, kb_ti, kb_tb, kb_ts, kb_tt, kb_tl, kb_li, kb_lb, kb_ls, kb_lt, kb_ll, mSeq_eq, kSeq_nx, kSeq_rt, kSeq_bk, kSeq_ct, kSeq_ex, mIf_eq, kIf_t, kIf_f, kIf_ex, mAsg_eq, kAsg_ok, kAsg_ex, gN_eq, gSb_eq, kSb_ok, kSb2_ok, gsNil_eq, gsCons_eq, mSkip_eq, mBreak_eq, mCont_eq, mExpr_eq, kExpr_ok, kExpr_ex, mRet_eq, kRet_ok, kRet_ex, mRetN_eq, mPar_eq, kPar_ok, mAug_eq, kAug0_ok, kAug_ok, kAug2_ok, mRaise_eq, kRaise_ok, mFn_eq, kFn_nx, kFn_rt, kFn_ex, oAdd_i, oIAdd_i, oSub_i, oNeg_i, oLt_i, oLe_i, oGt_i, oGe_i, oEq_i, oNe_i, oEq_s, oNe_s, oEq_b, oNe_b, oIs_n, oIsN_n, oIs_b, oIsN_b, isN_int, isN_bl, isN_str, isN_tup, isN_ref, isN_non, bAbs_i, bInt_i, bInt_b, bLen_t, bMax2_i, bMin2_i, bGcd_i, atI_0, List.set_cons_zero, List.set_cons_succ, List.map_cons, List.map_nil, List.cons_append, List.nil_append, List.length_cons, List.length_nil, List.replicate, Bool.not_true, Bool.not_false, decide_true, decide_false, kLst_ok, kTup_ok, Nat.reduceAdd, Nat.reduceLeDiff, Int.reducePow, Int.reduceToNat, Int.reduceMul, Int.reduceAdd, Int.reduceSub, Int.reduceNeg, kBi_ex, kA_ex, kA2_ex, *])


def plain : A → Bool
  | .non => true | .bl _ => true | .int _ => true | .str _ => true | .tup _ => true | _ => false
def isI : A → Bool
  | .int _ => true | _ => false
def btw (v : A) (l u : Int) : Bool := match v with
  | .int i => decide (l ≤ i) && decide (i ≤ u)
  | _ => false
section
variable {h : AH} {v w p c n x y ht m px py cx cy : A}
theorem whole_any (q : plain v = true) : F_is_whole [v] h = .ok (.bl (isI v)) h := by
  cases v with
  | int i => exact whole_int i h
  | ref n => cases q
  | fro xs => cases q
  | fn x => cases q
  | _ =>
    unfold F_is_whole m_is_whole
    walk_at "zs"
    rfl
theorem btw_any {l u : Int} (q : plain v = true) : F_is_between [v, .int l, .int u] h = .ok (.bl (btw v l u)) h := by
  cases v with
  | int i => exact btw_ok i l u h
  | ref n => cases q
  | fro xs => cases q
  | fn x => cases q
  | _ =>
    unfold F_is_between m_is_between
    walk_at "zs"
    rw [whole_any rfl]
    unfold isI btw
    walk_at "zs"
theorem coord_any (q : plain v = true) : F_is_coordinate [v] h = .ok (.bl (btw v (-20000) 20000)) h := by
  unfold F_is_coordinate m_is_coordinate
  walk_at "zs"
  rw [btw_any q]
  walk_at "zs"
def rangeB (v w : A) : Bool := btw v (-20000) 20000 && (btw w 1 200 && (match v, w with
  | .int x, .int s => btw (.int (x + s)) (-20000) 20000
  | _, _ => false))
theorem range_any (q : plain v = true) (q2 : plain w = true) : F__is_range [v, w] h = .ok (.bl (rangeB v w)) h := by
  unfold F__is_range m__is_range rangeB
  walk_at "zs"
  rw [coord_any q]
  walk_at "zs"
  cases e : btw v (-20000) 20000 with
  | false => walk_at "zs"; rfl
  | true =>
    walk_at "zs"
    rw [btw_any q2]
    walk_at "zs"
    cases e2 : btw w 1 200 with
    | false => walk_at "zs"; rfl
    | true =>
      cases v with
      | int x =>
        cases w with
        | int s =>
          walk_at "zs"
          rw [coord_any rfl]
          walk_at "zs"
          rfl
        | _ => cases e2
      | _ => cases e
def motB (p c : A) (i : Int) : Bool := if i = 0 then btw p 0 0 && btw c 0 0 else isI p && btw c 0 (i - 1)
theorem mot_any {i : Int} (q : plain p = true) (q2 : plain c = true) : F__is_motion [p, c, .int i] h = .ok (.bl (motB p c i)) h := by
  unfold F__is_motion m__is_motion motB
  walk_at "zs"
  by_cases z : i = 0
  · subst z
    simp only [decide_eq_true (show (0 : Int) = 0 from rfl)]
    walk_at "zs"
    rw [btw_any q]
    walk_at "zs"
    cases e : btw p 0 0 with
    | false => walk_at "zs"; rfl
    | true =>
      walk_at "zs"
      rw [btw_any q2]
      walk_at "zs"
      rfl
  · simp only [decide_eq_false z]
    walk_at "zs"
    unfold m__is_motion_r1
    walk_at "zs"
    rw [whole_any q, if_neg z]
    walk_at "zs"
    cases e : isI p with
    | false => walk_at "zs"; rfl
    | true =>
      walk_at "zs"
      rw [btw_any q2]
      walk_at "zs"
      rfl
def bodyB (b : Bool) (x y w ht m px py cx cy : A) : Bool := b && (rangeB x w && (rangeB y ht && (match m with
  | .int i => (decide (0 ≤ i) && decide (i ≤ 100)) && (motB px cx i && motB py cy i)
  | _ => false)))
theorem body_any {b : Bool} (hn : ∀ h, F_is_name [n] h = .ok (.bl b) h) (q1 : plain x = true) (q2 : plain y = true) (q3 : plain w = true) (q4 : plain ht = true) (q5 : plain m = true) (q6 : plain px = true) (q7 : plain py = true) (q8 : plain cx = true) (q9 : plain cy = true) :
    F_is_body [.tup [n, x, y, w, ht, m, px, py, cx, cy]] h = .ok (.bl (bodyB b x y w ht m px py cx cy)) h := by
  unfold F_is_body m_is_body
  walk_at "zs"
  simp only [show decide (((10 : Nat) : Int) = 10) = true from rfl]
  walk_at "zs"
  unfold m_is_body_r1
  try walk_at "zs"
  rw [gTp_ok (show [n, x, y, w, ht, m, px, py, cx, cy].length = 10 from rfl)]
  walk_at "zs"
  rw [hn]
  walk_at "zs"
  unfold bodyB
  cases b with
  | false => walk_at "zs"; rfl
  | true =>
    walk_at "zs"
    rw [range_any q1 q3]
    walk_at "zs"
    cases e1 : rangeB x w with
    | false => walk_at "zs"; rfl
    | true =>
      walk_at "zs"
      rw [range_any q2 q4]
      walk_at "zs"
      cases e2 : rangeB y ht with
      | false => walk_at "zs"; rfl
      | true =>
        walk_at "zs"
        rw [btw_any q5]
        walk_at "zs"
        cases m with
        | int i =>
          cases e3 : btw (.int i) 0 100 with
          | false =>
            walk_at "zs"
            have e3 : (decide (0 ≤ i) && decide (i ≤ 100)) = _ := e3
            rw [e3]; rfl
          | true =>
            walk_at "zs"
            rw [mot_any q6 q8]
            have e3 : (decide (0 ≤ i) && decide (i ≤ 100)) = _ := e3
            rw [e3]
            walk_at "zs"
            cases e4 : motB px cx i with
            | false => walk_at "zs"; rfl
            | true =>
              walk_at "zs"
              rw [mot_any q7 q9]
              walk_at "zs"
              rfl
        | ref n => cases q5
        | fro xs => cases q5
        | fn x => cases q5
        | _ => unfold btw; walk_at "zs"; rfl
theorem body_len {xs : List A} (hl : xs.length ≠ 10) : F_is_body [.tup xs] h = .ok (.bl false) h := by
  unfold F_is_body m_is_body
  walk_at "zs"
  simp only [decide_eq_false (show ¬ ((xs.length : Nat) : Int) = 10 by omega)]
  walk_at "zs"
theorem body_non : F_is_body [.non] h = .ok (.bl false) h := by
  unfold F_is_body m_is_body
  walk_at "zs"
theorem body_lst {k : Nat} {xs : List A} (e : h[k]? = some (.lst xs)) : F_is_body [.ref k] h = .ok (.bl false) h := by
  unfold F_is_body m_is_body
  walk_at "zs"
  rw [kIsi_lst e]
  walk_at "zs"
end
set_option maxHeartbeats 0
theorem name_a (h : AH) : F_is_name [.str "a"] h = .ok (.bl true) h := by kernel_rfl
theorem name_z9 (h : AH) : F_is_name [.str "z9"] h = .ok (.bl true) h := by kernel_rfl
theorem name_ab (h : AH) : F_is_name [.str "abcdefghijkl"] h = .ok (.bl true) h := by kernel_rfl
theorem name_e (h : AH) : F_is_name [.str ""] h = .ok (.bl false) h := by kernel_rfl
theorem name_A (h : AH) : F_is_name [.str "A"] h = .ok (.bl false) h := by kernel_rfl
theorem name_1a (h : AH) : F_is_name [.str "1a"] h = .ok (.bl false) h := by kernel_rfl
theorem name_ab2 (h : AH) : F_is_name [.str "a b"] h = .ok (.bl false) h := by kernel_rfl
theorem name_13 (h : AH) : F_is_name [.str "aaaaaaaaaaaaa"] h = .ok (.bl false) h := by kernel_rfl
theorem name_n (h : AH) : F_is_name [.non] h = .ok (.bl false) h := by kernel_rfl
end ZC

/-! slices, try, picks -/
namespace Z
open PySem PySem.Spec PyProof.Rows L2
section
variable {m : ME} {lo hi : MO} {s s' : SA} {h h' : AH} {v : A} {l u : Option Int} {xs ys : List A} {i : Nat} {mb : MS} {c0 : Str} {ps : List Str} {sf : SF} {fs : List (Str × A)}
def kSl3 (v : A) (l : Option Int) (r : Rs (Option Int)) : Rs A := r.bind fun u h3 => oSl v l u h3
def kSl2 (v : A) (hi : MO) (s : SA) (r : Rs (Option Int)) : Rs A := r.bind fun l h2 => (hi s h2).bind fun u h3 => oSl v l u h3
def kSl1 (lo hi : MO) (s : SA) (r : Rs A) : Rs A := r.bind fun v h1 => (lo s h1).bind fun l h2 => (hi s h2).bind fun u h3 => oSl v l u h3
theorem mSl_eq : mSl m lo hi s h = kSl1 lo hi s (m s h) := nr rfl
theorem kSl1_ok : kSl1 lo hi s (.ok v h) = kSl2 v hi s (lo s h) := nr rfl
theorem kSl2_ok : kSl2 v hi s (.ok l h) = kSl3 v l (hi s h) := nr rfl
theorem kSl3_ok : kSl3 v l (.ok u h) = oSl v l u h := nr rfl
theorem oNone_eq : oNone s h = .ok none h := nr rfl
def kOS (r : Rs A) : Rs (Option Int) := r.bind fun v h1 => match v with
  | .int i => .ok (some i) h1
  | _ => .no
theorem oSome_eq : oSome m s h = kOS (m s h) := nr rfl
theorem kOS_ok {i : Int} : kOS (.ok (.int i) h) = .ok (some i) h := nr rfl
theorem oSl_t : oSl (.tup xs) l u h = .ok (.tup (cutL xs l u)) h := nr rfl
theorem cut_take {k : Nat} (hk : k ≤ xs.length) : cutL xs none (some (k : Int)) = xs.take k := by
  unfold cutL
  rw [HT.sIx_none, HT.sIx_nat, List.drop_zero, Nat.sub_zero, Nat.min_eq_left hk]
theorem cut_drop {k : Nat} (hk : k ≤ xs.length) : cutL xs (some (k : Int)) none = xs.drop k := by
  unfold cutL
  rw [HT.sIx_none, HT.sIx_nat, Nat.min_eq_left hk]
  exact List.take_of_length_le (by simp)
theorem oAdd_t (c : xs.length + ys.length ≤ 1000) : oAdd (.tup xs) (.tup ys) h = .ok (.tup (xs ++ ys)) h := if_pos (by rw [sizeLine_eq]; omega)
theorem oAdd_l {a b : Nat} (e1 : h[a]? = some (.lst xs)) (e2 : h[b]? = some (.lst ys)) (c : xs.length + ys.length ≤ 1000) : oAdd (.ref a) (.ref b) h = .ok (.ref h.length) (h ++ [.lst (xs ++ ys)]) := by
  simp only [oAdd, e1, e2]
  rw [if_pos (by rw [sizeLine_eq]; omega)]
theorem mTry_eq : mTry i mb c0 ps sf s h = kTry i c0 ps sf (mb s h) := by
  unfold mTry kTry
  cases mb s h <;> rfl
theorem kTry_nx : kTry i c0 ps sf (.nx s h) = .nx s h := nr rfl
theorem kTry_rt : kTry i c0 ps sf (.rt v h) = .rt v h := nr rfl
theorem kTry_ex (hi : i < s.length) : kTry i c0 ps sf (.ex ⟨c0, fs⟩ s h) = sfR fs h sf := by
  unfold kTry
  dsimp only
  rw [if_pos rfl, if_pos hi]
theorem mApp_ok {m n : ME} {k : Nat} {y : A} {h1 h2 : AH} {zs : List A} (e1 : m s h = .ok (.ref k) h1) (e2 : h1[k]? = some (.lst zs)) (e3 : n s h1 = .ok y h2) (e4 : h2[k]? = some (.lst xs)) (c : xs.length < 1000) : mApp m n s h = .ok .non (h2.set k (.lst (xs ++ [y]))) := by
  unfold mApp
  rw [e1]
  dsimp only [Rs.bind]
  simp only [lsA, e2]
  rw [e3]
  dsimp only [Rs.bind]
  simp only [e4]
  rw [if_pos (by rw [sizeLine_eq]; omega)]
end
end Z
namespace ZP
open PySem PySem.Spec PyProof.Rows L2 Z ZL
/-- an item of a list that stands, drawn -/
theorem pick_in {ah : AH} {n k : Nat} {m : Int} {xs : List A} {r : Rs A} (hr : k2' oIx (.ref k) (F__law_next [.ref n, .int m] ah) = r) (S : Strm ah n) (hk : ah[k]? = some (.lst xs)) (hne : k ≠ n) (h : (xs.length : Int) = m) (h0 : 0 < m) (hm : m < 10 ^ 100) :
    ∃ v ah', r = .ok v ah' ∧ v ∈ xs ∧ Strm ah' n ∧ Fr [n] ah ah' := by
  obtain ⟨d, o, e, h1, h2, S2⟩ := next_ok S h0 (lt400' h0 hm)
  obtain ⟨v, e2, mv⟩ := pick_ok (xs := xs) h1 (by omega)
  refine ⟨v, _, hr.symm.trans ?_, mv, S2, Fr.set (List.mem_singleton.mpr rfl)⟩
  rw [e, k2'_ok]
  exact oIx_l (by rw [List.getElem?_set_ne (fun q => hne q.symm)]; exact hk) e2
end ZP

/-! drawn bodies -/
namespace ZK
open PySem PySem.Spec PyProof.Rows L2 Z ZL ZP ZN ZC
local macro_rules | `(tactic| walk_at "zs") => `(tactic| simp (config := { decide := false }) only [m1_eq, k1_ok, m2_eq, k2_ok, k2'_ok, mVar0, mVarS, mC_eq, mTst_eq, mTru_eq, kTru_ok, tru_bl, tru_int, tru_non, tru_tup, mAndT_eq, kAndT_t, kAndT_f, mOrT_eq, kOrT_t, kOrT_f, mNotT_eq, kNotT_ok, mChain_eq, kC1_ok, kC2_ok, kC3_t, kC3_f, kC4_ok, mB_eq, kB_ok, mAnd_eq, kAnd_ok, kAnd2_t, kAnd2_f, mOr_eq, kOr_ok, kOr2_t, kOr2_f, mNot_eq, kNot_ok, kNot2_ok, mIfE_eq, kIfE_t, kIfE_f, mArgs_nil, mArgs_cons, kA_ok, kA2_ok, mBi_eq, kBi_ok, mTup_eq, mLst_eq, mIsi_eq, kIsi_int, kIsi_bl, kIsi_str, kIsi_non, kIsi_tup, kIsi2_ok, kb_ii, kb_ib, kb_is, kb_it, kb_il, kb_bi, kb_bb, kb_bs, kb_bt, kb_bl, kb_si, kb_sb, kb_ss, kb_st, kb_sl, kb_ni, kb_nb, kb_ns, kb_nt, kb_nl, kb_ti, kb_tb, kb_ts, kb_tt, kb_tl, kb_li, kb_lb, kb_ls, kb_lt, kb_ll, mSeq_eq, kSeq_nx, kSeq_rt, kSeq_bk, kSeq_ct, kSeq_ex, mIf_eq, kIf_t, kIf_f, kIf_ex, mAsg_eq, kAsg_ok, kAsg_ex, gN_eq, gSb_eq, kSb_ok, kSb2_ok, gsNil_eq, gsCons_eq, mSkip_eq, mBreak_eq, mCont_eq, mExpr_eq, kExpr_ok, kExpr_ex, mRet_eq, kRet_ok, kRet_ex, mRetN_eq, mPar_eq, kPar_ok, mAug_eq, kAug0_ok, kAug_ok, kAug2_ok, mRaise_eq, kRaise_ok, mFn_eq, kFn_nx, kFn_rt, kFn_ex, oAdd_i, oIAdd_i, oSub_i, oNeg_i, oLt_i, oLe_i, oGt_i, oGe_i, oEq_i, oNe_i, oEq_s, oNe_s, oEq_b, oNe_b, oIs_n, oIsN_n, oIs_b, oIsN_b, isN_int, isN_bl, isN_str, isN_tup, isN_ref, isN_non, bAbs_i, bInt_i, bInt_b, bLen_t, bMax2_i, bMin2_i, bGcd_i, atI_0, List.set_cons_zero, List.set_cons_succ, List.map_cons, List.map_nil, List.cons_append, List.nil_append, List.length_cons, List.length_nil, List.replicate, Bool.not_true, Bool.not_false, decide_true, decide_false, kLst_ok, kTup_ok, Nat.reduceAdd, Nat.reduceLeDiff, Int.reducePow, Int.reduceToNat, Int.reduceMul, Int.reduceAdd, Int.reduceSub, Int.reduceNeg, kBi_ex, kA_ex, kA2_ex, mSl_eq, kSl1_ok, kSl2_ok, kSl3_ok, oNone_eq, oSome_eq, kOS_ok, oSl_t, mTry_eq, kTry_nx, kTry_rt, kRaise_ok, kExpr_ex, kSeq_ex, kRet_ex])
local macro_rules | `(tactic| walk_at "za") => `(tactic| simp (config := { decide := false }) only [m1_eq, k1_ok, m2_eq, k2_ok, k2'_ok, mVar0, mVarS, mC_eq, mTst_eq, mTru_eq, kTru_ok, tru_bl, tru_int, tru_non, tru_tup, mAndT_eq, kAndT_t, kAndT_f, mOrT_eq, kOrT_t, kOrT_f, mNotT_eq, kNotT_ok, mChain_eq, kC1_ok, kC2_ok, kC3_t, kC3_f, kC4_ok, mB_eq, kB_ok, mAnd_eq, kAnd_ok, kAnd2_t, kAnd2_f, mOr_eq, kOr_ok, kOr2_t, kOr2_f, mNot_eq, kNot_ok, kNot2_ok, mIfE_eq, kIfE_t, kIfE_f, mArgs_nil, mArgs_cons, kA_ok, kA2_ok, mBi_eq, kBi_ok, mTup_eq, mLst_eq, mIsi_eq, kIsi_int, kIsi_bl, kIsi_str, kIsi_non, kIsi_tup, kIsi2_ok, kb_ii, kb_ib, kb_is, kb_it, kb_il, kb_bi, kb_bb, kb_bs, kb_bt, kb_bl, kb_si, kb_sb, kb_ss, kb_st, kb_sl, kb_ni, kb_nb, kb_ns, kb_nt, kb_nl, kb_ti, kb_tb, kb_ts, kb_tt, kb_tl, kb_li, kb_lb, kb_ls, kb_lt, kb_ll, mSeq_eq, kSeq_nx, kSeq_rt, kSeq_bk, kSeq_ct, kSeq_ex, mIf_eq, kIf_t, kIf_f, kIf_ex, mAsg_eq, kAsg_ok, kAsg_ex, gN_eq, gSb_eq, kSb_ok, kSb2_ok, gsNil_eq, gsCons_eq, mSkip_eq, mBreak_eq, mCont_eq, mExpr_eq, kExpr_ok, kExpr_ex, mRet_eq, kRet_ok, kRet_ex, mRetN_eq, mPar_eq, kPar_ok, mAug_eq, kAug0_ok, kAug_ok, kAug2_ok, mRaise_eq, kRaise_ok, mFn_eq, kFn_nx, kFn_rt, kFn_ex, oAdd_i, oIAdd_i, oSub_i, oNeg_i, oLt_i, oLe_i, oGt_i, oGe_i, oEq_i, oNe_i, oEq_s, oNe_s, oEq_b, oNe_b, oIs_n, oIsN_n, oIs_b, oIsN_b, isN_int, isN_bl, isN_str, isN_tup, isN_ref, isN_non, bAbs_i, bInt_i, bInt_b, bLen_t, bMax2_i, bMin2_i, bGcd_i, atI_0, List.set_cons_zero, List.set_cons_succ, List.map_cons, List.map_nil, List.cons_append, List.nil_append, List.length_cons, List.length_nil, List.replicate, Bool.not_true, Bool.not_false, decide_true, decide_false, kLst_ok, kTup_ok, Nat.reduceAdd, Nat.reduceLeDiff, Int.reducePow, Int.reduceToNat, Int.reduceMul, Int.reduceAdd, Int.reduceSub, Int.reduceNeg, kBi_ex, kA_ex, kA2_ex, mSl_eq, kSl1_ok, kSl2_ok, kSl3_ok, oNone_eq, oSome_eq, kOS_ok, oSl_t, mTry_eq, kTry_nx, kTry_rt, kRaise_ok, kExpr_ex, kSeq_ex, kRet_ex, *])


structure BodyIn (b0 b1 x y w ht m px py cx cy : Int) : Prop where
  x0 : b0 ≤ x
  x1 : x < b0 + 90
  y0 : b1 ≤ y
  y1 : y < b1 + 40
  w0 : 1 ≤ w
  w1 : w ≤ 20
  h0 : 1 ≤ ht
  h1 : ht ≤ 20
  m0 : 0 ≤ m
  m1 : m ≤ 100
  z : m = 0 → px = 0 ∧ py = 0 ∧ cx = 0 ∧ cy = 0
  c : 0 < m → 0 ≤ cx ∧ cx < m ∧ 0 ≤ cy ∧ cy < m
  p : -(45 * m) ≤ px ∧ px ≤ 45 * m ∧ -(45 * m) ≤ py ∧ py ≤ 45 * m
theorem lbody_tail {st : Nat} {b0 b1 m px py cx cy : Int} {nm : A} {s10 : Option A} {h : AH} {r : Rs A} (hr : kFn (m__law_body_r6 [some (.ref st), some nm, some (.tup [.int b0, .int b1]), some (.int m), some (.int px), some (.int py), some (.int cx), some (.int cy), none, none, s10] h) = r) (S : Strm h st) :
    ∃ (x y w ht : Int) (h' : AH), r = .ok (.tup [nm, .int x, .int y, .int w, .int ht, .int m, .int px, .int py, .int cx, .int cy]) h' ∧ Strm h' st ∧ Fr [st] h h' ∧ (b0 ≤ x ∧ x < b0 + 90 ∧ b1 ≤ y ∧ y < b1 + 40) ∧ (1 ≤ w ∧ w ≤ 20) ∧ (1 ≤ ht ∧ ht ≤ 20) := by
  subst hr
  unfold m__law_body_r6
  walk_at "zs"
  have g0 : atI [A.int b0, A.int b1] 0 = some (.int b0) := rfl
  have g1 : atI [A.int b0, A.int b1] 1 = some (.int b1) := rfl
  simp only [oIx_t g0]
  walk_at "zs"
  generalize hr : F__law_next _ _ = q
  obtain ⟨x1, h1, rfl, x1a, x1b, S1, f1⟩ := next_at hr S (by omega) (by omega)
  clear hr
  walk_at "zs"
  simp only [oIx_t g1]
  walk_at "zs"
  generalize hr : F__law_next _ _ = q
  obtain ⟨x2, h2, rfl, x2a, x2b, S2, f2⟩ := next_at hr S1 (by omega) (by omega)
  clear hr
  walk_at "zs"
  generalize hr : F__law_next _ _ = q
  obtain ⟨x3, h3, rfl, x3a, x3b, S3, f3⟩ := next_at hr S2 (by omega) (by omega)
  clear hr
  walk_at "zs"
  generalize hr : F__law_next _ _ = q
  obtain ⟨x4, h4, rfl, x4a, x4b, S4, f4⟩ := next_at hr S3 (by omega) (by omega)
  clear hr
  walk_at "zs"
  exact ⟨_, _, _, _, _, rfl, S4, ((f1.trans f2).trans f3).trans f4, ⟨by omega, by omega, by omega, by omega⟩, ⟨by omega, by omega⟩, ⟨by omega, by omega⟩⟩
theorem lbody_ok {st : Nat} {b0 b1 : Int} {nm : A} {h : AH} {r : Rs A} (hr : F__law_body [.ref st, nm, .tup [.int b0, .int b1]] h = r) (S : Strm h st) :
    ∃ (x y w ht m px py cx cy : Int) (h' : AH), r = .ok (.tup [nm, .int x, .int y, .int w, .int ht, .int m, .int px, .int py, .int cx, .int cy]) h' ∧ Strm h' st ∧ Fr [st] h h' ∧ BodyIn b0 b1 x y w ht m px py cx cy := by
  subst hr
  unfold F__law_body m__law_body
  simp only [mFn_eq]
  walk_at "zs"
  generalize hr : k2' oIx _ (F__law_next _ _) = q
  obtain ⟨mv, h1, rfl, mm, S1, f1⟩ := pick_at hr S rfl (by decide) (by decide)
  clear hr
  have f1' : Fr [st] h h1 := f1
  obtain ⟨m, rfl, m0, m1⟩ : ∃ m : Int, mv = .int m ∧ 0 ≤ m ∧ m ≤ 100 := by
    simp only [List.mem_cons, List.not_mem_nil, or_false] at mm
    rcases mm with rfl | rfl | rfl | rfl | rfl | rfl | rfl | rfl <;> exact ⟨_, rfl, by decide, by decide⟩
  clear mm
  walk_at "zs"
  by_cases z : 0 < m
  · simp only [decide_eq_true z]
    walk_at "zs"
    generalize hr : k2' oIx _ (F__law_next _ _) = q
    obtain ⟨fv, h2, rfl, fm, S2, f2⟩ := pick_at hr S1 rfl (by decide) (by decide)
    clear hr
    obtain ⟨f, rfl, fa, fb⟩ : ∃ m : Int, fv = .int m ∧ 3 ≤ m ∧ m ≤ 45 := by
      simp only [List.mem_cons, List.not_mem_nil, or_false] at fm
      rcases fm with rfl | rfl | rfl | rfl <;> exact ⟨_, rfl, by decide, by decide⟩
    clear fm
    have k1 : 3 * m ≤ f * m := Int.mul_le_mul_of_nonneg_right fa m0
    have k2 : f * m ≤ 45 * m := Int.mul_le_mul_of_nonneg_right fb m0
    have k3 : 2 * f * m = 2 * (f * m) := Int.mul_assoc _ _ _
    have w1 : ∀ h, oMul (.int 2) (.int f) h = .ok (.int (2 * f)) h := fun h => mu (by decide) (by omega)
    have w2 : ∀ h, oMul (.int (2 * f)) (.int m) h = .ok (.int (2 * (f * m))) h := fun h => by rw [mu (by omega) (by omega), k3]
    have w3 : ∀ h, oMul (.int f) (.int m) h = .ok (.int (f * m)) h := fun h => mu (by omega) (by omega)
    generalize f * m = fm at *
    walk_at "zs"
    rw [w1]
    walk_at "zs"
    rw [w2]
    walk_at "zs"
    generalize hr : F__law_next _ _ = q
    obtain ⟨x1, h3, rfl, x1a, x1b, S3, f3⟩ := next_at hr S2 (by omega) (by omega)
    clear hr
    walk_at "zs"
    rw [w3]
    walk_at "zs"
    rw [w1]
    walk_at "zs"
    rw [w2]
    walk_at "zs"
    generalize hr : F__law_next _ _ = q
    obtain ⟨x2, h4, rfl, x2a, x2b, S4, f4⟩ := next_at hr S3 (by omega) (by omega)
    clear hr
    walk_at "zs"
    rw [w3]
    walk_at "zs"
    generalize hr : F__law_next _ _ = q
    obtain ⟨x3, h5, rfl, x3a, x3b, S5, f5⟩ := next_at hr S4 (by omega) (by omega)
    clear hr
    walk_at "zs"
    have w4 : oMul (.int (x2 - fm)) (.int x3) h5 = .ok (.int ((x2 - fm) * x3)) h5 := mu (by omega) (by omega)
    rw [w4]
    have k4 : -(45 * m) ≤ (x2 - fm) * x3 ∧ (x2 - fm) * x3 ≤ 45 * m := by
      have : x3 = 0 ∨ x3 = 1 := by omega
      rcases this with rfl | rfl
      · rw [Int.mul_zero]; omega
      · rw [Int.mul_one]; omega
    generalize (x2 - fm) * x3 = py at *
    walk_at "zs"
    generalize hr : F__law_next _ _ = q
    obtain ⟨x4, h6, rfl, x4a, x4b, S6, f6⟩ := next_at hr S5 z (by omega)
    clear hr
    walk_at "zs"
    generalize hr : F__law_next _ _ = q
    obtain ⟨x5, h7, rfl, x5a, x5b, S7, f7⟩ := next_at hr S6 z (by omega)
    clear hr
    walk_at "zs"
    generalize hr : kFn _ = q
    obtain ⟨x, y, w, ht, h8, rfl, S8, f8, ⟨e1, e2, e3, e4⟩, ⟨e5, e6⟩, ⟨e7, e8⟩⟩ := lbody_tail hr S7
    exact ⟨x, y, w, ht, m, _, _, _, _, h8, rfl, S8, (((((((f1'.trans f2).trans f3).trans f4).trans f5).trans f6).trans f7).trans f8), ⟨e1, e2, e3, e4, e5, e6, e7, e8, m0, m1, fun q => by omega, fun _ => ⟨x4a, x4b, x5a, x5b⟩, ⟨by omega, by omega, k4.1, k4.2⟩⟩⟩
  · simp only [decide_eq_false z]
    walk_at "zs"
    obtain rfl : m = 0 := by omega
    generalize hr : kFn _ = q
    obtain ⟨x, y, w, ht, h8, rfl, S8, f8, ⟨e1, e2, e3, e4⟩, ⟨e5, e6⟩, ⟨e7, e8⟩⟩ := lbody_tail hr S1
    exact ⟨x, y, w, ht, 0, 0, 0, 0, 0, h8, rfl, S8, f1'.trans f8, ⟨e1, e2, e3, e4, e5, e6, e7, e8, m0, m1, fun _ => ⟨rfl, rfl, rfl, rfl⟩, fun q => by omega, ⟨by omega, by omega, by omega, by omega⟩⟩⟩
end ZK

/-! spaces -/
namespace ZO
open PySem PySem.Spec PyProof.Rows L2 Z ZL ZP ZN ZC ZK
local macro_rules | `(tactic| walk_at "zs") => `(tactic| simp (config := { decide := false }) only [m1_eq, k1_ok, m2_eq, k2_ok, k2'_ok, mVar0, mVarS, mC_eq, mTst_eq, mTru_eq, kTru_ok, tru_bl, tru_int, tru_non, tru_tup, mAndT_eq, kAndT_t, kAndT_f, mOrT_eq, kOrT_t, kOrT_f, mNotT_eq, kNotT_ok, mChain_eq, kC1_ok, kC2_ok, kC3_t, kC3_f, kC4_ok, mB_eq, kB_ok, mAnd_eq, kAnd_ok, kAnd2_t, kAnd2_f, mOr_eq, kOr_ok, kOr2_t, kOr2_f, mNot_eq, kNot_ok, kNot2_ok, mIfE_eq, kIfE_t, kIfE_f, mArgs_nil, mArgs_cons, kA_ok, kA2_ok, mBi_eq, kBi_ok, mTup_eq, mLst_eq, mIsi_eq, kIsi_int, kIsi_bl, kIsi_str, kIsi_non, kIsi_tup, kIsi2_ok, kb_ii, kb_ib, kb_is, kb_it, kb_il, kb_bi, kb_bb, kb_bs, kb_bt, kb_bl, kb_si, kb_sb, kb_ss, kb_st, kb_sl, kb_ni, kb_nb, kb_ns, kb_nt, kb_nl, kb_ti, kb_tb, kb_ts, kb_tt, kb_tl, kb_li, kb_lb, kb_ls, kb_lt, kb_ll, mSeq_eq, kSeq_nx, kSeq_rt, kSeq_bk, kSeq_ct, kSeq_ex, mIf_eq, kIf_t, kIf_f, kIf_ex, mAsg_eq, kAsg_ok, kAsg_ex, gN_eq, gSb_eq, kSb_ok, kSb2_ok, gsNil_eq, gsCons_eq, mSkip_eq, mBreak_eq, mCont_eq, mExpr_eq, kExpr_ok, kExpr_ex, mRet_eq, kRet_ok, kRet_ex, mRetN_eq, mPar_eq, kPar_ok, mAug_eq, kAug0_ok, kAug_ok, kAug2_ok, mRaise_eq, kRaise_ok, mFn_eq, kFn_nx, kFn_rt, kFn_ex, oAdd_i, oIAdd_i, oSub_i, oNeg_i, oLt_i, oLe_i, oGt_i, oGe_i, oEq_i, oNe_i, oEq_s, oNe_s, oEq_b, oNe_b, oIs_n, oIsN_n, oIs_b, oIsN_b, isN_int, isN_bl, isN_str, isN_tup, isN_ref, isN_non, bAbs_i, bInt_i, bInt_b, bLen_t, bMax2_i, bMin2_i, bGcd_i, atI_0, List.set_cons_zero, List.set_cons_succ, List.map_cons, List.map_nil, List.cons_append, List.nil_append, List.length_cons, List.length_nil, List.replicate, Bool.not_true, Bool.not_false, decide_true, decide_false, kLst_ok, kTup_ok, Nat.reduceAdd, Nat.reduceLeDiff, Int.reducePow, Int.reduceToNat, Int.reduceMul, Int.reduceAdd, Int.reduceSub, Int.reduceNeg, kBi_ex, kA_ex, kA2_ex, mSl_eq, kSl1_ok, kSl2_ok, kSl3_ok, oNone_eq, oSome_eq, kOS_ok, oSl_t, mTry_eq, kTry_nx, kTry_rt, kRaise_ok, kExpr_ex, kSeq_ex, kRet_ex])
local macro_rules | `(tactic| walk_at "za") => `(tactic| simp (config := { decide := false }) only [m1_eq, k1_ok, m2_eq, k2_ok, k2'_ok, mVar0, mVarS, mC_eq, mTst_eq, mTru_eq, kTru_ok, tru_bl, tru_int, tru_non, tru_tup, mAndT_eq, kAndT_t, kAndT_f, mOrT_eq, kOrT_t, kOrT_f, mNotT_eq, kNotT_ok, mChain_eq, kC1_ok, kC2_ok, kC3_t, kC3_f, kC4_ok, mB_eq, kB_ok, mAnd_eq, kAnd_ok, kAnd2_t, kAnd2_f, mOr_eq, kOr_ok, kOr2_t, kOr2_f, mNot_eq, kNot_ok, kNot2_ok, mIfE_eq, kIfE_t, kIfE_f, mArgs_nil, mArgs_cons, kA_ok, kA2_ok, mBi_eq, kBi_ok, mTup_eq, mLst_eq, mIsi_eq, kIsi_int, kIsi_bl, kIsi_str, kIsi_non, kIsi_tup, kIsi2_ok, kb_ii, kb_ib, kb_is, kb_it, kb_il, kb_bi, kb_bb, kb_bs, kb_bt, kb_bl, kb_si, kb_sb, kb_ss, kb_st, kb_sl, kb_ni, kb_nb, kb_ns, kb_nt, kb_nl, kb_ti, kb_tb, kb_ts, kb_tt, kb_tl, kb_li, kb_lb, kb_ls, kb_lt, kb_ll, mSeq_eq, kSeq_nx, kSeq_rt, kSeq_bk, kSeq_ct, kSeq_ex, mIf_eq, kIf_t, kIf_f, kIf_ex, mAsg_eq, kAsg_ok, kAsg_ex, gN_eq, gSb_eq, kSb_ok, kSb2_ok, gsNil_eq, gsCons_eq, mSkip_eq, mBreak_eq, mCont_eq, mExpr_eq, kExpr_ok, kExpr_ex, mRet_eq, kRet_ok, kRet_ex, mRetN_eq, mPar_eq, kPar_ok, mAug_eq, kAug0_ok, kAug_ok, kAug2_ok, mRaise_eq, kRaise_ok, mFn_eq, kFn_nx, kFn_rt, kFn_ex, oAdd_i, oIAdd_i, oSub_i, oNeg_i, oLt_i, oLe_i, oGt_i, oGe_i, oEq_i, oNe_i, oEq_s, oNe_s, oEq_b, oNe_b, oIs_n, oIsN_n, oIs_b, oIsN_b, isN_int, isN_bl, isN_str, isN_tup, isN_ref, isN_non, bAbs_i, bInt_i, bInt_b, bLen_t, bMax2_i, bMin2_i, bGcd_i, atI_0, List.set_cons_zero, List.set_cons_succ, List.map_cons, List.map_nil, List.cons_append, List.nil_append, List.length_cons, List.length_nil, List.replicate, Bool.not_true, Bool.not_false, decide_true, decide_false, kLst_ok, kTup_ok, Nat.reduceAdd, Nat.reduceLeDiff, Int.reducePow, Int.reduceToNat, Int.reduceMul, Int.reduceAdd, Int.reduceSub, Int.reduceNeg, kBi_ex, kA_ex, kA2_ex, mSl_eq, kSl1_ok, kSl2_ok, kSl3_ok, oNone_eq, oSome_eq, kOS_ok, oSl_t, mTry_eq, kTry_nx, kTry_rt, kRaise_ok, kExpr_ex, kSeq_ex, kRet_ex, *])
/-! ### lists built by pure elements -/
section
variable {it : IT} {me : ME} {sa s : SA} {h : AH} {m : ME}
theorem lc_pure {j N : Nat} {ys : List A} (hN : ys.length = N) (hl : N ≤ 1000) (f : ∀ i (hi : i < ys.length) acc, ∃ v, it.item i (h ++ [.lst acc]) = some v ∧ me (sa.set j (some v)) (h ++ [.lst acc]) = .ok ys[i] (h ++ [.lst acc])) (hf : ∀ acc, it.fin (h ++ [.lst acc]) = true) :
    ∀ k i, i + k = N → lcGo it (c1 j) mYes me h.length sa k i (h ++ [.lst (ys.take i)]) = .ok (.ref h.length) (h ++ [.lst ys])
  | 0, i, e => by
    rw [lc_0 (hf _), List.take_of_length_le (by omega)]
  | k + 1, i, e => by
    have hi : i < ys.length := by omega
    obtain ⟨v, e1, e2⟩ := f i hi (ys.take i)
    have qq := lc_s (it := it) (ga := c1 j) (me := me) (sa := sa) (n := h.length) (k := k) (i := i) (h := h ++ [.lst (ys.take i)]) (v := v) (s2 := sa.set j (some v)) (y := ys[i]) (acc := ys.take i) (h4 := h ++ [.lst (ys.take i)]) e1 rfl e2 (new_at _ _) (by rw [List.length_take]; omega)
    rw [qq]
    have e3 : (h ++ [AO.lst (ys.take i)]).set h.length (.lst (ys.take i ++ [ys[i]])) = h ++ [.lst (ys.take (i + 1))] := by
      rw [List.set_append_right _ _ (Nat.le_refl _)]
      simp
    rw [e3]
    exact lc_pure hN hl f hf k (i + 1) (by omega)
/-- over a tuple -/
theorem lc_tup {j : Nat} {vs : List Nat} {xs : List A} {F : A → A} (e : m s h = .ok (.tup xs) h) (hl : xs.length ≤ 1000) (f : ∀ x ∈ xs, ∀ h, me ((wipeA s vs).set j (some x)) h = .ok (F x) h) :
    mLc (mItT m) (c1 j) mYes me vs s h = .ok (.ref h.length) (h ++ [.lst (xs.map F)]) := by
  have e1 : mLc (mItT m) (c1 j) mYes me vs s h = lcGo (IT.tup xs) (c1 j) mYes me h.length (wipeA s vs) xs.length 0 (h ++ [.lst []]) := by
    unfold mLc mItT
    rw [e]
    exact nr rfl
  rw [e1]
  exact lc_pure (it := IT.tup xs) (ys := xs.map F) (N := xs.length) (by simp) hl (fun i hi acc => by
    rw [List.length_map] at hi
    exact ⟨xs[i], List.getElem?_eq_getElem hi, by rw [List.getElem_map]; exact f _ (List.getElem_mem hi) _⟩) (fun _ => rfl) xs.length 0 (by omega)
/-- over a list -/
theorem lc_lst {j n : Nat} {vs : List Nat} {xs : List A} {F : A → A} (e : m s h = .ok (.ref n) h) (e2 : h[n]? = some (.lst xs)) (hl : xs.length ≤ 1000) (f : ∀ x ∈ xs, ∀ h, me ((wipeA s vs).set j (some x)) h = .ok (F x) h) :
    mLc (mItL m) (c1 j) mYes me vs s h = .ok (.ref h.length) (h ++ [.lst (xs.map F)]) := by
  have e1 : mLc (mItL m) (c1 j) mYes me vs s h = lcGo (IT.lst n xs.length) (c1 j) mYes me h.length (wipeA s vs) xs.length 0 (h ++ [.lst []]) := by
    unfold mLc mItL
    rw [e]
    simp only [Rs.bind, lsA, e2]
    exact nr rfl
  rw [e1]
  have at_ : ∀ acc : List A, lsA (h ++ [AO.lst acc]) n = some xs := fun acc => by
    unfold lsA
    rw [List.getElem?_append_left (lt_of_some e2), e2]
  exact lc_pure (it := IT.lst n xs.length) (ys := xs.map F) (N := xs.length) (by simp) hl (fun i hi acc => by
    rw [List.length_map] at hi
    exact ⟨xs[i], by simp only [IT.lst, at_, List.getElem?_eq_getElem hi, if_true], by rw [List.getElem_map]; exact f _ (List.getElem_mem hi) _⟩) (fun acc => by simp only [IT.lst, at_]; simp) xs.length 0 (by omega)
/-- over range(n) -/
theorem lc_rng {j N : Nat} {vs : List Nat} {F : Nat → A} (e : m s h = .ok (.int (N : Int)) h) (hl : N ≤ 1000) (f : ∀ i, i < N → ∀ acc, me ((wipeA s vs).set j (some (.int (i : Int)))) (h ++ [.lst acc]) = .ok (F i) (h ++ [.lst acc])) :
    mLc (mRng1 m) (c1 j) mYes me vs s h = .ok (.ref h.length) (h ++ [.lst ((List.range N).map F)]) := by
  have e1 : mLc (mRng1 m) (c1 j) mYes me vs s h = lcGo (IT.rng 0 N) (c1 j) mYes me h.length (wipeA s vs) N 0 (h ++ [.lst []]) := by
    have l1 : mRng1 m s h = .ok (IT.rng 0 N) h := by
      rw [rng_B, rngB_ok (n := (N : Int)) _ e (c62 (by omega)), Int.toNat_natCast]
    unfold mLc
    rw [l1]
    exact nr rfl
  rw [e1]
  exact lc_pure (it := IT.rng 0 N) (ys := (List.range N).map F) (N := N) (by simp) hl (fun i hi acc => by
    have hi' : i < N := by simpa using hi
    exact ⟨.int (i : Int), by show some (A.int (0 + (i : Int))) = _; rw [Int.zero_add], by rw [List.getElem_map, List.getElem_range]; exact f i hi' _⟩) (fun _ => rfl) N 0 (by omega)
theorem trA_bls : ∀ bs : List Bool, (bs.map A.bl).mapM trA = some bs
  | [] => rfl
  | b :: bs => by
    rw [List.map_cons, List.mapM_cons, trA_bls bs]
    rfl
theorem any_bls {n : Nat} {bs : List Bool} (e : h[n]? = some (.lst (bs.map .bl))) : bAny [.ref n] h = .ok (.bl (bs.any id)) h := by
  unfold bAny
  dsimp only
  rw [show sqA h (.ref n) = some (bs.map .bl) by unfold sqA; simp only [lsA, lsV, e]]
  simp only [Option.bind, trA_bls]
theorem all_bls {n : Nat} {bs : List Bool} (e : h[n]? = some (.lst (bs.map .bl))) : bAll [.ref n] h = .ok (.bl (bs.all id)) h := by
  unfold bAll
  dsimp only
  rw [show sqA h (.ref n) = some (bs.map .bl) by unfold sqA; simp only [lsA, lsV, e]]
  simp only [Option.bind, trA_bls]
theorem ga_bool {j : Nat} {p : Nat → Bool} {N : Nat} (f : ∀ i, i < N → ∃ v, it.item i h = some v ∧ me (sa.set j (some v)) h = .ok (.bl (p i)) h) (hf : it.fin h = true) :
    ∀ (k i : Nat), i + k = N → gaGo true it (c1 j) mYes me sa k i h = .ok (.bl ((List.range' i k).all p)) h
  | 0, i, e => by rw [ga_0 hf]; rfl
  | k + 1, i, e => by
    obtain ⟨v, e1, e2⟩ := f i (by omega)
    rw [List.range'_succ, List.all_cons]
    cases c : p i
    · rw [c] at e2
      rw [ga_f (s2 := sa.set j (some v)) e1 rfl e2]
      rfl
    · rw [c] at e2
      rw [ga_t (s2 := sa.set j (some v)) e1 rfl e2, ga_bool f hf k (i + 1) (by omega)]
      rfl
theorem gx_tupB {j : Nat} {vs : List Nat} {xs : List A} {p : A → Bool} (e : m s h = .ok (.tup xs) h) (f : ∀ v ∈ xs, me ((wipeA s vs).set j (some v)) h = .ok (.bl (p v)) h) : mGx true (mItT m) (c1 j) mYes me vs s h = .ok (.bl (xs.all p)) h := by
  have e1 : mGx true (mItT m) (c1 j) mYes me vs s h = gaGo true (IT.tup xs) (c1 j) mYes me (wipeA s vs) xs.length 0 h := by
    unfold mGx mItT
    rw [e]
    exact nr rfl
  rw [e1, ga_bool (N := xs.length) (p := fun i => (xs[i]?.map p).getD false) (fun i hi => ⟨xs[i], List.getElem?_eq_getElem hi, by rw [List.getElem?_eq_getElem hi]; exact f _ (List.getElem_mem hi)⟩) rfl xs.length 0 (by omega)]
  congr 2
  rw [Bool.eq_iff_iff, List.all_eq_true, List.all_eq_true]
  constructor
  · intro q x hx
    obtain ⟨i, hi, rfl⟩ := List.getElem_of_mem hx
    have := q i (by rw [List.mem_range'_1]; omega)
    rw [List.getElem?_eq_getElem hi] at this
    exact this
  · intro q i hi
    rw [List.mem_range'_1] at hi
    rw [List.getElem?_eq_getElem (by omega)]
    exact q _ (List.getElem_mem _)
theorem gx_rngB {j N : Nat} {vs : List Nat} {p : Nat → Bool} {n : Int} (e : m s h = .ok (.int n) h) (eN : n.toNat = N) (hn : -1000 ≤ n ∧ n < 1000000000) (f : ∀ i, i < N → me ((wipeA s vs).set j (some (.int (i : Int)))) h = .ok (.bl (p i)) h) : mGx true (mRng1 m) (c1 j) mYes me vs s h = .ok (.bl ((List.range' 0 N).all p)) h := by
  have e1 : mGx true (mRng1 m) (c1 j) mYes me vs s h = gaGo true (IT.rng 0 N) (c1 j) mYes me (wipeA s vs) N 0 h := by
    have l1 : mRng1 m s h = .ok (IT.rng 0 N) h := by
      rw [rng_B, rngB_ok (n := n) _ e (by have p : (2 : Int) ^ 62 = 4611686018427387904 := rfl; rw [p]; omega), eN]
    unfold mGx
    rw [l1]
    exact nr rfl
  rw [e1]
  exact ga_bool (N := N) (fun i hi => ⟨.int (i : Int), by show some (A.int (0 + (i : Int))) = _; rw [Int.zero_add], f i hi⟩) rfl N 0 (by omega)
end
/-! ### the world -/
section
variable {h : AH}
def inW (i : Int) : Bool := decide (-20000 ≤ i) && decide (i ≤ 20000)
theorem inW_el {p : Option A} {i : Int} : mChain oLe oLe (m1 oNeg (mC (.int 20000))) (mVar 1) (mC (.int 20000)) [p, some (.int i)] h = .ok (.bl (inW i)) h := by
  unfold inW
  walk_at "zs"
  by_cases c : (-20000 : Int) ≤ i
  · simp only [decide_eq_true c]
    walk_at "zs"
    rfl
  · simp only [decide_eq_false c]
    walk_at "zs"
    rfl
theorem world_ok {a b c d : Int} : F__law_in_world [.tup [.int a, .int b, .int c, .int d]] h = .ok (.bl (inW a && (inW b && (inW c && inW d)))) (h ++ [.lst [.bl (inW a), .bl (inW b), .bl (inW c), .bl (inW d)]]) := by
  unfold F__law_in_world m__law_in_world
  simp only [mFn_eq]
  walk_at "zs"
  rw [lc_tup (F := fun v => match v with | .int i => .bl (inW i) | v => v) rfl (by simp) (fun x hx h => by
    simp only [List.mem_cons, List.not_mem_nil, or_false] at hx
    rcases hx with rfl | rfl | rfl | rfl <;> exact inW_el)]
  walk_at "zs"
  have q := all_bls (n := h.length) (h := h ++ [.lst [.bl (inW a), .bl (inW b), .bl (inW c), .bl (inW d)]]) (bs := [inW a, inW b, inW c, inW d]) (new_at _ _)
  rw [q]
  walk_at "zs"
  simp
end
/-! ### bodies as records -/
structure Bd where
  nm : Str
  (x y w ht m px py cx cy : Int)
def Bd.l (b : Bd) : List A := [.str b.nm, .int b.x, .int b.y, .int b.w, .int b.ht, .int b.m, .int b.px, .int b.py, .int b.cx, .int b.cy]
def Bd.v (b : Bd) : A := .tup [.str b.nm, .int b.x, .int b.y, .int b.w, .int b.ht, .int b.m, .int b.px, .int b.py, .int b.cx, .int b.cy]
theorem Bd.v_l (b : Bd) : b.v = .tup b.l := rfl
def Bd.box (b : Bd) : A := .tup [.int b.x, .int b.y, .int (b.x + b.w), .int (b.y + b.ht)]
def boxF : A → A
  | .tup [_, .int x, .int y, .int w, .int ht, _, _, _, _, _] => .tup [.int x, .int y, .int (x + w), .int (y + ht)]
  | v => v
theorem boxF_v (b : Bd) : boxF b.v = b.box := rfl
def ov (a b : Bd) : Bool := decide (a.x < b.x + b.w) && (decide (b.x < a.x + a.w) && (decide (a.y < b.y + b.ht) && decide (b.y < a.y + a.ht)))
structure GoodB (b : Bd) : Prop where
  hn : ∀ h, F_is_name [.str b.nm] h = .ok (.bl true) h
  x0 : -20000 ≤ b.x
  x1 : b.x + b.w ≤ 20000
  y0 : -20000 ≤ b.y
  y1 : b.y + b.ht ≤ 20000
  w0 : 1 ≤ b.w
  w1 : b.w ≤ 200
  h0 : 1 ≤ b.ht
  h1 : b.ht ≤ 200
  m0 : 0 ≤ b.m
  m1 : b.m ≤ 100
  z : b.m = 0 → b.px = 0 ∧ b.py = 0 ∧ b.cx = 0 ∧ b.cy = 0
  c : 0 < b.m → 0 ≤ b.cx ∧ b.cx < b.m ∧ 0 ≤ b.cy ∧ b.cy < b.m
section
variable {h : AH} {a b : Bd}
theorem rangeB_t {x w : Int} (a : -20000 ≤ x) (b : x + w ≤ 20000) (c : 1 ≤ w) (d : w ≤ 200) : rangeB (.int x) (.int w) = true := by
  unfold rangeB btw
  simp only [decide_eq_true a, decide_eq_true b, decide_eq_true c, decide_eq_true d, decide_eq_true (show x ≤ 20000 by omega), decide_eq_true (show -20000 ≤ x + w by omega), Bool.and_self]
theorem motB_t {p c m : Int} (z : m = 0 → p = 0 ∧ c = 0) (q : 0 < m → 0 ≤ c ∧ c < m) (m0 : 0 ≤ m) : motB (.int p) (.int c) m = true := by
  unfold motB btw isI
  split
  · rename_i e
    obtain ⟨rfl, rfl⟩ := z e
    rfl
  · obtain ⟨a, b⟩ := q (by omega)
    simp only [decide_eq_true a, decide_eq_true (show c ≤ m - 1 by omega), Bool.and_self]
theorem body_good (g : GoodB b) : F_is_body [b.v] h = .ok (.bl true) h := by
  refine (body_any g.hn rfl rfl rfl rfl rfl rfl rfl rfl rfl).trans ?_
  show Rs.ok (A.bl (true && (rangeB (.int b.x) (.int b.w) && (rangeB (.int b.y) (.int b.ht) && ((decide (0 ≤ b.m) && decide (b.m ≤ 100)) && (motB (.int b.px) (.int b.cx) b.m && motB (.int b.py) (.int b.cy) b.m)))))) h = _
  rw [rangeB_t g.x0 g.x1 g.w0 g.w1, rangeB_t g.y0 g.y1 g.h0 g.h1, motB_t (fun e => ⟨(g.z e).1, (g.z e).2.2.1⟩) (fun e => ⟨(g.c e).1, (g.c e).2.1⟩) g.m0, motB_t (fun e => ⟨(g.z e).2.1, (g.z e).2.2.2⟩) (fun e => ⟨(g.c e).2.2.1, (g.c e).2.2.2⟩) g.m0]
  simp only [decide_eq_true g.m0, decide_eq_true g.m1, Bool.and_self]
theorem body_box_ok : F_body_box [b.v] h = .ok b.box h := by
  unfold F_body_box m_body_box
  simp only [mFn_eq]
  unfold Bd.v
  walk_at "zs"
  rw [show cutL [A.str b.nm, .int b.x, .int b.y, .int b.w, .int b.ht, .int b.m, .int b.px, .int b.py, .int b.cx, .int b.cy] (some 1) (some 5) = [.int b.x, .int b.y, .int b.w, .int b.ht] from rfl]
  rw [gTp_ok (show [A.int b.x, A.int b.y, A.int b.w, A.int b.ht].length = 4 from rfl)]
  walk_at "zs"
  rfl
theorem lbox_ok : F__law_box [b.v] h = .ok b.box h := by
  unfold Bd.v
  have g1 : atI [A.str b.nm, .int b.x, .int b.y, .int b.w, .int b.ht, .int b.m, .int b.px, .int b.py, .int b.cx, .int b.cy] 1 = some (.int b.x) := rfl
  have g2 : atI [A.str b.nm, .int b.x, .int b.y, .int b.w, .int b.ht, .int b.m, .int b.px, .int b.py, .int b.cx, .int b.cy] 2 = some (.int b.y) := rfl
  have g3 : atI [A.str b.nm, .int b.x, .int b.y, .int b.w, .int b.ht, .int b.m, .int b.px, .int b.py, .int b.cx, .int b.cy] 3 = some (.int b.w) := rfl
  have g4 : atI [A.str b.nm, .int b.x, .int b.y, .int b.w, .int b.ht, .int b.m, .int b.px, .int b.py, .int b.cx, .int b.cy] 4 = some (.int b.ht) := rfl
  unfold F__law_box m__law_box
  simp only [mFn_eq]
  repeat (first | walk_at "zs" | simp only [oIx_t g1, oIx_t g2, oIx_t g3, oIx_t g4])
  rfl
theorem lov_ok : F__law_overlap [a.box, b.box] h = .ok (.bl (ov a b)) h := by
  unfold F__law_overlap m__law_overlap Bd.box
  have a0 : atI [A.int a.x, .int a.y, .int (a.x + a.w), .int (a.y + a.ht)] 0 = some (.int a.x) := rfl
  have a1 : atI [A.int a.x, .int a.y, .int (a.x + a.w), .int (a.y + a.ht)] 1 = some (.int a.y) := rfl
  have a2 : atI [A.int a.x, .int a.y, .int (a.x + a.w), .int (a.y + a.ht)] 2 = some (.int (a.x + a.w)) := rfl
  have a3 : atI [A.int a.x, .int a.y, .int (a.x + a.w), .int (a.y + a.ht)] 3 = some (.int (a.y + a.ht)) := rfl
  have b0 : atI [A.int b.x, .int b.y, .int (b.x + b.w), .int (b.y + b.ht)] 0 = some (.int b.x) := rfl
  have b1 : atI [A.int b.x, .int b.y, .int (b.x + b.w), .int (b.y + b.ht)] 1 = some (.int b.y) := rfl
  have b2 : atI [A.int b.x, .int b.y, .int (b.x + b.w), .int (b.y + b.ht)] 2 = some (.int (b.x + b.w)) := rfl
  have b3 : atI [A.int b.x, .int b.y, .int (b.x + b.w), .int (b.y + b.ht)] 3 = some (.int (b.y + b.ht)) := rfl
  simp only [mFn_eq]
  unfold ov
  by_cases c0 : a.x < b.x + b.w
  · simp only [decide_eq_true c0]
    by_cases c1 : b.x < a.x + a.w
    · simp only [decide_eq_true c1]
      by_cases c2 : a.y < b.y + b.ht
      · simp only [decide_eq_true c2]
        repeat (first | walk_at "zs" | simp only [oIx_t a0, oIx_t a1, oIx_t a2, oIx_t a3, oIx_t b0, oIx_t b1, oIx_t b2, oIx_t b3, decide_eq_true c0, decide_eq_true c1, decide_eq_true c2])
        rfl
      · simp only [decide_eq_false c2]
        repeat (first | walk_at "zs" | simp only [oIx_t a0, oIx_t a1, oIx_t a2, oIx_t a3, oIx_t b0, oIx_t b1, oIx_t b2, oIx_t b3, decide_eq_true c0, decide_eq_true c1, decide_eq_false c2])
        rfl
    · simp only [decide_eq_false c1]
      repeat (first | walk_at "zs" | simp only [oIx_t a0, oIx_t a1, oIx_t a2, oIx_t a3, oIx_t b0, oIx_t b1, oIx_t b2, oIx_t b3, decide_eq_true c0, decide_eq_false c1])
      rfl
  · simp only [decide_eq_false c0]
    repeat (first | walk_at "zs" | simp only [oIx_t a0, oIx_t a1, oIx_t a2, oIx_t a3, oIx_t b0, oIx_t b1, oIx_t b2, oIx_t b3, decide_eq_false c0])
    rfl
theorem bov_ok : F_boxes_overlap [a.box, b.box] h = .ok (.bl (ov a b)) h := by
  unfold F_boxes_overlap m_boxes_overlap Bd.box
  have b0 : atI [A.int b.x, .int b.y, .int (b.x + b.w), .int (b.y + b.ht)] 0 = some (.int b.x) := rfl
  have b1 : atI [A.int b.x, .int b.y, .int (b.x + b.w), .int (b.y + b.ht)] 1 = some (.int b.y) := rfl
  have b2 : atI [A.int b.x, .int b.y, .int (b.x + b.w), .int (b.y + b.ht)] 2 = some (.int (b.x + b.w)) := rfl
  have b3 : atI [A.int b.x, .int b.y, .int (b.x + b.w), .int (b.y + b.ht)] 3 = some (.int (b.y + b.ht)) := rfl
  simp only [mFn_eq]
  walk_at "zs"
  rw [gTp_ok (show [A.int a.x, A.int a.y, A.int (a.x + a.w), A.int (a.y + a.ht)].length = 4 from rfl)]
  unfold ov
  by_cases c0 : a.x < b.x + b.w
  · simp only [decide_eq_true c0]
    by_cases c1 : b.x < a.x + a.w
    · simp only [decide_eq_true c1]
      by_cases c2 : a.y < b.y + b.ht
      · simp only [decide_eq_true c2]
        repeat (first | walk_at "zs" | simp only [oIx_t b0, oIx_t b1, oIx_t b2, oIx_t b3, decide_eq_true c0, decide_eq_true c1, decide_eq_true c2])
        rfl
      · simp only [decide_eq_false c2]
        repeat (first | walk_at "zs" | simp only [oIx_t b0, oIx_t b1, oIx_t b2, oIx_t b3, decide_eq_true c0, decide_eq_true c1, decide_eq_false c2])
        rfl
    · simp only [decide_eq_false c1]
      repeat (first | walk_at "zs" | simp only [oIx_t b0, oIx_t b1, oIx_t b2, oIx_t b3, decide_eq_true c0, decide_eq_false c1])
      rfl
  · simp only [decide_eq_false c0]
    repeat (first | walk_at "zs" | simp only [oIx_t b0, oIx_t b1, oIx_t b2, oIx_t b3, decide_eq_false c0])
    rfl
end
/-! ### is_space -/
def ltN (a b : Bd) : Bool := decide (a.nm.cps.toList < b.nm.cps.toList)
def bv (bs : List Bd) : List A := bs.map Bd.v
def ascB (bs : List Bd) : Bool := (List.range' 0 (bs.length - 1)).all fun i => match bs[i]?, bs[i + 1]? with
  | some a, some b => ltN a b
  | _, _ => false
theorem oLt_s {i j : Str} {h : AH} : oLt (.str i) (.str j) h = .ok (.bl (decide (i.cps.toList < j.cps.toList))) h := rfl
section
variable {h : AH} {bs : List Bd}
theorem bv_at {i : Nat} (hi : i < bs.length) : atI (bv bs) (i : Int) = some bs[i].v := atI_n (by unfold bv; rw [List.getElem?_map, List.getElem?_eq_getElem hi]; rfl)
theorem nm_at (b : Bd) : oIx b.v (.int 0) h = .ok (.str b.nm) h := oIx_t rfl
theorem bv_len : (bv bs).length = bs.length := by unfold bv; simp
theorem asc_ok (hl : bs.length ≤ 900) : F__names_ascend [.tup (bv bs)] h = .ok (.bl (ascB bs)) h := by
  unfold F__names_ascend m__names_ascend
  simp only [mFn_eq]
  walk_at "zs"
  rw [gx_rngB (N := bs.length - 1) (n := (bs.length : Int) - 1) (p := fun i => match bs[i]?, bs[i + 1]? with
    | some a, some b => ltN a b
    | _, _ => false) (by walk_at "zs"; rw [bv_len]) (by omega) (by omega) (fun i hi => by
      have h1 : i < bs.length := by omega
      have h2 : i + 1 < bs.length := by omega
      rw [List.getElem?_eq_getElem h1, List.getElem?_eq_getElem h2]
      show m2 oLt _ _ [some (.tup (bv bs)), some (.int (i : Int))] h = _
      walk_at "zs"
      rw [oIx_t (bv_at h1)]
      walk_at "zs"
      rw [nm_at]
      walk_at "zs"
      rw [show (i : Int) + 1 = ((i + 1 : Nat) : Int) by omega, oIx_t (bv_at h2)]
      walk_at "zs"
      rw [nm_at]
      walk_at "zs"
      rw [oLt_s]
      rfl)]
  walk_at "zs"
  rfl
def apB (bs : List Bd) : Bool := (List.range' 0 bs.length).all fun i => (List.range' 0 i).all fun j => match bs[i]?, bs[j]? with
  | some a, some b => !ov a b
  | _, _ => false
abbrev apI : MS := (mIf (mTru (mBi F_boxes_overlap [(mVar 3), (m2 oIx (mVar 1) (mVar 4))])) (mRet (mC (.bl false))) mSkip)
theorem inner_ok {n i : Nat} {a : Bd} {s0 s2 : Option A} {p : Nat → Bool} (L : h[n]? = some (.lst (bs.map Bd.box))) (hp : ∀ j (hj : j < bs.length), j < i → p j = !ov a bs[j]) (hi : i ≤ bs.length) :
    ∀ (k j : Nat) (s4 : Option A), j + k = i → ∃ s4', forGo (IT.rng 0 i) (gN 4) apI k j [s0, some (.ref n), s2, some a.box, s4, none] h = if (List.range' j k).all p = true then .nx [s0, some (.ref n), s2, some a.box, s4', none] h else .rt (.bl false) h
  | 0, j, s4, e => ⟨s4, by rw [forGo]; rfl⟩
  | k + 1, j, s4, e => by
    have hj : j < bs.length := by omega
    have q := hp j hj (by omega)
    rw [fr_eq (v := .int (j : Int)) (by show some (A.int (0 + (j : Int))) = _; rw [Int.zero_add])]
    walk_at "zs"
    rw [oIx_l L (atI_n (by rw [List.getElem?_map, List.getElem?_eq_getElem hj]; rfl))]
    walk_at "zs"
    rw [bov_ok]
    walk_at "zs"
    rw [List.range'_succ, List.all_cons, q]
    cases c : ov a bs[j]
    · walk_at "zs"
      rw [kFr_nx]
      obtain ⟨s4', e1⟩ := inner_ok L hp hi k (j + 1) (some (.int (j : Int))) (by omega)
      exact ⟨s4', by rw [e1]; rfl⟩
    · walk_at "zs"
      exact ⟨none, rfl⟩
theorem outer_ok {n : Nat} {s0 : Option A} (L : h[n]? = some (.lst (bs.map Bd.box))) (hl : bs.length ≤ 900) :
    ∀ (k i : Nat) (s2 s3 s4 : Option A), i + k = bs.length → ∃ s2' s3' s4', forGo (IT.enm n bs.length) (gTp 2 (gsCons (gN 2) (gsCons (gN 3) gsNil))) (mFor (mRng1 (mVar 2)) (gN 4) apI) k i [s0, some (.ref n), s2, s3, s4, none] h = if ((List.range' i k).all fun i => (List.range' 0 i).all fun j => match bs[i]?, bs[j]? with
  | some a, some b => !ov a b
  | _, _ => false) = true then .nx [s0, some (.ref n), s2', s3', s4', none] h else .rt (.bl false) h
  | 0, i, s2, s3, s4, e => ⟨s2, s3, s4, by
    rw [forGo]
    have : (IT.enm n bs.length).fin h = true := by simp only [IT.enm, lsA, L]; simp
    dsimp only
    rw [if_pos this]; rfl⟩
  | k + 1, i, s2, s3, s4, e => by
    have hi : i < bs.length := by omega
    have it : (IT.enm n bs.length).item i h = some (.tup [.int (i : Int), bs[i].box]) := by
      simp only [IT.enm, lsA, L]
      simp [hi]
    rw [fr_eq it]
    rw [gTp_ok (show [A.int (i : Int), bs[i].box].length = 2 from rfl)]
    walk_at "zs"
    rw [mFor_rng (n := i) (by walk_at "zs") (by omega)]
    obtain ⟨s4', e1⟩ := inner_ok (n := n) (i := i) (a := bs[i]) (s0 := s0) (s2 := some (.int (i : Int))) (p := fun j => match bs[i]?, bs[j]? with
      | some a, some b => !ov a b
      | _, _ => false) L (fun j hj _ => by simp only [List.getElem?_eq_getElem hi, List.getElem?_eq_getElem hj]) (by omega) i 0 s4 (by omega)
    rw [e1, List.range'_succ, List.all_cons]
    generalize ((List.range' 0 i).all _) = B
    cases B
    · exact ⟨none, none, none, rfl⟩
    · obtain ⟨s2', s3', s4'', e2⟩ := outer_ok L hl k (i + 1) (some (.int (i : Int))) (some bs[i].box) s4' (by omega)
      exact ⟨s2', s3', s4'', by
        rw [if_pos rfl, kFr_nx, e2]; rfl⟩
theorem apart_ok (hl : bs.length ≤ 900) : F__boxes_are_apart [.tup (bv bs)] h = .ok (.bl (apB bs)) (h ++ [.lst (bs.map Bd.box)]) := by
  unfold F__boxes_are_apart m__boxes_are_apart
  simp only [mFn_eq]
  walk_at "zs"
  rw [lc_tup (F := boxF) rfl (by rw [bv_len]; omega) (fun x hx h => by
    obtain ⟨b, hb, rfl⟩ := List.mem_map.mp hx
    show mBi F_body_box _ [_, _, _, _, _, some b.v] h = _
    walk_at "zs"
    rw [body_box_ok, boxF_v])]
  walk_at "zs"
  have e : (bv bs).map boxF = bs.map Bd.box := by unfold bv; rw [List.map_map]; rfl
  rw [e]
  have L : (h ++ [AO.lst (bs.map Bd.box)])[h.length]? = some (.lst (bs.map Bd.box)) := new_at _ _
  generalize h ++ [AO.lst (bs.map Bd.box)] = h2 at *
  generalize h.length = n at *
  obtain ⟨s2', s3', s4', e2⟩ := outer_ok (n := n) (s0 := some (.tup (bv bs))) L hl bs.length 0 none none none (by omega)
  have e3 : mFor (mItE (mVar 1)) (gTp 2 (gsCons (gN 2) (gsCons (gN 3) gsNil))) (mFor (mRng1 (mVar 2)) (gN 4) apI) [some (.tup (bv bs)), some (.ref n), none, none, none, none] h2 = forGo (IT.enm n bs.length) (gTp 2 (gsCons (gN 2) (gsCons (gN 3) gsNil))) (mFor (mRng1 (mVar 2)) (gN 4) apI) bs.length 0 [some (.tup (bv bs)), some (.ref n), none, none, none, none] h2 := by
    unfold mFor mItE
    walk_at "zs"
    simp only [Rs.bind, lsA, L, List.length_map]
    exact nr rfl
  rw [e3, e2]
  unfold apB
  generalize (List.all _ _) = B
  cases B
  · rfl
  · rw [if_pos rfl]
    unfold m__boxes_are_apart_r2
    walk_at "zs"
end
section
variable {h : AH} {bs : List Bd}
def okB (r : Rs A) : Bool := match r with
  | .ok (.bl b) _ => b
  | _ => false
theorem sp_tail {xs : List A} {s1 : Option A} {b : Bool} (hx : ∀ v ∈ xs, F_is_body [v] h = .ok (.bl (okB (F_is_body [v] h))) h) (e : xs.all (fun v => okB (F_is_body [v] h)) = b) :
    mGx true (mItT (mVar 0)) (c1 1) mYes (mBi F_is_body [(mVar 1)]) [1] [some (.tup xs), s1] h = .ok (.bl b) h := by
  rw [gx_tupB (xs := xs) (p := fun v => okB (F_is_body [v] h)) rfl (fun v hv => by
    show mBi F_is_body _ [_, some v] h = _
    walk_at "zs"
    exact hx v hv), e]
/-- all are bodies, and no more than twelve -/
theorem space_bds (hb : ∀ b ∈ bs, GoodB b) (hl : bs.length ≤ 12) : F_is_space [.tup (bv bs)] h = .ok (.bl (ascB bs && apB bs)) (if ascB bs = true then h ++ [.lst (bs.map Bd.box)] else h) := by
  unfold F_is_space m_is_space
  simp only [mFn_eq]
  walk_at "zs"
  rw [bv_len, decide_eq_false (show ¬ (12 : Int) < (bs.length : Int) by omega)]
  walk_at "zs"
  unfold m_is_space_r1
  walk_at "zs"
  have each : ∀ v ∈ bv bs, F_is_body [v] h = .ok (.bl true) h := fun v hv => by
    obtain ⟨b, hb1, rfl⟩ := List.mem_map.mp hv
    exact body_good (hb b hb1)
  rw [sp_tail (b := true) (fun v hv => by rw [each v hv]; rfl) (by
    rw [List.all_eq_true]
    intro v hv
    rw [each v hv]; rfl)]
  walk_at "zs"
  unfold m_is_space_r2
  walk_at "zs"
  rw [asc_ok (by omega)]
  cases c : ascB bs
  · walk_at "zs"
    rfl
  · walk_at "zs"
    rw [apart_ok (by omega)]
    rfl
theorem space_long {xs : List A} (hl : 12 < xs.length) : F_is_space [.tup xs] h = .ok (.bl false) h := by
  unfold F_is_space m_is_space
  simp only [mFn_eq]
  walk_at "zs"
  rw [decide_eq_true (show (12 : Int) < (xs.length : Int) by omega)]
  walk_at "zs"
theorem space_lst {k : Nat} {xs : List A} (e : h[k]? = some (.lst xs)) : F_is_space [.ref k] h = .ok (.bl false) h := by
  unfold F_is_space m_is_space
  simp only [mFn_eq]
  walk_at "zs"
  rw [kIsi_lst e]
  walk_at "zs"
theorem space_non : F_is_space [.non] h = .ok (.bl false) h := by
  unfold F_is_space m_is_space
  simp only [mFn_eq]
  walk_at "zs"
/-- bodies, and behind them something that is none -/
theorem space_odd {x : A} (hb : ∀ b ∈ bs, GoodB b) (hx : F_is_body [x] h = .ok (.bl false) h) : F_is_space [.tup (bv bs ++ [x])] h = .ok (.bl false) h := by
  by_cases hl : 12 < (bv bs ++ [x]).length
  · exact space_long hl
  unfold F_is_space m_is_space
  simp only [mFn_eq]
  have hl2 : decide ((12 : Int) < ((bv bs ++ [x]).length : Int)) = false := decide_eq_false (by omega)
  generalize hX : bv bs ++ [x] = X at *
  walk_at "zs"
  rw [hl2]
  walk_at "zs"
  unfold m_is_space_r1
  walk_at "zs"
  have each : ∀ v ∈ bv bs, F_is_body [v] h = .ok (.bl true) h := fun v hv => by
    obtain ⟨b, hb1, rfl⟩ := List.mem_map.mp hv
    exact body_good (hb b hb1)
  rw [sp_tail (b := false) (fun v hv => by
    rw [← hX] at hv
    rcases List.mem_append.mp hv with m | m
    · rw [each v m]; rfl
    · simp only [List.mem_singleton] at m
      subst m
      rw [hx]; rfl) (by
    rw [← hX, List.all_append, List.all_cons, hx]
    simp [okB])]
  walk_at "zs"
/-! ### drawn spaces -/
def NL : List Str := ["a", "ball", "c2", "d", "e", "f", "g", "h", "k", "m", "p", "z"]
theorem NL_ok : ∀ s ∈ NL, ∀ h, F_is_name [.str s] h = .ok (.bl true) h := by
  intro s hs
  simp only [NL, List.mem_cons, List.not_mem_nil, or_false] at hs
  rcases hs with rfl | rfl | rfl | rfl | rfl | rfl | rfl | rfl | rfl | rfl | rfl | rfl <;> (intro h; kernel_rfl)
def NL_at (i : Nat) : Str := NL.getD i ""
theorem NL_lt : ∀ k l : Nat, k < l → l < 12 → decide ((NL_at k).cps.toList < (NL_at l).cps.toList) = true ∧ decide ((NL_at l).cps.toList < (NL_at k).cps.toList) = false := by
  intro k l h1 h2
  have hk : k < 12 := by omega
  have : ∀ l : Fin 12, ∀ k : Fin 12, k.val < l.val → decide ((NL_at k.val).cps.toList < (NL_at l.val).cps.toList) = true ∧ decide ((NL_at l.val).cps.toList < (NL_at k.val).cps.toList) = false := by decide +kernel
  exact this ⟨l, h2⟩ ⟨k, hk⟩ h1
theorem NL_eq : ∀ k : Nat, k < 12 → decide ((NL_at k).cps.toList < (NL_at k).cps.toList) = false := by
  intro k hk
  have : ∀ k : Fin 12, decide ((NL_at k.val).cps.toList < (NL_at k.val).cps.toList) = false := by decide +kernel
  exact this ⟨k, hk⟩
/-- the names of two bodies stand in the order of the list of names -/
def Rn (a b : Bd) : Prop := ∃ k l, k < l ∧ l < 12 ∧ a.nm = NL_at k ∧ b.nm = NL_at l
structure Space (bs : List Bd) (n : Nat) : Prop where
  good : ∀ b ∈ bs, GoodB b
  len : bs.length ≤ n
  nms : ∀ b ∈ bs, ∃ k, k < n ∧ b.nm = NL_at k
  asc : bs.Pairwise Rn
  apt : bs.Pairwise fun a b => ov b a = false
theorem asc_pw (h : bs.Pairwise Rn) : ascB bs = true := by
  unfold ascB
  rw [List.all_eq_true]
  intro i hi
  rw [List.mem_range'_1] at hi
  have h1 : i < bs.length := by omega
  have h2 : i + 1 < bs.length := by omega
  rw [List.getElem?_eq_getElem h1, List.getElem?_eq_getElem h2]
  obtain ⟨k, l, a, b, c, d⟩ := List.pairwise_iff_getElem.mp h i (i + 1) h1 h2 (by omega)
  show decide _ = true
  rw [c, d]
  exact (NL_lt k l a b).1
theorem ap_pw (h : bs.Pairwise fun a b => ov b a = false) : apB bs = true := by
  unfold apB
  rw [List.all_eq_true]
  intro i hi
  rw [List.all_eq_true]
  intro j hj
  rw [List.mem_range'_1] at hi hj
  have h1 : i < bs.length := by omega
  have h2 : j < bs.length := by omega
  rw [List.getElem?_eq_getElem h1, List.getElem?_eq_getElem h2]
  have := List.pairwise_iff_getElem.mp h j i h2 h1 (by omega)
  show (!ov _ _) = true
  rw [this]
  rfl
theorem space_ok {n : Nat} (S : Space bs n) (hn : n ≤ 12) : F_is_space [.tup (bv bs)] h = .ok (.bl true) (h ++ [.lst (bs.map Bd.box)]) := by
  rw [space_bds S.good (by have := S.len; omega), asc_pw S.asc, ap_pw S.apt]
  rfl
end
section
variable {h : AH}
theorem skeep {h h' : AH} {n a : Nat} (S : Strm h n) (f : Fr [a] h h') (c : n < a) : Strm h' n := by
  obtain ⟨b, xs, c1, k, h1, h2, h3, r⟩ := S
  exact ⟨b, xs, c1, k, f.at h1 (by simp; omega), f.at h2 (by simp; omega), h3, r⟩
theorem oSl_l {n : Nat} {xs : List A} {l u : Option Int} (e : h[n]? = some (.lst xs)) : oSl (.ref n) l u h = .ok (.ref h.length) (h ++ [.lst (cutL xs l u)]) := by
  simp only [oSl, lsA, e]
theorem mFor_lst {m : ME} {g : MG} {b : MS} {s : SA} {h' : AH} {n : Nat} {xs : List A} (e : m s h = .ok (.ref n) h') (e2 : h'[n]? = some (.lst xs)) : mFor (mItL m) g b s h = forGo (IT.lst n xs.length) g b xs.length 0 s h' := by
  unfold mFor mItL
  rw [e]
  simp only [Rs.bind, lsA, e2]
  exact nr rfl
def ovF (b : Bd) : A → A
  | .tup [.str nm, .int x, .int y, .int w, .int ht, .int m, .int px, .int py, .int cx, .int cy] => .bl (ov b ⟨nm, x, y, w, ht, m, px, py, cx, cy⟩)
  | v => v
theorem ovF_v (a b : Bd) : ovF a b.v = .bl (ov a b) := rfl
abbrev SB : MS := (mSeq (mAsg (mBi F__law_body [(mVar 0), (mVar 4), (mVar 2)]) (gN 5))
  (mSeq (mAsg (mNot (mBi bAny [(mLc (mItL (mVar 3)) (c1 7) mYes (mBi F__law_overlap [(mBi F__law_box [(mVar 5)]), (mBi F__law_box [(mVar 7)])]) [7])])) (gN 6))
  (mIf (mAndT (mTru (mVar 6)) (mTru (mBi F__law_in_world [(mBi F__law_box [(mVar 5)])]))) (mExpr (mApp (mVar 3) (mVar 5))) mSkip)))
theorem space_push {bs : List Bd} {i : Nat} {b : Bd} (S : Space bs i) (hi : i < 12) (g : GoodB b) (en : b.nm = NL_at i) (hf : bs.any (ov b) = false) : Space (bs ++ [b]) (i + 1) := by
  refine ⟨fun a ha => ?_, by have := S.len; simp; omega, fun a ha => ?_, ?_, ?_⟩
  · rcases List.mem_append.mp ha with m | m
    · exact S.good a m
    · simp only [List.mem_singleton] at m; subst m; exact g
  · rcases List.mem_append.mp ha with m | m
    · obtain ⟨k, a1, a2⟩ := S.nms a m
      exact ⟨k, by omega, a2⟩
    · simp only [List.mem_singleton] at m; subst m; exact ⟨i, by omega, en⟩
  · refine List.pairwise_append.mpr ⟨S.asc, List.pairwise_singleton _ _, fun a ha c hc => ?_⟩
    simp only [List.mem_singleton] at hc; subst hc
    obtain ⟨k, a1, a2⟩ := S.nms a ha
    exact ⟨k, i, a1, hi, a2, en⟩
  · refine List.pairwise_append.mpr ⟨S.apt, List.pairwise_singleton _ _, fun a ha c hc => ?_⟩
    simp only [List.mem_singleton] at hc; subst hc
    rw [List.any_eq_false] at hf
    have := hf a ha
    simpa using this
theorem space_up {bs : List Bd} {i j : Nat} (S : Space bs i) (h : i ≤ j) : Space bs j := ⟨S.good, Nat.le_trans S.len h, fun b hb => by
  obtain ⟨k, a, c⟩ := S.nms b hb
  exact ⟨k, by omega, c⟩, S.asc, S.apt⟩
theorem names_run {st nl sp N : Nat} {s1 : Option A} {b0 b1 : Int} {h0 : AH} (hN : N ≤ 12) (n1 : st < sp) (n2 : sp ≠ nl) (n3 : st ≠ nl) (hs : h0.length ≤ sp) :
    ∀ (k i : Nat) (s4 s5 s6 : Option A) (bs : List Bd) (h : AH), i + k = N → h[sp]? = some (.lst (bv bs)) → h[nl]? = some (.lst ((NL.map A.str).take N)) → Strm h st → Fr [st] h0 h → Space bs i →
    ∃ s4' s5' s6' bs' h', forGo (IT.lst nl N) (gN 4) SB k i [some (.ref st), s1, some (.tup [.int b0, .int b1]), some (.ref sp), s4, s5, s6, none] h = .nx [some (.ref st), s1, some (.tup [.int b0, .int b1]), some (.ref sp), s4', s5', s6', none] h' ∧ h'[sp]? = some (.lst (bv bs')) ∧ Strm h' st ∧ Fr [st] h0 h' ∧ Space bs' N
  | 0, i, s4, s5, s6, bs, h, e, L, M, S, F, P => by
    refine ⟨s4, s5, s6, bs, h, ?_, L, S, F, by have : i = N := by omega
                                               rw [← this]; exact P⟩
    rw [forGo]
    have : (IT.lst nl N).fin h = true := by
      have : N ≤ (NL.map A.str).length := by rw [List.length_map]; exact hN
      simp only [IT.lst, lsA, M, List.length_take, Nat.min_eq_left this]
      simp
    dsimp only
    rw [if_pos this]
  | k + 1, i, s4, s5, s6, bs, h, e, L, M, S, F, P => by
    have hi : i < 12 := by omega
    have it : (IT.lst nl N).item i h = some (.str (NL_at i)) := by
      have h1 : ((NL.map A.str).take N)[i]? = some (.str (NL_at i)) := by
        rw [List.getElem?_take_of_lt (by omega), List.getElem?_map]
        unfold NL_at
        rw [List.getD_eq_getElem?_getD]
        have : i < NL.length := hi
        rw [List.getElem?_eq_getElem this]
        rfl
      have h2 : ((NL.map A.str).take N).length = N := by
        rw [List.length_take, List.length_map]
        exact Nat.min_eq_left hN
      simp only [IT.lst, lsA, M, h2, if_true, h1]
    rw [fr_eq it]
    walk_at "zs"
    generalize hr : F__law_body _ _ = q
    obtain ⟨x, y, w, ht, m, px, py, cx, cy, h2, rfl, S2, f2, b⟩ := lbody_ok hr S
    clear hr
    walk_at "zs"
    obtain ⟨B, eB⟩ : ∃ B : Bd, B = ⟨NL_at i, x, y, w, ht, m, px, py, cx, cy⟩ := ⟨_, rfl⟩
    have eV : A.tup [A.str (NL_at i), .int x, .int y, .int w, .int ht, .int m, .int px, .int py, .int cx, .int cy] = B.v := by rw [eB]; rfl
    rw [eV]
    have L2 := f2.at L (by simp; omega)
    have M2 := f2.at M (by simp; omega)
    rw [lc_lst (n := sp) (xs := bv bs) (F := ovF B) rfl L2 (by rw [bv_len]; have := P.len; omega) (fun v hv h => by
      obtain ⟨c, hc, rfl⟩ := List.mem_map.mp hv
      show mBi F__law_overlap _ [_, _, _, _, _, some B.v, _, some c.v] h = _
      walk_at "zs"
      rw [lbox_ok]
      walk_at "zs"
      rw [lbox_ok]
      walk_at "zs"
      rw [lov_ok, ovF_v])]
    walk_at "zs"
    have e2 : (bv bs).map (ovF B) = (bs.map (ov B)).map .bl := by unfold bv; rw [List.map_map, List.map_map]; rfl
    rw [e2, any_bls (new_at _ _)]
    walk_at "zs"
    have e3 : (bs.map (ov B)).any id = bs.any (ov B) := by rw [List.any_map]; rfl
    rw [e3]
    have L3 : (h2 ++ [AO.lst ((bs.map (ov B)).map .bl)])[sp]? = some (.lst (bv bs)) := (Fr.push (ns := []) _).at L2 (by simp)
    have M3 : (h2 ++ [AO.lst ((bs.map (ov B)).map .bl)])[nl]? = some (.lst ((NL.map A.str).take N)) := (Fr.push (ns := []) _).at M2 (by simp)
    have S3 := S2.push [AO.lst ((bs.map (ov B)).map .bl)]
    have F3 : Fr [st] h0 (h2 ++ [AO.lst ((bs.map (ov B)).map .bl)]) := (F.trans f2).trans (Fr.push _)
    generalize h2 ++ [AO.lst ((bs.map (ov B)).map .bl)] = h3 at *
    cases c : bs.any (ov B)
    · walk_at "zs"
      rw [lbox_ok]
      walk_at "zs"
      unfold Bd.box
      rw [world_ok]
      walk_at "zs"
      have L4 := (Fr.push (ns := []) [AO.lst [A.bl (inW B.x), A.bl (inW B.y), A.bl (inW (B.x + B.w)), A.bl (inW (B.y + B.ht))]]).at L3 (by simp)
      have M4 := (Fr.push (ns := []) [AO.lst [A.bl (inW B.x), A.bl (inW B.y), A.bl (inW (B.x + B.w)), A.bl (inW (B.y + B.ht))]]).at M3 (by simp)
      have S4 := S3.push [AO.lst [A.bl (inW B.x), A.bl (inW B.y), A.bl (inW (B.x + B.w)), A.bl (inW (B.y + B.ht))]]
      have F4 : Fr [st] h0 (h3 ++ [AO.lst [A.bl (inW B.x), A.bl (inW B.y), A.bl (inW (B.x + B.w)), A.bl (inW (B.y + B.ht))]]) := F3.trans (Fr.push _)
      generalize h3 ++ [AO.lst [A.bl (inW B.x), A.bl (inW B.y), A.bl (inW (B.x + B.w)), A.bl (inW (B.y + B.ht))]] = h4 at *
      cases eW : (inW B.x && (inW B.y && (inW (B.x + B.w) && inW (B.y + B.ht))))
      · walk_at "zs"
        rw [kFr_nx]
        exact names_run hN n1 n2 n3 hs k (i + 1) _ _ _ bs h4 (by omega) L4 M4 S4 F4 (space_up P (by omega))
      · walk_at "zs"
        simp only [Bool.and_eq_true, inW, decide_eq_true_eq] at eW
        have g : GoodB B := by
          subst eB
          exact ⟨NL_ok _ (by
            unfold NL_at
            rw [List.getD_eq_getElem?_getD, List.getElem?_eq_getElem (show i < NL.length from hi)]
            exact List.getElem_mem _), eW.1.1, eW.2.2.1.2, eW.2.1.1, eW.2.2.2.2, b.w0, by have := b.w1; dsimp only; omega, b.h0, by have := b.h1; dsimp only; omega, b.m0, b.m1, b.z, b.c⟩
        rw [mApp_ok (h1 := h4) (h2 := h4) (k := sp) (y := B.v) (by walk_at "zs") L4 (by walk_at "zs") L4 (by rw [bv_len]; have := P.len; omega)]
        walk_at "zs"
        rw [kFr_nx]
        have nx : h4.set sp (.lst (bv bs ++ [B.v])) = h4.set sp (.lst (bv (bs ++ [B]))) := by unfold bv; simp
        rw [nx]
        refine names_run hN n1 n2 n3 hs k (i + 1) _ _ _ (bs ++ [B]) _ (by omega) (List.getElem?_set_self (lt_of_some L4)) (by rw [List.getElem?_set_ne n2]; exact M4) (skeep S4 (ZP.Fr.set (by simp)) n1) ⟨by simpa using F4.le, fun m hm hns => ?_⟩ (space_push P hi g (by rw [eB]) c)
        rw [List.getElem?_set_ne (by omega)]
        exact F4.eq m hm hns
    · walk_at "zs"
      rw [kFr_nx]
      exact names_run hN n1 n2 n3 hs k (i + 1) _ _ _ bs h3 (by omega) L3 M3 S3 F3 (space_up P (by omega))
theorem lspace_ok {st : Nat} {n : Int} {r : Rs A} (hr : F__law_space [.ref st, .int n] h = r) (S : Strm h st) (h0 : 0 ≤ n) (h1 : n ≤ 12) : ∃ bs h', r = .ok (.tup (bv bs)) h' ∧ Strm h' st ∧ Fr [st] h h' ∧ Space bs n.toNat := by
  subst hr
  unfold F__law_space m__law_space
  simp only [mFn_eq]
  walk_at "zs"
  generalize hr : k2' oIx _ (F__law_next _ _) = q
  obtain ⟨bv0, h1, rfl, mb, S1, f1⟩ := pick_at hr S rfl (by decide) (by decide)
  clear hr
  obtain ⟨b0, b1, rfl⟩ : ∃ b0 b1 : Int, bv0 = .tup [.int b0, .int b1] := by
    simp only [List.mem_cons, List.not_mem_nil, or_false] at mb
    rcases mb with rfl | rfl | rfl | rfl | rfl <;> exact ⟨_, _, rfl⟩
  clear mb
  walk_at "zs"
  have e0 : ∃ (N : Nat) (h3 : AH), mSl (mLst [(mC (.str "a")), (mC (.str "ball")), (mC (.str "c2")), (mC (.str "d")), (mC (.str "e")), (mC (.str "f")), (mC (.str "g")), (mC (.str "h")), (mC (.str "k")), (mC (.str "m")), (mC (.str "p")), (mC (.str "z"))]) oNone (oSome (mBi F__law_next [(mVar 0), (m2 oAdd (mVar 1) (mC (.int 1)))]))
      [some (.ref st), some (.int n), some (.tup [.int b0, .int b1]), some (.ref h1.length), none, none, none, none] (h1 ++ [.lst []]) = .ok (.ref (h3.length)) (h3 ++ [.lst ((NL.map A.str).take N)]) ∧ (N : Int) ≤ n ∧ Strm h3 st ∧ Fr [st] (h1 ++ [.lst []]) h3 := by
    walk_at "zs"
    generalize eA : h1 ++ [_] ++ [_] = HA
    have L : HA[(h1 ++ [AO.lst []]).length]? = some (.lst (NL.map A.str)) := by rw [← eA]; exact new_at _ _
    have SA : Strm HA st := by rw [← eA]; exact (S1.push _).push _
    have FA : Fr [st] (h1 ++ [AO.lst []]) HA := by rw [← eA]; exact Fr.push _
    generalize hr : F__law_next _ _ = q
    obtain ⟨N', h3, rfl, Na, Nb, S3, f3⟩ := next_at hr SA (by omega) (by omega)
    clear hr
    obtain ⟨N, rfl⟩ : ∃ N : Nat, N' = (N : Int) := ⟨N'.toNat, by omega⟩
    walk_at "zs"
    have st_lt := S1.lt
    rw [oSl_l (f3.at L (by simp; omega)), cut_take (by show N ≤ 12; omega)]
    exact ⟨N, h3, rfl, by omega, S3, FA.trans f3⟩
  obtain ⟨N, h3, e1, hN, S3, F3⟩ := e0
  have st_lt := S1.lt
  have lenN : ((NL.map A.str).take N).length = N := by
    rw [List.length_take, List.length_map]
    exact Nat.min_eq_left (by show N ≤ 12; omega)
  have LE : h1.length + 1 ≤ h3.length := by simpa using F3.le
  have LS : (h3 ++ [AO.lst ((NL.map A.str).take N)])[h1.length]? = some (.lst (bv [])) := (Fr.push (ns := []) _).at (F3.at (new_at h1 (.lst [])) (by simp; omega)) (by simp)
  have F4 : Fr [st] h (h3 ++ [AO.lst ((NL.map A.str).take N)]) := by
    refine ((f1.trans (Fr.push _)).trans F3).trans (Fr.push _)
  obtain ⟨s4, s5, s6, bs, h9, e9, L9, S9, F9, P9⟩ := names_run (st := st) (nl := h3.length) (sp := h1.length) (N := N) (s1 := some (.int n)) (b0 := b0) (b1 := b1) (h0 := h) (by omega) (by omega) (by omega) (by omega) (by have := f1.le; omega) N 0 none none none [] _ (by omega) LS (new_at _ _) (S3.push _) F4 ⟨fun _ hb => by simp at hb, Nat.le_refl _, fun _ hb => by simp at hb, List.Pairwise.nil, List.Pairwise.nil⟩
  rw [mFor_lst e1 (new_at _ _), lenN, e9]
  unfold m__law_space_r3
  walk_at "zs"
  rw [show bTuple [.ref h1.length] h9 = .ok (.tup (bv bs)) h9 by simp only [bTuple, lsA, L9]]
  exact ⟨bs, h9, rfl, S9, F9, space_up P9 (by omega)⟩
end
end ZO

/-! filtered lists, names in lists, bodies that are equal -/
namespace ZO
open PySem PySem.Spec PyProof.Rows L2 Z ZL ZP ZN ZC ZK
local macro_rules | `(tactic| walk_at "zs") => `(tactic| simp (config := { decide := false }) only [m1_eq, k1_ok, m2_eq, k2_ok, k2'_ok, mVar0, mVarS, mC_eq, mTst_eq, mTru_eq, kTru_ok, tru_bl, tru_int, tru_non, tru_tup, mAndT_eq, kAndT_t, kAndT_f, mOrT_eq, kOrT_t, kOrT_f, mNotT_eq, kNotT_ok, mChain_eq, kC1_ok, kC2_ok, kC3_t, kC3_f, kC4_ok, mB_eq, kB_ok, mAnd_eq, kAnd_ok, kAnd2_t, kAnd2_f, mOr_eq, kOr_ok, kOr2_t, kOr2_f, mNot_eq, kNot_ok, kNot2_ok, mIfE_eq, kIfE_t, kIfE_f, mArgs_nil, mArgs_cons, kA_ok, kA2_ok, mBi_eq, kBi_ok, mTup_eq, mLst_eq, mIsi_eq, kIsi_int, kIsi_bl, kIsi_str, kIsi_non, kIsi_tup, kIsi2_ok, kb_ii, kb_ib, kb_is, kb_it, kb_il, kb_bi, kb_bb, kb_bs, kb_bt, kb_bl, kb_si, kb_sb, kb_ss, kb_st, kb_sl, kb_ni, kb_nb, kb_ns, kb_nt, kb_nl, kb_ti, kb_tb, kb_ts, kb_tt, kb_tl, kb_li, kb_lb, kb_ls, kb_lt, kb_ll, mSeq_eq, kSeq_nx, kSeq_rt, kSeq_bk, kSeq_ct, kSeq_ex, mIf_eq, kIf_t, kIf_f, kIf_ex, mAsg_eq, kAsg_ok, kAsg_ex, gN_eq, gSb_eq, kSb_ok, kSb2_ok, gsNil_eq, gsCons_eq, mSkip_eq, mBreak_eq, mCont_eq, mExpr_eq, kExpr_ok, kExpr_ex, mRet_eq, kRet_ok, kRet_ex, mRetN_eq, mPar_eq, kPar_ok, mAug_eq, kAug0_ok, kAug_ok, kAug2_ok, mRaise_eq, kRaise_ok, mFn_eq, kFn_nx, kFn_rt, kFn_ex, oAdd_i, oIAdd_i, oSub_i, oNeg_i, oLt_i, oLe_i, oGt_i, oGe_i, oEq_i, oNe_i, oEq_s, oNe_s, oEq_b, oNe_b, oIs_n, oIsN_n, oIs_b, oIsN_b, isN_int, isN_bl, isN_str, isN_tup, isN_ref, isN_non, bAbs_i, bInt_i, bInt_b, bLen_t, bMax2_i, bMin2_i, bGcd_i, atI_0, List.set_cons_zero, List.set_cons_succ, List.map_cons, List.map_nil, List.cons_append, List.nil_append, List.length_cons, List.length_nil, List.replicate, Bool.not_true, Bool.not_false, decide_true, decide_false, kLst_ok, kTup_ok, Nat.reduceAdd, Nat.reduceLeDiff, Int.reducePow, Int.reduceToNat, Int.reduceMul, Int.reduceAdd, Int.reduceSub, Int.reduceNeg, kBi_ex, kA_ex, kA2_ex, mSl_eq, kSl1_ok, kSl2_ok, kSl3_ok, oNone_eq, oSome_eq, kOS_ok, oSl_t, mTry_eq, kTry_nx, kTry_rt, kRaise_ok, kExpr_ex, kSeq_ex, kRet_ex])
local macro_rules | `(tactic| walk_at "za") => `(tactic| simp (config := { decide := false }) only [m1_eq, k1_ok, m2_eq, k2_ok, k2'_ok, mVar0, mVarS, mC_eq, mTst_eq, mTru_eq, kTru_ok, tru_bl, tru_int, tru_non, tru_tup, mAndT_eq, kAndT_t, kAndT_f, mOrT_eq, kOrT_t, kOrT_f, mNotT_eq, kNotT_ok, mChain_eq, kC1_ok, kC2_ok, kC3_t, kC3_f, kC4_ok, mB_eq, kB_ok, mAnd_eq, kAnd_ok, kAnd2_t, kAnd2_f, mOr_eq, kOr_ok, kOr2_t, kOr2_f, mNot_eq, kNot_ok, kNot2_ok, mIfE_eq, kIfE_t, kIfE_f, mArgs_nil, mArgs_cons, kA_ok, kA2_ok, mBi_eq, kBi_ok, mTup_eq, mLst_eq, mIsi_eq, kIsi_int, kIsi_bl, kIsi_str, kIsi_non, kIsi_tup, kIsi2_ok, kb_ii, kb_ib, kb_is, kb_it, kb_il, kb_bi, kb_bb, kb_bs, kb_bt, kb_bl, kb_si, kb_sb, kb_ss, kb_st, kb_sl, kb_ni, kb_nb, kb_ns, kb_nt, kb_nl, kb_ti, kb_tb, kb_ts, kb_tt, kb_tl, kb_li, kb_lb, kb_ls, kb_lt, kb_ll, mSeq_eq, kSeq_nx, kSeq_rt, kSeq_bk, kSeq_ct, kSeq_ex, mIf_eq, kIf_t, kIf_f, kIf_ex, mAsg_eq, kAsg_ok, kAsg_ex, gN_eq, gSb_eq, kSb_ok, kSb2_ok, gsNil_eq, gsCons_eq, mSkip_eq, mBreak_eq, mCont_eq, mExpr_eq, kExpr_ok, kExpr_ex, mRet_eq, kRet_ok, kRet_ex, mRetN_eq, mPar_eq, kPar_ok, mAug_eq, kAug0_ok, kAug_ok, kAug2_ok, mRaise_eq, kRaise_ok, mFn_eq, kFn_nx, kFn_rt, kFn_ex, oAdd_i, oIAdd_i, oSub_i, oNeg_i, oLt_i, oLe_i, oGt_i, oGe_i, oEq_i, oNe_i, oEq_s, oNe_s, oEq_b, oNe_b, oIs_n, oIsN_n, oIs_b, oIsN_b, isN_int, isN_bl, isN_str, isN_tup, isN_ref, isN_non, bAbs_i, bInt_i, bInt_b, bLen_t, bMax2_i, bMin2_i, bGcd_i, atI_0, List.set_cons_zero, List.set_cons_succ, List.map_cons, List.map_nil, List.cons_append, List.nil_append, List.length_cons, List.length_nil, List.replicate, Bool.not_true, Bool.not_false, decide_true, decide_false, kLst_ok, kTup_ok, Nat.reduceAdd, Nat.reduceLeDiff, Int.reducePow, Int.reduceToNat, Int.reduceMul, Int.reduceAdd, Int.reduceSub, Int.reduceNeg, kBi_ex, kA_ex, kA2_ex, mSl_eq, kSl1_ok, kSl2_ok, kSl3_ok, oNone_eq, oSome_eq, kOS_ok, oSl_t, mTry_eq, kTry_nx, kTry_rt, kRaise_ok, kExpr_ex, kSeq_ex, kRet_ex, *])
section
variable {it : IT} {me : ME} {tt : MT} {sa s : SA} {h : AH} {m : ME}
theorem lc_n {n j k i : Nat} {v : A} (e1 : it.item i h = some v) (e2 : tt (sa.set j (some v)) h = .ok false h) : lcGo it (c1 j) tt me n sa (k + 1) i h = lcGo it (c1 j) tt me n sa k (i + 1) h := by
  rw [lcGo]
  simp only [e1, c1, e2, Rs.bindN, Bool.false_eq_true, if_false]
theorem lc_y {n j k i : Nat} {v y : A} {acc : List A} (e1 : it.item i h = some v) (e2 : tt (sa.set j (some v)) h = .ok true h) (e3 : me (sa.set j (some v)) h = .ok y h) (e4 : h[n]? = some (.lst acc)) (hl : acc.length < 1000) :
    lcGo it (c1 j) tt me n sa (k + 1) i h = lcGo it (c1 j) tt me n sa k (i + 1) (h.set n (.lst (acc ++ [y]))) := by
  rw [lcGo]
  have c : acc.length < sizeLine := by rw [sizeLine_eq]; omega
  simp only [e1, c1, e2, Rs.bindN, if_true, e3, e4, if_pos c]
theorem lc_filt {j N : Nat} {xs : List A} {p : A → Bool} {F : A → A} (hN : xs.length = N) (hl : N ≤ 1000) (f : ∀ i (hi : i < xs.length) acc, it.item i (h ++ [.lst acc]) = some xs[i])
    (ft : ∀ x ∈ xs, ∀ acc, tt (sa.set j (some x)) (h ++ [.lst acc]) = .ok (p x) (h ++ [.lst acc])) (fm : ∀ x ∈ xs, p x = true → ∀ acc, me (sa.set j (some x)) (h ++ [.lst acc]) = .ok (F x) (h ++ [.lst acc])) (hf : ∀ acc, it.fin (h ++ [.lst acc]) = true) :
    ∀ k i, i + k = N → lcGo it (c1 j) tt me h.length sa k i (h ++ [.lst (((xs.take i).filter p).map F)]) = .ok (.ref h.length) (h ++ [.lst ((xs.filter p).map F)])
  | 0, i, e => by
    rw [lc_0 (hf _), List.take_of_length_le (by omega)]
  | k + 1, i, e => by
    have hi : i < xs.length := by omega
    have tk : xs.take (i + 1) = xs.take i ++ [xs[i]] := by simp
    cases c : p xs[i]
    · rw [lc_n (f i hi _) (by rw [ft _ (List.getElem_mem hi), c])]
      have := lc_filt hN hl f ft fm hf k (i + 1) (by omega)
      rw [tk, List.filter_append, List.filter_cons, c] at this
      simpa using this
    · have qq := lc_y (it := it) (me := me) (tt := tt) (sa := sa) (h := h ++ [.lst (((xs.take i).filter p).map F)]) (n := h.length) (j := j) (k := k) (i := i) (v := xs[i]) (y := F xs[i]) (acc := ((xs.take i).filter p).map F) (f i hi _) (by rw [ft _ (List.getElem_mem hi), c]) (fm _ (List.getElem_mem hi) c _) (new_at _ _) (by
        have : ((xs.take i).filter p).length ≤ (xs.take i).length := List.length_filter_le _ _
        rw [List.length_take] at this
        rw [List.length_map]
        omega)
      rw [qq]
      have := lc_filt hN hl f ft fm hf k (i + 1) (by omega)
      rw [tk, List.filter_append, List.filter_cons, c] at this
      rw [List.set_append_right _ _ (Nat.le_refl _)]
      simpa using this
theorem lcf_tup {j : Nat} {vs : List Nat} {xs : List A} {p : A → Bool} {F : A → A} (e : m s h = .ok (.tup xs) h) (hl : xs.length ≤ 1000) (ft : ∀ x ∈ xs, ∀ h, tt ((wipeA s vs).set j (some x)) h = .ok (p x) h) (fm : ∀ x ∈ xs, ∀ h, me ((wipeA s vs).set j (some x)) h = .ok (F x) h) :
    mLc (mItT m) (c1 j) tt me vs s h = .ok (.ref h.length) (h ++ [.lst ((xs.filter p).map F)]) := by
  have e1 : mLc (mItT m) (c1 j) tt me vs s h = lcGo (IT.tup xs) (c1 j) tt me h.length (wipeA s vs) xs.length 0 (h ++ [.lst []]) := by
    unfold mLc mItT
    rw [e]
    exact nr rfl
  rw [e1]
  exact lc_filt (it := IT.tup xs) (xs := xs) (N := xs.length) rfl hl (fun i hi acc => List.getElem?_eq_getElem hi) (fun x hx acc => ft x hx _) (fun x hx _ acc => fm x hx _) (fun _ => rfl) xs.length 0 (by omega)
theorem lcf_rng {j N : Nat} {vs : List Nat} {p : A → Bool} {F : A → A} (e : m s h = .ok (.int (N : Int)) h) (hl : N ≤ 1000) (ft : ∀ i, i < N → ∀ acc, tt ((wipeA s vs).set j (some (.int (i : Int)))) (h ++ [.lst acc]) = .ok (p (.int (i : Int))) (h ++ [.lst acc])) (fm : ∀ i, i < N → p (.int (i : Int)) = true → ∀ acc, me ((wipeA s vs).set j (some (.int (i : Int)))) (h ++ [.lst acc]) = .ok (F (.int (i : Int))) (h ++ [.lst acc])) :
    mLc (mRng1 m) (c1 j) tt me vs s h = .ok (.ref h.length) (h ++ [.lst ((((List.range N).map fun i : Nat => A.int (i : Int)).filter p).map F)]) := by
  have e1 : mLc (mRng1 m) (c1 j) tt me vs s h = lcGo (IT.rng 0 N) (c1 j) tt me h.length (wipeA s vs) N 0 (h ++ [.lst []]) := by
    have l1 : mRng1 m s h = .ok (IT.rng 0 N) h := by
      rw [rng_B, rngB_ok (n := (N : Int)) _ e (c62 (by omega)), Int.toNat_natCast]
    unfold mLc
    rw [l1]
    exact nr rfl
  rw [e1]
  refine lc_filt (it := IT.rng 0 N) (xs := (List.range N).map fun i : Nat => A.int (i : Int)) (N := N) (by simp) hl (fun i hi acc => ?_) (fun x hx acc => ?_) (fun x hx c acc => ?_) (fun _ => rfl) N 0 (by omega)
  · rw [List.getElem_map, List.getElem_range]
    show some (A.int (0 + (i : Int))) = _
    rw [Int.zero_add]
  · obtain ⟨i, hi, rfl⟩ := List.mem_map.mp hx
    exact ft i (List.mem_range.mp hi) acc
  · obtain ⟨i, hi, rfl⟩ := List.mem_map.mp hx
    exact fm i (List.mem_range.mp hi) c acc
end
section
variable {h : AH}
theorem tru_lst {n : Nat} {xs : List A} (e : h[n]? = some (.lst xs)) : tru (.ref n) h = .ok (!xs.isEmpty) h := by simp only [tru, e]
theorem in_strs {n : Nat} {x : Str} {ss : List Str} (e : h[n]? = some (.lst (ss.map .str))) : oIn (.str x) (.ref n) h = .ok (.bl (ss.any fun y => decide (y = x))) h := by
  have : inA h (.str x) (.ref n) = some (ss.any fun y => decide (y = x)) := by
    unfold inA
    simp only [sqA, lsA, e]
    have f : (flatA (A.str x) && (ss.map A.str).all flatA) = true := by
      rw [List.all_map]
      simp [flatA, Function.comp_def]
    rw [if_pos f, List.any_map]
    congr 2
  unfold oIn
  rw [this]
theorem eqv_bd {b : Bd} : EqV 7 b.v := eqv_tup (fun v hv => by
  simp only [List.mem_cons, List.not_mem_nil, or_false] at hv
  rcases hv with rfl | rfl | rfl | rfl | rfl | rfl | rfl | rfl | rfl | rfl
  · exact eqv_str
  all_goals exact eqv_int) (by simp)
theorem eqv_bv {bs : List Bd} (hl : bs.length < 900) : EqV 8 (.tup (bv bs)) := eqv_tup (fun v hv => by
  obtain ⟨b, hb, rfl⟩ := List.mem_map.mp hv
  exact eqv_bd) (by rw [bv_len]; exact hl)
theorem nm_ne {bs : List Bd} {n : Nat} (S : Space bs n) {i j : Nat} (hi : i < bs.length) (hj : j < bs.length) (e : bs[i].nm = bs[j].nm) : i = j := by
  have key : ∀ a b : Bd, Rn a b → a.nm ≠ b.nm := fun a b ⟨k, l, h1, h2, h3, h4⟩ e => by
    have q := (NL_lt k l h1 h2).1
    rw [← h3, ← h4, e, h4, NL_eq l h2] at q
    cases q
  rcases Nat.lt_trichotomy i j with q | q | q
  · exact absurd e (key _ _ (List.pairwise_iff_getElem.mp S.asc i j hi hj q))
  · exact q
  · exact absurd e.symm (key _ _ (List.pairwise_iff_getElem.mp S.asc j i hj hi q))
theorem nm_inj {bs : List Bd} {n : Nat} (S : Space bs n) {a b : Bd} (ha : a ∈ bs) (hb : b ∈ bs) (e : a.nm = b.nm) : a = b := by
  obtain ⟨i, hi, rfl⟩ := List.getElem_of_mem ha
  obtain ⟨j, hj, rfl⟩ := List.getElem_of_mem hb
  have := nm_ne S hi hj e
  subst this
  rfl
end
end ZO

/-! loops, comprehensions, generators: one lemma for each, whatever is walked -/
namespace LP
open PySem PySem.Spec PyProof.Rows L2 Z ZL ZP ZN ZC ZK ZO
section
variable {s : SA} {h h1 h2 : AH} {g : MG} {b : MS} {it : IT} {mi : MI} {m n : ME} {xs : List A} {N k : Nat}
/-! ### what is walked -/
/-- it walks F 0, F 1, .. F (N - 1) while P stands -/
structure Wk (it : IT) (N : Nat) (F : Nat → A) (P : AH → Prop) : Prop where
  cnt : it.cnt = N
  item : ∀ i h, i < N → P h → it.item i h = some (F i)
  fin : ∀ h, P h → it.fin h = true
theorem Wk.weak {F : Nat → A} {P Q : AH → Prop} (w : Wk it N F P) (f : ∀ h, Q h → P h) : Wk it N F Q := ⟨w.cnt, fun i h hi q => w.item i h hi (f h q), fun h q => w.fin h (f h q)⟩
theorem wk_rng {lo : Int} : Wk (IT.rng lo N) N (fun i => .int (lo + (i : Int))) (fun _ => True) := ⟨rfl, fun _ _ _ _ => rfl, fun _ _ => rfl⟩
theorem wk_rng0 : Wk (IT.rng 0 N) N (fun i => .int (i : Int)) (fun _ => True) := ⟨rfl, fun i _ _ _ => by show some (A.int (0 + (i : Int))) = _; rw [Int.zero_add], fun _ _ => rfl⟩
theorem wk_tup {F : Nat → A} (f : ∀ i (hi : i < xs.length), xs[i] = F i) : Wk (IT.tup xs) xs.length F (fun _ => True) := ⟨rfl, fun i h hi _ => by show xs[i]? = _; rw [List.getElem?_eq_getElem hi, f i hi], fun _ _ => rfl⟩
theorem wk_lst {F : Nat → A} (f : ∀ i (hi : i < xs.length), xs[i] = F i) : Wk (IT.lst k xs.length) xs.length F (fun h => h[k]? = some (.lst xs)) := ⟨rfl, fun i h hi q => by
    show (match lsA h k with
      | some ys => if ys.length = xs.length then ys[i]? else none
      | none => none) = _
    simp only [lsA, q, if_true]
    rw [List.getElem?_eq_getElem hi, f i hi], fun h q => by
    show (match lsA h k with
      | some ys => ys.length == xs.length
      | none => false) = true
    simp only [lsA, q, beq_self_eq_true]⟩
theorem wk_str {z : Str} : Wk (IT.str z) z.cps.size (fun i => .str ⟨#[(z.cps[i]?).getD 0]⟩) (fun _ => True) := ⟨rfl, fun i h hi _ => by
    show (z.cps[i]?.map fun c => A.str ⟨#[c]⟩) = _
    rw [Array.getElem?_eq_getElem hi]; rfl, fun _ _ => rfl⟩
theorem r1_ok {i : Int} (e : m s h = .ok (.int i) h1) (c : -1000000000 ≤ i ∧ i < 1000000000) : mRng1 m s h = .ok (IT.rng 0 i.toNat) h1 := by
  have p : (2 : Int) ^ 62 = 4611686018427387904 := rfl
  unfold mRng1
  rw [e]
  dsimp only [Rs.bind]
  rw [if_pos (by rw [p]; omega)]
theorem r1n_ok (e : m s h = .ok (.int (N : Int)) h1) (c : N < 1000000000) : mRng1 m s h = .ok (IT.rng 0 N) h1 := by
  rw [r1_ok e (by omega), Int.toNat_natCast]
theorem r2_ok {i j : Int} (e1 : m s h = .ok (.int i) h1) (e2 : n s h1 = .ok (.int j) h2) (c : -1000000000 ≤ i ∧ i < 1000000000 ∧ -1000000000 ≤ j ∧ j < 1000000000) : mRng2 m n s h = .ok (IT.rng i (j - i).toNat) h2 := by
  have p : (2 : Int) ^ 62 = 4611686018427387904 := rfl
  unfold mRng2
  rw [e1]
  dsimp only [Rs.bind]
  rw [e2]
  dsimp only [Rs.bind]
  rw [if_pos (by rw [p]; omega)]
theorem itT_ok (e : m s h = .ok (.tup xs) h1) : mItT m s h = .ok (IT.tup xs) h1 := by
  unfold mItT
  rw [e]
theorem itL_ok (e : m s h = .ok (.ref k) h1) (e2 : h1[k]? = some (.lst xs)) : mItL m s h = .ok (IT.lst k xs.length) h1 := by
  unfold mItL
  rw [e]
  simp only [Rs.bind, lsA, e2]
theorem itS_ok {z : Str} (e : m s h = .ok (.str z) h1) : mItS m s h = .ok (IT.str z) h1 := by
  unfold mItS
  rw [e]
/-! ### for -/
theorem mFor_it (e : mi s h = .ok it h1) : mFor mi g b s h = forGo it g b it.cnt 0 s h1 := by
  unfold mFor
  rw [e]
theorem fgo_run {F : Nat → A} {P : AH → Prop} (w : Wk it N F P) (inv : Nat → SA → AH → Prop) (iP : ∀ i s h, inv i s h → P h)
    (st : ∀ i s h, i < N → inv i s h → ∃ s' h', (kSeq b (g (F i) s h) = .nx s' h' ∨ kSeq b (g (F i) s h) = .ct s' h') ∧ inv (i + 1) s' h') :
    ∀ k i s h, i + k = N → inv i s h → ∃ s' h', forGo it g b k i s h = .nx s' h' ∧ inv N s' h'
  | 0, i, s, h, e, q => ⟨s, h, by rw [forGo]; simp only [w.fin h (iP _ _ _ q), if_true], by rw [← e]; exact q⟩
  | k + 1, i, s, h, e, q => by
    obtain ⟨s', h', e1, q1⟩ := st i s h (by omega) q
    obtain ⟨s2, h2, e2, q2⟩ := fgo_run w inv iP st k (i + 1) s' h' (by omega) q1
    refine ⟨s2, h2, ?_, q2⟩
    rw [fr_eq (w.item i h (by omega) (iP _ _ _ q))]
    rcases e1 with e1 | e1
    · rw [e1, kFr_nx, e2]
    · rw [e1, kFr_ct, e2]
/-- a loop that runs to its end -/
theorem for_run {F : Nat → A} {P : AH → Prop} (inv : Nat → SA → AH → Prop) (e : mi s h = .ok it h1) (w : Wk it N F P) (iP : ∀ i s h, inv i s h → P h) (h0 : inv 0 s h1)
    (st : ∀ i s h, i < N → inv i s h → ∃ s' h', kSeq b (g (F i) s h) = .nx s' h' ∧ inv (i + 1) s' h') : ∃ s' h', mFor mi g b s h = .nx s' h' ∧ inv N s' h' := by
  rw [mFor_it e, w.cnt]
  exact fgo_run w inv iP (fun i s h hi q => by obtain ⟨s', h', e, q⟩ := st i s h hi q; exact ⟨s', h', .inl e, q⟩) N 0 s h1 (by omega) h0
theorem for_runC {F : Nat → A} {P : AH → Prop} (inv : Nat → SA → AH → Prop) (e : mi s h = .ok it h1) (w : Wk it N F P) (iP : ∀ i s h, inv i s h → P h) (h0 : inv 0 s h1)
    (st : ∀ i s h, i < N → inv i s h → ∃ s' h', (kSeq b (g (F i) s h) = .nx s' h' ∨ kSeq b (g (F i) s h) = .ct s' h') ∧ inv (i + 1) s' h') : ∃ s' h', mFor mi g b s h = .nx s' h' ∧ inv N s' h' := by
  rw [mFor_it e, w.cnt]
  exact fgo_run w inv iP st N 0 s h1 (by omega) h0
/-- a loop that may end by a return or a break -/
theorem fgo_out {F : Nat → A} {P : AH → Prop} (w : Wk it N F P) (inv : Nat → SA → AH → Prop) (Q : Nat → Rt → Prop) (iP : ∀ i s h, inv i s h → P h)
    (st : ∀ i s h, i < N → inv i s h → (∃ s' h', kSeq b (g (F i) s h) = .nx s' h' ∧ inv (i + 1) s' h') ∨ (∃ v h', kSeq b (g (F i) s h) = .rt v h' ∧ Q i (.rt v h')) ∨ (∃ s' h', kSeq b (g (F i) s h) = .bk s' h' ∧ Q i (.nx s' h'))) :
    ∀ k i s h, i + k = N → inv i s h → (∃ j r, i ≤ j ∧ j < N ∧ forGo it g b k i s h = r ∧ Q j r) ∨ ∃ s' h', forGo it g b k i s h = .nx s' h' ∧ inv N s' h'
  | 0, i, s, h, e, q => .inr ⟨s, h, by rw [forGo]; simp only [w.fin h (iP _ _ _ q), if_true], by rw [← e]; exact q⟩
  | k + 1, i, s, h, e, q => by
    rw [fr_eq (w.item i h (by omega) (iP _ _ _ q))]
    rcases st i s h (by omega) q with ⟨s', h', e1, q1⟩ | ⟨v, h', e1, q1⟩ | ⟨s', h', e1, q1⟩
    · rw [e1, kFr_nx]
      rcases fgo_out w inv Q iP st k (i + 1) s' h' (by omega) q1 with ⟨j, r, a, b, c, d⟩ | c
      · exact .inl ⟨j, r, by omega, b, c, d⟩
      · exact .inr c
    · rw [e1]
      exact .inl ⟨i, _, by omega, by omega, rfl, q1⟩
    · rw [e1, kFr_bk]
      exact .inl ⟨i, _, by omega, by omega, rfl, q1⟩
theorem for_out {F : Nat → A} {P : AH → Prop} (inv : Nat → SA → AH → Prop) (Q : Nat → Rt → Prop) (e : mi s h = .ok it h1) (w : Wk it N F P) (iP : ∀ i s h, inv i s h → P h) (h0 : inv 0 s h1)
    (st : ∀ i s h, i < N → inv i s h → (∃ s' h', kSeq b (g (F i) s h) = .nx s' h' ∧ inv (i + 1) s' h') ∨ (∃ v h', kSeq b (g (F i) s h) = .rt v h' ∧ Q i (.rt v h')) ∨ (∃ s' h', kSeq b (g (F i) s h) = .bk s' h' ∧ Q i (.nx s' h'))) :
    (∃ j r, j < N ∧ mFor mi g b s h = r ∧ Q j r) ∨ ∃ s' h', mFor mi g b s h = .nx s' h' ∧ inv N s' h' := by
  rw [mFor_it e, w.cnt]
  rcases fgo_out w inv Q iP st N 0 s h1 (by omega) h0 with ⟨j, r, _, b, c, d⟩ | c
  · exact .inl ⟨j, r, b, c, d⟩
  · exact .inr c
/-! ### while -/
theorem wh_run {c : MT} (inv Q : Nat → SA → AH → Prop) {M : Nat} (iM : ∀ i s h, inv i s h → i ≤ M)
    (st : ∀ i s h, inv i s h → (∃ h', c s h = .ok false h' ∧ Q i s h') ∨ (∃ h1 s' h', c s h = .ok true h1 ∧ (b s h1 = .nx s' h' ∨ b s h1 = .ct s' h') ∧ inv (i + 1) s' h')) :
    ∀ N i s h, inv i s h → M < N + i → ∃ j s' h', i ≤ j ∧ j ≤ M ∧ mWhile c b N s h = .nx s' h' ∧ Q j s' h'
  | 0, i, s, h, q, l => by have := iM i s h q; omega
  | N + 1, i, s, h, q, l => by
    rw [wh_eq]
    rcases st i s h q with ⟨h', e1, q1⟩ | ⟨h1, s', h', e1, e2, q1⟩
    · rw [e1, kWh_f]
      exact ⟨i, s, h', Nat.le_refl _, iM i s h q, rfl, q1⟩
    · obtain ⟨j, s3, h3, a, b', c', d⟩ := wh_run inv Q iM st N (i + 1) s' h' q1 (by omega)
      refine ⟨j, s3, h3, by omega, b', ?_, d⟩
      rw [e1, kWh_t]
      rcases e2 with e2 | e2
      · rw [e2, kWh2_nx, c']
      · rw [e2]; exact c'
/-! ### list comprehensions -/
section
variable {tt : MT} {me : ME} {sa : SA} {j : Nat} {vs : List Nat}
/-- elements one by one, some left out; ys i: what is made of the i-th, or none -/
theorem lcg {F : Nat → A} {P : AH → Prop} {q0 : Nat} (w : Wk it N F P) (ys : Nat → Option A) (inv : Nat → AH → Prop) (iP : ∀ i h, inv i h → P h) (hN : N ≤ 5000)
    (st : ∀ i h acc, i < N → inv i h → h[q0]? = some (.lst acc) → (ys i = none ∧ ∃ h', tt (sa.set j (some (F i))) h = .ok false h' ∧ h'[q0]? = some (.lst acc) ∧ inv (i + 1) h') ∨
      (∃ y h' h4, ys i = some y ∧ tt (sa.set j (some (F i))) h = .ok true h' ∧ me (sa.set j (some (F i))) h' = .ok y h4 ∧ h4[q0]? = some (.lst acc) ∧ inv (i + 1) (h4.set q0 (.lst (acc ++ [y]))))) :
    ∀ k i acc h, i + k = N → inv i h → h[q0]? = some (.lst acc) → acc.length + k ≤ 5000 →
    ∃ h', lcGo it (c1 j) tt me q0 sa k i h = .ok (.ref q0) h' ∧ h'[q0]? = some (.lst (acc ++ (List.range' i k).filterMap ys)) ∧ inv N h'
  | 0, i, acc, h, e, q, h0, hl => ⟨h, lc_0 (w.fin h (iP _ _ q)), by simpa using h0, by rw [← e]; exact q⟩
  | k + 1, i, acc, h, e, q, h0, hl => by
    have ei := w.item i h (by omega) (iP _ _ q)
    rcases st i h acc (by omega) q h0 with ⟨ey, h', e1, e2, q2⟩ | ⟨y, h', h4, ey, e1, e2, e3, q2⟩
    · obtain ⟨h5, a, b, c⟩ := lcg w ys inv iP hN st k (i + 1) acc h' (by omega) q2 e2 (by omega)
      refine ⟨h5, ?_, ?_, c⟩
      · rw [lcGo]
        simp only [ei, c1, e1, Rs.bindN, if_neg Bool.false_ne_true]
        exact a
      · rw [b, List.range'_succ, List.filterMap_cons, ey]
    · obtain ⟨h5, a, b, c⟩ := lcg w ys inv iP hN st k (i + 1) (acc ++ [y]) _ (by omega) q2 (List.getElem?_set_self (lt_of_some e3)) (by simp; omega)
      refine ⟨h5, ?_, ?_, c⟩
      · rw [lcGo]
        simp only [ei, c1, e1, Rs.bindN, if_true, e2, e3]
        rw [if_pos (by rw [sizeLine_eq]; omega)]
        exact a
      · rw [b, List.range'_succ, List.filterMap_cons, ey, List.append_assoc]; rfl
theorem fr_setN {a b : AH} {q : Nat} {o : AO} (f : Fr [] a b) (hq : a.length ≤ q) : Fr [] a (b.set q o) := ⟨by rw [List.length_set]; exact f.le, fun m hm hn => by rw [List.getElem?_set_ne (by omega)]; exact f.eq m hm hn⟩
/-- [me for x in mi] -/
theorem lc_all {F : Nat → A} {P : AH → Prop} (ys : Nat → A) (e : mi s h = .ok it h1) (w : Wk it N F P) (hP : ∀ h', Fr [] h1 h' → P h') (hN : N ≤ 5000)
    (st : ∀ i h', i < N → Fr [] h1 h' → ∃ h4, me ((wipeA s vs).set j (some (F i))) h' = .ok (ys i) h4 ∧ Fr [] h' h4) :
    ∃ h', mLc mi (c1 j) mYes me vs s h = .ok (.ref h1.length) h' ∧ h'[h1.length]? = some (.lst ((List.range N).map ys)) ∧ Fr [] h1 h' := by
  obtain ⟨h', a, b, c⟩ := lcg (tt := mYes) (me := me) (sa := wipeA s vs) (j := j) (q0 := h1.length) w (fun i => some (ys i)) (fun _ h => Fr [] h1 h) (fun _ h q => hP h q) hN (fun i h acc hi q e0 => by
    obtain ⟨h4, e4, f4⟩ := st i h hi q
    exact .inr ⟨ys i, h, h4, rfl, rfl, e4, f4.at e0 (by simp), fr_setN (q.trans f4) (Nat.le_refl _)⟩) N 0 [] (h1 ++ [.lst []]) (by omega) (ZP.Fr.push _) (new_at _ _) (by simpa using hN)
  refine ⟨h', ?_, ?_, c⟩
  · unfold mLc
    rw [e]
    show lcGo it (c1 j) mYes me h1.length (wipeA s vs) it.cnt 0 (h1 ++ [.lst []]) = _
    rw [w.cnt]
    exact a
  · rw [b, List.nil_append, List.range_eq_range', List.filterMap_eq_map' ]
/-- [me for x in mi if tt] -/
theorem lc_flt {F : Nat → A} {P : AH → Prop} (ys : Nat → Option A) (e : mi s h = .ok it h1) (w : Wk it N F P) (hP : ∀ h', Fr [] h1 h' → P h') (hN : N ≤ 5000)
    (st : ∀ i h', i < N → Fr [] h1 h' → (ys i = none ∧ ∃ h4, tt ((wipeA s vs).set j (some (F i))) h' = .ok false h4 ∧ Fr [] h' h4) ∨
      (∃ y h4 h5, ys i = some y ∧ tt ((wipeA s vs).set j (some (F i))) h' = .ok true h4 ∧ Fr [] h' h4 ∧ me ((wipeA s vs).set j (some (F i))) h4 = .ok y h5 ∧ Fr [] h4 h5)) :
    ∃ h', mLc mi (c1 j) tt me vs s h = .ok (.ref h1.length) h' ∧ h'[h1.length]? = some (.lst ((List.range N).filterMap ys)) ∧ Fr [] h1 h' := by
  obtain ⟨h', a, b, c⟩ := lcg (tt := tt) (me := me) (sa := wipeA s vs) (j := j) (q0 := h1.length) w ys (fun _ h => Fr [] h1 h) (fun _ h q => hP h q) hN (fun i h acc hi q e0 => by
    rcases st i h hi q with ⟨ey, h4, e4, f4⟩ | ⟨y, h4, h5, ey, e4, f4, e5, f5⟩
    · exact .inl ⟨ey, h4, e4, f4.at e0 (by simp), q.trans f4⟩
    · exact .inr ⟨y, h4, h5, ey, e4, e5, (f4.trans f5).at e0 (by simp), fr_setN ((q.trans f4).trans f5) (Nat.le_refl _)⟩) N 0 [] (h1 ++ [.lst []]) (by omega) (ZP.Fr.push _) (new_at _ _) (by simpa using hN)
  refine ⟨h', ?_, ?_, c⟩
  · unfold mLc
    rw [e]
    show lcGo it (c1 j) tt me h1.length (wipeA s vs) it.cnt 0 (h1 ++ [.lst []]) = _
    rw [w.cnt]
    exact a
  · rw [b, List.nil_append, List.range_eq_range']
/-! ### all, any of generators -/
theorem gag {F : Nat → A} {P : AH → Prop} {d : Bool} (w : Wk it N F P) (p : Nat → Bool) (hP : ∀ h', Fr [] h1 h' → P h')
    (st : ∀ i h', i < N → Fr [] h1 h' → ∃ h4, me (sa.set j (some (F i))) h' = .ok (.bl (p i)) h4 ∧ Fr [] h' h4) :
    ∀ k i h, i + k = N → Fr [] h1 h → ∃ h', gaGo d it (c1 j) mYes me sa k i h = .ok (.bl (if d = true then (List.range' i k).all p else (List.range' i k).any p)) h' ∧ Fr [] h h'
  | 0, i, h, e, f => ⟨h, by rw [ga_0 (w.fin h (hP h f))]; cases d <;> rfl, ZP.Fr.refl _ _⟩
  | k + 1, i, h, e, f => by
    have ei := w.item i h (by omega) (hP h f)
    obtain ⟨h4, e4, f4⟩ := st i h (by omega) f
    obtain ⟨h', a, b⟩ := gag (d := d) w p hP st k (i + 1) h4 (by omega) (f.trans f4)
    by_cases c : p i = d
    · rw [c] at e4
      refine ⟨h', ?_, f4.trans b⟩
      rw [ga_t ei rfl e4, a, List.range'_succ]
      cases d
      · simp [c]
      · simp [c]
    · refine ⟨h4, ?_, f4⟩
      have c2 : p i = !d := by cases h : p i <;> cases d <;> simp_all
      rw [c2] at e4
      rw [ga_f ei rfl e4, List.range'_succ]
      cases d
      · simp [c2]
      · simp [c2]
theorem gx_all {F : Nat → A} {P : AH → Prop} {d : Bool} (p : Nat → Bool) (e : mi s h = .ok it h1) (w : Wk it N F P) (hP : ∀ h', Fr [] h1 h' → P h')
    (st : ∀ i h', i < N → Fr [] h1 h' → ∃ h4, me ((wipeA s vs).set j (some (F i))) h' = .ok (.bl (p i)) h4 ∧ Fr [] h' h4) :
    ∃ h', mGx d mi (c1 j) mYes me vs s h = .ok (.bl (if d = true then (List.range N).all p else (List.range N).any p)) h' ∧ Fr [] h1 h' := by
  obtain ⟨h', a, b⟩ := gag (d := d) w p hP st N 0 h1 (by omega) (ZP.Fr.refl _ _)
  refine ⟨h', ?_, b⟩
  unfold mGx
  rw [e]
  show gaGo d it (c1 j) mYes me (wipeA s vs) it.cnt 0 h1 = _
  rw [w.cnt, a, List.range_eq_range']
end
end
section
variable {h h' h0 h1 h2 : AH} {n k : Nat} {bs : List Bool} {xs zs : List A} {s : SA} {ns : List Nat}
theorem mapM_tr : ∀ bs : List Bool, (bs.map A.bl).mapM trA = some bs
  | [] => rfl
  | b :: bs => by
    rw [List.map_cons, List.mapM_cons, mapM_tr bs]
    rfl
theorem bAll_bl (e : h[n]? = some (.lst (bs.map .bl))) : bAll [.ref n] h = .ok (.bl (bs.all id)) h := by
  simp only [bAll, sqA, lsA, e, Option.bind_some, mapM_tr]
theorem bAny_bl (e : h[n]? = some (.lst (bs.map .bl))) : bAny [.ref n] h = .ok (.bl (bs.any id)) h := by
  simp only [bAny, sqA, lsA, e, Option.bind_some, mapM_tr]
theorem app_ok {m q : ME} {y : A} (e1 : m s h = .ok (.ref k) h1) (e2 : h1[k]? = some (.lst zs)) (e3 : q s h1 = .ok y h2) (e4 : h2[k]? = some (.lst xs)) (c : xs.length < 100000) : mApp m q s h = .ok .non (h2.set k (.lst (xs ++ [y]))) := by
  unfold mApp
  rw [e1]
  dsimp only [Rs.bind]
  simp only [lsA, e2]
  rw [e3]
  dsimp only [Rs.bind]
  simp only [e4]
  rw [if_pos (by rw [sizeLine_eq]; omega)]
theorem fr_out (f : Fr [] h0 h) (g : Fr ns h h') (c : ∀ n ∈ ns, h0.length ≤ n) : Fr [] h0 h' := ⟨Nat.le_trans f.le g.le, fun m hm hn => by
  rw [g.eq m (Nat.lt_of_lt_of_le hm f.le) (fun z => by have := c m z; omega)]
  exact f.eq m hm hn⟩
end
section
variable {s : SA} {h h1 : AH} {m : ME} {tt : MT} {me : ME} {j k : Nat} {vs : List Nat} {α : Type} {xs : List α} {val : α → A} {p : α → Bool} {G : α → A}
theorem range_get : ∀ xs : List α, (List.range xs.length).filterMap (fun i => xs[i]?) = xs
  | [] => rfl
  | x :: xs => by
    rw [List.length_cons, List.range_succ_eq_map, List.filterMap_cons]
    simp only [List.getElem?_cons_zero, List.filterMap_map]
    congr 1
    exact range_get xs
theorem range_bind {β : Type} (xs : List α) (f : α → Option β) : (List.range xs.length).filterMap (fun i => (xs[i]?).bind f) = xs.filterMap f := by
  have := congrArg (List.filterMap f) (range_get xs)
  rw [List.filterMap_filterMap] at this
  exact this
theorem fm_flt (xs : List α) : xs.filterMap (fun x => if p x = true then some (G x) else none) = (xs.filter p).map G := by
  induction xs with
  | nil => rfl
  | cons x xs ih =>
    rw [List.filterMap_cons, List.filter_cons, ih]
    cases p x <;> simp
theorem wk_map : Wk (IT.lst k (xs.map val).length) xs.length (fun i => ((xs.map val)[i]?).getD .non) (fun h => h[k]? = some (.lst (xs.map val))) := by
  have := wk_lst (k := k) (xs := xs.map val) (F := fun i => ((xs.map val)[i]?).getD .non) (fun i hi => by rw [List.getElem?_eq_getElem hi]; rfl)
  rw [List.length_map] at this ⊢
  exact this
theorem wk_tmap : Wk (IT.tup (xs.map val)) xs.length (fun i => ((xs.map val)[i]?).getD .non) (fun _ => True) := by
  have := wk_tup (xs := xs.map val) (F := fun i => ((xs.map val)[i]?).getD .non) (fun i hi => by rw [List.getElem?_eq_getElem hi]; rfl)
  rw [List.length_map] at this
  exact this
theorem lc_flt' {it : IT} {mi : MI} {P : AH → Prop} (e : mi s h = .ok it h1) (w : Wk it xs.length (fun i => ((xs.map val)[i]?).getD .non) P) (hP : ∀ h', Fr [] h1 h' → P h') (hN : xs.length ≤ 5000)
    (st : ∀ x ∈ xs, ∀ h', Fr [] h1 h' → ∃ h4, tt ((wipeA s vs).set j (some (val x))) h' = .ok (p x) h4 ∧ Fr [] h' h4 ∧ (p x = true → ∃ h5, me ((wipeA s vs).set j (some (val x))) h4 = .ok (G x) h5 ∧ Fr [] h4 h5)) :
    ∃ h', mLc mi (c1 j) tt me vs s h = .ok (.ref h1.length) h' ∧ h'[h1.length]? = some (.lst ((xs.filter p).map G)) ∧ Fr [] h1 h' := by
  obtain ⟨h', a, b, c⟩ := lc_flt (tt := tt) (me := me) (j := j) (vs := vs) (s := s) (fun i => (xs[i]?).bind fun x => if p x = true then some (G x) else none) e w hP hN (fun i h' hi f => by
    obtain ⟨h4, e1, f1, g⟩ := st xs[i] (List.getElem_mem hi) h' f
    have ev : ((xs.map val)[i]?).getD .non = val xs[i] := by rw [List.getElem?_map, List.getElem?_eq_getElem hi]; rfl
    simp only [ev]
    rw [List.getElem?_eq_getElem hi]
    cases q : p xs[i] with
    | false =>
      rw [q] at e1
      exact .inl ⟨by simp [q], h4, e1, f1⟩
    | true =>
      rw [q] at e1
      obtain ⟨h5, e2, f2⟩ := g q
      exact .inr ⟨_, h4, h5, by simp [q], e1, f1, e2, f2⟩)
  rw [range_bind, fm_flt] at b
  exact ⟨h', a, b, c⟩
/-- [me for x in a list if tt] -/
theorem lcL (e : m s h = .ok (.ref k) h1) (e2 : h1[k]? = some (.lst (xs.map val))) (hN : xs.length ≤ 5000)
    (st : ∀ x ∈ xs, ∀ h', Fr [] h1 h' → ∃ h4, tt ((wipeA s vs).set j (some (val x))) h' = .ok (p x) h4 ∧ Fr [] h' h4 ∧ (p x = true → ∃ h5, me ((wipeA s vs).set j (some (val x))) h4 = .ok (G x) h5 ∧ Fr [] h4 h5)) :
    ∃ h', mLc (mItL m) (c1 j) tt me vs s h = .ok (.ref h1.length) h' ∧ h'[h1.length]? = some (.lst ((xs.filter p).map G)) ∧ Fr [] h1 h' :=
  lc_flt' (itL_ok e e2) wk_map (fun h' f => f.at e2 (by simp)) hN st
/-- [me for x in a tuple if tt] -/
theorem lcT (e : m s h = .ok (.tup (xs.map val)) h1) (hN : xs.length ≤ 5000)
    (st : ∀ x ∈ xs, ∀ h', Fr [] h1 h' → ∃ h4, tt ((wipeA s vs).set j (some (val x))) h' = .ok (p x) h4 ∧ Fr [] h' h4 ∧ (p x = true → ∃ h5, me ((wipeA s vs).set j (some (val x))) h4 = .ok (G x) h5 ∧ Fr [] h4 h5)) :
    ∃ h', mLc (mItT m) (c1 j) tt me vs s h = .ok (.ref h1.length) h' ∧ h'[h1.length]? = some (.lst ((xs.filter p).map G)) ∧ Fr [] h1 h' :=
  lc_flt' (itT_ok e) wk_tmap (fun _ _ => trivial) hN st
theorem filt_t (xs : List α) : xs.filter (fun _ => true) = xs := List.filter_eq_self.mpr fun _ _ => rfl
/-- [me for x in a list] -/
theorem lcLa (e : m s h = .ok (.ref k) h1) (e2 : h1[k]? = some (.lst (xs.map val))) (hN : xs.length ≤ 5000)
    (st : ∀ x ∈ xs, ∀ h', Fr [] h1 h' → ∃ h5, me ((wipeA s vs).set j (some (val x))) h' = .ok (G x) h5 ∧ Fr [] h' h5) :
    ∃ h', mLc (mItL m) (c1 j) mYes me vs s h = .ok (.ref h1.length) h' ∧ h'[h1.length]? = some (.lst (xs.map G)) ∧ Fr [] h1 h' := by
  have := lcL (tt := mYes) (p := fun _ => true) (me := me) (j := j) (vs := vs) (G := G) e e2 hN (fun x hx h' f => ⟨h', rfl, ZP.Fr.refl _ _, fun _ => st x hx h' f⟩)
  rw [filt_t] at this
  exact this
theorem lcTa (e : m s h = .ok (.tup (xs.map val)) h1) (hN : xs.length ≤ 5000)
    (st : ∀ x ∈ xs, ∀ h', Fr [] h1 h' → ∃ h5, me ((wipeA s vs).set j (some (val x))) h' = .ok (G x) h5 ∧ Fr [] h' h5) :
    ∃ h', mLc (mItT m) (c1 j) mYes me vs s h = .ok (.ref h1.length) h' ∧ h'[h1.length]? = some (.lst (xs.map G)) ∧ Fr [] h1 h' := by
  have := lcT (tt := mYes) (p := fun _ => true) (me := me) (j := j) (vs := vs) (G := G) e hN (fun x hx h' f => ⟨h', rfl, ZP.Fr.refl _ _, fun _ => st x hx h' f⟩)
  rw [filt_t] at this
  exact this
/-- all, any of a generator over a list, a tuple -/
theorem gx_seq {it : IT} {mi : MI} {P : AH → Prop} {d : Bool} (e : mi s h = .ok it h1) (w : Wk it xs.length (fun i => ((xs.map val)[i]?).getD .non) P) (hP : ∀ h', Fr [] h1 h' → P h')
    (st : ∀ x ∈ xs, ∀ h', Fr [] h1 h' → ∃ h4, me ((wipeA s vs).set j (some (val x))) h' = .ok (.bl (p x)) h4 ∧ Fr [] h' h4) :
    ∃ h', mGx d mi (c1 j) mYes me vs s h = .ok (.bl (if d = true then xs.all p else xs.any p)) h' ∧ Fr [] h1 h' := by
  obtain ⟨h', a, b⟩ := gx_all (d := d) (me := me) (j := j) (vs := vs) (s := s) (fun i => ((xs[i]?).map p).getD d) e w hP (fun i h' hi f => by
    have ev : ((xs.map val)[i]?).getD .non = val xs[i] := by rw [List.getElem?_map, List.getElem?_eq_getElem hi]; rfl
    simp only [ev]
    rw [List.getElem?_eq_getElem hi]
    exact st xs[i] (List.getElem_mem hi) h' f)
  refine ⟨h', ?_, b⟩
  rw [a]
  congr 2
  cases d
  · simp only [Bool.false_eq_true, if_false]
    rw [Bool.eq_iff_iff, List.any_eq_true, List.any_eq_true]
    constructor
    · rintro ⟨i, hi, q⟩
      rw [List.mem_range] at hi
      rw [List.getElem?_eq_getElem hi] at q
      exact ⟨_, List.getElem_mem hi, q⟩
    · rintro ⟨x, hx, q⟩
      obtain ⟨i, hi, rfl⟩ := List.getElem_of_mem hx
      exact ⟨i, by rw [List.mem_range]; exact hi, by rw [List.getElem?_eq_getElem hi]; exact q⟩
  · simp only [if_true]
    rw [Bool.eq_iff_iff, List.all_eq_true, List.all_eq_true]
    constructor
    · intro q x hx
      obtain ⟨i, hi, rfl⟩ := List.getElem_of_mem hx
      have := q i (by rw [List.mem_range]; exact hi)
      rw [List.getElem?_eq_getElem hi] at this
      exact this
    · intro q i hi
      rw [List.mem_range] at hi
      rw [List.getElem?_eq_getElem hi]
      exact q _ (List.getElem_mem hi)
theorem gxL {d : Bool} (e : m s h = .ok (.ref k) h1) (e2 : h1[k]? = some (.lst (xs.map val)))
    (st : ∀ x ∈ xs, ∀ h', Fr [] h1 h' → ∃ h4, me ((wipeA s vs).set j (some (val x))) h' = .ok (.bl (p x)) h4 ∧ Fr [] h' h4) :
    ∃ h', mGx d (mItL m) (c1 j) mYes me vs s h = .ok (.bl (if d = true then xs.all p else xs.any p)) h' ∧ Fr [] h1 h' :=
  gx_seq (itL_ok e e2) wk_map (fun h' f => f.at e2 (by simp)) st
theorem gxT {d : Bool} (e : m s h = .ok (.tup (xs.map val)) h1)
    (st : ∀ x ∈ xs, ∀ h', Fr [] h1 h' → ∃ h4, me ((wipeA s vs).set j (some (val x))) h' = .ok (.bl (p x)) h4 ∧ Fr [] h' h4) :
    ∃ h', mGx d (mItT m) (c1 j) mYes me vs s h = .ok (.bl (if d = true then xs.all p else xs.any p)) h' ∧ Fr [] h1 h' :=
  gx_seq (itT_ok e) wk_tmap (fun _ _ => trivial) st
end
section
variable {h h' : AH} {ns : List Nat} {st : Nat}
theorem strm_fr (S : Strm h st) (f : Fr ns h h') (c : ∀ n ∈ ns, st < n) : Strm h' st := by
  obtain ⟨b, xs, c0, k, h1, h2, h3, h4⟩ := S
  exact ⟨b, xs, c0, k, f.at h1 (fun z => by have := c st z; omega), f.at h2 (fun z => by have := c b z; omega), h3, h4⟩
end
end LP

/-! data without lists: is it in a list, is it equal -/
namespace PD
open PySem PySem.Spec PyProof.Rows L2 Z
def okA : Nat → A → Bool
  | _, .non => true
  | _, .int _ => true
  | _, .str x => PyData.strOk x
  | n + 1, .tup xs => xs.all (okA n)
  | _, _ => false
def tD : Nat → A → PyData
  | _, .non => .none
  | _, .int i => .int i
  | _, .str x => .str x
  | n + 1, .tup xs => .tuple (xs.map (tD n))
  | _, _ => .none
section
variable {h : AH}
theorem mapM_tD {m n : Nat} (ih : ∀ v, okA n v = true → dOf m h v = some (tD n v)) : ∀ xs : List A, xs.all (okA n) = true → xs.mapM (dOf m h) = some (xs.map (tD n))
  | [], _ => rfl
  | x :: xs, q => by
    rw [List.all_cons, Bool.and_eq_true] at q
    rw [List.mapM_cons, ih x q.1, mapM_tD ih xs q.2]
    rfl
theorem dOf_ok : ∀ (n : Nat) (v : A) (m : Nat), n < m → okA n v = true → dOf m h v = some (tD n v)
  | _, v, 0, l, _ => by omega
  | n, .non, m + 1, l, q => by cases n <;> rfl
  | n, .int i, m + 1, l, q => by cases n <;> rfl
  | n, .str x, m + 1, l, q => by cases n <;> rfl
  | 0, .tup xs, m + 1, l, q => by cases q
  | n + 1, .tup xs, m + 1, l, q => by
    have q : xs.all (okA n) = true := q
    show (xs.mapM (dOf m h)).map PyData.tuple = some (.tuple (xs.map (tD n)))
    rw [mapM_tD (fun v hv => dOf_ok n v m (by omega) hv) xs q]
    rfl
  | n, .bl b, m + 1, l, q => by cases n <;> cases q
  | n, .ref b, m + 1, l, q => by cases n <;> cases q
  | n, .fro b, m + 1, l, q => by cases n <;> cases q
  | n, .fn b, m + 1, l, q => by cases n <;> cases q
theorem canAll {n : Nat} (ih : ∀ v, okA n v = true → PyData.canLay0 (tD n v) = true) : ∀ xs : List A, xs.all (okA n) = true → PyData.canLayAll0 (xs.map (tD n)) = true
  | [], _ => rfl
  | x :: xs, q => by
    rw [List.all_cons, Bool.and_eq_true] at q
    rw [List.map_cons, PyData.canLayAll0, ih x q.1, canAll ih xs q.2]
    rfl
theorem can_ok : ∀ (n : Nat) (v : A), okA n v = true → PyData.canLay0 (tD n v) = true
  | n, .non, q => by cases n <;> rfl
  | n, .int i, q => by cases n <;> rfl
  | n, .str x, q => by cases n <;> exact q
  | 0, .tup xs, q => by cases q
  | n + 1, .tup xs, q => canAll (fun v hv => can_ok n v hv) xs q
  | n, .bl b, q => by cases n <;> cases q
  | n, .ref b, q => by cases n <;> cases q
  | n, .fro b, q => by cases n <;> cases q
  | n, .fn b, q => by cases n <;> cases q
theorem depAll {n : Nat} (ih : ∀ v : A, PyData.depth (tD n v) ≤ n) : ∀ xs : List A, PyData.depthAll (xs.map (tD n)) ≤ n
  | [] => by simp [PyData.depthAll]
  | x :: xs => by
    rw [List.map_cons, PyData.depthAll]
    have := ih x
    have := depAll ih xs
    omega
theorem dep_ok : ∀ (n : Nat) (v : A), PyData.depth (tD n v) ≤ n
  | n, .non => by cases n <;> simp [tD, PyData.depth]
  | n, .int i => by cases n <;> simp [tD, PyData.depth]
  | n, .str x => by cases n <;> simp [tD, PyData.depth]
  | 0, .tup xs => by simp [tD, PyData.depth]
  | n + 1, .tup xs => by
    show PyData.depthAll (xs.map (tD n)) + 1 ≤ n + 1
    have := depAll (fun v => dep_ok n v) xs
    omega
  | n, .bl b => by cases n <;> simp [tD, PyData.depth]
  | n, .ref b => by cases n <;> simp [tD, PyData.depth]
  | n, .fro b => by cases n <;> simp [tD, PyData.depth]
  | n, .fn b => by cases n <;> simp [tD, PyData.depth]
theorem sh_ok {n : Nat} {v : A} (q : okA n v = true) (hn : n ≤ 50) : SeqAt.shaped (tD n v) = true := by
  unfold SeqAt.shaped
  rw [can_ok n v q]
  have := dep_ok n v
  rw [decide_eq_true (by omega)]
  rfl
theorem shL_ok {n : Nat} {xs : List A} (q : xs.all (okA n) = true) (hn : n ≤ 50) : SeqAt.shaped (.list (xs.map (tD n))) = true := by
  unfold SeqAt.shaped
  rw [show PyData.canLay0 (.list (xs.map (tD n))) = true from canAll (can_ok n) xs q]
  have := depAll (dep_ok n) xs
  have : PyData.depth (.list (xs.map (tD n))) = PyData.depthAll (xs.map (tD n)) + 1 := by simp [PyData.depth]
  rw [this, decide_eq_true (by omega)]
  rfl
theorem eqvAll {n : Nat} (ih : ∀ v w, okA n v = true → okA n w = true → (PyData.eqv (tD n v) (tD n w) = true ↔ v = w)) : ∀ xs ys : List A, xs.all (okA n) = true → ys.all (okA n) = true → (PyData.eqvAll (xs.map (tD n)) (ys.map (tD n)) = true ↔ xs = ys)
  | [], [], _, _ => by simp [PyData.eqvAll]
  | [], y :: ys, _, _ => by simp [PyData.eqvAll]
  | x :: xs, [], _, _ => by simp [PyData.eqvAll]
  | x :: xs, y :: ys, q, r => by
    rw [List.all_cons, Bool.and_eq_true] at q r
    simp only [List.map_cons, PyData.eqvAll, Bool.and_eq_true]
    rw [ih x y q.1 r.1, eqvAll ih xs ys q.2 r.2]
    simp
theorem eqv_ok : ∀ (n : Nat) (v w : A), okA n v = true → okA n w = true → (PyData.eqv (tD n v) (tD n w) = true ↔ v = w) := by
  intro n
  induction n with
  | zero =>
    intro v w q r
    cases v <;> cases w <;> first | (cases q; done) | (cases r; done) | simp [tD, PyData.eqv]
  | succ n ih =>
    intro v w q r
    cases v <;> cases w <;> first | (cases q; done) | (cases r; done) | (simp [tD, PyData.eqv]; done) | skip
    rename_i xs ys
    show PyData.eqvAll (xs.map (tD n)) (ys.map (tD n)) = true ↔ _
    rw [eqvAll ih xs ys q r]
    simp
theorem flat_eq {n : Nat} {v w : A} (q : okA n v = true) (r : okA n w = true) (fv : flatA v = true) (fw : flatA w = true) : eqA v w = true ↔ v = w := by
  cases n <;> cases v <;> cases w <;> first | (cases q; done) | (cases r; done) | (cases fv; done) | (cases fw; done) | simp [eqA]
theorem inA_pd {n k : Nat} {v : A} {L : List A} (e : h[k]? = some (.lst L)) (hL : ∀ x ∈ L, okA n x = true) (hv : okA n v = true) (hn : n ≤ 50) : ∃ b, inA h v (.ref k) = some b ∧ (b = true ↔ v ∈ L) := by
  have hA : L.all (okA n) = true := List.all_eq_true.mpr hL
  have d2 : dOf 60 h (.ref k) = some (.list (L.map (tD n))) := by
    show (match h[k]? with
      | some (.lst xs) => (xs.mapM (dOf 59 h)).map PyData.list
      | _ => none) = _
    rw [e]
    show (L.mapM (dOf 59 h)).map PyData.list = _
    rw [mapM_tD (fun v hv => dOf_ok n v 59 (by omega) hv) L hA]
    rfl
  have d1 := dOf_ok (h := h) n v 60 (by omega) hv
  have go : inA h v (.ref k) = if flatA v && L.all flatA then some (L.any fun y => eqA y v) else some ((L.map (tD n)).any fun z => PyData.eqv z (tD n v)) := by
    have : inA h v (.ref k) = match sqA h (.ref k) with
      | some xs => if flatA v && xs.all flatA then some (xs.any fun y => eqA y v) else
        match (A.ref k), dOf 60 h v, dOf 60 h (.ref k) with
        | .tup _, _, _ => none
        | _, some d, some (.list ds) => if SeqAt.shaped d && SeqAt.shaped (.list ds) then some (ds.any fun z => PyData.eqv z d) else none
        | _, _, _ => none
      | none => none := by cases v <;> rfl
    rw [this]
    simp only [sqA, lsA, e, d1, d2]
    rw [sh_ok hv hn, shL_ok hA hn]
    simp
  rw [go]
  by_cases c : (flatA v && L.all flatA) = true
  · rw [if_pos c]
    rw [Bool.and_eq_true] at c
    refine ⟨_, rfl, ?_⟩
    rw [List.any_eq_true]
    constructor
    · rintro ⟨y, hy, e⟩
      rw [flat_eq (hL y hy) hv (List.all_eq_true.mp c.2 y hy) c.1] at e
      rw [← e]; exact hy
    · intro m
      exact ⟨v, m, (flat_eq hv hv c.1 c.1).mpr rfl⟩
  · rw [if_neg c]
    refine ⟨_, rfl, ?_⟩
    rw [List.any_eq_true]
    constructor
    · rintro ⟨z, hz, e⟩
      obtain ⟨y, hy, rfl⟩ := List.mem_map.mp hz
      rw [eqv_ok n y v (hL y hy) hv] at e
      rw [← e]; exact hy
    · intro m
      exact ⟨_, List.mem_map.mpr ⟨v, m, rfl⟩, (eqv_ok n v v hv hv).mpr rfl⟩
theorem in_pd {n k : Nat} {v : A} {L : List A} (e : h[k]? = some (.lst L)) (hL : ∀ x ∈ L, okA n x = true) (hv : okA n v = true) (hn : n ≤ 50) : ∃ b, oIn v (.ref k) h = .ok (.bl b) h ∧ (b = true ↔ v ∈ L) := by
  obtain ⟨b, e1, e2⟩ := inA_pd e hL hv hn
  exact ⟨b, by unfold oIn; rw [e1], e2⟩
theorem nin_pd {n k : Nat} {v : A} {L : List A} (e : h[k]? = some (.lst L)) (hL : ∀ x ∈ L, okA n x = true) (hv : okA n v = true) (hn : n ≤ 50) : ∃ b, oNin v (.ref k) h = .ok (.bl b) h ∧ (b = true ↔ v ∉ L) := by
  obtain ⟨b, e1, e2⟩ := inA_pd e hL hv hn
  exact ⟨!b, by unfold oNin; rw [e1], by rw [← e2]; cases b <;> simp⟩
theorem deq_pd {n : Nat} {v w : A} (hv : okA n v = true) (hw : okA n w = true) (hn : n ≤ 50) : ∃ b, deq h v w = some b ∧ (b = true ↔ v = w) := by
  have d1 := dOf_ok (h := h) n v 60 (by omega) hv
  have d2 := dOf_ok (h := h) n w 60 (by omega) hw
  refine ⟨_, ?_, eqv_ok n v w hv hw⟩
  unfold deq
  simp only [d1, d2]
  rw [sh_ok hv hn, sh_ok hw hn]
  rfl
theorem eq_pd {n : Nat} {v w : A} (hv : okA n v = true) (hw : okA n w = true) (hn : n ≤ 50) : ∃ b, oEq v w h = .ok (.bl b) h ∧ (b = true ↔ v = w) := by
  obtain ⟨b, e1, e2⟩ := deq_pd (h := h) hv hw hn
  cases v <;> cases w <;> first | (cases n <;> cases hv; done) | (cases n <;> cases hw; done) | (refine ⟨_, rfl, ?_⟩; simp; done) | exact ⟨b, by simp only [oEq, e1], e2⟩
theorem ne_pd {n : Nat} {v w : A} (hv : okA n v = true) (hw : okA n w = true) (hn : n ≤ 50) : ∃ b, oNe v w h = .ok (.bl b) h ∧ (b = true ↔ v ≠ w) := by
  obtain ⟨b, e1, e2⟩ := deq_pd (h := h) hv hw hn
  cases v <;> cases w <;> first | (cases n <;> cases hv; done) | (cases n <;> cases hw; done) | (refine ⟨_, rfl, ?_⟩; simp; done) | exact ⟨!b, by simp only [oNe, e1], by rw [Ne, ← e2]; cases b <;> simp⟩
end
end PD

/-! equal lists -/
namespace LP
open PySem PySem.Spec PyProof.Rows L2 Z ZL ZP ZN ZC ZK ZO
local macro_rules | `(tactic| walk_at "zs") => `(tactic| simp (config := { decide := false }) only [tI20, tI21, tI30, tI31, tI32, tI40, tI41, tI42, tI43, tI50, tI51, tI52, tI53, tI54, gFd_eq, kFd_ok, gDt_eq, kDt_ok, kDt2_ok, mAugF_eq, kAf1_ok, kAf2_ok, kAf3_ok, kAf4_ok, mAugS_eq, kAs1_ok, kAs2_ok, kAs3_ok, kAs4_ok, kAs5_ok, mMe_eq, kMe2_ok, mMk_eq, mChain3_eq, kD1_ok, kD2_ok, kD3_t, kD3_f, kD4_ok, kD5_t, kD5_f, kD6_ok, bMax3_i, mGD_eq, m1_eq, k1_ok, m2_eq, k2_ok, k2'_ok, mVar0, mVarS, mC_eq, mTst_eq, mTru_eq, kTru_ok, tru_bl, tru_int, tru_non, tru_tup, mAndT_eq, kAndT_t, kAndT_f, mOrT_eq, kOrT_t, kOrT_f, mNotT_eq, kNotT_ok, mChain_eq, kC1_ok, kC2_ok, kC3_t, kC3_f, kC4_ok, mB_eq, kB_ok, mAnd_eq, kAnd_ok, kAnd2_t, kAnd2_f, mOr_eq, kOr_ok, kOr2_t, kOr2_f, mNot_eq, kNot_ok, kNot2_ok, mIfE_eq, kIfE_t, kIfE_f, mArgs_nil, mArgs_cons, kA_ok, kA2_ok, mBi_eq, kBi_ok, mTup_eq, mLst_eq, mIsi_eq, kIsi_int, kIsi_bl, kIsi_str, kIsi_non, kIsi_tup, kIsi2_ok, kb_ii, kb_ib, kb_is, kb_it, kb_il, kb_bi, kb_bb, kb_bs, kb_bt, kb_bl, kb_si, kb_sb, kb_ss, kb_st, kb_sl, kb_ni, kb_nb, kb_ns, kb_nt, kb_nl, kb_ti, kb_tb, kb_ts, kb_tt, kb_tl, kb_li, kb_lb, kb_ls, kb_lt, kb_ll, mSeq_eq, kSeq_nx, kSeq_rt, kSeq_bk, kSeq_ct, kSeq_ex, mIf_eq, kIf_t, kIf_f, kIf_ex, mAsg_eq, kAsg_ok, kAsg_ex, gN_eq, gSb_eq, kSb_ok, kSb2_ok, gsNil_eq, gsCons_eq, mSkip_eq, mBreak_eq, mCont_eq, mExpr_eq, kExpr_ok, kExpr_ex, mRet_eq, kRet_ok, kRet_ex, mRetN_eq, mPar_eq, kPar_ok, mAug_eq, kAug0_ok, kAug_ok, kAug2_ok, mRaise_eq, kRaise_ok, mFn_eq, kFn_nx, kFn_rt, kFn_ex, oAdd_i, oIAdd_i, oSub_i, oNeg_i, oLt_i, oLe_i, oGt_i, oGe_i, oEq_i, oNe_i, oEq_s, oNe_s, oEq_b, oNe_b, oIs_n, oIsN_n, oIs_b, oIsN_b, isN_int, isN_bl, isN_str, isN_tup, isN_ref, isN_non, bAbs_i, bInt_i, bInt_b, bLen_t, bMax2_i, bMin2_i, bGcd_i, atI_0, List.set_cons_zero, List.set_cons_succ, List.map_cons, List.map_nil, List.cons_append, List.nil_append, List.length_cons, List.length_nil, List.replicate, Bool.not_true, Bool.not_false, decide_true, decide_false, kLst_ok, kTup_ok, Nat.reduceAdd, Nat.reduceLeDiff, Int.reducePow, Int.reduceToNat, Int.reduceMul, Int.reduceAdd, Int.reduceSub, Int.reduceNeg, kBi_ex, kA_ex, kA2_ex, mSl_eq, kSl1_ok, kSl2_ok, kSl3_ok, oNone_eq, oSome_eq, kOS_ok, oSl_t, mTry_eq, kTry_nx, kTry_rt, kRaise_ok, kExpr_ex, kSeq_ex, kRet_ex])
local macro_rules | `(tactic| walk_at "za") => `(tactic| simp (config := { decide := false }) only [tI20, tI21, tI30, tI31, tI32, tI40, tI41, tI42, tI43, tI50, tI51, tI52, tI53, tI54, gFd_eq, kFd_ok, gDt_eq, kDt_ok, kDt2_ok, mAugF_eq, kAf1_ok, kAf2_ok, kAf3_ok, kAf4_ok, mAugS_eq, kAs1_ok, kAs2_ok, kAs3_ok, kAs4_ok, kAs5_ok, mMe_eq, kMe2_ok, mMk_eq, mChain3_eq, kD1_ok, kD2_ok, kD3_t, kD3_f, kD4_ok, kD5_t, kD5_f, kD6_ok, bMax3_i, mGD_eq, m1_eq, k1_ok, m2_eq, k2_ok, k2'_ok, mVar0, mVarS, mC_eq, mTst_eq, mTru_eq, kTru_ok, tru_bl, tru_int, tru_non, tru_tup, mAndT_eq, kAndT_t, kAndT_f, mOrT_eq, kOrT_t, kOrT_f, mNotT_eq, kNotT_ok, mChain_eq, kC1_ok, kC2_ok, kC3_t, kC3_f, kC4_ok, mB_eq, kB_ok, mAnd_eq, kAnd_ok, kAnd2_t, kAnd2_f, mOr_eq, kOr_ok, kOr2_t, kOr2_f, mNot_eq, kNot_ok, kNot2_ok, mIfE_eq, kIfE_t, kIfE_f, mArgs_nil, mArgs_cons, kA_ok, kA2_ok, mBi_eq, kBi_ok, mTup_eq, mLst_eq, mIsi_eq, kIsi_int, kIsi_bl, kIsi_str, kIsi_non, kIsi_tup, kIsi2_ok, kb_ii, kb_ib, kb_is, kb_it, kb_il, kb_bi, kb_bb, kb_bs, kb_bt, kb_bl, kb_si, kb_sb, kb_ss, kb_st, kb_sl, kb_ni, kb_nb, kb_ns, kb_nt, kb_nl, kb_ti, kb_tb, kb_ts, kb_tt, kb_tl, kb_li, kb_lb, kb_ls, kb_lt, kb_ll, mSeq_eq, kSeq_nx, kSeq_rt, kSeq_bk, kSeq_ct, kSeq_ex, mIf_eq, kIf_t, kIf_f, kIf_ex, mAsg_eq, kAsg_ok, kAsg_ex, gN_eq, gSb_eq, kSb_ok, kSb2_ok, gsNil_eq, gsCons_eq, mSkip_eq, mBreak_eq, mCont_eq, mExpr_eq, kExpr_ok, kExpr_ex, mRet_eq, kRet_ok, kRet_ex, mRetN_eq, mPar_eq, kPar_ok, mAug_eq, kAug0_ok, kAug_ok, kAug2_ok, mRaise_eq, kRaise_ok, mFn_eq, kFn_nx, kFn_rt, kFn_ex, oAdd_i, oIAdd_i, oSub_i, oNeg_i, oLt_i, oLe_i, oGt_i, oGe_i, oEq_i, oNe_i, oEq_s, oNe_s, oEq_b, oNe_b, oIs_n, oIsN_n, oIs_b, oIsN_b, isN_int, isN_bl, isN_str, isN_tup, isN_ref, isN_non, bAbs_i, bInt_i, bInt_b, bLen_t, bMax2_i, bMin2_i, bGcd_i, atI_0, List.set_cons_zero, List.set_cons_succ, List.map_cons, List.map_nil, List.cons_append, List.nil_append, List.length_cons, List.length_nil, List.replicate, Bool.not_true, Bool.not_false, decide_true, decide_false, kLst_ok, kTup_ok, Nat.reduceAdd, Nat.reduceLeDiff, Int.reducePow, Int.reduceToNat, Int.reduceMul, Int.reduceAdd, Int.reduceSub, Int.reduceNeg, kBi_ex, kA_ex, kA2_ex, mSl_eq, kSl1_ok, kSl2_ok, kSl3_ok, oNone_eq, oSome_eq, kOS_ok, oSl_t, mTry_eq, kTry_nx, kTry_rt, kRaise_ok, kExpr_ex, kSeq_ex, kRet_ex, *])
section
variable {h : AH}
theorem lc_eqR {F : MF} {xs : List A} {a b : Nat} {h0 : AH} (ea : h0[a]? = some (.lst xs)) (eb : h0[b]? = some (.lst xs)) (hx : ∀ v ∈ xs, ∀ h, ∃ h', F [v, v] h = .ok (.bl true) h' ∧ Fr [] h h') {n : Nat} (hn : h0.length ≤ n) (hl : xs.length < 900) :
    ∀ (k i : Nat) (h : AH), i + k = xs.length → Fr [] h0 h → h[n]? = some (.lst (List.replicate i (.bl true))) →
    ∃ h', lcGo (IT.rng 0 xs.length) (c1 2) mYes (mBi F [(m2 oIx (mVar 0) (mVar 2)), (m2 oIx (mVar 1) (mVar 2))]) n [some (.ref a), some (.ref b), none] k i h = .ok (.ref n) h' ∧ Fr [] h0 h' ∧ h'[n]? = some (.lst (List.replicate xs.length (.bl true)))
  | 0, i, h, e, f, g => ⟨h, lc_0 rfl, f, by rw [← e]; exact g⟩
  | k + 1, i, h, e, f, g => by
    have hi : i < xs.length := by omega
    obtain ⟨h1, e1, f1⟩ := hx xs[i] (List.getElem_mem hi) h
    have a1 := f1.at g (by simp)
    have q : atI xs (i : Int) = some xs[i] := atI_n (List.getElem?_eq_getElem hi)
    rw [lc_s (v := .int (i : Int)) (s2 := [some (.ref a), some (.ref b), some (.int (i : Int))]) (y := .bl true) (acc := List.replicate i (.bl true)) (h4 := h1) (by show some (A.int (0 + (i : Int))) = _; rw [Int.zero_add]) rfl ?_ a1 (by simp; omega)]
    · refine lc_eqR ea eb hx hn hl k (i + 1) _ (by omega) ⟨?_, fun m hm hns => ?_⟩ ?_
      · have := (f.trans f1).le
        simpa using this
      · rw [List.getElem?_set_ne (by omega)]
        exact (f.trans f1).eq m hm hns
      · rw [List.getElem?_set_self (lt_of_some a1), List.replicate_succ']
    · walk_at "zs"
      rw [oIx_l (f.at ea (by simp)) q]
      walk_at "zs"
      rw [oIx_l (f.at eb (by simp)) q]
      walk_at "zs"
      exact e1
theorem eqR {xs : List A} {a b : Nat} (ea : h[a]? = some (.lst xs)) (eb : h[b]? = some (.lst xs)) (hx : ∀ v ∈ xs, EqV 7 v) (hl : xs.length < 900) : ∃ h', F__law_equal [.ref a, .ref b] h = .ok (.bl true) h' ∧ Fr [] h h' := by
  show ∃ h', recF m__law_equal 3 8 [.ref a, .ref b] h = .ok (.bl true) h' ∧ Fr [] h h'
  rw [rec_s]
  unfold EqV at hx
  generalize recF m__law_equal 3 7 = F at *
  simp only [mFn_eq]
  unfold m__law_equal
  walk_at "zs"
  unfold m__law_equal_r1
  walk_at "zs"
  rw [kIsi_lst eb]
  walk_at "zs"
  unfold m__law_equal_r2
  walk_at "zs"
  rw [kIsi_lst eb]
  walk_at "zs"
  unfold m__law_equal_r3
  walk_at "zs"
  rw [kIsi_lst eb]
  walk_at "zs"
  unfold m__law_equal_r4
  walk_at "zs"
  rw [kIsi_lst eb]
  walk_at "zs"
  unfold m__law_equal_r5
  walk_at "zs"
  rw [kIsi_lst eb]
  walk_at "zs"
  rw [kIsi_lst ea]
  walk_at "zs"
  unfold m__law_equal_r6
  walk_at "zs"
  rw [bLen_l ea]
  walk_at "zs"
  rw [bLen_l eb]
  walk_at "zs"
  unfold m__law_equal_r7
  have l1 : mRng1 (mBi bLen [mVar 1]) [some (.ref a), some (.ref b), none] h = .ok (IT.rng 0 xs.length) h := by
    rw [rng_B, rngB_ok (n := (xs.length : Int)) _ (by walk_at "zs"; rw [bLen_l eb]) (c62 (by omega)), Int.toNat_natCast]
  obtain ⟨h', e, f, g⟩ := lc_eqR ea eb hx (n := h.length) (Nat.le_refl _) hl xs.length 0 (h ++ [.lst []]) (by omega) (ZP.Fr.push _) (new_at _ _)
  have e2 : mLc (mRng1 (mBi bLen [mVar 1])) (c1 2) mYes (mBi F [(m2 oIx (mVar 0) (mVar 2)), (m2 oIx (mVar 1) (mVar 2))]) [2] [some (.ref a), some (.ref b), none] h = .ok (.ref h.length) h' := by
    unfold mLc
    rw [l1]
    exact e
  walk_at "zs"
  rw [e2]
  walk_at "zs"
  rw [bAll_rep g]
  walk_at "zs"
  exact ⟨_, rfl, f⟩
end
end LP

/-! loops: targets of any form, two loops in a list, zip -/
namespace LP
open PySem PySem.Spec PyProof.Rows L2 Z ZL ZP ZN ZC ZK ZO
section
variable {s sa : SA} {h h1 : AH} {it : IT} {mi : MI} {me : ME} {tt : MT} {N : Nat} {vs : List Nat} {ga : A → SA → Option SA} {xs ys : List A}
theorem wk_zip : Wk (IT.zipT xs ys) (min xs.length ys.length) (fun i => .tup [(xs[i]?).getD .non, (ys[i]?).getD .non]) (fun _ => True) := ⟨rfl, fun i h hi _ => by
    show (match xs[i]?, ys[i]? with
      | some x, some y => some (A.tup [x, y])
      | _, _ => none) = _
    rw [List.getElem?_eq_getElem (show i < xs.length by omega), List.getElem?_eq_getElem (show i < ys.length by omega)]
    rfl, fun _ _ => rfl⟩
theorem itZT_ok {m n : ME} {h2 : AH} (e1 : m s h = .ok (.tup xs) h1) (e2 : n s h1 = .ok (.tup ys) h2) : mItZT m n s h = .ok (IT.zipT xs ys) h2 := by
  unfold mItZT
  rw [e1]
  dsimp only [Rs.bind]
  rw [e2]
theorem c2_ok {i j : Nat} {x y : A} : c2 i j (.tup [x, y]) sa = some ((sa.set i (some x)).set j (some y)) := rfl
theorem gagG {F : Nat → A} {P : AH → Prop} {d : Bool} (w : Wk it N F P) (sx : Nat → SA) (hg : ∀ i, i < N → ga (F i) sa = some (sx i)) (p : Nat → Bool) (hP : ∀ h', Fr [] h1 h' → P h')
    (st : ∀ i h', i < N → Fr [] h1 h' → ∃ h4, me (sx i) h' = .ok (.bl (p i)) h4 ∧ Fr [] h' h4) :
    ∀ k i h, i + k = N → Fr [] h1 h → ∃ h', gaGo d it ga mYes me sa k i h = .ok (.bl (if d = true then (List.range' i k).all p else (List.range' i k).any p)) h' ∧ Fr [] h h'
  | 0, i, h, e, f => ⟨h, by rw [ga_0 (w.fin h (hP h f))]; cases d <;> rfl, ZP.Fr.refl _ _⟩
  | k + 1, i, h, e, f => by
    have ei := w.item i h (by omega) (hP h f)
    obtain ⟨h4, e4, f4⟩ := st i h (by omega) f
    obtain ⟨h', a, b⟩ := gagG (d := d) w sx hg p hP st k (i + 1) h4 (by omega) (f.trans f4)
    by_cases c : p i = d
    · rw [c] at e4
      refine ⟨h', ?_, f4.trans b⟩
      rw [ga_t ei (hg i (by omega)) e4, a, List.range'_succ]
      cases d
      · simp [c]
      · simp [c]
    · refine ⟨h4, ?_, f4⟩
      have c2 : p i = !d := by cases h : p i <;> cases d <;> simp_all
      rw [c2] at e4
      rw [ga_f ei (hg i (by omega)) e4, List.range'_succ]
      cases d
      · simp [c2]
      · simp [c2]
theorem gx_gen {F : Nat → A} {P : AH → Prop} {d : Bool} (p : Nat → Bool) (sx : Nat → SA) (e : mi s h = .ok it h1) (w : Wk it N F P) (hg : ∀ i, i < N → ga (F i) (wipeA s vs) = some (sx i)) (hP : ∀ h', Fr [] h1 h' → P h')
    (st : ∀ i h', i < N → Fr [] h1 h' → ∃ h4, me (sx i) h' = .ok (.bl (p i)) h4 ∧ Fr [] h' h4) :
    ∃ h', mGx d mi ga mYes me vs s h = .ok (.bl (if d = true then (List.range N).all p else (List.range N).any p)) h' ∧ Fr [] h1 h' := by
  obtain ⟨h', a, b⟩ := gagG (d := d) w sx hg p hP st N 0 h1 (by omega) (ZP.Fr.refl _ _)
  refine ⟨h', ?_, b⟩
  unfold mGx
  rw [e]
  show gaGo d it ga mYes me (wipeA s vs) it.cnt 0 h1 = _
  rw [w.cnt, a, List.range_eq_range']
theorem lcgG {F : Nat → A} {P : AH → Prop} {q0 : Nat} (w : Wk it N F P) (sx : Nat → SA) (hg : ∀ i, i < N → ga (F i) sa = some (sx i)) (zs : Nat → Option A) (inv : Nat → AH → Prop) (iP : ∀ i h, inv i h → P h) (hN : N ≤ 5000)
    (st : ∀ i h acc, i < N → inv i h → h[q0]? = some (.lst acc) → (zs i = none ∧ ∃ h', tt (sx i) h = .ok false h' ∧ h'[q0]? = some (.lst acc) ∧ inv (i + 1) h') ∨
      (∃ y h' h4, zs i = some y ∧ tt (sx i) h = .ok true h' ∧ me (sx i) h' = .ok y h4 ∧ h4[q0]? = some (.lst acc) ∧ inv (i + 1) (h4.set q0 (.lst (acc ++ [y]))))) :
    ∀ k i acc h, i + k = N → inv i h → h[q0]? = some (.lst acc) → acc.length + k ≤ 5000 →
    ∃ h', lcGo it ga tt me q0 sa k i h = .ok (.ref q0) h' ∧ h'[q0]? = some (.lst (acc ++ (List.range' i k).filterMap zs)) ∧ inv N h'
  | 0, i, acc, h, e, q, h0, hl => ⟨h, lc_0 (w.fin h (iP _ _ q)), by simpa using h0, by rw [← e]; exact q⟩
  | k + 1, i, acc, h, e, q, h0, hl => by
    have ei := w.item i h (by omega) (iP _ _ q)
    have eg := hg i (by omega)
    rcases st i h acc (by omega) q h0 with ⟨ey, h', e1, e2, q2⟩ | ⟨y, h', h4, ey, e1, e2, e3, q2⟩
    · obtain ⟨h5, a, b, c⟩ := lcgG w sx hg zs inv iP hN st k (i + 1) acc h' (by omega) q2 e2 (by omega)
      refine ⟨h5, ?_, ?_, c⟩
      · rw [lcGo]
        simp only [ei, eg, e1, Rs.bindN, if_neg Bool.false_ne_true]
        exact a
      · rw [b, List.range'_succ, List.filterMap_cons, ey]
    · obtain ⟨h5, a, b, c⟩ := lcgG w sx hg zs inv iP hN st k (i + 1) (acc ++ [y]) _ (by omega) q2 (List.getElem?_set_self (lt_of_some e3)) (by simp; omega)
      refine ⟨h5, ?_, ?_, c⟩
      · rw [lcGo]
        simp only [ei, eg, e1, Rs.bindN, if_true, e2, e3]
        rw [if_pos (by rw [sizeLine_eq]; omega)]
        exact a
      · rw [b, List.range'_succ, List.filterMap_cons, ey, List.append_assoc]; rfl
/-- [me for TARGET in mi if tt], the target of any form -/
theorem lc_gen {F : Nat → A} {P : AH → Prop} (zs : Nat → Option A) (sx : Nat → SA) (e : mi s h = .ok it h1) (w : Wk it N F P) (hg : ∀ i, i < N → ga (F i) (wipeA s vs) = some (sx i)) (hP : ∀ h', Fr [] h1 h' → P h') (hN : N ≤ 5000)
    (st : ∀ i h', i < N → Fr [] h1 h' → (zs i = none ∧ ∃ h4, tt (sx i) h' = .ok false h4 ∧ Fr [] h' h4) ∨
      (∃ y h4 h5, zs i = some y ∧ tt (sx i) h' = .ok true h4 ∧ Fr [] h' h4 ∧ me (sx i) h4 = .ok y h5 ∧ Fr [] h4 h5)) :
    ∃ h', mLc mi ga tt me vs s h = .ok (.ref h1.length) h' ∧ h'[h1.length]? = some (.lst ((List.range N).filterMap zs)) ∧ Fr [] h1 h' := by
  obtain ⟨h', a, b, c⟩ := lcgG (tt := tt) (me := me) (sa := wipeA s vs) (q0 := h1.length) w sx hg zs (fun _ h => Fr [] h1 h) (fun _ h q => hP h q) hN (fun i h acc hi q e0 => by
    rcases st i h hi q with ⟨ey, h4, e4, f4⟩ | ⟨y, h4, h5, ey, e4, f4, e5, f5⟩
    · exact .inl ⟨ey, h4, e4, f4.at e0 (by simp), q.trans f4⟩
    · exact .inr ⟨y, h4, h5, ey, e4, e5, (f4.trans f5).at e0 (by simp), fr_setN ((q.trans f4).trans f5) (Nat.le_refl _)⟩) N 0 [] (h1 ++ [.lst []]) (by omega) (ZP.Fr.push _) (new_at _ _) (by simpa using hN)
  refine ⟨h', ?_, ?_, c⟩
  · unfold mLc
    rw [e]
    show lcGo it ga tt me h1.length (wipeA s vs) it.cnt 0 (h1 ++ [.lst []]) = _
    rw [w.cnt]
    exact a
  · rw [b, List.nil_append, List.range_eq_range']
/-! ### two loops in a list -/
variable {ga1 : A → SA → Option SA} {mi1 : MI} {vs1 : List Nat}
theorem lc2in {it1 : IT} {M : Nat} {F1 : Nat → A} {P1 : AH → Prop} {q0 : Nat} {C : AH → Rs A} {h0 : AH} (w1 : Wk it1 M F1 P1) (s1 : SA) (sy : Nat → SA) (hg1 : ∀ j, j < M → ga1 (F1 j) s1 = some (sy j)) (zs : Nat → A) (hP : ∀ h', Fr [] h0 h' → P1 h') (hq : h0.length ≤ q0)
    (st : ∀ j h', j < M → Fr [] h0 h' → ∃ h4, me (sy j) h' = .ok (zs j) h4 ∧ Fr [] h' h4) :
    ∀ k j acc h, j + k = M → Fr [] h0 h → h[q0]? = some (.lst acc) → acc.length + k ≤ 5000 →
    ∃ h', lc2In it1 ga1 mYes me q0 s1 C k j h = C h' ∧ h'[q0]? = some (.lst (acc ++ (List.range' j k).map zs)) ∧ Fr [] h0 h'
  | 0, j, acc, h, e, f, e0, hl => ⟨h, by rw [lc2In, if_pos (w1.fin h (hP h f))], by simpa using e0, f⟩
  | k + 1, j, acc, h, e, f, e0, hl => by
    have ei := w1.item j h (by omega) (hP h f)
    obtain ⟨h4, e4, f4⟩ := st j h (by omega) f
    have a4 := f4.at e0 (by simp)
    obtain ⟨h5, a, b, c⟩ := lc2in (C := C) w1 s1 sy hg1 zs hP hq st k (j + 1) (acc ++ [zs j]) (h4.set q0 (.lst (acc ++ [zs j]))) (by omega) (fr_setN (f.trans f4) hq) (List.getElem?_set_self (lt_of_some a4)) (by simp; omega)
    refine ⟨h5, ?_, ?_, c⟩
    · rw [lc2In]
      simp only [ei, hg1 j (by omega), mYes, Rs.bindN, if_true, e4, a4]
      rw [if_pos (by rw [sizeLine_eq]; omega)]
      exact a
    · rw [b, List.range'_succ, List.map_cons, List.append_assoc]; rfl
theorem lc2out {F : Nat → A} {P : AH → Prop} {q0 : Nat} {h0 : AH} (w : Wk it N F P) (sx : Nat → SA) (hg : ∀ i, i < N → ga (F i) sa = some (sx i)) (it1 : Nat → IT) (M : Nat → Nat) (F1 : Nat → Nat → A) (P1 : Nat → AH → Prop) (sy : Nat → Nat → SA) (zs : Nat → Nat → A) (T : Nat) (hT : T ≤ 5000)
    (hP : ∀ h', Fr [] h0 h' → P h') (hq : h0.length ≤ q0)
    (e1 : ∀ i h', i < N → Fr [] h0 h' → mi1 (sx i) h' = .ok (it1 i) h') (w1 : ∀ i, i < N → Wk (it1 i) (M i) (F1 i) (P1 i)) (hP1 : ∀ i h', i < N → Fr [] h0 h' → P1 i h') (hg1 : ∀ i j, i < N → j < M i → ga1 (F1 i j) (wipeA (sx i) vs1) = some (sy i j))
    (st : ∀ i j h', i < N → j < M i → Fr [] h0 h' → ∃ h4, me (sy i j) h' = .ok (zs i j) h4 ∧ Fr [] h' h4) :
    ∀ k i acc h, i + k = N → Fr [] h0 h → h[q0]? = some (.lst acc) → acc.length + ((List.range' i k).map M).sum ≤ T →
    ∃ h', lc2Go it ga mYes mi1 ga1 mYes me vs1 q0 sa k i h = .ok (.ref q0) h' ∧ h'[q0]? = some (.lst (acc ++ (List.range' i k).flatMap fun i => (List.range (M i)).map (zs i))) ∧ Fr [] h0 h'
  | 0, i, acc, h, e, f, e0, hl => ⟨h, by rw [lc2Go, if_pos (w.fin h (hP h f))], by simpa using e0, f⟩
  | k + 1, i, acc, h, e, f, e0, hl => by
    have ei := w.item i h (by omega) (hP h f)
    rw [List.range'_succ, List.map_cons, List.sum_cons] at hl
    obtain ⟨h4, a4, b4, f4⟩ := lc2in (me := me) (ga1 := ga1) (C := lc2Go it ga mYes mi1 ga1 mYes me vs1 q0 sa k (i + 1)) (h0 := h0) (w1 i (by omega)) (wipeA (sx i) vs1) (sy i) (fun j hj => hg1 i j (by omega) hj) (zs i) (fun h' f => hP1 i h' (by omega) f) hq (fun j h' hj f => st i j h' (by omega) hj f) (M i) 0 acc h (by omega) f e0 (by omega)
    obtain ⟨h5, a, b, c⟩ := lc2out w sx hg it1 M F1 P1 sy zs T hT hP hq e1 w1 hP1 hg1 st k (i + 1) (acc ++ (List.range' 0 (M i)).map (zs i)) h4 (by omega) f4 b4 (by simp; omega)
    refine ⟨h5, ?_, ?_, c⟩
    · rw [lc2Go]
      simp only [ei, hg i (by omega), mYes, Rs.bindN, if_true, e1 i h (by omega) f]
      rw [(w1 i (by omega)).cnt, a4, a]
    · rw [b, List.range'_succ, List.flatMap_cons, List.append_assoc, List.range_eq_range']
theorem lc2_all {F : Nat → A} {P : AH → Prop} (sx : Nat → SA) (it1 : Nat → IT) (M : Nat → Nat) (F1 : Nat → Nat → A) (P1 : Nat → AH → Prop) (sy : Nat → Nat → SA) (zs : Nat → Nat → A) (e : mi s h = .ok it h1) (w : Wk it N F P) (hg : ∀ i, i < N → ga (F i) (wipeA s vs) = some (sx i))
    (hT : ((List.range N).map M).sum ≤ 5000) (hP : ∀ h', Fr [] h1 h' → P h')
    (e1 : ∀ i h', i < N → Fr [] h1 h' → mi1 (sx i) h' = .ok (it1 i) h') (w1 : ∀ i, i < N → Wk (it1 i) (M i) (F1 i) (P1 i)) (hP1 : ∀ i h', i < N → Fr [] h1 h' → P1 i h') (hg1 : ∀ i j, i < N → j < M i → ga1 (F1 i j) (wipeA (sx i) vs1) = some (sy i j))
    (st : ∀ i j h', i < N → j < M i → Fr [] h1 h' → ∃ h4, me (sy i j) h' = .ok (zs i j) h4 ∧ Fr [] h' h4) :
    ∃ h', mLc2 mi ga mYes mi1 ga1 mYes me vs vs1 s h = .ok (.ref h1.length) h' ∧ h'[h1.length]? = some (.lst ((List.range N).flatMap fun i => (List.range (M i)).map (zs i))) ∧ Fr [] h1 h' := by
  obtain ⟨h', a, b, c⟩ := lc2out (me := me) (mi1 := mi1) (ga := ga) (ga1 := ga1) (vs1 := vs1) (sa := wipeA s vs) (q0 := h1.length) (h0 := h1) w sx hg it1 M F1 P1 sy zs 5000 (Nat.le_refl _) hP (Nat.le_refl _) e1 w1 hP1 hg1 st N 0 [] (h1 ++ [.lst []]) (by omega) (ZP.Fr.push _) (new_at _ _) (by rw [← List.range_eq_range']; simpa using hT)
  refine ⟨h', ?_, ?_, c⟩
  · unfold mLc2
    rw [e]
    show lc2Go it ga mYes mi1 ga1 mYes me vs1 h1.length (wipeA s vs) it.cnt 0 (h1 ++ [.lst []]) = _
    rw [w.cnt]
    exact a
  · rw [b, List.nil_append, List.range_eq_range']
end
end LP

/-! lists of drawn elements over anything that is walked -/
namespace LP
open PySem PySem.Spec PyProof.Rows L2 Z ZP ZN ZC ZK ZO
section
variable {it : IT} {ga : A → SA → Option SA} {me : ME} {sa : SA} {N : Nat}
theorem lc_drawW {F : Nat → A} {P : AH → Prop} {q0 : Nat} (w : Wk it N F P) (sx : Nat → SA) (hg : ∀ i, i < N → ga (F i) sa = some (sx i)) (R : A → Prop) (inv : AH → Prop) (iP : ∀ h, inv h → P h)
    (f : ∀ i h acc, i < N → inv h → h[q0]? = some (.lst acc) → ∃ y h4, me (sx i) h = .ok y h4 ∧ R y ∧ h4[q0]? = some (.lst acc) ∧ inv (h4.set q0 (.lst (acc ++ [y])))) :
    ∀ k i acc h, i + k = N → inv h → h[q0]? = some (.lst acc) → acc.length + k ≤ 5000 →
    ∃ ys h', lcGo it ga mYes me q0 sa k i h = .ok (.ref q0) h' ∧ h'[q0]? = some (.lst (acc ++ ys)) ∧ ys.length = k ∧ (∀ y ∈ ys, R y) ∧ inv h'
  | 0, i, acc, h, e, q, h0, hl => ⟨[], h, lc_0 (w.fin h (iP _ q)), by simpa using h0, rfl, by simp, q⟩
  | k + 1, i, acc, h, e, q, h0, hl => by
    obtain ⟨y, h4, e1, r, e2, q4⟩ := f i h acc (by omega) q h0
    obtain ⟨ys, h', a, b, l, c, d⟩ := lc_drawW w sx hg R inv iP f k (i + 1) (acc ++ [y]) _ (by omega) q4 (List.getElem?_set_self (lt_of_some e2)) (by simp; omega)
    refine ⟨y :: ys, h', ?_, by rw [b]; simp, by simp [l], fun z hz => ?_, d⟩
    · rw [lcGo]
      simp only [w.item i h (by omega) (iP _ q), hg i (by omega), mYes, Rs.bindN, if_true, e1, e2]
      rw [if_pos (by rw [sizeLine_eq]; omega)]
      exact a
    · rcases List.mem_cons.mp hz with e | m
      · rw [e]; exact r
      · exact c z m
end
end LP


namespace law_k60
open PySem PySem.Spec PyProof.Rows L2 Z ZL

def topS (i : Nat) : Stmt := PySem.Challenge.pw_alikeplay_k60_texts_and_digests.main.body.getD i (.Pass ⟨0, 0, 0, 0⟩)

abbrev s_init_BadValue : Stmt := inClass (topS 2) 0
theorem sc_init_BadValue : FnScope ["self", "name"] ["self", "name"] (defScope s_init_BadValue) := ⟨rfl, rfl, rfl, by decide +kernel, rfl, by decide +kernel, by decide +kernel⟩
abbrev s__law_next : Stmt := topS 20
theorem sc__law_next : FnScope ["stream", "many", "digit", "k", "cell"] ["stream", "many"] (defScope s__law_next) := ⟨rfl, rfl, rfl, by decide +kernel, rfl, by decide +kernel, by decide +kernel⟩
abbrev s__law_data : Stmt := topS 22
theorem sc__law_data : FnScope ["stream", "depth", "pick", "k"] ["stream", "depth"] (defScope s__law_data) := ⟨rfl, rfl, rfl, by decide +kernel, rfl, by decide +kernel, by decide +kernel⟩
def m__law_data_r4 (F : MF) : MS :=
  (mRet (mBi bTuple [(mLc (mRng1 (mBi F__law_next [(mVar 0), (mC (.int 4))])) (c1 3) mYes (mBi F [(mVar 0), (m2 oAdd (mVar 1) (mC (.int 1)))]) [3])]))
def m__law_data_r3 (F : MF) : MS :=
  (mSeq (mIf (mOrT (mTst oLt (mVar 2) (mC (.int 6))) (mTst oEq (mVar 1) (mC (.int 4)))) (mRet (m2 oMul (mBi F__law_next [(mVar 0), (m2 oIx (mLst [(mC (.int 3)), (mC (.int 200)), (m2 oPow (mC (.int 10)) (mC (.int 11)))]) (mBi F__law_next [(mVar 0), (mC (.int 3))]))]) (m2 oSub (mC (.int 1)) (m2 oMul (mC (.int 2)) (mBi F__law_next [(mVar 0), (mC (.int 2))]))))) mSkip)
  (m__law_data_r4 F))
def m__law_data_r2 (F : MF) : MS :=
  (mSeq (mIf (mTst oLt (mVar 2) (mC (.int 3))) (mRet (m2 oIx (mLst [(mC (.str "")), (mC (.str "a")), (mC (.str "kind1")), (mC (.str "(,)")), (mC (.str "-1")), (mC (.str "n t"))]) (mBi F__law_next [(mVar 0), (mC (.int 6))]))) mSkip)
  (m__law_data_r3 F))
def m__law_data (F : MF) : MS :=
  (mSeq (mAsg (mBi F__law_next [(mVar 0), (mC (.int 8))]) (gN 2))
  (mSeq (mIf (mTst oEq (mVar 2) (mC (.int 0))) (mRet (m2 oIx (mLst [(mC .non), (mC (.bl true)), (mC (.bl false))]) (mBi F__law_next [(mVar 0), (mC (.int 3))]))) mSkip)
  (m__law_data_r2 F)))
def F__law_data : MF := recF m__law_data 4 6
abbrev s__law_is_integer : Stmt := topS 21
theorem sc__law_is_integer : FnScope ["actual"] ["actual"] (defScope s__law_is_integer) := ⟨rfl, rfl, rfl, by decide +kernel, rfl, by decide +kernel, by decide +kernel⟩
abbrev s__law_number : Stmt := topS 24
theorem sc__law_number : FnScope ["text", "number", "sign"] ["text"] (defScope s__law_number) := ⟨rfl, rfl, rfl, by decide +kernel, rfl, by decide +kernel, by decide +kernel⟩
def m__law_number_r2 : MS :=
  (mRet (mVar 1))
def m__law_number : MS :=
  (mSeq (mAsg (mC (.int 7)) (gN 1))
  (mSeq (mFor (mItS (mVar 0)) (gN 2) (mAsg (m2 oMod (m2 oAdd (m2 oMul (mC (.int 131)) (mVar 1)) (mBi bOrd [(mVar 2)])) (mC (.int 2147483647))) (gN 1)))
  m__law_number_r2))
def F__law_number : MF := mFn 3 m__law_number
abbrev s_require : Stmt := topS 4
theorem sc_require : FnScope ["holds", "name"] ["holds", "name"] (defScope s_require) := ⟨rfl, rfl, rfl, by decide +kernel, rfl, by decide +kernel, by decide +kernel⟩
abbrev s__digits : Stmt := topS 11
theorem sc__digits : FnScope ["number", "pieces", "piece"] ["number"] (defScope s__digits) := ⟨rfl, rfl, rfl, by decide +kernel, rfl, by decide +kernel, by decide +kernel⟩
def m__digits_r2 : MS :=
  (mRet (m2 oAdd (mBi bStr [(mVar 0)]) (mJoin (mC (.str "")) (mRevL (mVar 1)))))
def m__digits : MS :=
  (mSeq (mAsg (mLst []) (gN 1))
  (mSeq (mWhile (mTst oGe (mVar 0) (m2 oPow (mC (.int 10)) (mC (.int 64)))) mDead 1000000000000000000)
  m__digits_r2))
def F__digits : MF := mFn 3 m__digits
abbrev s_is_whole : Stmt := topS 6
theorem sc_is_whole : FnScope ["value"] ["value"] (defScope s_is_whole) := ⟨rfl, rfl, rfl, by decide +kernel, rfl, by decide +kernel, by decide +kernel⟩
abbrev s__single_text : Stmt := topS 10
theorem sc__single_text : FnScope ["value"] ["value"] (defScope s__single_text) := ⟨rfl, rfl, rfl, by decide +kernel, rfl, by decide +kernel, by decide +kernel⟩
def m__single_text_r4 : MS :=
  (mRet (mC .non))
def m__single_text_r3 : MS :=
  (mSeq (mIf (mAndT (mTru (mIsi "str" (mVar 0))) (mTst oNin (mC (.str "\"")) (mVar 0))) (mRet (m2 oAdd (m2 oAdd (mC (.str "\"")) (mVar 0)) (mC (.str "\"")))) mSkip)
  m__single_text_r4)
def m__single_text_r2 : MS :=
  (mSeq (mIf (mTru (mBi F_is_whole [(mVar 0)])) (mRet (mIfE (mTst oLt (mVar 0) (mC (.int 0))) (m2 oAdd (mC (.str "-")) (mBi F__digits [(m1 oNeg (mVar 0))])) (mBi F__digits [(mVar 0)]))) mSkip)
  m__single_text_r3)
def m__single_text_r1 : MS :=
  (mSeq (mIf (mOrT (mTst oIsB (mVar 0) (mC (.bl true))) (mTst oIsB (mVar 0) (mC (.bl false)))) (mRet (mIfE (mTru (mVar 0)) (mC (.str "t")) (mC (.str "f")))) mSkip)
  m__single_text_r2)
def m__single_text : MS :=
  (mSeq (mIf (mTst oIs (mVar 0) (mC .non)) (mRet (mC (.str "n"))) mSkip)
  m__single_text_r1)
def F__single_text : MF := mFn 1 m__single_text
abbrev s_text_of : Stmt := topS 9
theorem sc_text_of : FnScope ["data", "pieces", "ahead", "text", "value", "index"] ["data"] (defScope s_text_of) := ⟨rfl, rfl, rfl, by decide +kernel, rfl, by decide +kernel, by decide +kernel⟩
def m_text_of_r3 : MS :=
  (mRet (mJoin (mC (.str "")) (mVar 1)))
def m_text_of : MS :=
  (mSeq (mAsg (mLst []) (gN 1))
  (mSeq (mAsg (mLst [(mTup [(mC .non), (mVar 0)])]) (gN 2))
  (mSeq (mWhile (mTru (mVar 2)) (mSeq (mAsg (mPop (mVar 2)) (gTp 2 (gsCons (gN 3) (gsCons (gN 4) gsNil))))
  (mSeq (mIf (mTru (mIsi "tuple" (mVar 4))) (mSeq (mAsg (mC (.str "(")) (gN 3))
  (mSeq (mExpr (mApp (mVar 2) (mTup [(mC (.str ")")), (mC .non)])))
  (mFor (mRngD (m2 oSub (mBi bLen [(mVar 4)]) (mC (.int 1))) (m1 oNeg (mC (.int 1)))) (gN 5) (mSeq (mExpr (mApp (mVar 2) (mTup [(mC .non), (m2 oIx (mVar 4) (mVar 5))])))
  (mExpr (mApp (mVar 2) (mTup [(mIfE (mTst oGt (mVar 5) (mC (.int 0))) (mC (.str ",")) (mC (.str ""))), (mC .non)]))))))) (mIf (mTst oIs (mVar 3) (mC .non)) (mAsg (mBi F__single_text [(mVar 4)]) (gN 3)) mSkip))
  (mSeq (mIf (mTst oIs (mVar 3) (mC .non)) (mRet (mC .non)) mSkip)
  (mExpr (mApp (mVar 1) (mVar 3)))))) 1000000000000000000)
  m_text_of_r3)))
def F_text_of : MF := mFn 6 m_text_of
abbrev s_data_text : Stmt := topS 16
theorem sc_data_text : FnScope ["data", "text"] ["data"] (defScope s_data_text) := ⟨rfl, rfl, rfl, by decide +kernel, rfl, by decide +kernel, by decide +kernel⟩
def m_data_text : MS :=
  (mSeq (mAsg (mBi F_text_of [(mVar 0)]) (gN 1))
  (mSeq (mExpr (mBi F_require [(m2 oIsN (mVar 1) (mC .non)), (mC (.str "data"))]))
  (mRet (mVar 1))))
def F_data_text : MF := mFn 2 m_data_text
abbrev s_digest : Stmt := topS 17
theorem sc_digest : FnScope ["data", "number", "sign"] ["data"] (defScope s_digest) := ⟨rfl, rfl, rfl, by decide +kernel, rfl, by decide +kernel, by decide +kernel⟩
def m_digest_r2 : MS :=
  (mRet (mVar 1))
def m_digest : MS :=
  (mSeq (mAsg (mC (.int (7))) (gN 1))
  (mSeq (mFor (mItS (mBi F_data_text [(mVar 0)])) (gN 2) (mAsg (m2 oMod (m2 oAdd (m2 oMul (mC (.int (131))) (mVar 1)) (mBi bOrd [(mVar 2)])) (mC (.int (2147483647)))) (gN 1)))
  m_digest_r2))
def F_digest : MF := mFn 3 m_digest
abbrev s__law_refused : Stmt := topS 25
theorem sc__law_refused : FnScope ["which", "data", "e"] ["which", "data"] (defScope s__law_refused) := ⟨rfl, rfl, rfl, by decide +kernel, rfl, by decide +kernel, by decide +kernel⟩
def m__law_refused_r1 : MS :=
  (mRet (mC (.str "")))
def m__law_refused : MS :=
  (mSeq (mTry 2 (mIf (mTst oEq (mVar 0) (mC (.int 0))) (mExpr (mBi F_data_text [(mVar 1)])) (mExpr (mBi F_digest [(mVar 1)]))) "BadValue" [] (.one (.f "name")))
  m__law_refused_r1)
def F__law_refused : MF := mFn 3 m__law_refused
abbrev s__law_stream : Stmt := topS 19
theorem sc__law_stream : FnScope ["script"] ["script"] (defScope s__law_stream) := ⟨rfl, rfl, rfl, by decide +kernel, rfl, by decide +kernel, by decide +kernel⟩
abbrev s__law_text : Stmt := topS 23
theorem sc__law_text : FnScope ["data", "item"] ["data"] (defScope s__law_text) := ⟨rfl, rfl, rfl, by decide +kernel, rfl, by decide +kernel, by decide +kernel⟩
def m__law_text_r4 (F : MF) : MS :=
  (mRet (mBi bStr [(mVar 0)]))
def m__law_text_r3 (F : MF) : MS :=
  (mSeq (mIf (mTru (mIsi "bool" (mVar 0))) (mRet (m2 oIx (mLst [(mC (.str "f")), (mC (.str "t"))]) (mBi bInt [(mVar 0)]))) mSkip)
  (m__law_text_r4 F))
def m__law_text_r2 (F : MF) : MS :=
  (mSeq (mIf (mTst oIs (mVar 0) (mC .non)) (mRet (mC (.str "n"))) mSkip)
  (m__law_text_r3 F))
def m__law_text_r1 (F : MF) : MS :=
  (mSeq (mIf (mTru (mIsi "str" (mVar 0))) (mRet (m2 oAdd (m2 oAdd (mC (.str "\"")) (mVar 0)) (mC (.str "\"")))) mSkip)
  (m__law_text_r2 F))
def m__law_text (F : MF) : MS :=
  (mSeq (mIf (mTru (mIsi "tuple" (mVar 0))) (mRet (m2 oAdd (m2 oAdd (mC (.str "(")) (mJoin (mC (.str ",")) (mLc (mItT (mVar 0)) (c1 1) mYes (mBi F [(mVar 1)]) [1]))) (mC (.str ")")))) mSkip)
  (m__law_text_r1 F))
def F__law_text : MF := recF m__law_text 2 6
abbrev s_law : Stmt := topS 26
theorem sc_law : FnScope ["script", "stream", "data", "text", "told", "other", "odd"] ["script"] (defScope s_law) := ⟨rfl, rfl, rfl, by decide +kernel, rfl, by decide +kernel, by decide +kernel⟩
def m_law_r8 : MS :=
  (mSeq (mAsg (m2 oIx (mLst [(mLst [(mVar 2)]), (mTup [(mC (.int 1)), (mLst [(mC (.int 2))])]), (mC (.str "a\"b")), (mTup [(mTup [(mC (.str "\""))])]), (mTup [(mVar 2), (mLst []), (mC (.int 3))])]) (mBi F__law_next [(mVar 1), (mC (.int 5))])) (gN 6))
  (mRet (mAnd (m2 oEq (mBi F__law_refused [(mC (.int 0)), (mVar 6)]) (mC (.str "data"))) (m2 oEq (mBi F__law_refused [(mC (.int 1)), (mVar 6)]) (mC (.str "data"))))))
def m_law_r6 : MS :=
  (mSeq (mAsg (mBi F__law_data [(mVar 1), (mC (.int 0))]) (gN 5))
  (mSeq (mIf (mTst oNe (m2 oEq (mBi F_data_text [(mVar 5)]) (mVar 3)) (m2 oEq (mBi F__law_text [(mVar 5)]) (mVar 3))) (mRet (mC (.bl false))) mSkip)
  m_law_r8))
def m_law_r4 : MS :=
  (mSeq (mAsg (mBi F_digest [(mVar 2)]) (gN 4))
  (mSeq (mIf (mOrT (mNotT (mTru (mBi F__law_is_integer [(mVar 4)]))) (mTst oNe (mVar 4) (mBi F__law_number [(mVar 3)]))) (mRet (mC (.bl false))) mSkip)
  m_law_r6))
def m_law : MS :=
  (mSeq (mAsg (mBi F__law_stream [(mVar 0)]) (gN 1))
  (mSeq (mAsg (mBi F__law_data [(mVar 1), (mC (.int 0))]) (gN 2))
  (mSeq (mAsg (mBi F__law_text [(mVar 2)]) (gN 3))
  (mSeq (mIf (mTst oNe (mBi F_data_text [(mVar 2)]) (mVar 3)) (mRet (mC (.bl false))) mSkip)
  m_law_r4))))
def F_law : MF := mFn 7 m_law
section
variable {P : Program} {w : World} {K : PySem.W.Frag} {mg : Str → Option Value} {base : Heap} {tb : Addr → Prop}
theorem ok__law_next {f : Addr} {fd : FuncData} (Fn : Fun K "_law_next" "_law_next" s__law_next f fd) (hm : mg "_law_next" = some (.ref f)) (n_abs : mg "abs" = none) (n_int : mg "int" = none) (n_len : mg "len" = none) : HasFn P w K mg base tb "_law_next" 1 2 F__law_next := by
  refine fn_ok (lv := 0) Fn hm sc__law_next (Fn.binds fun _ _ _ _ _ _ us hl => match us, hl with | [_, _], _ => rfl) rfl rfl fun cdv A outer s H E W hr X hX tk hp => ?_
  subst hX
  have nd := sc__law_next.nd
  exact (tb_cons (ts_if (tt_cmp (o_eq hr) bo_eq (t_ix (t_var 0) t_int) t_int) (tb_cons (ts_set 3 (t_ix (t_var 0) t_int) nd)
  (tb_cons (ts_set 4 (t_bin o_add t_int (t_var 3)) nd)
  (tb_cons (ts_if (tt_cmp o_lt bo_lt (t_var 3) (t_callB b_len (ta_cons (t_ix (t_var 0) t_int) ta_nil) n_len)) (tb_one (ts_set 4 (t_callB b_abs (ta_cons (t_ix (t_ix (t_var 0) t_int) (t_var 3)) ta_nil) n_abs) nd)) tb_nil)
  (tb_cons (ts_if (tt_cmp o_lt bo_lt (t_var 4) (t_bin o_pow t_int t_int)) (tb_cons (ts_set 4 (t_bin o_mod (t_callTy b_int (ta_cons (t_bin o_add (t_bin o_add (t_bin o_mul (t_var 4) t_int) (t_bin o_mul (t_var 3) t_int)) t_int) ta_nil) n_int) t_int) nd)
  (tb_one (ts_set 4 (t_bin o_add (t_bin o_mul (t_bin o_mod (t_callTy b_int (ta_cons (t_bin o_add (t_bin o_mul (t_var 4) t_int) t_int) ta_nil) n_int) t_int) t_int) (t_var 4)) nd))) tb_nil)
  (tb_cons (ts_asg (t_var 4) (tg_sub (t_var 0) t_int) ko_sb)
  (tb_one (ts_asg (t_bin o_add (t_var 3) t_int) (tg_sub (t_var 0) t_int) ko_sb))))))) tb_nil)
  (tb_cons (ts_set 2 (t_bin o_mod (t_callTy b_int (ta_cons (t_ix (t_var 0) t_int) ta_nil) n_int) (t_var 1)) nd)
  (tb_cons (ts_asg (t_bin o_div (t_ix (t_var 0) t_int) (t_var 1)) (tg_sub (t_var 0) t_int) ko_sb)
  (tb_one (ts_ret (t_var 2))))))
theorem ok__law_data {f : Addr} {fd : FuncData} (Fn : Fun K "_law_data" "_law_data" s__law_data f fd) (hm : mg "_law_data" = some (.ref f)) (h__law_next : HasFn P w K mg base tb "_law_next" 1 2 F__law_next) (n_range : mg "range" = none) (n_tuple : mg "tuple" = none) : HasFn P w K mg base tb "_law_data" 7 2 F__law_data := by
  refine rec_ok (ps := ["stream", "depth"]) Fn hm (Fn.binds fun _ _ _ _ _ _ us hl => match us, hl with | [_, _], _ => rfl) (l0 := 1) rfl (fun lv F hlv h__law_data => ?_) 6
  refine fn_ok (lv := lv) Fn hm sc__law_data (Fn.binds fun _ _ _ _ _ _ us hl => match us, hl with | [_, _], _ => rfl) rfl rfl fun cdv A outer s H E W hr X hX tk hp => ?_
  subst hX
  have nd := sc__law_data.nd
  exact (tb_cons (ts_set 2 (t_call h__law_next (hr.mono (Nat.le_trans (by decide) hlv)) tk (ta_cons (t_var 0) (ta_cons t_int ta_nil))) nd)
  (tb_cons (ts_if (tt_cmp (o_eq hr) bo_eq (t_var 2) t_int) (tb_one (ts_ret (t_ix (t_lst (ta_cons t_non (ta_cons t_bl (ta_cons t_bl ta_nil)))) (t_call h__law_next (hr.mono (Nat.le_trans (by decide) hlv)) tk (ta_cons (t_var 0) (ta_cons t_int ta_nil)))))) tb_nil)
  (tb_cons (ts_if (tt_cmp o_lt bo_lt (t_var 2) t_int) (tb_one (ts_ret (t_ix (t_lst (ta_cons t_str (ta_cons t_str (ta_cons t_str (ta_cons t_str (ta_cons t_str (ta_cons t_str ta_nil))))))) (t_call h__law_next (hr.mono (Nat.le_trans (by decide) hlv)) tk (ta_cons (t_var 0) (ta_cons t_int ta_nil)))))) tb_nil)
  (tb_cons (ts_if (tt_w (tw_or (tt_cmp o_lt bo_lt (t_var 2) t_int) (tw_or1 (tt_cmp (o_eq hr) bo_eq (t_var 1) t_int)))) (tb_one (ts_ret (t_bin o_mul (t_call h__law_next (hr.mono (Nat.le_trans (by decide) hlv)) tk (ta_cons (t_var 0) (ta_cons (t_ix (t_lst (ta_cons t_int (ta_cons t_int (ta_cons (t_bin o_pow t_int t_int) ta_nil)))) (t_call h__law_next (hr.mono (Nat.le_trans (by decide) hlv)) tk (ta_cons (t_var 0) (ta_cons t_int ta_nil)))) ta_nil))) (t_bin o_sub t_int (t_bin o_mul t_int (t_call h__law_next (hr.mono (Nat.le_trans (by decide) hlv)) tk (ta_cons (t_var 0) (ta_cons t_int ta_nil)))))))) tb_nil)
  (tb_one (ts_ret (t_callTy b_tuple (ta_cons (t_lc (own := [("k", 3)]) rfl nd (ti_rng1 (t_call h__law_next (hr.mono (Nat.le_trans (by decide) hlv)) tk (ta_cons (t_var 0) (ta_cons t_int ta_nil))) n_range) (blkOk_by (show blkC ["stream", "depth", "pick", "k"] (defScope s__law_data) _ [("k", 3)] = true by decide +kernel)) (hg_1 3 nd) (fun _ _ _ _ _ => tp_nil) (fun _ _ _ _ _ => (t_call h__law_data (hr.mono (Nat.le_refl _)) tk0 (ta_cons (t_var 0) (ta_cons (t_bin o_add (t_var 1) t_int) ta_nil))))) ta_nil) n_tuple)))))))
theorem ok__law_is_integer {f : Addr} {fd : FuncData} (Fn : Fun K "_law_is_integer" "_law_is_integer" s__law_is_integer f fd) (hm : mg "_law_is_integer" = some (.ref f)) (n_bool : mg "bool" = none) (n_int : mg "int" = none) (n_isinstance : mg "isinstance" = none) : HasFn P w K mg base tb "_law_is_integer" 1 1 F__law_is_integer := by
  refine fn_ok (lv := 0) Fn hm sc__law_is_integer (Fn.binds fun _ _ _ _ _ _ us hl => match us, hl with | [_], _ => rfl) rfl rfl fun cdv A outer s H E W hr X hX tk hp => ?_
  subst hX
  have nd := sc__law_is_integer.nd
  exact (tb_one (ts_ret (t_and (t_isi (T := "int") (t_var 0) n_isinstance n_int) (t_one (t_not (t_isi (T := "bool") (t_var 0) n_isinstance n_bool))))))
theorem ok__law_number {f : Addr} {fd : FuncData} (Fn : Fun K "_law_number" "_law_number" s__law_number f fd) (hm : mg "_law_number" = some (.ref f)) (n_ord : mg "ord" = none) : HasFn P w K mg base tb "_law_number" 1 1 F__law_number := by
  refine fn_ok (lv := 0) Fn hm sc__law_number (Fn.binds fun _ _ _ _ _ _ us hl => match us, hl with | [_], _ => rfl) rfl rfl fun cdv A outer s H E W hr X hX tk hp => ?_
  subst hX
  have nd := sc__law_number.nd
  exact (tb_cons (ts_set 1 t_int nd)
  (tb_cons (ts_for hp rfl (ti_str (t_var 0)) (tg_name 2 nd) ko_n (tb_one (ts_set 1 (t_bin o_mod (t_bin o_add (t_bin o_mul t_int (t_var 1)) (t_callB b_ord (ta_cons (t_var 2) ta_nil) n_ord)) t_int) nd)))
  (tb_one (ts_ret (t_var 1)))))
theorem ok_require {f : Addr} {fd : FuncData} (Fn : Fun K "require" "require" s_require f fd) (hm : mg "require" = some (.ref f)) {C_BadValue : Addr} (x_BadValue : HasEx P w K mg base "BadValue" "name" C_BadValue) : HasFn P w K mg base tb "require" 3 2 F_require := by
  refine fn_ok (lv := 2) Fn hm sc_require (Fn.binds fun _ _ _ _ _ _ us hl => match us, hl with | [_, _], _ => rfl) rfl rfl fun cdv A outer s H E W hr X hX tk hp => ?_
  subst hX
  have nd := sc_require.nd
  exact (tb_one (ts_if (tt_not (tt_e (t_var 0))) (tb_one (ts_raise x_BadValue (hr.mono (by decide)) rfl tk (t_var 1))) tb_nil))
theorem ok__digits {f : Addr} {fd : FuncData} (Fn : Fun K "_digits" "_digits" s__digits f fd) (hm : mg "_digits" = some (.ref f)) (n_str : mg "str" = none) : HasFn P w K mg base tb "_digits" 1 1 F__digits := by
  refine fn_ok (lv := 0) Fn hm sc__digits (Fn.binds fun _ _ _ _ _ _ us hl => match us, hl with | [_], _ => rfl) rfl rfl fun cdv A outer s H E W hr X hX tk hp => ?_
  subst hX
  have nd := sc__digits.nd
  exact (tb_cons (ts_set 1 (t_lst ta_nil) nd)
  (tb_cons (ts_while 1000000000000000000 hp (tt_cmp o_ge bo_ge (t_var 0) (t_bin o_pow t_int t_int)) tb_dead)
  (tb_one (ts_ret (t_bin o_add (t_callTy b_str (ta_cons (t_var 0) ta_nil) n_str) (t_join t_str (t_revL (t_var 1))))))))
theorem ok_is_whole {f : Addr} {fd : FuncData} (Fn : Fun K "is_whole" "is_whole" s_is_whole f fd) (hm : mg "is_whole" = some (.ref f)) (n_bool : mg "bool" = none) (n_int : mg "int" = none) (n_isinstance : mg "isinstance" = none) : HasFn P w K mg base tb "is_whole" 1 1 F_is_whole := by
  refine fn_ok (lv := 0) Fn hm sc_is_whole (Fn.binds fun _ _ _ _ _ _ us hl => match us, hl with | [_], _ => rfl) rfl rfl fun cdv A outer s H E W hr X hX tk hp => ?_
  subst hX
  have nd := sc_is_whole.nd
  exact (tb_one (ts_ret (t_and (t_isi (T := "int") (t_var 0) n_isinstance n_int) (t_one (t_not (t_isi (T := "bool") (t_var 0) n_isinstance n_bool))))))
theorem ok__single_text {f : Addr} {fd : FuncData} (Fn : Fun K "_single_text" "_single_text" s__single_text f fd) (hm : mg "_single_text" = some (.ref f)) (h__digits : HasFn P w K mg base tb "_digits" 1 1 F__digits) (h_is_whole : HasFn P w K mg base tb "is_whole" 1 1 F_is_whole) (n_isinstance : mg "isinstance" = none) (n_str : mg "str" = none) : HasFn P w K mg base tb "_single_text" 2 1 F__single_text := by
  refine fn_ok (lv := 1) Fn hm sc__single_text (Fn.binds fun _ _ _ _ _ _ us hl => match us, hl with | [_], _ => rfl) rfl rfl fun cdv A outer s H E W hr X hX tk hp => ?_
  subst hX
  have nd := sc__single_text.nd
  exact (tb_cons (ts_if (tt_cmp o_is bo_is (t_var 0) t_non) (tb_one (ts_ret t_str)) tb_nil)
  (tb_cons (ts_if (tt_w (tw_or (tt_cmp o_isB bo_isB (t_var 0) t_bl) (tw_or1 (tt_cmp o_isB bo_isB (t_var 0) t_bl)))) (tb_one (ts_ret (t_ifE (tt_e (t_var 0)) t_str t_str))) tb_nil)
  (tb_cons (ts_if (tt_e (t_call h_is_whole (hr.mono (by decide)) tk (ta_cons (t_var 0) ta_nil))) (tb_one (ts_ret (t_ifE (tt_cmp o_lt bo_lt (t_var 0) t_int) (t_bin o_add t_str (t_call h__digits (hr.mono (by decide)) tk (ta_cons (t_neg (t_var 0)) ta_nil))) (t_call h__digits (hr.mono (by decide)) tk (ta_cons (t_var 0) ta_nil))))) tb_nil)
  (tb_cons (ts_if (tt_w (tw_and (tt_e (t_isi (T := "str") (t_var 0) n_isinstance n_str)) (tw_and1 (tt_cmp (o_nin (hr.mono (Nat.le_refl _))) bo_nin t_str (t_var 0))))) (tb_one (ts_ret (t_bin o_add (t_bin o_add t_str (t_var 0)) t_str))) tb_nil)
  (tb_one (ts_ret t_non))))))
theorem ok_text_of {f : Addr} {fd : FuncData} (Fn : Fun K "text_of" "text_of" s_text_of f fd) (hm : mg "text_of" = some (.ref f)) (h__single_text : HasFn P w K mg base tb "_single_text" 2 1 F__single_text) (n_isinstance : mg "isinstance" = none) (n_len : mg "len" = none) (n_range : mg "range" = none) (n_tuple : mg "tuple" = none) : HasFn P w K mg base tb "text_of" 3 1 F_text_of := by
  refine fn_ok (lv := 2) Fn hm sc_text_of (Fn.binds fun _ _ _ _ _ _ us hl => match us, hl with | [_], _ => rfl) rfl rfl fun cdv A outer s H E W hr X hX tk hp => ?_
  subst hX
  have nd := sc_text_of.nd
  exact (tb_cons (ts_set 1 (t_lst ta_nil) nd)
  (tb_cons (ts_set 2 (t_lst (ta_cons (t_tup (ta_cons t_non (ta_cons (t_var 0) ta_nil))) ta_nil)) nd)
  (tb_cons (ts_while 1000000000000000000 hp (tt_e (t_var 2)) (tb_cons (ts_asg (t_pop (t_var 2)) (tg_tup rfl (tgs_cons (tg_name 3 nd) (tgs_cons (tg_name 4 nd) tgs_nil))) (ko_tp (kos_cons ko_n (kos_cons ko_n kos_nil))))
  (tb_cons (ts_if (tt_e (t_isi (T := "tuple") (t_var 4) n_isinstance n_tuple)) (tb_cons (ts_set 3 t_str nd)
  (tb_cons (ts_expr (t_app (t_var 2) (t_tup (ta_cons t_str (ta_cons t_non ta_nil)))))
  (tb_one (ts_for hp rfl (ti_rngD (t_bin o_sub (t_callB b_len (ta_cons (t_var 4) ta_nil) n_len) t_int) (t_neg t_int) n_range) (tg_name 5 nd) ko_n (tb_cons (ts_expr (t_app (t_var 2) (t_tup (ta_cons t_non (ta_cons (t_ix (t_var 4) (t_var 5)) ta_nil)))))
  (tb_one (ts_expr (t_app (t_var 2) (t_tup (ta_cons (t_ifE (tt_cmp o_gt bo_gt (t_var 5) t_int) t_str t_str) (ta_cons t_non ta_nil))))))))))) (tb_one (ts_if (tt_cmp o_is bo_is (t_var 3) t_non) (tb_one (ts_set 3 (t_call h__single_text (hr.mono (by decide)) tk (ta_cons (t_var 4) ta_nil)) nd)) tb_nil)))
  (tb_cons (ts_if (tt_cmp o_is bo_is (t_var 3) t_non) (tb_one (ts_ret t_non)) tb_nil)
  (tb_one (ts_expr (t_app (t_var 1) (t_var 3))))))))
  (tb_one (ts_ret (t_join t_str (t_var 1)))))))
theorem ok_data_text {f : Addr} {fd : FuncData} (Fn : Fun K "data_text" "data_text" s_data_text f fd) (hm : mg "data_text" = some (.ref f)) (h_require : HasFn P w K mg base tb "require" 3 2 F_require) (h_text_of : HasFn P w K mg base tb "text_of" 3 1 F_text_of) : HasFn P w K mg base tb "data_text" 4 1 F_data_text := by
  refine fn_ok (lv := 3) Fn hm sc_data_text (Fn.binds fun _ _ _ _ _ _ us hl => match us, hl with | [_], _ => rfl) rfl rfl fun cdv A outer s H E W hr X hX tk hp => ?_
  subst hX
  have nd := sc_data_text.nd
  exact (tb_cons (ts_set 1 (t_call h_text_of (hr.mono (by decide)) tk (ta_cons (t_var 0) ta_nil)) nd)
  (tb_cons (ts_expr (t_call h_require (hr.mono (by decide)) tk (ta_cons (t_cmp o_isN (t_var 1) t_non (nomark _)) (ta_cons t_str ta_nil))))
  (tb_one (ts_ret (t_var 1)))))
theorem ok_digest {f : Addr} {fd : FuncData} (Fn : Fun K "digest" "digest" s_digest f fd) (hm : mg "digest" = some (.ref f)) (h_data_text : HasFn P w K mg base tb "data_text" 4 1 F_data_text) (n_ord : mg "ord" = none) (g_FACTOR : ∃ t, mg "FACTOR" = some (.int (131) t)) (g_FIRST : ∃ t, mg "FIRST" = some (.int (7) t)) (g_MODULUS : ∃ t, mg "MODULUS" = some (.int (2147483647) t)) : HasFn P w K mg base tb "digest" 5 1 F_digest := by
  refine fn_ok (lv := 4) Fn hm sc_digest (Fn.binds fun _ _ _ _ _ _ us hl => match us, hl with | [_], _ => rfl) rfl rfl fun cdv A outer s H E W hr X hX tk hp => ?_
  subst hX
  have nd := sc_digest.nd
  exact (tb_cons (ts_set 1 (t_glob g_FIRST) nd)
  (tb_cons (ts_for hp rfl (ti_str (t_call h_data_text (hr.mono (by decide)) tk (ta_cons (t_var 0) ta_nil))) (tg_name 2 nd) ko_n (tb_one (ts_set 1 (t_bin o_mod (t_bin o_add (t_bin o_mul (t_glob g_FACTOR) (t_var 1)) (t_callB b_ord (ta_cons (t_var 2) ta_nil) n_ord)) (t_glob g_MODULUS)) nd)))
  (tb_one (ts_ret (t_var 1)))))
theorem ok__law_refused {f : Addr} {fd : FuncData} (Fn : Fun K "_law_refused" "_law_refused" s__law_refused f fd) (hm : mg "_law_refused" = some (.ref f)) (h_data_text : HasFn P w K mg base tb "data_text" 4 1 F_data_text) (h_digest : HasFn P w K mg base tb "digest" 5 1 F_digest) {C_BadValue : Addr} (x_BadValue : HasEx P w K mg base "BadValue" "name" C_BadValue) (xf_BadValue : XfC K C_BadValue) {H_BadValue : Addr} (gh_BadValue : mg "BadValue" = some (.ref H_BadValue)) (hx_BadValue_BadValue : PySem.W.exmOne K (.ref C_BadValue) (.ref H_BadValue) = some true) : HasFn P w K mg base tb "_law_refused" 6 2 F__law_refused := by
  refine fn_ok (lv := 5) Fn hm sc__law_refused (Fn.binds fun _ _ _ _ _ _ us hl => match us, hl with | [_, _], _ => rfl) rfl rfl fun cdv A outer s H E W hr X hX tk hp => ?_
  subst hX
  have nd := sc__law_refused.nd
  exact (tb_cons (ts_try (i := 2) (c0 := "BadValue") (ps := []) rfl rfl nd x_BadValue.gC gh_BadValue hx_BadValue_BadValue (fun p hp => absurd hp (by simp)) tk (fun _ _ _ tk hp => (tb_one (ts_if (tt_cmp (o_eq hr) bo_eq (t_var 0) t_int) (tb_one (ts_expr (t_call h_data_text (hr.mono (by decide)) tk (ta_cons (t_var 1) ta_nil)))) (tb_one (ts_expr (t_call h_digest (hr.mono (by decide)) tk (ta_cons (t_var 1) ta_nil))))))) (su_one fun _ _ _ _ _ hz hf => (si_f xf_BadValue x_BadValue.noN hz hf)))
  (tb_one (ts_ret t_str)))
theorem ok__law_stream {f : Addr} {fd : FuncData} (Fn : Fun K "_law_stream" "_law_stream" s__law_stream f fd) (hm : mg "_law_stream" = some (.ref f)) (n_list : mg "list" = none) : HasFn P w K mg base tb "_law_stream" 1 1 F__law_stream := by
  refine fn_ok (lv := 0) Fn hm sc__law_stream (Fn.binds fun _ _ _ _ _ _ us hl => match us, hl with | [_], _ => rfl) rfl rfl fun cdv A outer s H E W hr X hX tk hp => ?_
  subst hX
  have nd := sc__law_stream.nd
  exact (tb_one (ts_ret (t_lst (ta_cons (t_callTy b_list (ta_cons (t_var 0) ta_nil) n_list) (ta_cons t_int (ta_cons t_int ta_nil))))))
theorem ok__law_text {f : Addr} {fd : FuncData} (Fn : Fun K "_law_text" "_law_text" s__law_text f fd) (hm : mg "_law_text" = some (.ref f)) (n_bool : mg "bool" = none) (n_int : mg "int" = none) (n_isinstance : mg "isinstance" = none) (n_str : mg "str" = none) (n_tuple : mg "tuple" = none) : HasFn P w K mg base tb "_law_text" 6 1 F__law_text := by
  refine rec_ok (ps := ["data"]) Fn hm (Fn.binds fun _ _ _ _ _ _ us hl => match us, hl with | [_], _ => rfl) (l0 := 0) rfl (fun lv F hlv h__law_text => ?_) 6
  refine fn_ok (lv := lv) Fn hm sc__law_text (Fn.binds fun _ _ _ _ _ _ us hl => match us, hl with | [_], _ => rfl) rfl rfl fun cdv A outer s H E W hr X hX tk hp => ?_
  subst hX
  have nd := sc__law_text.nd
  exact (tb_cons (ts_if (tt_e (t_isi (T := "tuple") (t_var 0) n_isinstance n_tuple)) (tb_one (ts_ret (t_bin o_add (t_bin o_add t_str (t_join t_str (t_lc (own := [("item", 1)]) rfl nd (ti_tup (t_var 0)) (blkOk_by (show blkC ["data", "item"] (defScope s__law_text) _ [("item", 1)] = true by decide +kernel)) (hg_1 1 nd) (fun _ _ _ _ _ => tp_nil) (fun _ _ _ _ _ => (t_call h__law_text (hr.mono (Nat.le_refl _)) tk0 (ta_cons (t_var 1) ta_nil)))))) t_str))) tb_nil)
  (tb_cons (ts_if (tt_e (t_isi (T := "str") (t_var 0) n_isinstance n_str)) (tb_one (ts_ret (t_bin o_add (t_bin o_add t_str (t_var 0)) t_str))) tb_nil)
  (tb_cons (ts_if (tt_cmp o_is bo_is (t_var 0) t_non) (tb_one (ts_ret t_str)) tb_nil)
  (tb_cons (ts_if (tt_e (t_isi (T := "bool") (t_var 0) n_isinstance n_bool)) (tb_one (ts_ret (t_ix (t_lst (ta_cons t_str (ta_cons t_str ta_nil))) (t_callTy b_int (ta_cons (t_var 0) ta_nil) n_int)))) tb_nil)
  (tb_one (ts_ret (t_callTy b_str (ta_cons (t_var 0) ta_nil) n_str)))))))
theorem ok_law {f : Addr} {fd : FuncData} (Fn : Fun K "law" "law" s_law f fd) (hm : mg "law" = some (.ref f)) (h__law_data : HasFn P w K mg base tb "_law_data" 7 2 F__law_data) (h__law_is_integer : HasFn P w K mg base tb "_law_is_integer" 1 1 F__law_is_integer) (h__law_next : HasFn P w K mg base tb "_law_next" 1 2 F__law_next) (h__law_number : HasFn P w K mg base tb "_law_number" 1 1 F__law_number) (h__law_refused : HasFn P w K mg base tb "_law_refused" 6 2 F__law_refused) (h__law_stream : HasFn P w K mg base tb "_law_stream" 1 1 F__law_stream) (h__law_text : HasFn P w K mg base tb "_law_text" 6 1 F__law_text) (h_data_text : HasFn P w K mg base tb "data_text" 4 1 F_data_text) (h_digest : HasFn P w K mg base tb "digest" 5 1 F_digest) : FnOk P w K mg base (L2.CX P w) 8 f fd ["script"] (spF ⟨K, mg, tb⟩ 1 F_law) := by
  refine fn_okF (lv := 7) Fn hm sc_law (Fn.binds fun _ _ _ _ _ _ us hl => match us, hl with | [_], _ => rfl) rfl rfl fun cdv A outer s H E W hr X hX tk hp => ?_
  subst hX
  have nd := sc_law.nd
  exact (tb_cons (ts_set 1 (t_call h__law_stream (hr.mono (by decide)) tk (ta_cons (t_var 0) ta_nil)) nd)
  (tb_cons (ts_set 2 (t_call h__law_data (hr.mono (by decide)) tk (ta_cons (t_var 1) (ta_cons t_int ta_nil))) nd)
  (tb_cons (ts_set 3 (t_call h__law_text (hr.mono (by decide)) tk (ta_cons (t_var 2) ta_nil)) nd)
  (tb_cons (ts_if (tt_cmp (o_ne hr) bo_ne (t_call h_data_text (hr.mono (by decide)) tk (ta_cons (t_var 2) ta_nil)) (t_var 3)) (tb_one (ts_ret t_bl)) tb_nil)
  (tb_cons (ts_set 4 (t_call h_digest (hr.mono (by decide)) tk (ta_cons (t_var 2) ta_nil)) nd)
  (tb_cons (ts_if (tt_w (tw_or (tt_not (tt_e (t_call h__law_is_integer (hr.mono (by decide)) tk (ta_cons (t_var 4) ta_nil)))) (tw_or1 (tt_cmp (o_ne hr) bo_ne (t_var 4) (t_call h__law_number (hr.mono (by decide)) tk (ta_cons (t_var 3) ta_nil)))))) (tb_one (ts_ret t_bl)) tb_nil)
  (tb_cons (ts_set 5 (t_call h__law_data (hr.mono (by decide)) tk (ta_cons (t_var 1) (ta_cons t_int ta_nil))) nd)
  (tb_cons (ts_if (tt_cmp (o_ne hr) bo_ne (t_cmp (o_eq hr) (t_call h_data_text (hr.mono (by decide)) tk (ta_cons (t_var 5) ta_nil)) (t_var 3) (nomark _)) (t_cmp (o_eq hr) (t_call h__law_text (hr.mono (by decide)) tk (ta_cons (t_var 5) ta_nil)) (t_var 3) (nomark _))) (tb_one (ts_ret t_bl)) tb_nil)
  (tb_cons (ts_set 6 (t_ix (t_lst (ta_cons (t_lst (ta_cons (t_var 2) ta_nil)) (ta_cons (t_tup (ta_cons t_int (ta_cons (t_lst (ta_cons t_int ta_nil)) ta_nil))) (ta_cons t_str (ta_cons (t_tup (ta_cons (t_tup (ta_cons t_str ta_nil)) ta_nil)) (ta_cons (t_tup (ta_cons (t_var 2) (ta_cons (t_lst ta_nil) (ta_cons t_int ta_nil)))) ta_nil)))))) (t_call h__law_next (hr.mono (by decide)) tk (ta_cons (t_var 1) (ta_cons t_int ta_nil)))) nd)
  (tb_one (ts_ret (t_and (t_cmp (o_eq hr) (t_call h__law_refused (hr.mono (by decide)) tk (ta_cons t_int (ta_cons (t_var 6) ta_nil))) t_str (nomark _)) (t_one (t_cmp (o_eq hr) (t_call h__law_refused (hr.mono (by decide)) tk (ta_cons t_int (ta_cons (t_var 6) ta_nil))) t_str (nomark _)))))))))))))))
end
end law_k60

namespace law_k60
open PySem PySem.Spec PyProof.Rows L2 Z ZL
def d0 : He.DefD := ⟨("_law_next", none), "_law_next", "_law_next", defArgs s__law_next, defBody s__law_next, defScope s__law_next, [], []⟩
def d1 : He.DefD := ⟨("_law_data", none), "_law_data", "_law_data", defArgs s__law_data, defBody s__law_data, defScope s__law_data, [], []⟩
def d2 : He.DefD := ⟨("_law_is_integer", none), "_law_is_integer", "_law_is_integer", defArgs s__law_is_integer, defBody s__law_is_integer, defScope s__law_is_integer, [], []⟩
def d3 : He.DefD := ⟨("_law_number", none), "_law_number", "_law_number", defArgs s__law_number, defBody s__law_number, defScope s__law_number, [], []⟩
def d4 : He.DefD := ⟨("require", none), "require", "require", defArgs s_require, defBody s_require, defScope s_require, [], []⟩
def d5 : He.DefD := ⟨("_digits", none), "_digits", "_digits", defArgs s__digits, defBody s__digits, defScope s__digits, [], []⟩
def d6 : He.DefD := ⟨("is_whole", none), "is_whole", "is_whole", defArgs s_is_whole, defBody s_is_whole, defScope s_is_whole, [], []⟩
def d7 : He.DefD := ⟨("_single_text", none), "_single_text", "_single_text", defArgs s__single_text, defBody s__single_text, defScope s__single_text, [], []⟩
def d8 : He.DefD := ⟨("text_of", none), "text_of", "text_of", defArgs s_text_of, defBody s_text_of, defScope s_text_of, [], []⟩
def d9 : He.DefD := ⟨("data_text", none), "data_text", "data_text", defArgs s_data_text, defBody s_data_text, defScope s_data_text, [], []⟩
def d10 : He.DefD := ⟨("digest", none), "digest", "digest", defArgs s_digest, defBody s_digest, defScope s_digest, [], []⟩
def d11 : He.DefD := ⟨("_law_refused", none), "_law_refused", "_law_refused", defArgs s__law_refused, defBody s__law_refused, defScope s__law_refused, [], []⟩
def d12 : He.DefD := ⟨("_law_stream", none), "_law_stream", "_law_stream", defArgs s__law_stream, defBody s__law_stream, defScope s__law_stream, [], []⟩
def d13 : He.DefD := ⟨("_law_text", none), "_law_text", "_law_text", defArgs s__law_text, defBody s__law_text, defScope s__law_text, [], []⟩
def d14 : He.DefD := ⟨("law", none), "law", "law", defArgs s_law, defBody s_law, defScope s_law, [], []⟩
def d15 : He.DefD := ⟨("BadValue", some "__init__"), "__init__", "BadValue.__init__", defArgs s_init_BadValue, defBody s_init_BadValue, defScope s_init_BadValue, [], []⟩
def fnL : List He.DefD := [d0, d1, d2, d3, d4, d5, d6, d7, d8, d9, d10, d11, d12, d13, d14, d15]
def faL : List He.Fa := [.glo "_law_next", .glo "_law_data", .glo "_law_is_integer", .glo "_law_number", .glo "require", .glo "_digits", .glo "is_whole", .glo "_single_text", .glo "text_of", .glo "data_text", .glo "digest", .glo "_law_refused", .glo "_law_stream", .glo "_law_text", .glo "law", .glo "BadValue", .exm "BadValue" "BadValue" true, .free "abs", .free "bool", .free "int", .free "isinstance", .free "len", .free "list", .free "ord", .free "range", .free "str", .free "tuple", .int "FACTOR" (131), .int "FIRST" (7), .int "MODULUS" (2147483647)]
def tsL : List He.Tab := []
def tfL : List He.Defn := []
def exL (K : PySem.W.Frag) : Bool := (exB "BadValue" "name" K && (xfB K (He.ga K "BadValue") && true))
theorem all_mk {l : PySem.W.OpenLaw} {w : World} {K : PySem.W.Frag} {h : Heap} {mg : Str → Option Value} {fa : Addr} (hl : LawM F_law) (X : K.In h) (G : h.Ns mainGlobals mg) (hfa : mg "law" = some (.ref fa)) (c : He.SaysX faL fnL tsL tfL exL w h K) :
    LamX.LawAtS l w K (L2.CX l.prog w) 8 63 "script" mg fa h := by
  have e := hfa.symm.trans (He.glo_ok X G (c.t.d.fact 14 (f := .glo "law") rfl))
  cases e
  have more : exL K = true := c.more
  unfold exL at more
  obtain ⟨fd0, D0⟩ := c.t.d.def_ 0 (d := d0) rfl
  have D0 : FunD K "_law_next" "_law_next" (defArgs s__law_next) (defBody s__law_next) (defScope s__law_next) [] [] (He.fAd K ("_law_next", none)) fd0 := D0
  have F0 := fun_of D0
  obtain ⟨fd1, D1⟩ := c.t.d.def_ 1 (d := d1) rfl
  have D1 : FunD K "_law_data" "_law_data" (defArgs s__law_data) (defBody s__law_data) (defScope s__law_data) [] [] (He.fAd K ("_law_data", none)) fd1 := D1
  have F1 := fun_of D1
  obtain ⟨fd2, D2⟩ := c.t.d.def_ 2 (d := d2) rfl
  have D2 : FunD K "_law_is_integer" "_law_is_integer" (defArgs s__law_is_integer) (defBody s__law_is_integer) (defScope s__law_is_integer) [] [] (He.fAd K ("_law_is_integer", none)) fd2 := D2
  have F2 := fun_of D2
  obtain ⟨fd3, D3⟩ := c.t.d.def_ 3 (d := d3) rfl
  have D3 : FunD K "_law_number" "_law_number" (defArgs s__law_number) (defBody s__law_number) (defScope s__law_number) [] [] (He.fAd K ("_law_number", none)) fd3 := D3
  have F3 := fun_of D3
  obtain ⟨fd4, D4⟩ := c.t.d.def_ 4 (d := d4) rfl
  have D4 : FunD K "require" "require" (defArgs s_require) (defBody s_require) (defScope s_require) [] [] (He.fAd K ("require", none)) fd4 := D4
  have F4 := fun_of D4
  obtain ⟨fd5, D5⟩ := c.t.d.def_ 5 (d := d5) rfl
  have D5 : FunD K "_digits" "_digits" (defArgs s__digits) (defBody s__digits) (defScope s__digits) [] [] (He.fAd K ("_digits", none)) fd5 := D5
  have F5 := fun_of D5
  obtain ⟨fd6, D6⟩ := c.t.d.def_ 6 (d := d6) rfl
  have D6 : FunD K "is_whole" "is_whole" (defArgs s_is_whole) (defBody s_is_whole) (defScope s_is_whole) [] [] (He.fAd K ("is_whole", none)) fd6 := D6
  have F6 := fun_of D6
  obtain ⟨fd7, D7⟩ := c.t.d.def_ 7 (d := d7) rfl
  have D7 : FunD K "_single_text" "_single_text" (defArgs s__single_text) (defBody s__single_text) (defScope s__single_text) [] [] (He.fAd K ("_single_text", none)) fd7 := D7
  have F7 := fun_of D7
  obtain ⟨fd8, D8⟩ := c.t.d.def_ 8 (d := d8) rfl
  have D8 : FunD K "text_of" "text_of" (defArgs s_text_of) (defBody s_text_of) (defScope s_text_of) [] [] (He.fAd K ("text_of", none)) fd8 := D8
  have F8 := fun_of D8
  obtain ⟨fd9, D9⟩ := c.t.d.def_ 9 (d := d9) rfl
  have D9 : FunD K "data_text" "data_text" (defArgs s_data_text) (defBody s_data_text) (defScope s_data_text) [] [] (He.fAd K ("data_text", none)) fd9 := D9
  have F9 := fun_of D9
  obtain ⟨fd10, D10⟩ := c.t.d.def_ 10 (d := d10) rfl
  have D10 : FunD K "digest" "digest" (defArgs s_digest) (defBody s_digest) (defScope s_digest) [] [] (He.fAd K ("digest", none)) fd10 := D10
  have F10 := fun_of D10
  obtain ⟨fd11, D11⟩ := c.t.d.def_ 11 (d := d11) rfl
  have D11 : FunD K "_law_refused" "_law_refused" (defArgs s__law_refused) (defBody s__law_refused) (defScope s__law_refused) [] [] (He.fAd K ("_law_refused", none)) fd11 := D11
  have F11 := fun_of D11
  obtain ⟨fd12, D12⟩ := c.t.d.def_ 12 (d := d12) rfl
  have D12 : FunD K "_law_stream" "_law_stream" (defArgs s__law_stream) (defBody s__law_stream) (defScope s__law_stream) [] [] (He.fAd K ("_law_stream", none)) fd12 := D12
  have F12 := fun_of D12
  obtain ⟨fd13, D13⟩ := c.t.d.def_ 13 (d := d13) rfl
  have D13 : FunD K "_law_text" "_law_text" (defArgs s__law_text) (defBody s__law_text) (defScope s__law_text) [] [] (He.fAd K ("_law_text", none)) fd13 := D13
  have F13 := fun_of D13
  obtain ⟨fd14, D14⟩ := c.t.d.def_ 14 (d := d14) rfl
  have D14 : FunD K "law" "law" (defArgs s_law) (defBody s_law) (defScope s_law) [] [] (He.fAd K ("law", none)) fd14 := D14
  have F14 := fun_of D14
  obtain ⟨x_BadValue, more⟩ := and2 more
  obtain ⟨T_BadValue, N_BadValue, I_BadValue, Y_BadValue⟩ := exB_ok x_BadValue
  obtain ⟨fi_BadValue, D_BadValue⟩ := c.t.d.def_ 15 (d := d15) rfl
  have D_BadValue : FunD K "__init__" "BadValue.__init__" (defArgs s_init_BadValue) (defBody s_init_BadValue) (defScope s_init_BadValue) [] [] (He.ma K (He.ga K "BadValue") "__init__") fi_BadValue := D_BadValue
  have FI_BadValue := fun_of D_BadValue
  obtain ⟨xf_BadValue, more⟩ := and2 more
  refine ⟨fd14, tfL.map (He.cT K), spF ⟨K, mg, fun P => ∃ p ∈ tfL.map (He.cT K), p.2 = P⟩ 1 F_law, fun p hp => ?_, fun p hp => ?_, fun p hp => ?_, fun s v => D14.bindsA (ps := ["script"]) (fun _ _ _ _ _ _ us hl => match us, hl with | [_], _ => rfl) s [v] rfl,
    fun H a ns hl1 hb hT hS => law_sp hl hl1 hb (tb0 hT) hS, fun base _ _ TB => ?_⟩
  · obtain ⟨d, hd, rfl⟩ := List.mem_map.mp hp; exact c.empty d hd
  · obtain ⟨d, hd, rfl⟩ := List.mem_map.mp hp; exact c.out d hd
  · obtain ⟨d, hd, rfl⟩ := List.mem_map.mp hp; exact PySem.W.codeHd_of_K X (c.hd d hd)
  have X_BadValue : HasEx l.prog w K mg base "BadValue" "name" (He.ga K "BadValue") := ⟨He.glo_ok X G (c.t.d.fact 15 (f := .glo "BadValue") rfl), T_BadValue, N_BadValue, _, _, I_BadValue, Y_BadValue, init_ok FI_BadValue sc_init_BadValue T_BadValue N_BadValue rfl rfl rfl rfl rfl, FI_BadValue.binds fun _ _ _ _ _ _ us hl => match us, hl with | [_, _], _ => rfl⟩
  have H__law_next := ok__law_next (P := l.prog) (w := w) (base := base) (tb := fun P => ∃ p ∈ tfL.map (He.cT K), p.2 = P) F0 (He.glo_ok X G (c.t.d.fact 0 (f := .glo "_law_next") rfl)) (He.free_ok X G (c.t.d.fact 17 (f := .free "abs") rfl)) (He.free_ok X G (c.t.d.fact 19 (f := .free "int") rfl)) (He.free_ok X G (c.t.d.fact 21 (f := .free "len") rfl))
  have H__law_data := ok__law_data (P := l.prog) (w := w) (base := base) (tb := fun P => ∃ p ∈ tfL.map (He.cT K), p.2 = P) F1 (He.glo_ok X G (c.t.d.fact 1 (f := .glo "_law_data") rfl)) H__law_next (He.free_ok X G (c.t.d.fact 24 (f := .free "range") rfl)) (He.free_ok X G (c.t.d.fact 26 (f := .free "tuple") rfl))
  have H__law_is_integer := ok__law_is_integer (P := l.prog) (w := w) (base := base) (tb := fun P => ∃ p ∈ tfL.map (He.cT K), p.2 = P) F2 (He.glo_ok X G (c.t.d.fact 2 (f := .glo "_law_is_integer") rfl)) (He.free_ok X G (c.t.d.fact 18 (f := .free "bool") rfl)) (He.free_ok X G (c.t.d.fact 19 (f := .free "int") rfl)) (He.free_ok X G (c.t.d.fact 20 (f := .free "isinstance") rfl))
  have H__law_number := ok__law_number (P := l.prog) (w := w) (base := base) (tb := fun P => ∃ p ∈ tfL.map (He.cT K), p.2 = P) F3 (He.glo_ok X G (c.t.d.fact 3 (f := .glo "_law_number") rfl)) (He.free_ok X G (c.t.d.fact 23 (f := .free "ord") rfl))
  have H_require := ok_require (P := l.prog) (w := w) (base := base) (tb := fun P => ∃ p ∈ tfL.map (He.cT K), p.2 = P) F4 (He.glo_ok X G (c.t.d.fact 4 (f := .glo "require") rfl)) X_BadValue
  have H__digits := ok__digits (P := l.prog) (w := w) (base := base) (tb := fun P => ∃ p ∈ tfL.map (He.cT K), p.2 = P) F5 (He.glo_ok X G (c.t.d.fact 5 (f := .glo "_digits") rfl)) (He.free_ok X G (c.t.d.fact 25 (f := .free "str") rfl))
  have H_is_whole := ok_is_whole (P := l.prog) (w := w) (base := base) (tb := fun P => ∃ p ∈ tfL.map (He.cT K), p.2 = P) F6 (He.glo_ok X G (c.t.d.fact 6 (f := .glo "is_whole") rfl)) (He.free_ok X G (c.t.d.fact 18 (f := .free "bool") rfl)) (He.free_ok X G (c.t.d.fact 19 (f := .free "int") rfl)) (He.free_ok X G (c.t.d.fact 20 (f := .free "isinstance") rfl))
  have H__single_text := ok__single_text (P := l.prog) (w := w) (base := base) (tb := fun P => ∃ p ∈ tfL.map (He.cT K), p.2 = P) F7 (He.glo_ok X G (c.t.d.fact 7 (f := .glo "_single_text") rfl)) H__digits H_is_whole (He.free_ok X G (c.t.d.fact 20 (f := .free "isinstance") rfl)) (He.free_ok X G (c.t.d.fact 25 (f := .free "str") rfl))
  have H_text_of := ok_text_of (P := l.prog) (w := w) (base := base) (tb := fun P => ∃ p ∈ tfL.map (He.cT K), p.2 = P) F8 (He.glo_ok X G (c.t.d.fact 8 (f := .glo "text_of") rfl)) H__single_text (He.free_ok X G (c.t.d.fact 20 (f := .free "isinstance") rfl)) (He.free_ok X G (c.t.d.fact 21 (f := .free "len") rfl)) (He.free_ok X G (c.t.d.fact 24 (f := .free "range") rfl)) (He.free_ok X G (c.t.d.fact 26 (f := .free "tuple") rfl))
  have H_data_text := ok_data_text (P := l.prog) (w := w) (base := base) (tb := fun P => ∃ p ∈ tfL.map (He.cT K), p.2 = P) F9 (He.glo_ok X G (c.t.d.fact 9 (f := .glo "data_text") rfl)) H_require H_text_of
  have H_digest := ok_digest (P := l.prog) (w := w) (base := base) (tb := fun P => ∃ p ∈ tfL.map (He.cT K), p.2 = P) F10 (He.glo_ok X G (c.t.d.fact 10 (f := .glo "digest") rfl)) H_data_text (He.free_ok X G (c.t.d.fact 23 (f := .free "ord") rfl)) (He.int_ok X G (c.t.d.fact 27 (f := .int "FACTOR" (131)) rfl)) (He.int_ok X G (c.t.d.fact 28 (f := .int "FIRST" (7)) rfl)) (He.int_ok X G (c.t.d.fact 29 (f := .int "MODULUS" (2147483647)) rfl))
  have H__law_refused := ok__law_refused (P := l.prog) (w := w) (base := base) (tb := fun P => ∃ p ∈ tfL.map (He.cT K), p.2 = P) F11 (He.glo_ok X G (c.t.d.fact 11 (f := .glo "_law_refused") rfl)) H_data_text H_digest X_BadValue (xfB_ok xf_BadValue) (He.glo_ok X G (c.t.d.fact 15 (f := .glo "BadValue") rfl)) (He.exm_ok (c.t.d.fact 16 (f := .exm "BadValue" "BadValue" true) rfl))
  have H__law_stream := ok__law_stream (P := l.prog) (w := w) (base := base) (tb := fun P => ∃ p ∈ tfL.map (He.cT K), p.2 = P) F12 (He.glo_ok X G (c.t.d.fact 12 (f := .glo "_law_stream") rfl)) (He.free_ok X G (c.t.d.fact 22 (f := .free "list") rfl))
  have H__law_text := ok__law_text (P := l.prog) (w := w) (base := base) (tb := fun P => ∃ p ∈ tfL.map (He.cT K), p.2 = P) F13 (He.glo_ok X G (c.t.d.fact 13 (f := .glo "_law_text") rfl)) (He.free_ok X G (c.t.d.fact 18 (f := .free "bool") rfl)) (He.free_ok X G (c.t.d.fact 19 (f := .free "int") rfl)) (He.free_ok X G (c.t.d.fact 20 (f := .free "isinstance") rfl)) (He.free_ok X G (c.t.d.fact 25 (f := .free "str") rfl)) (He.free_ok X G (c.t.d.fact 26 (f := .free "tuple") rfl))
  exact ok_law (P := l.prog) (w := w) (base := base) (tb := fun P => ∃ p ∈ tfL.map (He.cT K), p.2 = P) F14 (He.glo_ok X G (c.t.d.fact 14 (f := .glo "law") rfl)) H__law_data H__law_is_integer H__law_next H__law_number H__law_refused H__law_stream H__law_text H_data_text H_digest
def loose0 : List PySem.Str := ["PlayError", "BadValue", "require", "is_whole", "PIECE", "text_of", "_single_text", "_digits", "FIRST", "FACTOR", "MODULUS", "data_text", "digest", "_law_stream", "_law_next", "_law_is_integer", "_law_data", "_law_text", "_law_number", "_law_refused"]
def loose : List PySem.Str := loose0
abbrev R : PySem.W.OpenRow := PySem.W.OpenLaw.row PySem.Challenge.rw_alikeplay_k60_texts_and_digests
abbrev hk : PySem.W.Hook := He.hookX 5 faL fnL tsL tfL exL
def ob (s : PySem.W.SharedT) : He.AlX := He.obsX 5 faL fnL tsL tfL exL (HandSHeadRun.getT s)
theorem ob_eq (s : PySem.W.SharedT) : ob s = hk.obs s.abs := He.obsX_eq (HandSHeadRun.getT_eq s)
set_option maxHeartbeats 0 in
theorem run (w : World) : HandSHeadRun.RunEq R (PySem.W.view R.prog [26]) hk ob 3000 loose w := by
  intro os
  kernel_rfl
end law_k60

namespace law_k60
open PySem PySem.Spec PyProof.Rows L2 Z ZP ZN ZC ZK ZO LP
open ZL (F_is_whole F_require F_is_between F_is_coordinate F__law_next F__law_stream F__law_is_integer F__law_equal)
local macro_rules | `(tactic| walk_at "zs") => `(tactic| simp (config := { decide := false }) only [tI20, tI21, tI30, tI31, tI32, tI40, tI41, tI42, tI43, tI50, tI51, tI52, tI53, tI54, gFd_eq, kFd_ok, gDt_eq, kDt_ok, kDt2_ok, mAugF_eq, kAf1_ok, kAf2_ok, kAf3_ok, kAf4_ok, mAugS_eq, kAs1_ok, kAs2_ok, kAs3_ok, kAs4_ok, kAs5_ok, mMe_eq, kMe2_ok, mMk_eq, mChain3_eq, kD1_ok, kD2_ok, kD3_t, kD3_f, kD4_ok, kD5_t, kD5_f, kD6_ok, bMax3_i, mGD_eq, m1_eq, k1_ok, m2_eq, k2_ok, k2'_ok, mVar0, mVarS, mC_eq, mTst_eq, mTru_eq, kTru_ok, tru_bl, tru_int, tru_non, tru_tup, mAndT_eq, kAndT_t, kAndT_f, mOrT_eq, kOrT_t, kOrT_f, mNotT_eq, kNotT_ok, mChain_eq, kC1_ok, kC2_ok, kC3_t, kC3_f, kC4_ok, mB_eq, kB_ok, mAnd_eq, kAnd_ok, kAnd2_t, kAnd2_f, mOr_eq, kOr_ok, kOr2_t, kOr2_f, mNot_eq, kNot_ok, kNot2_ok, mIfE_eq, kIfE_t, kIfE_f, mArgs_nil, mArgs_cons, kA_ok, kA2_ok, mBi_eq, kBi_ok, mTup_eq, mLst_eq, mIsi_eq, kIsi_int, kIsi_bl, kIsi_str, kIsi_non, kIsi_tup, kIsi2_ok, kb_ii, kb_ib, kb_is, kb_it, kb_il, kb_bi, kb_bb, kb_bs, kb_bt, kb_bl, kb_si, kb_sb, kb_ss, kb_st, kb_sl, kb_ni, kb_nb, kb_ns, kb_nt, kb_nl, kb_ti, kb_tb, kb_ts, kb_tt, kb_tl, kb_li, kb_lb, kb_ls, kb_lt, kb_ll, mSeq_eq, kSeq_nx, kSeq_rt, kSeq_bk, kSeq_ct, kSeq_ex, mIf_eq, kIf_t, kIf_f, kIf_ex, mAsg_eq, kAsg_ok, kAsg_ex, gN_eq, gSb_eq, kSb_ok, kSb2_ok, gsNil_eq, gsCons_eq, mSkip_eq, mBreak_eq, mCont_eq, mExpr_eq, kExpr_ok, kExpr_ex, mRet_eq, kRet_ok, kRet_ex, mRetN_eq, mPar_eq, kPar_ok, mAug_eq, kAug0_ok, kAug_ok, kAug2_ok, mRaise_eq, kRaise_ok, mFn_eq, kFn_nx, kFn_rt, kFn_ex, oAdd_i, oIAdd_i, oSub_i, oNeg_i, oLt_i, oLe_i, oGt_i, oGe_i, oEq_i, oNe_i, oEq_s, oNe_s, oEq_b, oNe_b, oIs_n, oIsN_n, oIs_b, oIsN_b, isN_int, isN_bl, isN_str, isN_tup, isN_ref, isN_non, bAbs_i, bInt_i, bInt_b, bLen_t, bMax2_i, bMin2_i, bGcd_i, atI_0, List.set_cons_zero, List.set_cons_succ, List.map_cons, List.map_nil, List.cons_append, List.nil_append, List.length_cons, List.length_nil, List.replicate, Bool.not_true, Bool.not_false, decide_true, decide_false, kLst_ok, kTup_ok, Nat.reduceAdd, Nat.reduceLeDiff, Int.reducePow, Int.reduceToNat, Int.reduceMul, Int.reduceAdd, Int.reduceSub, Int.reduceNeg, kBi_ex, kA_ex, kA2_ex, mSl_eq, kSl1_ok, kSl2_ok, kSl3_ok, oNone_eq, oSome_eq, kOS_ok, oSl_t, mTry_eq, kTry_nx, kTry_rt, kRaise_ok, kExpr_ex, kSeq_ex, kRet_ex])
local macro_rules | `(tactic| walk_at "za") => `(tactic| simp (config := { decide := false }) only [tI20, tI21, tI30, tI31, tI32, tI40, tI41, tI42, tI43, tI50, tI51, tI52, tI53, tI54, gFd_eq, kFd_ok, gDt_eq, kDt_ok, kDt2_ok, mAugF_eq, kAf1_ok, kAf2_ok, kAf3_ok, kAf4_ok, mAugS_eq, kAs1_ok, kAs2_ok, kAs3_ok, kAs4_ok, kAs5_ok, mMe_eq, kMe2_ok, mMk_eq, mChain3_eq, kD1_ok, kD2_ok, kD3_t, kD3_f, kD4_ok, kD5_t, kD5_f, kD6_ok, bMax3_i, mGD_eq, m1_eq, k1_ok, m2_eq, k2_ok, k2'_ok, mVar0, mVarS, mC_eq, mTst_eq, mTru_eq, kTru_ok, tru_bl, tru_int, tru_non, tru_tup, mAndT_eq, kAndT_t, kAndT_f, mOrT_eq, kOrT_t, kOrT_f, mNotT_eq, kNotT_ok, mChain_eq, kC1_ok, kC2_ok, kC3_t, kC3_f, kC4_ok, mB_eq, kB_ok, mAnd_eq, kAnd_ok, kAnd2_t, kAnd2_f, mOr_eq, kOr_ok, kOr2_t, kOr2_f, mNot_eq, kNot_ok, kNot2_ok, mIfE_eq, kIfE_t, kIfE_f, mArgs_nil, mArgs_cons, kA_ok, kA2_ok, mBi_eq, kBi_ok, mTup_eq, mLst_eq, mIsi_eq, kIsi_int, kIsi_bl, kIsi_str, kIsi_non, kIsi_tup, kIsi2_ok, kb_ii, kb_ib, kb_is, kb_it, kb_il, kb_bi, kb_bb, kb_bs, kb_bt, kb_bl, kb_si, kb_sb, kb_ss, kb_st, kb_sl, kb_ni, kb_nb, kb_ns, kb_nt, kb_nl, kb_ti, kb_tb, kb_ts, kb_tt, kb_tl, kb_li, kb_lb, kb_ls, kb_lt, kb_ll, mSeq_eq, kSeq_nx, kSeq_rt, kSeq_bk, kSeq_ct, kSeq_ex, mIf_eq, kIf_t, kIf_f, kIf_ex, mAsg_eq, kAsg_ok, kAsg_ex, gN_eq, gSb_eq, kSb_ok, kSb2_ok, gsNil_eq, gsCons_eq, mSkip_eq, mBreak_eq, mCont_eq, mExpr_eq, kExpr_ok, kExpr_ex, mRet_eq, kRet_ok, kRet_ex, mRetN_eq, mPar_eq, kPar_ok, mAug_eq, kAug0_ok, kAug_ok, kAug2_ok, mRaise_eq, kRaise_ok, mFn_eq, kFn_nx, kFn_rt, kFn_ex, oAdd_i, oIAdd_i, oSub_i, oNeg_i, oLt_i, oLe_i, oGt_i, oGe_i, oEq_i, oNe_i, oEq_s, oNe_s, oEq_b, oNe_b, oIs_n, oIsN_n, oIs_b, oIsN_b, isN_int, isN_bl, isN_str, isN_tup, isN_ref, isN_non, bAbs_i, bInt_i, bInt_b, bLen_t, bMax2_i, bMin2_i, bGcd_i, atI_0, List.set_cons_zero, List.set_cons_succ, List.map_cons, List.map_nil, List.cons_append, List.nil_append, List.length_cons, List.length_nil, List.replicate, Bool.not_true, Bool.not_false, decide_true, decide_false, kLst_ok, kTup_ok, Nat.reduceAdd, Nat.reduceLeDiff, Int.reducePow, Int.reduceToNat, Int.reduceMul, Int.reduceAdd, Int.reduceSub, Int.reduceNeg, kBi_ex, kA_ex, kA2_ex, mSl_eq, kSl1_ok, kSl2_ok, kSl3_ok, oNone_eq, oSome_eq, kOS_ok, oSl_t, mTry_eq, kTry_nx, kTry_rt, kRaise_ok, kExpr_ex, kSeq_ex, kRet_ex, *])
/-- code points of a text -/
def cpS (x : Str) : List Nat := x.cps.toList
def itc (sep : List Nat) : List (List Nat) → List Nat
  | [] => []
  | [x] => x
  | x :: y :: r => x ++ sep ++ itc sep (y :: r)
def tx : Nat → A → List Nat
  | _, .non => [110]
  | _, .bl true => [116]
  | _, .bl false => [102]
  | _, .int i => cpS (toString i)
  | _, .str x => 34 :: cpS x ++ [34]
  | n + 1, .tup xs => 40 :: itc [44] (xs.map (tx n)) ++ [41]
  | _, _ => []
def strG : List Str := ["", "a", "kind1", "(,)", "-1", "n t"]
def okD : Nat → A → Bool
  | _, .non => true
  | _, .bl _ => true
  | _, .int i => decide (i.natAbs < 10 ^ 15)
  | _, .str x => decide (x ∈ strG)
  | n + 1, .tup xs => decide (xs.length ≤ 3) && xs.all (okD n)
  | _, _ => false
theorem str_len {x : Str} (h : x ∈ strG) : (cpS x).length ≤ 10 := by
  unfold strG at h
  simp only [List.mem_cons, List.not_mem_nil, or_false] at h
  rcases h with rfl | rfl | rfl | rfl | rfl | rfl <;> decide +kernel
def st (l : List Nat) : A := .str ⟨l.toArray⟩
section
variable {h : AH} {sk n : Nat} {v : A}
theorem okD_s : ∀ (n : Nat) (v : A), okD n v = true → okD (n + 1) v = true
  | n, .non, _ => by cases n <;> rfl
  | n, .bl b, _ => by cases n <;> rfl
  | n, .int i, e => by cases n <;> exact e
  | n, .str x, e => by cases n <;> exact e
  | 0, .tup xs, e => by cases e
  | n + 1, .tup xs, e => by
    have e : (decide (xs.length ≤ 3) && xs.all (okD n)) = true := e
    rw [Bool.and_eq_true, List.all_eq_true] at e
    show (decide (xs.length ≤ 3) && xs.all (okD (n + 1))) = true
    rw [Bool.and_eq_true, List.all_eq_true]
    exact ⟨e.1, fun x hx => okD_s n x (e.2 x hx)⟩
  | n, .ref k, e => by cases n <;> cases e
  | n, .fro k, e => by cases n <;> cases e
  | n, .fn k, e => by cases n <;> cases e
theorem num_ok {k : Nat} {x1 x2 x3 : Option A} {h1 : AH} (S1 : Strm h1 sk) : ∃ v h', (m2 oMul (mBi F__law_next [(mVar 0), (m2 oIx (mLst [(mC (.int 3)), (mC (.int 200)), (m2 oPow (mC (.int 10)) (mC (.int 11)))]) (mBi F__law_next [(mVar 0), (mC (.int 3))]))]) (m2 oSub (mC (.int 1)) (m2 oMul (mC (.int 2)) (mBi F__law_next [(mVar 0), (mC (.int 2))])))) [some (.ref sk), x1, x2, x3] h1 = .ok v h' ∧ okD k v = true ∧ Strm h' sk ∧ ZP.Fr [sk] h1 h' := by
  walk_at "zs"
  rw [show ∀ h, oPow (.int 10) (.int 11) h = .ok (.int 100000000000) h from fun h => by kernel_rfl]
  walk_at "zs"
  generalize hr : k2' oIx _ (F__law_next _ _) = q
  obtain ⟨m, h2, rfl, mv, S2, f2⟩ := pick_at hr S1 rfl (by decide) (by decide)
  clear hr
  obtain ⟨M, rfl, m0, m1⟩ : ∃ M : Int, m = .int M ∧ 0 < M ∧ M ≤ 100000000000 := by
    simp only [List.mem_cons, List.not_mem_nil, or_false] at mv
    rcases mv with rfl | rfl | rfl
    · exact ⟨3, rfl, by decide, by decide⟩
    · exact ⟨200, rfl, by decide, by decide⟩
    · exact ⟨100000000000, rfl, by decide, by decide⟩
  walk_at "zs"
  generalize hr : F__law_next _ _ = q
  obtain ⟨x, h3, rfl, x0, x1, S3, f3⟩ := next_at hr S2 m0 (by omega)
  clear hr
  walk_at "zs"
  generalize hr : F__law_next _ _ = q
  obtain ⟨y, h4, rfl, y0, y1, S4, f4⟩ := next_at hr S3 (by decide) (by decide)
  clear hr
  walk_at "zs"
  rw [mu (by decide) (by omega)]
  walk_at "zs"
  rw [mu (by omega) (by omega)]
  refine ⟨_, h4, rfl, ?_, S4, (f2.trans f3).trans f4⟩
  have : (x * (1 - 2 * y)).natAbs < 10 ^ 15 := by
    have : y = 0 ∨ y = 1 := by omega
    rcases this with rfl | rfl <;> omega
  cases k <;> exact decide_eq_true this
/-- the drawn data: k levels are left -/
theorem data_ok : ∀ (k : Nat) (d : Nat) (h : AH), (d ≤ 4 ∧ 4 ≤ d + k) → Strm h sk → ∃ v h', recF m__law_data 4 (k + 1) [.ref sk, .int (d : Int)] h = .ok v h' ∧ okD k v = true ∧ Strm h' sk ∧ ZP.Fr [sk] h h'
  | k, d, h, e, S => by
    have slt := S.lt
    have ih : ∀ k', k = k' + 1 → d ≠ 4 → ∀ (h : AH), Strm h sk → ∃ v h', recF m__law_data 4 k [.ref sk, .int ((d + 1 : Nat) : Int)] h = .ok v h' ∧ okD k' v = true ∧ Strm h' sk ∧ ZP.Fr [sk] h h' := fun k' ek hd h S => by
      subst ek
      exact data_ok k' (d + 1) h (by omega) S
    show ∃ v h', mFn 4 (m__law_data (recF m__law_data 4 k)) [.ref sk, .int (d : Int)] h = .ok v h' ∧ _
    generalize recF m__law_data 4 k = F at ih ⊢
    unfold m__law_data
    walk_at "zs"
    generalize hr : F__law_next _ _ = q
    obtain ⟨p, h1, rfl, p0, p1, S1, f1⟩ := next_at hr S (by decide) (by decide)
    clear hr
    walk_at "zs"
    by_cases c0 : p = 0
    · simp only [decide_eq_true c0]
      walk_at "zs"
      generalize hr : k2' oIx _ (F__law_next _ _) = q
      obtain ⟨v, h2, rfl, mv, S2, f2⟩ := pick_at hr S1 rfl (by decide) (by decide)
      clear hr
      walk_at "zs"
      refine ⟨v, h2, rfl, ?_, S2, f1.trans f2⟩
      simp only [List.mem_cons, List.not_mem_nil, or_false] at mv
      rcases mv with rfl | rfl | rfl <;> cases k <;> rfl
    · simp only [decide_eq_false c0]
      walk_at "zs"
      unfold m__law_data_r2
      walk_at "zs"
      by_cases c1 : p < 3
      · simp only [decide_eq_true c1]
        walk_at "zs"
        generalize hr : k2' oIx _ (F__law_next _ _) = q
        obtain ⟨v, h2, rfl, mv, S2, f2⟩ := pick_at hr S1 rfl (by decide) (by decide)
        clear hr
        walk_at "zs"
        refine ⟨v, h2, rfl, ?_, S2, f1.trans f2⟩
        simp only [List.mem_cons, List.not_mem_nil, or_false] at mv
        have q : ∀ x : Str, decide (x ∈ strG) = true → okD k (.str x) = true := fun x hx => by cases k <;> exact hx
        rcases mv with rfl | rfl | rfl | rfl | rfl | rfl <;> exact q _ (by decide +kernel)
      · simp only [decide_eq_false c1]
        walk_at "zs"
        unfold m__law_data_r3
        walk_at "zs"
        obtain ⟨v, h', e1, e2, e3, e4⟩ := num_ok (k := k) (x1 := some (.int (d : Int))) (x2 := some (.int p)) (x3 := none) S1
        generalize (m2 oMul (mBi F__law_next [(mVar 0), (m2 oIx (mLst [(mC (.int 3)), (mC (.int 200)), (m2 oPow (mC (.int 10)) (mC (.int 11)))]) (mBi F__law_next [(mVar 0), (mC (.int 3))]))]) (m2 oSub (mC (.int 1)) (m2 oMul (mC (.int 2)) (mBi F__law_next [(mVar 0), (mC (.int 2))])))) = MM at e1 ⊢
        by_cases c3 : p < 6
        · simp only [decide_eq_true c3]
          walk_at "zs"
          rw [e1]
          walk_at "zs"
          exact ⟨v, h', rfl, e2, e3, f1.trans e4⟩
        · by_cases c4 : (d : Int) = 4
          · simp only [decide_eq_false c3]
            walk_at "zs"
            simp only [decide_eq_true c4]
            walk_at "zs"
            rw [e1]
            walk_at "zs"
            exact ⟨v, h', rfl, e2, e3, f1.trans e4⟩
          · simp only [decide_eq_false c3]
            walk_at "zs"
            simp only [decide_eq_false c4]
            walk_at "zs"
            obtain ⟨k', rfl⟩ : ∃ k', k = k' + 1 := ⟨k - 1, by omega⟩
            unfold m__law_data_r4
            walk_at "zs"
            obtain ⟨q0, eq0⟩ : ∃ r, F__law_next [.ref sk, .int 4] h1 = r := ⟨_, rfl⟩
            obtain ⟨N', h2, rfl, n0, n1, S2, f2⟩ := next_at eq0 S1 (by decide) (by decide)
            obtain ⟨N, rfl⟩ : ∃ N : Nat, N' = (N : Int) := ⟨N'.toNat, by omega⟩
            obtain ⟨ys, h3, e5, a5, l5, ry, S3, f3⟩ := lc_drawW (me := mBi F [(mVar 0), (m2 oAdd (mVar 1) (mC (.int 1)))]) (ga := _root_.Z.c1 3) (sa := [some (.ref sk), some (.int (d : Int)), some (.int p), none]) (q0 := h2.length)
              (wk_rng0 (N := N)) (fun i => [some (.ref sk), some (.int (d : Int)), some (.int p), some (.int (i : Int))]) (fun i hi => rfl) (fun y => okD k' y = true) (fun h' => Strm h' sk ∧ ZP.Fr [sk] h2 h') (fun _ _ => trivial)
              (fun i h' acc hi q e => by
                obtain ⟨S, f⟩ := q
                walk_at "zs"
                obtain ⟨v, h4, e6, e7, e8, e9⟩ := ih k' rfl (by omega) h' S
                rw [show ((d : Int) + 1) = ((d + 1 : Nat) : Int) by push_cast; rfl, e6]
                have sl2 := S.lt
                exact ⟨v, h4, rfl, e7, e9.at e (by simp; have := S2.lt; omega), strm_fr (ns := [h2.length]) e8 (ZP.Fr.set (by simp)) (by simp; exact S2.lt), ⟨by rw [List.length_set]; exact (f.trans e9).le, fun m hm hn' => by rw [List.getElem?_set_ne (by omega)]; exact (f.trans e9).eq m hm hn'⟩⟩) N 0 [] (h2 ++ [.lst []]) (by omega) ⟨S2.push _, ZP.Fr.push _⟩ (new_at _ _) (by simp; omega)
            have el : mLc (mRng1 (mBi F__law_next [(mVar 0), (mC (.int 4))])) (_root_.Z.c1 3) mYes (mBi F [(mVar 0), (m2 oAdd (mVar 1) (mC (.int 1)))]) [3] [some (.ref sk), some (.int (d : Int)), some (.int p), none] h1 = .ok (.ref h2.length) h3 := by
              unfold mLc
              rw [show mRng1 (mBi F__law_next [(mVar 0), (mC (.int 4))]) [some (.ref sk), some (.int (d : Int)), some (.int p), none] h1 = .ok (IT.rng 0 N) h2 from r1n_ok (by walk_at "zs"; exact eq0) (by omega)]
              exact e5
            rw [el]
            walk_at "zs"
            rw [List.nil_append] at a5
            rw [show bTuple [.ref h2.length] h3 = .ok (.tup ys) h3 by simp only [bTuple, lsA, a5]]
            walk_at "zs"
            refine ⟨_, h3, rfl, ?_, S3, (f1.trans f2).trans f3⟩
            show (decide (ys.length ≤ 3) && ys.all (okD k')) = true
            rw [decide_eq_true (by omega), Bool.true_and, List.all_eq_true]
            exact ry
end
end law_k60

namespace law_k60
open PySem PySem.Spec PyProof.Rows L2 Z ZP ZN ZC ZK ZO LP
open ZL (F_is_whole F_require F_is_between F_is_coordinate F__law_next F__law_stream F__law_is_integer F__law_equal)
local macro_rules | `(tactic| walk_at "zs") => `(tactic| simp (config := { decide := false }) only [tI20, tI21, tI30, tI31, tI32, tI40, tI41, tI42, tI43, tI50, tI51, tI52, tI53, tI54, gFd_eq, kFd_ok, gDt_eq, kDt_ok, kDt2_ok, mAugF_eq, kAf1_ok, kAf2_ok, kAf3_ok, kAf4_ok, mAugS_eq, kAs1_ok, kAs2_ok, kAs3_ok, kAs4_ok, kAs5_ok, mMe_eq, kMe2_ok, mMk_eq, mChain3_eq, kD1_ok, kD2_ok, kD3_t, kD3_f, kD4_ok, kD5_t, kD5_f, kD6_ok, bMax3_i, mGD_eq, m1_eq, k1_ok, m2_eq, k2_ok, k2'_ok, mVar0, mVarS, mC_eq, mTst_eq, mTru_eq, kTru_ok, tru_bl, tru_int, tru_non, tru_tup, mAndT_eq, kAndT_t, kAndT_f, mOrT_eq, kOrT_t, kOrT_f, mNotT_eq, kNotT_ok, mChain_eq, kC1_ok, kC2_ok, kC3_t, kC3_f, kC4_ok, mB_eq, kB_ok, mAnd_eq, kAnd_ok, kAnd2_t, kAnd2_f, mOr_eq, kOr_ok, kOr2_t, kOr2_f, mNot_eq, kNot_ok, kNot2_ok, mIfE_eq, kIfE_t, kIfE_f, mArgs_nil, mArgs_cons, kA_ok, kA2_ok, mBi_eq, kBi_ok, mTup_eq, mLst_eq, mIsi_eq, kIsi_int, kIsi_bl, kIsi_str, kIsi_non, kIsi_tup, kIsi2_ok, kb_ii, kb_ib, kb_is, kb_it, kb_il, kb_bi, kb_bb, kb_bs, kb_bt, kb_bl, kb_si, kb_sb, kb_ss, kb_st, kb_sl, kb_ni, kb_nb, kb_ns, kb_nt, kb_nl, kb_ti, kb_tb, kb_ts, kb_tt, kb_tl, kb_li, kb_lb, kb_ls, kb_lt, kb_ll, mSeq_eq, kSeq_nx, kSeq_rt, kSeq_bk, kSeq_ct, kSeq_ex, mIf_eq, kIf_t, kIf_f, kIf_ex, mAsg_eq, kAsg_ok, kAsg_ex, gN_eq, gSb_eq, kSb_ok, kSb2_ok, gsNil_eq, gsCons_eq, mSkip_eq, mBreak_eq, mCont_eq, mExpr_eq, kExpr_ok, kExpr_ex, mRet_eq, kRet_ok, kRet_ex, mRetN_eq, mPar_eq, kPar_ok, mAug_eq, kAug0_ok, kAug_ok, kAug2_ok, mRaise_eq, kRaise_ok, mFn_eq, kFn_nx, kFn_rt, kFn_ex, oAdd_i, oIAdd_i, oSub_i, oNeg_i, oLt_i, oLe_i, oGt_i, oGe_i, oEq_i, oNe_i, oEq_s, oNe_s, oEq_b, oNe_b, oIs_n, oIsN_n, oIs_b, oIsN_b, isN_int, isN_bl, isN_str, isN_tup, isN_ref, isN_non, bAbs_i, bInt_i, bInt_b, bLen_t, bMax2_i, bMin2_i, bGcd_i, atI_0, List.set_cons_zero, List.set_cons_succ, List.map_cons, List.map_nil, List.cons_append, List.nil_append, List.length_cons, List.length_nil, List.replicate, Bool.not_true, Bool.not_false, decide_true, decide_false, kLst_ok, kTup_ok, Nat.reduceAdd, Nat.reduceLeDiff, Int.reducePow, Int.reduceToNat, Int.reduceMul, Int.reduceAdd, Int.reduceSub, Int.reduceNeg, kBi_ex, kA_ex, kA2_ex, mSl_eq, kSl1_ok, kSl2_ok, kSl3_ok, oNone_eq, oSome_eq, kOS_ok, oSl_t, mTry_eq, kTry_nx, kTry_rt, kRaise_ok, kExpr_ex, kSeq_ex, kRet_ex])
local macro_rules | `(tactic| walk_at "za") => `(tactic| simp (config := { decide := false }) only [tI20, tI21, tI30, tI31, tI32, tI40, tI41, tI42, tI43, tI50, tI51, tI52, tI53, tI54, gFd_eq, kFd_ok, gDt_eq, kDt_ok, kDt2_ok, mAugF_eq, kAf1_ok, kAf2_ok, kAf3_ok, kAf4_ok, mAugS_eq, kAs1_ok, kAs2_ok, kAs3_ok, kAs4_ok, kAs5_ok, mMe_eq, kMe2_ok, mMk_eq, mChain3_eq, kD1_ok, kD2_ok, kD3_t, kD3_f, kD4_ok, kD5_t, kD5_f, kD6_ok, bMax3_i, mGD_eq, m1_eq, k1_ok, m2_eq, k2_ok, k2'_ok, mVar0, mVarS, mC_eq, mTst_eq, mTru_eq, kTru_ok, tru_bl, tru_int, tru_non, tru_tup, mAndT_eq, kAndT_t, kAndT_f, mOrT_eq, kOrT_t, kOrT_f, mNotT_eq, kNotT_ok, mChain_eq, kC1_ok, kC2_ok, kC3_t, kC3_f, kC4_ok, mB_eq, kB_ok, mAnd_eq, kAnd_ok, kAnd2_t, kAnd2_f, mOr_eq, kOr_ok, kOr2_t, kOr2_f, mNot_eq, kNot_ok, kNot2_ok, mIfE_eq, kIfE_t, kIfE_f, mArgs_nil, mArgs_cons, kA_ok, kA2_ok, mBi_eq, kBi_ok, mTup_eq, mLst_eq, mIsi_eq, kIsi_int, kIsi_bl, kIsi_str, kIsi_non, kIsi_tup, kIsi2_ok, kb_ii, kb_ib, kb_is, kb_it, kb_il, kb_bi, kb_bb, kb_bs, kb_bt, kb_bl, kb_si, kb_sb, kb_ss, kb_st, kb_sl, kb_ni, kb_nb, kb_ns, kb_nt, kb_nl, kb_ti, kb_tb, kb_ts, kb_tt, kb_tl, kb_li, kb_lb, kb_ls, kb_lt, kb_ll, mSeq_eq, kSeq_nx, kSeq_rt, kSeq_bk, kSeq_ct, kSeq_ex, mIf_eq, kIf_t, kIf_f, kIf_ex, mAsg_eq, kAsg_ok, kAsg_ex, gN_eq, gSb_eq, kSb_ok, kSb2_ok, gsNil_eq, gsCons_eq, mSkip_eq, mBreak_eq, mCont_eq, mExpr_eq, kExpr_ok, kExpr_ex, mRet_eq, kRet_ok, kRet_ex, mRetN_eq, mPar_eq, kPar_ok, mAug_eq, kAug0_ok, kAug_ok, kAug2_ok, mRaise_eq, kRaise_ok, mFn_eq, kFn_nx, kFn_rt, kFn_ex, oAdd_i, oIAdd_i, oSub_i, oNeg_i, oLt_i, oLe_i, oGt_i, oGe_i, oEq_i, oNe_i, oEq_s, oNe_s, oEq_b, oNe_b, oIs_n, oIsN_n, oIs_b, oIsN_b, isN_int, isN_bl, isN_str, isN_tup, isN_ref, isN_non, bAbs_i, bInt_i, bInt_b, bLen_t, bMax2_i, bMin2_i, bGcd_i, atI_0, List.set_cons_zero, List.set_cons_succ, List.map_cons, List.map_nil, List.cons_append, List.nil_append, List.length_cons, List.length_nil, List.replicate, Bool.not_true, Bool.not_false, decide_true, decide_false, kLst_ok, kTup_ok, Nat.reduceAdd, Nat.reduceLeDiff, Int.reducePow, Int.reduceToNat, Int.reduceMul, Int.reduceAdd, Int.reduceSub, Int.reduceNeg, kBi_ex, kA_ex, kA2_ex, mSl_eq, kSl1_ok, kSl2_ok, kSl3_ok, oNone_eq, oSome_eq, kOS_ok, oSl_t, mTry_eq, kTry_nx, kTry_rt, kRaise_ok, kExpr_ex, kSeq_ex, kRet_ex, *])
section
variable {h h' : AH} {sk n k : Nat} {v : A} {s : SA} {m m2 : ME} {a b : List Nat} {i : Int} {x : Str}
theorem st_cp : A.str x = st (cpS x) := by
  obtain ⟨⟨l⟩⟩ := x
  rfl
theorem st_add (c : a.length + b.length ≤ 100000) : oAdd (st a) (st b) h = .ok (st (a ++ b)) h := by
  show (if (⟨a.toArray⟩ : Str).length + (⟨b.toArray⟩ : Str).length ≤ sizeLine then Rs.ok (A.str ((⟨a.toArray⟩ : Str) ++ ⟨b.toArray⟩)) h else .no) = _
  rw [if_pos (by rw [sizeLine_eq]; show a.toArray.size + b.toArray.size ≤ _; rw [List.size_toArray, List.size_toArray]; omega)]
  show Rs.ok (A.str ⟨a.toArray ++ b.toArray⟩) h = _
  unfold st
  congr 3
  simp
theorem cp_neg (hi : i < 0) : cpS (Str.ofString (toString i)) = 45 :: cpS (Str.ofString (toString (-i))) := by
  rw [toString_neg hi, show (0 : Int) - i = -i by omega]
  unfold cpS
  rw [Str.ofString_eq_toList, Str.ofString_eq_toList]
  simp
theorem cp_len (hi : i.natAbs < 10 ^ 15) : (cpS (Str.ofString (toString i))).length ≤ 16 := by
  have pos : ∀ j : Int, 0 ≤ j → j < 10 ^ 15 → (cpS (Str.ofString (toString j))).length ≤ 15 := fun j h0 h1 => by
    have := toString_length_le h0 (k := 15) (by decide) h1
    unfold cpS
    rw [Array.length_toList]
    exact this
  rcases Int.lt_or_le i 0 with z | z
  · rw [cp_neg z]
    have := pos (-i) (by omega) (by omega)
    simp only [List.length_cons]
    omega
  · have := pos i z (by omega)
    omega
theorem big_str (hi : i.natAbs < 10 ^ 15) : bStr [.int i] h = .ok (st (cpS (Str.ofString (toString i)))) h := by
  rw [← st_cp]
  have : i.natAbs.log2 < 1920 := by
    have := Nat.log2_lt (n := i.natAbs) (k := 1920)
    by_cases z : i.natAbs = 0
    · rw [z]; decide
    · rw [Nat.log2_lt z]
      exact Nat.lt_of_lt_of_le hi (Nat.le_trans (by decide : 10 ^ 15 ≤ 2 ^ 64) (Nat.pow_le_pow_right (by decide) (by decide)))
  exact if_pos this
/-! ### joined texts -/
theorem fold_sep {sep : Array Nat} : ∀ (ss : List Str) (acc : Array Nat), ss.foldl (fun acc p => acc ++ sep ++ p.cps) acc = acc ++ ((ss.map fun s => sep.toList ++ s.cps.toList).flatten).toArray
  | [], acc => by simp
  | s :: ss, acc => by
    rw [List.foldl_cons, fold_sep ss]
    apply Array.ext'
    simp
theorem itc_cons {sep x : List Nat} : ∀ r : List (List Nat), itc sep (x :: r) = x ++ (r.map fun y => sep ++ y).flatten
  | [] => by simp [itc]
  | y :: r => by
    rw [itc, itc_cons r, List.map_cons, List.flatten_cons]
    simp
theorem join_sep (sep : List Nat) (ls : List (List Nat)) : Txt.join ⟨sep.toArray⟩ (ls.map fun l => (⟨l.toArray⟩ : Str)) = ⟨(itc sep ls).toArray⟩ := by
  unfold Txt.join Builtin.Str.glued
  cases ls with
  | nil => rfl
  | cons l ls =>
    show (⟨(ls.map fun l => (⟨l.toArray⟩ : Str)).foldl _ _⟩ : Str) = _
    rw [fold_sep, itc_cons]
    congr 1
    apply Array.ext'
    simp [List.map_map]
    rfl
theorem mapM_st : ∀ ls : List (List Nat), (ls.map st).mapM stA = some (ls.map fun l => (⟨l.toArray⟩ : Str))
  | [] => rfl
  | l :: ls => by
    rw [List.map_cons, List.mapM_cons, mapM_st ls]
    rfl
theorem sum_len : ∀ ls : List (List Nat), ((ls.map fun l => (⟨l.toArray⟩ : Str)).map (·.length)).sum = (ls.map List.length).sum
  | [] => rfl
  | l :: ls => by
    rw [List.map_cons, List.map_cons, List.sum_cons, sum_len ls, List.map_cons, List.sum_cons]
    rfl
theorem join_ok {sep : List Nat} {ls : List (List Nat)} (e1 : m s h = .ok (st sep) h) (e2 : m2 s h = .ok (.ref k) h') (e3 : h'[k]? = some (.lst (ls.map st))) (c : (ls.map List.length).sum + ls.length * sep.length ≤ 16777216) : mJoin m m2 s h = .ok (st (itc sep ls)) h' := by
  unfold mJoin
  rw [e1]
  simp only [Rs.bind, st, e2, lsA, e3, mapM_st]
  rw [if_pos (by
    rw [sum_len, List.length_map]
    show _ + ls.length * sep.toArray.size ≤ _
    rw [List.size_toArray]
    exact c), join_sep]
/-! ### how long -/
theorem itc_len {sep : List Nat} {L : Nat} : ∀ ls : List (List Nat), (∀ l ∈ ls, l.length ≤ L) → (itc sep ls).length ≤ ls.length * (L + sep.length)
  | [], _ => by simp [itc]
  | l :: ls, f => by
    have h1 := f l (by simp)
    rw [itc_cons]
    have : ∀ r : List (List Nat), (∀ l ∈ r, l.length ≤ L) → (r.map fun y => sep ++ y).flatten.length ≤ r.length * (L + sep.length) := fun r => by
      induction r with
      | nil => simp
      | cons y r ih =>
        intro g
        have := ih fun l hl => g l (List.mem_cons_of_mem _ hl)
        have := g y (by simp)
        rw [List.map_cons, List.flatten_cons, List.length_append, List.length_append, List.length_cons, Nat.succ_mul]
        omega
    have := this ls fun l hl => f l (List.mem_cons_of_mem _ hl)
    rw [List.length_append, List.length_cons, Nat.succ_mul]
    omega
theorem tx_len : ∀ (n : Nat) (v : A), okD n v = true → (tx n v).length ≤ 25 * 4 ^ n
  | n, .non, _ => by
    have : 1 ≤ 4 ^ n := Nat.one_le_pow _ _ (by decide)
    cases n <;> simp [tx] <;> omega
  | n, .bl b, _ => by
    have : 1 ≤ 4 ^ n := Nat.one_le_pow _ _ (by decide)
    cases n <;> cases b <;> simp [tx] <;> omega
  | n, .int i, e => by
    have : 1 ≤ 4 ^ n := Nat.one_le_pow _ _ (by decide)
    have e : decide (i.natAbs < 10 ^ 15) = true := by cases n <;> exact e
    have hq := cp_len (of_decide_eq_true e)
    have hz : tx n (.int i) = cpS (Str.ofString (toString i)) := by cases n <;> rfl
    rw [hz]
    omega
  | n, .str x, e => by
    have : 1 ≤ 4 ^ n := Nat.one_le_pow _ _ (by decide)
    have e : decide (x ∈ strG) = true := by cases n <;> exact e
    have hx := str_len (of_decide_eq_true e)
    have hz : (tx n (.str x)).length = (cpS x).length + 2 := by cases n <;> simp [tx]
    omega
  | 0, .tup xs, e => by cases e
  | n + 1, .tup xs, e => by
    have e : (decide (xs.length ≤ 3) && xs.all (okD n)) = true := e
    rw [Bool.and_eq_true, List.all_eq_true, decide_eq_true_eq] at e
    have := itc_len (sep := [44]) (L := 25 * 4 ^ n) (xs.map (tx n)) (fun l hl => by
      obtain ⟨x, hx, rfl⟩ := List.mem_map.mp hl
      exact tx_len n x (e.2 x hx))
    rw [List.length_map] at this
    have h3 : xs.length * (25 * 4 ^ n + [44].length) ≤ 3 * (25 * 4 ^ n + 1) := Nat.mul_le_mul e.1 (Nat.le_refl _)
    show (40 :: itc [44] (xs.map (tx n)) ++ [41]).length ≤ 25 * 4 ^ (n + 1)
    rw [Nat.pow_succ]
    simp only [List.length_append, List.length_cons, List.length_nil]
    have : 1 ≤ 4 ^ n := Nat.one_le_pow _ _ (by decide)
    omega
  | n, .ref k, e => by cases n <;> cases e
  | n, .fro k, e => by cases n <;> cases e
  | n, .fn k, e => by cases n <;> cases e
end
end law_k60

namespace law_k60
open PySem PySem.Spec PyProof.Rows L2 Z ZP ZN ZC ZK ZO LP
open ZL (F_is_whole F_require F_is_between F_is_coordinate F__law_next F__law_stream F__law_is_integer F__law_equal)
local macro_rules | `(tactic| walk_at "zs") => `(tactic| simp (config := { decide := false }) only [tI20, tI21, tI30, tI31, tI32, tI40, tI41, tI42, tI43, tI50, tI51, tI52, tI53, tI54, gFd_eq, kFd_ok, gDt_eq, kDt_ok, kDt2_ok, mAugF_eq, kAf1_ok, kAf2_ok, kAf3_ok, kAf4_ok, mAugS_eq, kAs1_ok, kAs2_ok, kAs3_ok, kAs4_ok, kAs5_ok, mMe_eq, kMe2_ok, mMk_eq, mChain3_eq, kD1_ok, kD2_ok, kD3_t, kD3_f, kD4_ok, kD5_t, kD5_f, kD6_ok, bMax3_i, mGD_eq, m1_eq, k1_ok, m2_eq, k2_ok, k2'_ok, mVar0, mVarS, mC_eq, mTst_eq, mTru_eq, kTru_ok, tru_bl, tru_int, tru_non, tru_tup, mAndT_eq, kAndT_t, kAndT_f, mOrT_eq, kOrT_t, kOrT_f, mNotT_eq, kNotT_ok, mChain_eq, kC1_ok, kC2_ok, kC3_t, kC3_f, kC4_ok, mB_eq, kB_ok, mAnd_eq, kAnd_ok, kAnd2_t, kAnd2_f, mOr_eq, kOr_ok, kOr2_t, kOr2_f, mNot_eq, kNot_ok, kNot2_ok, mIfE_eq, kIfE_t, kIfE_f, mArgs_nil, mArgs_cons, kA_ok, kA2_ok, mBi_eq, kBi_ok, mTup_eq, mLst_eq, mIsi_eq, kIsi_int, kIsi_bl, kIsi_str, kIsi_non, kIsi_tup, kIsi2_ok, kb_ii, kb_ib, kb_is, kb_it, kb_il, kb_bi, kb_bb, kb_bs, kb_bt, kb_bl, kb_si, kb_sb, kb_ss, kb_st, kb_sl, kb_ni, kb_nb, kb_ns, kb_nt, kb_nl, kb_ti, kb_tb, kb_ts, kb_tt, kb_tl, kb_li, kb_lb, kb_ls, kb_lt, kb_ll, mSeq_eq, kSeq_nx, kSeq_rt, kSeq_bk, kSeq_ct, kSeq_ex, mIf_eq, kIf_t, kIf_f, kIf_ex, mAsg_eq, kAsg_ok, kAsg_ex, gN_eq, gSb_eq, kSb_ok, kSb2_ok, gsNil_eq, gsCons_eq, mSkip_eq, mBreak_eq, mCont_eq, mExpr_eq, kExpr_ok, kExpr_ex, mRet_eq, kRet_ok, kRet_ex, mRetN_eq, mPar_eq, kPar_ok, mAug_eq, kAug0_ok, kAug_ok, kAug2_ok, mRaise_eq, kRaise_ok, mFn_eq, kFn_nx, kFn_rt, kFn_ex, oAdd_i, oIAdd_i, oSub_i, oNeg_i, oLt_i, oLe_i, oGt_i, oGe_i, oEq_i, oNe_i, oEq_s, oNe_s, oEq_b, oNe_b, oIs_n, oIsN_n, oIs_b, oIsN_b, isN_int, isN_bl, isN_str, isN_tup, isN_ref, isN_non, bAbs_i, bInt_i, bInt_b, bLen_t, bMax2_i, bMin2_i, bGcd_i, atI_0, List.set_cons_zero, List.set_cons_succ, List.map_cons, List.map_nil, List.cons_append, List.nil_append, List.length_cons, List.length_nil, List.replicate, Bool.not_true, Bool.not_false, decide_true, decide_false, kLst_ok, kTup_ok, Nat.reduceAdd, Nat.reduceLeDiff, Int.reducePow, Int.reduceToNat, Int.reduceMul, Int.reduceAdd, Int.reduceSub, Int.reduceNeg, kBi_ex, kA_ex, kA2_ex, mSl_eq, kSl1_ok, kSl2_ok, kSl3_ok, oNone_eq, oSome_eq, kOS_ok, oSl_t, mTry_eq, kTry_nx, kTry_rt, kRaise_ok, kExpr_ex, kSeq_ex, kRet_ex])
local macro_rules | `(tactic| walk_at "za") => `(tactic| simp (config := { decide := false }) only [tI20, tI21, tI30, tI31, tI32, tI40, tI41, tI42, tI43, tI50, tI51, tI52, tI53, tI54, gFd_eq, kFd_ok, gDt_eq, kDt_ok, kDt2_ok, mAugF_eq, kAf1_ok, kAf2_ok, kAf3_ok, kAf4_ok, mAugS_eq, kAs1_ok, kAs2_ok, kAs3_ok, kAs4_ok, kAs5_ok, mMe_eq, kMe2_ok, mMk_eq, mChain3_eq, kD1_ok, kD2_ok, kD3_t, kD3_f, kD4_ok, kD5_t, kD5_f, kD6_ok, bMax3_i, mGD_eq, m1_eq, k1_ok, m2_eq, k2_ok, k2'_ok, mVar0, mVarS, mC_eq, mTst_eq, mTru_eq, kTru_ok, tru_bl, tru_int, tru_non, tru_tup, mAndT_eq, kAndT_t, kAndT_f, mOrT_eq, kOrT_t, kOrT_f, mNotT_eq, kNotT_ok, mChain_eq, kC1_ok, kC2_ok, kC3_t, kC3_f, kC4_ok, mB_eq, kB_ok, mAnd_eq, kAnd_ok, kAnd2_t, kAnd2_f, mOr_eq, kOr_ok, kOr2_t, kOr2_f, mNot_eq, kNot_ok, kNot2_ok, mIfE_eq, kIfE_t, kIfE_f, mArgs_nil, mArgs_cons, kA_ok, kA2_ok, mBi_eq, kBi_ok, mTup_eq, mLst_eq, mIsi_eq, kIsi_int, kIsi_bl, kIsi_str, kIsi_non, kIsi_tup, kIsi2_ok, kb_ii, kb_ib, kb_is, kb_it, kb_il, kb_bi, kb_bb, kb_bs, kb_bt, kb_bl, kb_si, kb_sb, kb_ss, kb_st, kb_sl, kb_ni, kb_nb, kb_ns, kb_nt, kb_nl, kb_ti, kb_tb, kb_ts, kb_tt, kb_tl, kb_li, kb_lb, kb_ls, kb_lt, kb_ll, mSeq_eq, kSeq_nx, kSeq_rt, kSeq_bk, kSeq_ct, kSeq_ex, mIf_eq, kIf_t, kIf_f, kIf_ex, mAsg_eq, kAsg_ok, kAsg_ex, gN_eq, gSb_eq, kSb_ok, kSb2_ok, gsNil_eq, gsCons_eq, mSkip_eq, mBreak_eq, mCont_eq, mExpr_eq, kExpr_ok, kExpr_ex, mRet_eq, kRet_ok, kRet_ex, mRetN_eq, mPar_eq, kPar_ok, mAug_eq, kAug0_ok, kAug_ok, kAug2_ok, mRaise_eq, kRaise_ok, mFn_eq, kFn_nx, kFn_rt, kFn_ex, oAdd_i, oIAdd_i, oSub_i, oNeg_i, oLt_i, oLe_i, oGt_i, oGe_i, oEq_i, oNe_i, oEq_s, oNe_s, oEq_b, oNe_b, oIs_n, oIsN_n, oIs_b, oIsN_b, isN_int, isN_bl, isN_str, isN_tup, isN_ref, isN_non, bAbs_i, bInt_i, bInt_b, bLen_t, bMax2_i, bMin2_i, bGcd_i, atI_0, List.set_cons_zero, List.set_cons_succ, List.map_cons, List.map_nil, List.cons_append, List.nil_append, List.length_cons, List.length_nil, List.replicate, Bool.not_true, Bool.not_false, decide_true, decide_false, kLst_ok, kTup_ok, Nat.reduceAdd, Nat.reduceLeDiff, Int.reducePow, Int.reduceToNat, Int.reduceMul, Int.reduceAdd, Int.reduceSub, Int.reduceNeg, kBi_ex, kA_ex, kA2_ex, mSl_eq, kSl1_ok, kSl2_ok, kSl3_ok, oNone_eq, oSome_eq, kOS_ok, oSl_t, mTry_eq, kTry_nx, kTry_rt, kRaise_ok, kExpr_ex, kSeq_ex, kRet_ex, *])
section
variable {h h' : AH} {sk n k : Nat} {v : A} {s : SA} {m m2 : ME} {a b : List Nat} {i : Int} {x : Str}
theorem map_id (xs : List A) : xs.map (fun u => u) = xs := by simp
/-- the law's own text -/
theorem text_ok : ∀ (n : Nat) (v : A) (h : AH), n ≤ 5 → okD n v = true → ∃ h', recF m__law_text 2 (n + 1) [v] h = .ok (st (tx n v)) h' ∧ ZP.Fr [] h h'
  | n, v, h, hn, e => by
    have ih : ∀ n', n = n' + 1 → ∀ (u : A) (h : AH), okD n' u = true → ∃ h', recF m__law_text 2 n [u] h = .ok (st (tx n' u)) h' ∧ ZP.Fr [] h h' := fun n' en u h eu => by
      subst en
      exact text_ok n' u h (by omega) eu
    show ∃ h', mFn 2 (m__law_text (recF m__law_text 2 n)) [v] h = .ok (st (tx n v)) h' ∧ _
    generalize recF m__law_text 2 n = F at ih ⊢
    unfold m__law_text
    cases v with
    | non =>
      walk_at "zs"
      unfold m__law_text_r1
      walk_at "zs"
      unfold m__law_text_r2
      walk_at "zs"
      exact ⟨h, by cases n <;> rfl, ZP.Fr.refl _ _⟩
    | bl b =>
      walk_at "zs"
      unfold m__law_text_r1
      walk_at "zs"
      unfold m__law_text_r2
      walk_at "zs"
      unfold m__law_text_r3
      walk_at "zs"
      have n1 : (h ++ [AO.lst [A.str "f", .str "t"]])[h.length]? = some (.lst [A.str "f", .str "t"]) := new_at _ _
      have f1 : ZP.Fr [] h (h ++ [AO.lst [A.str "f", .str "t"]]) := ZP.Fr.push _
      generalize h ++ [AO.lst [A.str "f", .str "t"]] = h1 at *
      refine ⟨h1, ?_, f1⟩
      cases b
      · rw [show oIx (.ref h.length) (.int (if false = true then 1 else 0)) h1 = .ok (.str "f") h1 from oIx_l n1 atI_0]
        walk_at "zs"
        cases n <;> rfl
      · rw [show oIx (.ref h.length) (.int (if true = true then 1 else 0)) h1 = .ok (.str "t") h1 from oIx_l n1 (by rfl)]
        walk_at "zs"
        cases n <;> rfl
    | int i =>
      have e : decide (i.natAbs < 10 ^ 15) = true := by cases n <;> exact e
      walk_at "zs"
      unfold m__law_text_r1
      walk_at "zs"
      unfold m__law_text_r2
      walk_at "zs"
      unfold m__law_text_r3
      walk_at "zs"
      unfold m__law_text_r4
      walk_at "zs"
      rw [big_str (of_decide_eq_true e)]
      walk_at "zs"
      exact ⟨h, by cases n <;> rfl, ZP.Fr.refl _ _⟩
    | str x =>
      have e : decide (x ∈ strG) = true := by cases n <;> exact e
      have lx := str_len (of_decide_eq_true e)
      walk_at "zs"
      unfold m__law_text_r1
      walk_at "zs"
      rw [show A.str "\"" = st [34] from rfl, st_cp, st_add (by simp; omega)]
      walk_at "zs"
      rw [st_add (by simp; omega)]
      walk_at "zs"
      exact ⟨h, by cases n <;> rfl, ZP.Fr.refl _ _⟩
    | tup xs =>
      cases n with
      | zero => cases e
      | succ n =>
        have tl := tx_len (n + 1) (.tup xs) e
        have e : (decide (xs.length ≤ 3) && xs.all (okD n)) = true := e
        rw [Bool.and_eq_true, List.all_eq_true, decide_eq_true_eq] at e
        have nN : 1 ≤ 4 ^ n := Nat.one_le_pow _ _ (by decide)
        walk_at "zs"
        obtain ⟨h1, e1, a1, f1⟩ := lcTa (m := mVar 0) (s := [some (.tup xs), none]) (h := h) (h1 := h) (j := 1) (vs := [1]) (xs := xs) (val := fun u => u) (me := mBi F [(mVar 1)]) (G := fun u => st (tx n u)) (by walk_at "zs"; rw [map_id]) (by omega) (fun u hu h2 f2 => by
          obtain ⟨h3, e3, f3⟩ := ih n rfl u h2 (e.2 u hu)
          refine ⟨h3, ?_, f3⟩
          simp only [wipeA, List.foldl_cons, List.foldl_nil]
          walk_at "zs"
          rw [e3])
        have a2 : h1[h.length]? = some (.lst ((xs.map (tx n)).map st)) := by rw [a1, List.map_map]; rfl
        have ls : ((xs.map (tx n)).map List.length).sum ≤ xs.length * (25 * 4 ^ n) := by
          rw [List.map_map]
          have : ∀ ys : List A, (∀ u ∈ ys, okD n u = true) → (ys.map (List.length ∘ tx n)).sum ≤ ys.length * (25 * 4 ^ n) := fun ys => by
            induction ys with
            | nil => intro _; simp
            | cons y ys ih =>
              intro g
              have := ih fun u hu => g u (List.mem_cons_of_mem _ hu)
              have := tx_len n y (g y (by simp))
              rw [List.map_cons, List.sum_cons, List.length_cons, Nat.succ_mul]
              simp only [Function.comp]
              omega
          exact this xs e.2
        have p4 : 25 * 4 ^ n ≤ 25 * 4 ^ 4 := Nat.mul_le_mul_left _ (Nat.pow_le_pow_right (by decide) (by omega))
        have l3 : xs.length * (25 * 4 ^ n) ≤ 3 * (25 * 4 ^ 4) := Nat.mul_le_mul e.1 p4
        have p5 : 25 * 4 ^ (n + 1) ≤ 25 * 4 ^ 5 := Nat.mul_le_mul_left _ (Nat.pow_le_pow_right (by decide) hn)
        have tl' : (40 :: itc [44] (xs.map (tx n)) ++ [41]).length ≤ 25 * 4 ^ (n + 1) := tl
        simp only [List.length_append, List.length_cons, List.length_nil] at tl'
        rw [join_ok (s := [some (.tup xs), none]) (h := h) (h' := h1) (sep := [44]) (ls := xs.map (tx n)) (by walk_at "zs"; rfl) e1 a2 (by rw [List.length_map]; simp only [List.length_cons, List.length_nil]; omega)]
        rw [show A.str "(" = st [40] from rfl]
        walk_at "zs"
        rw [st_add (by simp only [List.length_cons, List.length_nil]; omega)]
        walk_at "zs"
        rw [show A.str ")" = st [41] from rfl, st_add (by simp only [List.length_append, List.length_cons, List.length_nil]; omega)]
        walk_at "zs"
        exact ⟨h1, rfl, f1⟩
    | ref k => cases n <;> cases e
    | fro k => cases n <;> cases e
    | fn k => cases n <;> cases e
end
end law_k60

namespace law_k60
open PySem PySem.Spec PyProof.Rows L2 Z ZP ZN ZC ZK ZO LP
open ZL (F_is_whole F_require F_is_between F_is_coordinate F__law_next F__law_stream F__law_is_integer F__law_equal)
local macro_rules | `(tactic| walk_at "zs") => `(tactic| simp (config := { decide := false }) only [tI20, tI21, tI30, tI31, tI32, tI40, tI41, tI42, tI43, tI50, tI51, tI52, tI53, tI54, gFd_eq, kFd_ok, gDt_eq, kDt_ok, kDt2_ok, mAugF_eq, kAf1_ok, kAf2_ok, kAf3_ok, kAf4_ok, mAugS_eq, kAs1_ok, kAs2_ok, kAs3_ok, kAs4_ok, kAs5_ok, mMe_eq, kMe2_ok, mMk_eq, mChain3_eq, kD1_ok, kD2_ok, kD3_t, kD3_f, kD4_ok, kD5_t, kD5_f, kD6_ok, bMax3_i, mGD_eq, m1_eq, k1_ok, m2_eq, k2_ok, k2'_ok, mVar0, mVarS, mC_eq, mTst_eq, mTru_eq, kTru_ok, tru_bl, tru_int, tru_non, tru_tup, mAndT_eq, kAndT_t, kAndT_f, mOrT_eq, kOrT_t, kOrT_f, mNotT_eq, kNotT_ok, mChain_eq, kC1_ok, kC2_ok, kC3_t, kC3_f, kC4_ok, mB_eq, kB_ok, mAnd_eq, kAnd_ok, kAnd2_t, kAnd2_f, mOr_eq, kOr_ok, kOr2_t, kOr2_f, mNot_eq, kNot_ok, kNot2_ok, mIfE_eq, kIfE_t, kIfE_f, mArgs_nil, mArgs_cons, kA_ok, kA2_ok, mBi_eq, kBi_ok, mTup_eq, mLst_eq, mIsi_eq, kIsi_int, kIsi_bl, kIsi_str, kIsi_non, kIsi_tup, kIsi2_ok, kb_ii, kb_ib, kb_is, kb_it, kb_il, kb_bi, kb_bb, kb_bs, kb_bt, kb_bl, kb_si, kb_sb, kb_ss, kb_st, kb_sl, kb_ni, kb_nb, kb_ns, kb_nt, kb_nl, kb_ti, kb_tb, kb_ts, kb_tt, kb_tl, kb_li, kb_lb, kb_ls, kb_lt, kb_ll, mSeq_eq, kSeq_nx, kSeq_rt, kSeq_bk, kSeq_ct, kSeq_ex, mIf_eq, kIf_t, kIf_f, kIf_ex, mAsg_eq, kAsg_ok, kAsg_ex, gN_eq, gSb_eq, kSb_ok, kSb2_ok, gsNil_eq, gsCons_eq, mSkip_eq, mBreak_eq, mCont_eq, mExpr_eq, kExpr_ok, kExpr_ex, mRet_eq, kRet_ok, kRet_ex, mRetN_eq, mPar_eq, kPar_ok, mAug_eq, kAug0_ok, kAug_ok, kAug2_ok, mRaise_eq, kRaise_ok, mFn_eq, kFn_nx, kFn_rt, kFn_ex, oAdd_i, oIAdd_i, oSub_i, oNeg_i, oLt_i, oLe_i, oGt_i, oGe_i, oEq_i, oNe_i, oEq_s, oNe_s, oEq_b, oNe_b, oIs_n, oIsN_n, oIs_b, oIsN_b, isN_int, isN_bl, isN_str, isN_tup, isN_ref, isN_non, bAbs_i, bInt_i, bInt_b, bLen_t, bMax2_i, bMin2_i, bGcd_i, atI_0, List.set_cons_zero, List.set_cons_succ, List.map_cons, List.map_nil, List.cons_append, List.nil_append, List.length_cons, List.length_nil, List.replicate, Bool.not_true, Bool.not_false, decide_true, decide_false, kLst_ok, kTup_ok, Nat.reduceAdd, Nat.reduceLeDiff, Int.reducePow, Int.reduceToNat, Int.reduceMul, Int.reduceAdd, Int.reduceSub, Int.reduceNeg, kBi_ex, kA_ex, kA2_ex, mSl_eq, kSl1_ok, kSl2_ok, kSl3_ok, oNone_eq, oSome_eq, kOS_ok, oSl_t, mTry_eq, kTry_nx, kTry_rt, kRaise_ok, kExpr_ex, kSeq_ex, kRet_ex])
local macro_rules | `(tactic| walk_at "za") => `(tactic| simp (config := { decide := false }) only [tI20, tI21, tI30, tI31, tI32, tI40, tI41, tI42, tI43, tI50, tI51, tI52, tI53, tI54, gFd_eq, kFd_ok, gDt_eq, kDt_ok, kDt2_ok, mAugF_eq, kAf1_ok, kAf2_ok, kAf3_ok, kAf4_ok, mAugS_eq, kAs1_ok, kAs2_ok, kAs3_ok, kAs4_ok, kAs5_ok, mMe_eq, kMe2_ok, mMk_eq, mChain3_eq, kD1_ok, kD2_ok, kD3_t, kD3_f, kD4_ok, kD5_t, kD5_f, kD6_ok, bMax3_i, mGD_eq, m1_eq, k1_ok, m2_eq, k2_ok, k2'_ok, mVar0, mVarS, mC_eq, mTst_eq, mTru_eq, kTru_ok, tru_bl, tru_int, tru_non, tru_tup, mAndT_eq, kAndT_t, kAndT_f, mOrT_eq, kOrT_t, kOrT_f, mNotT_eq, kNotT_ok, mChain_eq, kC1_ok, kC2_ok, kC3_t, kC3_f, kC4_ok, mB_eq, kB_ok, mAnd_eq, kAnd_ok, kAnd2_t, kAnd2_f, mOr_eq, kOr_ok, kOr2_t, kOr2_f, mNot_eq, kNot_ok, kNot2_ok, mIfE_eq, kIfE_t, kIfE_f, mArgs_nil, mArgs_cons, kA_ok, kA2_ok, mBi_eq, kBi_ok, mTup_eq, mLst_eq, mIsi_eq, kIsi_int, kIsi_bl, kIsi_str, kIsi_non, kIsi_tup, kIsi2_ok, kb_ii, kb_ib, kb_is, kb_it, kb_il, kb_bi, kb_bb, kb_bs, kb_bt, kb_bl, kb_si, kb_sb, kb_ss, kb_st, kb_sl, kb_ni, kb_nb, kb_ns, kb_nt, kb_nl, kb_ti, kb_tb, kb_ts, kb_tt, kb_tl, kb_li, kb_lb, kb_ls, kb_lt, kb_ll, mSeq_eq, kSeq_nx, kSeq_rt, kSeq_bk, kSeq_ct, kSeq_ex, mIf_eq, kIf_t, kIf_f, kIf_ex, mAsg_eq, kAsg_ok, kAsg_ex, gN_eq, gSb_eq, kSb_ok, kSb2_ok, gsNil_eq, gsCons_eq, mSkip_eq, mBreak_eq, mCont_eq, mExpr_eq, kExpr_ok, kExpr_ex, mRet_eq, kRet_ok, kRet_ex, mRetN_eq, mPar_eq, kPar_ok, mAug_eq, kAug0_ok, kAug_ok, kAug2_ok, mRaise_eq, kRaise_ok, mFn_eq, kFn_nx, kFn_rt, kFn_ex, oAdd_i, oIAdd_i, oSub_i, oNeg_i, oLt_i, oLe_i, oGt_i, oGe_i, oEq_i, oNe_i, oEq_s, oNe_s, oEq_b, oNe_b, oIs_n, oIsN_n, oIs_b, oIsN_b, isN_int, isN_bl, isN_str, isN_tup, isN_ref, isN_non, bAbs_i, bInt_i, bInt_b, bLen_t, bMax2_i, bMin2_i, bGcd_i, atI_0, List.set_cons_zero, List.set_cons_succ, List.map_cons, List.map_nil, List.cons_append, List.nil_append, List.length_cons, List.length_nil, List.replicate, Bool.not_true, Bool.not_false, decide_true, decide_false, kLst_ok, kTup_ok, Nat.reduceAdd, Nat.reduceLeDiff, Int.reducePow, Int.reduceToNat, Int.reduceMul, Int.reduceAdd, Int.reduceSub, Int.reduceNeg, kBi_ex, kA_ex, kA2_ex, mSl_eq, kSl1_ok, kSl2_ok, kSl3_ok, oNone_eq, oSome_eq, kOS_ok, oSl_t, mTry_eq, kTry_nx, kTry_rt, kRaise_ok, kExpr_ex, kSeq_ex, kRet_ex, *])
section
variable {h h' h1 : AH} {sk n k : Nat} {v u : A} {s : SA} {m m2 : ME} {a b : List Nat} {i : Int} {x : Str} {c : MT} {bd : MS}
/-- a while that may return -/
theorem wh_out (inv : Nat → SA → AH → Prop) (Q : Rt → Prop) {M : Nat} (iM : ∀ i s h, inv i s h → i ≤ M)
    (stp : ∀ i s h, inv i s h → (∃ h', c s h = .ok false h' ∧ Q (.nx s h')) ∨ (∃ h1, c s h = .ok true h1 ∧ ((∃ s' h', bd s h1 = .nx s' h' ∧ inv (i + 1) s' h') ∨ ∃ v h', bd s h1 = .rt v h' ∧ Q (.rt v h')))) :
    ∀ N i s h, inv i s h → M < N + i → Q (mWhile c bd N s h)
  | 0, i, s, h, q, l => by have := iM i s h q; omega
  | N + 1, i, s, h, q, l => by
    rcases stp i s h q with ⟨h', e1, q1⟩ | ⟨h1, e1, ⟨s', h', e2, q1⟩ | ⟨v, h', e2, q1⟩⟩
    · have : mWhile c bd (N + 1) s h = .nx s h' := by
        rw [mWhile]
        simp only [e1, Rs.st]
        rfl
      rw [this]
      exact q1
    · have : mWhile c bd (N + 1) s h = mWhile c bd N s' h' := by
        rw [mWhile]
        simp only [e1, Rs.st, e2]
        rfl
      rw [this]
      exact wh_out inv Q iM stp N (i + 1) s' h' q1 (by omega)
    · have : mWhile c bd (N + 1) s h = .rt v h' := by
        rw [mWhile]
        simp only [e1, Rs.st, e2]
        rfl
      rw [this]
      exact q1
/-- the text of a value, where it has one; a list or a text with a quote has none -/
def txO : Nat → A → Option (List Nat)
  | _, .non => some [110]
  | _, .bl true => some [116]
  | _, .bl false => some [102]
  | _, .int i => some (cpS (Str.ofString (toString i)))
  | _, .str x => if (34 ∈ cpS x) then none else some (34 :: cpS x ++ [34])
  | n + 1, .tup xs => (xs.mapM (txO n)).map fun ls => 40 :: itc [44] ls ++ [41]
  | _, _ => none
/-- what stands in the law's data, odd pieces included -/
def okB (h : AH) : Nat → A → Prop
  | _, .non => True
  | _, .bl _ => True
  | _, .int i => i.natAbs < 10 ^ 15
  | _, .str x => x ∈ strG ++ (["a\"b", "\""] : List Str)
  | _, .ref k => ∃ xs, h[k]? = some (.lst xs)
  | n + 1, .tup xs => xs.length ≤ 3 ∧ ∀ x ∈ xs, okB h n x
  | _, _ => False
def oT : Option (List Nat) → A
  | none => .non
  | some l => st l
theorem digits_ok (h0 : 0 ≤ i) (hi : i < 10 ^ 15) : ∃ h', F__digits [.int i] h = .ok (st (cpS (Str.ofString (toString i)))) h' ∧ ZP.Fr [] h h' := by
  have hl := cp_len (i := i) (by omega)
  unfold F__digits m__digits
  walk_at "zs"
  have n1 : (h ++ [AO.lst []])[h.length]? = some (.lst []) := new_at _ _
  have f1 : ZP.Fr [] h (h ++ [AO.lst []]) := ZP.Fr.push _
  generalize h ++ [AO.lst []] = h1 at *
  have w := wh_out (c := mTst oGe (mVar 0) (m2 oPow (mC (.int 10)) (mC (.int 64)))) (bd := mDead) (fun j s' h' => j = 0 ∧ s' = [some (.int i), some (.ref h.length), none] ∧ h' = h1) (fun r => r = .nx [some (.int i), some (.ref h.length), none] h1) (M := 0) (fun j s h q => by omega) (fun j s h2 q => by
    obtain ⟨rfl, rfl, rfl⟩ := q
    refine .inl ⟨h2, ?_, rfl⟩
    walk_at "zs"
    rw [show ∀ h, oPow (.int 10) (.int 64) h = .ok (.int (10 ^ 64)) h from fun h => by kernel_rfl]
    walk_at "zs"
    rw [decide_eq_false (by omega)]) 1000000000000000000 0 _ _ ⟨rfl, rfl, rfl⟩ (by decide)
  rw [w]
  walk_at "zs"
  unfold m__digits_r2
  walk_at "zs"
  rw [big_str (by omega)]
  walk_at "zs"
  have n2 : (h1 ++ [AO.lst []])[h1.length]? = some (.lst []) := new_at _ _
  have ej : mJoin (mC (.str "")) (mRevL (mVar 1)) [some (.int i), some (.ref h.length), none] h1 = .ok (st (itc [] [])) (h1 ++ [AO.lst []]) := join_ok (sep := []) (ls := []) (by kernel_rfl) (by
    unfold mRevL
    walk_at "zs"
    simp only [Rs.bind, n1]
    rfl) n2 (by simp)
  rw [ej]
  walk_at "zs"
  rw [show itc [] [] = [] from rfl, st_add (by simp only [List.length_nil]; omega), List.append_nil]
  walk_at "zs"
  exact ⟨_, rfl, f1.trans (ZP.Fr.push _)⟩
def nt : A → Prop
  | .tup _ => False
  | _ => True
theorem single_ok (hu : okB h n u) (hn : nt u) : ∃ h', F__single_text [u] h = .ok (oT (txO n u)) h' ∧ ZP.Fr [] h h' := by
  unfold F__single_text m__single_text
  cases u with
  | non =>
    walk_at "zs"
    exact ⟨h, by cases n <;> rfl, ZP.Fr.refl _ _⟩
  | bl b =>
    walk_at "zs"
    unfold m__single_text_r1
    walk_at "zs"
    rw [show oIsB (.bl b) (.bl true) h = .ok (.bl (decide (b = true))) h from rfl]
    walk_at "zs"
    cases b
    · simp only [show decide (false = true) = false from rfl]
      walk_at "zs"
      rw [show oIsB (.bl false) (.bl false) h = .ok (.bl true) h from rfl]
      walk_at "zs"
      exact ⟨h, by cases n <;> rfl, ZP.Fr.refl _ _⟩
    · walk_at "zs"
      exact ⟨h, by cases n <;> rfl, ZP.Fr.refl _ _⟩
  | int i =>
    have hu : i.natAbs < 10 ^ 15 := by cases n <;> exact hu
    walk_at "zs"
    unfold m__single_text_r1
    walk_at "zs"
    rw [show oIsB (.int i) (.bl true) h = .ok (.bl false) h from rfl]
    walk_at "zs"
    rw [show oIsB (.int i) (.bl false) h = .ok (.bl false) h from rfl]
    walk_at "zs"
    unfold m__single_text_r2
    walk_at "zs"
    rw [whole_int]
    walk_at "zs"
    by_cases c : i < 0
    · simp only [decide_eq_true c]
      walk_at "zs"
      obtain ⟨h1, e1, f1⟩ := digits_ok (i := -i) (h := h) (by omega) (by omega)
      rw [e1]
      walk_at "zs"
      have hl := cp_len (i := -i) (by omega)
      rw [show A.str "-" = st [45] from rfl, st_add (by simp only [List.length_cons, List.length_nil]; omega)]
      walk_at "zs"
      refine ⟨h1, ?_, f1⟩
      have : txO n (.int i) = some (cpS (Str.ofString (toString i))) := by cases n <;> rfl
      rw [this, cp_neg c]
      rfl
    · simp only [decide_eq_false c]
      walk_at "zs"
      obtain ⟨h1, e1, f1⟩ := digits_ok (i := i) (h := h) (by omega) (by omega)
      rw [e1]
      walk_at "zs"
      refine ⟨h1, ?_, f1⟩
      have : txO n (.int i) = some (cpS (Str.ofString (toString i))) := by cases n <;> rfl
      rw [this]
      rfl
  | str x =>
    have hu : x ∈ strG ++ (["a\"b", "\""] : List Str) := by cases n <;> exact hu
    have ht : txO n (.str x) = if (34 ∈ cpS x) then none else some (34 :: cpS x ++ [34]) := by cases n <;> rfl
    rw [ht]
    unfold strG at hu
    simp only [List.cons_append, List.nil_append, List.mem_cons, List.not_mem_nil, or_false] at hu
    refine ⟨h, ?_, ZP.Fr.refl _ _⟩
    walk_at "zs"
    unfold m__single_text_r1
    walk_at "zs"
    rw [show oIsB (.str x) (.bl true) h = .ok (.bl false) h from rfl]
    walk_at "zs"
    rw [show oIsB (.str x) (.bl false) h = .ok (.bl false) h from rfl]
    walk_at "zs"
    unfold m__single_text_r2
    walk_at "zs"
    rw [show F_is_whole [.str x] h = .ok (.bl false) h from rfl]
    walk_at "zs"
    unfold m__single_text_r3
    walk_at "zs"
    have ok : ∀ y : Str, (cpS y).length ≤ 10 → oNin (.str "\"") (.str y) h = .ok (.bl (!decide (34 ∈ cpS y))) h → kFn (kSeq m__single_text_r4 (kIf (mRet (m2 oAdd (m2 oAdd (mC (.str "\"")) (mVar 0)) (mC (.str "\"")))) mSkip [some (A.str y)] (Rs.ok (!decide (34 ∈ cpS y)) h))) = .ok (oT (if (34 ∈ cpS y) then none else some (34 :: cpS y ++ [34]))) h := fun y hy _ => by
      by_cases c : 34 ∈ cpS y
      · rw [decide_eq_true c, if_pos c]
        walk_at "zs"
        unfold m__single_text_r4
        walk_at "zs"
        rfl
      · rw [decide_eq_false c, if_neg c]
        walk_at "zs"
        rw [show A.str "\"" = st [34] from rfl, st_cp, st_add (by simp only [List.length_cons, List.length_nil]; omega)]
        walk_at "zs"
        rw [st_add (by simp only [List.length_append, List.length_cons, List.length_nil]; omega)]
        walk_at "zs"
        rfl
    have hl : (cpS x).length ≤ 10 ∧ oNin (.str "\"") (.str x) h = .ok (.bl (!decide (34 ∈ cpS x))) h := by
      rcases hu with rfl | rfl | rfl | rfl | rfl | rfl | rfl | rfl <;> exact ⟨by decide +kernel, by kernel_rfl⟩
    rw [hl.2]
    walk_at "zs"
    exact ok x hl.1 hl.2
  | ref k =>
    have hu : ∃ xs, h[k]? = some (.lst xs) := by cases n <;> exact hu
    obtain ⟨xs, e⟩ := hu
    refine ⟨h, ?_, ZP.Fr.refl _ _⟩
    walk_at "zs"
    unfold m__single_text_r1
    walk_at "zs"
    rw [show oIsB (.ref k) (.bl true) h = .ok (.bl false) h from rfl]
    walk_at "zs"
    rw [show oIsB (.ref k) (.bl false) h = .ok (.bl false) h from rfl]
    walk_at "zs"
    unfold m__single_text_r2
    walk_at "zs"
    rw [show F_is_whole [.ref k] h = .ok (.bl false) h by
      unfold F_is_whole ZL.m_is_whole
      walk_at "zs"
      rw [kIsi_lst e]
      walk_at "zs"]
    walk_at "zs"
    unfold m__single_text_r3
    walk_at "zs"
    rw [kIsi_lst e]
    walk_at "zs"
    unfold m__single_text_r4
    walk_at "zs"
    cases n <;> rfl
  | tup xs => exact hn.elim
  | fro k => cases n <;> exact hu.elim
  | fn k => cases n <;> exact hu.elim
end
end law_k60

namespace law_k60
open PySem PySem.Spec PyProof.Rows L2 Z ZP ZN ZC ZK ZO LP
open ZL (F_is_whole F_require F_is_between F_is_coordinate F__law_next F__law_stream F__law_is_integer F__law_equal)
local macro_rules | `(tactic| walk_at "zs") => `(tactic| simp (config := { decide := false }) only [tI20, tI21, tI30, tI31, tI32, tI40, tI41, tI42, tI43, tI50, tI51, tI52, tI53, tI54, gFd_eq, kFd_ok, gDt_eq, kDt_ok, kDt2_ok, mAugF_eq, kAf1_ok, kAf2_ok, kAf3_ok, kAf4_ok, mAugS_eq, kAs1_ok, kAs2_ok, kAs3_ok, kAs4_ok, kAs5_ok, mMe_eq, kMe2_ok, mMk_eq, mChain3_eq, kD1_ok, kD2_ok, kD3_t, kD3_f, kD4_ok, kD5_t, kD5_f, kD6_ok, bMax3_i, mGD_eq, m1_eq, k1_ok, m2_eq, k2_ok, k2'_ok, mVar0, mVarS, mC_eq, mTst_eq, mTru_eq, kTru_ok, tru_bl, tru_int, tru_non, tru_tup, mAndT_eq, kAndT_t, kAndT_f, mOrT_eq, kOrT_t, kOrT_f, mNotT_eq, kNotT_ok, mChain_eq, kC1_ok, kC2_ok, kC3_t, kC3_f, kC4_ok, mB_eq, kB_ok, mAnd_eq, kAnd_ok, kAnd2_t, kAnd2_f, mOr_eq, kOr_ok, kOr2_t, kOr2_f, mNot_eq, kNot_ok, kNot2_ok, mIfE_eq, kIfE_t, kIfE_f, mArgs_nil, mArgs_cons, kA_ok, kA2_ok, mBi_eq, kBi_ok, mTup_eq, mLst_eq, mIsi_eq, kIsi_int, kIsi_bl, kIsi_str, kIsi_non, kIsi_tup, kIsi2_ok, kb_ii, kb_ib, kb_is, kb_it, kb_il, kb_bi, kb_bb, kb_bs, kb_bt, kb_bl, kb_si, kb_sb, kb_ss, kb_st, kb_sl, kb_ni, kb_nb, kb_ns, kb_nt, kb_nl, kb_ti, kb_tb, kb_ts, kb_tt, kb_tl, kb_li, kb_lb, kb_ls, kb_lt, kb_ll, mSeq_eq, kSeq_nx, kSeq_rt, kSeq_bk, kSeq_ct, kSeq_ex, mIf_eq, kIf_t, kIf_f, kIf_ex, mAsg_eq, kAsg_ok, kAsg_ex, gN_eq, gSb_eq, kSb_ok, kSb2_ok, gsNil_eq, gsCons_eq, mSkip_eq, mBreak_eq, mCont_eq, mExpr_eq, kExpr_ok, kExpr_ex, mRet_eq, kRet_ok, kRet_ex, mRetN_eq, mPar_eq, kPar_ok, mAug_eq, kAug0_ok, kAug_ok, kAug2_ok, mRaise_eq, kRaise_ok, mFn_eq, kFn_nx, kFn_rt, kFn_ex, oAdd_i, oIAdd_i, oSub_i, oNeg_i, oLt_i, oLe_i, oGt_i, oGe_i, oEq_i, oNe_i, oEq_s, oNe_s, oEq_b, oNe_b, oIs_n, oIsN_n, oIs_b, oIsN_b, isN_int, isN_bl, isN_str, isN_tup, isN_ref, isN_non, bAbs_i, bInt_i, bInt_b, bLen_t, bMax2_i, bMin2_i, bGcd_i, atI_0, List.set_cons_zero, List.set_cons_succ, List.map_cons, List.map_nil, List.cons_append, List.nil_append, List.length_cons, List.length_nil, List.replicate, Bool.not_true, Bool.not_false, decide_true, decide_false, kLst_ok, kTup_ok, Nat.reduceAdd, Nat.reduceLeDiff, Int.reducePow, Int.reduceToNat, Int.reduceMul, Int.reduceAdd, Int.reduceSub, Int.reduceNeg, kBi_ex, kA_ex, kA2_ex, mSl_eq, kSl1_ok, kSl2_ok, kSl3_ok, oNone_eq, oSome_eq, kOS_ok, oSl_t, mTry_eq, kTry_nx, kTry_rt, kRaise_ok, kExpr_ex, kSeq_ex, kRet_ex])
local macro_rules | `(tactic| walk_at "za") => `(tactic| simp (config := { decide := false }) only [tI20, tI21, tI30, tI31, tI32, tI40, tI41, tI42, tI43, tI50, tI51, tI52, tI53, tI54, gFd_eq, kFd_ok, gDt_eq, kDt_ok, kDt2_ok, mAugF_eq, kAf1_ok, kAf2_ok, kAf3_ok, kAf4_ok, mAugS_eq, kAs1_ok, kAs2_ok, kAs3_ok, kAs4_ok, kAs5_ok, mMe_eq, kMe2_ok, mMk_eq, mChain3_eq, kD1_ok, kD2_ok, kD3_t, kD3_f, kD4_ok, kD5_t, kD5_f, kD6_ok, bMax3_i, mGD_eq, m1_eq, k1_ok, m2_eq, k2_ok, k2'_ok, mVar0, mVarS, mC_eq, mTst_eq, mTru_eq, kTru_ok, tru_bl, tru_int, tru_non, tru_tup, mAndT_eq, kAndT_t, kAndT_f, mOrT_eq, kOrT_t, kOrT_f, mNotT_eq, kNotT_ok, mChain_eq, kC1_ok, kC2_ok, kC3_t, kC3_f, kC4_ok, mB_eq, kB_ok, mAnd_eq, kAnd_ok, kAnd2_t, kAnd2_f, mOr_eq, kOr_ok, kOr2_t, kOr2_f, mNot_eq, kNot_ok, kNot2_ok, mIfE_eq, kIfE_t, kIfE_f, mArgs_nil, mArgs_cons, kA_ok, kA2_ok, mBi_eq, kBi_ok, mTup_eq, mLst_eq, mIsi_eq, kIsi_int, kIsi_bl, kIsi_str, kIsi_non, kIsi_tup, kIsi2_ok, kb_ii, kb_ib, kb_is, kb_it, kb_il, kb_bi, kb_bb, kb_bs, kb_bt, kb_bl, kb_si, kb_sb, kb_ss, kb_st, kb_sl, kb_ni, kb_nb, kb_ns, kb_nt, kb_nl, kb_ti, kb_tb, kb_ts, kb_tt, kb_tl, kb_li, kb_lb, kb_ls, kb_lt, kb_ll, mSeq_eq, kSeq_nx, kSeq_rt, kSeq_bk, kSeq_ct, kSeq_ex, mIf_eq, kIf_t, kIf_f, kIf_ex, mAsg_eq, kAsg_ok, kAsg_ex, gN_eq, gSb_eq, kSb_ok, kSb2_ok, gsNil_eq, gsCons_eq, mSkip_eq, mBreak_eq, mCont_eq, mExpr_eq, kExpr_ok, kExpr_ex, mRet_eq, kRet_ok, kRet_ex, mRetN_eq, mPar_eq, kPar_ok, mAug_eq, kAug0_ok, kAug_ok, kAug2_ok, mRaise_eq, kRaise_ok, mFn_eq, kFn_nx, kFn_rt, kFn_ex, oAdd_i, oIAdd_i, oSub_i, oNeg_i, oLt_i, oLe_i, oGt_i, oGe_i, oEq_i, oNe_i, oEq_s, oNe_s, oEq_b, oNe_b, oIs_n, oIsN_n, oIs_b, oIsN_b, isN_int, isN_bl, isN_str, isN_tup, isN_ref, isN_non, bAbs_i, bInt_i, bInt_b, bLen_t, bMax2_i, bMin2_i, bGcd_i, atI_0, List.set_cons_zero, List.set_cons_succ, List.map_cons, List.map_nil, List.cons_append, List.nil_append, List.length_cons, List.length_nil, List.replicate, Bool.not_true, Bool.not_false, decide_true, decide_false, kLst_ok, kTup_ok, Nat.reduceAdd, Nat.reduceLeDiff, Int.reducePow, Int.reduceToNat, Int.reduceMul, Int.reduceAdd, Int.reduceSub, Int.reduceNeg, kBi_ex, kA_ex, kA2_ex, mSl_eq, kSl1_ok, kSl2_ok, kSl3_ok, oNone_eq, oSome_eq, kOS_ok, oSl_t, mTry_eq, kTry_nx, kTry_rt, kRaise_ok, kExpr_ex, kSeq_ex, kRet_ex, *])
/-! ### the stack -/
inductive Fm where
  | v (n : Nat) (u : A)
  | t (l : List Nat)
def Fm.a : Fm → A
  | .v _ u => .tup [.non, u]
  | .t l => .tup [st l, .non]
def Fm.x : Fm → Option (List Nat)
  | .v n u => txO n u
  | .t l => some l
def Fm.ok (h : AH) : Fm → Prop
  | .v n u => okB h n u ∧ n ≤ 6
  | .t l => l.length ≤ 1
def wt : Nat → A → Nat
  | n + 1, .tup xs => 2 + (xs.map fun x => wt n x + 1).sum
  | _, _ => 1
def Fm.w : Fm → Nat
  | .v n u => wt n u
  | .t _ => 1
/-- all texts of the stack, its end first -/
def txs : List Fm → Option (List Nat)
  | [] => some []
  | f :: r => f.x.bind fun l => (txs r).map fun m => l ++ m
/-- what a tuple's items become on the stack, the top first -/
def kidS (n : Nat) (xs : List A) : List Fm := xs.flatMap fun x => [.t [44], .v n x]
def kids (n : Nat) : List A → List Fm
  | [] => []
  | x :: xs => .t [] :: .v n x :: kidS n xs
section
variable {h h' h1 : AH} {sk n k : Nat} {v u : A} {s : SA} {S T : List Fm} {xs : List A} {l : List Nat}
theorem txs_app : txs (S ++ T) = (txs S).bind fun a => (txs T).map fun b => a ++ b := by
  induction S with
  | nil =>
    show txs T = (txs T).map fun b => [] ++ b
    simp
  | cons f S ih =>
    rw [List.cons_append, txs, ih, txs]
    cases f.x with
    | none => rfl
    | some l =>
      cases txs S with
      | none => rfl
      | some a =>
        cases txs T with
        | none => rfl
        | some b => simp
theorem txs_kidS : ∀ xs : List A, txs (kidS n xs) = (xs.mapM (txO n)).map fun ls => (ls.map fun y => [44] ++ y).flatten
  | [] => rfl
  | x :: xs => by
    show ((Fm.t [44]).x.bind fun l => (((Fm.v n x).x.bind fun l => (txs (kidS n xs)).map fun m => l ++ m)).map fun m => l ++ m) = _
    rw [txs_kidS xs, List.mapM_cons]
    show ((((txO n x).bind fun l => ((xs.mapM (txO n)).map fun ls => (ls.map fun y => [44] ++ y).flatten).map fun m => l ++ m)).map fun m => [44] ++ m) = _
    cases txO n x with
    | none => rfl
    | some l =>
      cases xs.mapM (txO n) with
      | none => rfl
      | some ls => simp
theorem txs_kids (xs : List A) : txs (kids n xs) = (xs.mapM (txO n)).map fun ls => itc [44] ls := by
  cases xs with
  | nil => rfl
  | cons x xs =>
    show ((Fm.t []).x.bind fun l => (((Fm.v n x).x.bind fun l => (txs (kidS n xs)).map fun m => l ++ m)).map fun m => l ++ m) = _
    rw [txs_kidS xs, List.mapM_cons]
    show ((((txO n x).bind fun l => ((xs.mapM (txO n)).map fun ls => (ls.map fun y => [44] ++ y).flatten).map fun m => l ++ m)).map fun m => [] ++ m) = _
    cases txO n x with
    | none => rfl
    | some l =>
      cases xs.mapM (txO n) with
      | none => rfl
      | some ls => simp [itc_cons]
theorem txs_tup : txs (Fm.v (n + 1) (.tup xs) :: T) = (txs (kids n xs ++ Fm.t [41] :: T)).map fun m => 40 :: m := by
  rw [txs_app, txs_kids]
  show ((xs.mapM (txO n)).map fun ls => 40 :: itc [44] ls ++ [41]).bind (fun l => (txs T).map fun m => l ++ m) = _
  cases xs.mapM (txO n) with
  | none => rfl
  | some ls =>
    show (txs T).map (fun m => (40 :: itc [44] ls ++ [41]) ++ m) = (((txs (Fm.t [41] :: T))).map fun b => itc [44] ls ++ b).map fun m => 40 :: m
    show _ = ((((txs T).map fun m => [41] ++ m)).map fun b => itc [44] ls ++ b).map fun m => 40 :: m
    cases txs T with
    | none => rfl
    | some m => simp
end
end law_k60

namespace law_k60
open PySem PySem.Spec PyProof.Rows L2 Z ZP ZN ZC ZK ZO LP
open ZL (F_is_whole F_require F_is_between F_is_coordinate F__law_next F__law_stream F__law_is_integer F__law_equal)
local macro_rules | `(tactic| walk_at "zs") => `(tactic| simp (config := { decide := false }) only [tI20, tI21, tI30, tI31, tI32, tI40, tI41, tI42, tI43, tI50, tI51, tI52, tI53, tI54, gFd_eq, kFd_ok, gDt_eq, kDt_ok, kDt2_ok, mAugF_eq, kAf1_ok, kAf2_ok, kAf3_ok, kAf4_ok, mAugS_eq, kAs1_ok, kAs2_ok, kAs3_ok, kAs4_ok, kAs5_ok, mMe_eq, kMe2_ok, mMk_eq, mChain3_eq, kD1_ok, kD2_ok, kD3_t, kD3_f, kD4_ok, kD5_t, kD5_f, kD6_ok, bMax3_i, mGD_eq, m1_eq, k1_ok, m2_eq, k2_ok, k2'_ok, mVar0, mVarS, mC_eq, mTst_eq, mTru_eq, kTru_ok, tru_bl, tru_int, tru_non, tru_tup, mAndT_eq, kAndT_t, kAndT_f, mOrT_eq, kOrT_t, kOrT_f, mNotT_eq, kNotT_ok, mChain_eq, kC1_ok, kC2_ok, kC3_t, kC3_f, kC4_ok, mB_eq, kB_ok, mAnd_eq, kAnd_ok, kAnd2_t, kAnd2_f, mOr_eq, kOr_ok, kOr2_t, kOr2_f, mNot_eq, kNot_ok, kNot2_ok, mIfE_eq, kIfE_t, kIfE_f, mArgs_nil, mArgs_cons, kA_ok, kA2_ok, mBi_eq, kBi_ok, mTup_eq, mLst_eq, mIsi_eq, kIsi_int, kIsi_bl, kIsi_str, kIsi_non, kIsi_tup, kIsi2_ok, kb_ii, kb_ib, kb_is, kb_it, kb_il, kb_bi, kb_bb, kb_bs, kb_bt, kb_bl, kb_si, kb_sb, kb_ss, kb_st, kb_sl, kb_ni, kb_nb, kb_ns, kb_nt, kb_nl, kb_ti, kb_tb, kb_ts, kb_tt, kb_tl, kb_li, kb_lb, kb_ls, kb_lt, kb_ll, mSeq_eq, kSeq_nx, kSeq_rt, kSeq_bk, kSeq_ct, kSeq_ex, mIf_eq, kIf_t, kIf_f, kIf_ex, mAsg_eq, kAsg_ok, kAsg_ex, gN_eq, gSb_eq, kSb_ok, kSb2_ok, gsNil_eq, gsCons_eq, mSkip_eq, mBreak_eq, mCont_eq, mExpr_eq, kExpr_ok, kExpr_ex, mRet_eq, kRet_ok, kRet_ex, mRetN_eq, mPar_eq, kPar_ok, mAug_eq, kAug0_ok, kAug_ok, kAug2_ok, mRaise_eq, kRaise_ok, mFn_eq, kFn_nx, kFn_rt, kFn_ex, oAdd_i, oIAdd_i, oSub_i, oNeg_i, oLt_i, oLe_i, oGt_i, oGe_i, oEq_i, oNe_i, oEq_s, oNe_s, oEq_b, oNe_b, oIs_n, oIsN_n, oIs_b, oIsN_b, isN_int, isN_bl, isN_str, isN_tup, isN_ref, isN_non, bAbs_i, bInt_i, bInt_b, bLen_t, bMax2_i, bMin2_i, bGcd_i, atI_0, List.set_cons_zero, List.set_cons_succ, List.map_cons, List.map_nil, List.cons_append, List.nil_append, List.length_cons, List.length_nil, List.replicate, Bool.not_true, Bool.not_false, decide_true, decide_false, kLst_ok, kTup_ok, Nat.reduceAdd, Nat.reduceLeDiff, Int.reducePow, Int.reduceToNat, Int.reduceMul, Int.reduceAdd, Int.reduceSub, Int.reduceNeg, kBi_ex, kA_ex, kA2_ex, mSl_eq, kSl1_ok, kSl2_ok, kSl3_ok, oNone_eq, oSome_eq, kOS_ok, oSl_t, mTry_eq, kTry_nx, kTry_rt, kRaise_ok, kExpr_ex, kSeq_ex, kRet_ex])
local macro_rules | `(tactic| walk_at "za") => `(tactic| simp (config := { decide := false }) only [tI20, tI21, tI30, tI31, tI32, tI40, tI41, tI42, tI43, tI50, tI51, tI52, tI53, tI54, gFd_eq, kFd_ok, gDt_eq, kDt_ok, kDt2_ok, mAugF_eq, kAf1_ok, kAf2_ok, kAf3_ok, kAf4_ok, mAugS_eq, kAs1_ok, kAs2_ok, kAs3_ok, kAs4_ok, kAs5_ok, mMe_eq, kMe2_ok, mMk_eq, mChain3_eq, kD1_ok, kD2_ok, kD3_t, kD3_f, kD4_ok, kD5_t, kD5_f, kD6_ok, bMax3_i, mGD_eq, m1_eq, k1_ok, m2_eq, k2_ok, k2'_ok, mVar0, mVarS, mC_eq, mTst_eq, mTru_eq, kTru_ok, tru_bl, tru_int, tru_non, tru_tup, mAndT_eq, kAndT_t, kAndT_f, mOrT_eq, kOrT_t, kOrT_f, mNotT_eq, kNotT_ok, mChain_eq, kC1_ok, kC2_ok, kC3_t, kC3_f, kC4_ok, mB_eq, kB_ok, mAnd_eq, kAnd_ok, kAnd2_t, kAnd2_f, mOr_eq, kOr_ok, kOr2_t, kOr2_f, mNot_eq, kNot_ok, kNot2_ok, mIfE_eq, kIfE_t, kIfE_f, mArgs_nil, mArgs_cons, kA_ok, kA2_ok, mBi_eq, kBi_ok, mTup_eq, mLst_eq, mIsi_eq, kIsi_int, kIsi_bl, kIsi_str, kIsi_non, kIsi_tup, kIsi2_ok, kb_ii, kb_ib, kb_is, kb_it, kb_il, kb_bi, kb_bb, kb_bs, kb_bt, kb_bl, kb_si, kb_sb, kb_ss, kb_st, kb_sl, kb_ni, kb_nb, kb_ns, kb_nt, kb_nl, kb_ti, kb_tb, kb_ts, kb_tt, kb_tl, kb_li, kb_lb, kb_ls, kb_lt, kb_ll, mSeq_eq, kSeq_nx, kSeq_rt, kSeq_bk, kSeq_ct, kSeq_ex, mIf_eq, kIf_t, kIf_f, kIf_ex, mAsg_eq, kAsg_ok, kAsg_ex, gN_eq, gSb_eq, kSb_ok, kSb2_ok, gsNil_eq, gsCons_eq, mSkip_eq, mBreak_eq, mCont_eq, mExpr_eq, kExpr_ok, kExpr_ex, mRet_eq, kRet_ok, kRet_ex, mRetN_eq, mPar_eq, kPar_ok, mAug_eq, kAug0_ok, kAug_ok, kAug2_ok, mRaise_eq, kRaise_ok, mFn_eq, kFn_nx, kFn_rt, kFn_ex, oAdd_i, oIAdd_i, oSub_i, oNeg_i, oLt_i, oLe_i, oGt_i, oGe_i, oEq_i, oNe_i, oEq_s, oNe_s, oEq_b, oNe_b, oIs_n, oIsN_n, oIs_b, oIsN_b, isN_int, isN_bl, isN_str, isN_tup, isN_ref, isN_non, bAbs_i, bInt_i, bInt_b, bLen_t, bMax2_i, bMin2_i, bGcd_i, atI_0, List.set_cons_zero, List.set_cons_succ, List.map_cons, List.map_nil, List.cons_append, List.nil_append, List.length_cons, List.length_nil, List.replicate, Bool.not_true, Bool.not_false, decide_true, decide_false, kLst_ok, kTup_ok, Nat.reduceAdd, Nat.reduceLeDiff, Int.reducePow, Int.reduceToNat, Int.reduceMul, Int.reduceAdd, Int.reduceSub, Int.reduceNeg, kBi_ex, kA_ex, kA2_ex, mSl_eq, kSl1_ok, kSl2_ok, kSl3_ok, oNone_eq, oSome_eq, kOS_ok, oSl_t, mTry_eq, kTry_nx, kTry_rt, kRaise_ok, kExpr_ex, kSeq_ex, kRet_ex, *])
def kidLoop : MS := (mFor (mRngD (m2 oSub (mBi bLen [(mVar 4)]) (mC (.int 1))) (m1 oNeg (mC (.int 1)))) (gN 5) (mSeq (mExpr (mApp (mVar 2) (mTup [(mC .non), (m2 oIx (mVar 4) (mVar 5))])))
  (mExpr (mApp (mVar 2) (mTup [(mIfE (mTst oGt (mVar 5) (mC (.int 0))) (mC (.str ",")) (mC (.str ""))), (mC .non)])))))
section
variable {h h' h1 : AH} {sk n k ks kp : Nat} {v u : A} {s : SA} {S T : List Fm} {xs : List A} {l : List Nat} {x0 x3 x5 : Option A}
theorem wk_rngC {lo c : Int} {N : Nat} : Wk (IT.rngC lo c N) N (fun i => .int (lo + (i : Int) * c)) (fun _ => True) := ⟨rfl, fun _ _ _ _ => rfl, fun _ _ => rfl⟩
def sepAt (i : Nat) : List Nat := if i = 0 then [] else [44]
def push1 (n : Nat) (xs : List A) (j : Nat) : List Fm := (List.range j).flatMap fun t => [.v n ((xs[xs.length - 1 - t]?).getD .non), .t (sepAt (xs.length - 1 - t))]
theorem push_rev : ∀ xs : List A, xs.length ≤ 3 → (push1 n xs xs.length).reverse = kids n xs
  | [], _ => rfl
  | [a], _ => rfl
  | [a, b], _ => rfl
  | [a, b, c], _ => rfl
  | a :: b :: c :: d :: r, h => by simp at h
theorem loop_ok (hx : xs.length ≤ 3) {Z : List A} (hz : Z.length ≤ 90000) (e : h[ks]? = some (.lst Z)) :
    ∃ x5' h', kidLoop [x0, some (.ref kp), some (.ref ks), x3, some (.tup xs), x5] h = .nx [x0, some (.ref kp), some (.ref ks), x3, some (.tup xs), x5'] h' ∧ h'[ks]? = some (.lst (Z ++ ((kids n xs).reverse).map Fm.a)) ∧ ZP.Fr [ks] h h' := by
  unfold kidLoop
  obtain ⟨s', h', e2, x5', rfl, a, f⟩ := for_run (mi := (mRngD (m2 oSub (mBi bLen [(mVar 4)]) (mC (.int 1))) (m1 oNeg (mC (.int 1))))) (g := gN 5) (b := (mSeq (mExpr (mApp (mVar 2) (mTup [(mC .non), (m2 oIx (mVar 4) (mVar 5))])))
  (mExpr (mApp (mVar 2) (mTup [(mIfE (mTst oGt (mVar 5) (mC (.int 0))) (mC (.str ",")) (mC (.str ""))), (mC .non)])))))
    (s := [x0, some (.ref kp), some (.ref ks), x3, some (.tup xs), x5]) (h := h) (h1 := h) (N := xs.length) (it := IT.rngC ((xs.length : Int) - 1) (-1) xs.length)
    (fun j s h' => ∃ x5', s = [x0, some (.ref kp), some (.ref ks), x3, some (.tup xs), x5'] ∧ h'[ks]? = some (.lst (Z ++ (push1 n xs j).map Fm.a)) ∧ ZP.Fr [ks] h h')
    (by
      unfold mRngD
      walk_at "zs"
      simp only [Rs.bind]
      rw [if_pos (by omega), show ((xs.length : Int) - 1 - -1).toNat = xs.length by omega]) wk_rngC (fun _ _ _ _ => trivial)
    ⟨x5, rfl, by simpa [push1] using e, ZP.Fr.refl _ _⟩ (fun j s h2 hj q => by
      obtain ⟨x5', rfl, a, f⟩ := q
      have lp : (push1 n xs j).length ≤ 6 := by
        unfold push1
        rw [List.length_flatMap]
        show ((List.range j).map fun _ => 2).sum ≤ 6
        rw [List.map_const', List.sum_replicate_nat, List.length_range]
        omega
      rw [show (xs.length : Int) - 1 + (j : Int) * -1 = ((xs.length - 1 - j : Nat) : Int) by omega]
      have hi : xs.length - 1 - j < xs.length := by omega
      have ps : push1 n xs (j + 1) = push1 n xs j ++ [.v n ((xs[xs.length - 1 - j]?).getD .non), .t (sepAt (xs.length - 1 - j))] := by
        unfold push1
        rw [List.range_succ, List.flatMap_append]
        simp
      rw [ps]
      generalize xs.length - 1 - j = i at *
      simp only [gN_eq, kSeq_nx, List.set_cons_zero, List.set_cons_succ]
      rw [mSeq_eq, mExpr_eq, app_ok (k := ks) (h1 := h2) (h2 := h2) (y := Fm.a (.v n ((xs[i]?).getD .non))) (by walk_at "zs") a (by
        walk_at "zs"
        rw [oIx_t (v := (xs[i]?).getD .non) (by rw [atI_nat (List.getElem?_eq_getElem hi), List.getElem?_eq_getElem hi]; rfl)]
        rfl) a (by rw [List.length_append, List.length_map]; omega)]
      have a2 : (h2.set ks (.lst (Z ++ (push1 n xs j).map Fm.a ++ [Fm.a (.v n ((xs[i]?).getD .non))])))[ks]? = some (.lst (Z ++ (push1 n xs j).map Fm.a ++ [Fm.a (.v n ((xs[i]?).getD .non))])) := List.getElem?_set_self (lt_of_some a)
      have f2 : ZP.Fr [ks] h (h2.set ks (.lst (Z ++ (push1 n xs j).map Fm.a ++ [Fm.a (.v n ((xs[i]?).getD .non))]))) := f.trans (ZP.Fr.set (by simp))
      generalize h2.set ks (.lst (Z ++ (push1 n xs j).map Fm.a ++ [Fm.a (.v n ((xs[i]?).getD .non))])) = h3 at *
      walk_at "zs"
      rw [app_ok (k := ks) (h1 := h3) (h2 := h3) (y := Fm.a (.t (sepAt i))) (by walk_at "zs") a2 (by
        walk_at "zs"
        by_cases c : (i : Int) > 0
        · simp only [decide_eq_true c]
          walk_at "zs"
          rw [show sepAt i = [44] by unfold sepAt; rw [if_neg (by omega)]]
          rfl
        · simp only [decide_eq_false c]
          walk_at "zs"
          rw [show sepAt i = [] by unfold sepAt; rw [if_pos (by omega)]]
          rfl) a2 (by simp only [List.length_append, List.length_map, List.length_cons, List.length_nil]; omega)]
      walk_at "zs"
      refine ⟨_, _, rfl, _, rfl, ?_, f2.trans (ZP.Fr.set (by simp))⟩
      rw [List.getElem?_set_self (lt_of_some a2), List.map_append]
      simp)
  refine ⟨x5', h', e2, ?_, f⟩
  rw [a, ← push_rev xs hx, List.reverse_reverse]
end
end law_k60

namespace law_k60
open PySem PySem.Spec PyProof.Rows L2 Z ZP ZN ZC ZK ZO LP
open ZL (F_is_whole F_require F_is_between F_is_coordinate F__law_next F__law_stream F__law_is_integer F__law_equal)
local macro_rules | `(tactic| walk_at "zs") => `(tactic| simp (config := { decide := false }) only [tI20, tI21, tI30, tI31, tI32, tI40, tI41, tI42, tI43, tI50, tI51, tI52, tI53, tI54, gFd_eq, kFd_ok, gDt_eq, kDt_ok, kDt2_ok, mAugF_eq, kAf1_ok, kAf2_ok, kAf3_ok, kAf4_ok, mAugS_eq, kAs1_ok, kAs2_ok, kAs3_ok, kAs4_ok, kAs5_ok, mMe_eq, kMe2_ok, mMk_eq, mChain3_eq, kD1_ok, kD2_ok, kD3_t, kD3_f, kD4_ok, kD5_t, kD5_f, kD6_ok, bMax3_i, mGD_eq, m1_eq, k1_ok, m2_eq, k2_ok, k2'_ok, mVar0, mVarS, mC_eq, mTst_eq, mTru_eq, kTru_ok, tru_bl, tru_int, tru_non, tru_tup, mAndT_eq, kAndT_t, kAndT_f, mOrT_eq, kOrT_t, kOrT_f, mNotT_eq, kNotT_ok, mChain_eq, kC1_ok, kC2_ok, kC3_t, kC3_f, kC4_ok, mB_eq, kB_ok, mAnd_eq, kAnd_ok, kAnd2_t, kAnd2_f, mOr_eq, kOr_ok, kOr2_t, kOr2_f, mNot_eq, kNot_ok, kNot2_ok, mIfE_eq, kIfE_t, kIfE_f, mArgs_nil, mArgs_cons, kA_ok, kA2_ok, mBi_eq, kBi_ok, mTup_eq, mLst_eq, mIsi_eq, kIsi_int, kIsi_bl, kIsi_str, kIsi_non, kIsi_tup, kIsi2_ok, kb_ii, kb_ib, kb_is, kb_it, kb_il, kb_bi, kb_bb, kb_bs, kb_bt, kb_bl, kb_si, kb_sb, kb_ss, kb_st, kb_sl, kb_ni, kb_nb, kb_ns, kb_nt, kb_nl, kb_ti, kb_tb, kb_ts, kb_tt, kb_tl, kb_li, kb_lb, kb_ls, kb_lt, kb_ll, mSeq_eq, kSeq_nx, kSeq_rt, kSeq_bk, kSeq_ct, kSeq_ex, mIf_eq, kIf_t, kIf_f, kIf_ex, mAsg_eq, kAsg_ok, kAsg_ex, gN_eq, gSb_eq, kSb_ok, kSb2_ok, gsNil_eq, gsCons_eq, mSkip_eq, mBreak_eq, mCont_eq, mExpr_eq, kExpr_ok, kExpr_ex, mRet_eq, kRet_ok, kRet_ex, mRetN_eq, mPar_eq, kPar_ok, mAug_eq, kAug0_ok, kAug_ok, kAug2_ok, mRaise_eq, kRaise_ok, mFn_eq, kFn_nx, kFn_rt, kFn_ex, oAdd_i, oIAdd_i, oSub_i, oNeg_i, oLt_i, oLe_i, oGt_i, oGe_i, oEq_i, oNe_i, oEq_s, oNe_s, oEq_b, oNe_b, oIs_n, oIsN_n, oIs_b, oIsN_b, isN_int, isN_bl, isN_str, isN_tup, isN_ref, isN_non, bAbs_i, bInt_i, bInt_b, bLen_t, bMax2_i, bMin2_i, bGcd_i, atI_0, List.set_cons_zero, List.set_cons_succ, List.map_cons, List.map_nil, List.cons_append, List.nil_append, List.length_cons, List.length_nil, List.replicate, Bool.not_true, Bool.not_false, decide_true, decide_false, kLst_ok, kTup_ok, Nat.reduceAdd, Nat.reduceLeDiff, Int.reducePow, Int.reduceToNat, Int.reduceMul, Int.reduceAdd, Int.reduceSub, Int.reduceNeg, kBi_ex, kA_ex, kA2_ex, mSl_eq, kSl1_ok, kSl2_ok, kSl3_ok, oNone_eq, oSome_eq, kOS_ok, oSl_t, mTry_eq, kTry_nx, kTry_rt, kRaise_ok, kExpr_ex, kSeq_ex, kRet_ex])
local macro_rules | `(tactic| walk_at "za") => `(tactic| simp (config := { decide := false }) only [tI20, tI21, tI30, tI31, tI32, tI40, tI41, tI42, tI43, tI50, tI51, tI52, tI53, tI54, gFd_eq, kFd_ok, gDt_eq, kDt_ok, kDt2_ok, mAugF_eq, kAf1_ok, kAf2_ok, kAf3_ok, kAf4_ok, mAugS_eq, kAs1_ok, kAs2_ok, kAs3_ok, kAs4_ok, kAs5_ok, mMe_eq, kMe2_ok, mMk_eq, mChain3_eq, kD1_ok, kD2_ok, kD3_t, kD3_f, kD4_ok, kD5_t, kD5_f, kD6_ok, bMax3_i, mGD_eq, m1_eq, k1_ok, m2_eq, k2_ok, k2'_ok, mVar0, mVarS, mC_eq, mTst_eq, mTru_eq, kTru_ok, tru_bl, tru_int, tru_non, tru_tup, mAndT_eq, kAndT_t, kAndT_f, mOrT_eq, kOrT_t, kOrT_f, mNotT_eq, kNotT_ok, mChain_eq, kC1_ok, kC2_ok, kC3_t, kC3_f, kC4_ok, mB_eq, kB_ok, mAnd_eq, kAnd_ok, kAnd2_t, kAnd2_f, mOr_eq, kOr_ok, kOr2_t, kOr2_f, mNot_eq, kNot_ok, kNot2_ok, mIfE_eq, kIfE_t, kIfE_f, mArgs_nil, mArgs_cons, kA_ok, kA2_ok, mBi_eq, kBi_ok, mTup_eq, mLst_eq, mIsi_eq, kIsi_int, kIsi_bl, kIsi_str, kIsi_non, kIsi_tup, kIsi2_ok, kb_ii, kb_ib, kb_is, kb_it, kb_il, kb_bi, kb_bb, kb_bs, kb_bt, kb_bl, kb_si, kb_sb, kb_ss, kb_st, kb_sl, kb_ni, kb_nb, kb_ns, kb_nt, kb_nl, kb_ti, kb_tb, kb_ts, kb_tt, kb_tl, kb_li, kb_lb, kb_ls, kb_lt, kb_ll, mSeq_eq, kSeq_nx, kSeq_rt, kSeq_bk, kSeq_ct, kSeq_ex, mIf_eq, kIf_t, kIf_f, kIf_ex, mAsg_eq, kAsg_ok, kAsg_ex, gN_eq, gSb_eq, kSb_ok, kSb2_ok, gsNil_eq, gsCons_eq, mSkip_eq, mBreak_eq, mCont_eq, mExpr_eq, kExpr_ok, kExpr_ex, mRet_eq, kRet_ok, kRet_ex, mRetN_eq, mPar_eq, kPar_ok, mAug_eq, kAug0_ok, kAug_ok, kAug2_ok, mRaise_eq, kRaise_ok, mFn_eq, kFn_nx, kFn_rt, kFn_ex, oAdd_i, oIAdd_i, oSub_i, oNeg_i, oLt_i, oLe_i, oGt_i, oGe_i, oEq_i, oNe_i, oEq_s, oNe_s, oEq_b, oNe_b, oIs_n, oIsN_n, oIs_b, oIsN_b, isN_int, isN_bl, isN_str, isN_tup, isN_ref, isN_non, bAbs_i, bInt_i, bInt_b, bLen_t, bMax2_i, bMin2_i, bGcd_i, atI_0, List.set_cons_zero, List.set_cons_succ, List.map_cons, List.map_nil, List.cons_append, List.nil_append, List.length_cons, List.length_nil, List.replicate, Bool.not_true, Bool.not_false, decide_true, decide_false, kLst_ok, kTup_ok, Nat.reduceAdd, Nat.reduceLeDiff, Int.reducePow, Int.reduceToNat, Int.reduceMul, Int.reduceAdd, Int.reduceSub, Int.reduceNeg, kBi_ex, kA_ex, kA2_ex, mSl_eq, kSl1_ok, kSl2_ok, kSl3_ok, oNone_eq, oSome_eq, kOS_ok, oSl_t, mTry_eq, kTry_nx, kTry_rt, kRaise_ok, kExpr_ex, kSeq_ex, kRet_ex, *])
section
variable {h h' h0 h1 : AH} {sk n k ks kp : Nat} {v u : A} {s : SA} {S T : List Fm} {xs Z : List A} {l : List Nat} {x0 x3 x4 x5 : Option A} {m : ME}
theorem okB_mono {h h' : AH} (f : ∀ (k : Nat) (xs : List A), h[k]? = some (AO.lst xs) → h'[k]? = some (AO.lst xs)) : ∀ (n : Nat) (u : A), okB h n u → okB h' n u
  | n, .non, _ => by cases n <;> trivial
  | n, .bl b, _ => by cases n <;> trivial
  | n, .int i, e => by cases n <;> exact e
  | n, .str x, e => by cases n <;> exact e
  | n, .ref k, e => by
    have e : ∃ xs, h[k]? = some (.lst xs) := by cases n <;> exact e
    have : ∃ xs, h'[k]? = some (.lst xs) := ⟨e.choose, f _ _ e.choose_spec⟩
    cases n <;> exact this
  | 0, .tup xs, e => e.elim
  | n + 1, .tup xs, e => ⟨e.1, fun x hx => okB_mono f n x (e.2 x hx)⟩
  | n, .fro k, e => by cases n <;> exact e.elim
  | n, .fn k, e => by cases n <;> exact e.elim
theorem wt_le : ∀ (n : Nat) (u : A), okB h n u → wt n u ≤ 5 * 4 ^ n
  | 0, u, e => by cases u <;> simp [wt]
  | n + 1, .tup xs, e => by
    have : ∀ ys : List A, (∀ x ∈ ys, okB h n x) → (ys.map fun x => wt n x + 1).sum ≤ ys.length * (5 * 4 ^ n + 1) := fun ys => by
      induction ys with
      | nil => intro _; simp
      | cons y ys ih =>
        intro g
        have := ih fun x hx => g x (List.mem_cons_of_mem _ hx)
        have := wt_le n y (g y (by simp))
        rw [List.map_cons, List.sum_cons, List.length_cons, Nat.succ_mul]
        omega
    have h1 := this xs e.2
    have h2 : xs.length * (5 * 4 ^ n + 1) ≤ 3 * (5 * 4 ^ n + 1) := Nat.mul_le_mul_right _ e.1
    have h3 : 1 ≤ 4 ^ n := Nat.one_le_pow _ _ (by decide)
    show 2 + (xs.map fun x => wt n x + 1).sum ≤ 5 * 4 ^ (n + 1)
    rw [Nat.pow_succ]
    omega
  | n + 1, .non, _ => by have : 1 ≤ 4 ^ (n + 1) := Nat.one_le_pow _ _ (by decide); simp [wt]; omega
  | n + 1, .bl _, _ => by have : 1 ≤ 4 ^ (n + 1) := Nat.one_le_pow _ _ (by decide); simp [wt]; omega
  | n + 1, .int _, _ => by have : 1 ≤ 4 ^ (n + 1) := Nat.one_le_pow _ _ (by decide); simp [wt]; omega
  | n + 1, .str _, _ => by have : 1 ≤ 4 ^ (n + 1) := Nat.one_le_pow _ _ (by decide); simp [wt]; omega
  | n + 1, .ref _, _ => by have : 1 ≤ 4 ^ (n + 1) := Nat.one_le_pow _ _ (by decide); simp [wt]; omega
  | n + 1, .fro _, e => e.elim
  | n + 1, .fn _, e => e.elim
theorem single_len (hu : okB h n u) (hn : nt u) (e : txO n u = some l) : l.length ≤ 16 := by
  cases u with
  | non => have : txO n .non = some [110] := by cases n <;> rfl
           rw [this] at e; cases e; decide
  | bl b =>
    cases b
    · have : txO n (.bl false) = some [102] := by cases n <;> rfl
      rw [this] at e; cases e; decide
    · have : txO n (.bl true) = some [116] := by cases n <;> rfl
      rw [this] at e; cases e; decide
  | int i =>
    have hu : i.natAbs < 10 ^ 15 := by cases n <;> exact hu
    have : txO n (.int i) = some (cpS (Str.ofString (toString i))) := by cases n <;> rfl
    rw [this] at e
    injection e with e
    rw [← e]
    exact cp_len hu
  | str x =>
    have hu : x ∈ strG ++ (["a\"b", "\""] : List Str) := by cases n <;> exact hu
    have ht : txO n (.str x) = if (34 ∈ cpS x) then none else some (34 :: cpS x ++ [34]) := by cases n <;> rfl
    have hl : (cpS x).length ≤ 10 := by
      unfold strG at hu
      simp only [List.cons_append, List.nil_append, List.mem_cons, List.not_mem_nil, or_false] at hu
      rcases hu with rfl | rfl | rfl | rfl | rfl | rfl | rfl | rfl <;> decide +kernel
    rw [ht] at e
    split at e
    · cases e
    · injection e with e
      rw [← e]
      simp only [List.length_append, List.length_cons, List.length_nil]
      omega
  | ref k => have : txO n (.ref k) = none := by cases n <;> rfl
             rw [this] at e; cases e
  | tup xs => exact hn.elim
  | fro k => cases n <;> exact hu.elim
  | fn k => cases n <;> exact hu.elim
theorem pop_ok (e1 : m s h = .ok (.ref k) h) (e : h[k]? = some (.lst (Z ++ [v]))) : mPop m s h = .ok v (h.set k (.lst Z)) := by
  unfold mPop
  rw [e1]
  simp only [Rs.bind, e]
  rw [show (Z ++ [v])[(Z ++ [v]).length - 1]? = some v by rw [List.length_append]; simp]
  simp
def tBody : MS := (mSeq (mAsg (mPop (mVar 2)) (gTp 2 (gsCons (gN 3) (gsCons (gN 4) gsNil))))
  (mSeq (mIf (mTru (mIsi "tuple" (mVar 4))) (mSeq (mAsg (mC (.str "(")) (gN 3))
  (mSeq (mExpr (mApp (mVar 2) (mTup [(mC (.str ")")), (mC .non)])))
  kidLoop)) (mIf (mTst oIs (mVar 3) (mC .non)) (mAsg (mBi F__single_text [(mVar 4)]) (gN 3)) mSkip))
  (mSeq (mIf (mTst oIs (mVar 3) (mC .non)) (mRet (mC .non)) mSkip)
  (mExpr (mApp (mVar 1) (mVar 3))))))
structure TI (u : A) (n M : Nat) (h0 h1 : AH) (kp ks i : Nat) (s : SA) (h' : AH) (ps : List (List Nat)) (S : List Fm) : Prop where
  sv : ∃ x3 x4 x5, s = [some u, some (.ref kp), some (.ref ks), x3, x4, x5]
  p : h'[kp]? = some (.lst (ps.map st))
  q : h'[ks]? = some (.lst (S.reverse.map Fm.a))
  ok : ∀ f ∈ S, f.ok h0
  w : i + (S.map Fm.w).sum ≤ M
  pl : ps.length ≤ i
  p16 : ∀ x ∈ ps, x.length ≤ 16
  tot : (txs S).map (fun m => ps.flatten ++ m) = txO n u
  fr : ZP.Fr [kp, ks] h1 h'
theorem tail_ok {l : List Nat} {ps : List (List Nat)} (e : h[kp]? = some (.lst (ps.map st))) (hp : ps.length ≤ 90000) : (mSeq (mIf (mTst oIs (mVar 3) (mC .non)) (mRet (mC .non)) mSkip) (mExpr (mApp (mVar 1) (mVar 3)))) [some u, some (.ref kp), some (.ref ks), some (st l), x4, x5] h = .nx [some u, some (.ref kp), some (.ref ks), some (st l), x4, x5] (h.set kp (.lst ((ps ++ [l]).map st))) := by
  walk_at "zs"
  rw [show (st l).isN = false from rfl]
  walk_at "zs"
  rw [app_ok (k := kp) (h1 := h) (h2 := h) (y := st l) (by walk_at "zs") e (by walk_at "zs") e (by rw [List.length_map]; omega)]
  walk_at "zs"
  rw [List.map_append]
  rfl
end
end law_k60

namespace law_k60
open PySem PySem.Spec PyProof.Rows L2 Z ZP ZN ZC ZK ZO LP
open ZL (F_is_whole F_require F_is_between F_is_coordinate F__law_next F__law_stream F__law_is_integer F__law_equal)
local macro_rules | `(tactic| walk_at "zs") => `(tactic| simp (config := { decide := false }) only [tI20, tI21, tI30, tI31, tI32, tI40, tI41, tI42, tI43, tI50, tI51, tI52, tI53, tI54, gFd_eq, kFd_ok, gDt_eq, kDt_ok, kDt2_ok, mAugF_eq, kAf1_ok, kAf2_ok, kAf3_ok, kAf4_ok, mAugS_eq, kAs1_ok, kAs2_ok, kAs3_ok, kAs4_ok, kAs5_ok, mMe_eq, kMe2_ok, mMk_eq, mChain3_eq, kD1_ok, kD2_ok, kD3_t, kD3_f, kD4_ok, kD5_t, kD5_f, kD6_ok, bMax3_i, mGD_eq, m1_eq, k1_ok, m2_eq, k2_ok, k2'_ok, mVar0, mVarS, mC_eq, mTst_eq, mTru_eq, kTru_ok, tru_bl, tru_int, tru_non, tru_tup, mAndT_eq, kAndT_t, kAndT_f, mOrT_eq, kOrT_t, kOrT_f, mNotT_eq, kNotT_ok, mChain_eq, kC1_ok, kC2_ok, kC3_t, kC3_f, kC4_ok, mB_eq, kB_ok, mAnd_eq, kAnd_ok, kAnd2_t, kAnd2_f, mOr_eq, kOr_ok, kOr2_t, kOr2_f, mNot_eq, kNot_ok, kNot2_ok, mIfE_eq, kIfE_t, kIfE_f, mArgs_nil, mArgs_cons, kA_ok, kA2_ok, mBi_eq, kBi_ok, mTup_eq, mLst_eq, mIsi_eq, kIsi_int, kIsi_bl, kIsi_str, kIsi_non, kIsi_tup, kIsi2_ok, kb_ii, kb_ib, kb_is, kb_it, kb_il, kb_bi, kb_bb, kb_bs, kb_bt, kb_bl, kb_si, kb_sb, kb_ss, kb_st, kb_sl, kb_ni, kb_nb, kb_ns, kb_nt, kb_nl, kb_ti, kb_tb, kb_ts, kb_tt, kb_tl, kb_li, kb_lb, kb_ls, kb_lt, kb_ll, mSeq_eq, kSeq_nx, kSeq_rt, kSeq_bk, kSeq_ct, kSeq_ex, mIf_eq, kIf_t, kIf_f, kIf_ex, mAsg_eq, kAsg_ok, kAsg_ex, gN_eq, gSb_eq, kSb_ok, kSb2_ok, gsNil_eq, gsCons_eq, mSkip_eq, mBreak_eq, mCont_eq, mExpr_eq, kExpr_ok, kExpr_ex, mRet_eq, kRet_ok, kRet_ex, mRetN_eq, mPar_eq, kPar_ok, mAug_eq, kAug0_ok, kAug_ok, kAug2_ok, mRaise_eq, kRaise_ok, mFn_eq, kFn_nx, kFn_rt, kFn_ex, oAdd_i, oIAdd_i, oSub_i, oNeg_i, oLt_i, oLe_i, oGt_i, oGe_i, oEq_i, oNe_i, oEq_s, oNe_s, oEq_b, oNe_b, oIs_n, oIsN_n, oIs_b, oIsN_b, isN_int, isN_bl, isN_str, isN_tup, isN_ref, isN_non, bAbs_i, bInt_i, bInt_b, bLen_t, bMax2_i, bMin2_i, bGcd_i, atI_0, List.set_cons_zero, List.set_cons_succ, List.map_cons, List.map_nil, List.cons_append, List.nil_append, List.length_cons, List.length_nil, List.replicate, Bool.not_true, Bool.not_false, decide_true, decide_false, kLst_ok, kTup_ok, Nat.reduceAdd, Nat.reduceLeDiff, Int.reducePow, Int.reduceToNat, Int.reduceMul, Int.reduceAdd, Int.reduceSub, Int.reduceNeg, kBi_ex, kA_ex, kA2_ex, mSl_eq, kSl1_ok, kSl2_ok, kSl3_ok, oNone_eq, oSome_eq, kOS_ok, oSl_t, mTry_eq, kTry_nx, kTry_rt, kRaise_ok, kExpr_ex, kSeq_ex, kRet_ex])
local macro_rules | `(tactic| walk_at "za") => `(tactic| simp (config := { decide := false }) only [tI20, tI21, tI30, tI31, tI32, tI40, tI41, tI42, tI43, tI50, tI51, tI52, tI53, tI54, gFd_eq, kFd_ok, gDt_eq, kDt_ok, kDt2_ok, mAugF_eq, kAf1_ok, kAf2_ok, kAf3_ok, kAf4_ok, mAugS_eq, kAs1_ok, kAs2_ok, kAs3_ok, kAs4_ok, kAs5_ok, mMe_eq, kMe2_ok, mMk_eq, mChain3_eq, kD1_ok, kD2_ok, kD3_t, kD3_f, kD4_ok, kD5_t, kD5_f, kD6_ok, bMax3_i, mGD_eq, m1_eq, k1_ok, m2_eq, k2_ok, k2'_ok, mVar0, mVarS, mC_eq, mTst_eq, mTru_eq, kTru_ok, tru_bl, tru_int, tru_non, tru_tup, mAndT_eq, kAndT_t, kAndT_f, mOrT_eq, kOrT_t, kOrT_f, mNotT_eq, kNotT_ok, mChain_eq, kC1_ok, kC2_ok, kC3_t, kC3_f, kC4_ok, mB_eq, kB_ok, mAnd_eq, kAnd_ok, kAnd2_t, kAnd2_f, mOr_eq, kOr_ok, kOr2_t, kOr2_f, mNot_eq, kNot_ok, kNot2_ok, mIfE_eq, kIfE_t, kIfE_f, mArgs_nil, mArgs_cons, kA_ok, kA2_ok, mBi_eq, kBi_ok, mTup_eq, mLst_eq, mIsi_eq, kIsi_int, kIsi_bl, kIsi_str, kIsi_non, kIsi_tup, kIsi2_ok, kb_ii, kb_ib, kb_is, kb_it, kb_il, kb_bi, kb_bb, kb_bs, kb_bt, kb_bl, kb_si, kb_sb, kb_ss, kb_st, kb_sl, kb_ni, kb_nb, kb_ns, kb_nt, kb_nl, kb_ti, kb_tb, kb_ts, kb_tt, kb_tl, kb_li, kb_lb, kb_ls, kb_lt, kb_ll, mSeq_eq, kSeq_nx, kSeq_rt, kSeq_bk, kSeq_ct, kSeq_ex, mIf_eq, kIf_t, kIf_f, kIf_ex, mAsg_eq, kAsg_ok, kAsg_ex, gN_eq, gSb_eq, kSb_ok, kSb2_ok, gsNil_eq, gsCons_eq, mSkip_eq, mBreak_eq, mCont_eq, mExpr_eq, kExpr_ok, kExpr_ex, mRet_eq, kRet_ok, kRet_ex, mRetN_eq, mPar_eq, kPar_ok, mAug_eq, kAug0_ok, kAug_ok, kAug2_ok, mRaise_eq, kRaise_ok, mFn_eq, kFn_nx, kFn_rt, kFn_ex, oAdd_i, oIAdd_i, oSub_i, oNeg_i, oLt_i, oLe_i, oGt_i, oGe_i, oEq_i, oNe_i, oEq_s, oNe_s, oEq_b, oNe_b, oIs_n, oIsN_n, oIs_b, oIsN_b, isN_int, isN_bl, isN_str, isN_tup, isN_ref, isN_non, bAbs_i, bInt_i, bInt_b, bLen_t, bMax2_i, bMin2_i, bGcd_i, atI_0, List.set_cons_zero, List.set_cons_succ, List.map_cons, List.map_nil, List.cons_append, List.nil_append, List.length_cons, List.length_nil, List.replicate, Bool.not_true, Bool.not_false, decide_true, decide_false, kLst_ok, kTup_ok, Nat.reduceAdd, Nat.reduceLeDiff, Int.reducePow, Int.reduceToNat, Int.reduceMul, Int.reduceAdd, Int.reduceSub, Int.reduceNeg, kBi_ex, kA_ex, kA2_ex, mSl_eq, kSl1_ok, kSl2_ok, kSl3_ok, oNone_eq, oSome_eq, kOS_ok, oSl_t, mTry_eq, kTry_nx, kTry_rt, kRaise_ok, kExpr_ex, kSeq_ex, kRet_ex, *])
section
variable {h h' h0 h1 : AH} {sk n k ks kp M i : Nat} {v u : A} {s : SA} {S T : List Fm} {xs Z : List A} {l : List Nat} {x0 x3 x4 x5 : Option A} {m : ME} {ps : List (List Nat)}
theorem w_pos {f : Fm} : 1 ≤ f.w := by
  cases f with
  | t l => exact Nat.le_refl _
  | v n u => cases n <;> cases u <;> first | (simp [Fm.w, wt]; done) | (simp only [Fm.w, wt]; omega)
theorem S_len : ∀ S : List Fm, S.length ≤ (S.map Fm.w).sum
  | [] => by simp
  | f :: S => by
    have := S_len S
    have := w_pos (f := f)
    rw [List.map_cons, List.sum_cons, List.length_cons]
    omega
theorem w_kidS : ∀ xs : List A, ((kidS n xs).map Fm.w).sum = (xs.map fun x => wt n x + 1).sum
  | [] => rfl
  | x :: xs => by
    show 1 + (wt n x + ((kidS n xs).map Fm.w).sum) = _
    rw [w_kidS xs, List.map_cons, List.sum_cons]
    omega
theorem w_kids (xs : List A) : ((kids n xs).map Fm.w).sum = (xs.map fun x => wt n x + 1).sum := by
  cases xs with
  | nil => rfl
  | cons x xs =>
    show 1 + (wt n x + ((kidS n xs).map Fm.w).sum) = _
    rw [w_kidS xs, List.map_cons, List.sum_cons]
    omega
theorem ok_kidS (g : n ≤ 6) : ∀ xs : List A, (∀ x ∈ xs, okB h0 n x) → ∀ f ∈ kidS n xs, f.ok h0
  | [], _, f, hf => by cases hf
  | x :: xs, e, f, hf => by
    have hf : f = .t [44] ∨ f = .v n x ∨ f ∈ kidS n xs := by simpa [kidS] using hf
    rcases hf with rfl | rfl | hf
    · show 1 ≤ 1; exact Nat.le_refl _
    · exact ⟨e x (by simp), g⟩
    · exact ok_kidS g xs (fun y hy => e y (List.mem_cons_of_mem _ hy)) f hf
theorem ok_kids (g : n ≤ 6) (e : ∀ x ∈ xs, okB h0 n x) : ∀ f ∈ kids n xs, f.ok h0 := by
  cases xs with
  | nil => intro f hf; cases hf
  | cons x xs =>
    intro f hf
    have hf : f = .t [] ∨ f = .v n x ∨ f ∈ kidS n xs := by simpa [kids] using hf
    rcases hf with rfl | rfl | hf
    · show 0 ≤ 1; exact Nat.zero_le _
    · exact ⟨e x (by simp), g⟩
    · exact ok_kidS g xs (fun y hy => e y (List.mem_cons_of_mem _ hy)) f hf
theorem step_ok (hM : M ≤ 60000) (l0 : h0.length ≤ kp) (kk : kp < ks) (I : TI u n M h0 h1 kp ks i s h (ps) S) (hS : S ≠ []) (fr0 : ∀ (k : Nat) (xs : List A), h0[k]? = some (AO.lst xs) → h1[k]? = some (AO.lst xs)) :
    (∃ s' h' ps' S', tBody s h = .nx s' h' ∧ TI u n M h0 h1 kp ks (i + 1) s' h' ps' S') ∨ (∃ h', tBody s h = .rt .non h' ∧ txO n u = none ∧ ZP.Fr [kp, ks] h1 h') := by
  obtain ⟨f, T, rfl⟩ : ∃ f T, S = f :: T := List.exists_cons_of_ne_nil hS
  obtain ⟨⟨x3, x4, x5, rfl⟩, ip, iq, iok, iw, ipl, i16, itot, ifr⟩ := I
  rw [List.map_cons, List.sum_cons] at iw
  have wf := w_pos (f := f)
  have lT := S_len T
  rw [List.reverse_cons, List.map_append] at iq
  have ip' : (h.set ks (.lst (T.reverse.map Fm.a)))[kp]? = some (.lst (ps.map st)) := by rw [List.getElem?_set_ne (by omega)]; exact ip
  have iq' : (h.set ks (.lst (T.reverse.map Fm.a)))[ks]? = some (.lst (T.reverse.map Fm.a)) := List.getElem?_set_self (lt_of_some iq)
  have ifr' : ZP.Fr [kp, ks] h1 (h.set ks (.lst (T.reverse.map Fm.a))) := ifr.trans (ZP.Fr.set (by simp))
  unfold tBody
  rw [mSeq_eq, mAsg_eq, pop_ok (k := ks) (Z := T.reverse.map Fm.a) (v := f.a) (by walk_at "zs") iq]
  generalize h.set ks (.lst (T.reverse.map Fm.a)) = h2 at *
  have kp2 := lt_of_some ip'
  cases f with
  | t l =>
    rw [show (Fm.t l).a = .tup [st l, .non] from rfl, kAsg_ok, gTp_ok (n := 2) (xs := [st l, .non]) rfl]
    have eg : gsCons (gN 3) (gsCons (gN 4) gsNil) [st l, .non] [some u, some (.ref kp), some (.ref ks), x3, x4, x5] h2 = .nx [some u, some (.ref kp), some (.ref ks), some (st l), some .non, x5] h2 := rfl
    rw [eg, kSeq_nx, mSeq_eq]
    have e1 : (mIf (mTru (mIsi "tuple" (mVar 4))) (mSeq (mAsg (mC (.str "(")) (gN 3)) (mSeq (mExpr (mApp (mVar 2) (mTup [(mC (.str ")")), (mC .non)]))) kidLoop)) (mIf (mTst oIs (mVar 3) (mC .non)) (mAsg (mBi F__single_text [(mVar 4)]) (gN 3)) mSkip)) [some u, some (.ref kp), some (.ref ks), some (st l), some .non, x5] h2 = .nx [some u, some (.ref kp), some (.ref ks), some (st l), some .non, x5] h2 := by
      walk_at "zs"
      rw [show (st l).isN = false from rfl]
      walk_at "zs"
    rw [e1, kSeq_nx, tail_ok ip' (by omega)]
    have ol : l.length ≤ 1 := iok (.t l) (by simp)
    refine .inl ⟨_, _, ps ++ [l], T, rfl, ⟨⟨_, _, _, rfl⟩, List.getElem?_set_self kp2, by rw [List.getElem?_set_ne (by omega)]; exact iq', fun g hg => iok g (List.mem_cons_of_mem _ hg), by omega, by simp; omega, fun x hx => ?_, ?_, ifr'.trans (ZP.Fr.set (by simp))⟩⟩
    · rcases List.mem_append.mp hx with z | z
      · exact i16 x z
      · rw [List.mem_singleton.mp z]; omega
    · rw [← itot]
      show (txs T).map (fun m => (ps ++ [l]).flatten ++ m) = ((txs T).map fun m => l ++ m).map fun m => ps.flatten ++ m
      cases txs T with
      | none => rfl
      | some m => simp
  | v n' u' =>
    have ok0 : okB h0 n' u' ∧ n' ≤ 6 := iok (.v n' u') (by simp)
    have ok2 : okB h2 n' u' := okB_mono (fun k xs e => by
      have := lt_of_some e
      exact ifr'.at (fr0 k xs e) (by simp; omega)) n' u' ok0.1
    rw [show (Fm.v n' u').a = .tup [.non, u'] from rfl, kAsg_ok, gTp_ok (n := 2) (xs := [.non, u']) rfl]
    have eg : gsCons (gN 3) (gsCons (gN 4) gsNil) [.non, u'] [some u, some (.ref kp), some (.ref ks), x3, x4, x5] h2 = .nx [some u, some (.ref kp), some (.ref ks), some .non, some u', x5] h2 := rfl
    rw [eg, kSeq_nx, mSeq_eq]
    by_cases c : nt u'
    · obtain ⟨h3, e3, f3⟩ := single_ok ok2 c
      have ef : mTru (mIsi "tuple" (mVar 4)) [some u, some (.ref kp), some (.ref ks), some .non, some u', x5] h2 = .ok false h2 := by
        cases u' with
        | ref k =>
          have : ∃ xs, h2[k]? = some (.lst xs) := by cases n' <;> exact ok2
          obtain ⟨xs, e⟩ := this
          walk_at "zs"
          rw [kIsi_lst e]
          walk_at "zs"
        | tup xs => exact c.elim
        | fro xs => cases n' <;> exact ok2.elim
        | fn xs => cases n' <;> exact ok2.elim
        | _ => walk_at "zs"
      have e1 : (mIf (mTru (mIsi "tuple" (mVar 4))) (mSeq (mAsg (mC (.str "(")) (gN 3)) (mSeq (mExpr (mApp (mVar 2) (mTup [(mC (.str ")")), (mC .non)]))) kidLoop)) (mIf (mTst oIs (mVar 3) (mC .non)) (mAsg (mBi F__single_text [(mVar 4)]) (gN 3)) mSkip)) [some u, some (.ref kp), some (.ref ks), some .non, some u', x5] h2 = .nx [some u, some (.ref kp), some (.ref ks), some (oT (txO n' u')), some u', x5] h3 := by
        rw [mIf_eq, ef]
        walk_at "zs"
        rw [e3]
        walk_at "zs"
      rw [e1, kSeq_nx]
      have ip3 := f3.at ip' (by simp)
      have iq3 := f3.at iq' (by simp)
      have ifr3 := ifr'.trans (f3.mono (by simp))
      cases et : txO n' u' with
      | none =>
        right
        refine ⟨h3, by unfold oT; walk_at "zs", ?_, ifr3⟩
        rw [← itot]
        show ((txO n' u').bind fun l => (txs T).map fun m => l ++ m).map _ = none
        rw [et]
        rfl
      | some l =>
        left
        rw [show oT (some l) = st l from rfl, tail_ok ip3 (by omega)]
        have l16 := single_len ok2 c et
        refine ⟨_, _, ps ++ [l], T, rfl, ⟨⟨_, _, _, rfl⟩, List.getElem?_set_self (lt_of_some ip3), by rw [List.getElem?_set_ne (by omega)]; exact iq3, fun g hg => iok g (List.mem_cons_of_mem _ hg), by omega, by simp; omega, fun x hx => ?_, ?_, ifr3.trans (ZP.Fr.set (by simp))⟩⟩
        · rcases List.mem_append.mp hx with z | z
          · exact i16 x z
          · rw [List.mem_singleton.mp z]; exact l16
        · rw [← itot]
          show (txs T).map (fun m => (ps ++ [l]).flatten ++ m) = ((txO n' u').bind fun l => (txs T).map fun m => l ++ m).map fun m => ps.flatten ++ m
          rw [et]
          show _ = (((txs T).map fun m => l ++ m)).map fun m => ps.flatten ++ m
          cases txs T with
          | none => rfl
          | some m => simp
    · cases u' with
      | tup xs =>
        cases n' with
        | zero => exact ok2.elim
        | succ n' =>
          left
          obtain ⟨o1, o2⟩ := ok0.1
          have e0 : mTru (mIsi "tuple" (mVar 4)) [some u, some (.ref kp), some (.ref ks), some .non, some (.tup xs), x5] h2 = .ok true h2 := by walk_at "zs"
          have lz : (T.reverse.map Fm.a).length ≤ 60000 := by rw [List.length_map, List.length_reverse]; omega
          have iq2 : (h2.set ks (.lst (T.reverse.map Fm.a ++ [Fm.a (.t [41])])))[ks]? = some (.lst (T.reverse.map Fm.a ++ [Fm.a (.t [41])])) := List.getElem?_set_self (lt_of_some iq')
          have ip2 : (h2.set ks (.lst (T.reverse.map Fm.a ++ [Fm.a (.t [41])])))[kp]? = some (.lst (ps.map st)) := by rw [List.getElem?_set_ne (by omega)]; exact ip'
          have ifr2 : ZP.Fr [kp, ks] h1 (h2.set ks (.lst (T.reverse.map Fm.a ++ [Fm.a (.t [41])]))) := ifr'.trans (ZP.Fr.set (by simp))
          have ea : mExpr (mApp (mVar 2) (mTup [(mC (.str ")")), (mC .non)])) [some u, some (.ref kp), some (.ref ks), some (st [40]), some (.tup xs), x5] h2 = .nx [some u, some (.ref kp), some (.ref ks), some (st [40]), some (.tup xs), x5] (h2.set ks (.lst (T.reverse.map Fm.a ++ [Fm.a (.t [41])]))) := by
            rw [mExpr_eq, app_ok (k := ks) (h1 := h2) (h2 := h2) (y := Fm.a (.t [41])) (by walk_at "zs") iq' (by walk_at "zs"; rfl) iq' (by omega)]
            walk_at "zs"
          generalize h2.set ks (.lst (T.reverse.map Fm.a ++ [Fm.a (.t [41])])) = h3 at *
          obtain ⟨x5', h4, e4, a4, f4⟩ := loop_ok (x0 := some u) (x3 := some (st [40])) (x5 := x5) (kp := kp) (n := n') o1 (Z := T.reverse.map Fm.a ++ [Fm.a (.t [41])]) (by rw [List.length_append]; simp only [List.length_cons, List.length_nil]; omega) iq2
          have ip4 := f4.at ip2 (by simp; omega)
          have ifr4 := ifr2.trans (f4.mono (by simp))
          have e1 : (mIf (mTru (mIsi "tuple" (mVar 4))) (mSeq (mAsg (mC (.str "(")) (gN 3)) (mSeq (mExpr (mApp (mVar 2) (mTup [(mC (.str ")")), (mC .non)]))) kidLoop)) (mIf (mTst oIs (mVar 3) (mC .non)) (mAsg (mBi F__single_text [(mVar 4)]) (gN 3)) mSkip)) [some u, some (.ref kp), some (.ref ks), some .non, some (.tup xs), x5] h2 = .nx [some u, some (.ref kp), some (.ref ks), some (st [40]), some (.tup xs), x5'] h4 := by
            rw [mIf_eq, e0, kIf_t, mSeq_eq, show mAsg (mC (.str "(")) (gN 3) [some u, some (.ref kp), some (.ref ks), some .non, some (.tup xs), x5] h2 = .nx [some u, some (.ref kp), some (.ref ks), some (st [40]), some (.tup xs), x5] h2 from rfl, kSeq_nx, mSeq_eq, ea, kSeq_nx, e4]
          rw [e1, kSeq_nx, tail_ok ip4 (by omega)]
          refine ⟨_, _, ps ++ [[40]], kids n' xs ++ .t [41] :: T, rfl, ⟨⟨_, _, _, rfl⟩, List.getElem?_set_self (lt_of_some ip4), ?_, fun g hg => ?_, ?_, by simp; omega, fun x hx => ?_, ?_, ifr4.trans (ZP.Fr.set (by simp))⟩⟩
          · rw [List.getElem?_set_ne (by omega), a4]
            simp
          · rcases List.mem_append.mp hg with z | z
            · exact ok_kids (by omega) o2 g z
            · rcases List.mem_cons.mp z with rfl | z
              · show 1 ≤ 1; exact Nat.le_refl _
              · exact iok g (List.mem_cons_of_mem _ z)
          · rw [List.map_append, List.sum_append, w_kids, List.map_cons, List.sum_cons]
            have : (Fm.v (n' + 1) (.tup xs)).w = 2 + (xs.map fun x => wt n' x + 1).sum := rfl
            have : (Fm.t [41]).w = 1 := rfl
            omega
          · rcases List.mem_append.mp hx with z | z
            · exact i16 x z
            · rw [List.mem_singleton.mp z]; show 1 ≤ 16; decide
          · rw [← itot, txs_tup]
            cases txs (kids n' xs ++ .t [41] :: T) with
            | none => rfl
            | some m => simp
      | non => exact (c trivial).elim
      | bl b => exact (c trivial).elim
      | int b => exact (c trivial).elim
      | str b => exact (c trivial).elim
      | ref b => exact (c trivial).elim
      | fro b => exact (c trivial).elim
      | fn b => exact (c trivial).elim
end
end law_k60

namespace law_k60
open PySem PySem.Spec PyProof.Rows L2 Z ZP ZN ZC ZK ZO LP
open ZL (F_is_whole F_require F_is_between F_is_coordinate F__law_next F__law_stream F__law_is_integer F__law_equal)
local macro_rules | `(tactic| walk_at "zs") => `(tactic| simp (config := { decide := false }) only [tI20, tI21, tI30, tI31, tI32, tI40, tI41, tI42, tI43, tI50, tI51, tI52, tI53, tI54, gFd_eq, kFd_ok, gDt_eq, kDt_ok, kDt2_ok, mAugF_eq, kAf1_ok, kAf2_ok, kAf3_ok, kAf4_ok, mAugS_eq, kAs1_ok, kAs2_ok, kAs3_ok, kAs4_ok, kAs5_ok, mMe_eq, kMe2_ok, mMk_eq, mChain3_eq, kD1_ok, kD2_ok, kD3_t, kD3_f, kD4_ok, kD5_t, kD5_f, kD6_ok, bMax3_i, mGD_eq, m1_eq, k1_ok, m2_eq, k2_ok, k2'_ok, mVar0, mVarS, mC_eq, mTst_eq, mTru_eq, kTru_ok, tru_bl, tru_int, tru_non, tru_tup, mAndT_eq, kAndT_t, kAndT_f, mOrT_eq, kOrT_t, kOrT_f, mNotT_eq, kNotT_ok, mChain_eq, kC1_ok, kC2_ok, kC3_t, kC3_f, kC4_ok, mB_eq, kB_ok, mAnd_eq, kAnd_ok, kAnd2_t, kAnd2_f, mOr_eq, kOr_ok, kOr2_t, kOr2_f, mNot_eq, kNot_ok, kNot2_ok, mIfE_eq, kIfE_t, kIfE_f, mArgs_nil, mArgs_cons, kA_ok, kA2_ok, mBi_eq, kBi_ok, mTup_eq, mLst_eq, mIsi_eq, kIsi_int, kIsi_bl, kIsi_str, kIsi_non, kIsi_tup, kIsi2_ok, kb_ii, kb_ib, kb_is, kb_it, kb_il, kb_bi, kb_bb, kb_bs, kb_bt, kb_bl, kb_si, kb_sb, kb_ss, kb_st, kb_sl, kb_ni, kb_nb, kb_ns, kb_nt, kb_nl, kb_ti, kb_tb, kb_ts, kb_tt, kb_tl, kb_li, kb_lb, kb_ls, kb_lt, kb_ll, mSeq_eq, kSeq_nx, kSeq_rt, kSeq_bk, kSeq_ct, kSeq_ex, mIf_eq, kIf_t, kIf_f, kIf_ex, mAsg_eq, kAsg_ok, kAsg_ex, gN_eq, gSb_eq, kSb_ok, kSb2_ok, gsNil_eq, gsCons_eq, mSkip_eq, mBreak_eq, mCont_eq, mExpr_eq, kExpr_ok, kExpr_ex, mRet_eq, kRet_ok, kRet_ex, mRetN_eq, mPar_eq, kPar_ok, mAug_eq, kAug0_ok, kAug_ok, kAug2_ok, mRaise_eq, kRaise_ok, mFn_eq, kFn_nx, kFn_rt, kFn_ex, oAdd_i, oIAdd_i, oSub_i, oNeg_i, oLt_i, oLe_i, oGt_i, oGe_i, oEq_i, oNe_i, oEq_s, oNe_s, oEq_b, oNe_b, oIs_n, oIsN_n, oIs_b, oIsN_b, isN_int, isN_bl, isN_str, isN_tup, isN_ref, isN_non, bAbs_i, bInt_i, bInt_b, bLen_t, bMax2_i, bMin2_i, bGcd_i, atI_0, List.set_cons_zero, List.set_cons_succ, List.map_cons, List.map_nil, List.cons_append, List.nil_append, List.length_cons, List.length_nil, List.replicate, Bool.not_true, Bool.not_false, decide_true, decide_false, kLst_ok, kTup_ok, Nat.reduceAdd, Nat.reduceLeDiff, Int.reducePow, Int.reduceToNat, Int.reduceMul, Int.reduceAdd, Int.reduceSub, Int.reduceNeg, kBi_ex, kA_ex, kA2_ex, mSl_eq, kSl1_ok, kSl2_ok, kSl3_ok, oNone_eq, oSome_eq, kOS_ok, oSl_t, mTry_eq, kTry_nx, kTry_rt, kRaise_ok, kExpr_ex, kSeq_ex, kRet_ex])
local macro_rules | `(tactic| walk_at "za") => `(tactic| simp (config := { decide := false }) only [tI20, tI21, tI30, tI31, tI32, tI40, tI41, tI42, tI43, tI50, tI51, tI52, tI53, tI54, gFd_eq, kFd_ok, gDt_eq, kDt_ok, kDt2_ok, mAugF_eq, kAf1_ok, kAf2_ok, kAf3_ok, kAf4_ok, mAugS_eq, kAs1_ok, kAs2_ok, kAs3_ok, kAs4_ok, kAs5_ok, mMe_eq, kMe2_ok, mMk_eq, mChain3_eq, kD1_ok, kD2_ok, kD3_t, kD3_f, kD4_ok, kD5_t, kD5_f, kD6_ok, bMax3_i, mGD_eq, m1_eq, k1_ok, m2_eq, k2_ok, k2'_ok, mVar0, mVarS, mC_eq, mTst_eq, mTru_eq, kTru_ok, tru_bl, tru_int, tru_non, tru_tup, mAndT_eq, kAndT_t, kAndT_f, mOrT_eq, kOrT_t, kOrT_f, mNotT_eq, kNotT_ok, mChain_eq, kC1_ok, kC2_ok, kC3_t, kC3_f, kC4_ok, mB_eq, kB_ok, mAnd_eq, kAnd_ok, kAnd2_t, kAnd2_f, mOr_eq, kOr_ok, kOr2_t, kOr2_f, mNot_eq, kNot_ok, kNot2_ok, mIfE_eq, kIfE_t, kIfE_f, mArgs_nil, mArgs_cons, kA_ok, kA2_ok, mBi_eq, kBi_ok, mTup_eq, mLst_eq, mIsi_eq, kIsi_int, kIsi_bl, kIsi_str, kIsi_non, kIsi_tup, kIsi2_ok, kb_ii, kb_ib, kb_is, kb_it, kb_il, kb_bi, kb_bb, kb_bs, kb_bt, kb_bl, kb_si, kb_sb, kb_ss, kb_st, kb_sl, kb_ni, kb_nb, kb_ns, kb_nt, kb_nl, kb_ti, kb_tb, kb_ts, kb_tt, kb_tl, kb_li, kb_lb, kb_ls, kb_lt, kb_ll, mSeq_eq, kSeq_nx, kSeq_rt, kSeq_bk, kSeq_ct, kSeq_ex, mIf_eq, kIf_t, kIf_f, kIf_ex, mAsg_eq, kAsg_ok, kAsg_ex, gN_eq, gSb_eq, kSb_ok, kSb2_ok, gsNil_eq, gsCons_eq, mSkip_eq, mBreak_eq, mCont_eq, mExpr_eq, kExpr_ok, kExpr_ex, mRet_eq, kRet_ok, kRet_ex, mRetN_eq, mPar_eq, kPar_ok, mAug_eq, kAug0_ok, kAug_ok, kAug2_ok, mRaise_eq, kRaise_ok, mFn_eq, kFn_nx, kFn_rt, kFn_ex, oAdd_i, oIAdd_i, oSub_i, oNeg_i, oLt_i, oLe_i, oGt_i, oGe_i, oEq_i, oNe_i, oEq_s, oNe_s, oEq_b, oNe_b, oIs_n, oIsN_n, oIs_b, oIsN_b, isN_int, isN_bl, isN_str, isN_tup, isN_ref, isN_non, bAbs_i, bInt_i, bInt_b, bLen_t, bMax2_i, bMin2_i, bGcd_i, atI_0, List.set_cons_zero, List.set_cons_succ, List.map_cons, List.map_nil, List.cons_append, List.nil_append, List.length_cons, List.length_nil, List.replicate, Bool.not_true, Bool.not_false, decide_true, decide_false, kLst_ok, kTup_ok, Nat.reduceAdd, Nat.reduceLeDiff, Int.reducePow, Int.reduceToNat, Int.reduceMul, Int.reduceAdd, Int.reduceSub, Int.reduceNeg, kBi_ex, kA_ex, kA2_ex, mSl_eq, kSl1_ok, kSl2_ok, kSl3_ok, oNone_eq, oSome_eq, kOS_ok, oSl_t, mTry_eq, kTry_nx, kTry_rt, kRaise_ok, kExpr_ex, kSeq_ex, kRet_ex, *])
section
variable {h h' h0 h1 : AH} {sk n k ks kp M i : Nat} {v u : A} {s : SA} {S T : List Fm} {xs Z : List A} {l : List Nat} {x0 x3 x4 x5 : Option A} {m : ME} {ps : List (List Nat)}
theorem itc_nil (ls : List (List Nat)) : itc [] ls = ls.flatten := by
  cases ls with
  | nil => rfl
  | cons l ls => rw [itc_cons]; simp
theorem sum16 : ∀ ps : List (List Nat), (∀ x ∈ ps, x.length ≤ 16) → (ps.map List.length).sum ≤ 16 * ps.length
  | [], _ => by simp
  | p :: ps, f => by
    have := sum16 ps fun x hx => f x (List.mem_cons_of_mem _ hx)
    have := f p (by simp)
    rw [List.map_cons, List.sum_cons, List.length_cons]
    omega
theorem text_of_ok (hn : n ≤ 6) (hu : okB h n u) : ∃ h', F_text_of [u] h = .ok (oT (txO n u)) h' ∧ ZP.Fr [] h h' := by
  have hM := wt_le n u hu
  have h4 : 5 * 4 ^ n ≤ 5 * 4 ^ 6 := Nat.mul_le_mul_left _ (Nat.pow_le_pow_right (by decide) hn)
  unfold F_text_of m_text_of
  walk_at "zs"
  have nA : (h ++ [AO.lst []])[h.length]? = some (.lst (([] : List (List Nat)).map st)) := new_at _ _
  have fA : ZP.Fr [] h (h ++ [AO.lst []]) := ZP.Fr.push _
  have lA := lt_of_some nA
  generalize h ++ [AO.lst []] = hA at *
  have nB : (hA ++ [AO.lst [.tup [.non, u]]])[hA.length]? = some (.lst (([Fm.v n u] : List Fm).reverse.map Fm.a)) := new_at _ _
  have fB : ZP.Fr [] hA (hA ++ [AO.lst [.tup [.non, u]]]) := ZP.Fr.push _
  have nA' := fB.at nA (by simp)
  generalize hA ++ [AO.lst [.tup [.non, u]]] = hB at *
  have key := wh_out (c := mTru (mVar 2)) (bd := tBody) (M := wt n u) (fun i s h' => ∃ ps S, TI u n (wt n u) h hB h.length hA.length i s h' ps S)
    (fun r => (∃ (x3 x4 x5 : Option A) (h' : AH) (ps : List (List Nat)), r = .nx [some u, some (.ref h.length), some (.ref hA.length), x3, x4, x5] h' ∧ h'[h.length]? = some (.lst (ps.map st)) ∧ some ps.flatten = txO n u ∧ ps.length ≤ 60000 ∧ (∀ x ∈ ps, x.length ≤ 16) ∧ ZP.Fr [h.length, hA.length] hB h') ∨ (∃ h', r = .rt .non h' ∧ txO n u = none ∧ ZP.Fr [h.length, hA.length] hB h'))
    (fun i s h' ⟨ps, S, I⟩ => by have := I.w; omega)
    (fun i s h2 ⟨ps, S, I⟩ => by
      have I0 := I
      obtain ⟨⟨x3, x4, x5, rfl⟩, ip, iq, iok, iw, ipl, i16, itot, ifr⟩ := I
      cases S with
      | nil =>
        refine .inl ⟨h2, ?_, .inl ⟨x3, x4, x5, h2, ps, rfl, ip, ?_, by omega, i16, ifr⟩⟩
        · walk_at "zs"
          rw [tru_lst iq]
          rfl
        · rw [← itot]
          show some ps.flatten = (some []).map fun m => ps.flatten ++ m
          simp
      | cons f T =>
        refine .inr ⟨h2, ?_, ?_⟩
        · walk_at "zs"
          rw [tru_lst iq]
          simp
        · rcases step_ok (by omega) (Nat.le_refl _) lA I0 (by simp) (fun k xs e => (fA.trans fB).at e (by simp)) with ⟨s', h', ps', S', e, I'⟩ | ⟨h', e, et, ef⟩
          · exact .inl ⟨s', h', e, ps', S', I'⟩
          · exact .inr ⟨.non, h', e, .inr ⟨h', rfl, et, ef⟩⟩)
    1000000000000000000 0 [some u, some (.ref h.length), some (.ref hA.length), none, none, none] hB
    ⟨[], [.v n u], ⟨⟨_, _, _, rfl⟩, nA', nB, fun f hf => by
      rw [List.mem_singleton.mp hf]
      exact ⟨hu, hn⟩, by simp [Fm.w], Nat.le_refl _, by simp, by
      show ((txO n u).bind fun l => (some []).map fun m => l ++ m).map (fun m => [] ++ m) = txO n u
      cases txO n u with
      | none => rfl
      | some l => simp, ZP.Fr.refl _ _⟩⟩ (by omega)
  rw [show mWhile (mTru (mVar 2)) (mSeq (mAsg (mPop (mVar 2)) (gTp 2 (gsCons (gN 3) (gsCons (gN 4) gsNil))))   (mSeq (mIf (mTru (mIsi "tuple" (mVar 4))) (mSeq (mAsg (mC (.str "(")) (gN 3))   (mSeq (mExpr (mApp (mVar 2) (mTup [(mC (.str ")")), (mC .non)])))   (mFor (mRngD (m2 oSub (mBi bLen [(mVar 4)]) (mC (.int 1))) (m1 oNeg (mC (.int 1)))) (gN 5) (mSeq (mExpr (mApp (mVar 2) (mTup [(mC .non), (m2 oIx (mVar 4) (mVar 5))])))   (mExpr (mApp (mVar 2) (mTup [(mIfE (mTst oGt (mVar 5) (mC (.int 0))) (mC (.str ",")) (mC (.str ""))), (mC .non)]))))))) (mIf (mTst oIs (mVar 3) (mC .non)) (mAsg (mBi F__single_text [(mVar 4)]) (gN 3)) mSkip))   (mSeq (mIf (mTst oIs (mVar 3) (mC .non)) (mRet (mC .non)) mSkip)   (mExpr (mApp (mVar 1) (mVar 3)))))) 1000000000000000000 = mWhile (mTru (mVar 2)) tBody 1000000000000000000 from rfl]
  have fO : ∀ {h'}, ZP.Fr [h.length, hA.length] hB h' → ZP.Fr [] h h' := fun f => fr_out (fA.trans fB) f (by intro n hn; have := fA.le; simp at hn; omega)
  rcases key with ⟨x3, x4, x5, h', ps, er, ep, et, pl, p16, ef⟩ | ⟨h', er, et, ef⟩
  · rw [er]
    walk_at "zs"
    unfold m_text_of_r3
    walk_at "zs"
    have s16 := sum16 ps p16
    rw [join_ok (s := [some u, some (.ref h.length), some (.ref hA.length), x3, x4, x5]) (h := h') (h' := h') (sep := []) (ls := ps) (by kernel_rfl) (by walk_at "zs") ep (by simp only [List.length_nil]; omega), itc_nil]
    walk_at "zs"
    exact ⟨h', by rw [← et]; rfl, fO ef⟩
  · rw [er, et]
    walk_at "zs"
    exact ⟨h', rfl, fO ef⟩
end
end law_k60

namespace law_k60
open PySem PySem.Spec PyProof.Rows L2 Z ZP ZN ZC ZK ZO LP
open ZL (F_is_whole F_require F_is_between F_is_coordinate F__law_next F__law_stream F__law_is_integer F__law_equal)
local macro_rules | `(tactic| walk_at "zs") => `(tactic| simp (config := { decide := false }) only [tI20, tI21, tI30, tI31, tI32, tI40, tI41, tI42, tI43, tI50, tI51, tI52, tI53, tI54, gFd_eq, kFd_ok, gDt_eq, kDt_ok, kDt2_ok, mAugF_eq, kAf1_ok, kAf2_ok, kAf3_ok, kAf4_ok, mAugS_eq, kAs1_ok, kAs2_ok, kAs3_ok, kAs4_ok, kAs5_ok, mMe_eq, kMe2_ok, mMk_eq, mChain3_eq, kD1_ok, kD2_ok, kD3_t, kD3_f, kD4_ok, kD5_t, kD5_f, kD6_ok, bMax3_i, mGD_eq, m1_eq, k1_ok, m2_eq, k2_ok, k2'_ok, mVar0, mVarS, mC_eq, mTst_eq, mTru_eq, kTru_ok, tru_bl, tru_int, tru_non, tru_tup, mAndT_eq, kAndT_t, kAndT_f, mOrT_eq, kOrT_t, kOrT_f, mNotT_eq, kNotT_ok, mChain_eq, kC1_ok, kC2_ok, kC3_t, kC3_f, kC4_ok, mB_eq, kB_ok, mAnd_eq, kAnd_ok, kAnd2_t, kAnd2_f, mOr_eq, kOr_ok, kOr2_t, kOr2_f, mNot_eq, kNot_ok, kNot2_ok, mIfE_eq, kIfE_t, kIfE_f, mArgs_nil, mArgs_cons, kA_ok, kA2_ok, mBi_eq, kBi_ok, mTup_eq, mLst_eq, mIsi_eq, kIsi_int, kIsi_bl, kIsi_str, kIsi_non, kIsi_tup, kIsi2_ok, kb_ii, kb_ib, kb_is, kb_it, kb_il, kb_bi, kb_bb, kb_bs, kb_bt, kb_bl, kb_si, kb_sb, kb_ss, kb_st, kb_sl, kb_ni, kb_nb, kb_ns, kb_nt, kb_nl, kb_ti, kb_tb, kb_ts, kb_tt, kb_tl, kb_li, kb_lb, kb_ls, kb_lt, kb_ll, mSeq_eq, kSeq_nx, kSeq_rt, kSeq_bk, kSeq_ct, kSeq_ex, mIf_eq, kIf_t, kIf_f, kIf_ex, mAsg_eq, kAsg_ok, kAsg_ex, gN_eq, gSb_eq, kSb_ok, kSb2_ok, gsNil_eq, gsCons_eq, mSkip_eq, mBreak_eq, mCont_eq, mExpr_eq, kExpr_ok, kExpr_ex, mRet_eq, kRet_ok, kRet_ex, mRetN_eq, mPar_eq, kPar_ok, mAug_eq, kAug0_ok, kAug_ok, kAug2_ok, mRaise_eq, kRaise_ok, mFn_eq, kFn_nx, kFn_rt, kFn_ex, oAdd_i, oIAdd_i, oSub_i, oNeg_i, oLt_i, oLe_i, oGt_i, oGe_i, oEq_i, oNe_i, oEq_s, oNe_s, oEq_b, oNe_b, oIs_n, oIsN_n, oIs_b, oIsN_b, isN_int, isN_bl, isN_str, isN_tup, isN_ref, isN_non, bAbs_i, bInt_i, bInt_b, bLen_t, bMax2_i, bMin2_i, bGcd_i, atI_0, List.set_cons_zero, List.set_cons_succ, List.map_cons, List.map_nil, List.cons_append, List.nil_append, List.length_cons, List.length_nil, List.replicate, Bool.not_true, Bool.not_false, decide_true, decide_false, kLst_ok, kTup_ok, Nat.reduceAdd, Nat.reduceLeDiff, Int.reducePow, Int.reduceToNat, Int.reduceMul, Int.reduceAdd, Int.reduceSub, Int.reduceNeg, kBi_ex, kA_ex, kA2_ex, mSl_eq, kSl1_ok, kSl2_ok, kSl3_ok, oNone_eq, oSome_eq, kOS_ok, oSl_t, mTry_eq, kTry_nx, kTry_rt, kRaise_ok, kExpr_ex, kSeq_ex, kRet_ex])
local macro_rules | `(tactic| walk_at "za") => `(tactic| simp (config := { decide := false }) only [tI20, tI21, tI30, tI31, tI32, tI40, tI41, tI42, tI43, tI50, tI51, tI52, tI53, tI54, gFd_eq, kFd_ok, gDt_eq, kDt_ok, kDt2_ok, mAugF_eq, kAf1_ok, kAf2_ok, kAf3_ok, kAf4_ok, mAugS_eq, kAs1_ok, kAs2_ok, kAs3_ok, kAs4_ok, kAs5_ok, mMe_eq, kMe2_ok, mMk_eq, mChain3_eq, kD1_ok, kD2_ok, kD3_t, kD3_f, kD4_ok, kD5_t, kD5_f, kD6_ok, bMax3_i, mGD_eq, m1_eq, k1_ok, m2_eq, k2_ok, k2'_ok, mVar0, mVarS, mC_eq, mTst_eq, mTru_eq, kTru_ok, tru_bl, tru_int, tru_non, tru_tup, mAndT_eq, kAndT_t, kAndT_f, mOrT_eq, kOrT_t, kOrT_f, mNotT_eq, kNotT_ok, mChain_eq, kC1_ok, kC2_ok, kC3_t, kC3_f, kC4_ok, mB_eq, kB_ok, mAnd_eq, kAnd_ok, kAnd2_t, kAnd2_f, mOr_eq, kOr_ok, kOr2_t, kOr2_f, mNot_eq, kNot_ok, kNot2_ok, mIfE_eq, kIfE_t, kIfE_f, mArgs_nil, mArgs_cons, kA_ok, kA2_ok, mBi_eq, kBi_ok, mTup_eq, mLst_eq, mIsi_eq, kIsi_int, kIsi_bl, kIsi_str, kIsi_non, kIsi_tup, kIsi2_ok, kb_ii, kb_ib, kb_is, kb_it, kb_il, kb_bi, kb_bb, kb_bs, kb_bt, kb_bl, kb_si, kb_sb, kb_ss, kb_st, kb_sl, kb_ni, kb_nb, kb_ns, kb_nt, kb_nl, kb_ti, kb_tb, kb_ts, kb_tt, kb_tl, kb_li, kb_lb, kb_ls, kb_lt, kb_ll, mSeq_eq, kSeq_nx, kSeq_rt, kSeq_bk, kSeq_ct, kSeq_ex, mIf_eq, kIf_t, kIf_f, kIf_ex, mAsg_eq, kAsg_ok, kAsg_ex, gN_eq, gSb_eq, kSb_ok, kSb2_ok, gsNil_eq, gsCons_eq, mSkip_eq, mBreak_eq, mCont_eq, mExpr_eq, kExpr_ok, kExpr_ex, mRet_eq, kRet_ok, kRet_ex, mRetN_eq, mPar_eq, kPar_ok, mAug_eq, kAug0_ok, kAug_ok, kAug2_ok, mRaise_eq, kRaise_ok, mFn_eq, kFn_nx, kFn_rt, kFn_ex, oAdd_i, oIAdd_i, oSub_i, oNeg_i, oLt_i, oLe_i, oGt_i, oGe_i, oEq_i, oNe_i, oEq_s, oNe_s, oEq_b, oNe_b, oIs_n, oIsN_n, oIs_b, oIsN_b, isN_int, isN_bl, isN_str, isN_tup, isN_ref, isN_non, bAbs_i, bInt_i, bInt_b, bLen_t, bMax2_i, bMin2_i, bGcd_i, atI_0, List.set_cons_zero, List.set_cons_succ, List.map_cons, List.map_nil, List.cons_append, List.nil_append, List.length_cons, List.length_nil, List.replicate, Bool.not_true, Bool.not_false, decide_true, decide_false, kLst_ok, kTup_ok, Nat.reduceAdd, Nat.reduceLeDiff, Int.reducePow, Int.reduceToNat, Int.reduceMul, Int.reduceAdd, Int.reduceSub, Int.reduceNeg, kBi_ex, kA_ex, kA2_ex, mSl_eq, kSl1_ok, kSl2_ok, kSl3_ok, oNone_eq, oSome_eq, kOS_ok, oSl_t, mTry_eq, kTry_nx, kTry_rt, kRaise_ok, kExpr_ex, kSeq_ex, kRet_ex, *])
def dg (l : List Nat) : Int := l.foldl (fun (n : Int) (c : Nat) => (131 * n + c).fmod 2147483647) 7
section
variable {h h' h0 h1 : AH} {sk n k ks kp M i : Nat} {v u : A} {s : SA} {xs Z : List A} {l : List Nat} {x0 x1 x2 x3 x4 x5 : Option A} {m : ME} {w : Int}
theorem good_x : ∀ (n : Nat) (v : A), okD n v = true → okB h n v ∧ txO n v = some (tx n v)
  | n, .non, _ => by cases n <;> exact ⟨trivial, rfl⟩
  | n, .bl b, _ => by cases n <;> cases b <;> exact ⟨trivial, rfl⟩
  | n, .int i, e => by
    have e : decide (i.natAbs < 10 ^ 15) = true := by cases n <;> exact e
    have e9 : i.natAbs < 10 ^ 15 := of_decide_eq_true e
    cases n <;> exact ⟨e9, rfl⟩
  | n, .str x, e => by
    have e : decide (x ∈ strG) = true := by cases n <;> exact e
    have e := of_decide_eq_true e
    have h34 : ¬ 34 ∈ cpS x := by
      have e' := e
      unfold strG at e'
      simp only [List.mem_cons, List.not_mem_nil, or_false] at e'
      rcases e' with rfl | rfl | rfl | rfl | rfl | rfl <;> decide +kernel
    have ht : txO n (.str x) = if (34 ∈ cpS x) then none else some (34 :: cpS x ++ [34]) := by cases n <;> rfl
    rw [ht, if_neg h34]
    have : x ∈ strG ++ (["a\"b", "\""] : List Str) := List.mem_append.mpr (.inl e)
    cases n <;> exact ⟨this, rfl⟩
  | 0, .tup xs, e => by cases e
  | n + 1, .tup xs, e => by
    have e : (decide (xs.length ≤ 3) && xs.all (okD n)) = true := e
    rw [Bool.and_eq_true, List.all_eq_true, decide_eq_true_eq] at e
    refine ⟨⟨e.1, fun x hx => (good_x n x (e.2 x hx)).1⟩, ?_⟩
    show (xs.mapM (txO n)).map _ = some (40 :: itc [44] (xs.map (tx n)) ++ [41])
    have : ∀ ys : List A, (∀ x ∈ ys, okD n x = true) → ys.mapM (txO n) = some (ys.map (tx n)) := fun ys => by
      induction ys with
      | nil => intro _; rfl
      | cons y ys ih =>
        intro g
        rw [List.mapM_cons, (good_x n y (g y (by simp))).2, ih fun x hx => g x (List.mem_cons_of_mem _ hx)]
        rfl
    rw [this xs e.2]
    rfl
  | n, .ref k, e => by cases n <;> cases e
  | n, .fro k, e => by cases n <;> cases e
  | n, .fn k, e => by cases n <;> cases e
theorem dt_ok (hn : n ≤ 6) (hu : okB h n u) (e : txO n u = some l) : ∃ h', F_data_text [u] h = .ok (st l) h' ∧ ZP.Fr [] h h' := by
  obtain ⟨h1, e1, f1⟩ := text_of_ok hn hu
  unfold F_data_text m_data_text
  walk_at "zs"
  rw [e1, e, show oT (some l) = st l from rfl]
  walk_at "zs"
  rw [show (st l).isN = false from rfl]
  walk_at "zs"
  rw [require_t]
  walk_at "zs"
  exact ⟨h1, rfl, f1⟩
theorem dt_bad (hn : n ≤ 6) (hu : okB h n u) (e : txO n u = none) : ∃ h', F_data_text [u] h = .ex ⟨"BadValue", [("name", .str "data")]⟩ h' ∧ ZP.Fr [] h h' := by
  obtain ⟨h1, e1, f1⟩ := text_of_ok hn hu
  unfold F_data_text m_data_text
  walk_at "zs"
  rw [e1, e, show oT none = .non from rfl]
  walk_at "zs"
  rw [require_f]
  walk_at "zs"
  exact ⟨h1, rfl, f1⟩
theorem dg_bd : ∀ (l : List Nat) (a : Int), 0 ≤ a ∧ a < 2147483647 → 0 ≤ l.foldl (fun (n : Int) (c : Nat) => (131 * n + c).fmod 2147483647) a ∧ l.foldl (fun (n : Int) (c : Nat) => (131 * n + c).fmod 2147483647) a < 2147483647
  | [], a, h => h
  | c :: l, a, h => by
    rw [List.foldl_cons]
    exact dg_bd l _ ⟨Int.fmod_nonneg_of_pos _ (by decide), Int.fmod_lt_of_pos _ (by decide)⟩
theorem num_loop {mi : MI} (e : mi [x0, some (.int 7), x2] h = .ok (IT.str ⟨l.toArray⟩) h1) : ∃ x2', mFor mi (gN 2) (mAsg (m2 oMod (m2 oAdd (m2 oMul (mC (.int 131)) (mVar 1)) (mBi bOrd [(mVar 2)])) (mC (.int 2147483647))) (gN 1)) [x0, some (.int 7), x2] h = .nx [x0, some (.int (dg l)), x2'] h1 := by
  have wk := wk_str (z := ⟨l.toArray⟩)
  have ls : (⟨l.toArray⟩ : Str).cps.size = l.length := by rw [List.size_toArray]
  rw [ls] at wk
  obtain ⟨s', h', e2, x2', rfl, rfl⟩ := for_run (g := gN 2) (b := (mAsg (m2 oMod (m2 oAdd (m2 oMul (mC (.int 131)) (mVar 1)) (mBi bOrd [(mVar 2)])) (mC (.int 2147483647))) (gN 1)))
    (fun i s h' => ∃ x2', s = [x0, some (.int (dg (l.take i))), x2'] ∧ h' = h1) e wk (fun _ _ _ _ => trivial) ⟨x2, rfl, rfl⟩ (fun i s h2 hi q => by
      obtain ⟨x2', rfl, rfl⟩ := q
      have b := dg_bd (l.take i) 7 (by decide)
      have tk : dg (l.take (i + 1)) = (131 * dg (l.take i) + ((l[i] : Nat) : Int)).fmod 2147483647 := by
        unfold dg
        rw [show l.take (i + 1) = l.take i ++ [l[i]] by simp, List.foldl_append]
        rfl
      have gt : ((⟨l.toArray⟩ : Str).cps[i]?).getD 0 = l[i] := by simp [hi]
      rw [gt]
      have bd : 0 ≤ dg (l.take i) ∧ dg (l.take i) < 2147483647 := b
      walk_at "zs"
      rw [mu (by decide) (by omega)]
      walk_at "zs"
      rw [bOrd_1]
      walk_at "zs"
      rw [show ∀ a h, oMod (.int a) (.int 2147483647) h = .ok (.int (a.fmod 2147483647)) h from fun a h => rfl]
      walk_at "zs"
      exact ⟨_, _, rfl, _, by rw [tk], rfl⟩)
  rw [List.take_of_length_le (Nat.le_refl _)] at e2
  exact ⟨x2', e2⟩
theorem number_ok : F__law_number [st l] h = .ok (.int (dg l)) h := by
  unfold F__law_number m__law_number
  walk_at "zs"
  obtain ⟨x2', e⟩ := num_loop (l := l) (x0 := some (st l)) (x2 := none) (h := h) (h1 := h) (mi := mItS (mVar 0)) (itS_ok (by walk_at "zs"; rfl))
  rw [e]
  walk_at "zs"
  unfold m__law_number_r2
  walk_at "zs"
theorem digest_ok (hn : n ≤ 6) (hu : okB h n u) (e : txO n u = some l) : ∃ h', F_digest [u] h = .ok (.int (dg l)) h' ∧ ZP.Fr [] h h' := by
  obtain ⟨h1, e1, f1⟩ := dt_ok hn hu e
  unfold F_digest m_digest
  walk_at "zs"
  obtain ⟨x2', e2⟩ := num_loop (l := l) (x0 := some u) (x2 := none) (h := h) (h1 := h1) (mi := mItS (mBi F_data_text [(mVar 0)])) (itS_ok (by walk_at "zs"; exact e1))
  rw [e2]
  walk_at "zs"
  unfold m_digest_r2
  walk_at "zs"
  exact ⟨h1, rfl, f1⟩
theorem refused_ok (hw : w = 0 ∨ w = 1) (hn : n ≤ 6) (hu : okB h n u) (e : txO n u = none) : ∃ h', F__law_refused [.int w, u] h = .ok (.str "data") h' ∧ ZP.Fr [] h h' := by
  obtain ⟨h1, e1, f1⟩ := dt_bad hn hu e
  have q2 : F_digest [u] h = .ex ⟨"BadValue", [("name", .str "data")]⟩ h1 := by
    unfold F_digest m_digest
    walk_at "zs"
    unfold mFor mItS
    walk_at "zs"
    rw [e1]
    rfl
  refine ⟨h1, ?_, f1⟩
  unfold F__law_refused m__law_refused
  rcases hw with rfl | rfl
  · repeat (first | walk_at "zs" | rw [e1] | simp only [show decide ((0 : Int) = 0) = true from rfl] | rw [kTry_ex (by simp)])
    rfl
  · repeat (first | walk_at "zs" | rw [q2] | simp only [show decide ((1 : Int) = 0) = false from rfl] | rw [kTry_ex (by simp)])
    rfl
end
end law_k60

namespace law_k60
open PySem PySem.Spec PyProof.Rows L2 Z ZP ZN ZC ZK ZO LP
open ZL (F_is_whole F_require F_is_between F_is_coordinate F__law_next F__law_stream F__law_is_integer F__law_equal)
local macro_rules | `(tactic| walk_at "zs") => `(tactic| simp (config := { decide := false }) only [tI20, tI21, tI30, tI31, tI32, tI40, tI41, tI42, tI43, tI50, tI51, tI52, tI53, tI54, gFd_eq, kFd_ok, gDt_eq, kDt_ok, kDt2_ok, mAugF_eq, kAf1_ok, kAf2_ok, kAf3_ok, kAf4_ok, mAugS_eq, kAs1_ok, kAs2_ok, kAs3_ok, kAs4_ok, kAs5_ok, mMe_eq, kMe2_ok, mMk_eq, mChain3_eq, kD1_ok, kD2_ok, kD3_t, kD3_f, kD4_ok, kD5_t, kD5_f, kD6_ok, bMax3_i, mGD_eq, m1_eq, k1_ok, m2_eq, k2_ok, k2'_ok, mVar0, mVarS, mC_eq, mTst_eq, mTru_eq, kTru_ok, tru_bl, tru_int, tru_non, tru_tup, mAndT_eq, kAndT_t, kAndT_f, mOrT_eq, kOrT_t, kOrT_f, mNotT_eq, kNotT_ok, mChain_eq, kC1_ok, kC2_ok, kC3_t, kC3_f, kC4_ok, mB_eq, kB_ok, mAnd_eq, kAnd_ok, kAnd2_t, kAnd2_f, mOr_eq, kOr_ok, kOr2_t, kOr2_f, mNot_eq, kNot_ok, kNot2_ok, mIfE_eq, kIfE_t, kIfE_f, mArgs_nil, mArgs_cons, kA_ok, kA2_ok, mBi_eq, kBi_ok, mTup_eq, mLst_eq, mIsi_eq, kIsi_int, kIsi_bl, kIsi_str, kIsi_non, kIsi_tup, kIsi2_ok, kb_ii, kb_ib, kb_is, kb_it, kb_il, kb_bi, kb_bb, kb_bs, kb_bt, kb_bl, kb_si, kb_sb, kb_ss, kb_st, kb_sl, kb_ni, kb_nb, kb_ns, kb_nt, kb_nl, kb_ti, kb_tb, kb_ts, kb_tt, kb_tl, kb_li, kb_lb, kb_ls, kb_lt, kb_ll, mSeq_eq, kSeq_nx, kSeq_rt, kSeq_bk, kSeq_ct, kSeq_ex, mIf_eq, kIf_t, kIf_f, kIf_ex, mAsg_eq, kAsg_ok, kAsg_ex, gN_eq, gSb_eq, kSb_ok, kSb2_ok, gsNil_eq, gsCons_eq, mSkip_eq, mBreak_eq, mCont_eq, mExpr_eq, kExpr_ok, kExpr_ex, mRet_eq, kRet_ok, kRet_ex, mRetN_eq, mPar_eq, kPar_ok, mAug_eq, kAug0_ok, kAug_ok, kAug2_ok, mRaise_eq, kRaise_ok, mFn_eq, kFn_nx, kFn_rt, kFn_ex, oAdd_i, oIAdd_i, oSub_i, oNeg_i, oLt_i, oLe_i, oGt_i, oGe_i, oEq_i, oNe_i, oEq_s, oNe_s, oEq_b, oNe_b, oIs_n, oIsN_n, oIs_b, oIsN_b, isN_int, isN_bl, isN_str, isN_tup, isN_ref, isN_non, bAbs_i, bInt_i, bInt_b, bLen_t, bMax2_i, bMin2_i, bGcd_i, atI_0, List.set_cons_zero, List.set_cons_succ, List.map_cons, List.map_nil, List.cons_append, List.nil_append, List.length_cons, List.length_nil, List.replicate, Bool.not_true, Bool.not_false, decide_true, decide_false, kLst_ok, kTup_ok, Nat.reduceAdd, Nat.reduceLeDiff, Int.reducePow, Int.reduceToNat, Int.reduceMul, Int.reduceAdd, Int.reduceSub, Int.reduceNeg, kBi_ex, kA_ex, kA2_ex, mSl_eq, kSl1_ok, kSl2_ok, kSl3_ok, oNone_eq, oSome_eq, kOS_ok, oSl_t, mTry_eq, kTry_nx, kTry_rt, kRaise_ok, kExpr_ex, kSeq_ex, kRet_ex])
local macro_rules | `(tactic| walk_at "za") => `(tactic| simp (config := { decide := false }) only [tI20, tI21, tI30, tI31, tI32, tI40, tI41, tI42, tI43, tI50, tI51, tI52, tI53, tI54, gFd_eq, kFd_ok, gDt_eq, kDt_ok, kDt2_ok, mAugF_eq, kAf1_ok, kAf2_ok, kAf3_ok, kAf4_ok, mAugS_eq, kAs1_ok, kAs2_ok, kAs3_ok, kAs4_ok, kAs5_ok, mMe_eq, kMe2_ok, mMk_eq, mChain3_eq, kD1_ok, kD2_ok, kD3_t, kD3_f, kD4_ok, kD5_t, kD5_f, kD6_ok, bMax3_i, mGD_eq, m1_eq, k1_ok, m2_eq, k2_ok, k2'_ok, mVar0, mVarS, mC_eq, mTst_eq, mTru_eq, kTru_ok, tru_bl, tru_int, tru_non, tru_tup, mAndT_eq, kAndT_t, kAndT_f, mOrT_eq, kOrT_t, kOrT_f, mNotT_eq, kNotT_ok, mChain_eq, kC1_ok, kC2_ok, kC3_t, kC3_f, kC4_ok, mB_eq, kB_ok, mAnd_eq, kAnd_ok, kAnd2_t, kAnd2_f, mOr_eq, kOr_ok, kOr2_t, kOr2_f, mNot_eq, kNot_ok, kNot2_ok, mIfE_eq, kIfE_t, kIfE_f, mArgs_nil, mArgs_cons, kA_ok, kA2_ok, mBi_eq, kBi_ok, mTup_eq, mLst_eq, mIsi_eq, kIsi_int, kIsi_bl, kIsi_str, kIsi_non, kIsi_tup, kIsi2_ok, kb_ii, kb_ib, kb_is, kb_it, kb_il, kb_bi, kb_bb, kb_bs, kb_bt, kb_bl, kb_si, kb_sb, kb_ss, kb_st, kb_sl, kb_ni, kb_nb, kb_ns, kb_nt, kb_nl, kb_ti, kb_tb, kb_ts, kb_tt, kb_tl, kb_li, kb_lb, kb_ls, kb_lt, kb_ll, mSeq_eq, kSeq_nx, kSeq_rt, kSeq_bk, kSeq_ct, kSeq_ex, mIf_eq, kIf_t, kIf_f, kIf_ex, mAsg_eq, kAsg_ok, kAsg_ex, gN_eq, gSb_eq, kSb_ok, kSb2_ok, gsNil_eq, gsCons_eq, mSkip_eq, mBreak_eq, mCont_eq, mExpr_eq, kExpr_ok, kExpr_ex, mRet_eq, kRet_ok, kRet_ex, mRetN_eq, mPar_eq, kPar_ok, mAug_eq, kAug0_ok, kAug_ok, kAug2_ok, mRaise_eq, kRaise_ok, mFn_eq, kFn_nx, kFn_rt, kFn_ex, oAdd_i, oIAdd_i, oSub_i, oNeg_i, oLt_i, oLe_i, oGt_i, oGe_i, oEq_i, oNe_i, oEq_s, oNe_s, oEq_b, oNe_b, oIs_n, oIsN_n, oIs_b, oIsN_b, isN_int, isN_bl, isN_str, isN_tup, isN_ref, isN_non, bAbs_i, bInt_i, bInt_b, bLen_t, bMax2_i, bMin2_i, bGcd_i, atI_0, List.set_cons_zero, List.set_cons_succ, List.map_cons, List.map_nil, List.cons_append, List.nil_append, List.length_cons, List.length_nil, List.replicate, Bool.not_true, Bool.not_false, decide_true, decide_false, kLst_ok, kTup_ok, Nat.reduceAdd, Nat.reduceLeDiff, Int.reducePow, Int.reduceToNat, Int.reduceMul, Int.reduceAdd, Int.reduceSub, Int.reduceNeg, kBi_ex, kA_ex, kA2_ex, mSl_eq, kSl1_ok, kSl2_ok, kSl3_ok, oNone_eq, oSome_eq, kOS_ok, oSl_t, mTry_eq, kTry_nx, kTry_rt, kRaise_ok, kExpr_ex, kSeq_ex, kRet_ex, *])
section
variable {h h' h0 h1 : AH} {sk n k : Nat} {v u : A}
theorem st_inj {a b : List Nat} (e : st a = st b) : a = b := by
  unfold st at e
  injection e with e
  injection e with e
  injection e
theorem eq_st {a b : List Nat} : oEq (st a) (st b) h = .ok (.bl (decide (a = b))) h := by
  show Rs.ok (A.bl (decide ((⟨a.toArray⟩ : Str) = ⟨b.toArray⟩))) h = _
  congr 2
  rw [decide_eq_decide]
  constructor
  · intro e
    exact st_inj (by unfold st; rw [e])
  · intro e; rw [e]
theorem ne_st {a : List Nat} : oNe (st a) (st a) h = .ok (.bl false) h := by
  show Rs.ok (A.bl (!decide ((⟨a.toArray⟩ : Str) = ⟨a.toArray⟩))) h = _
  rw [decide_eq_true rfl]
  rfl
theorem none_ref (n : Nat) (k : Nat) : txO n (.ref k) = none := by cases n <;> rfl
theorem r8_ok (S : Strm h sk) (gd : okD 5 v = true) {x0 x3 x4 x5 : Option A} : ∃ h', m_law_r8 [x0, some (.ref sk), some v, x3, x4, x5, none] h = .rt (.bl true) h' := by
  unfold m_law_r8
  walk_at "zs"
  have fA : ZP.Fr [] h (h ++ [AO.lst [v]]) := ZP.Fr.push _
  have nA : (h ++ [AO.lst [v]])[h.length]? = some (.lst [v]) := new_at _ _
  generalize h ++ [AO.lst [v]] = hA at *
  have fB : ZP.Fr [] hA (hA ++ [AO.lst [.int 2]]) := ZP.Fr.push _
  have nB : (hA ++ [AO.lst [.int 2]])[hA.length]? = some (.lst [.int 2]) := new_at _ _
  generalize hA ++ [AO.lst [.int 2]] = hB at *
  have fC : ZP.Fr [] hB (hB ++ [AO.lst []]) := ZP.Fr.push _
  have nC : (hB ++ [AO.lst []])[hB.length]? = some (.lst []) := new_at _ _
  generalize hB ++ [AO.lst []] = hC at *
  have fD : ZP.Fr [] hC (hC ++ [AO.lst [.ref h.length, .tup [.int 1, .ref hA.length], .str "a\"b", .tup [.tup [.str "\""]], .tup [v, .ref hB.length, .int 3]]]) := ZP.Fr.push _
  have nD : (hC ++ [AO.lst [.ref h.length, .tup [.int 1, .ref hA.length], .str "a\"b", .tup [.tup [.str "\""]], .tup [v, .ref hB.length, .int 3]]])[hC.length]? = some (.lst [.ref h.length, .tup [.int 1, .ref hA.length], .str "a\"b", .tup [.tup [.str "\""]], .tup [v, .ref hB.length, .int 3]]) := new_at _ _
  have SD := (((S.fr fA).fr fB).fr fC).fr fD
  have slt := S.lt
  have a1 := ((fB.trans fC).trans fD).at nA (by simp)
  have a2 := (fC.trans fD).at nB (by simp)
  have a3 := fD.at nC (by simp)
  have l1 := fA.le
  have l2 := fB.le
  have l3 := fC.le
  generalize hC ++ [AO.lst [.ref h.length, .tup [.int 1, .ref hA.length], .str "a\"b", .tup [.tup [.str "\""]], .tup [v, .ref hB.length, .int 3]]] = hD at *
  generalize hr : k2' oIx _ _ = q
  obtain ⟨u, hE, rfl, hu, SE, fE⟩ := pick_in hr SD nD (by omega) rfl (by decide) (by decide)
  clear hr
  have b1 := fE.at a1 (by simp; omega)
  have b2 := fE.at a2 (by simp; omega)
  have b3 := fE.at a3 (by simp; omega)
  walk_at "zs"
  have bad : ∀ h', ZP.Fr [] hE h' → okB h' 6 u ∧ txO 6 u = none := fun h' f => by
    have c1 := f.at b1 (by simp)
    have c2 := f.at b2 (by simp)
    have c3 := f.at b3 (by simp)
    simp only [List.mem_cons, List.not_mem_nil, or_false] at hu
    rcases hu with rfl | rfl | rfl | rfl | rfl
    · exact ⟨⟨_, c1⟩, rfl⟩
    · refine ⟨⟨by simp, fun x hx => ?_⟩, rfl⟩
      simp only [List.mem_cons, List.not_mem_nil, or_false] at hx
      rcases hx with rfl | rfl
      · show (1 : Int).natAbs < 10 ^ 15; decide
      · exact ⟨_, c2⟩
    · refine ⟨?_, by decide +kernel⟩
      show ("a\"b" : Str) ∈ strG ++ (["a\"b", "\""] : List Str)
      simp
    · refine ⟨⟨by simp, fun x hx => ?_⟩, by decide +kernel⟩
      rw [List.mem_singleton.mp hx]
      refine ⟨by simp, fun y hy => ?_⟩
      rw [List.mem_singleton.mp hy]
      show ("\"" : Str) ∈ strG ++ (["a\"b", "\""] : List Str)
      simp
    · obtain ⟨ob, ox⟩ := good_x (h := h') 5 v gd
      refine ⟨⟨by simp, fun x hx => ?_⟩, ?_⟩
      · simp only [List.mem_cons, List.not_mem_nil, or_false] at hx
        rcases hx with rfl | rfl | rfl
        · exact ob
        · exact ⟨_, c3⟩
        · show (3 : Int).natAbs < 10 ^ 15; decide
      · show (([v, .ref hB.length, .int 3] : List A).mapM (txO 5)).map _ = none
        rw [List.mapM_cons, List.mapM_cons, ox]
        rfl
  obtain ⟨h5, e5, f5⟩ := refused_ok (w := 0) (n := 6) (.inl rfl) (by decide) (bad hE (ZP.Fr.refl _ _)).1 (bad hE (ZP.Fr.refl _ _)).2
  rw [e5]
  walk_at "zs"
  obtain ⟨h6, e6, f6⟩ := refused_ok (w := 1) (n := 6) (.inr rfl) (by decide) (bad h5 f5).1 (bad h5 f5).2
  rw [e6]
  walk_at "zs"
  exact ⟨_, rfl⟩
theorem law_holds : LawM F_law := by
  intro v ah ns hl hb hv
  obtain ⟨ah1, e1, f1, S1⟩ := stream_ok hv hl
  unfold F_law m_law
  generalize List.length ah + 1 = sk at *
  simp only [mFn_eq]
  walk_at "zs"
  simp only [e1]
  walk_at "zs"
  obtain ⟨d, h2, e2, g2, S2, f2⟩ := data_ok (sk := sk) 5 0 ah1 (by omega) S1
  rw [show F__law_data [.ref sk, .int 0] ah1 = .ok d h2 from e2]
  walk_at "zs"
  obtain ⟨h3, e3, f3⟩ := text_ok 5 d h2 (by decide) g2
  rw [show F__law_text [d] h2 = .ok (st (tx 5 d)) h3 from e3]
  walk_at "zs"
  obtain ⟨ob, ox⟩ := good_x (h := h3) 5 d g2
  obtain ⟨h4, e4, f4⟩ := dt_ok (n := 5) (by decide) ob ox
  rw [e4]
  walk_at "zs"
  rw [ne_st]
  walk_at "zs"
  unfold m_law_r4
  walk_at "zs"
  obtain ⟨h5, e5, f5⟩ := digest_ok (n := 5) (h := h4) (by decide) (good_x 5 d g2).1 ox
  rw [e5]
  walk_at "zs"
  rw [show ∀ (i : Int) h, F__law_is_integer [.int i] h = .ok (.bl true) h from fun i h => rfl]
  walk_at "zs"
  rw [number_ok]
  walk_at "zs"
  unfold m_law_r6
  walk_at "zs"
  have S5 := (((S2.fr f3).fr f4).fr f5)
  obtain ⟨d2, h6, e6, g6, S6, f6⟩ := data_ok (sk := sk) 5 0 h5 (by omega) S5
  rw [show F__law_data [.ref sk, .int 0] h5 = .ok d2 h6 from e6]
  walk_at "zs"
  obtain ⟨ob2, ox2⟩ := good_x (h := h6) 5 d2 g6
  obtain ⟨h7, e7, f7⟩ := dt_ok (n := 5) (by decide) ob2 ox2
  rw [e7]
  walk_at "zs"
  rw [eq_st]
  walk_at "zs"
  obtain ⟨h8, e8, f8⟩ := text_ok 5 d2 h7 (by decide) g6
  rw [show F__law_text [d2] h7 = .ok (st (tx 5 d2)) h8 from e8]
  walk_at "zs"
  rw [eq_st]
  walk_at "zs"
  have S8 := (S6.fr f7).fr f8
  obtain ⟨h', e⟩ := r8_ok (h := h8) (x0 := some v) (x3 := some (st (tx 5 d))) (x4 := some (.int (dg (tx 5 d)))) (x5 := some d2) S8 g2
  rw [e]
  walk_at "zs"
  exact ⟨_, rfl⟩
end
end law_k60

open PySem PySem.W PySem.Calls PyProof.Rows
set_option maxHeartbeats 0 in
theorem PySem.Challenge.cw_alikeplay_k60_texts_and_digests_holds : PySem.Challenge.rw_alikeplay_k60_texts_and_digests.Holds := by
  w_on; o_law
  refine HandSHeadRun.head_any (r := OpenLaw.row PySem.Challenge.rw_alikeplay_k60_texts_and_digests) (q := view (OpenLaw.row PySem.Challenge.rw_alikeplay_k60_texts_and_digests).prog [26]) (H := law_k60.hk) (ob := law_k60.ob) (M := 3000) (loose := law_k60.loose) (d := HandSHeadRun.topDef (OpenLaw.row PySem.Challenge.rw_alikeplay_k60_texts_and_digests).prog 26) (kwd := []) law_k60.ob_eq
    (by kernel_rfl) (fun s => by kernel_rfl) law_k60.run (by kernel_rfl) (by kernel_rfl) (by kernel_rfl) (by rfl) (by first | assumption | decide +kernel) (by decide +kernel) ⟨rfl, rfl, rfl, rfl, rfl, by decide +kernel⟩ ?hw ?hc
  case hw => w_witness2
  case hc =>
    refine LamX.walk_ofTsE (l := PySem.Challenge.rw_alikeplay_k60_texts_and_digests) (n := 63) (k := 8) (x := "script") (CX := fun w => L2.CX PySem.Challenge.rw_alikeplay_k60_texts_and_digests.prog w) rfl (by decide) (by kernel_rfl) ⟨rfl, by decide, by decide⟩ ?F (fun w H s e s' => Z.cx_end H s e s')
    intro w mg fa h Y G hmg0
    obtain ⟨K, KX, c⟩ := Y
    have hmg : mg ("law" : PySem.Str) = some (.ref fa) := by
      have e : (HandSHeadRun.topDef (OpenLaw.row PySem.Challenge.rw_alikeplay_k60_texts_and_digests).prog 26).name = ("law" : PySem.Str) := by kernel_rfl
      rw [← e]
      exact hmg0
    exact ⟨K, KX, law_k60.all_mk law_k60.law_holds KX G hmg c⟩

