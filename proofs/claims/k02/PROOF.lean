import PyProof.Rows.All
import Wide.All
import OpenK.AllK
import Wide.FinOn
import HandS.ForMost
import HandS.TupAny
import HandS.Style
import HandS.Evl
import HandS.Deep
import HandS.RevRange
import HandS.SortKw
import HandS.TupMul
import HandS.IsInst
import KE.SortKeyHeap
import KE.GoesEnum
import HandS.Exc
import HandS.GenOver
import HandS.GenBody
import HandS.GenYield
import HandS.GenCall
import HandS.GenList
import HandS.Conv
import KE.GoesMore
import HandS.RaiseMore
import PySem.Challenge.RW_graftrules_k02_parts_and_places
set_option Elab.async false
set_option linter.all false
set_option maxRecDepth 100000
set_option maxHeartbeats 4000000
/-! # A layer of my own: what expressions and statements give, told by plain data (PyData), no address in sight -/
namespace Dn
open PySem L2 Evl
abbrev Frag := PySem.W.Frag
abbrev Ad := Addr → Prop
/-- what of H is seen where the addresses in S are hidden -/
noncomputable def off (S : Ad) (H : Hp) : Hp := fun a => @ite _ (S a) (Classical.propDecidable _) none (H a)
theorem off_ne {S : Ad} {H : Hp} {a : Addr} (h : ¬ S a) : off S H a = H a := by unfold off; rw [if_neg h]
theorem off_in {S : Ad} {H : Hp} {a : Addr} (h : S a) : off S H a = none := by unfold off; rw [if_pos h]
theorem off_some {S : Ad} {H : Hp} {a : Addr} {o : HO} (h : off S H a = some o) : ¬ S a ∧ H a = some o := by
  by_cases q : S a
  · rw [off_in q] at h; cases h
  · rw [off_ne q] at h; exact ⟨q, h⟩
theorem off_less {S T : Ad} {H : Hp} (h : ∀ a, S a → T a) : Ex (off T H) (off S H) := fun a o e => by
  obtain ⟨n, e⟩ := off_some e
  rw [off_ne fun q => n (h a q)]; exact e
theorem off_full {S : Ad} {H : Hp} : Ex (off S H) H := fun a o e => (off_some e).2
theorem off_ex {S fd : Ad} {H H' : Hp} (hs : ∀ a, fd a → S a) (h : ∀ a o, ¬ fd a → H a = some o → H' a = some o) : Ex (off S H) (off S H') := fun a o e => by
  obtain ⟨n, e⟩ := off_some e
  rw [off_ne n]; exact h a o (fun q => n (hs a q)) e
theorem off_exE {S : Ad} {H H' : Hp} (h : Ex H H') : Ex (off S H) (off S H') := fun a o e => by
  obtain ⟨n, e⟩ := off_some e
  rw [off_ne n]; exact h a o e

/-! ## data: an instance of a class at C is told as a dict whose first pair is (None, C) -/
mutual
inductive Dr (K : Frag) (H : Hp) : V → PyData → Prop
  | non : Dr K H .non .none
  | bl (b : Bool) : Dr K H (.bl b) (.bool b)
  | int (i : Int) : Dr K H (.int i) (.int i)
  | str (x : Str) : Dr K H (.str x) (.str x)
  | lst {a : Addr} {xs : List V} {ds : List PyData} : H a = some (.lst xs) → DrAll K H xs ds → Dr K H (.ref a) (.list ds)
  | tup {a : Addr} {xs : List V} {ds : List PyData} : SqT K H a xs → DrAll K H xs ds → Dr K H (.ref a) (.tuple ds)
  | ins {a C dx : Addr} {fs : List (Str × V)} {kvs : List (PyData × PyData)} : H a = some (.ins C dx fs) → DrFs K H fs kvs → Dr K H (.ref a) (.dict ((.none, .int (C : Int)) :: kvs))
  /-- a list handed in, that nobody changes -/
  | giv {a : Addr} {xs : List V} {ds : List PyData} : SqL K H a xs → DrAll K H xs ds → Dr K H (.ref a) (.dict [(.bool true, .list ds)])
  /-- a dict whose keys are texts -/
  | dct {a : Addr} {fs : List (Str × V)} {kvs : List (PyData × PyData)} : H a = some (.dK (fs.map fun p => (Sum.inr p.1, p.2))) → DrFs K H fs kvs → Dr K H (.ref a) (.dict kvs)
inductive DrAll (K : Frag) (H : Hp) : List V → List PyData → Prop
  | nil : DrAll K H [] []
  | cons {v : V} {vs : List V} {d : PyData} {ds : List PyData} : Dr K H v d → DrAll K H vs ds → DrAll K H (v :: vs) (d :: ds)
inductive DrFs (K : Frag) (H : Hp) : List (Str × V) → List (PyData × PyData) → Prop
  | nil : DrFs K H [] []
  | cons {f : Str} {v : V} {fs : List (Str × V)} {d : PyData} {kvs : List (PyData × PyData)} : Dr K H v d → DrFs K H fs kvs → DrFs K H ((f, v) :: fs) ((.str f, d) :: kvs)
end
section
variable {K : Frag} {G G' : Hp}
theorem dmono (e : Ex G G') {d : PyData} {v : V} (h : Dr K G v d) : Dr K G' v d :=
  Dr.rec (motive_1 := fun v d _ => Dr K G' v d) (motive_2 := fun vs ds _ => DrAll K G' vs ds) (motive_3 := fun fs kvs _ => DrFs K G' fs kvs)
    .non .bl .int .str (fun h _ r => .lst (e _ _ h) r) (fun h _ r => .tup (ex_t e h) r) (fun h _ r => .ins (e _ _ h) r) (fun h _ r => .giv (ex_l e h) r) (fun h _ r => .dct (e _ _ h) r) .nil (fun _ _ a b => .cons a b) .nil (fun _ _ a b => .cons a b) h
theorem dmonoAll (e : Ex G G') {ds : List PyData} {vs : List V} (h : DrAll K G vs ds) : DrAll K G' vs ds :=
  DrAll.rec (motive_1 := fun v d _ => Dr K G' v d) (motive_2 := fun vs ds _ => DrAll K G' vs ds) (motive_3 := fun fs kvs _ => DrFs K G' fs kvs)
    .non .bl .int .str (fun h _ r => .lst (e _ _ h) r) (fun h _ r => .tup (ex_t e h) r) (fun h _ r => .ins (e _ _ h) r) (fun h _ r => .giv (ex_l e h) r) (fun h _ r => .dct (e _ _ h) r) .nil (fun _ _ a b => .cons a b) .nil (fun _ _ a b => .cons a b) h
mutual
def plain : PyData → Bool
  | .list ds => plainAll ds
  | .tuple ds => plainAll ds
  | .dict _ => false
  | _ => true
def plainAll : List PyData → Bool
  | [] => true
  | d :: ds => plain d && plainAll ds
end
theorem toDp {d : PyData} {v : V} (h : Dr K G v d) : plain d = true → Dp K G v d :=
  Dr.rec (motive_1 := fun v d _ => plain d = true → Dp K G v d) (motive_2 := fun vs ds _ => plainAll ds = true → DpAll K G vs ds) (motive_3 := fun _ _ _ => True)
    (fun _ => .non) (fun b _ => .bl b) (fun i _ => .int i) (fun x _ => .str x) (fun h _ r p => .lst (sq_of h) (r (by simpa [plain] using p))) (fun h _ r p => .tup h (r (by simpa [plain] using p))) (fun _ _ _ p => by simp [plain] at p) (fun _ _ _ p => by simp [plain] at p) (fun _ _ _ p => by simp [plain] at p)
    (fun _ => .nil) (fun _ _ a b p => by
      rw [plainAll, Bool.and_eq_true] at p
      exact .cons (a p.1) (b p.2)) True.intro (fun _ _ _ _ => True.intro) h
end
def flat : PyData → Bool
  | .none | .bool _ | .int _ | .str _ => true
  | _ => false
theorem dflat {K : Frag} {G G' : Hp} {v : V} {d : PyData} (f : flat d = true) (h : Dr K G v d) : Dr K G' v d := by
  cases h with
  | non => exact .non
  | bl b => exact .bl _
  | int i => exact .int _
  | str x => exact .str _
  | lst _ _ => cases f
  | tup _ _ => cases f
  | ins _ _ => cases f
  | giv _ _ => cases f
  | dct _ _ => cases f
section
variable {K : Frag} {G : Hp}
theorem all_len : ∀ {vs : List V} {ds : List PyData}, DrAll K G vs ds → vs.length = ds.length
  | _, [], h => by cases h; rfl
  | _, d :: ds, h => by
    cases h with
    | cons a b => show _ + 1 = _ + 1; rw [all_len b]
theorem all_get : ∀ {vs : List V} {ds : List PyData} {i : Nat} {d : PyData}, DrAll K G vs ds → ds[i]? = some d → ∃ v, vs[i]? = some v ∧ Dr K G v d
  | _, [], _, _, _, e => by simp at e
  | _, d :: ds, i, d', h, e => by
    cases h with
    | cons a b =>
      cases i with
      | zero => simp at e; subst e; exact ⟨_, rfl, a⟩
      | succ i =>
        obtain ⟨v, h1, h2⟩ := all_get (i := i) b (by simpa using e)
        exact ⟨v, by simpa using h1, h2⟩
theorem all_get' : ∀ {vs : List V} {ds : List PyData} {i : Nat} {v : V}, DrAll K G vs ds → vs[i]? = some v → ∃ d, ds[i]? = some d ∧ Dr K G v d := fun {vs ds i v} h e => by
  have hl := all_len h
  have hi : i < vs.length := (List.getElem?_eq_some_iff.mp e).1
  obtain ⟨w, h1, h2⟩ := all_get (i := i) (d := ds[i]'(hl ▸ hi)) h (List.getElem?_eq_getElem _)
  rw [e] at h1; cases h1
  exact ⟨_, List.getElem?_eq_getElem _, h2⟩
theorem all_app : ∀ {vs ws : List V} {ds es : List PyData}, DrAll K G vs ds → DrAll K G ws es → DrAll K G (vs ++ ws) (ds ++ es)
  | _, _, [], _, h, q => by cases h; exact q
  | _, _, d :: ds, es, h, q => by
    cases h with
    | cons a b => exact .cons a (all_app b q)
theorem all_one {v : V} {d : PyData} (h : Dr K G v d) : DrAll K G [v] [d] := .cons h .nil
theorem all_take : ∀ {vs : List V} {ds : List PyData} (n : Nat), DrAll K G vs ds → DrAll K G (vs.take n) (ds.take n)
  | _, [], n, h => by cases h; simp; exact .nil
  | _, d :: ds, 0, h => by simp; exact .nil
  | _, d :: ds, n + 1, h => by
    cases h with
    | cons a b => exact .cons a (all_take n b)
theorem all_drop : ∀ {vs : List V} {ds : List PyData} (n : Nat), DrAll K G vs ds → DrAll K G (vs.drop n) (ds.drop n)
  | _, [], n, h => by cases h; simp; exact .nil
  | _, d :: ds, 0, h => h
  | _, d :: ds, n + 1, h => by
    cases h with
    | cons a b => exact all_drop n b
theorem all_ints : ∀ {vs : List V} {ns : List Int}, DrAll K G vs (ns.map .int) → vs = ns.map V.int
  | _, [], h => by cases h; rfl
  | _, n :: ns, h => by
    cases h with
    | cons a b => cases a; rw [all_ints b]; rfl
theorem ints_all : ∀ (ns : List Int), DrAll K G (ns.map V.int) (ns.map .int)
  | [] => .nil
  | n :: ns => .cons (.int n) (ints_all ns)
theorem all_bools : ∀ {vs : List V} {ns : List Bool}, DrAll K G vs (ns.map .bool) → vs = ns.map V.bl
  | _, [], h => by cases h; rfl
  | _, n :: ns, h => by
    cases h with
    | cons a b => cases a; rw [all_bools b]; rfl
theorem all_strs : ∀ {vs : List V} {ns : List Str}, DrAll K G vs (ns.map .str) → vs = ns.map V.str
  | _, [], h => by cases h; rfl
  | _, n :: ns, h => by
    cases h with
    | cons a b => cases a; rw [all_strs b]; rfl
end
/-- xs[lo:hi] of any list -/
def cut {α : Type} (xs : List α) (lo hi : Option Int) : List α := (xs.drop (HT.sIx xs.length 0 lo)).take (HT.sIx xs.length xs.length hi - HT.sIx xs.length 0 lo)
theorem all_cut {K : Frag} {G : Hp} {vs : List V} {ds : List PyData} (h : DrAll K G vs ds) (lo hi : Option Int) : DrAll K G (cutV vs lo hi) (cut ds lo hi) := by
  unfold cut cutV
  rw [all_len h]
  exact all_take _ (all_drop _ h)
theorem all_at {K : Frag} {G : Hp} {vs : List V} {ds : List PyData} {i : Int} {d : PyData} (h : DrAll K G vs ds) (e : atI ds i = some d) : ∃ v, atI vs i = some v ∧ Dr K G v d := by
  unfold atI at e ⊢
  rw [all_len h]
  cases q : ixN ds.length i with
  | none => rw [q] at e; cases e
  | some j =>
    rw [q] at e
    exact all_get h e

/-! ## slots -/
inductive Sl where
  | no
  | dat (d : PyData)
  | own (p : Addr) (ds : List PyData)
  | fed (f : Addr)
  | raw (v : V)
/-- the feed: two whole numbers -/
def Feed (fd : Ad) (H : Hp) : Prop := ∀ f, fd f → ∃ d m : Int, H f = some (.lst [.int d, .int m]) ∧ 0 ≤ d ∧ 0 ≤ m ∧ m < 4294967311
theorem Feed.ex {fd : Ad} {H H' : Hp} (h : Feed fd H) (e : Ex H H') : Feed fd H' := fun f q => by
  obtain ⟨d, m, h1, h2⟩ := h f q
  exact ⟨d, m, e _ _ h1, h2⟩
def SlOk (K : Frag) (fd F : Ad) (H : Hp) : Option V → Sl → Prop
  | _, .no => True
  | some v, .dat d => Dr K (off F H) v d
  | some v, .own p ds => v = .ref p ∧ F p ∧ ¬ fd p ∧ ∃ vs, H p = some (.lst vs) ∧ DrAll K (off F H) vs ds
  | some v, .fed f => v = .ref f ∧ fd f
  | some v, .raw w => v = w
  | none, _ => False
/-- H to H': all but the feed stands, the feed is one still -/
structure Up (fd : Ad) (H H' : Hp) : Prop where
  keep : ∀ a o, ¬ fd a → H a = some o → H' a = some o
  feed : Feed fd H'
theorem Up.refl {fd : Ad} {H : Hp} (h : Feed fd H) : Up fd H H := ⟨fun _ _ _ e => e, h⟩
theorem Up.trans {fd : Ad} {H H1 H2 : Hp} (a : Up fd H H1) (b : Up fd H1 H2) : Up fd H H2 := ⟨fun x o n e => b.keep x o n (a.keep x o n e), b.feed⟩
theorem Up.ex {fd : Ad} {H H' : Hp} (h : Feed fd H) (e : Ex H H') : Up fd H H' := ⟨fun a o _ q => e a o q, h.ex e⟩
/-- what an expression finds: F is hidden (all of it stands in H), the feed among it; the slots are as told -/
structure EnvOk (K : Frag) (fd F : Ad) (σ : L2.St) (H : Hp) (env : List Sl) : Prop where
  there : ∀ a, F a → H a ≠ none
  fdF : ∀ a, fd a → F a
  feed : Feed fd H
  len : σ.length = env.length
  slot : ∀ (i : Nat) (o : Option V) (x : Sl), σ[i]? = some o → env[i]? = some x → SlOk K fd F H o x
theorem there_up {F fd : Ad} {H H' : Hp} (h : ∀ a, F a → H a ≠ none) (u : Up fd H H') : ∀ a, F a → H' a ≠ none := fun a q => by
  by_cases z : fd a
  · obtain ⟨d, m, e, _⟩ := u.feed a z
    rw [e]; intro c; cases c
  · cases e : H a with
    | none => exact absurd e (h a q)
    | some o => rw [u.keep a o z e]; intro c; cases c
theorem SlOk.up {K : Frag} {fd F : Ad} {H H' : Hp} {o : Option V} {x : Sl} (hf : ∀ a, fd a → F a) (u : Up fd H H') (h : SlOk K fd F H o x) : SlOk K fd F H' o x := by
  have e := off_ex (S := F) hf u.keep
  cases x with
  | no => cases o <;> exact True.intro
  | dat d =>
    cases o with
    | none => exact h
    | some v => exact dmono e h
  | own p ds =>
    cases o with
    | none => exact h
    | some v =>
      obtain ⟨h1, h2, h3, vs, h4, h5⟩ := h
      exact ⟨h1, h2, h3, vs, u.keep _ _ h3 h4, dmonoAll e h5⟩
  | fed f => cases o <;> exact h
  | raw w => cases o <;> exact h
section
variable {K : Frag} {fd F : Ad} {σ : L2.St} {H H' : Hp} {env : List Sl}
theorem EnvOk.up (h : EnvOk K fd F σ H env) (u : Up fd H H') : EnvOk K fd F σ H' env :=
  ⟨there_up h.there u, h.fdF, u.feed, h.len, fun i o x e1 e2 => (h.slot i o x e1 e2).up h.fdF u⟩
theorem EnvOk.see (h : EnvOk K fd F σ H env) (u : Up fd H H') : Ex (off F H) (off F H') := off_ex h.fdF u.keep
theorem EnvOk.get (h : EnvOk K fd F σ H env) {i : Nat} {x : Sl} (e : env[i]? = some x) : ∃ o, σ[i]? = some o ∧ SlOk K fd F H o x := by
  have hi : i < env.length := (List.getElem?_eq_some_iff.mp e).1
  have hj : i < σ.length := by rw [h.len]; exact hi
  exact ⟨_, List.getElem?_eq_getElem hj, h.slot i _ x (List.getElem?_eq_getElem hj) e⟩
theorem EnvOk.set (h : EnvOk K fd F σ H env) {i : Nat} {v : V} {x : Sl} (hx : SlOk K fd F H (some v) x) : EnvOk K fd F (σ.set i (some v)) H (env.set i x) :=
  ⟨h.there, h.fdF, h.feed, by rw [List.length_set, List.length_set]; exact h.len, fun j o y e1 e2 => by
    by_cases hj : i = j
    · subst hj
      have l1 : i < σ.length := by have := (List.getElem?_eq_some_iff.mp e1).1; rwa [List.length_set] at this
      have l2 : i < env.length := by have := (List.getElem?_eq_some_iff.mp e2).1; rwa [List.length_set] at this
      rw [List.getElem?_set_self l1] at e1
      rw [List.getElem?_set_self l2] at e2
      cases e1; cases e2; exact hx
    · rw [List.getElem?_set_ne hj] at e1 e2
      exact h.slot j o y e1 e2⟩
end

/-! ## judgements -/
def wpE (K : Frag) (fd : Ad) (te : TE) (env : List Sl) (C : PyData → Prop) : Prop :=
  ∀ (F : Ad) (σ : L2.St) (H : Hp), EnvOk K fd F σ H env → ∀ Q : VK, (∀ v H2 d, Up fd H H2 → Dr K (off F H2) v d → C d → Q v H2) → te σ H Q
/-- a new list -/
def wpN (K : Frag) (fd : Ad) (te : TE) (env : List Sl) (C : List PyData → Prop) : Prop :=
  ∀ (F : Ad) (σ : L2.St) (H : Hp), EnvOk K fd F σ H env → ∀ Q : VK, (∀ p vs H2 ds, H p = none → Up fd H H2 → H2 p = some (.lst vs) → DrAll K (off (fun a => F a ∨ a = p) H2) vs ds → C ds → Q (.ref p) H2) → te σ H Q
def wpA (K : Frag) (fd : Ad) (ta : TA) (env : List Sl) (C : List PyData → Prop) : Prop :=
  ∀ (F : Ad) (σ : L2.St) (H : Hp), EnvOk K fd F σ H env → ∀ Q : List V → Hp → Prop, (∀ vs H2 ds, Up fd H H2 → DrAll K (off F H2) vs ds → C ds → Q vs H2) → ta σ H Q
def wpT (K : Frag) (fd : Ad) (tt : TT) (env : List Sl) (C : Bool → Prop) : Prop :=
  ∀ (F : Ad) (σ : L2.St) (H : Hp), EnvOk K fd F σ H env → ∀ Q : Bool → Hp → Prop, (∀ b H2, Up fd H H2 → C b → Q b H2) → tt σ H Q
/-- an operation of two values -/
def OpD (K : Frag) (r : R2) (a b : PyData) (C : PyData → Prop) : Prop :=
  ∀ (F : Ad) (H : Hp) (x y : V), (∀ a, F a → H a ≠ none) → Dr K (off F H) x a → Dr K (off F H) y b → ∀ Q : VK, (∀ v H2 d, Ex H H2 → Dr K (off F H2) v d → C d → Q v H2) → r x y H Q
def UnD (K : Frag) (r : V → Hp → VK → Prop) (a : PyData) (C : PyData → Prop) : Prop :=
  ∀ (F : Ad) (H : Hp) (x : V), (∀ a, F a → H a ≠ none) → Dr K (off F H) x a → ∀ Q : VK, (∀ v H2 d, Ex H H2 → Dr K (off F H2) v d → C d → Q v H2) → r x H Q
/-- a call of a built-in -/
def CaD (K : Frag) (r : List V → Hp → VK → Prop) (as : List PyData) (C : PyData → Prop) : Prop :=
  ∀ (F : Ad) (H : Hp) (xs : List V), (∀ a, F a → H a ≠ none) → DrAll K (off F H) xs as → ∀ Q : VK, (∀ v H2 d, Ex H H2 → Dr K (off F H2) v d → C d → Q v H2) → r xs H Q
/-- .. that gives a new list -/
def CaN (K : Frag) (r : List V → Hp → VK → Prop) (as : List PyData) (C : List PyData → Prop) : Prop :=
  ∀ (F : Ad) (H : Hp) (xs : List V), (∀ a, F a → H a ≠ none) → DrAll K (off F H) xs as → ∀ Q : VK, (∀ p vs H2 ds, H p = none → Ex H H2 → H2 p = some (.lst vs) → DrAll K (off (fun a => F a ∨ a = p) H2) vs ds → C ds → Q (.ref p) H2) → r xs H Q
section
variable {K : Frag} {fd : Ad} {env : List Sl} {te ta tb tc : TE} {tt tu : TT} {tas : TA} {C C' : PyData → Prop} {CL : List PyData → Prop} {CB : Bool → Prop}
theorem wpE_imp (h : wpE K fd te env C) (q : ∀ d, C d → C' d) : wpE K fd te env C' := fun F σ H I Q k => h F σ H I Q fun v H2 d u r c => k v H2 d u r (q d c)
theorem see_new {F : Ad} {H H2 : Hp} {p : Addr} (th : ∀ a, F a → H a ≠ none) (hp : H p = none) {vs : List V} {ds : List PyData} (e : H2 p = some (.lst vs)) (h : DrAll K (off (fun a => F a ∨ a = p) H2) vs ds) : Dr K (off F H2) (.ref p) (.list ds) :=
  .lst (by rw [off_ne fun z => th p z hp]; exact e) (dmonoAll (off_less fun a z => .inl z) h)
theorem wpE_new (h : wpN K fd te env fun ds => C (.list ds)) : wpE K fd te env C := fun F σ H I Q k =>
  h F σ H I Q fun p vs H2 ds hp u e r c => k _ H2 _ u (see_new I.there hp e r) c
theorem wp_var {i : Nat} {d : PyData} (e : env[i]? = some (.dat d)) (c : C d) : wpE K fd (tVar i) env C := fun F σ H I Q k => by
  obtain ⟨o, h1, h2⟩ := I.get e
  cases o with
  | none => exact False.elim h2
  | some v => exact ⟨v, h1, k v H d (.refl I.feed) h2 c⟩
theorem wp_int {i : Int} (c : C (.int i)) : wpE K fd (tC (.int i)) env C := fun F σ H I Q k => k _ H _ (.refl I.feed) (.int i) c
theorem wp_str {x : Str} (c : C (.str x)) : wpE K fd (tC (.str x)) env C := fun F σ H I Q k => k _ H _ (.refl I.feed) (.str x) c
theorem wp_bl {b : Bool} (c : C (.bool b)) : wpE K fd (tC (.bl b)) env C := fun F σ H I Q k => k _ H _ (.refl I.feed) (.bl b) c
theorem wp_non (c : C .none) : wpE K fd (tC .non) env C := fun F σ H I Q k => k _ H _ (.refl I.feed) .non c
theorem wp_op {r : R2} (h : wpE K fd ta env fun a => wpE K fd tb env fun b => OpD K r a b C) : wpE K fd (tOp r ta tb) env C := fun F σ H I Q k =>
  h F σ H I _ fun x H1 a u1 ra q1 => q1 F σ H1 (I.up u1) _ fun y H2 b u2 rb q2 => q2 F H2 x y ((I.up u1).up u2).there (dmono ((I.up u1).see u2) ra) rb Q fun v H3 d e r c =>
    k v H3 d ((u1.trans u2).trans (.ex u2.feed e)) r c
theorem wp_un {r : V → Hp → VK → Prop} (h : wpE K fd ta env fun a => UnD K r a C) : wpE K fd (tUn r ta) env C := fun F σ H I Q k =>
  h F σ H I _ fun x H1 a u1 ra q1 => q1 F H1 x (I.up u1).there ra Q fun v H3 d e r c => k v H3 d (u1.trans (.ex u1.feed e)) r c
theorem wpA_nil (c : CL []) : wpA K fd tNil env CL := fun F σ H I Q k => k [] H [] (.refl I.feed) .nil c
theorem wpA_cons {tr : TA} (h : wpE K fd ta env fun a => wpA K fd tr env fun as => CL (a :: as)) : wpA K fd (tCons ta tr) env CL := fun F σ H I Q k =>
  h F σ H I _ fun x H1 a u1 ra q1 => q1 F σ H1 (I.up u1) _ fun xs H2 as u2 rs c => k (x :: xs) H2 (a :: as) (u1.trans u2) (.cons (dmono ((I.up u1).see u2) ra) rs) c
theorem wp_cb {r : List V → Hp → VK → Prop} (h : wpA K fd tas env fun as => CaD K r as C) : wpE K fd (tCB r tas) env C := fun F σ H I Q k =>
  h F σ H I _ fun xs H1 as u1 ra q1 => q1 F H1 xs (I.up u1).there ra Q fun v H3 d e r c => k v H3 d (u1.trans (.ex u1.feed e)) r c
theorem none_back {fd F : Ad} {H H1 : Hp} (th : ∀ a, F a → H a ≠ none) (hf : ∀ a, fd a → F a) (u : Up fd H H1) {p : Addr} (h : H1 p = none) : H p = none := by
  cases e : H p with
  | none => rfl
  | some o =>
    by_cases z : fd p
    · obtain ⟨_, _, q, _⟩ := u.feed p z
      rw [q] at h; cases h
    · rw [u.keep p o z e] at h; cases h
theorem wpN_cb {r : List V → Hp → VK → Prop} (h : wpA K fd tas env fun as => CaN K r as CL) : wpN K fd (tCB r tas) env CL := fun F σ H I Q k =>
  h F σ H I _ fun xs H1 as u1 ra q1 => q1 F H1 xs (I.up u1).there ra Q fun p vs H3 ds hp e e1 r c => k p vs H3 ds (none_back I.there I.fdF u1 hp) (u1.trans (.ex u1.feed e)) e1 r c
theorem new_all {F : Ad} {H : Hp} {p : Addr} {o : HO} {xs : List V} {ds : List PyData} (hp : H p = none) (r : DrAll K (off F H) xs ds) : DrAll K (off (fun a => F a ∨ a = p) (upd H p o)) xs ds := by
  refine dmonoAll (fun a u e => ?_) r
  obtain ⟨n, e⟩ := off_some e
  have hne : a ≠ p := ne_of_none e hp
  rw [off_ne (by intro z; rcases z with z | z; exact n z; exact hne z), upd_ne hne]
  exact e
theorem wpN_lst (h : wpA K fd tas env fun ds => ds.length ≤ 100000 ∧ CL ds) : wpN K fd (tLst tas) env CL := fun F σ H I Q k =>
  h F σ H I _ fun xs H1 ds u1 ra c => ⟨sz_of (by rw [all_len ra]; exact c.1), fun p hp => k p xs _ ds (none_back I.there I.fdF u1 hp) (u1.trans (.ex u1.feed (Ex.new hp))) upd_same (new_all hp ra) c.2⟩
theorem new_tup {F : Ad} {H : Hp} {p : Addr} {xs : List V} {ds : List PyData} (th : ∀ a, F a → H a ≠ none) (hp : H p = none) (r : DrAll K (off F H) xs ds) : Dr K (off F (upd H p (.tup xs))) (.ref p) (.tuple ds) :=
  .tup (st_of (by rw [off_ne fun z => th p z hp]; exact upd_same)) (dmonoAll (off_exE (Ex.new hp)) r)
theorem wp_tup (h : wpA K fd tas env fun ds => ds.length ≤ 100000 ∧ C (.tuple ds)) : wpE K fd (tTup tas) env C := fun F σ H I Q k =>
  h F σ H I _ fun xs H1 ds u1 ra c => ⟨sz_of (by rw [all_len ra]; exact c.1), fun p hp => k _ _ _ (u1.trans (.ex u1.feed (Ex.new hp))) (new_tup (I.up u1).there hp ra) c.2⟩
/-! tests -/
theorem wpT_imp {CB' : Bool → Prop} (h : wpT K fd tt env CB) (q : ∀ b, CB b → CB' b) : wpT K fd tt env CB' := fun F σ H I Q k => h F σ H I Q fun b H2 u c => k b H2 u (q b c)
theorem wpT_test (h : wpE K fd te env fun d => ∃ b, d = .bool b ∧ CB b) : wpT K fd (tTest te) env CB := fun F σ H I Q k =>
  h F σ H I _ fun x H1 d u r c => by
    obtain ⟨b, rfl, c⟩ := c
    cases r
    exact ⟨b, rfl, k b H1 u c⟩
theorem wpT_B (h : wpE K fd te env fun d => ∃ b, d = .bool b ∧ CB b) : wpT K fd (tB te) env CB := fun F σ H I Q k =>
  h F σ H I _ fun x H1 d u r c => by
    obtain ⟨b, rfl, c⟩ := c
    cases r
    exact ⟨b, rfl, k b H1 u c⟩
theorem wpT_and (h : wpT K fd tt env fun b => (b = true → wpT K fd tu env CB) ∧ (b = false → CB false)) : wpT K fd (tAnd tt tu) env CB := fun F σ H I Q k =>
  h F σ H I _ fun b H1 u c => by
    cases b with
    | true => rw [if_pos rfl]; exact c.1 rfl F σ H1 (I.up u) Q fun b H2 u2 c => k b H2 (u.trans u2) c
    | false => rw [if_neg (by decide)]; exact k _ _ u (c.2 rfl)
theorem wpT_or (h : wpT K fd tt env fun b => (b = true → CB true) ∧ (b = false → wpT K fd tu env CB)) : wpT K fd (tOr tt tu) env CB := fun F σ H I Q k =>
  h F σ H I _ fun b H1 u c => by
    cases b with
    | true => rw [if_pos rfl]; exact k _ _ u (c.1 rfl)
    | false => rw [if_neg (by decide)]; exact c.2 rfl F σ H1 (I.up u) Q fun b H2 u2 c => k b H2 (u.trans u2) c
theorem wpT_not (h : wpT K fd tt env fun b => CB (!b)) : wpT K fd (tNot tt) env CB := fun F σ H I Q k => h F σ H I _ fun b H1 u c => k _ _ u c
theorem wp_if (h : wpT K fd tt env fun b => (b = true → wpE K fd ta env C) ∧ (b = false → wpE K fd tb env C)) : wpE K fd (tIf tt ta tb) env C := fun F σ H I Q k =>
  h F σ H I _ fun b H1 u c => by
    cases b with
    | true => rw [if_pos rfl]; exact c.1 rfl F σ H1 (I.up u) Q fun v H2 d u2 => k v H2 d (u.trans u2)
    | false => rw [if_neg (by decide)]; exact c.2 rfl F σ H1 (I.up u) Q fun v H2 d u2 => k v H2 d (u.trans u2)
theorem wp_andV (h : wpE K fd ta env fun d => ∃ b, d = .bool b ∧ (b = true → wpE K fd tb env C) ∧ (b = false → C (.bool false))) : wpE K fd (tAndV ta tb) env C := fun F σ H I Q k =>
  h F σ H I _ fun x H1 d u r c => by
    obtain ⟨b, rfl, c1, c2⟩ := c
    cases r
    refine ⟨b, rfl, ?_⟩
    cases b with
    | true => rw [if_pos rfl]; exact c1 rfl F σ H1 (I.up u) Q fun v H2 d u2 => k v H2 d (u.trans u2)
    | false => rw [if_neg (by decide)]; exact k _ _ _ u (.bl false) (c2 rfl)
theorem wp_orV (h : wpE K fd ta env fun d => ∃ b, d = .bool b ∧ (b = true → C (.bool true)) ∧ (b = false → wpE K fd tb env C)) : wpE K fd (tOrV ta tb) env C := fun F σ H I Q k =>
  h F σ H I _ fun x H1 d u r c => by
    obtain ⟨b, rfl, c1, c2⟩ := c
    cases r
    refine ⟨b, rfl, ?_⟩
    cases b with
    | true => rw [if_pos rfl]; exact k _ _ _ u (.bl true) (c1 rfl)
    | false => rw [if_neg (by decide)]; exact c2 rfl F σ H1 (I.up u) Q fun v H2 d u2 => k v H2 d (u.trans u2)
theorem wp_notV (h : wpE K fd ta env fun d => ∃ b, d = .bool b ∧ C (.bool (!b))) : wpE K fd (tNotV ta) env C := fun F σ H I Q k =>
  h F σ H I _ fun x H1 d u r c => by
    obtain ⟨b, rfl, c⟩ := c
    cases r
    exact ⟨b, rfl, k _ _ _ u (.bl _) c⟩
end
end Dn

namespace Dn
open PySem L2 Evl
section
variable {K : Frag} {fd : Ad} {env : List Sl} {te ta tb tc : TE} {C : PyData → Prop} {CL : List PyData → Prop}
/-! ## operators -/
theorem opd_ii {f : Int → Int → Int} {i j : Int} (c : C (.int (f i j))) : OpD K (rI0 fun i j => .int (f i j)) (.int i) (.int j) C := fun F H x y th rx ry Q k => by
  cases rx; cases ry; exact ⟨i, j, rfl, rfl, k _ H _ (Ex.refl H) (.int _) c⟩
theorem opd_ib {f : Int → Int → Bool} {i j : Int} (c : C (.bool (f i j))) : OpD K (rI0 fun i j => .bl (f i j)) (.int i) (.int j) C := fun F H x y th rx ry Q k => by
  cases rx; cases ry; exact ⟨i, j, rfl, rfl, k _ H _ (Ex.refl H) (.bl _) c⟩
theorem opd_I {Cc : Int → Int → Prop} {f : Int → Int → Int} {i j : Int} (hc : Cc i j) (c : C (.int (f i j))) : OpD K (rI Cc fun i j => .int (f i j)) (.int i) (.int j) C := fun F H x y th rx ry Q k => by
  cases rx; cases ry; exact ⟨i, j, rfl, rfl, hc, k _ H _ (Ex.refl H) (.int _) c⟩
theorem opd_eqI {i j : Int} (c : C (.bool (decide (i = j)))) : OpD K rEq (.int i) (.int j) C := fun F H x y th rx ry Q k => by
  cases rx; cases ry
  refine ⟨rfl, ?_⟩
  have e : decide (V.int i = V.int j) = decide (i = j) := by
    by_cases z : i = j
    · subst z; simp
    · rw [decide_eq_false z, decide_eq_false fun q => z (V.int.inj q)]
  rw [e]
  exact k _ H _ (Ex.refl H) (.bl _) c
theorem opd_neI {i j : Int} (c : C (.bool (!decide (i = j)))) : OpD K rNe (.int i) (.int j) C := fun F H x y th rx ry Q k => by
  cases rx; cases ry
  refine ⟨rfl, ?_⟩
  have e : decide (V.int i = V.int j) = decide (i = j) := by
    by_cases z : i = j
    · subst z; simp
    · rw [decide_eq_false z, decide_eq_false fun q => z (V.int.inj q)]
  rw [e]
  exact k _ H _ (Ex.refl H) (.bl _) c
theorem opd_eqS {i j : Str} (c : C (.bool (decide (i = j)))) : OpD K rEq (.str i) (.str j) C := fun F H x y th rx ry Q k => by
  cases rx; cases ry
  refine ⟨rfl, ?_⟩
  have e : decide (V.str i = V.str j) = decide (i = j) := by
    by_cases z : i = j
    · subst z; simp
    · rw [decide_eq_false z, decide_eq_false fun q => z (V.str.inj q)]
  rw [e]
  exact k _ H _ (Ex.refl H) (.bl _) c
theorem opd_neS {i j : Str} (c : C (.bool (!decide (i = j)))) : OpD K rNe (.str i) (.str j) C := fun F H x y th rx ry Q k => by
  cases rx; cases ry
  refine ⟨rfl, ?_⟩
  have e : decide (V.str i = V.str j) = decide (i = j) := by
    by_cases z : i = j
    · subst z; simp
    · rw [decide_eq_false z, decide_eq_false fun q => z (V.str.inj q)]
  rw [e]
  exact k _ H _ (Ex.refl H) (.bl _) c
/-- data that may be compared -/
def cmp (d : PyData) : Bool := plain d && SeqAt.shaped d
theorem opd_eqD {a b : PyData} (ha : cmp a = true) (hb : cmp b = true) (c : C (.bool (PyData.eqv a b))) : OpD K (rEqD K) a b C := fun F H x y th rx ry Q k => by
  unfold cmp at ha hb; rw [Bool.and_eq_true] at ha hb
  exact ⟨a, b, toDp (dmono off_full rx) ha.1, toDp (dmono off_full ry) hb.1, ha.2, hb.2, k _ H _ (Ex.refl H) (.bl _) c⟩
theorem opd_neD {a b : PyData} (ha : cmp a = true) (hb : cmp b = true) (c : C (.bool (!PyData.eqv a b))) : OpD K (rNeD K) a b C := fun F H x y th rx ry Q k => by
  unfold cmp at ha hb; rw [Bool.and_eq_true] at ha hb
  exact ⟨a, b, toDp (dmono off_full rx) ha.1, toDp (dmono off_full ry) hb.1, ha.2, hb.2, k _ H _ (Ex.refl H) (.bl _) c⟩
theorem opd_inD {a : PyData} {ds : List PyData} (ha : cmp a = true) (hb : cmp (.list ds) = true) (c : C (.bool (ds.any fun z => PyData.eqv z a))) : OpD K (rInD K) a (.list ds) C := fun F H x y th rx ry Q k => by
  unfold cmp at ha hb; rw [Bool.and_eq_true] at ha hb
  exact ⟨a, ds, toDp (dmono off_full rx) ha.1, toDp (dmono off_full ry) hb.1, ha.2, hb.2, k _ H _ (Ex.refl H) (.bl _) c⟩
theorem opd_ninD {a : PyData} {ds : List PyData} (ha : cmp a = true) (hb : cmp (.list ds) = true) (c : C (.bool (!ds.any fun z => PyData.eqv z a))) : OpD K (rNotInD K) a (.list ds) C := fun F H x y th rx ry Q k => by
  unfold cmp at ha hb; rw [Bool.and_eq_true] at ha hb
  exact ⟨a, ds, toDp (dmono off_full rx) ha.1, toDp (dmono off_full ry) hb.1, ha.2, hb.2, k _ H _ (Ex.refl H) (.bl _) c⟩
theorem opd_catA {xs ys : List PyData} (hz : xs.length + ys.length ≤ 100000) (c : C (.tuple (xs ++ ys))) : OpD K (rCatA K) (.tuple xs) (.tuple ys) C := fun F H x y th rx ry Q k => by
  cases rx with
  | @tup a us _ sa ra =>
    cases ry with
    | @tup b ws _ sb rb =>
      have la := all_len ra
      have lb := all_len rb
      refine ⟨a, b, us, ws, rfl, rfl, ex_t off_full sa, ex_t off_full sb, sz_of (by omega), fun e => ?_, fun _ e => ?_, fun _ _ p hp => ?_⟩
      · subst e
        have e2 : xs = [] := List.eq_nil_of_length_eq_zero (by rw [← la]; rfl)
        subst e2
        exact k _ H _ (Ex.refl H) (.tup sb rb) c
      · subst e
        have e2 : ys = [] := List.eq_nil_of_length_eq_zero (by rw [← lb]; rfl)
        subst e2
        rw [List.append_nil] at c
        exact k _ H _ (Ex.refl H) (.tup sa ra) c
      · exact k _ _ _ (Ex.new hp) (new_tup th hp (all_app ra rb)) c
theorem opd_ixL {xs : List PyData} {i : Int} {d : PyData} (e : atI xs i = some d) (c : C d) : OpD K (rIxL K) (.list xs) (.int i) C := fun F H x y th rx ry Q k => by
  cases ry
  cases rx with
  | @lst a us _ sa ra =>
    obtain ⟨v, h1, h2⟩ := all_at ra e
    exact ⟨a, us, i, v, rfl, rfl, sq_of (off_full _ _ sa), h1, k v H d (Ex.refl H) h2 c⟩
theorem opd_ixT {xs : List PyData} {i : Int} {d : PyData} (e : atI xs i = some d) (c : C d) : OpD K (rIxT K) (.tuple xs) (.int i) C := fun F H x y th rx ry Q k => by
  cases ry
  cases rx with
  | @tup a us _ sa ra =>
    obtain ⟨v, h1, h2⟩ := all_at ra e
    exact ⟨a, us, i, v, rfl, rfl, ex_t off_full sa, h1, k v H d (Ex.refl H) h2 c⟩
theorem opd_ixS {z : Str} {i : Int} {ch : Nat} (hz : z.length ≤ 100000) (e : atI z.cps.toList i = some ch) (c : C (.str ⟨#[ch]⟩)) : OpD K rIxS (.str z) (.int i) C := fun F H x y th rx ry Q k => by
  cases ry; cases rx
  exact ⟨z, i, ch, rfl, rfl, sz_of hz, e, k _ H _ (Ex.refl H) (.str _) c⟩
theorem opd_catS {x y : Str} (hz : x.length + y.length ≤ 100000) (c : C (.str (x ++ y))) : OpD K (fun x y H Q => ∃ i j, x = .str i ∧ y = .str j ∧ i.length + j.length ≤ sizeLine ∧ Q (.str (i ++ j)) H) (.str x) (.str y) C := fun F H a b th rx ry Q k => by
  cases ry; cases rx
  exact ⟨x, y, rfl, rfl, sz_of hz, k _ H _ (Ex.refl H) (.str _) c⟩
/-- .. that give a new list -/
def OpN (K : Frag) (r : R2) (a b : PyData) (C : List PyData → Prop) : Prop :=
  ∀ (F : Ad) (H : Hp) (x y : V), (∀ a, F a → H a ≠ none) → Dr K (off F H) x a → Dr K (off F H) y b → ∀ Q : VK, (∀ p vs H2 ds, H p = none → Ex H H2 → H2 p = some (.lst vs) → DrAll K (off (fun a => F a ∨ a = p) H2) vs ds → C ds → Q (.ref p) H2) → r x y H Q
theorem wpN_op {r : R2} (h : wpE K fd ta env fun a => wpE K fd tb env fun b => OpN K r a b CL) : wpN K fd (tOp r ta tb) env CL := fun F σ H I Q k =>
  h F σ H I _ fun x H1 a u1 ra q1 => q1 F σ H1 (I.up u1) _ fun y H2 b u2 rb q2 => q2 F H2 x y ((I.up u1).up u2).there (dmono ((I.up u1).see u2) ra) rb Q fun p vs H3 ds hp e e1 r c =>
    k p vs H3 ds (none_back I.there I.fdF (u1.trans u2) hp) ((u1.trans u2).trans (.ex u2.feed e)) e1 r c
theorem opn_cat {xs ys : List PyData} (hz : xs.length + ys.length ≤ 100000) (c : CL (xs ++ ys)) : OpN K rCat (.list xs) (.list ys) CL := fun F H x y th rx ry Q k => by
  cases rx with
  | @lst a us _ sa ra =>
    cases ry with
    | @lst b ws _ sb rb =>
      refine ⟨a, b, us, ws, rfl, rfl, off_full _ _ sa, off_full _ _ sb, sz_of (by rw [all_len ra, all_len rb]; exact hz), fun p hp => ?_⟩
      exact k p _ _ _ hp (Ex.new hp) upd_same (new_all hp (all_app ra rb)) c
theorem rep_all {G : Hp} {vs : List V} {ds : List PyData} (h : DrAll K G vs ds) : ∀ n : Nat, DrAll K G (List.replicate n vs).flatten (List.replicate n ds).flatten
  | 0 => .nil
  | n + 1 => by
    rw [List.replicate_succ, List.replicate_succ, List.flatten_cons, List.flatten_cons]
    exact all_app h (rep_all h n)
/-! ## calls of built-ins -/
theorem cad_lenL {xs : List PyData} (c : C (.int (xs.length : Int))) : CaD K (rLenS K) [.list xs] C := fun F H vs th r Q k => by
  cases r with
  | cons a b =>
    cases b
    cases a with
    | @lst a us _ sa ra => exact ⟨a, us, rfl, .inl (sq_of (off_full _ _ sa)), by rw [all_len ra]; exact k _ H _ (Ex.refl H) (.int _) c⟩
theorem cad_lenT {xs : List PyData} (c : C (.int (xs.length : Int))) : CaD K (rLenS K) [.tuple xs] C := fun F H vs th r Q k => by
  cases r with
  | cons a b =>
    cases b
    cases a with
    | @tup a us _ sa ra => exact ⟨a, us, rfl, .inr (ex_t off_full sa), by rw [all_len ra]; exact k _ H _ (Ex.refl H) (.int _) c⟩
def rInt1 : List V → Hp → VK → Prop := fun xs H Q => (∃ i, xs = [.int i] ∧ Q (.int i) H) ∨ ∃ k, xs = [.bl k] ∧ Q (.int (if k then 1 else 0)) H
theorem cad_int {i : Int} (c : C (.int i)) : CaD K rInt1 [.int i] C := fun F H vs th r Q k => by
  cases r with
  | cons a b => cases b; cases a; exact .inl ⟨i, rfl, k _ H _ (Ex.refl H) (.int _) c⟩
def rAbs : List V → Hp → VK → Prop := fun xs H Q => ∃ i, xs = [.int i] ∧ Q (.int (if i < 0 then -i else i)) H
theorem cad_abs {i : Int} (c : C (.int (if i < 0 then -i else i))) : CaD K rAbs [.int i] C := fun F H vs th r Q k => by
  cases r with
  | cons a b => cases b; cases a; exact ⟨i, rfl, k _ H _ (Ex.refl H) (.int _) c⟩
theorem cad_max2 {i j : Int} (c : C (.int (if j > i then j else i))) : CaD K rMax2 [.int i, .int j] C := fun F H vs th r Q k => by
  cases r with
  | cons a b =>
    cases b with
    | cons b e => cases e; cases a; cases b; exact ⟨i, j, rfl, k _ H _ (Ex.refl H) (.int _) c⟩
def rMin2 : List V → Hp → VK → Prop := fun xs H Q => ∃ i j, xs = [.int i, .int j] ∧ Q (.int (if j < i then j else i)) H
theorem cad_min2 {i j : Int} (c : C (.int (if j < i then j else i))) : CaD K rMin2 [.int i, .int j] C := fun F H vs th r Q k => by
  cases r with
  | cons a b =>
    cases b with
    | cons b e => cases e; cases a; cases b; exact ⟨i, j, rfl, k _ H _ (Ex.refl H) (.int _) c⟩
theorem can_listL {xs : List PyData} (c : CL xs) : CaN K (rListS K) [.list xs] CL := fun F H vs th r Q k => by
  cases r with
  | cons a b =>
    cases b
    cases a with
    | @lst a us _ sa ra => exact ⟨a, us, rfl, .inl (sq_of (off_full _ _ sa)), fun l hl => k l us _ xs hl (Ex.new hl) upd_same (new_all hl ra) c⟩
theorem can_listT {xs : List PyData} (c : CL xs) : CaN K (rListS K) [.tuple xs] CL := fun F H vs th r Q k => by
  cases r with
  | cons a b =>
    cases b
    cases a with
    | @tup a us _ sa ra => exact ⟨a, us, rfl, .inr (ex_t off_full sa), fun l hl => k l us _ xs hl (Ex.new hl) upd_same (new_all hl ra) c⟩
def rTupOf (K : Frag) : List V → Hp → VK → Prop := fun xs H Q => ∃ p ys, xs = [.ref p] ∧ ((SqL K H p ys ∧ ∀ l, H l = none → Q (.ref l) (upd H l (.tup ys))) ∨ (SqT K H p ys ∧ Q (.ref p) H))
theorem cad_tupL {xs : List PyData} (c : C (.tuple xs)) : CaD K (rTupOf K) [.list xs] C := fun F H vs th r Q k => by
  cases r with
  | cons a b =>
    cases b
    cases a with
    | @lst a us _ sa ra => exact ⟨a, us, rfl, .inl ⟨sq_of (off_full _ _ sa), fun l hl => k _ _ _ (Ex.new hl) (new_tup th hl ra) c⟩⟩
theorem cad_sum {ns : List Int} (c : C (.int ns.sum)) : CaD K (rSum K) [.list (ns.map .int)] C := fun F H vs th r Q k => by
  cases r with
  | cons a b =>
    cases b
    cases a with
    | @lst a us _ sa ra =>
      have e := all_ints ra
      subst e
      exact ⟨a, ns, rfl, sq_of (off_full _ _ sa), k _ H _ (Ex.refl H) (.int _) c⟩
theorem cad_max {ns : List Int} (h0 : 0 < ns.length) (c : ∀ m, m ∈ ns → (∀ y, y ∈ ns → y ≤ m) → C (.int m)) : CaD K (rMax K) [.list (ns.map .int)] C := fun F H vs th r Q k => by
  cases r with
  | cons a b =>
    cases b
    cases a with
    | @lst a us _ sa ra =>
      have e := all_ints ra
      subst e
      exact ⟨a, ns, rfl, sq_of (off_full _ _ sa), h0, fun m h1 h2 => k _ H _ (Ex.refl H) (.int _) (c m h1 h2)⟩
theorem cad_all {bs : List Bool} (c : C (.bool (bs.all id))) : CaD K (rAll K) [.list (bs.map .bool)] C := fun F H vs th r Q k => by
  cases r with
  | cons a b =>
    cases b
    cases a with
    | @lst a us _ sa ra =>
      have e := all_bools ra
      subst e
      exact ⟨a, bs, rfl, sq_of (off_full _ _ sa), k _ H _ (Ex.refl H) (.bl _) c⟩
/-! ## slices, chains, truth -/
def wpO (K : Frag) (fd : Ad) (to : TO) (env : List Sl) (C : Option Int → Prop) : Prop :=
  ∀ (F : Ad) (σ : L2.St) (H : Hp), EnvOk K fd F σ H env → ∀ Q : Option Int → Hp → Prop, (∀ o H2, Up fd H H2 → C o → Q o H2) → to σ H Q
theorem wpO_none {CO : Option Int → Prop} (c : CO none) : wpO K fd tNoPart env CO := fun F σ H I Q k => k none H (.refl I.feed) c
theorem wpO_some {CO : Option Int → Prop} (h : wpE K fd te env fun d => ∃ i, d = .int i ∧ CO (some i)) : wpO K fd (tPart te) env CO := fun F σ H I Q k =>
  h F σ H I _ fun x H1 d u r c => by
    obtain ⟨i, rfl, c⟩ := c
    cases r
    exact ⟨i, rfl, k _ H1 u c⟩
theorem wpN_sl {tl th : TO} (h : wpE K fd te env fun d => wpO K fd tl env fun lo => wpO K fd th env fun hi => ∃ ds, d = .list ds ∧ CL (cut ds lo hi)) : wpN K fd (tSl (rSlL K) te tl th) env CL := fun F σ H I Q k =>
  h F σ H I _ fun x H1 d u1 r c1 => c1 F σ H1 (I.up u1) _ fun lo H2 u2 c2 => c2 F σ H2 ((I.up u1).up u2) _ fun hi H3 u3 c3 => by
    obtain ⟨ds, rfl, c⟩ := c3
    have r3 := dmono ((I.up u1).see (u2.trans u3)) r
    cases r3 with
    | @lst a us _ sa ra => exact ⟨a, us, rfl, sq_of (off_full _ _ sa), fun p hp => k p _ _ _ (none_back I.there I.fdF ((u1.trans u2).trans u3) hp) (((u1.trans u2).trans u3).trans (.ex u3.feed (Ex.new hp))) upd_same (new_all hp (all_cut ra lo hi)) c⟩
theorem wp_slT {tl th : TO} (h : wpE K fd te env fun d => wpO K fd tl env fun lo => wpO K fd th env fun hi => ∃ ds, d = .tuple ds ∧ C (.tuple (cut ds lo hi))) : wpE K fd (tSl (rSlA K) te tl th) env C := fun F σ H I Q k =>
  h F σ H I _ fun x H1 d u1 r c1 => c1 F σ H1 (I.up u1) _ fun lo H2 u2 c2 => c2 F σ H2 ((I.up u1).up u2) _ fun hi H3 u3 c3 => by
    obtain ⟨ds, rfl, c⟩ := c3
    have r3 := dmono ((I.up u1).see (u2.trans u3)) r
    cases r3 with
    | @tup a us _ sa ra =>
      refine ⟨a, us, rfl, ex_t off_full sa, fun e => ?_, fun _ p hp => k _ _ _ (((u1.trans u2).trans u3).trans (.ex u3.feed (Ex.new hp))) (new_tup (((I.up u1).up u2).up u3).there hp (all_cut ra lo hi)) c⟩
      have e2 : cut ds lo hi = ds := by
        unfold cut
        rw [← all_len ra, e.1, e.2, List.drop_zero, Nat.sub_zero, all_len ra, List.take_length]
      rw [e2] at c
      exact k _ _ _ ((u1.trans u2).trans u3) (.tup sa ra) c
theorem wp_chain {r r' : R2} (h : wpE K fd ta env fun a => wpE K fd tb env fun b => OpD K r a b fun d => ∃ k, d = .bool k ∧ (k = true → wpE K fd tc env fun c => OpD K r' b c C) ∧ (k = false → C (.bool false)))
    (hd : ∀ σ H Q, tChain r r' ta tb tc σ H Q = (ta σ H fun x H1 => tb σ H1 fun y H2 => r x y H2 fun z H3 => ∃ k, z = .bl k ∧ (if k = true then tc σ H3 (fun w H4 => r' y w H4 Q) else Q (.bl false) H3)) := by intros; rfl) : wpE K fd (tChain r r' ta tb tc) env C := fun F σ H I Q k => by
  rw [hd]
  refine h F σ H I _ fun x H1 a u1 ra q1 => q1 F σ H1 (I.up u1) _ fun y H2 b u2 rb q2 => q2 F H2 x y ((I.up u1).up u2).there (dmono ((I.up u1).see u2) ra) rb _ fun v H3 d e r3 c3 => ?_
  obtain ⟨kb, rfl, c1, c2⟩ := c3
  cases r3
  have u3 : Up fd H H3 := (u1.trans u2).trans (.ex u2.feed e)
  refine ⟨kb, rfl, ?_⟩
  cases kb with
  | false => rw [if_neg (by decide)]; exact k _ _ _ u3 (.bl _) (c2 rfl)
  | true =>
    rw [if_pos rfl]
    have I3 := I.up u3
    exact c1 rfl F σ H3 I3 _ fun w H4 c u4 rc q4 => q4 F H4 y w (I3.up u4).there (dmono (Ex.trans (off_exE e) (I3.see u4)) rb) rc Q fun v H5 d e5 r5 c5 => k v H5 d ((u3.trans u4).trans (.ex u4.feed e5)) r5 c5
def tTr (K : Frag) (ta : TE) : TT := fun σ H Q => ta σ H fun x H' => ∃ k, TruV K x H' k ∧ Q k H'
theorem wpT_tr {CB : Bool → Prop} (h : wpE K fd ta env fun d => (∃ ds, (d = .list ds ∨ d = .tuple ds) ∧ CB (!ds.isEmpty)) ∨ (∃ b, d = .bool b ∧ CB b) ∨ (∃ i, d = .int i ∧ CB (i != 0)) ∨ (d = .none ∧ CB false)) : wpT K fd (tTr K ta) env CB := fun F σ H I Q k =>
  h F σ H I _ fun x H1 d u r c => by
    rcases c with ⟨ds, rfl | rfl, c⟩ | ⟨b, rfl, c⟩ | ⟨i, rfl, c⟩ | ⟨rfl, c⟩
    · cases r with
      | @lst a us _ sa ra =>
        have e : (!us.isEmpty) = !ds.isEmpty := by cases ra <;> rfl
        exact ⟨_, .inl ⟨us, sq_of (off_full _ _ sa), rfl⟩, k _ H1 u (by rw [e]; exact c)⟩
    · cases r with
      | @tup a us _ sa ra =>
        have e : (!us.isEmpty) = !ds.isEmpty := by cases ra <;> rfl
        exact ⟨_, .inr (.inl ⟨us, ex_t off_full sa, rfl⟩), k _ H1 u (by rw [e]; exact c)⟩
    · cases r; exact ⟨b, rfl, k _ H1 u c⟩
    · cases r; exact ⟨_, rfl, k _ H1 u c⟩
    · cases r; exact ⟨false, rfl, k _ H1 u c⟩
def isNone : PyData → Bool
  | .none => true
  | _ => false
theorem isNone_eq {G : Hp} {x : V} {d : PyData} (r : Dr K G x d) : decide (x = V.non) = isNone d := by cases r <;> rfl
theorem opd_isN {d : PyData} (c : C (.bool (isNone d))) : OpD K (fun x y H Q => y = .non ∧ Q (.bl (decide (x = .non))) H) d .none C := fun F H x y th rx ry Q k => by
  cases ry
  refine ⟨rfl, ?_⟩
  rw [isNone_eq rx]
  exact k _ H _ (Ex.refl H) (.bl _) c
theorem opd_notN {d : PyData} (c : C (.bool (!isNone d))) : OpD K (fun x y H Q => y = .non ∧ Q (.bl (!decide (x = .non))) H) d .none C := fun F H x y th rx ry Q k => by
  cases ry
  refine ⟨rfl, ?_⟩
  rw [isNone_eq rx]
  exact k _ H _ (Ex.refl H) (.bl _) c
/-! ## contracts -/
/-- a def that changes nothing that stood: G says for which data and results -/
def spP (K : Frag) (G : List PyData → (PyData → Prop) → Prop) : Sp := fun vs H Q _ => ∃ (F : Ad) (ds : List PyData) (C : PyData → Prop), (∀ a, F a → H a ≠ none) ∧ DrAll K (off F H) vs ds ∧ G ds C ∧
  ∀ r H' d, Ex H H' → Dr K (off F H') r d → C d → Q r H'
/-- a def that draws from the feed, its first argument -/
def spF (K : Frag) (G : List PyData → (PyData → Prop) → Prop) : Sp := fun vs H Q _ => ∃ (f : Addr) (ws : List V) (F : Ad) (ds : List PyData) (C : PyData → Prop), vs = .ref f :: ws ∧ F f ∧ Feed (fun a => a = f) H ∧ (∀ a, F a → H a ≠ none) ∧ DrAll K (off F H) ws ds ∧ G ds C ∧
  ∀ r H' d, Up (fun a => a = f) H H' → Dr K (off F H') r d → C d → Q r H'
theorem wp_call {G : List PyData → (PyData → Prop) → Prop} {E : XK} {tas : TA} (h : wpA K fd tas env fun ds => G ds C) : wpE K fd (tCall (spP K G) [] E tas) env C := fun F σ H I Q k =>
  h F σ H I _ fun vs H1 ds u r g => by
    show spP K G (vs ++ []) H1 Q E
    rw [List.append_nil]
    exact ⟨F, ds, C, (I.up u).there, r, g, fun r H' d e rd c => k r H' d (u.trans (.ex u.feed e)) rd c⟩
theorem wp_callF {f : Addr} {G : List PyData → (PyData → Prop) → Prop} {E : XK} {tas : TA} {i : Nat} (e : env[i]? = some (.fed f)) (hfd : fd = fun a => a = f) (h : wpA K fd tas env fun ds => G ds C) : wpE K fd (tCall (spF K G) [] E (tCons (tVar i) tas)) env C := fun F σ H I Q k => by
  subst hfd
  obtain ⟨o, h1, h2⟩ := I.get e
  cases o with
  | none => exact False.elim h2
  | some v =>
    obtain ⟨rfl, _⟩ := h2
    refine ⟨_, h1, h F σ H I _ fun vs H1 ds u r g => ?_⟩
    show spF K G ((V.ref f :: vs) ++ []) H1 Q E
    rw [List.append_nil]
    exact ⟨f, vs, F, ds, C, rfl, I.fdF f rfl, u.feed, (I.up u).there, r, g, fun r H' d u2 rd c => k r H' d (u.trans u2) rd c⟩
end
end Dn

namespace Dn
open PySem L2 Evl
section
variable {K : Frag} {fd : Ad} {env : List Sl} {te ta tb tc : TE} {C : PyData → Prop} {CL : List PyData → Prop}
/-! ## own lists as plain data -/
def unown1 : Sl → Sl
  | .own _ ds => .dat (.list ds)
  | x => x
def unown (env : List Sl) : List Sl := env.map unown1
def own1 : Sl → List Addr → List Addr
  | .own p _, l => p :: l
  | _, l => l
def ownd : List Sl → List Addr
  | [] => []
  | x :: env => own1 x (ownd env)
theorem own1_mem {x : Sl} {l : List Addr} {q : Addr} (h : q ∈ l) : q ∈ own1 x l := by
  cases x with
  | own p ds => exact List.mem_cons_of_mem _ h
  | no => exact h
  | dat d => exact h
  | fed f => exact h
  | raw v => exact h
theorem mem_ownd {p : Addr} {ds : List PyData} : ∀ {env : List Sl} {i : Nat}, env[i]? = some (.own p ds) → p ∈ ownd env
  | [], i, e => by simp at e
  | y :: env, 0, e => by
    have ey : y = .own p ds := Option.some.inj e
    subst ey
    exact List.mem_cons_self ..
  | y :: env, i + 1, e => own1_mem (mem_ownd (env := env) (i := i) e)
theorem ownd_get {p : Addr} : ∀ {env : List Sl}, p ∈ ownd env → ∃ (i : Nat) (ds : List PyData), env[i]? = some (.own p ds)
  | [], h => by cases h
  | y :: env, h => by
    have step : p ∈ ownd env → ∃ (i : Nat) (ds : List PyData), (y :: env)[i]? = some (.own p ds) := fun h => by
      obtain ⟨i, ds, e⟩ := ownd_get h
      exact ⟨i + 1, ds, e⟩
    cases y with
    | own q ds =>
      rcases List.mem_cons.mp (show p ∈ q :: ownd env from h) with h | h
      · subst h; exact ⟨0, ds, rfl⟩
      · exact step h
    | no => exact step h
    | dat d => exact step h
    | fed f => exact step h
    | raw v => exact step h
theorem EnvOk.unown {F F0 : Ad} {σ : L2.St} {H : Hp} (h : EnvOk K fd F σ H env) (s : ∀ a, F0 a → F a) (f : ∀ a, fd a → F0 a) (n : ∀ p, p ∈ ownd env → ¬ F0 p) : EnvOk K fd F0 σ H (unown env) where
  there := fun a q => h.there a (s a q)
  fdF := f
  feed := h.feed
  len := by rw [h.len]; unfold Dn.unown; rw [List.length_map]
  slot := fun i o x e1 e2 => by
    unfold Dn.unown at e2
    rw [List.getElem?_map] at e2
    cases e3 : env[i]? with
    | none => rw [e3] at e2; cases e2
    | some y =>
      rw [e3] at e2
      have e2 : unown1 y = x := Option.some.inj e2
      have q := h.slot i o y e1 e3
      cases y with
      | no => subst e2; cases o <;> exact True.intro
      | dat d =>
        subst e2
        cases o with
        | none => exact q
        | some v => exact dmono (off_less s) q
      | own p ds =>
        subst e2
        cases o with
        | none => exact q
        | some v =>
          obtain ⟨rfl, h2, h3, vs, h4, h5⟩ := q
          exact .lst (by rw [off_ne (n p (mem_ownd e3))]; exact h4) (dmonoAll (off_less s) h5)
      | fed f => subst e2; cases o <;> exact q
      | raw w => subst e2; cases o <;> exact q
theorem EnvOk.ownNfd {F : Ad} {σ : L2.St} {H : Hp} (I : EnvOk K fd F σ H env) {p : Addr} (hp : p ∈ ownd env) : ¬ fd p := by
  obtain ⟨i, ds, e⟩ := ownd_get hp
  obtain ⟨o, e1, q⟩ := I.get e
  cases o with
  | none => exact False.elim q
  | some v => exact q.2.2.1
theorem EnvOk.un1 {F : Ad} {σ : L2.St} {H : Hp} (I : EnvOk K fd F σ H env) : EnvOk K fd (fun a => F a ∧ ¬ a ∈ ownd env) σ H (Dn.unown env) :=
  I.unown (fun a q => q.1) (fun a q => ⟨I.fdF a q, fun z => I.ownNfd z q⟩) (fun p hp z => z.2 hp)
/-- a test read with the own lists as plain data -/
theorem wpT_unown {tt : TT} {CB : Bool → Prop} (h : wpT K fd tt (unown env) CB) : wpT K fd tt env CB := fun F σ H I Q k => h _ σ H I.un1 Q k
/-- an expression likewise, its value flat -/
theorem wpE_unown (h : wpE K fd te (unown env) fun d => flat d = true ∧ C d) : wpE K fd te env C := fun F σ H I Q k =>
  h _ σ H I.un1 Q fun v H2 d u r c => k v H2 d u (dflat c.1 r) c.2
/-! ## statements -/
structure Po where
  nx : List Sl → Prop
  rt : PyData → Prop
  bk : List Sl → Prop := fun _ => False
  ct : List Sl → Prop := fun _ => False
  /-- an own list is handed back -/
  ow : List PyData → Prop := fun _ => False
/-- within a def that began at H0, F0 hidden from it -/
structure StOk (K : Frag) (fd F0 : Ad) (H0 : Hp) (σ : L2.St) (H : Hp) (env : List Sl) : Prop where
  ev : EnvOk K fd (fun a => F0 a ∨ a ∈ ownd env) σ H env
  old : ∀ a o, ¬ fd a → H0 a = some o → H a = some o
  th0 : ∀ a, F0 a → H0 a ≠ none
  fd0 : ∀ a, fd a → F0 a
  fresh : ∀ p, p ∈ ownd env → H0 p = none
  nd : (ownd env).Nodup
structure Fin (K : Frag) (fd F0 : Ad) (H0 : Hp) (H : Hp) : Prop where
  up : Up fd H0 H
/-- the ends of a statement, told by data -/
structure DOk (K : Frag) (fd F0 : Ad) (H0 : Hp) (D : Ends) (P : Po) : Prop where
  nx : ∀ σ H env, P.nx env → StOk K fd F0 H0 σ H env → D.nx σ H
  bk : ∀ σ H env, P.bk env → StOk K fd F0 H0 σ H env → D.bk σ H
  ct : ∀ σ H env, P.ct env → StOk K fd F0 H0 σ H env → D.ct σ H
  rt : ∀ v H d, P.rt d → Up fd H0 H → Dr K (off F0 H) v d → D.rt v H
  ow : ∀ p vs H ds, P.ow ds → H0 p = none → Up fd H0 H → H p = some (.lst vs) → DrAll K (off (fun a => F0 a ∨ a = p) H) vs ds → D.rt (.ref p) H
def wpS (K : Frag) (fd : Ad) (t : TS) (env : List Sl) (P : Po) : Prop :=
  ∀ (F0 : Ad) (H0 : Hp) (σ : L2.St) (H : Hp), StOk K fd F0 H0 σ H env → ∀ D : Ends, DOk K fd F0 H0 D P → t D σ H
section
variable {F0 : Ad} {H0 H H' : Hp} {σ : L2.St} {P : Po} {t u : TS}
theorem StOk.upE (h : StOk K fd F0 H0 σ H env) (u : Up fd H H') : StOk K fd F0 H0 σ H' env :=
  ⟨h.ev.up u, fun a o n e => u.keep a o n (h.old a o n e), h.th0, h.fd0, h.fresh, h.nd⟩
theorem StOk.all (h : StOk K fd F0 H0 σ H env) : Up fd H0 H := ⟨h.old, h.ev.feed⟩
theorem StOk.un (h : StOk K fd F0 H0 σ H env) : EnvOk K fd F0 σ H (unown env) := h.ev.unown (fun a q => .inl q) h.fd0 fun p hp q => h.th0 p q (h.fresh p hp)
theorem SlOk.less {F G : Ad} {o : Option V} {x : Sl} (s : ∀ a, G a → F a) (n : ∀ p ds, x = .own p ds → G p) (h : SlOk K fd F H o x) : SlOk K fd G H o x := by
  cases x with
  | no => cases o <;> exact True.intro
  | dat d =>
    cases o with
    | none => exact h
    | some v => exact dmono (off_less s) h
  | own p ds =>
    cases o with
    | none => exact h
    | some v =>
      obtain ⟨h1, h2, h3, vs, h4, h5⟩ := h
      exact ⟨h1, n p ds rfl, h3, vs, h4, dmonoAll (off_less s) h5⟩
  | fed f => cases o <;> exact h
  | raw w => cases o <;> exact h
theorem own1_sub {x : Sl} {l l' : List Addr} (h : l.Sublist l') : (own1 x l).Sublist (own1 x l') := by
  cases x with
  | own p ds => exact h.cons₂ p
  | no => exact h
  | dat d => exact h
  | fed f => exact h
  | raw v => exact h
theorem own1_sup {x : Sl} {l : List Addr} : l.Sublist (own1 x l) := by
  cases x with
  | own p ds => exact List.sublist_cons_self _ _
  | no => exact List.Sublist.refl _
  | dat d => exact List.Sublist.refl _
  | fed f => exact List.Sublist.refl _
  | raw v => exact List.Sublist.refl _
theorem own1_not {x : Sl} {l : List Addr} (hx : ∀ p ds, x ≠ .own p ds) : own1 x l = l := by
  cases x with
  | own p ds => exact absurd rfl (hx p ds)
  | no => rfl
  | dat d => rfl
  | fed f => rfl
  | raw v => rfl
theorem ownd_sub {x : Sl} (hx : ∀ p ds, x ≠ .own p ds) : ∀ {env : List Sl} {i : Nat}, (ownd (env.set i x)).Sublist (ownd env)
  | [], i => by simp
  | y :: env, 0 => by
    show (own1 x (ownd env)).Sublist (own1 y (ownd env))
    rw [own1_not hx]
    exact own1_sup
  | y :: env, i + 1 => own1_sub (ownd_sub hx (env := env) (i := i))
/-- a slot takes what is not an own list -/
theorem StOk.set (h : StOk K fd F0 H0 σ H env) {i : Nat} {v : V} {x : Sl} (hx : SlOk K fd (fun a => F0 a ∨ a ∈ ownd env) H (some v) x) (hn : ∀ p ds, x ≠ .own p ds) : StOk K fd F0 H0 (σ.set i (some v)) H (env.set i x) := by
  have sub := ownd_sub hn (env := env) (i := i)
  have I := h.ev.set (i := i) hx
  refine ⟨⟨fun a q => I.there a (q.imp id fun z => sub.subset z), fun a q => .inl (h.fd0 a q), I.feed, I.len, fun j o y e1 e2 => (I.slot j o y e1 e2).less (fun a q => q.imp id fun z => sub.subset z) fun p ds e => ?_⟩, h.old, h.th0, h.fd0, fun p hp => h.fresh p (sub.subset hp), h.nd.sublist sub⟩
  subst e
  exact .inr (mem_ownd e2)
theorem wpS_seq (h : wpS K fd t env { P with nx := fun env' => wpS K fd u env' P }) : wpS K fd (tSeq t u) env P := fun F0 H0 σ H I D k =>
  h F0 H0 σ H I _ ⟨fun σ' H' env' q I' => q F0 H0 σ' H' I' D k, k.bk, k.ct, k.rt, k.ow⟩
theorem wpS_next (h : P.nx env) : wpS K fd tNext env P := fun F0 H0 σ H I D k => k.nx σ H env h I
theorem wpS_brk (h : P.bk env) : wpS K fd tBreak env P := fun F0 H0 σ H I D k => k.bk σ H env h I
theorem wpS_cnt (h : P.ct env) : wpS K fd tCont env P := fun F0 H0 σ H I D k => k.ct σ H env h I
theorem wpS_asg {i : Nat} (h : wpE K fd te env fun d => P.nx (env.set i (.dat d))) : wpS K fd (tAsg te (gName i)) env P := fun F0 H0 σ H I D k =>
  h _ σ H I.ev _ fun v H2 d u r c => k.nx _ _ _ c ((I.upE u).set (x := .dat d) r (fun p ds e => by cases e))
theorem wpS_drop (h : wpE K fd te env fun d => P.nx env) : wpS K fd (tDrop te) env P := fun F0 H0 σ H I D k =>
  h _ σ H I.ev _ fun v H2 d u r c => k.nx _ _ _ c (I.upE u)
theorem wpS_ret (h : wpE K fd te (unown env) P.rt) : wpS K fd (tRet te) env P := fun F0 H0 σ H I D k =>
  h _ σ H I.un _ fun v H2 d u r c => k.rt v H2 d c (I.all.trans u) r
theorem wpS_retN (h : P.rt .none) : wpS K fd tRetN env P := fun F0 H0 σ H I D k => k.rt _ H _ h I.all .non
theorem wpS_if {tt : TT} (h : wpT K fd tt env fun b => (b = true → wpS K fd t env P) ∧ (b = false → wpS K fd u env P)) : wpS K fd (tIfS tt t u) env P := fun F0 H0 σ H I D k =>
  h _ σ H I.ev _ fun b H2 up c => by
    cases b with
    | true => rw [if_pos rfl]; exact c.1 rfl F0 H0 σ H2 (I.upE up) D k
    | false => rw [if_neg (by decide)]; exact c.2 rfl F0 H0 σ H2 (I.upE up) D k
theorem wpS_never : wpS K fd tNever env P → wpS K fd tNever env P := id
/-- what a def's body gives when control falls off its end -/
theorem wpS_imp {P' : Po} (h : wpS K fd t env P) (h1 : ∀ e, P.nx e → P'.nx e) (h2 : ∀ d, P.rt d → P'.rt d) (h3 : ∀ e, P.bk e → P'.bk e) (h4 : ∀ e, P.ct e → P'.ct e) (h5 : ∀ d, P.ow d → P'.ow d) : wpS K fd t env P' := fun F0 H0 σ H I D k =>
  h F0 H0 σ H I D ⟨fun σ H e q => k.nx σ H e (h1 e q), fun σ H e q => k.bk σ H e (h3 e q), fun σ H e q => k.ct σ H e (h4 e q), fun v H d q => k.rt v H d (h2 d q), fun p vs H d q => k.ow p vs H d (h5 d q)⟩
/-! own lists -/
theorem own1_or {x : Sl} {l : List Addr} {q : Addr} (h : q ∈ own1 x l) : (∃ ds, x = .own q ds) ∨ q ∈ l := by
  cases x with
  | own p ds =>
    rcases List.mem_cons.mp (show q ∈ p :: l from h) with h | h
    · subst h; exact .inl ⟨ds, rfl⟩
    · exact .inr h
  | no => exact .inr h
  | dat d => exact .inr h
  | fed f => exact .inr h
  | raw v => exact .inr h
theorem ownd_set_own {p : Addr} {ds : List PyData} {q : Addr} : ∀ {env : List Sl} {i : Nat}, q ∈ ownd (env.set i (.own p ds)) → q = p ∨ q ∈ ownd env
  | [], i, h => by simp [ownd] at h
  | y :: env, 0, h => by
    rcases List.mem_cons.mp (show q ∈ p :: ownd env from h) with h | h
    · exact .inl h
    · exact .inr (own1_mem h)
  | y :: env, i + 1, h => by
    rcases own1_or (show q ∈ own1 y (ownd (env.set i (.own p ds))) from h) with ⟨es, e⟩ | h
    · subst e; exact .inr (List.mem_cons_self ..)
    · exact (ownd_set_own h).imp id own1_mem
theorem nodup_set_own {p : Addr} {ds : List PyData} : ∀ {env : List Sl} {i : Nat}, (ownd env).Nodup → ¬ p ∈ ownd env → (ownd (env.set i (.own p ds))).Nodup
  | [], i, h, n => by simp [ownd]
  | y :: env, 0, h, n => List.nodup_cons.mpr ⟨fun z => n (own1_mem z), h.sublist own1_sup⟩
  | y :: env, i + 1, h, n => by
    have ih := nodup_set_own (p := p) (ds := ds) (env := env) (i := i) (h.sublist own1_sup) fun z => n (own1_mem z)
    cases y with
    | own p' ds' =>
      refine List.nodup_cons.mpr ⟨fun z => ?_, ih⟩
      rcases ownd_set_own z with e | z
      · exact n (List.mem_cons.mpr (.inl e.symm))
      · exact (List.nodup_cons.mp (show (p' :: ownd env).Nodup from h)).1 z
    | no => exact ih
    | dat d => exact ih
    | fed f => exact ih
    | raw v => exact ih
theorem SlOk.more {F G : Ad} {o : Option V} {x : Sl} (s : ∀ a, G a → F a ∨ H a = none) (n : ∀ p ds, x = .own p ds → G p) (h : SlOk K fd F H o x) : SlOk K fd G H o x := by
  have e : Ex (off F H) (off G H) := fun a o e => by
    obtain ⟨n1, e1⟩ := off_some e
    rw [off_ne fun q => (s a q).elim n1 fun z => by rw [z] at e1; cases e1]
    exact e1
  cases x with
  | no => cases o <;> exact True.intro
  | dat d =>
    cases o with
    | none => exact h
    | some v => exact dmono e h
  | own p ds =>
    cases o with
    | none => exact h
    | some v =>
      obtain ⟨h1, h2, h3, vs, h4, h5⟩ := h
      exact ⟨h1, n p ds rfl, h3, vs, h4, dmonoAll e h5⟩
  | fed f => cases o <;> exact h
  | raw w => cases o <;> exact h
theorem StOk.newOwn {i : Nat} {H2 : Hp} {p : Addr} {vs : List V} {ds : List PyData} (I : StOk K fd F0 H0 σ H env) (u : Up fd H H2) (hp : H p = none) (e : H2 p = some (.lst vs)) (r : DrAll K (off (fun a => (F0 a ∨ a ∈ ownd env) ∨ a = p) H2) vs ds) :
    StOk K fd F0 H0 (σ.set i (some (.ref p))) H2 (env.set i (.own p ds)) := by
  have I2 := I.upE u
  have np : H0 p = none := none_back I.th0 I.fd0 I.all hp
  have nfd : ¬ fd p := fun z => by
    obtain ⟨d, m, q, _⟩ := I.ev.feed p z
    rw [q] at hp; cases hp
  have nown : ¬ p ∈ ownd env := fun z => I.ev.there p (.inr z) hp
  have lt : (ownd (env.set i (.own p ds))).Nodup := nodup_set_own I.nd nown
  have hid : ∀ a, (F0 a ∨ a ∈ ownd (env.set i (.own p ds))) → ((F0 a ∨ a ∈ ownd env) ∨ a = p) := fun a q => by
    rcases q with q | q
    · exact .inl (.inl q)
    · rcases ownd_set_own q with q | q
      · exact .inr q
      · exact .inl (.inr q)
  refine ⟨⟨fun a q => ?_, fun a q => .inl (I.fd0 a q), I2.ev.feed, by rw [List.length_set, List.length_set]; exact I2.ev.len, fun j o y e1 e2 => ?_⟩, I2.old, I.th0, I.fd0, fun q hq => ?_, lt⟩
  · rcases hid a q with q | q
    · exact I2.ev.there a q
    · subst q; rw [e]; intro z; cases z
  · by_cases hj : i = j
    · subst hj
      have l1 : i < σ.length := by have := (List.getElem?_eq_some_iff.mp e1).1; rwa [List.length_set] at this
      have l2 : i < env.length := by have := (List.getElem?_eq_some_iff.mp e2).1; rwa [List.length_set] at this
      have m : p ∈ ownd (env.set i (.own p ds)) := mem_ownd (i := i) (ds := ds) (List.getElem?_set_self l2)
      rw [List.getElem?_set_self l1] at e1
      rw [List.getElem?_set_self l2] at e2
      cases e1; cases e2
      exact ⟨rfl, .inr m, nfd, vs, e, dmonoAll (off_less hid) r⟩
    · have e2' := e2
      rw [List.getElem?_set_ne hj] at e1 e2
      -- the slot was told ahead of the new list: it stands in H, carried to H2
      have q0 := I.ev.slot j o y e1 e2
      have q1 : SlOk K fd (fun a => F0 a ∨ a ∈ ownd (env.set i (.own p ds))) H o y := q0.more (fun a z => (hid a z).imp id fun z => by rw [z]; exact hp) fun p' ds' z => by
        subst z; exact .inr (mem_ownd e2')
      refine q1.up (fun a z => .inl (I.fd0 a z)) u
  · rcases ownd_set_own hq with z | z
    · rw [z]; exact np
    · exact I.fresh q z
theorem wpS_own {i : Nat} (h : wpN K fd te env fun ds => ∀ p, P.nx (env.set i (.own p ds))) : wpS K fd (tAsg te (gName i)) env P := fun F0 H0 σ H I D k =>
  h _ σ H I.ev _ fun p vs H2 ds hp u e r c => k.nx _ _ _ (c p) (I.newOwn u hp e r)
theorem ownd_same {p : Addr} {ds es : List PyData} : ∀ {env : List Sl} {i : Nat}, env[i]? = some (.own p ds) → ownd (env.set i (.own p es)) = ownd env
  | [], i, e => by simp at e
  | y :: env, 0, e => by
    have ey : y = .own p ds := Option.some.inj e
    subst ey
    rfl
  | y :: env, i + 1, e => congrArg (own1 y) (ownd_same (env := env) (i := i) e)
theorem own_apart {p : Addr} : ∀ {env : List Sl} {i j : Nat} {ds ds' : List PyData}, i ≠ j → env[i]? = some (.own p ds) → env[j]? = some (.own p ds') → ¬ (ownd env).Nodup
  | [], i, j, ds, ds', _, e, _, _ => by simp at e
  | y :: env, 0, 0, ds, ds', hij, _, _, _ => hij rfl
  | y :: env, 0, j + 1, ds, ds', hij, e, e', nd => by
    have ey : y = .own p ds := Option.some.inj e
    subst ey
    exact (List.nodup_cons.mp (show (p :: ownd env).Nodup from nd)).1 (mem_ownd (i := j) e')
  | y :: env, i + 1, 0, ds, ds', hij, e, e', nd => by
    have ey : y = .own p ds' := Option.some.inj e'
    subst ey
    exact (List.nodup_cons.mp (show (p :: ownd env).Nodup from nd)).1 (mem_ownd (i := i) e)
  | y :: env, i + 1, j + 1, ds, ds', hij, e, e', nd => own_apart (env := env) (i := i) (j := j) (fun z => hij (by rw [z])) e e' (nd.sublist own1_sup)
/-- an own list is changed -/
theorem StOk.mut (h : StOk K fd F0 H0 σ H env) {i : Nat} {p : Addr} {ds es : List PyData} {vs ws : List V} (e : env[i]? = some (.own p ds)) (r : DrAll K (off (fun a => F0 a ∨ a ∈ ownd env) H) ws es) : StOk K fd F0 H0 σ (upd H p (.lst ws)) (env.set i (.own p es)) := by
  obtain ⟨o, e1, q⟩ := h.ev.get e
  have hi : i < env.length := (List.getElem?_eq_some_iff.mp e).1
  have hm : p ∈ ownd env := mem_ownd e
  have oe : ∀ q, q ∈ ownd (env.set i (.own p es)) ↔ q ∈ ownd env := by
    intro q
    refine ⟨fun z => (ownd_set_own z).elim (fun z => z ▸ hm) id, fun z => ?_⟩
    obtain ⟨j, fs, ej⟩ := ownd_get z
    by_cases hj : i = j
    · subst hj
      rw [e] at ej
      have eq : p = q := by injection ej with ej; injection ej
      subst eq
      exact mem_ownd (i := i) (List.getElem?_set_self hi)
    · exact mem_ownd (i := j) (by rw [List.getElem?_set_ne hj]; exact ej)
  have ehid : (fun a => F0 a ∨ a ∈ ownd (env.set i (.own p es))) = (fun a => F0 a ∨ a ∈ ownd env) := by
    funext a
    exact propext ⟨fun z => z.imp id (oe a).mp, fun z => z.imp id (oe a).mpr⟩
  cases o with
  | none => exact False.elim q
  | some v =>
    obtain ⟨rfl, h2, h3, us, h4, h5⟩ := q
    have eoff : off (fun a => F0 a ∨ a ∈ ownd env) (upd H p (.lst ws)) = off (fun a => F0 a ∨ a ∈ ownd env) H := by
      funext a
      by_cases z : F0 a ∨ a ∈ ownd env
      · rw [off_in (S := fun a => F0 a ∨ a ∈ ownd env) z, off_in (S := fun a => F0 a ∨ a ∈ ownd env) z]
      · rw [off_ne (S := fun a => F0 a ∨ a ∈ ownd env) z, off_ne (S := fun a => F0 a ∨ a ∈ ownd env) z, upd_ne (show a ≠ p from fun w => z (.inr (by rw [w]; exact hm)))]
    have hn : ownd (env.set i (.own p es)) = ownd env := ownd_same e
    refine ⟨?_, fun a o n z => ?_, h.th0, h.fd0, fun q hq => h.fresh q ((oe q).mp hq), by rw [hn]; exact h.nd⟩
    · rw [ehid]
      refine ⟨fun a z => ?_, h.ev.fdF, fun f z => ?_, by rw [List.length_set]; exact h.ev.len, fun j o y a1 a2 => ?_⟩
      · by_cases w : a = p
        · rw [w, upd_same]; intro c; cases c
        · rw [upd_ne w]; exact h.ev.there a z
      · obtain ⟨d, m, a1, a2⟩ := h.ev.feed f z
        exact ⟨d, m, by rw [upd_ne (show f ≠ p from fun w => h3 (by rw [← w]; exact z))]; exact a1, a2⟩
      · by_cases hj : i = j
        · subst hj
          rw [List.getElem?_set_self hi] at a2
          rw [e1] at a1
          cases a1; cases a2
          exact ⟨rfl, h2, h3, ws, upd_same, by rw [eoff]; exact r⟩
        · rw [List.getElem?_set_ne hj] at a2
          have z := h.ev.slot j o y a1 a2
          cases y with
          | no => cases o <;> exact True.intro
          | dat d =>
            cases o with
            | none => exact z
            | some v =>
              show Dr K (off _ _) v d
              rw [eoff]; exact z
          | own p' ds' =>
            cases o with
            | none => exact z
            | some v =>
              obtain ⟨b1, b2, b3, us', b4, b5⟩ := z
              have hne : p' ≠ p := fun w => by
                subst w
                exact own_apart hj e a2 h.nd
              exact ⟨b1, b2, b3, us', by rw [upd_ne hne]; exact b4, by rw [eoff]; exact b5⟩
          | fed f => cases o <;> exact z
          | raw w => cases o <;> exact z
    · have w : a ≠ p := fun c => by rw [c, h.fresh p hm] at z; cases z
      rw [upd_ne w]
      exact h.old a o n z
theorem StOk.slotOwn (h : StOk K fd F0 H0 σ H env) {i : Nat} {p : Addr} {ds : List PyData} (e : env[i]? = some (.own p ds)) : σ[i]? = some (some (.ref p)) ∧ ∃ vs, H p = some (.lst vs) ∧ DrAll K (off (fun a => F0 a ∨ a ∈ ownd env) H) vs ds := by
  obtain ⟨o, e1, q⟩ := h.ev.get e
  cases o with
  | none => exact False.elim q
  | some v =>
    obtain ⟨rfl, h2, h3, us, h4, h5⟩ := q
    exact ⟨e1, us, h4, h5⟩
/-- return xs, xs an own list -/
theorem wpS_retOwn {i : Nat} {p : Addr} {ds : List PyData} (e : env[i]? = some (.own p ds)) (h : P.ow ds) : wpS K fd (tRet (tVar i)) env P := fun F0 H0 σ H I D k => by
  obtain ⟨e1, us, h4, h5⟩ := I.slotOwn e
  exact ⟨_, e1, k.ow p us H ds h (I.fresh p (mem_ownd e)) I.all h4 (dmonoAll (off_less fun a q => q.imp id fun z => by rw [z]; exact mem_ownd e) h5)⟩
theorem wpS_retNew (h : wpN K fd te (unown env) P.ow) : wpS K fd (tRet te) env P := fun F0 H0 σ H I D k =>
  h _ σ H I.un _ fun p vs H2 ds hp u e r c => k.ow p vs H2 ds c (none_back I.th0 I.fd0 I.all hp) (I.all.trans u) e r
/-- xs.append(e), xs an own list -/
theorem wpS_append {i : Nat} {p : Addr} {ds : List PyData} (e : env[i]? = some (.own p ds)) (hz : ds.length < 100000) (h : wpE K fd te env fun d => P.nx (env.set i (.own p (ds ++ [d])))) :
    wpS K fd (tDrop (tBM K "list" rAppend (tVar i) (tCons te tNil))) env P := fun F0 H0 σ H I D k => by
  obtain ⟨e1, us, h4, h5⟩ := I.slotOwn e
  refine ⟨_, e1, .inl ⟨rfl, _, SqL.of h4⟩, h _ σ H I.ev _ fun v H2 d u r c => ?_⟩
  have I2 := I.upE u
  obtain ⟨e1', us', h4', h5'⟩ := I2.slotOwn e
  refine ⟨p, us', v, rfl, rfl, h4', sz_lt (by rw [all_len h5']; exact hz), ?_⟩
  exact k.nx _ _ _ c (I2.mut (vs := us') e (all_app h5' (all_one r)))
end
end
end Dn

namespace Dn
open PySem L2 Evl
section
variable {K : Frag} {fd : Ad} {env : List Sl} {te ta tb tc : TE} {C : PyData → Prop} {CL : List PyData → Prop}
/-! ## targets: what is put where -/
def asgE (env : List Sl) (as : List (Nat × PyData)) : List Sl := as.foldl (fun e p => e.set p.1 (.dat p.2)) env
def asgV (σ : L2.St) (as : List (Nat × V)) : L2.St := as.foldl (fun e p => e.set p.1 (some p.2)) σ
inductive PairA (K : Frag) (G : Hp) : List (Nat × V) → List (Nat × PyData) → Prop
  | nil : PairA K G [] []
  | cons {i : Nat} {v : V} {d : PyData} {ws : List (Nat × V)} {as : List (Nat × PyData)} : Dr K G v d → PairA K G ws as → PairA K G ((i, v) :: ws) ((i, d) :: as)
theorem PairA.app {G : Hp} {ws xs : List (Nat × V)} {as bs : List (Nat × PyData)} (h : PairA K G ws as) (q : PairA K G xs bs) : PairA K G (ws ++ xs) (as ++ bs) := by
  induction h with
  | nil => exact q
  | cons a _ ih => exact .cons a ih
theorem PairA.fst {G : Hp} {ws : List (Nat × V)} {as : List (Nat × PyData)} (h : PairA K G ws as) : ws.map (·.1) = as.map (·.1) := by
  induction h with
  | nil => rfl
  | cons a _ ih => simp [ih]
def gD (K : Frag) (g : TG) (d : PyData) (as : List (Nat × PyData)) : Prop :=
  ∀ (S : Ad) (H : Hp) (σ : L2.St) (v : V) (N : L2.St → Hp → Prop), Dr K (off S H) v d → (∀ ws, PairA K (off S H) ws as → N (asgV σ ws) H) → g v σ H N
def gsD (K : Frag) (g : TGs) (ds : List PyData) (as : List (Nat × PyData)) : Prop :=
  ∀ (S : Ad) (H : Hp) (σ : L2.St) (vs : List V) (N : L2.St → Hp → Prop), DrAll K (off S H) vs ds → (∀ ws, PairA K (off S H) ws as → N (asgV σ ws) H) → g vs σ H N
theorem gD_name {i : Nat} {d : PyData} : gD K (gName i) d [(i, d)] := fun S H σ v N r k => k [(i, v)] (.cons r .nil)
theorem gsD_nil : gsD K gNil [] [] := fun S H σ vs N r k => by cases r; exact ⟨rfl, k [] .nil⟩
theorem gsD_cons {g : TG} {gs : TGs} {d : PyData} {ds : List PyData} {as bs : List (Nat × PyData)} (h : gD K g d as) (q : gsD K gs ds bs) : gsD K (gCons g gs) (d :: ds) (as ++ bs) := fun S H σ vs N r k => by
  cases r with
  | cons a b => exact ⟨_, _, rfl, h S H σ _ _ a fun ws p => q S H _ _ N b fun xs p2 => by
      have z := k (ws ++ xs) (p.app p2)
      unfold asgV at z ⊢
      rw [List.foldl_append] at z
      exact z⟩
theorem gD_tup {n : Nat} {gs : TGs} {ds : List PyData} {as : List (Nat × PyData)} (h : gsD K gs ds as) (hn : ds.length = n) : gD K (gTup K n gs) (.tuple ds) as := fun S H σ v N r k => by
  cases r with
  | @tup a us _ sa ra => exact ⟨a, us, rfl, ex_t off_full sa, by rw [all_len ra]; exact hn, h S H σ us N ra k⟩
theorem EnvOk.asg {F : Ad} {H : Hp} {ws : List (Nat × V)} {as : List (Nat × PyData)} (p : PairA K (off F H) ws as) : ∀ {σ : L2.St} {env : List Sl}, EnvOk K fd F σ H env → EnvOk K fd F (asgV σ ws) H (asgE env as) := by
  induction p with
  | nil => exact fun h => h
  | cons a _ ih => exact fun h => ih (h.set (x := .dat _) a)
theorem StOk.asg {F0 : Ad} {H0 H : Hp} {G : Hp} {ws : List (Nat × V)} {as : List (Nat × PyData)} (p : PairA K G ws as) : ∀ {σ : L2.St} {env : List Sl}, StOk K fd F0 H0 σ H env → Ex G (off (fun a => F0 a ∨ a ∈ ownd env) H) → StOk K fd F0 H0 (asgV σ ws) H (asgE env as) := by
  induction p with
  | nil => exact fun h _ => h
  | cons a _ ih =>
    intro σ env h e
    refine ih (h.set (x := .dat _) (dmono e a) fun p ds z => by cases z) (e.trans (off_less fun a q => q.imp id fun z => (ownd_sub (fun p ds z => by cases z)).subset z))
theorem wpS_asgT {g : TG} {P : Po} (h : wpE K fd te env fun d => ∃ as, gD K g d as ∧ P.nx (asgE env as)) : wpS K fd (tAsg te g) env P := fun F0 H0 σ H I D k =>
  h _ σ H I.ev _ fun v H2 d u r c => by
    obtain ⟨as, hg, c⟩ := c
    exact hg _ H2 σ v _ r fun ws p => k.nx _ _ _ c ((I.upE u).asg p (Ex.refl _))
/-! ## what is walked -/
structure ItD (K : Frag) (F : Ad) (J : It) (H : Hp) (ds : List PyData) : Prop where
  go : ∀ i H', Ex (off F H) H' → i < ds.length → J.go i H'
  stop : ∀ i H', Ex (off F H) H' → ds.length ≤ i → J.stop i H'
  yld : ∀ i x H' H'', Ex (off F H) H' → i < ds.length → J.yld i H' x H'' → ∃ d, ds[i]? = some d ∧ Ex H' H'' ∧ ∀ G, Ex (off F H) G → (∀ a o, H' a = none → H'' a = some o → G a = some o) → Dr K G x d
def wpI (K : Frag) (fd : Ad) (wi : TI) (env : List Sl) (C : List PyData → Prop) : Prop :=
  ∀ (F : Ad) (σ : L2.St) (H : Hp), EnvOk K fd F σ H env → ∀ R : It → Hp → Prop, (∀ J H2 ds, Up fd H H2 → ItD K F J H2 ds → C ds → R J H2) → wi σ H R
theorem sql_one {H : Hp} {a : Addr} {xs ys : List V} (h : H a = some (.lst xs)) (e : K.lookup a = none) (q : SqL K H a ys) : ys = xs := by
  rcases q with (q | ⟨o, q⟩) | ⟨o, its, n, q, _⟩
  · rw [h] at q; injection q with q; injection q with q; exact q.symm
  · rw [h] at q; cases q
  · rw [e] at q; cases q
theorem wpI_list (h : wpE K fd te env fun d => ∃ ds, d = .list ds ∧ CL ds) : wpI K fd (iList K te) env CL := fun F σ H I R k =>
  h F σ H I _ fun v H2 d u r c => by
    obtain ⟨ds, rfl, c⟩ := c
    cases r with
    | @lst a us _ sa ra =>
      have hl := all_len ra
      refine ⟨a, rfl, ⟨us, sq_of (off_full _ _ sa)⟩, k _ H2 ds u ⟨fun i H' e hi => ?_, fun i H' e hi => ⟨us, sq_of (e _ _ sa), by rw [hl]; exact hi⟩, fun i x H' H'' e hi y => ?_⟩ c⟩
      · have hi' : i < us.length := by rw [hl]; exact hi
        exact ⟨us, us[i], sq_of (e _ _ sa), List.getElem?_eq_getElem hi'⟩
      · obtain ⟨rfl, y⟩ := y
        obtain ⟨d, e1, e2⟩ := all_get' ra (y us (sq_of (e _ _ sa)))
        exact ⟨d, e1, Ex.refl _, fun G g _ => dmono g e2⟩
theorem wpI_tup (h : wpE K fd te env fun d => ∃ ds, d = .tuple ds ∧ CL ds) : wpI K fd (iTup K te) env CL := fun F σ H I R k =>
  h F σ H I _ fun v H2 d u r c => by
    obtain ⟨ds, rfl, c⟩ := c
    cases r with
    | @tup a us _ sa ra =>
      have hl := all_len ra
      refine ⟨a, rfl, ⟨us, ex_t off_full sa⟩, k _ H2 ds u ⟨fun i H' e hi => ?_, fun i H' e hi => ⟨us, ex_t e sa, by rw [hl]; exact hi⟩, fun i x H' H'' e hi y => ?_⟩ c⟩
      · have hi' : i < us.length := by rw [hl]; exact hi
        exact ⟨us, us[i], ex_t e sa, List.getElem?_eq_getElem hi'⟩
      · obtain ⟨rfl, y⟩ := y
        obtain ⟨d, e1, e2⟩ := all_get' ra (y us (ex_t e sa))
        exact ⟨d, e1, Ex.refl _, fun G g _ => dmono g e2⟩
def rng (lo : Int) (n : Nat) : List PyData := (List.range n).map fun (k : Nat) => PyData.int (lo + (k : Int))
theorem rng_len {lo : Int} {n : Nat} : (rng lo n).length = n := by unfold rng; rw [List.length_map, List.length_range]
theorem rng_get {lo : Int} {n i : Nat} (h : i < n) : (rng lo n)[i]? = some (.int (lo + (i : Int))) := by
  unfold rng
  rw [List.getElem?_map, List.getElem?_range h]
  rfl
theorem itd_rng {F : Ad} {lo : Int} {n : Nat} {H : Hp} : ItD K F (Itr lo n) H (rng lo n) :=
  ⟨fun i H' e hi => by rw [rng_len] at hi; exact hi, fun i H' e hi => by rw [rng_len] at hi; exact hi, fun i x H' H'' e hi y => by
    obtain ⟨rfl, rfl⟩ := y
    rw [rng_len] at hi
    exact ⟨_, rng_get hi, Ex.refl _, fun G _ _ => .int _⟩⟩
theorem wpI_rng1 {ta : TA} (h : wpA K fd ta env fun ds => ∃ j : Int, ds = [.int j] ∧ -(2 ^ 62) ≤ j ∧ j < 2 ^ 62 ∧ CL (rng 0 j.toNat)) : wpI K fd (iRng1 ta) env CL := fun F σ H I R k =>
  h F σ H I _ fun vs H1 ds u r c => by
    obtain ⟨j, rfl, h1, h2, c⟩ := c
    cases r with
    | cons a b => cases b; cases a; exact ⟨j, rfl, h1, h2, k _ H1 _ u itd_rng c⟩
theorem wpI_rng2 {ta : TA} (h : wpA K fd ta env fun ds => ∃ i j : Int, ds = [.int i, .int j] ∧ (-(2 ^ 62) ≤ i ∧ i < 2 ^ 62 ∧ -(2 ^ 62) ≤ j ∧ j < 2 ^ 62) ∧ CL (rng i (j - i).toNat)) : wpI K fd (iRng2 ta) env CL := fun F σ H I R k =>
  h F σ H I _ fun vs H1 ds u r c => by
    obtain ⟨i, j, rfl, h1, c⟩ := c
    cases r with
    | cons a b =>
      cases b with
      | cons b e => cases e; cases a; cases b; exact ⟨i, j, rfl, h1, k _ H1 _ u itd_rng c⟩
/-- (0, x), (1, y), .. -/
def enumD (ds : List PyData) : List PyData := ds.mapIdx fun k d => .tuple [.int (k : Int), d]
theorem enumD_len {ds : List PyData} : (enumD ds).length = ds.length := by unfold enumD; rw [List.length_mapIdx]
theorem enumD_get {ds : List PyData} {i : Nat} {d : PyData} (h : ds[i]? = some d) : (enumD ds)[i]? = some (.tuple [.int (i : Int), d]) := by
  unfold enumD
  rw [List.getElem?_mapIdx, h]
  rfl
theorem wpI_enum {ta : TA} (h : wpA K fd ta env fun ds => ∃ es, ds = [.list es] ∧ CL (enumD es)) : wpI K fd (iEnum K ta) env CL := fun F σ H I R k =>
  h F σ H I _ fun vs H2 ds u r c => by
    obtain ⟨es, rfl, c⟩ := c
    cases r with
    | cons r b =>
      cases b
      cases r with
      | @lst a us _ sa ra =>
        have hl := all_len ra
        refine ⟨a, us, rfl, sq_of (off_full _ _ sa), k _ H2 _ u ⟨fun i H' e hi => ?_, fun i H' e hi => ⟨us, sq_of (e _ _ sa), by rw [enumD_len] at hi; rw [hl]; exact hi⟩, fun i x H' H'' e hi y => ?_⟩ c⟩
        · rw [enumD_len] at hi
          have hi' : i < us.length := by rw [hl]; exact hi
          exact ⟨us, us[i], sq_of (e _ _ sa), List.getElem?_eq_getElem hi'⟩
        · obtain ⟨T, z, rfl, hT, rfl, y⟩ := y
          obtain ⟨d, e1, e2⟩ := all_get' ra (y us (sq_of (e _ _ sa)))
          refine ⟨_, enumD_get e1, Ex.new hT, fun G g g2 => .tup (st_of (g2 _ _ hT upd_same)) (.cons (.int _) (all_one (dmono g e2)))⟩
/-! ## for -/
section
variable {P : Po} {tb : TS} {g : TG} {wi : TI} {F0 : Ad} {H0 H H1 : Hp} {σ : L2.St}
/-- the same state, seen from here on: all that is seen now but the own lists must stay -/
theorem StOk.base (h : StOk K fd F0 H0 σ H env) : StOk K fd F0 (off (fun a => a ∈ ownd env) H) σ H env where
  ev := h.ev
  old := fun a o n e => (off_some e).2
  th0 := fun a q => by
    rw [off_ne (S := fun a => a ∈ ownd env) fun z => h.th0 a q (h.fresh a z)]
    exact h.ev.there a (.inl q)
  fd0 := h.fd0
  fresh := fun p hp => off_in (S := fun a => a ∈ ownd env) hp
  nd := h.nd
theorem fd_not_own (h : StOk K fd F0 H0 σ H env) {a : Addr} (q : fd a) : ¬ a ∈ ownd env := fun z => h.th0 a (h.fd0 a q) (h.fresh a z)
theorem base_up (h : StOk K fd F0 H0 σ H env) : Up fd H0 (off (fun a => a ∈ ownd env) H) where
  keep := fun a o n e => by
    rw [off_ne (S := fun a => a ∈ ownd env) fun z => by rw [h.fresh a z] at e; cases e]
    exact h.old a o n e
  feed := fun f q => by
    obtain ⟨d, m, e, r⟩ := h.ev.feed f q
    exact ⟨d, m, by rw [off_ne (S := fun a => a ∈ ownd env) (fd_not_own h q)]; exact e, r⟩
theorem StOk.back {H' H2 : Hp} {σ' : L2.St} {env' : List Sl} (u : Up fd H0 H1) (th : ∀ a, F0 a → H0 a ≠ none) (h : StOk K fd F0 H1 σ' H' env') : StOk K fd F0 H0 σ' H' env' where
  ev := h.ev
  old := fun a o n e => h.old a o n (u.keep a o n e)
  th0 := th
  fd0 := h.fd0
  fresh := fun p hp => none_back th h.fd0 u (h.fresh p hp)
  nd := h.nd
theorem DOk.base {D : Ends} (u : Up fd H0 H1) (th : ∀ a, F0 a → H0 a ≠ none) (hf : ∀ a, fd a → F0 a) (k : DOk K fd F0 H0 D P) : DOk K fd F0 H1 D P where
  nx := fun σ H e q I => k.nx σ H e q (I.back (H2 := H) u th)
  bk := fun σ H e q I => k.bk σ H e q (I.back (H2 := H) u th)
  ct := fun σ H e q I => k.ct σ H e q (I.back (H2 := H) u th)
  rt := fun v H d q u2 r => k.rt v H d q (u.trans u2) r
  ow := fun p vs H d q n u2 e r => k.ow p vs H d q (none_back th hf u n) (u.trans u2) e r
theorem see_base {H' : Hp} {σ' : L2.St} {env' : List Sl} (h : StOk K fd F0 H0 σ H env) (q : StOk K fd F0 (off (fun a => a ∈ ownd env) H) σ' H' env') : Ex (off (fun a => F0 a ∨ a ∈ ownd env) H) H' := fun a o e => by
  obtain ⟨n, e⟩ := off_some e
  exact q.old a o (fun z => n (.inl (h.fd0 a z))) (by rw [off_ne (S := fun a => a ∈ ownd env) fun z => n (.inr z)]; exact e)
theorem wpS_for {wi : TI} (h : wpI K fd wi env fun ds => ∃ I : Nat → List Sl → Prop, I 0 env ∧
    (∀ i d env', ds[i]? = some d → I i env' → ∃ as, gD K g d as ∧ wpS K fd tb (asgE env' as) { P with nx := I (i + 1), ct := I (i + 1), bk := P.nx }) ∧ ∀ env', I ds.length env' → P.nx env') :
    wpS K fd (tFor wi g tb) env P := fun F0 H0 σ H S D k =>
  h _ σ H S.ev _ fun J H2 ds u it c => by
    obtain ⟨I, i0, turn, last⟩ := c
    have S2 := S.upE u
    have ub := base_up S2
    have kb := k.base ub S.th0 S.fd0
    refine ⟨fun i m σ' H' => m = ds.length - i ∧ i ≤ ds.length ∧ ∃ env', I i env' ∧ StOk K fd F0 (off (fun a => a ∈ ownd env) H2) σ' H' env', ⟨ds.length, by simp, Nat.zero_le _, env, i0, S2.base⟩, ?_⟩
    rintro i m σ' H' ⟨rfl, hi, env', inv, S'⟩
    have e := see_base S2 S'
    by_cases hlt : i < ds.length
    · refine .inr ⟨it.go i H' e hlt, fun σ' H' => i + 1 ≤ ds.length ∧ ∃ env', I (i + 1) env' ∧ StOk K fd F0 (off (fun a => a ∈ ownd env) H2) σ' H' env', fun σ'' H'' ⟨a, b⟩ => ⟨ds.length - (i + 1), by omega, rfl, a, b⟩, fun x H'' y => ?_⟩
      obtain ⟨d, ed, ex, rd⟩ := it.yld i x H' H'' e hlt y
      obtain ⟨as, hg, hb⟩ := turn i d env' ed inv
      have u2 : Up fd H' H'' := .ex S'.ev.feed ex
      have S3 := S'.upE u2
      have z0 : Ex (off (fun a => F0 a ∨ a ∈ ownd env) H2) (off (fun a => F0 a ∨ a ∈ ownd env') H'') := fun a o q => by
        have q1 := ex _ _ (e _ _ q)
        obtain ⟨n, q2⟩ := off_some q
        rw [off_ne (S := fun a => F0 a ∨ a ∈ ownd env') fun z => ?_]
        · exact q1
        · rcases z with z | z
          · exact n (.inl z)
          · have f := S'.fresh a z
            rw [off_ne (S := fun a => a ∈ ownd env) fun z => n (.inr z), q2] at f
            cases f
      have r := rd (off (fun a => F0 a ∨ a ∈ ownd env') H'') z0 fun a o q1 q2 => by
        rw [off_ne (S := fun a => F0 a ∨ a ∈ ownd env') fun z => S'.ev.there a z q1]; exact q2
      refine hg _ H'' σ' x _ r fun ws p => ?_
      refine hb F0 _ _ H'' (S3.asg p (Ex.refl _)) _ ⟨fun σ H env q I => ⟨hlt, env, q, I⟩, kb.nx, fun σ H env q I => ⟨hlt, env, q, I⟩, kb.rt, kb.ow⟩
    · have ei : i = ds.length := Nat.le_antisymm hi (Nat.le_of_not_lt hlt)
      subst ei
      exact .inl ⟨it.stop _ H' e (Nat.le_refl _), kb.nx σ' H' env' (last env' inv) S'⟩
theorem wpS_while {c : TT} (I : Nat → List Sl → Prop) (m0 : Nat) (i0 : I m0 env) (turn : ∀ m env', I m env' → wpT K fd c env' fun b =>
    (b = true → wpS K fd tb env' { P with nx := fun e => ∃ m', m' < m ∧ I m' e, ct := fun e => ∃ m', m' < m ∧ I m' e, bk := P.nx }) ∧ (b = false → P.nx env')) : wpS K fd (tWhile c tb) env P := fun F0 H0 σ H S D k => by
  refine ⟨fun m σ H => ∃ env', I m env' ∧ StOk K fd F0 H0 σ H env', ⟨m0, env, i0, S⟩, ?_⟩
  rintro m σ' H' ⟨env', inv, S'⟩
  refine turn m env' inv _ σ' H' S'.ev _ fun b H2 u q => ?_
  have S2 := S'.upE u
  cases b with
  | true =>
    rw [if_pos rfl]
    refine ⟨fun σ H => ∃ m', m' < m ∧ ∃ env', I m' env' ∧ StOk K fd F0 H0 σ H env', fun σ H ⟨m', l, e⟩ => ⟨m', l, e⟩, ?_⟩
    exact q.1 rfl F0 H0 σ' H2 S2 _ ⟨fun σ H e ⟨m', l, i⟩ I => ⟨m', l, e, i, I⟩, k.nx, fun σ H e ⟨m', l, i⟩ I => ⟨m', l, e, i, I⟩, k.rt, k.ow⟩
  | false => rw [if_neg (by decide)]; exact k.nx _ _ _ (q.2 rfl) S2
end
/-! ## comprehensions -/
def wipeE (env : List Sl) : List Nat → List Sl
  | [] => env
  | v :: vs => (wipeE env vs).set v .no
theorem wipe_get {σ : L2.St} {j : Nat} : ∀ {vs : List Nat}, (wipe σ vs)[j]? = if j ∈ vs then (σ[j]?).map (fun _ => none) else σ[j]?
  | [] => by simp [wipe]
  | v :: vs => by
    have ih := wipe_get (σ := σ) (j := j) (vs := vs)
    unfold wipe
    by_cases hv : v = j
    · subst hv
      rw [if_pos (List.mem_cons_self ..)]
      by_cases hl : v < σ.length
      · rw [List.getElem?_set_self (by rw [wipe_length]; exact hl), List.getElem?_eq_getElem hl]
        rfl
      · rw [List.getElem?_eq_none (by rw [List.length_set, wipe_length]; omega), List.getElem?_eq_none (by omega)]
        rfl
    · rw [List.getElem?_set_ne hv, ih]
      by_cases hm : j ∈ vs
      · rw [if_pos hm, if_pos (List.mem_cons_of_mem _ hm)]
      · rw [if_neg hm, if_neg fun z => (List.mem_cons.mp z).elim (fun z => hv z.symm) hm]
theorem wipeE_len : ∀ {vs : List Nat}, (wipeE env vs).length = env.length
  | [] => rfl
  | v :: vs => by unfold wipeE; rw [List.length_set, wipeE_len]
theorem wipeE_get {j : Nat} : ∀ {vs : List Nat}, (wipeE env vs)[j]? = if j ∈ vs then (env[j]?).map (fun _ => .no) else env[j]?
  | [] => by simp [wipeE]
  | v :: vs => by
    have ih := wipeE_get (j := j) (vs := vs)
    unfold wipeE
    by_cases hv : v = j
    · subst hv
      rw [if_pos (List.mem_cons_self ..)]
      by_cases hl : v < env.length
      · rw [List.getElem?_set_self (by rw [wipeE_len]; exact hl), List.getElem?_eq_getElem hl]
        rfl
      · rw [List.getElem?_eq_none (by rw [List.length_set, wipeE_len]; omega), List.getElem?_eq_none (by omega)]
        rfl
    · rw [List.getElem?_set_ne hv, ih]
      by_cases hm : j ∈ vs
      · rw [if_pos hm, if_pos (List.mem_cons_of_mem _ hm)]
      · rw [if_neg hm, if_neg fun z => (List.mem_cons.mp z).elim (fun z => hv z.symm) hm]
theorem EnvOk.wipe {F : Ad} {σ : L2.St} {H : Hp} (h : EnvOk K fd F σ H env) (vs : List Nat) : EnvOk K fd F (L2.wipe σ vs) H (wipeE env vs) :=
  ⟨h.there, h.fdF, h.feed, by rw [wipe_length, wipeE_len]; exact h.len, fun j o x e1 e2 => by
    rw [wipe_get] at e1
    rw [wipeE_get] at e2
    by_cases hm : j ∈ vs
    · rw [if_pos hm] at e1 e2
      cases q : env[j]? with
      | none => rw [q] at e2; cases e2
      | some y =>
        rw [q] at e2
        have e2 : Sl.no = x := Option.some.inj e2
        subst e2
        cases o <;> exact True.intro
    · rw [if_neg hm] at e1 e2
      exact h.slot j o x e1 e2⟩
theorem asgV_len : ∀ {ws : List (Nat × V)} {σ : L2.St}, (asgV σ ws).length = σ.length
  | [], σ => rfl
  | w :: ws, σ => by
    have z := asgV_len (ws := ws) (σ := σ.set w.1 (some w.2))
    rw [List.length_set] at z
    exact z
theorem asgV_get {j : Nat} : ∀ {ws : List (Nat × V)} {σ : L2.St}, (∀ w, w ∈ ws → w.1 ≠ j) → (asgV σ ws)[j]? = σ[j]?
  | [], σ, _ => rfl
  | w :: ws, σ, h => by
    have z := asgV_get (j := j) (ws := ws) (σ := σ.set w.1 (some w.2)) fun x hx => h x (List.mem_cons_of_mem _ hx)
    rw [List.getElem?_set_ne (h w (List.mem_cons_self ..))] at z
    exact z
theorem wipe_asg {σ : L2.St} {ws : List (Nat × V)} {vs : List Nat} (h : ∀ w, w ∈ ws → w.1 ∈ vs) : wipe (asgV (wipe σ vs) ws) vs = wipe σ vs := by
  apply List.ext_getElem?
  intro j
  rw [wipe_get, wipe_get]
  by_cases hm : j ∈ vs
  · rw [if_pos hm, if_pos hm]
    by_cases hl : j < σ.length
    · rw [List.getElem?_eq_getElem (by rw [asgV_len, wipe_length]; exact hl), List.getElem?_eq_getElem hl]; rfl
    · rw [List.getElem?_eq_none (by rw [asgV_len, wipe_length]; omega), List.getElem?_eq_none (by omega)]
  · rw [if_neg hm, if_neg hm, asgV_get fun w hw z => hm (by rw [← z]; exact h w hw), wipe_get, if_neg hm]
theorem PairA.slots {G : Hp} {ws : List (Nat × V)} {as : List (Nat × PyData)} {vs : List Nat} (p : PairA K G ws as) (h : ∀ a, a ∈ as → a.1 ∈ vs) : ∀ w, w ∈ ws → w.1 ∈ vs := fun w hw => by
  have z : w.1 ∈ ws.map (·.1) := List.mem_map.mpr ⟨w, hw, rfl⟩
  rw [p.fst] at z
  obtain ⟨a, ha, e⟩ := List.mem_map.mp z
  rw [← e]; exact h a ha
theorem asgE_own {p : Addr} {ds : List PyData} {jj : Nat} : ∀ (as : List (Nat × PyData)) {E : List Sl}, (asgE E as)[jj]? = some (Sl.own p ds) → E[jj]? = some (Sl.own p ds)
  | [], E, h => h
  | a :: as, E, h => by
    have h2 := asgE_own as (E := E.set a.1 (.dat a.2)) h
    by_cases w : a.1 = jj
    · subst w
      by_cases l : a.1 < E.length
      · rw [List.getElem?_set_self l] at h2; cases h2
      · rw [List.getElem?_eq_none (by rw [List.length_set]; omega)] at h2; cases h2
    · rw [List.getElem?_set_ne w] at h2; exact h2
theorem wipeE_own {p : Addr} {ds : List PyData} {jj : Nat} {vs : List Nat} (z2 : (wipeE env vs)[jj]? = some (Sl.own p ds)) : env[jj]? = some (Sl.own p ds) := by
  rw [wipeE_get] at z2
  by_cases w : jj ∈ vs
  · rw [if_pos w] at z2
    cases e9 : env[jj]? with
    | none => rw [e9] at z2; cases z2
    | some y9 => rw [e9] at z2; cases z2
  · rw [if_neg w] at z2; exact z2
/-- the list that a comprehension grows -/
def AccAt (K : Frag) (F : Ad) (Dl : Addr) (H : Hp) (acc : List PyData) : Prop := ∃ vs, H Dl = some (.lst vs) ∧ DrAll K (off (fun a => F a ∨ a = Dl) H) vs acc
section
variable {F : Ad} {σ : L2.St} {H H1 H2 H3 : Hp} {Dl : Addr} {acc : List PyData}
theorem acc_env (I : EnvOk K fd F σ H env) (hD : H Dl = none) (u : Up fd H H2) (h : AccAt K F Dl H2 acc) : EnvOk K fd (fun a => F a ∨ a = Dl) σ H2 env :=
  ⟨fun a q => by
    rcases q with q | q
    · exact there_up I.there u a q
    · subst q
      obtain ⟨vs, e, _⟩ := h
      rw [e]; exact (fun z => nomatch z), fun a q => .inl (I.fdF a q), u.feed, I.len, fun j o x e1 e2 =>
    ((I.slot j o x e1 e2).more (fun a q => q.imp id fun z => by rw [z]; exact hD) fun p ds z => by
      subst z
      have q := I.slot j o _ e1 e2
      cases o with
      | none => exact False.elim q
      | some v => exact .inl q.2.1).up (fun a q => .inl (I.fdF a q)) u⟩
theorem acc_up (hn : ¬ fd Dl) (u : Up fd H2 H3) (hf : ∀ a, fd a → F a) (h : AccAt K F Dl H2 acc) : AccAt K F Dl H3 acc := by
  obtain ⟨vs, e, r⟩ := h
  exact ⟨vs, u.keep _ _ hn e, dmonoAll (off_ex (fun a q => .inl (hf a q)) u.keep) r⟩
theorem acc_push {y : V} {e : PyData} (h : AccAt K F Dl H acc) (r : Dr K (off (fun a => F a ∨ a = Dl) H) y e) : ∃ vs, H Dl = some (.lst vs) ∧ AccAt K F Dl (upd H Dl (.lst (vs ++ [y]))) (acc ++ [e]) ∧ vs.length = acc.length := by
  obtain ⟨vs, e1, r1⟩ := h
  have eoff : off (fun a => F a ∨ a = Dl) (upd H Dl (.lst (vs ++ [y]))) = off (fun a => F a ∨ a = Dl) H := by
    funext a
    by_cases z : F a ∨ a = Dl
    · rw [off_in (S := fun a => F a ∨ a = Dl) z, off_in (S := fun a => F a ∨ a = Dl) z]
    · rw [off_ne (S := fun a => F a ∨ a = Dl) z, off_ne (S := fun a => F a ∨ a = Dl) z, upd_ne (show a ≠ Dl from fun w => z (.inr w))]
  exact ⟨vs, e1, ⟨_, upd_same, by rw [eoff]; exact all_app r1 (all_one r)⟩, all_len r1⟩
end
theorem wpT_yes {CB : Bool → Prop} (c : CB true) : wpT K fd tYes env CB := fun F σ H I Q k => k _ _ (.refl I.feed) c
theorem wpN_lc {wi : TI} {g : TG} {tt : TT} {vs : List Nat} (h : wpI K fd wi env fun ds => ∃ Inv : Nat → List PyData → Prop, Inv 0 [] ∧
    (∀ i d acc, ds[i]? = some d → Inv i acc → ∃ as, gD K g d as ∧ (∀ a, a ∈ as → a.1 ∈ vs) ∧ wpT K fd tt (asgE (wipeE env vs) as) fun b =>
      (b = true → wpE K fd te (asgE (wipeE env vs) as) fun e => acc.length < 100000 ∧ Inv (i + 1) (acc ++ [e])) ∧ (b = false → Inv (i + 1) acc)) ∧ ∀ acc, Inv ds.length acc → CL acc) :
    wpN K fd (tLc wi g tt te vs) env CL := fun F σ H I Q k =>
  h F σ H I _ fun J H1 ds u it c => by
    obtain ⟨Inv, i0, turn, last⟩ := c
    intro D hD
    have hD0 : H D = none := none_back I.there I.fdF u hD
    have nfd : ¬ fd D := fun z => by
      obtain ⟨d, m, q, _⟩ := I.feed D z
      rw [q] at hD0; cases hD0
    refine ⟨fun i m H' => m = ds.length - i ∧ i ≤ ds.length ∧ ∃ acc, AccAt K F D H' acc ∧ Inv i acc ∧ Up fd H1 H', ⟨ds.length, by simp, Nat.zero_le _, [], ⟨[], upd_same, .nil⟩, i0, .ex u.feed (Ex.new hD)⟩, ?_⟩
    rintro i m H' ⟨rfl, hi, acc, ac, inv, u1⟩
    have e : Ex (off F H1) H' := fun a o q => by
      obtain ⟨n, q⟩ := off_some q
      exact u1.keep a o (fun z => n (I.fdF a z)) q
    by_cases hlt : i < ds.length
    · refine .inr ⟨it.go i H' e hlt, fun H' => i + 1 ≤ ds.length ∧ ∃ acc, AccAt K F D H' acc ∧ Inv (i + 1) acc ∧ Up fd H1 H', fun H'' ⟨a, b⟩ => ⟨ds.length - (i + 1), by omega, rfl, a, b⟩, fun x H'' y => ?_⟩
      obtain ⟨d, ed, ex, rd⟩ := it.yld i x H' H'' e hlt y
      obtain ⟨as, hg, hs, hb⟩ := turn i d acc ed inv
      have u2 : Up fd H' H'' := .ex u1.feed ex
      have ac2 := acc_up nfd u2 I.fdF ac
      have I2 := (acc_env I hD0 (u.trans (u1.trans u2)) ac2).wipe vs
      have r := rd (off (fun a => F a ∨ a = D) H'') (fun a o q => by
        obtain ⟨n, q1⟩ := off_some q
        rw [off_ne (S := fun a => F a ∨ a = D) fun z => z.elim n fun z => by rw [z, hD] at q1; cases q1]
        exact ex _ _ (e _ _ q)) fun a o q1 q2 => by
        rw [off_ne (S := fun a => F a ∨ a = D) fun z => ?_]
        · exact q2
        · rcases z with z | z
          · exact there_up I.there (u.trans u1) a z q1
          · obtain ⟨vs, e2, _⟩ := ac
            rw [z, e2] at q1; cases q1
      refine hg _ H'' (L2.wipe σ vs) x _ r fun ws p => ⟨wipe_asg (p.slots hs), ?_⟩
      have I3 := I2.asg p
      refine hb _ _ H'' I3 _ fun b H3 u3 q => ?_
      have ac3 := acc_up nfd u3 I.fdF ac2
      cases b with
      | true =>
        rw [if_pos rfl]
        refine q.1 rfl _ _ H3 (I3.up u3) _ fun yv H4 e4 u4 r4 q4 => ?_
        obtain ⟨vs4, h1, h2, h3⟩ := acc_push (acc_up nfd u4 I.fdF ac3) r4
        refine ⟨vs4, h1, sz_lt (by rw [h3]; exact q4.1), hlt, _, h2, q4.2, ?_⟩
        have uu := ((u1.trans u2).trans u3).trans u4
        exact ⟨fun a o n z => by rw [upd_ne (show a ≠ D from fun w => by rw [w, hD] at z; cases z)]; exact uu.keep a o n z, fun f z => by
          obtain ⟨d, m, z1, z2⟩ := uu.feed f z
          exact ⟨d, m, by rw [upd_ne (show f ≠ D from fun w => nfd (by rw [← w]; exact z))]; exact z1, z2⟩⟩
      | false =>
        rw [if_neg (by decide)]
        exact ⟨hlt, acc, ac3, q.2 rfl, (u1.trans u2).trans u3⟩
    · have ei : i = ds.length := Nat.le_antisymm hi (Nat.le_of_not_lt hlt)
      subst ei
      obtain ⟨vs', e1, r1⟩ := ac
      exact .inl ⟨it.stop _ H' e (Nat.le_refl _), k D vs' H' acc hD0 (u.trans u1) e1 r1 (last acc inv)⟩
theorem wpN_lc2 {wi wi1 : TI} {g g1 : TG} {tt tt1 : TT} {vs vs1 : List Nat} (h : wpI K fd wi env fun ds => ∃ Inv : Nat → List PyData → Prop, Inv 0 [] ∧
    (∀ i d acc, ds[i]? = some d → Inv i acc → ∃ as, gD K g d as ∧ (∀ a, a ∈ as → a.1 ∈ vs) ∧ wpT K fd tt (asgE (wipeE env vs) as) fun b =>
      (b = true → wpI K fd wi1 (asgE (wipeE env vs) as) fun es => ∃ Inv1 : Nat → List PyData → Prop, Inv1 0 acc ∧
        (∀ j e acc', es[j]? = some e → Inv1 j acc' → ∃ bs, gD K g1 e bs ∧ (∀ a, a ∈ bs → a.1 ∈ vs1) ∧ wpT K fd tt1 (asgE (wipeE (asgE (wipeE env vs) as) vs1) bs) fun b =>
          (b = true → wpE K fd te (asgE (wipeE (asgE (wipeE env vs) as) vs1) bs) fun y => acc'.length < 100000 ∧ Inv1 (j + 1) (acc' ++ [y])) ∧ (b = false → Inv1 (j + 1) acc')) ∧
        ∀ acc', Inv1 es.length acc' → Inv (i + 1) acc') ∧ (b = false → Inv (i + 1) acc)) ∧ ∀ acc, Inv ds.length acc → CL acc) :
    wpN K fd (tLc2 wi g tt wi1 g1 tt1 te vs vs1) env CL := fun F σ H I Q k =>
  h F σ H I _ fun J H1 ds u it c => by
    obtain ⟨Inv, i0, turn, last⟩ := c
    intro D hD
    have hD0 : H D = none := none_back I.there I.fdF u hD
    have nfd : ¬ fd D := fun z => by
      obtain ⟨d, m, q, _⟩ := I.feed D z
      rw [q] at hD0; cases hD0
    refine ⟨fun i m H' => m = ds.length - i ∧ i ≤ ds.length ∧ ∃ acc, AccAt K F D H' acc ∧ Inv i acc ∧ Up fd H1 H', ⟨ds.length, by simp, Nat.zero_le _, [], ⟨[], upd_same, .nil⟩, i0, .ex u.feed (Ex.new hD)⟩, ?_⟩
    rintro i m H' ⟨rfl, hi, acc, ac, inv, u1⟩
    have e : Ex (off F H1) H' := fun a o q => by
      obtain ⟨n, q⟩ := off_some q
      exact u1.keep a o (fun z => n (I.fdF a z)) q
    by_cases hlt : i < ds.length
    · refine .inr ⟨it.go i H' e hlt, fun H' => i + 1 ≤ ds.length ∧ ∃ acc, AccAt K F D H' acc ∧ Inv (i + 1) acc ∧ Up fd H1 H', fun H'' ⟨a, b⟩ => ⟨ds.length - (i + 1), by omega, rfl, a, b⟩, fun x H'' y => ?_⟩
      obtain ⟨d, ed, ex, rd⟩ := it.yld i x H' H'' e hlt y
      obtain ⟨as, hg, hs, hb⟩ := turn i d acc ed inv
      have u2 : Up fd H' H'' := .ex u1.feed ex
      have ac2 := acc_up nfd u2 I.fdF ac
      have I2 := (acc_env I hD0 (u.trans (u1.trans u2)) ac2).wipe vs
      have r := rd (off (fun a => F a ∨ a = D) H'') (fun a o q => by
        obtain ⟨n, q1⟩ := off_some q
        rw [off_ne (S := fun a => F a ∨ a = D) fun z => z.elim n fun z => by rw [z, hD] at q1; cases q1]
        exact ex _ _ (e _ _ q)) fun a o q1 q2 => by
        rw [off_ne (S := fun a => F a ∨ a = D) fun z => ?_]
        · exact q2
        · rcases z with z | z
          · exact there_up I.there (u.trans u1) a z q1
          · obtain ⟨vs, e2, _⟩ := ac
            rw [z, e2] at q1; cases q1
      refine hg _ H'' (L2.wipe σ vs) x _ r fun ws p => ⟨wipe_asg (p.slots hs), ?_⟩
      have I3 := I2.asg p
      refine hb _ _ H'' I3 _ fun b H3 u3 q => ?_
      have ac3 := acc_up nfd u3 I.fdF ac2
      cases b with
      | true =>
        rw [if_pos rfl]
        have I4 := I3.up u3
        refine q.1 rfl _ _ H3 I4 _ fun J1 H4 es u4 it1 c1 => ?_
        obtain ⟨Inv1, j0, turn1, last1⟩ := c1
        have ac4 := acc_up nfd u4 I.fdF ac3
        have I5 := I4.up u4
        have uu := ((u1.trans u2).trans u3).trans u4
        -- D stays among the hidden ones: what of it changes is told by AccAt
        refine ⟨fun j m H' => m = es.length - j ∧ j ≤ es.length ∧ ∃ acc, AccAt K F D H' acc ∧ Inv1 j acc ∧ (∀ a o, ¬ fd a → a ≠ D → H4 a = some o → H' a = some o) ∧ Feed fd H', ⟨es.length, by simp, Nat.zero_le _, acc, ac4, j0, fun a o n _ z => z, u4.feed⟩, ?_⟩
        rintro j m' G ⟨rfl, hj, acc1, bc, inv1, kp, fdG⟩
        have up1 : Up fd H1 G := ⟨fun a o n z => kp a o n (fun w => by rw [w, hD] at z; cases z) (uu.keep a o n z), fdG⟩
        have e1 : Ex (off (fun a => F a ∨ a = D) H4) G := fun a o q => by
          obtain ⟨n, q⟩ := off_some q
          exact kp a o (fun z => n (.inl (I.fdF a z))) (fun z => n (.inr z)) q
        by_cases hlt1 : j < es.length
        · refine .inr ⟨it1.go j G e1 hlt1, fun H' => j + 1 ≤ es.length ∧ ∃ acc, AccAt K F D H' acc ∧ Inv1 (j + 1) acc ∧ (∀ a o, ¬ fd a → a ≠ D → H4 a = some o → H' a = some o) ∧ Feed fd H', fun G' ⟨a, b⟩ => ⟨es.length - (j + 1), by omega, rfl, a, b⟩, fun x1 G2 y1 => ?_⟩
          obtain ⟨d1, ed1, ex1, rd1⟩ := it1.yld j x1 G G2 e1 hlt1 y1
          obtain ⟨bs, hg1, hs1, hb1⟩ := turn1 j d1 acc1 ed1 inv1
          have v2 : Up fd G G2 := .ex fdG ex1
          have bc2 := acc_up nfd v2 I.fdF bc
          -- the slots as they were at H4, at G2
          have up2 : Up fd H1 G2 := up1.trans v2
          have I6 : EnvOk K fd (fun a => F a ∨ a = D) (asgV (L2.wipe σ vs) ws) G2 (asgE (wipeE env vs) as) :=
            ⟨fun a q => by
              rcases q with q | q
              · exact there_up I.there (u.trans up2) a q
              · subst q
                obtain ⟨vs, e2, _⟩ := bc2
                rw [e2]; exact (fun z => nomatch z), I5.fdF, v2.feed, I5.len, fun jj o xx a1 a2 => by
              have q0 := I5.slot jj o xx a1 a2
              have see : Ex (off (fun a => F a ∨ a = D) H4) (off (fun a => F a ∨ a = D) G2) := fun a o q => by
                obtain ⟨n, q1⟩ := off_some q
                rw [off_ne (S := fun a => F a ∨ a = D) n]
                exact ex1 _ _ (e1 _ _ q)
              cases xx with
              | no => cases o <;> exact True.intro
              | dat d =>
                cases o with
                | none => exact q0
                | some v => exact dmono see q0
              | own p ds =>
                cases o with
                | none => exact q0
                | some v =>
                  obtain ⟨b1, b2, b3, us, b4, b5⟩ := q0
                  have hp : p ≠ D := fun w => by
                    subst w
                    obtain ⟨o9, z9, q9⟩ := I.get (wipeE_own (asgE_own as a2))
                    cases o9 with
                    | none => exact q9
                    | some v9 =>
                      obtain ⟨_, f9, _, us9, h9, _⟩ := q9
                      rw [hD0] at h9; cases h9
                  exact ⟨b1, b2, b3, us, ex1 _ _ (kp _ _ b3 hp b4), dmonoAll see b5⟩
              | fed f => cases o <;> exact q0
              | raw w => cases o <;> exact q0⟩
          have I7 := I6.wipe vs1
          have r1 := rd1 (off (fun a => F a ∨ a = D) G2) (fun a o q => by
            obtain ⟨n, q1⟩ := off_some q
            rw [off_ne (S := fun a => F a ∨ a = D) n]
            exact ex1 _ _ (e1 _ _ q)) fun a o q1 q2 => by
            rw [off_ne (S := fun a => F a ∨ a = D) fun z => ?_]
            · exact q2
            · rcases z with z | z
              · exact there_up I.there (u.trans up1) a z q1
              · obtain ⟨vs, e2, _⟩ := bc
                rw [z, e2] at q1; cases q1
          refine hg1 _ G2 (L2.wipe (asgV (L2.wipe σ vs) ws) vs1) x1 _ r1 fun ws1 p1 => ⟨wipe_asg (p1.slots hs1), ?_⟩
          have I8 := I7.asg p1
          refine hb1 _ _ G2 I8 _ fun b G3 v3 q3 => ?_
          have bc3 := acc_up nfd v3 I.fdF bc2
          have kp3 : ∀ a o, ¬ fd a → a ≠ D → H4 a = some o → G3 a = some o := fun a o n n2 z => v3.keep _ _ n (v2.keep _ _ n (kp a o n n2 z))
          cases b with
          | true =>
            rw [if_pos rfl]
            refine q3.1 rfl _ _ G3 (I8.up v3) _ fun yv G4 e4 v4 r4 q4 => ?_
            obtain ⟨vs4, h1, h2, h3⟩ := acc_push (acc_up nfd v4 I.fdF bc3) r4
            refine ⟨vs4, h1, sz_lt (by rw [h3]; exact q4.1), hlt1, _, h2, q4.2, fun a o n n2 z => ?_, fun f z => ?_⟩
            · rw [upd_ne n2]; exact v4.keep _ _ n (kp3 a o n n2 z)
            · obtain ⟨d, m, z1, z2⟩ := v4.feed f z
              exact ⟨d, m, by rw [upd_ne (show f ≠ D from fun w => nfd (by rw [← w]; exact z))]; exact z1, z2⟩
          | false =>
            rw [if_neg (by decide)]
            exact ⟨hlt1, acc1, bc3, q3.2 rfl, kp3, v3.feed⟩
        · have ej : j = es.length := Nat.le_antisymm hj (Nat.le_of_not_lt hlt1)
          subst ej
          exact .inl ⟨it1.stop _ G e1 (Nat.le_refl _), hlt, acc1, bc, last1 acc1 inv1, up1⟩
      | false =>
        rw [if_neg (by decide)]
        exact ⟨hlt, acc, ac3, q.2 rfl, (u1.trans u2).trans u3⟩
    · have ei : i = ds.length := Nat.le_antisymm hi (Nat.le_of_not_lt hlt)
      subst ei
      obtain ⟨vs', e1, r1⟩ := ac
      exact .inl ⟨it.stop _ H' e (Nat.le_refl _), k D vs' H' acc hD0 (u.trans u1) e1 r1 (last acc inv)⟩
end
end Dn

namespace Dn
open PySem L2 Evl PyProof.Rows
def nofd : Ad := fun _ => False
section
variable {P : Program} {w : World} {K : Frag} {mg : Str → Option Value} {base : Heap}
/-- a def of the text: it stands at f, its name holds it, its arguments bind -/
structure Df (K : Frag) (mg : Str → Option Value) (x : Str) (st : Stmt) (ps : List Str) (f : Addr) (fdt : FuncData) : Prop where
  F : Fun K x x st f fdt
  m : mg x = some (.ref f)
  b : Binds K fdt ps []
def env0 (N : List Str) (ds : List PyData) : List Sl := ds.map Sl.dat ++ List.replicate (N.length - ds.length) Sl.no
theorem paired_get {G : Hp} {vs : List V} {ds : List PyData} {fd F : Ad} {H : Hp} (h : DrAll K (off F H) vs ds) : ∀ {n m : Nat}, n = m → ∀ (i : Nat) (o : Option V) (x : Sl), (vs.map some ++ List.replicate n none)[i]? = some o → (ds.map Sl.dat ++ List.replicate m Sl.no)[i]? = some x → SlOk K fd F H o x := by
  intro n m enm i o x e1 e2
  have hl := all_len h
  by_cases hi : i < vs.length
  · rw [List.getElem?_append_left (by rw [List.length_map]; exact hi), List.getElem?_map] at e1
    rw [List.getElem?_append_left (by rw [List.length_map, ← hl]; exact hi), List.getElem?_map] at e2
    cases q1 : vs[i]? with
    | none => rw [q1] at e1; cases e1
    | some v =>
      rw [q1] at e1
      obtain ⟨d, q2, r⟩ := all_get' h q1
      rw [q2] at e2
      have a1 : some v = o := Option.some.inj e1
      have a2 : Sl.dat d = x := Option.some.inj e2
      subst a1; subst a2
      exact r
  · rw [List.getElem?_append_right (by rw [List.length_map, ← hl]; omega)] at e2
    have z := List.mem_of_getElem? e2
    have z2 := List.eq_of_mem_replicate z
    subst z2
    cases o <;> exact True.intro
theorem ownd_dat : ∀ (ds : List PyData) (l : List Sl), ownd (ds.map Sl.dat ++ l) = ownd l
  | [], l => rfl
  | d :: ds, l => ownd_dat ds l
theorem ownd_no : ∀ n, ownd (List.replicate n Sl.no) = []
  | 0 => rfl
  | n + 1 => ownd_no n
/-- a def that changes nothing that stood -/
theorem okP {x qual : Str} {st : Stmt} {f : Addr} {fdt : FuncData} {N ps : List Str} {k : Nat} {G : List PyData → (PyData → Prop) → Prop} (D : Fun K x qual st f fdt) (S : FnScope N ps (defScope st)) (hG : ∀ ds C, G ds C → ds.length = ps.length)
    (body : ∀ (cdv : Value) (A : Around) (outer : List Env) (s : Shared) (H : Hp) (E : XK), Room k (A.deeper (envOfC qual (defScope st) s.heap.objs.size f cdv)) →
      ∃ t, PSs (cxOf CX0 P w K mg base N qual (defScope st) f cdv A outer s H E).nox (defBody st) t ∧ ∀ ds C, G ds C → wpS K nofd t (env0 N ds) { nx := fun _ => C .none, rt := C }) : FnOk P w K mg base CX0 (k + 1) f fdt ps (spP K G) := by
  refine D.ok S (fun vs H Q E h => ?_) (fun cdv A outer s H vs Q E hr h => ?_)
  · obtain ⟨F, ds, C, _, r, g, _⟩ := h
    rw [all_len r]; exact hG ds C g
  · obtain ⟨t, ht, hw⟩ := body cdv A outer s H E hr
    obtain ⟨F, ds, C, th, r, g, q⟩ := h
    refine ⟨t, ht, hw ds C g F H (start N vs) H ?_ _ ⟨fun σ H' e c I => q .non H' .none (fun a o z => I.old a o (fun z => z) z) .non c, fun σ H e c => c.elim, fun σ H e c => c.elim, fun v H' d c u r => q v H' d (fun a o z => u.keep a o (fun z => z) z) r c, fun p vs H d c => c.elim⟩⟩
    have eo : ownd (env0 N ds) = [] := by unfold env0; rw [ownd_dat, ownd_no]
    refine ⟨⟨fun a z => ?_, fun a z => z.elim, fun f z => z.elim, ?_, fun i o x e1 e2 => ?_⟩, fun a o _ z => z, th, fun a z => z.elim, fun p hp => (by rw [eo] at hp; cases hp), (by rw [eo]; exact List.nodup_nil)⟩
    · rcases z with z | z
      · exact th a z
      · rw [eo] at z; cases z
    · unfold L2.start env0
      rw [List.length_append, List.length_append, List.length_map, List.length_map, List.length_replicate, List.length_replicate, all_len r]
    · have ehid : (fun a => F a ∨ a ∈ ownd (env0 N ds)) = F := by
        funext a
        rw [eo]
        exact propext ⟨fun z => z.elim id (fun z => by cases z), .inl⟩
      rw [ehid]
      exact paired_get (G := H) r (by rw [all_len r]) i o x e1 e2
/-- a def that draws from the feed, its first argument -/
theorem okF {x : Str} {st : Stmt} {f : Addr} {fdt : FuncData} {N ps : List Str} {k : Nat} {G : List PyData → (PyData → Prop) → Prop} (D : Fun K x x st f fdt) (S : FnScope N ps (defScope st)) (hG : ∀ ds C, G ds C → ds.length + 1 = ps.length)
    (body : ∀ (cdv : Value) (A : Around) (outer : List Env) (s : Shared) (H : Hp) (E : XK), Room k (A.deeper (envOfC x (defScope st) s.heap.objs.size f cdv)) →
      ∃ t, PSs (cxOf CX0 P w K mg base N x (defScope st) f cdv A outer s H E).nox (defBody st) t ∧ ∀ (p : Addr) ds C, G ds C → wpS K (fun a => a = p) t (Sl.fed p :: (ds.map Sl.dat ++ List.replicate (N.length - (ds.length + 1)) Sl.no)) { nx := fun _ => C .none, rt := C }) : FnOk P w K mg base CX0 (k + 1) f fdt ps (spF K G) := by
  refine D.ok S (fun vs H Q E h => ?_) (fun cdv A outer s H vs Q E hr h => ?_)
  · obtain ⟨p, ws, F, ds, C, rfl, _, _, _, r, g, _⟩ := h
    rw [← hG ds C g, List.length_cons, all_len r]
  · obtain ⟨t, ht, hw⟩ := body cdv A outer s H E hr
    obtain ⟨p, ws, F, ds, C, rfl, hp, hf, th, r, g, q⟩ := h
    refine ⟨t, ht, hw p ds C g F H (start N (.ref p :: ws)) H ?_ _ ⟨fun σ H' e c I => q .non H' .none I.all .non c, fun σ H e c => c.elim, fun σ H e c => c.elim, fun v H' d c u r => q v H' d u r c, fun p vs H d c => c.elim⟩⟩
    have eo : ownd (Sl.fed p :: (ds.map Sl.dat ++ List.replicate (N.length - (ds.length + 1)) Sl.no)) = [] := by
      show ownd (ds.map Sl.dat ++ List.replicate (N.length - (ds.length + 1)) Sl.no) = []
      rw [ownd_dat, ownd_no]
    refine ⟨⟨fun a z => ?_, fun a z => .inl (by rw [z]; exact hp), hf, ?_, fun i o x e1 e2 => ?_⟩, fun a o _ z => z, th, fun a z => by rw [z]; exact hp, fun p hp => (by rw [eo] at hp; cases hp), (by rw [eo]; exact List.nodup_nil)⟩
    · rcases z with z | z
      · exact th a z
      · rw [eo] at z; cases z
    · unfold L2.start
      rw [List.length_append, List.length_map, List.length_replicate, List.length_cons, List.length_cons, List.length_append, List.length_map, List.length_replicate, all_len r]
      omega
    · have ehid : (fun a => F a ∨ a ∈ ownd (Sl.fed p :: (ds.map Sl.dat ++ List.replicate (N.length - (ds.length + 1)) Sl.no))) = F := by
        funext a
        rw [eo]
        exact propext ⟨fun z => z.elim id (fun z => by cases z), .inl⟩
      rw [ehid]
      cases i with
      | zero =>
        have a1 : some (V.ref p) = o := Option.some.inj e1
        have a2 : Sl.fed p = x := Option.some.inj e2
        subst a1; subst a2
        exact ⟨rfl, rfl⟩
      | succ i =>
        refine paired_get (G := H) r (n := N.length - (ws.length + 1)) (m := N.length - (ds.length + 1)) (by rw [all_len r]) i o x ?_ e2
        have z : (start N (.ref p :: ws))[i + 1]? = (ws.map some ++ List.replicate (N.length - (ws.length + 1)) none)[i]? := rfl
        rw [← z]; exact e1
end
end Dn

namespace Dn
open PySem L2 Evl PyProof.Rows
/-! ## xs.extend(t), t a tuple -/
theorem ext_tup (l : Addr) (items : Array Value) (n : Nat) (b : Addr) (dd : Option Addr) (sl : Array (Option Value)) (items2 : Array Value) (n2 : Nat) (h0 : ¬(!items.isEmpty && Builtin.List.listTooLong (items.size + items2.size)) = true) (h1 : items.size ≤ sizeLine) (h2 : items.size + items2.size ≤ sizeLine + 1) :
    Meets (Builtin.«list.extend» ⟨[.ref l, .ref b], []⟩) (fun _ R s => s.heap.get? l = some { cls := .type "list", dict := none, data := .seq items n, slots := #[] } ∧
      s.heap.get? b = some { cls := .type "tuple", dict := dd, data := .seq items2 n2, slots := sl } ∧ R (.ok (.ret Value.none)) { s with heap := s.heap.update l (Obj.mapSeq fun x => x ++ items2), toks := s.toks }) :=
  .of_wp fun prog w A R s h => by
    obtain ⟨hp, g, d, tk, os⟩ := s
    obtain ⟨hl, hb, h⟩ := h
    have f1 := AutoSeq1.idx_int
    have f2 := AutoSeq1.sub_tuple_tuple
    have f3 := AutoSeq1.sub_list_list
    have f4 := AutoSeq1.sub_tuple_list
    have f5 := AutoSeq1.sub_list_tuple
    have hz' : (items ++ items2).size ≤ sizeLine + 1 := by rw [Array.size_append]; exact h2
    wp_walk using (wpAny_updateSeq hl rfl (hz := h1) (_hz' := hz')), wpAny_loadPart' hl, wpAny_loadPart' hb
    exact ⟨_, rfl, h⟩
def rExtT (K : Frag) : V → List V → Hp → VK → Prop := fun x vs H Q => ∃ l b xs zs, x = .ref l ∧ vs = [.ref b] ∧ H l = some (.lst xs) ∧ SqT K H b zs ∧ xs.length + zs.length ≤ sizeLine ∧ Q .non (upd H l (.lst (xs ++ zs)))
theorem mt_extendT {X : Cx} : MtM X "list.extend" (rExtT X.K) := by
  intro pins s σ H x vs v us Q I rx rv h
  obtain ⟨l, b, xs, zs, rfl, rfl, hH, hB, hz, q⟩ := h
  cases rx
  obtain ⟨u, rfl, ru⟩ := rv.one
  cases ru
  obtain ⟨z, its, n, r, hl, e⟩ := I.lstM hH
  obtain ⟨its2, r2, ⟨ob, e2, c2, n2, d2⟩, hz2⟩ := I.tuple hB
  obtain ⟨obc, obd, obda, obs⟩ := ob
  have c2' : obc = .type "tuple" := c2
  have d2' : obda = .seq its2.toArray n2 := d2
  subst c2'; subst d2'
  have h2 := r2.length
  have hsz : its.toArray.size + its2.toArray.size ≤ sizeLine := by rw [List.size_toArray, List.size_toArray]; omega
  have hlong : ¬ (!its.toArray.isEmpty && Builtin.List.listTooLong (its.toArray.size + its2.toArray.size)) = true := by
    rw [notLongL hsz, Bool.and_false]
    decide
  refine call_meets F.slot_list_extend ⟨_, e, rfl⟩ F.entry_list_extend (F.args_list_extend_2 _ _) (ext_tup l its.toArray n b obd obs its2.toArray n2 hlong (by rw [List.size_toArray]; omega) (by omega)) ⟨e, e2, ?_⟩
  refine ⟨.non, _, I.lset (its' := its ++ its2) hH e (by simp) (r.append r2) ?_, rfl, q⟩
  rw [List.length_append]; omega
section
variable {K : Frag} {fd : Ad} {env : List Sl} {te ta tb tc : TE} {C : PyData → Prop} {CL : List PyData → Prop} {P : Po}
/-- xs.extend(t), xs an own list -/
theorem wpS_extendT {i : Nat} {p : Addr} {ds : List PyData} (e : env[i]? = some (.own p ds)) (h : wpE K fd te env fun d => ∃ es, d = .tuple es ∧ ds.length + es.length ≤ 100000 ∧ P.nx (env.set i (.own p (ds ++ es)))) :
    wpS K fd (tDrop (tBM K "list" (rExtT K) (tVar i) (tCons te tNil))) env P := fun F0 H0 σ H I D k => by
  obtain ⟨e1, us, h4, h5⟩ := I.slotOwn e
  refine ⟨_, e1, .inl ⟨rfl, _, SqL.of h4⟩, h _ σ H I.ev _ fun v H2 d u r c => ?_⟩
  obtain ⟨es, rfl, hz, c⟩ := c
  have I2 := I.upE u
  obtain ⟨e1', us', h4', h5'⟩ := I2.slotOwn e
  cases r with
  | @tup a ws _ sa ra =>
    refine ⟨p, a, us', ws, rfl, rfl, h4', ex_t off_full sa, sz_of (by rw [all_len h5', all_len ra]; exact hz), ?_⟩
    exact k.nx _ _ _ c (I2.mut (vs := us') e (all_app h5' ra))
/-- x = xs.pop(), xs an own list, x another slot -/
theorem wpS_pop {i j : Nat} {p : Addr} {ds : List PyData} {d : PyData} (e : env[j]? = some (.own p (ds ++ [d]))) (h : P.nx ((env.set j (.own p ds)).set i (.dat d))) :
    wpS K fd (tAsg (tBM0 K "list" rPop (tVar j)) (gName i)) env P := fun F0 H0 σ H I D k => by
  obtain ⟨e1, us, h4, h5⟩ := I.slotOwn e
  have hl := all_len h5
  rw [List.length_append, List.length_singleton] at hl
  obtain ⟨v, h6, h7⟩ := all_get (i := us.length - 1) (d := d) h5 (by
    rw [hl, Nat.add_sub_cancel, List.getElem?_append_right (Nat.le_refl _), Nat.sub_self]
    rfl)
  refine ⟨_, e1, .inl ⟨rfl, _, SqL.of h4⟩, p, us, v, rfl, rfl, h4, h6, ?_⟩
  have hd : DrAll K (off (fun a => F0 a ∨ a ∈ ownd env) H) us.dropLast ds := by
    have z := all_take (us.length - 1) h5
    rw [List.dropLast_eq_take]
    rw [hl, Nat.add_sub_cancel, List.take_left'] at z
    · rw [hl, Nat.add_sub_cancel]; exact z
    · rfl
  have I2 := I.mut (vs := us) e hd
  have eo : ownd (env.set j (.own p ds)) = ownd env := ownd_same e
  refine k.nx _ _ _ h (I2.set (x := .dat d) ?_ fun p ds z => by cases z)
  rw [eo]
  refine dmono (fun a o z => ?_) h7
  obtain ⟨n, z⟩ := off_some z
  rw [off_ne (S := fun a => F0 a ∨ a ∈ ownd env) n, upd_ne (show a ≠ p from fun w => n (.inr (by rw [w]; exact mem_ownd e)))]
  exact z
/-! ## tuple * int -/
theorem opd_repT {xs : List PyData} {n : Int} (hx : xs ≠ []) (h1 : 2 ≤ n) (h2 : n ≤ 1000) (h3 : xs.length ≤ 1000) (c : C (.tuple (List.replicate n.toNat xs).flatten)) : OpD K (rRepT K) (.tuple xs) (.int n) C := fun F H x y th rx ry Q k => by
  cases ry
  cases rx with
  | @tup a us _ sa ra =>
    refine ⟨a, n, us, rfl, rfl, ex_t off_full sa, fun z => ?_, h1, h2, by rw [all_len ra]; exact h3, fun p hp => k _ _ _ (Ex.new hp) (new_tup th hp (rep_all ra _)) c⟩
    subst z
    exact hx (List.eq_nil_of_length_eq_zero (by rw [← all_len ra]; rfl))
end
end Dn

namespace Dn
open PySem L2 Evl PyProof.Rows PySem.W
theorem each_of {K : PySem.W.Frag} {G : Hp} {h : Heap} {xs : List V} {us : List Value} {ds : List PyData} (r : Vals xs us) (q : DrAll K G xs ds) : EachIs (fun v d => ∃ x, RelV x v ∧ Dr K G x d) us ds := by
  induction r generalizing ds with
  | nil => cases q; exact .nil
  | cons a _ ih =>
    cases q with
    | cons b c => exact .cons ⟨_, a, b⟩ (ih c)
theorem of_each {K : PySem.W.Frag} {G : Hp} {us : List Value} {ds : List PyData} (e : EachIs (fun v d => ∃ x, RelV x v ∧ Dr K G x d) us ds) : ∃ xs, Vals xs us ∧ DrAll K G xs ds := by
  induction e with
  | nil => exact ⟨[], .nil, .nil⟩
  | cons a _ ih =>
    obtain ⟨x, r, q⟩ := a
    obtain ⟨xs, rs, qs⟩ := ih
    exact ⟨x :: xs, .cons r rs, .cons q qs⟩
theorem reads_of {X : Cx} {pins : List (Addr × Obj)} {σ : L2.St} {H : Hp} {s : Shared} (I : Inv X pins σ H s) {x : V} {u : Value} {d : PyData} (h : Dr X.K H x d) (p : plain d = true) (r : RelV x u) : ∃ as, Reads s.heap u d as := Dp.reads I d x u (toDp h p) r
section
variable {X : Cx} {pins : List (Addr × Obj)} {σ : L2.St} {H : Hp} {s : Shared}
/-- one pinned object turns, the rest of the pins stays -/
theorem Inv.repin {t' : Nat} {h' : Heap} {a : Addr} {o o' : Obj} (I : Inv X ((a, o) :: pins) σ H s) (k : ∀ b u, b ≠ a → s.heap.get? b = some u → h'.get? b = some u) (e : h'.get? a = some o') (hv : ∀ v, o'.data ≠ .cell v) (h1 : X.s_0.heap.objs.size ≤ a)
    (h2 : ∀ x c, X.env.cells.lookup x = some c → c ≠ a) (h3 : ∀ p ∈ X.pn ++ pins, p.1 ≠ a) : Inv X ((a, o') :: pins) σ H { s with heap := h', toks := t' } := by
  have pa := I.pin (a, o) (List.mem_append_right _ (List.mem_cons_self ..))
  have I0 : Inv X pins σ H s := I.pins_of fun p hp => I.pin p (List.mem_append_right _ (List.mem_cons_of_mem _ hp))
  have I1 := I0.turned (t' := t') (it := a) k pa.2.1 pa.2.2.1 (.inr h1) h2 h3
  refine I1.pins_of fun p hp => ?_
  rcases List.mem_cons.mp hp with z | z
  · subst z; exact ⟨e, pa.2.1, pa.2.2.1, pa.2.2.2.1, hv⟩
  · exact I1.pin p (List.mem_append_right _ z)
end
/-- what the key def gives -/
structure KeyOk (K : PySem.W.Frag) (G : List PyData → (PyData → Prop) → Prop) (ds : List PyData) (kf : PyData → PyData) : Prop where
  one : ∀ d, d ∈ ds → G [d] (fun e => e = kf d)
  pl : ∀ d, d ∈ ds → plain (kf d) = true
  al : AllAlike (ds.map kf)
  so : Sortable (ds.map kf)
  dp : ∀ d, d ∈ ds → (kf d).depth ≤ 60
section
variable {X : Cx} {pins : List (Addr × Obj)} {σ : L2.St} {H : Hp} {s : Shared} {f : Addr} {fdt : FuncData} {k : Nat} {x : Str} {G : List PyData → (PyData → Prop) → Prop} {kf : PyData → PyData} {F : Ad} {ds : List PyData} {vs : List Value} {a kS : Addr} {e1 : Nat}
/-- the loop that makes the keys, and the sort behind it -/
theorem key_rest (I : Inv X ((kS, seqObj "list" #[] 0) :: (a, seqObj "list" #[] e1) :: pins) σ H s) (Gf : FnOk X.prog X.w X.K X.mg X.base CX0 k f fdt [x] (spP X.K G)) (hb : Binds X.K fdt [x] []) (hr : Room k X.A.in1.in1) (hu : X.A.units + 200 < cLine)
    (hka : kS ≠ a) (y1 : X.s_0.heap.objs.size ≤ kS) (y2 : X.s_0.heap.objs.size ≤ a) (c1 : ∀ y c, X.env.cells.lookup y = some c → c ≠ kS) (c2 : ∀ y c, X.env.cells.lookup y = some c → c ≠ a) (p1 : ∀ p ∈ X.pn ++ pins, p.1 ≠ kS) (p2 : ∀ p ∈ X.pn ++ pins, p.1 ≠ a)
    (th : ∀ b, F b → H b ≠ none) {xs : List V} (rv : Vals xs vs) (rd : DrAll X.K (off F H) xs ds) (ok : KeyOk X.K G ds kf) (hz : ds.length ≤ sizeLine) {P : PySem.Fin → Shared → Prop} {E : Value → Shared → Prop}
    (q : ∀ h' g' d' tk out c Hj, Ex H Hj → Inv X pins σ Hj { s with heap := h', gens := g', drawn := d', toks := tk } → h'.get? a = some (seqObj "list" (List.toArray out) c) → Hj a = none →
      EachIs (fun v d => ∃ x, RelV x v ∧ Dr X.K (off F H) x d) out (ds.mergeSort (dataLe false kf)) → P (.done (.ret .none)) { s with heap := h', gens := g', drawn := d', toks := tk }) :
    wpAny (model X.prog X.w) X.A.in1.in1 (ksk_rest a (.ref f) false vs.toArray e1 (.ref kS)) P E s := by
  have hlen : vs.length = ds.length := by rw [← rv.length, all_len rd]
  unfold ksk_rest
  refine wpAny_bind (wpAny_rule ?_)
  first
    | rw [List.forIn_toArray]
    | (rw [← Array.forIn_toList]; simp only [List.toList_toArray])
    | rw [← Array.forIn_toList]
  refine wpAny_bind (ksk_fold (fun i s' => ∃ h' g' d' tk kA e ks Hj, s' = { s with heap := h', gens := g', drawn := d', toks := tk } ∧ Ex H Hj ∧ Inv X ((kS, seqObj "list" kA e) :: (a, seqObj "list" #[] e1) :: pins) σ Hj { s with heap := h', gens := g', drawn := d', toks := tk } ∧
      Vals ks kA.toList ∧ DrAll X.K Hj ks ((ds.map kf).take i)) vs 0 s ⟨s.heap, s.gens, s.drawn, s.toks, #[], 0, [], H, rfl, Ex.refl H, I, .nil, by rw [List.take_zero]; exact .nil⟩ ?step ?done)
  case step =>
    rintro j v s' hx ⟨h', g', d', tk, kA, e, ks, Hj, rfl, ex, J, rk, rdk⟩
    simp only [Nat.zero_add] at rdk ⊢
    have hj : j < vs.length := (List.getElem?_eq_some_iff.mp hx).1
    have hjd : j < ds.length := by omega
    obtain ⟨d, hd⟩ : ∃ d, ds[j]? = some d := ⟨_, List.getElem?_eq_getElem hjd⟩
    obtain ⟨xv, hxv, rxd⟩ := all_get rd hd
    obtain ⟨u, hu1, rxu⟩ := rv.get hxv
    rw [hx] at hu1
    have eu : v = u := Option.some.inj hu1
    subst eu
    have hm : d ∈ ds := List.mem_of_getElem? hd
    have hsz : kA.size ≤ sizeLine := by
      have z := all_len rdk
      rw [rk.length, List.length_take, List.length_map, Array.length_toList] at z
      omega
    refine wpAny_bind (wpAny_attempt ?_)
    have hsp : spP X.K G ([xv] ++ []) Hj (fun r Hk => Dr X.K (off F Hk) r (kf d) ∧ Ex Hj Hk) (fun _ _ _ => False) :=
      ⟨F, [d], fun e => e = kf d, (fun b z c => by
        cases w : H b with
        | none => exact th b z w
        | some o => rw [ex b o w] at c; cases c), .cons (dmono (off_exE ex) rxd) .nil, ok.one d hm, fun r Hk e' hex hr' he => by subst he; exact ⟨hr', hex⟩⟩
    refine wpAny_call (codeAny_mono (Gf.run X.A.in1.in1 X.stack _ Hj ⟨[v], []⟩ [v] [xv] _ _ hr J.env0.in1.in1 (hb _ [v] J.kIn rfl) (.cons rxu .nil) hsp) fun r s'' hq => ?_)
    cases r with
    | error er => exact False.elim hq
    | ok fl =>
      cases fl with
      | next => exact False.elim hq
      | brk => exact False.elim hq
      | cont => exact False.elim hq
      | ret kv =>
        obtain ⟨r, Hk, os, bare, un, hok, rr, rdr, hex⟩ := hq
        have J2 := J.call' os un hok bare (fun b z => absurd z (by simp))
        obtain ⟨h2, g2, d2, tk2, os2⟩ := s''
        have eos : os2 = s.os := os
        subst eos
        have nk2 : h2.get? kS = some (seqObj "list" kA e) := (J2.pin (kS, _) (List.mem_append_right _ (List.mem_cons_self ..))).1
        have s1 := Heap.SameBut.update h2 kS (Obj.mapSeq (·.push kv))
        obtain ⟨c3, hc3⟩ : ∃ c3, (h2.update kS (Obj.mapSeq (·.push kv))).get? kS = some (seqObj "list" (kA.push kv) c3) := ⟨_, get?_update_seq nk2 (·.push kv)⟩
        try dsimp only
        refine wpAny_bind (listUpdate_at nk2 rfl ?_ hsz (Nat.le_trans (Nat.le_of_eq (Array.size_push ..)) (Nat.succ_le_succ hsz)))
        have J3 := Inv.repin (t' := tk2) (h' := h2.update kS (Obj.mapSeq (·.push kv))) J2 (fun b u hb z => (s1.2 b hb).trans z) hc3 (fun v z => nomatch z) y1 c1 (fun p hp => by
          rcases List.mem_append.mp hp with z | z
          · exact p1 p (List.mem_append_left _ z)
          · rcases List.mem_cons.mp z with z | z
            · subst z; exact hka.symm
            · exact p1 p (List.mem_append_right _ z))
        refine wpAny_pure ⟨rfl, _, _, _, _, kA.push kv, c3, ks ++ [r], Hk, rfl, ex.trans hex, J3, ?_, ?_⟩
        · have ea : (kA.push kv).toList = kA.toList ++ [kv] := by simp
          rw [ea]; exact rk.append (.cons rr .nil)
        · have ek : (ds.map kf).take (j + 1) = (ds.map kf).take j ++ [kf d] := by rw [List.take_add_one, List.getElem?_map, hd]; rfl
          rw [ek]
          exact all_app (dmonoAll hex rdk) (all_one (dmono off_full rdr))
  case done =>
    rintro s' ⟨h', g', d', tk, kA, e, ks, Hj, rfl, ex, J, rk, rdk⟩
    have e3 : (ds.map kf).take (0 + vs.length) = ds.map kf := List.take_of_length_le (by rw [List.length_map]; omega)
    rw [e3] at rdk
    have nk' := (J.pin (kS, _) (List.mem_append_right _ (List.mem_cons_self ..))).1
    have na' := (J.pin (a, _) (List.mem_append_right _ (List.mem_cons_of_mem _ (List.mem_cons_self ..)))).1
    have hsz : kA.size = vs.length := by
      have z := all_len rdk
      rw [rk.length, List.length_map, Array.length_toList] at z
      omega
    have hk' : EachIs (fun v k => ∃ as, Reads h' v k as) kA.toList (ds.map kf) := by
      have z := each_of (h := h') rk rdk
      have pl : ∀ d, d ∈ ds.map kf → plain d = true := fun d hd => by
        obtain ⟨d0, h0, h1⟩ := List.mem_map.mp hd
        rw [← h1]; exact ok.pl d0 h0
      refine (PySem.W.each_mem z).mono fun v d ⟨⟨x, r, q⟩, hd⟩ => reads_of J q (pl d hd) r
    have SA : SortsAt X.prog X.w X.A.in1.in1 { s with heap := h', gens := g', drawn := d', toks := tk } (dataKind h' (ds.map kf)) kA.toList :=
      SortsAt.data (s := { s with heap := h', gens := g', drawn := d', toks := tk }) hk' ok.al ok.so fun d hd => by
        obtain ⟨d0, h0, h1⟩ := List.mem_map.mp hd
        rw [← h1]
        have := ok.dp d0 h0
        show X.A.units + 1 + 1 + (kf d0).depth < cLine
        omega
    have Ho : Hj a = none := (J.pin (a, _) (List.mem_append_right _ (List.mem_cons_of_mem _ (List.mem_cons_self ..)))).2.1
    try dsimp only
    refine wpAny_bind (listItems_at nk' rfl ?_)
    obtain ⟨g1, q1, q2⟩ := restrict h' fun b => decide (b ≠ kS)
    refine keyH_end (κ := dataKind h' (ds.map kf)) (h₁ := g1) (b := false) (fun b o hb z => ?_) (q2 kS (by simp)) nk' na' hka SA hsz (by omega) fun h3 tk3 c k3 n3 => ?_
    · by_cases w : b = kS
      · rw [w, q2 kS (by simp)] at z; cases z
      · rw [q1 b (decide_eq_true w)] at z; exact z
    · have J0 : Inv X pins σ Hj { s with heap := h', gens := g', drawn := d', toks := tk } := J.pins_of fun p hp => J.pin p (List.mem_append_right _ (List.mem_cons_of_mem _ (List.mem_cons_of_mem _ hp)))
      have kp := J.pin (kS, _) (List.mem_append_right _ (List.mem_cons_self ..))
      have ap := J.pin (a, _) (List.mem_append_right _ (List.mem_cons_of_mem _ (List.mem_cons_self ..)))
      -- both of the sort's own lists turn
      have J1 : Inv X pins σ Hj { s with heap := h3, gens := g', drawn := d', toks := tk3 } :=
        Inv.turnedL (t' := tk3) (ch := [kS, a]) J0 (fun b o hb z => k3 b o (fun w => hb (by simp [w])) (by
          rw [q1 b (decide_eq_true fun w => hb (by simp [w]))]; exact z)) fun b hb => by
          rcases (by simpa using hb : b = kS ∨ b = a) with w | w
          · subst w; exact ⟨kp.2.1, kp.2.2.1, kp.2.2.2.1, .inr y1, c1, p1⟩
          · subst w; exact ⟨ap.2.1, ap.2.2.1, ap.2.2.2.1, .inr y2, c2, p2⟩
      refine q h3 g' d' tk3 _ c Hj ex J1 n3 Ho (keyedOut_each kf ⟨h', kA.toList, ok.al, rfl, hk'⟩ (each_of (h := h') rv rd))
end
end Dn

namespace Dn
open PySem L2 Evl PyProof.Rows PySem.W
section
variable {X : Cx} {pins : List (Addr × Obj)} {σ : L2.St} {H : Hp} {s : Shared}
/-- a young object of nobody's is told from now on -/
theorem Inv.track {a : Addr} {o : HO} (I : Inv X pins σ H s) (hn : H a = none) (y : X.s_0.heap.objs.size ≤ a) (hL : a ≠ X.env.locals) (hc : ∀ x c, X.env.cells.lookup x = some c → c ≠ a) (hp : ∀ p ∈ X.pn ++ pins, p.1 ≠ a) (new : ObjOk X.prog X.w (upd H a o) s.heap a o) :
    Inv X pins σ (upd H a o) s where
  ok := I.ok
  os := I.os
  bare := I.bare
  base := {
    keep := I.base.keep
    slot := I.base.slot
    free := fun b ob e n hx => by rw [upd_ne (Nat.ne_of_lt (Nat.lt_of_lt_of_le (Heap.lt_size e) y))]; exact I.base.free b ob e n hx
    there := I.base.there
    tups := fun b xs e => by have z := I.base.tups b xs e; rw [upd_ne (ne_of_none z hn)]; exact z
    frzs := fun b ob u e => by have z := I.base.frzs b ob u e; rw [upd_ne (ne_of_none z hn)]; exact z
    tbls := fun b ps e => by obtain ⟨m, z⟩ := I.base.tbls b ps e; exact ⟨m, by rw [upd_ne (ne_of_none z hn)]; exact z⟩ }
  loc := I.loc
  cell := I.cell
  free := by rw [upd_ne (Ne.symm hL)]; exact I.free
  freeC := fun x c e => by rw [upd_ne (hc x c e)]; exact I.freeC x c e
  pin := fun p hm => by
    obtain ⟨z1, z2, z3⟩ := I.pin p hm
    exact ⟨z1, by rw [upd_ne (hp p hm)]; exact z2, z3⟩
  hok := fun b u e => by
    by_cases hb : b = a
    · subst hb
      rw [upd_same] at e
      cases e
      exact new
    · rw [upd_ne hb] at e
      exact (I.hok b u e).stay (fun _ _ _ q => q) (fun c q => by rw [upd_ne (ne_of_none q hn)]; exact q) fun c xs q => by rw [upd_ne (ne_of_none q hn)]; exact q
  len := I.len
variable {f : Addr} {fdt : FuncData} {k : Nat} {x : Str} {G : List PyData → (PyData → Prop) → Prop} {kf : PyData → PyData} {F : Ad} {ds : List PyData}
theorem sorted_key_run {l : Addr} {xs : List V} {Q : VK} (I : Inv X pins σ H s) (hl : SqL X.K H l xs) (Gf : FnOk X.prog X.w X.K X.mg X.base CX0 k f fdt [x] (spP X.K G)) (hb : L2.Binds X.K fdt [x] []) (hr : Room k X.A.in1.in1) (hu : X.A.units + 200 < cLine)
    (th : ∀ b, F b → H b ≠ none) (rd : DrAll X.K (off F H) xs ds) (ok : KeyOk X.K G ds kf)
    (q : ∀ p vs' H', H p = none → Ex H H' → H' p = some (.lst vs') → DrAll X.K (off F H) vs' (ds.mergeSort (dataLe false kf)) → Q (.ref p) H') :
    wpAny (model X.prog X.w) X.A (call (.builtin "sorted") [.ref l] [(Str.ofString "key", .ref f)]) (EP X pins σ Q) X.xe s := by
  obtain ⟨its, rv, hl', hz⟩ := I.list hl
  have hlen : its.length = ds.length := by rw [← rv.length, all_len rd]
  refine sorted_of_sort hl'.isList (by rw [← rv.length]; exact hz) (PyProof.Rows.ksk_s1 _ _) (fun _ => PyProof.Rows.ksk_l1 _ _) fun E' => ?_
  rw [ksk_t1]
  obtain ⟨a, ha⟩ : ∃ a, a = s.heap.objs.size + 1 := ⟨_, rfl⟩
  have ho : (copyHeap s.heap its).get? a = some (seqObj "list" its.toArray 0) := by rw [ha]; exact copyHeap_at s.heap its
  have hZ : its.length ≤ sizeLine := by rw [← rv.length]; exact hz
  rw [← ha]
  unfold ksk_tree
  refine wpAny_bind (listItems_at (s := { s with heap := copyHeap s.heap its }) ho rfl ?_)
  obtain ⟨e1, ho1⟩ : ∃ e1, ((copyHeap s.heap its).update a (Obj.mapSeq fun _ => (#[] : Array Value))).get? a = some (seqObj "list" #[] e1) := ⟨_, get?_update_seq ho fun _ => #[]⟩
  refine wpAny_bind (listUpdate_at (s := { s with heap := copyHeap s.heap its }) ho rfl ?_ (by rw [List.size_toArray]; exact hZ) (Nat.zero_le _))
  refine wpAny_bind (seqEpoch_at ho1 rfl ?_)
  refine wpAny_bind (wpAny_newTuple ?_ (by show its.length ≤ _; exact hZ))
  refine wpAny_bind (wpAny_newList ?_ (Nat.zero_le _))
  refine wpAny_holding ?_
  -- the heap as the loop finds it
  obtain ⟨g, hg⟩ : ∃ g, g = (((copyHeap s.heap its).update a (Obj.mapSeq fun _ => (#[] : Array Value))).push (seqObj "tuple" its.toArray 0)).push (seqObj "list" #[] 0) := ⟨_, rfl⟩
  obtain ⟨kS, hkS⟩ : ∃ kS, kS = (((copyHeap s.heap its).update a (Obj.mapSeq fun _ => (#[] : Array Value))).push (seqObj "tuple" its.toArray 0)).objs.size := ⟨_, rfl⟩
  have kSa : a < kS := by
    rw [hkS, size_push']
    exact Nat.lt_succ_of_lt (Heap.lt_size ho1)
  have hga : g.get? a = some (seqObj "list" #[] e1) := by rw [hg]; exact Heap.get?_push_of_some _ (Heap.get?_push_of_some _ ho1)
  have hgk : g.get? kS = some (seqObj "list" #[] 0) := by rw [hg, hkS]; exact Heap.get?_push_size _ rfl
  have keep : ∀ b o, s.heap.get? b = some o → g.get? b = some o := fun b o z => by
    rw [hg]
    refine Heap.get?_push_of_some _ (Heap.get?_push_of_some _ ?_)
    rw [Heap.get?_update_ne _ _ _ _ (show b ≠ a by rw [ha]; exact Nat.ne_of_lt (Nat.lt_succ_of_lt (Heap.lt_size z)))]
    exact copyHeap_old z
  have I1 : Inv X pins σ H { s with heap := g } := I.kept (t' := s.toks) keep
  have sza : s.heap.objs.size ≤ a := by rw [ha]; exact Nat.le_succ _
  have szk : s.heap.objs.size ≤ kS := Nat.le_trans sza (Nat.le_of_lt kSa)
  have cel : ∀ {b : Addr}, s.heap.objs.size ≤ b → ∀ y c, X.env.cells.lookup y = some c → c ≠ b := fun {b} hb y c e z => by
    obtain ⟨v, o, w, _⟩ := I.cell y c e
    have z2 := Heap.lt_size w
    rw [z] at z2
    exact absurd (Nat.lt_of_lt_of_le z2 hb) (Nat.lt_irrefl _)
  have pnn : ∀ {b : Addr}, s.heap.objs.size ≤ b → ∀ p ∈ X.pn ++ pins, p.1 ≠ b := fun {b} hb p hp z => by
    have w := Heap.lt_size (I.pin p hp).1
    rw [z] at w
    exact absurd (Nat.lt_of_lt_of_le w hb) (Nat.lt_irrefl _)
  have locn : ∀ {b : Addr}, s.heap.objs.size ≤ b → b ≠ X.env.locals := fun {b} hb z => by
    have w := I.lt
    rw [← z] at w
    exact absurd (Nat.lt_of_lt_of_le w hb) (Nat.lt_irrefl _)
  have fsn : ∀ {b : Addr}, s.heap.objs.size ≤ b → ¬ b ∈ X.fs := fun {b} hb => I.nofs hb
  have I2 : Inv X ((kS, seqObj "list" #[] 0) :: (a, seqObj "list" #[] e1) :: pins) σ H { s with heap := g } := I1.pins_of fun p hp => by
    rcases List.mem_cons.mp hp with z | z
    · subst z; exact ⟨hgk, I.hok.fresh szk, locn szk, fsn szk, fun v z => nomatch z⟩
    · rcases List.mem_cons.mp z with z | z
      · subst z; exact ⟨hga, I.hok.fresh sza, locn sza, fsn sza, fun v z => nomatch z⟩
      · exact I1.pin p (List.mem_append_right _ z)
  show wpAny (model X.prog X.w) X.A.in1.in1 (ksk_rest a (.ref f) false its.toArray e1 (.ref _)) _ E' { s with heap := _ }
  rw [← hkS, ← hg]
  refine key_rest (kf := kf) I2 Gf hb hr hu (Nat.ne_of_gt kSa) (Nat.le_trans I.sz szk) (Nat.le_trans I.sz sza) (cel szk) (cel sza) (pnn szk) (pnn sza) th rv rd ok (by rw [← hlen]; exact hZ) fun h' g' d' tk out c Hj ex J hout ha0 ho => ⟨rfl, ?_⟩
  obtain ⟨vs', r1, r2⟩ := of_each ho
  have hl2 : vs'.length ≤ sizeLine := by rw [all_len r2, List.length_mergeSort, ← hlen]; exact hZ
  have J1 : Inv X pins σ (upd Hj a (.lst vs')) { s with heap := h', gens := g', drawn := d', toks := tk } :=
    Inv.track J ha0 (Nat.le_trans I.sz sza) (locn sza) (cel sza) (pnn sza) ⟨hl2, out, c, r1, hout⟩
  exact ⟨.ref a, _, J1, rfl, q a vs' _ (I.hok.fresh sza) (ex.mut (I.hok.fresh sza)) upd_same r2⟩
/-- sorted(xs, key=f), f a def of the text -/
def rSortK (K : PySem.W.Frag) (f : Addr) (G : List PyData → (PyData → Prop) → Prop) : List V → List V → Hp → VK → Prop := fun vs zs H Q => ∃ (l : Addr) (xs : List V) (F : Ad) (ds : List PyData) (kf : PyData → PyData), vs = [.ref l] ∧ zs = [.ref f] ∧ SqL K H l xs ∧
  (∀ b, F b → H b ≠ none) ∧ DrAll K (off F H) xs ds ∧ KeyOk K G ds kf ∧ ∀ p vs' H', H p = none → Ex H H' → H' p = some (.lst vs') → DrAll K (off F H) vs' (ds.mergeSort (dataLe false kf)) → Q (.ref p) H'
theorem cr_sortK (Gf : FnOk X.prog X.w X.K X.mg X.base CX0 k f fdt [x] (spP X.K G)) (hb : L2.Binds X.K fdt [x] []) (hr : Room k X.A.in1.in1) (hu : X.A.units + 200 < cLine) : CallRK X (.builtin "sorted") [Str.ofString "key"] (rSortK X.K f G) := by
  intro pins s σ H vs zs us ws Q I r rz h
  obtain ⟨l, xs, F, ds, kf, rfl, rfl, hl, th, rd, ok, q⟩ := h
  obtain rfl := Vals.ref1 r
  obtain rfl := Vals.ref1 rz
  exact sorted_key_run I hl Gf hb hr hu th rd ok q
end
section
variable {K : Frag} {fd : Ad} {env : List Sl} {te : TE} {CL : List PyData → Prop} {f : Addr} {G : List PyData → (PyData → Prop) → Prop}
theorem wpN_sortK (h : wpE K fd te env fun d => ∃ ds kf, d = .list ds ∧ KeyOk K G ds kf ∧ CL (ds.mergeSort (dataLe false kf))) : wpN K fd (tCKw (rSortK K f G) (tCons te tNil) (tCons (tC (.ref f)) tNil)) env CL := fun F σ H I Q k =>
  h F σ H I _ fun v H2 d u r c => by
    obtain ⟨ds, kf, rfl, ok, c⟩ := c
    cases r with
    | @lst a us _ sa ra =>
      refine ⟨a, us, F, ds, kf, rfl, rfl, sq_of (off_full _ _ sa), (I.up u).there, ra, ok, fun p vs' H' hp ex e r' => ?_⟩
      refine k p vs' H' _ (none_back I.there I.fdF u hp) (u.trans (.ex u.feed ex)) e (dmonoAll (fun a o z => ?_) r') c
      obtain ⟨n, z⟩ := off_some z
      rw [off_ne (S := fun a => F a ∨ a = p) fun w => w.elim n fun w => by rw [w, hp] at z; cases z]
      exact ex _ _ z
end
/-! ## sorted(xs) of data -/
section
variable {X : Cx} {pins : List (Addr × Obj)} {σ : L2.St} {H : Hp} {s : Shared}
def rSortD (K : PySem.W.Frag) : List V → Hp → VK → Prop := fun vs H Q => ∃ (l : Addr) (xs : List V) (F : Ad) (ds : List PyData), vs = [.ref l] ∧ SqL K H l xs ∧ (∀ b, F b → H b ≠ none) ∧ DrAll K (off F H) xs ds ∧ (∀ d, d ∈ ds → plain d = true) ∧ AllAlike ds ∧ Sortable ds ∧ (∀ d, d ∈ ds → d.depth ≤ 60) ∧
  ∀ p vs' H', H p = none → Ex H H' → H' p = some (.lst vs') → DrAll K (off F H) vs' (ds.mergeSort (dataLe false id)) → Q (.ref p) H'
theorem each_map_id {R : Value → PyData → Prop} {us : List Value} {ds : List PyData} (h : EachIs R us ds) : EachIs R us (ds.map id) := by rw [List.map_id]; exact h
theorem cr_sortD (hu : X.A.units + 200 < cLine) : CallR X (.builtin "sorted") (rSortD X.K) := by
  intro pins s σ H vs us Q I r h
  obtain ⟨l, xs, F, ds, rfl, hl, th, rd, pl, al, so, dp, q⟩ := h
  obtain rfl := Vals.ref1 r
  obtain ⟨its, rv, hl', hz⟩ := I.list hl
  have hlen : its.length = ds.length := by rw [← rv.length, all_len rd]
  have e := each_of (h := s.heap) rv rd
  have er : EachIs (fun v d => ∃ as, Reads s.heap v d as) its ds := (PySem.W.each_mem e).mono fun v d ⟨⟨x, r, q⟩, hd⟩ => reads_of I (dmono off_full q) (pl d hd) r
  refine sorted_data (enc := id) hl'.isList e er (by rw [List.map_id]; exact al) (by rw [List.map_id]; exact so) (by rw [← hlen, ← rv.length]; exact hz) (fun d hd => by have := dp d hd; show X.A.units + 2 + d.depth < cLine; omega) fun out hol ho => ?_
  obtain ⟨vs', r1, r2⟩ := of_each ho
  obtain ⟨ep, he'⟩ := PyProof.Rows.sortedAll_at s.heap its out.toArray
  have hl2 : vs'.length ≤ sizeLine := by rw [r1.length, hol, ← hlen, ← rv.length]; exact hz
  have nw : H (s.heap.objs.size + 1) = none := I.hok.fresh (Nat.le_succ _)
  refine ⟨.ref _, upd H (s.heap.objs.size + 1) (.lst vs'), I.laid (t' := s.toks) (fun _ _ => PyProof.Rows.sortedAll_old) (Nat.le_succ _) ⟨hl2, out, ep, r1, ?_⟩, rfl, q _ _ _ nw (Ex.new nw) upd_same r2⟩
  rw [he']
end
section
variable {K : Frag} {fd : Ad} {env : List Sl} {te : TE} {CL : List PyData → Prop}
theorem can_sortD {ds : List PyData} (pl : ∀ d, d ∈ ds → plain d = true) (al : AllAlike ds) (so : Sortable ds) (dp : ∀ d, d ∈ ds → d.depth ≤ 60) (c : CL (ds.mergeSort (dataLe false id))) : CaN K (rSortD K) [.list ds] CL := fun F H vs th r Q k => by
  cases r with
  | cons a b =>
    cases b
    cases a with
    | @lst a us _ sa ra =>
      refine ⟨a, us, F, ds, rfl, sq_of (off_full _ _ sa), th, ra, pl, al, so, dp, fun p vs' H' hp ex e r' => ?_⟩
      refine k p vs' H' _ hp ex e (dmonoAll (fun a o z => ?_) r') c
      obtain ⟨n, z⟩ := off_some z
      rw [off_ne (S := fun a => F a ∨ a = p) fun w => w.elim n fun w => by rw [w, hp] at z; cases z]
      exact ex _ _ z
end
end Dn

namespace Dn
open PySem L2 Evl PyProof.Rows
section
variable {K : Frag} {fd : Ad} {env : List Sl} {te ta tb tc : TE} {C : PyData → Prop} {CL : List PyData → Prop} {P : Po}
/-- a, b = xs.pop(), xs an own list -/
theorem wpS_popT {j : Nat} {p : Addr} {ds : List PyData} {d : PyData} {g : TG} {as : List (Nat × PyData)} (e : env[j]? = some (.own p (ds ++ [d]))) (hg : gD K g d as) (h : P.nx (asgE (env.set j (.own p ds)) as)) :
    wpS K fd (tAsg (tBM0 K "list" rPop (tVar j)) g) env P := fun F0 H0 σ H I D k => by
  obtain ⟨e1, us, h4, h5⟩ := I.slotOwn e
  have hl := all_len h5
  rw [List.length_append, List.length_singleton] at hl
  obtain ⟨v, h6, h7⟩ := all_get (i := us.length - 1) (d := d) h5 (by
    rw [hl, Nat.add_sub_cancel, List.getElem?_append_right (Nat.le_refl _), Nat.sub_self]
    rfl)
  refine ⟨_, e1, .inl ⟨rfl, _, SqL.of h4⟩, p, us, v, rfl, rfl, h4, h6, ?_⟩
  have hd : DrAll K (off (fun a => F0 a ∨ a ∈ ownd env) H) us.dropLast ds := by
    have z := all_take (us.length - 1) h5
    rw [List.dropLast_eq_take]
    rw [hl, Nat.add_sub_cancel, List.take_left'] at z
    · rw [hl, Nat.add_sub_cancel]; exact z
    · rfl
  have I2 := I.mut (vs := us) e hd
  have eo : ownd (env.set j (.own p ds)) = ownd env := ownd_same e
  have r : Dr K (off (fun a => F0 a ∨ a ∈ ownd (env.set j (.own p ds))) (upd H p (.lst us.dropLast))) v d := by
    rw [eo]
    refine dmono (fun a o z => ?_) h7
    obtain ⟨n, z⟩ := off_some z
    rw [off_ne (S := fun a => F0 a ∨ a ∈ ownd env) n, upd_ne (show a ≠ p from fun w => n (.inr (by rw [w]; exact mem_ownd e)))]
    exact z
  exact hg _ _ σ v _ r fun ws q => k.nx _ _ _ h (StOk.asg q (by
    have z : σ = σ := rfl
    refine ⟨I2.ev.there |> fun th => I2.ev, I2.old, I2.th0, I2.fd0, I2.fresh, I2.nd⟩) (Ex.refl _))
theorem itd_revr {F : Ad} {n : Nat} {H : Hp} {a : Int} : ItD K F (Itc (a + ((n : Nat) : Int) - 1) (-1) n) H (rng a n).reverse :=
  ⟨fun i H' e hi => by rw [List.length_reverse, rng_len] at hi; exact hi, fun i H' e hi => by rw [List.length_reverse, rng_len] at hi; exact hi, fun i x H' H'' e hi y => by
    obtain ⟨rfl, rfl⟩ := y
    rw [List.length_reverse, rng_len] at hi
    refine ⟨_, ?_, Ex.refl _, fun G _ _ => .int _⟩
    rw [List.getElem?_reverse (by rw [rng_len]; exact hi), rng_len, rng_get (by omega)]
    congr 2
    omega⟩
theorem wpI_revR {n : Int} (h : wpE K fd te env fun d => ∃ j : Int, d = .int j ∧ -(2 ^ 62) ≤ j ∧ j < 2 ^ 62 ∧ CL (rng 0 j.toNat).reverse) : wpI K fd (iRevR (tRg1 te)) env CL := fun F σ H I R k =>
  h F σ H I _ fun v H1 d u r c => by
    obtain ⟨j, rfl, h1, h2, c⟩ := c
    cases r
    refine ⟨j, rfl, by decide, by decide, h1, h2, ?_⟩
    have z := k (Itc (0 + (((j - 0).toNat : Nat) : Int) - 1) (-1) (j - 0).toNat) H1 _ u (itd_revr (n := (j - 0).toNat) (a := 0)) (by rw [Int.sub_zero]; exact c)
    exact z
/-! ## generators -/
def wpG (K : Frag) (fd : Ad) (t : TGn) (ys : List PyData) (env : List Sl) (P : List PyData → List Sl → Prop) : Prop :=
  ∀ (F0 : Ad) (H0 : Hp) (σ : L2.St) (H : Hp) (yv : List V), StOk K fd F0 H0 σ H env → DrAll K (off (fun a => F0 a ∨ a ∈ ownd env) H) yv ys →
    ∀ D : GEnds, (∀ yv σ H ys env, P ys env → StOk K fd F0 H0 σ H env → DrAll K (off (fun a => F0 a ∨ a ∈ ownd env) H) yv ys → D.nx yv σ H) → t D yv σ H
variable {PG : List PyData → List Sl → Prop} {ys : List PyData} {t u : TGn}
theorem see_all {F0 : Ad} {H0 H H' : Hp} {σ σ' : L2.St} {env' : List Sl} (h : StOk K fd F0 H0 σ H env) (q : StOk K fd F0 (off (fun a => a ∈ ownd env) H) σ' H' env') : Ex (off (fun a => F0 a ∨ a ∈ ownd env) H) (off (fun a => F0 a ∨ a ∈ ownd env') H') := fun a o e => by
  obtain ⟨n, e1⟩ := off_some e
  rw [off_ne (S := fun a => F0 a ∨ a ∈ ownd env') fun z => ?_]
  · exact see_base h q a o e
  · rcases z with z | z
    · exact n (.inl z)
    · have f := q.fresh a z
      rw [off_ne (S := fun a => a ∈ ownd env) fun z => n (.inr z), e1] at f
      cases f
theorem wpG_plain {t : TS} (h : wpS K fd t env { nx := fun env' => PG ys env', rt := fun _ => False }) : wpG K fd (tPlain t) ys env PG := fun F0 H0 σ H yv S r D k => by
  have kb := base_up S
  exact h F0 _ σ H S.base _ ⟨fun σ' H' env' q I => k yv σ' H' ys env' q (I.back (H2 := H) kb S.th0) (dmonoAll (see_all S I) r), fun σ H e c => c.elim, fun σ H e c => c.elim, fun v H d c => c.elim, fun p vs H d c => c.elim⟩
theorem wpG_then (h : wpG K fd t ys env fun ys' env' => wpG K fd u ys' env' PG) : wpG K fd (tGThen t u) ys env PG := fun F0 H0 σ H yv S r D k =>
  h F0 H0 σ H yv S r _ fun yv' σ' H' ys' env' q S' r' => q F0 H0 σ' H' yv' S' r' D k
theorem wpG_nil (h : PG ys env) : wpG K fd tG0 ys env PG := fun F0 H0 σ H yv S r D k => k yv σ H ys env h S r
theorem wpG_yield (hz : ys.length < 100000) (h : wpE K fd te env fun d => PG (ys ++ [d]) env) : wpG K fd (tGYield te) ys env PG := fun F0 H0 σ H yv S r D k =>
  ⟨sz_lt (by rw [all_len r]; exact hz), h _ σ H S.ev _ fun v H2 d u r2 c => k _ σ H2 _ env c (S.upE u) (all_app (dmonoAll (S.ev.see u) r) (all_one r2))⟩
theorem wpG_while {c : TT} {tb : TGn} (I : Nat → List PyData → List Sl → Prop) (m0 : Nat) (i0 : I m0 ys env) (turn : ∀ m ys' env', I m ys' env' → wpT K fd c env' fun b =>
    (b = true → wpG K fd tb ys' env' fun ys'' e => ∃ m', m' < m ∧ I m' ys'' e) ∧ (b = false → PG ys' env')) : wpG K fd (tGWhile c tb) ys env PG := fun F0 H0 σ H yv S r D k => by
  refine ⟨fun m yv σ H => ∃ ys' env', I m ys' env' ∧ StOk K fd F0 H0 σ H env' ∧ DrAll K (off (fun a => F0 a ∨ a ∈ ownd env') H) yv ys', ⟨m0, ys, env, i0, S, r⟩, ?_⟩
  rintro m yv' σ' H' ⟨ys', env', inv, S', r'⟩
  refine turn m ys' env' inv _ σ' H' S'.ev _ fun b H2 u q => ?_
  have S2 := S'.upE u
  have r2 := dmonoAll (S'.ev.see u) r'
  cases b with
  | true =>
    rw [if_pos rfl]
    exact ⟨fun yv σ H => ∃ m', m' < m ∧ ∃ ys' env', I m' ys' env' ∧ StOk K fd F0 H0 σ H env' ∧ DrAll K (off (fun a => F0 a ∨ a ∈ ownd env') H) yv ys', fun yv σ H ⟨m', l, e⟩ => ⟨m', l, e⟩,
      q.1 rfl F0 H0 σ' H2 yv' S2 r2 _ fun yv σ H ys env ⟨m', l, i⟩ S r => ⟨m', l, ys, env, i, S, r⟩⟩
  | false => rw [if_neg (by decide)]; exact k _ _ _ _ _ (q.2 rfl) S2 r2
/-- a generator def that changes nothing that stood -/
def spGn (K : Frag) (G : List PyData → (List PyData → Prop) → Prop) : SpG := fun vs H Q _ => ∃ (F : Ad) (ds : List PyData) (C : List PyData → Prop), (∀ a, F a → H a ≠ none) ∧ DrAll K (off F H) vs ds ∧ G ds C ∧
  ∀ out H' es, Ex H H' → DrAll K (off F H') out es → C es → Q out H'
theorem wpN_listG {G : List PyData → (List PyData → Prop) → Prop} {E : XK} {tas : TA} (h : wpA K fd tas env fun ds => G ds CL) : wpN K fd (tListG (tCallG (spGn K G) [] E tas)) env CL := fun F σ H I Q k =>
  h F σ H I _ fun vs H1 ds u r g => by
    show spGn K G (vs ++ []) H1 _ E
    rw [List.append_nil]
    refine ⟨F, ds, CL, (I.up u).there, r, g, fun out H' es e rd c p hp => ?_⟩
    exact k p out _ es (none_back I.there I.fdF (u.trans (.ex u.feed e)) hp) ((u.trans (.ex u.feed e)).trans (.ex (u.feed.ex e) (Ex.new hp))) upd_same (new_all hp rd) c
end
section
variable {P : Program} {w : World} {K : Frag} {mg : Str → Option Value} {base : Heap}
theorem okG {x : Str} {st : Stmt} {f : Addr} {fdt : FuncData} {N ps : List Str} {k : Nat} {G : List PyData → (List PyData → Prop) → Prop} (D : Fun K x x st f fdt) (S : GScope N ps (defScope st)) (hG : ∀ ds C, G ds C → ds.length = ps.length)
    (body : ∀ (cdv : Value) (A : Around) (outer : List Env) (s : Shared) (H : Hp) (E : XK) (pn : List (Addr × Obj)), Room k (A.deeper (envOfC x (defScope st) s.heap.objs.size f cdv)) →
      ∃ t, GSs (gcxOf P w K mg base N x (defScope st) f cdv A outer s H E pn) (defBody st) t ∧ ∀ ds C, G ds C → wpG K nofd t [] (env0 N ds) fun ys _ => C ys) : GFn P w K mg base (k + 1) f fdt ps (spGn K G) := by
  obtain ⟨oc, od, kV, doc, pm, an, cdv, ct, osl, rfl, lk, hcd⟩ := D.ex
  refine gfn_of lk hcd S (fun vs H Q E h => ?_) fun A outer s H vs Q E pn hr h => ?_
  · obtain ⟨F, ds, C, _, r, g, _⟩ := h
    rw [all_len r]; exact hG ds C g
  · obtain ⟨t, ht, hw⟩ := body cdv A outer s H E pn hr
    obtain ⟨F, ds, C, th, r, g, q⟩ := h
    have eo : ownd (env0 N ds) = [] := by unfold env0; rw [ownd_dat, ownd_no]
    have ehid : (fun a => F a ∨ a ∈ ownd (env0 N ds)) = F := by
      funext a
      rw [eo]
      exact propext ⟨fun z => z.elim id (fun z => by cases z), .inl⟩
    refine ⟨t, ht, hw ds C g F H (start N vs) H [] ?_ .nil _ fun yv σ H' ys env c I r => q yv H' ys (fun a o z => I.old a o (fun z => z) z) (dmonoAll (off_less fun a z => .inl z) r) c⟩
    refine ⟨⟨fun a z => ?_, fun a z => z.elim, fun f z => z.elim, ?_, fun i o x e1 e2 => ?_⟩, fun a o _ z => z, th, fun a z => z.elim, fun p hp => (by rw [eo] at hp; cases hp), (by rw [eo]; exact List.nodup_nil)⟩
    · rcases z with z | z
      · exact th a z
      · rw [eo] at z; cases z
    · unfold L2.start env0
      rw [List.length_append, List.length_append, List.length_map, List.length_map, List.length_replicate, List.length_replicate, all_len r]
    · rw [ehid]
      exact paired_get (G := H) r (by rw [all_len r]) i o x e1 e2
end
end Dn

namespace Dn
open PySem L2 Evl PyProof.Rows
/-! ## enumerate(t), t a tuple -/
theorem enum_new1 {v : Value} {o : Obj} {Hh : Heap → Prop} (B : Begins v o Hh) : Meets (Builtin.«enumerate.__new__» ⟨[.type "enumerate", v], []⟩) (fun _ R s => Hh s.heap ∧
      R (.ok (.ret (.ref (s.heap.push o).objs.size))) { s with heap := (s.heap.push o).push { cls := .type "enumerate", data := .fields #[.none, .bool false, .ref s.heap.objs.size, rawInt 0, .none, .none] } }) :=
  .of_wp fun prog w A R s h => by
    obtain ⟨hp, g, d, tk, os⟩ := s
    obtain ⟨h1, h⟩ := h
    have hsub := sub_enumerate
    have itr : ∀ {A' : Around} {E : Value → Shared → Prop} {Q : Value → Shared → Prop}, Q (.ref hp.objs.size) ⟨hp.push o, g, d, tk, os⟩ → wpAny (model prog w) A' (pyIter v) Q E ⟨hp, g, d, tk, os⟩ :=
      fun q => B.iter prog w _ _ ⟨hp, g, d, tk, os⟩ _ h1 q
    wp_walk using itr
    refine wpAny_stack_any fun st => wpAny_pure ?_
    split
    · rename_i c _ _ _ _ _
      cases (c == Value.type "enumerate") <;> (wp_walk using itr; exact ⟨_, rfl, h⟩)
    · wp_walk using itr
      exact ⟨_, rfl, h⟩
section
variable {prog : Program} {w : World} {A : Around} {E : Value → Shared → Prop} {s : Shared}
theorem enum_call1 {v : Value} {o : Obj} {Hh : Heap → Prop} {Q : Value → Shared → Prop} (B : Begins v o Hh) (h1 : Hh s.heap)
    (h : ∀ h', IsEnum h' (s.heap.objs.size + 1) s.heap.objs.size 0 .none → h'.get? s.heap.objs.size = some o → h'.objs.size = s.heap.objs.size + 2 → (∀ b o, s.heap.get? b = some o → h'.get? b = some o) → Q (.ref (s.heap.objs.size + 1)) { s with heap := h' }) :
    wpAny (model prog w) A (call (.type "enumerate") [v]) Q E s := by
  refine callType_new F.called_enumerate (by decide) (F.typeCall_enumerate_1 _) (F.newCall_enumerate_1 _) (fun obj => F.args_object_init_2 obj _) F.entry_enumerate_new (enum_new1 B) ⟨h1, ?_⟩
  have hz : (s.heap.push o).objs.size = s.heap.objs.size + 1 := Heap.size_push ..
  show _ ∧ _
  rw [hz]
  have he : IsEnum ((s.heap.push o).push { cls := .type "enumerate", data := .fields #[.none, .bool false, .ref s.heap.objs.size, rawInt 0, .none, .none] }) (s.heap.objs.size + 1) s.heap.objs.size 0 .none := by
    have z := Heap.get?_push_size (s.heap.push o) (o := { cls := .type "enumerate", data := .fields #[.none, .bool false, .ref s.heap.objs.size, rawInt 0, .none, .none] }) rfl
    rw [hz] at z; exact z
  exact ⟨⟨_, he, rfl⟩, h _ he (Heap.get?_push_of_some _ (Heap.get?_push_size _ B.free)) (by rw [Heap.size_push, hz]) fun b o x => Heap.get?_push_of_some _ (Heap.get?_push_of_some _ x)⟩
end
theorem wpAny_pyNext_enum_tupEnd {prog : Program} {w : World} {A : Around} {E : Value → Shared → Prop} {s : Shared} {e it t : Addr} {items : Array Value} {i : Nat} {j : Int} {old : Value} {Q : Option Value → Shared → Prop} (hh : A.handled = none)
    (he : IsEnum s.heap e it j old) (hit : s.heap.IsTupleIter it t i) (ht : s.heap.IsTuple t items) (hle : items.size ≤ i) (hQ : ∀ h', Heap.ExtBut it s.heap h' → Q none { s with heap := h' }) : wpAny (model prog w) A (pyNext (.ref e)) Q E s := by
  have hT : s.TypeIs (.ref e) "enumerate" := ⟨_, he, rfl⟩
  unfold pyNext
  refine wpAny_bind (wpAny_attempt (wpAny_callSpecial?_slot (name := Str.ofString "__next__") hT F.slot_enumerate_next (wpAny_call_entry F.slot_enumerate_next hT F.entry_enumerate_next ?_ (F.args_enumerate_next_1 _))))
  show wpAny _ _ (field (.ref e) 2 >>= _) _ _ _
  refine wpAny_bind (wpAny_field he rfl (x := .ref it) rfl ?_)
  refine wpAny_bind (wpAny_nextOf_tuple_end hh hit ht (Array.getElem?_eq_none hle) fun h' x he' hx' => ?_)
  obtain ⟨o, ho, hc⟩ := hx'
  refine wpAny_bind (wpAny_isInstance (T := "StopIteration") (b := true) ⟨o, ho, hc⟩ isSubtype_stop ?_)
  exact wpAny_pure (hQ _ he')
def IteT (K : Frag) (a : Addr) : It :=
  ⟨fun i H => ∃ (xs : List V) (x : V), SqT K H a xs ∧ xs[i]? = some x, fun i H v H' => ∃ T x, v = .ref T ∧ H T = none ∧ H' = upd H T (.tup [.int (i : Nat), x]) ∧ ∀ xs, SqT K H a xs → xs[i]? = some x, fun i H => ∃ xs : List V, SqT K H a xs ∧ xs.length ≤ i⟩
theorem istup_iff {h : Heap} {a : Addr} {its : Array Value} (p : IsTup h a its) : h.IsTuple a its := by
  obtain ⟨o, e, c, n, d⟩ := p
  exact ⟨o, e, c, n, d⟩
theorem turn_enumT {P : Program} {w : World} {K : Frag} {elts : List Expr} {kk : Nat} {tpos : Pos} (a e it : Addr) :
    Turn P w K (.Tuple elts kk tpos) (IteT K a) [e, it] e (fun i h => (∃ old, IsEnum h e it ((i : Nat) : Int) old) ∧ h.IsTupleIter it a i ∧ e ≠ it ∧ a ≠ it ∧ e ≠ a) where
  mem := by simp
  obj := fun i h st b hb => by
    obtain ⟨⟨old, he⟩, ⟨o, ho, hc, hd⟩, _⟩ := st
    rcases (by simpa using hb : b = e ∨ b = it) with z | z
    · rw [z]; exact ⟨_, he, fun v q => nomatch q⟩
    · rw [z]; exact ⟨o, ho, fun v q => by rw [hd] at q; cases q⟩
  keep := fun i h h' st k => let ⟨⟨old, he⟩, hi, hne⟩ := st; ⟨⟨old, k e (by simp) _ he⟩, hi.at fun o q => k it (by simp) o q, hne⟩
  item := by
    intro X hP hw hK hc i pins s σ H E I hf st hg
    subst hP hw hK
    obtain ⟨⟨old, he⟩, hit, hne, hai, hea⟩ := st
    obtain ⟨xs, x, hq, hx⟩ := hg
    obtain ⟨its, rv, p, hz⟩ := I.tuple hq
    have hel : e < s.heap.objs.size := Heap.lt_size he
    have hil : it < s.heap.objs.size := by obtain ⟨_, q, _⟩ := hit; exact Heap.lt_size q
    have hi : i < its.toArray.size := by rw [List.size_toArray, ← rv.length]; exact (List.getElem?_eq_some_iff.mp hx).1
    refine wpAny_pyNext_enum_itemD (Draws.tuple (show X.A.in1.handled = none from I.ok.hd hc) it a hai its.toArray) he ⟨hit, istup_iff p⟩ hi hne (by simp [hne, hea]) fun u h' tk hu ho hst' hT hsz hk => ?_
    obtain ⟨u', hu', ru'⟩ := rv.get hx
    have hu2 : its[i]? = some u := by simpa using hu
    rw [hu'] at hu2
    obtain rfl := Option.some.inj hu2
    refine ⟨_, rfl, wpAny_letOwnedTupleGo_enum (s := { s with heap := h', toks := tk + 1 }) ho fun h'' he' sb => ?_⟩
    have hT2 : h''.get? s.heap.objs.size = some { cls := .type "tuple", data := .seq #[.int i tk, u'] } := (sb.2 _ (Nat.ne_of_gt hel)).trans hT
    have new : ObjOk X.prog X.w (upd H s.heap.objs.size (.tup [.int (i : Nat), x])) h'' s.heap.objs.size (.tup [.int (i : Nat), x]) :=
      ⟨by show 2 ≤ sizeLine; decide, [.int i tk, u'], .cons ⟨_, rfl⟩ (.cons ru' .nil), ⟨_, hT2, rfl, _, rfl⟩⟩
    have I1 : L2.Inv X pins σ (upd H s.heap.objs.size (.tup [.int (i : Nat), x])) { s with heap := h'', toks := tk + 1 } :=
      I.turnedNew (ch := [e, it]) (fun b ob hb q => (sb.2 b (fun z => hb (by simp [z]))).trans (hk b ob (fun z => hb (by simp [z])) (fun z => hb (by simp [z])) q)) hf (Nat.le_refl _) new
    refine ⟨.ref s.heap.objs.size, _, I1, rfl, ⟨_, x, rfl, I.hok.fresh (Nat.le_refl _), rfl, fun ys hy => by rw [I.tuple_inj hy hq]; exact hx⟩, ⟨⟨u', ?_⟩, hst'.1.at fun o q => (sb.2 it (Ne.symm hne)).trans q, hne, hai, hea⟩, fun b hb => ?_⟩
    · have e1 : ((i + 1 : Nat) : Int) = (i : Int) + 1 := by omega
      rw [e1]; exact he'
    · have hb' : b < s.heap.objs.size := by
        rcases (by simpa using hb : b = e ∨ b = it) with z | z
        · rw [z]; exact hel
        · rw [z]; exact hil
      rw [upd_ne (Nat.ne_of_lt hb')]
      exact (hf b hb).1
  done := by
    intro X hP hw hK hc i pins s σ H E I hf st hg
    subst hP hw hK
    obtain ⟨⟨old, he⟩, hit, hne, hai, hea⟩ := st
    obtain ⟨xs, hq, hx⟩ := hg
    obtain ⟨its, rv, p, hz⟩ := I.tuple hq
    obtain ⟨f0, f1, f2, f3, f4, f5⟩ := hf it (by simp)
    have hl := rv.length
    have hle : its.toArray.size ≤ i := by rw [List.size_toArray]; omega
    refine wpAny_pyNext_enum_tupEnd (I.ok.hd hc) he hit (istup_iff p) hle fun h' eb => ⟨rfl, I.turned (t' := s.toks) (fun b o hb q => eb b o hb q) f0 f1 f3 f4 f5⟩
  self := fun A i s Q E st h => let ⟨⟨_, he⟩, _⟩ := st; wpAny_pyIter_enum he h
def iEnumT (K : Frag) (ta : TA) : TI := fun σ H R => ta σ H fun vs H1 => ∃ a xs, vs = [.ref a] ∧ SqT K H1 a xs ∧ R (IteT K a) H1
theorem pi_enumT {X : Cx} {e : Expr} {ta : TA} {p pos tpos : Pos} {elts : List Expr} {kk : Nat} (hg : Gl X "enumerate") (hm : X.mg "enumerate" = none) (ha : PA X [e] ta) (hs : starEach [e] X.env = [(false, eval e X.env)] := by rfl) :
    PI X (.Tuple elts kk tpos) (.Call (.Name "enumerate" p) [e] [] pos) (iEnumT X.K ta) := by
  refine ⟨fun pins s σ H R I h => ?_⟩
  refine Call_ (ld_blt I hg hm boot_enumerate (PyProof.Rows.callWith_type1 (thn (ha.run pos pins s σ H _ I h) fun us s1 ⟨vs, H1, I1, r1, q1⟩ => ?_) hs rfl))
  obtain ⟨a, xs, ex, hq, q⟩ := q1
  subst ex
  obtain rfl := Vals.ref1 r1
  obtain ⟨its, rv, p', hz⟩ := I1.tuple hq
  have hta := istup_iff p'
  have hal : a < s1.heap.objs.size := by
    obtain ⟨o, eo, _⟩ := hta
    exact Heap.lt_size eo
  refine enum_call1 (begins_tuple a its.toArray) hta fun h' he hit hsz hk => wpAny_pyIter_enum he ?_
  have I2 : L2.Inv X pins σ H1 { s1 with heap := h' } := I1.kept (t' := s1.toks) hk
  refine ⟨s1.heap.objs.size + 1, [s1.heap.objs.size + 1, s1.heap.objs.size], _, _, H1, rfl, I2, turn_enumT a (s1.heap.objs.size + 1) s1.heap.objs.size, ⟨⟨.none, he⟩, ⟨_, hit, rfl, rfl⟩, Nat.succ_ne_self _, Nat.ne_of_lt hal, Nat.ne_of_gt (Nat.lt_succ_of_lt hal)⟩, fun b hb => ?_, q⟩
  have hle : s1.heap.objs.size ≤ b := by
    rcases (by simpa using hb : b = s1.heap.objs.size + 1 ∨ b = s1.heap.objs.size) with z | z
    · rw [z]; exact Nat.le_add_right _ _
    · rw [z]; exact Nat.le_refl _
  exact I1.fpOk hle (I1.hok.fresh hle)
section
variable {K : Frag} {fd : Ad} {env : List Sl} {CL : List PyData → Prop}
theorem wpI_enumT {ta : TA} (h : wpA K fd ta env fun ds => ∃ es, ds = [.tuple es] ∧ CL (enumD es)) : wpI K fd (iEnumT K ta) env CL := fun F σ H I R k =>
  h F σ H I _ fun vs H2 ds u r c => by
    obtain ⟨es, rfl, c⟩ := c
    cases r with
    | cons r b =>
      cases b
      cases r with
      | @tup a us _ sa ra =>
        have hl := all_len ra
        refine ⟨a, us, rfl, ex_t off_full sa, k _ H2 _ u ⟨fun i H' e hi => ?_, fun i H' e hi => ⟨us, ex_t e sa, by rw [enumD_len] at hi; rw [hl]; exact hi⟩, fun i x H' H'' e hi y => ?_⟩ c⟩
        · rw [enumD_len] at hi
          have hi' : i < us.length := by rw [hl]; exact hi
          exact ⟨us, us[i], ex_t e sa, List.getElem?_eq_getElem hi'⟩
        · obtain ⟨T, z, rfl, hT, rfl, y⟩ := y
          obtain ⟨d, e1, e2⟩ := all_get' ra (y us (ex_t e sa))
          refine ⟨_, enumD_get e1, Ex.new hT, fun G g g2 => .tup (st_of (g2 _ _ hT upd_same)) (.cons (.int _) (all_one (dmono g e2)))⟩
end
end Dn

namespace Dn
open PySem L2 Evl PyProof.Rows
/-! ## tuple * int, the int at least 1 -/
theorem tuple_mul_one (l : Addr) (items : Array Value) (n : Nat) (dd : Option Addr) (sl : Array (Option Value)) (u : Tok) :
    Meets (Builtin.«tuple.__mul__» ⟨[.ref l, .int 1 u], []⟩) (fun _ R s => s.heap.get? l = some { cls := .type "tuple", dict := dd, data := .seq items n, slots := sl } ∧ R (.ok (.ret (Value.ref l))) s) :=
  .of_wp fun prog w A R s h => by
    obtain ⟨hp, g, d, tk, os⟩ := s
    obtain ⟨hl, h⟩ := h
    have f1 := AutoSeq1.idx_int
    have c0 : (decide ((1 : Int) < -(2 ^ 63)) || decide ((1 : Int) ≥ 2 ^ 63)) = false := by decide
    have c1 : (items.isEmpty || (1 : Int) == 1) = true := by rw [show ((1 : Int) == 1) = true from rfl, Bool.or_true]
    wp_walk using wpAny_loadPart' hl
    repeat (first
      | (refine wpAny_ite_false (decide_eq_false (by rw [c0]; exact Bool.false_ne_true)) ?_; wp_walk using wpAny_loadPart' hl)
      | (refine wpAny_ite_true (decide_eq_true c1) ?_; wp_walk using wpAny_loadPart' hl))
    exact ⟨_, rfl, h⟩
def rRepU (K : Frag) : R2 := fun x y H Q => rRepT K x y H Q ∨ ∃ l xs, x = .ref l ∧ y = .int 1 ∧ SqT K H l xs ∧ Q x H
theorem op_repU {X : Cx} : OpR X (binaryOp .Mult) (rRepU X.K) := by
  intro pins s σ H x y v u Q I rx ry h
  rcases h with h | h
  · exact op_repT pins s σ H x y v u Q I rx ry h
  obtain ⟨l, xs, rfl, rfl, hT, q⟩ := h
  cases rx
  obtain ⟨t, rfl⟩ := ry
  obtain ⟨its, r, ⟨⟨cls, dd, data, sl⟩, ho, hc, n, hd⟩, hs⟩ := I.tuple hT
  simp only at hc hd
  subst hc hd
  refine wpAny_binaryOp_repeat_ref (T := "tuple") (U := "int") (by decide) ⟨_, ho, rfl⟩ (fun s' => typeIs_int s' 1 t) noFill_tuple_mul F.fills_int_mul F.slot_int_rmul repeat_tuple F.slot_int_index.lookup
    (call_meets F.slot_int_rmul (typeIs_int s 1 t) F.entry_int_rmul (F.args_int_rmul_2 _ _) (int_rmul_tuple 1 t l its.toArray n dd sl)
      ⟨ho, rfl, ⟨_, ho, rfl⟩, call_meets F.slot_tuple_mul ⟨_, ho, rfl⟩ F.entry_tuple_mul (F.args_tuple_mul_2 _ _) (tuple_mul_one l its.toArray n dd sl t) ⟨ho, ?_⟩⟩)
  exact ⟨.ref l, H, I.tok _, rfl, q⟩
section
variable {K : Frag} {fd : Ad} {env : List Sl} {te ta tb tc : TE} {C : PyData → Prop} {CL : List PyData → Prop} {P : Po}
theorem opd_repU {xs : List PyData} {n : Int} (hx : xs ≠ []) (h1 : 1 ≤ n) (h2 : n ≤ 1000) (h3 : xs.length ≤ 1000) (c : C (.tuple (List.replicate n.toNat xs).flatten)) : OpD K (rRepU K) (.tuple xs) (.int n) C := fun F H x y th rx ry Q k => by
  by_cases z : n = 1
  · subst z
    cases ry
    cases rx with
    | @tup a us _ sa ra =>
      have e : (List.replicate (1 : Int).toNat xs).flatten = xs := by
        show (List.replicate 1 xs).flatten = xs
        simp
      rw [e] at c
      exact .inr ⟨a, us, rfl, rfl, ex_t off_full sa, k _ H _ (Ex.refl H) (.tup sa ra) c⟩
  · exact opd_repT hx (by omega) h2 h3 c F H x y th rx ry (fun v H => Q v H) k |> .inl
theorem und_neg {i : Int} (c : C (.int (-i))) : UnD K (rU fun i => .int (-i)) (.int i) C := fun F H x th rx Q k => by
  cases rx; exact ⟨i, rfl, k _ H _ (Ex.refl H) (.int _) c⟩
def rReprI : List V → Hp → VK → Prop := fun xs H Q => ∃ i, xs = [.int i] ∧ i.natAbs.log2 < 1920 ∧ Q (.str (toString i)) H
theorem cad_reprI {i : Int} (h : i.natAbs.log2 < 1920) (c : C (.str (toString i))) : CaD K rReprI [.int i] C := fun F H vs th r Q k => by
  cases r with
  | cons a b => cases b; cases a; exact ⟨i, rfl, h, k _ H _ (Ex.refl H) (.str _) c⟩
/-! ## several names at once -/
theorem wpS_par {i j : Nat} (h : wpE K fd ta env fun a => wpE K fd tb env fun b => P.nx ((env.set i (.dat a)).set j (.dat b))) : wpS K fd (tPar i j (tCons ta (tCons tb tNil))) env P := fun F0 H0 σ H I D k =>
  h _ σ H I.ev _ fun v H2 a u1 r1 c1 => c1 _ σ H2 (I.upE u1).ev _ fun w H3 b u2 r2 c2 => by
    have I3 := (I.upE u1).upE u2
    have I4 := I3.set (i := i) (x := .dat a) (dmono ((I.upE u1).ev.see u2) r1) (fun p ds e => by cases e)
    refine ⟨v, w, rfl, k.nx _ _ _ c2 (I4.set (i := j) (x := .dat b) ?_ fun p ds e => by cases e)⟩
    exact dmono (off_less fun a q => q.imp id fun z => (ownd_sub (fun p ds z => by cases z)).subset z) r2
theorem wpS_par3 {i j l : Nat} (h : wpE K fd ta env fun a => wpE K fd tb env fun b => wpE K fd tc env fun c => P.nx (((env.set i (.dat a)).set j (.dat b)).set l (.dat c))) : wpS K fd (tPar3 i j l (tCons ta (tCons tb (tCons tc tNil)))) env P := fun F0 H0 σ H I D k =>
  h _ σ H I.ev _ fun v H2 a u1 r1 c1 => c1 _ σ H2 (I.upE u1).ev _ fun w H3 b u2 r2 c2 => c2 _ σ H3 ((I.upE u1).upE u2).ev _ fun z H4 c u3 r3 c3 => by
    have J2 := I.upE u1
    have J3 := J2.upE u2
    have J4 := J3.upE u3
    have I5 := J4.set (i := i) (x := .dat a) (dmono (J2.ev.see (u2.trans u3)) r1) (fun p ds e => by cases e)
    have less : ∀ {env : List Sl} {i : Nat} {d : PyData} {G : Hp}, Ex (off (fun a => F0 a ∨ a ∈ ownd env) G) (off (fun a => F0 a ∨ a ∈ ownd (env.set i (.dat d))) G) := fun {env i d G} => off_less fun a q => q.imp id fun z => (ownd_sub (fun p ds z => by cases z)).subset z
    have I6 := I5.set (i := j) (x := .dat b) (dmono less (dmono (J3.ev.see u3) r2)) (fun p ds e => by cases e)
    exact ⟨v, w, z, rfl, k.nx _ _ _ c3 (I6.set (i := l) (x := .dat c) (dmono (less.trans less) r3) fun p ds e => by cases e)⟩
end
section
variable {K : Frag} {fd : Ad} {env : List Sl} {te ta tb tc : TE} {P : Po} {t u : TS}
/-- the second one a new list -/
theorem wpS_parO {i j : Nat} (h : wpE K fd ta env fun a => wpN K fd tb env fun ds => ∀ q, P.nx ((env.set i (.dat a)).set j (.own q ds))) : wpS K fd (tPar i j (tCons ta (tCons tb tNil))) env P := fun F0 H0 σ H I D k =>
  h _ σ H I.ev _ fun v H2 a u1 r1 c1 => c1 _ σ H2 (I.upE u1).ev _ fun p vs H3 ds hp u2 e r2 c2 => by
    have I4 := (I.upE u1).set (i := i) (x := .dat a) r1 (fun p ds e => by cases e)
    refine ⟨v, .ref p, rfl, k.nx _ _ _ (c2 p) (I4.newOwn (i := j) u2 hp e (dmonoAll (off_less fun a q => q.imp (fun q => q.imp id fun z => ?_) id) r2))⟩
    exact (ownd_sub (fun p ds z => by cases z)).subset z
theorem wpS_cut {R : List Sl → Prop} (h : wpS K fd t env { P with nx := R }) (q : ∀ e, R e → wpS K fd u e P) : wpS K fd (tSeq t u) env P := wpS_seq (wpS_imp h q (fun _ z => z) (fun _ z => z) (fun _ z => z) fun _ z => z)
end
/-! ## defs that hand back a new list -/
def spN (K : Frag) (G : List PyData → (List PyData → Prop) → Prop) : Sp := fun vs H Q _ => ∃ (F : Ad) (ds : List PyData) (C : List PyData → Prop), (∀ a, F a → H a ≠ none) ∧ DrAll K (off F H) vs ds ∧ G ds C ∧
  ∀ p xs H' es, H p = none → Ex H H' → H' p = some (.lst xs) → DrAll K (off (fun a => F a ∨ a = p) H') xs es → C es → Q (.ref p) H'
section
variable {K : Frag} {fd : Ad} {env : List Sl} {te ta tb tc : TE} {C : PyData → Prop} {CL : List PyData → Prop} {P : Po}
theorem wpN_call {G : List PyData → (List PyData → Prop) → Prop} {E : XK} {tas : TA} (h : wpA K fd tas env fun ds => G ds CL) : wpN K fd (tCall (spN K G) [] E tas) env CL := fun F σ H I Q k =>
  h F σ H I _ fun vs H1 ds u r g => by
    show spN K G (vs ++ []) H1 Q E
    rw [List.append_nil]
    exact ⟨F, ds, CL, (I.up u).there, r, g, fun p xs H' es hp e e1 r c => k p xs H' es (none_back I.there I.fdF u hp) (u.trans (.ex u.feed e)) e1 r c⟩
end
section
variable {P : Program} {w : World} {K : Frag} {mg : Str → Option Value} {base : Heap}
theorem okN {x qual : Str} {st : Stmt} {f : Addr} {fdt : FuncData} {N ps : List Str} {k : Nat} {G : List PyData → (List PyData → Prop) → Prop} (D : Fun K x qual st f fdt) (S : FnScope N ps (defScope st)) (hG : ∀ ds C, G ds C → ds.length = ps.length)
    (body : ∀ (cdv : Value) (A : Around) (outer : List Env) (s : Shared) (H : Hp) (E : XK), Room k (A.deeper (envOfC qual (defScope st) s.heap.objs.size f cdv)) →
      ∃ t, PSs (cxOf CX0 P w K mg base N qual (defScope st) f cdv A outer s H E).nox (defBody st) t ∧ ∀ ds C, G ds C → wpS K nofd t (env0 N ds) { nx := fun _ => False, rt := fun _ => False, ow := C }) : FnOk P w K mg base CX0 (k + 1) f fdt ps (spN K G) := by
  refine D.ok S (fun vs H Q E h => ?_) (fun cdv A outer s H vs Q E hr h => ?_)
  · obtain ⟨F, ds, C, _, r, g, _⟩ := h
    rw [all_len r]; exact hG ds C g
  · obtain ⟨t, ht, hw⟩ := body cdv A outer s H E hr
    obtain ⟨F, ds, C, th, r, g, q⟩ := h
    have eo : ownd (env0 N ds) = [] := by unfold env0; rw [ownd_dat, ownd_no]
    refine ⟨t, ht, hw ds C g F H (start N vs) H ?_ _ ⟨fun σ H' e c I => c.elim, fun σ H e c => c.elim, fun σ H e c => c.elim, fun v H' d c u r => c.elim, fun p xs H' es c hp u e r => q p xs H' es hp (fun a o z => u.keep a o (fun z => z) z) e r c⟩⟩
    refine ⟨⟨fun a z => ?_, fun a z => z.elim, fun f z => z.elim, ?_, fun i o x e1 e2 => ?_⟩, fun a o _ z => z, th, fun a z => z.elim, fun p hp => (by rw [eo] at hp; cases hp), (by rw [eo]; exact List.nodup_nil)⟩
    · rcases z with z | z
      · exact th a z
      · rw [eo] at z; cases z
    · unfold L2.start env0
      rw [List.length_append, List.length_append, List.length_map, List.length_map, List.length_replicate, List.length_replicate, all_len r]
    · have ehid : (fun a => F a ∨ a ∈ ownd (env0 N ds)) = F := by
        funext a
        rw [eo]
        exact propext ⟨fun z => z.elim id (fun z => by cases z), .inl⟩
      rw [ehid]
      exact paired_get (G := H) r (by rw [all_len r]) i o x e1 e2
end
/-! ## a feed is made, the rest runs on it -/
def keep1 : List Sl → List Sl
  | .dat d :: r => .dat d :: r.map fun _ => .no
  | r => r.map fun _ => .no
theorem keep1_len (e : List Sl) : (keep1 e).length = e.length := by
  unfold keep1
  split
  · rw [List.length_cons, List.length_cons, List.length_map]
  · rw [List.length_map]
theorem keep1_get {e : List Sl} {j : Nat} {x : Sl} (h : (keep1 e)[j]? = some x) : x = .no ∨ ∃ d, x = .dat d ∧ e[j]? = some (.dat d) := by
  unfold keep1 at h
  split at h
  · cases j with
    | zero =>
      have h : Sl.dat _ = x := Option.some.inj h
      exact .inr ⟨_, h.symm, rfl⟩
    | succ j =>
      have z := List.mem_of_getElem? (show (List.map (fun _ => Sl.no) _)[j]? = some x from h)
      obtain ⟨y, _, e⟩ := List.mem_map.mp z
      exact .inl e.symm
  · have z := List.mem_of_getElem? h
    obtain ⟨y, _, e⟩ := List.mem_map.mp z
    exact .inl e.symm
theorem keep1_own (e : List Sl) : ownd (keep1 e) = [] := by
  have key : ∀ l : List Sl, ownd (l.map fun _ => Sl.no) = [] := fun l => by
    induction l with
    | nil => rfl
    | cons a l ih => exact ih
  unfold keep1
  split
  · exact key _
  · exact key _
section
variable {K : Frag} {env : List Sl} {te : TE} {P : Po} {u : TS}
theorem SlOk.fedd {F : Ad} {H : Hp} {o : Option V} {x : Sl} {f : Addr} (h : SlOk K nofd F H o x) (n : ∀ q ds, x = .own q ds → q ≠ f) : SlOk K (fun a => a = f) F H o x := by
  cases x with
  | no => cases o <;> exact True.intro
  | dat d => cases o <;> exact h
  | own p ds =>
    cases o with
    | none => exact h
    | some v => exact ⟨h.1, h.2.1, n p ds rfl, h.2.2.2⟩
  | fed g =>
    cases o with
    | none => exact h
    | some v => exact h.2.elim
  | raw w => cases o <;> exact h
theorem wpS_feed {i : Nat} (h : wpN K nofd te env fun ds => ∃ d m : Int, ds = [.int d, .int m] ∧ 0 ≤ d ∧ 0 ≤ m ∧ m < 4294967311 ∧ ∀ p, wpS K (fun a => a = p) u (env.set i (.fed p)) { nx := fun e => P.nx (keep1 e), rt := P.rt }) :
    wpS K nofd (tSeq (tAsg te (gName i)) u) env P := fun F0 H0 σ H I D k =>
  h _ σ H I.ev _ fun p vs H2 ds hp up e r c => by
    obtain ⟨d, m, rfl, hd, hm, hm2, c⟩ := c
    obtain rfl := all_ints (ns := [d, m]) r
    have I2 := I.upE up
    have np : H0 p = none := none_back I.th0 I.fd0 I.all hp
    have nown : ¬ p ∈ ownd env := fun z => I.ev.there p (.inr z) hp
    have sub : (ownd (env.set i (.fed p))).Sublist (ownd env) := ownd_sub fun p ds z => by cases z
    have nown' : ¬ p ∈ ownd (env.set i (.fed p)) := fun z => nown (sub.subset z)
    obtain ⟨H1, eH1⟩ : ∃ H1, H1 = off (fun a => a ∈ ownd (env.set i (.fed p))) H2 := ⟨_, rfl⟩
    have H1n : ∀ a, ¬ a ∈ ownd (env.set i (.fed p)) → H1 a = H2 a := fun a n => by rw [eH1]; exact off_ne (S := fun a => a ∈ ownd (env.set i (.fed p))) n
    have H1o : ∀ a, a ∈ ownd (env.set i (.fed p)) → H1 a = none := fun a n => by rw [eH1]; exact off_in (S := fun a => a ∈ ownd (env.set i (.fed p))) n
    have old1 : ∀ a o, H0 a = some o → H1 a = some o := fun a o z => by
      rw [H1n a fun w => by rw [I.fresh a (sub.subset w)] at z; cases z]
      exact I2.old a o (fun z => z) z
    have S : StOk K (fun a => a = p) (fun a => F0 a ∨ a = p) H1 (σ.set i (some (.ref p))) H2 (env.set i (.fed p)) := by
      refine ⟨⟨fun a z => ?_, fun a z => .inl (.inr z), fun f z => ?_, by rw [List.length_set, List.length_set]; exact I2.ev.len, fun j o y e1 e2 => ?_⟩, fun a o n z => ?_, fun a z => ?_, fun a z => .inr z, fun q hq => H1o q hq, I.nd.sublist sub⟩
      · rcases z with (z | z) | z
        · exact I2.ev.there a (.inl z)
        · rw [z, e]; exact fun c => nomatch c
        · exact I2.ev.there a (.inr (sub.subset z))
      · subst z; exact ⟨d, m, e, hd, hm, hm2⟩
      · by_cases hj : i = j
        · subst hj
          have l1 : i < σ.length := by have := (List.getElem?_eq_some_iff.mp e1).1; rwa [List.length_set] at this
          have l2 : i < env.length := by have := (List.getElem?_eq_some_iff.mp e2).1; rwa [List.length_set] at this
          rw [List.getElem?_set_self l1] at e1
          rw [List.getElem?_set_self l2] at e2
          cases e1; cases e2
          exact ⟨rfl, rfl⟩
        · have e2' := e2
          rw [List.getElem?_set_ne hj] at e1 e2
          have q0 := I.ev.slot j o y e1 e2
          have q1 : SlOk K nofd (fun a => (F0 a ∨ a = p) ∨ a ∈ ownd (env.set i (.fed p))) H o y := q0.more (fun a z => by
            rcases z with (z | z) | z
            · exact .inl (.inl z)
            · exact .inr (by rw [z]; exact hp)
            · exact .inl (.inr (sub.subset z))) fun p' ds' z => by subst z; exact .inr (mem_ownd e2')
          refine (q1.up (fun a z => z.elim) up).fedd fun q ds z w => ?_
          subst z; subst w
          exact nown (mem_ownd e2)
      · exact (by rw [H1n a (fun w => by rw [H1o a w] at z; cases z)] at z; exact z)
      · rcases z with z | z
        · rw [H1n a fun w => I.th0 a z (I.fresh a (sub.subset w))]
          exact I2.ev.there a (.inl z)
        · subst z; rw [H1n a nown', e]; exact fun c => nomatch c
    refine c p _ H1 _ H2 S _ ⟨fun σ' H' e' q J => k.nx _ _ _ q ?_, fun σ H e c => c.elim, fun σ H e c => c.elim, fun v H' d c u r => ?_, fun p vs H d c => c.elim⟩
    · have eo := keep1_own e'
      refine ⟨⟨fun a z => ?_, fun a z => z.elim, fun f z => z.elim, by rw [keep1_len]; exact J.ev.len, fun j o y e1 e2 => ?_⟩, fun a o n z => J.old a o (fun w => by rw [w, np] at z; cases z) (old1 a o z), I.th0, fun a z => z.elim, fun q hq => (by rw [eo] at hq; cases hq), (by rw [eo]; exact List.nodup_nil)⟩
      · rcases z with z | z
        · exact J.ev.there a (.inl (.inl z))
        · rw [eo] at z; cases z
      · rcases keep1_get e2 with z | ⟨d, z, e3⟩
        · subst z; cases o <;> exact True.intro
        · subst z
          have z := J.ev.slot j o _ e1 e3
          cases o with
          | none => exact z
          | some v => exact dmono (off_less fun a z => by
              rcases z with z | z
              · exact .inl (.inl z)
              · rw [eo] at z; cases z) z
    · exact k.rt v H' d c ⟨fun a o n z => u.keep a o (fun w => by rw [w, np] at z; cases z) (old1 a o z), fun f z => z.elim⟩ (dmono (off_less fun a z => .inl z) r)
end
theorem passF {X : Cx} : Passes (CX X.prog X.w) X (fun _ _ _ => False) := fun pins σ H s e s' I hc => by
  obtain ⟨a, B, H', cls, d, _, _, _, _, _, _, _, z⟩ := hc
  exact z.elim
theorem nostopF {K : Frag} : NoStop K (fun _ _ _ => False) := fun cls d H z => z.elim
theorem huOf {k : Nat} {A : Around} (r : Room k A) : A.units + 200 < cLine := by have := r.un; omega
theorem hu65Of {k : Nat} {A : Around} (r : Room k A) : A.units + 65 < cLine := by have := r.un; omega
/-! ## a list handed in -/
def given (ds : List PyData) : PyData := .dict [(.bool true, .list ds)]
section
variable {K : Frag} {fd : Ad} {env : List Sl} {te ta tb tc : TE} {C : PyData → Prop} {CL : List PyData → Prop} {P : Po}
theorem giv_inv {G : Hp} {v : V} {ds : List PyData} (h : Dr K G v (given ds)) : ∃ a us, v = .ref a ∧ SqL K G a us ∧ DrAll K G us ds := by
  generalize e : given ds = d at h
  cases h with
  | giv sa ra =>
    unfold given at e
    injection e with e
    injection e with e1 e2
    injection e1 with e3 e4
    injection e4 with e4
    subst e4
    exact ⟨_, _, rfl, sa, ra⟩
  | ins _ _ =>
    unfold given at e
    injection e with e
    injection e with e1 e2
    injection e1 with e3 e4
    cases e3
  | dct _ rf =>
    cases rf with
    | nil => cases e
    | cons _ _ =>
      unfold given at e
      injection e with e
      injection e with e1 e2
      injection e1 with e3 e4
      cases e3
  | _ => cases e
theorem cad_lenG {xs : List PyData} (c : C (.int (xs.length : Int))) : CaD K (rLenS K) [given xs] C := fun F H vs th r Q k => by
  cases r with
  | cons a b =>
    cases b
    obtain ⟨a9, us, rfl, sa, ra⟩ := giv_inv a
    exact ⟨a9, us, rfl, .inl (ex_l off_full sa), by rw [all_len ra]; exact k _ H _ (Ex.refl H) (.int _) c⟩
theorem wpN_slG {tl th : TO} (h : wpE K fd te env fun d => wpO K fd tl env fun lo => wpO K fd th env fun hi => ∃ ds, d = given ds ∧ CL (cut ds lo hi)) : wpN K fd (tSl (rSlL K) te tl th) env CL := fun F σ H I Q k =>
  h F σ H I _ fun x H1 d u1 r c1 => c1 F σ H1 (I.up u1) _ fun lo H2 u2 c2 => c2 F σ H2 ((I.up u1).up u2) _ fun hi H3 u3 c3 => by
    obtain ⟨ds, rfl, c⟩ := c3
    have r3 := dmono ((I.up u1).see (u2.trans u3)) r
    obtain ⟨a, us, rfl, sa, ra⟩ := giv_inv r3
    exact ⟨a, us, rfl, ex_l off_full sa, fun p hp => k p _ _ _ (none_back I.there I.fdF ((u1.trans u2).trans u3) hp) (((u1.trans u2).trans u3).trans (.ex u3.feed (Ex.new hp))) upd_same (new_all hp (all_cut ra lo hi)) c⟩
end
end Dn

namespace Gr
open PySem L2 Evl Dn
def top (i : Nat) : Stmt := PySem.Challenge.pw_graftrules_k02_parts_and_places.main.body.getD i (.Pass ⟨0, 0, 0, 0⟩)
abbrev s_every_part : Stmt := top 1
abbrev s_size : Stmt := top 2
abbrev s_rank : Stmt := top 3
abbrev s_ordered : Stmt := top 4
abbrev s_parts_of : Stmt := top 5
abbrev s_parts : Stmt := top 6
abbrev s_places : Stmt := top 7
abbrev s__law_feed : Stmt := top 9
abbrev s__law_take : Stmt := top 10
abbrev s__law_pick : Stmt := top 11
abbrev s__law_names : Stmt := top 12
abbrev s__law_grow : Stmt := top 13
abbrev s__law_tree : Stmt := top 14
abbrev s__law_size : Stmt := top 15
abbrev s__law_parts : Stmt := top 16
abbrev s__law_ordered : Stmt := top 17
abbrev s__law_places : Stmt := top 18
abbrev s_law : Stmt := top 19
structure Bi (mg : Str → Option Value) : Prop where
  len : mg "len" = none
  range : mg "range" = none
  list : mg "list" = none
  tuple : mg "tuple" = none
  sum : mg "sum" = none
  max : mg "max" = none
  min : mg "min" = none
  abs : mg "abs" = none
  int : mg "int" = none
  repr : mg "repr" = none
  sorted : mg "sorted" = none
  enumerate : mg "enumerate" = none
  isinstance : mg "isinstance" = none
  reversed : mg "reversed" = none
  all : mg "all" = none
  str : mg "str" = none
  bool : mg "bool" = none
  dict : mg "dict" = none
abbrev N__law_feed : List Str := ["script", "k", "seed", "digits"]
abbrev P__law_feed : List Str := ["script", "k"]
theorem sc__law_feed : FnScope N__law_feed P__law_feed (defScope s__law_feed) := ⟨rfl, rfl, rfl, by decide +kernel, rfl, by decide +kernel, by decide +kernel⟩
abbrev N__law_take : List Str := ["feed", "many", "digit"]
abbrev P__law_take : List Str := ["feed", "many"]
theorem sc__law_take : FnScope N__law_take P__law_take (defScope s__law_take) := ⟨rfl, rfl, rfl, by decide +kernel, rfl, by decide +kernel, by decide +kernel⟩
abbrev N__law_pick : List Str := ["feed", "some"]
abbrev P__law_pick : List Str := ["feed", "some"]
theorem sc__law_pick : FnScope N__law_pick P__law_pick (defScope s__law_pick) := ⟨rfl, rfl, rfl, by decide +kernel, rfl, by decide +kernel, by decide +kernel⟩
abbrev N__law_size : List Str := ["tree", "child"]
abbrev P__law_size : List Str := ["tree"]
theorem sc__law_size : FnScope N__law_size P__law_size (defScope s__law_size) := ⟨rfl, rfl, rfl, by decide +kernel, rfl, by decide +kernel, by decide +kernel⟩
abbrev N_every_part : List Str := ["tree", "found", "waiting", "part"]
abbrev P_every_part : List Str := ["tree"]
theorem sc_every_part : FnScope N_every_part P_every_part (defScope s_every_part) := ⟨rfl, rfl, rfl, by decide +kernel, rfl, by decide +kernel, by decide +kernel⟩
abbrev N_size : List Str := ["tree"]
abbrev P_size : List Str := ["tree"]
theorem sc_size : FnScope N_size P_size (defScope s_size) := ⟨rfl, rfl, rfl, by decide +kernel, rfl, by decide +kernel, by decide +kernel⟩
abbrev N_rank : List Str := ["tree"]
abbrev P_rank : List Str := ["tree"]
theorem sc_rank : FnScope N_rank P_rank (defScope s_rank) := ⟨rfl, rfl, rfl, by decide +kernel, rfl, by decide +kernel, by decide +kernel⟩
section
variable {P : Program} {w : World} {K : Frag} {mg : Str → Option Value} {base : Heap}
/-! ### the feed -/
def gTake : List PyData → (PyData → Prop) → Prop := fun ds C => ∃ many : Int, ds = [.int many] ∧ 0 < many ∧ many < 1000000000 ∧ ∀ r : Int, 0 ≤ r → r < many → C (.int r)
theorem feed_one {f : Addr} {H : Hp} {d m : Int} (hd : 0 ≤ d) (hm : 0 ≤ m) (hm2 : m < 4294967311) : Up (fun a => a = f) H (upd H f (.lst [.int d, .int m])) :=
  ⟨fun a o n e => by rw [upd_ne n]; exact e, fun g z => by subst z; exact ⟨d, m, upd_same, hd, hm, hm2⟩⟩
theorem fmod_in {a b : Int} (h : 0 < b) : 0 ≤ a.fmod b ∧ a.fmod b < b := ⟨Int.fmod_nonneg_of_pos _ h, Int.fmod_lt_of_pos _ h⟩
theorem ok_take {f : Addr} {fdt : FuncData} (D : Df K mg "_law_take" s__law_take P__law_take f fdt) (B : Bi mg) : FnOk P w K mg base CX0 1 f fdt P__law_take (spF K gTake) := by
  refine D.F.ok sc__law_take (fun vs H Q E h => ?_) (fun cdv A outer s H vs Q E hr h => ?_)
  · obtain ⟨p, ws, F, ds, C, rfl, _, _, _, r, ⟨m, rfl, _⟩, _⟩ := h
    rw [List.length_cons, all_len r]; rfl
  · obtain ⟨p, ws, F, ds, C, rfl, hp, hf, th, r, ⟨many, rfl, h1, h2, hc⟩, q⟩ := h
    cases r with
    | cons r1 r2 =>
    cases r2; cases r1
    obtain ⟨d, m, e, hd, hm, hm2⟩ := hf p rfl
    refine ⟨_, (pss_cons (ps_if (pt_cmpR op_gt (pe_ix ix_list (pv 0) pe_int (fun _ _ => rfl)) pe_int (nomark _)) (pss_cons (ps_set (i := 2) sc__law_take.nd rfl (Or.inl rfl) (pe_op op_modN (pe_callTy call_int1 rfl B.int (by decide +kernel) (pa_cons (pe_ix ix_list (pv 0) pe_int (fun _ _ => rfl)) pa_nil)) (pv 1)))
      (pss_cons (ps_asg (pe_op op_fdivN (pe_ix ix_list (pv 0) pe_int (fun _ _ => rfl)) (pv 1)) (pg_sub (pv 0) pe_int set_list))
      (pss_one (ps_ret (pv 2))))) pss_nil)
      (pss_cons (ps_asg (pe_op op_modN (pe_callTy call_int1 rfl B.int (by decide +kernel) (pa_cons (pe_op op_add (pe_op op_mul (pe_ix ix_list (pv 0) pe_int (fun _ _ => rfl)) pe_int) pe_int) pa_nil)) pe_int) (pg_sub (pv 0) pe_int set_list))
      (pss_one (ps_ret (pe_op op_modN (pe_callTy call_int1 rfl B.int (by decide +kernel) (pa_cons (pe_op op_fdivN (pe_ix ix_list (pv 0) pe_int (fun _ _ => rfl)) pe_int) pa_nil)) (pv 1)))))), ?_⟩
    have e0 : atI [V.int d, V.int m] (0 : Int) = some (.int d) := rfl
    have e1 : atI [V.int d, V.int m] (1 : Int) = some (.int m) := rfl
    refine ⟨_, rfl, p, _, _, _, rfl, rfl, sq_of e, e0, _, _, rfl, rfl, _, rfl, ?_⟩
    refine ite2 (fun c => ?_) (fun c => ?_)
    · have c' : 0 < d := of_decide_eq_true c
      refine ⟨_, rfl, p, _, _, _, rfl, rfl, sq_of e, e0, .inl ⟨_, rfl, _, rfl, _, _, rfl, rfl, Int.ne_of_gt h1, ?_⟩⟩
      refine ⟨_, rfl, p, _, _, _, rfl, rfl, sq_of e, e0, _, rfl, _, _, rfl, rfl, ⟨Int.ne_of_gt h1, by omega⟩, _, rfl, p, _, _, 0, rfl, rfl, e, rfl, _, rfl, ?_⟩
      have z : 0 ≤ d.fdiv many := by
        rw [Int.fdiv_eq_ediv_of_nonneg _ (Int.le_of_lt h1)]
        exact Int.ediv_nonneg hd (Int.le_of_lt h1)
      exact q _ _ _ (feed_one z hm hm2) (.int _) (hc _ (fmod_in h1).1 (fmod_in h1).2)
    · refine ⟨_, rfl, p, _, _, _, rfl, rfl, sq_of e, e1, _, _, rfl, rfl, .inr ⟨by decide, by decide⟩, _, _, rfl, rfl,
        .inl ⟨_, rfl, _, _, rfl, rfl, (by show (4294967311 : Int) ≠ 0; decide), ?_⟩⟩
      have z := fmod_in (a := m * 69069 + 12345) (b := 4294967311) (by decide)
      refine ⟨_, rfl, p, _, _, 1, rfl, rfl, e, rfl, ?_⟩
      refine ⟨_, rfl, p, _, _, _, rfl, rfl, sq_of upd_same, rfl, _, _, rfl, rfl, ⟨by decide, by decide⟩, .inl ⟨_, rfl, _, rfl, _, _, rfl, rfl, Int.ne_of_gt h1, ?_⟩⟩
      exact q _ _ _ (feed_one hd z.1 z.2) (.int _) (hc _ (fmod_in h1).1 (fmod_in h1).2)

/-- some[_law_take(feed, len(some))]: some item of it -/
def gPick : List PyData → (PyData → Prop) → Prop := fun ds C => ∃ xs : List PyData, ds = [.list xs] ∧ xs ≠ [] ∧ xs.length < 100000 ∧ ∀ d, d ∈ xs → C d
theorem atI_in {α : Type} {xs : List α} {r : Int} (h0 : 0 ≤ r) (h1 : r < xs.length) : ∃ d, atI xs r = some d ∧ d ∈ xs := by
  have h : r.toNat < xs.length := by omega
  refine ⟨xs[r.toNat], ?_, List.getElem_mem _⟩
  unfold atI ixN
  rw [if_pos h0, if_pos (by omega)]
  exact List.getElem?_eq_getElem h
theorem ok_pick {f f_take : Addr} {fdt fdt_take : FuncData} (D : Df K mg "_law_pick" s__law_pick P__law_pick f fdt) (B : Bi mg) (D__law_take : Df K mg "_law_take" s__law_take P__law_take f_take fdt_take) : FnOk P w K mg base CX0 2 f fdt P__law_pick (spF K gPick) := by
  have G__law_take : FnOk P w K mg base CX0 1 _ _ _ _ := ok_take D__law_take B
  refine okF D.F sc__law_pick (fun ds C h => by obtain ⟨xs, rfl, _⟩ := h; rfl) (fun cdv A outer s H E hr => ?_)
  have hr__law_take := hr
  refine ⟨_, (pss_one (ps_ret (pe_ix ix_list (pv 1) (pe_call G__law_take hr__law_take rfl D__law_take.m D__law_take.F.kp D__law_take.b .nil pass0 (pa_cons (pv 0) (pa_cons (pe_callB call_len_seq rfl B.len PySem.boot_len (pa_cons (pv 1) pa_nil)) pa_nil))) (fun _ _ => rfl)))), fun p ds C h => ?_⟩
  obtain ⟨xs, rfl, h0, h1, hc⟩ := h
  refine wpS_ret (wp_op (wp_var rfl (wp_callF rfl rfl (wpA_cons (wp_cb (wpA_cons (wp_var rfl (wpA_nil (cad_lenL (wpA_nil ?_))))))))))
  have hp : 0 < xs.length := List.length_pos_iff.mpr h0
  refine ⟨_, rfl, by omega, by omega, fun r r0 r1 => ?_⟩
  obtain ⟨d, e, m⟩ := atI_in r0 r1
  exact opd_ixL e (hc d m)
/-! ### trees -/
inductive Tr where
  | node (n : Str) (cs : List Tr)
mutual
def Tr.d : Tr → PyData
  | .node n cs => .tuple (.str n :: Tr.ds cs)
def Tr.ds : List Tr → List PyData
  | [] => []
  | t :: ts => t.d :: Tr.ds ts
end
mutual
def Tr.size : Tr → Nat
  | .node _ cs => 1 + Tr.sizes cs
def Tr.sizes : List Tr → Nat
  | [] => 0
  | t :: ts => t.size + Tr.sizes ts
end
mutual
def Tr.lev : Tr → Nat
  | .node _ cs => 1 + Tr.levs cs
def Tr.levs : List Tr → Nat
  | [] => 0
  | t :: ts => max t.lev (Tr.levs ts)
end
theorem ds_map : ∀ cs : List Tr, Tr.ds cs = cs.map Tr.d
  | [] => rfl
  | t :: ts => congrArg (List.cons t.d) (ds_map ts)
theorem sizes_map : ∀ cs : List Tr, ((Tr.sizes cs : Nat) : Int) = (cs.map fun t => ((t.size : Nat) : Int)).sum
  | [] => rfl
  | t :: ts => by
    have ih := sizes_map ts
    show ((t.size + Tr.sizes ts : Nat) : Int) = ((t.size : Nat) : Int) + (ts.map fun t => ((t.size : Nat) : Int)).sum
    omega
theorem d_node (n : Str) (cs : List Tr) : (Tr.node n cs).d = .tuple (.str n :: cs.map Tr.d) := by rw [Tr.d, ds_map]
theorem cut_tl (x : PyData) (l : List PyData) : cut (x :: l) (some 1) none = l := by
  unfold cut
  have e1 : HT.sIx (x :: l).length 0 (some 1) = 1 := (HT.sIx_nat _ _ 1).trans (by rw [List.length_cons]; omega)
  have e2 : HT.sIx (x :: l).length (x :: l).length none = (x :: l).length := rfl
  rw [e1, e2, List.length_cons]
  show l.take (l.length + 1 - 1) = l
  rw [Nat.add_sub_cancel, List.take_length]
theorem lev_child {n : Str} {cs : List Tr} {t : Tr} {k : Nat} (h : (Tr.node n cs).lev ≤ k + 1) (m : t ∈ cs) : t.lev ≤ k := by
  have key : ∀ cs : List Tr, t ∈ cs → t.lev ≤ Tr.levs cs := by
    intro cs
    induction cs with
    | nil => intro m; cases m
    | cons c cs ih =>
      intro m
      show t.lev ≤ max c.lev (Tr.levs cs)
      rcases List.mem_cons.mp m with rfl | m
      · exact Nat.le_max_left _ _
      · exact Nat.le_trans (ih m) (Nat.le_max_right _ _)
  have z := key cs m
  have e : (Tr.node n cs).lev = 1 + Tr.levs cs := rfl
  omega
theorem lev_pos (t : Tr) : 1 ≤ t.lev := by
  cases t with
  | node n cs => show 1 ≤ 1 + _; omega
def gSize (k : Nat) : List PyData → (PyData → Prop) → Prop := fun ds C => ∃ t : Tr, ds = [t.d] ∧ t.lev ≤ k ∧ t.size < 100000 ∧ C (.int (t.size : Nat))
theorem size_child {n : Str} {cs : List Tr} {t : Tr} {k : Nat} (h : (Tr.node n cs).size < k) (m : t ∈ cs) : t.size < k := by
  have key : ∀ cs : List Tr, t ∈ cs → t.size ≤ Tr.sizes cs := by
    intro cs
    induction cs with
    | nil => intro m; cases m
    | cons c cs ih =>
      intro m
      show t.size ≤ c.size + Tr.sizes cs
      rcases List.mem_cons.mp m with rfl | m
      · exact Nat.le_add_right _ _
      · exact Nat.le_trans (ih m) (Nat.le_add_left _ _)
  have z := key cs m
  have e : (Tr.node n cs).size = 1 + Tr.sizes cs := rfl
  omega
theorem no_spP {f : Addr} {fdt : FuncData} {ps : List Str} {G : List PyData → (PyData → Prop) → Prop} {k : Nat} (h : ∀ ds C, ¬ G ds C) : FnOk P w K mg base CX0 k f fdt ps (spP K G) :=
  ⟨fun vs H Q E z => by obtain ⟨F, ds, C, _, _, g, _⟩ := z; exact absurd g (h ds C), fun A outer s H args us vs Q E _ _ _ _ z => by obtain ⟨F, ds, C, _, _, g, _⟩ := z; exact absurd g (h ds C)⟩
theorem len_le_size {n : Str} {cs : List Tr} : cs.length < (Tr.node n cs).size := by
  have key : ∀ cs : List Tr, cs.length ≤ Tr.sizes cs := by
    intro cs
    induction cs with
    | nil => exact Nat.le_refl _
    | cons c cs ih =>
      show cs.length + 1 ≤ c.size + Tr.sizes cs
      have : 1 ≤ c.size := by
        cases c with
        | node n cs => show 1 ≤ 1 + _; omega
      omega
  have e : (Tr.node n cs).size = 1 + Tr.sizes cs := rfl
  have := key cs
  omega
theorem ok_size {f : Addr} {fdt : FuncData} (D__law_size : Df K mg "_law_size" s__law_size P__law_size f fdt) (B : Bi mg) : ∀ k, FnOk P w K mg base CX0 (k + 1) f fdt P__law_size (spP K (gSize k))
  | 0 => no_spP fun ds C ⟨t, _, h, _⟩ => by have := lev_pos t; omega
  | k + 1 => by
    have G__law_size := ok_size D__law_size B k
    refine okP D__law_size.F sc__law_size (fun ds C h => by obtain ⟨t, rfl, _⟩ := h; rfl) (fun cdv A outer s H E hr => ?_)
    have hr__law_size := hr
    refine ⟨_, (pss_one (ps_ret (pe_op op_add pe_int (pe_callB (cr_sum rfl) rfl B.sum (by decide +kernel) (pa_cons (pe_lc rfl sc__law_size.nd (pi_tup (pe_slice sl_tupA (pv 0) (po_some pe_int) po_none)) (blkOk_by (own := [("child", 1)]) (N := N__law_size) (sc := defScope s__law_size) (by decide +kernel)) (fun _ _ _ _ _ => (pg_name (i := 1) sc__law_size.nd rfl (Or.inl rfl))) (fun _ _ _ _ _ => pts_nil) (fun _ _ _ _ _ => (pe_call G__law_size hr__law_size rfl D__law_size.m D__law_size.F.kp D__law_size.b .nil pass0 (pa_cons (pv 1) pa_nil)))) pa_nil))))), fun ds C h => ?_⟩
    obtain ⟨t, rfl, hl, hs, hc⟩ := h
    cases t with
    | node n cs =>
    have hlen := len_le_size (n := n) (cs := cs)
    refine wpS_ret (wp_op (wp_int (wp_cb (wpA_cons (wpE_new (wpN_lc (wpI_tup (wp_slT (wp_var rfl (wpO_some (wp_int ⟨1, rfl, wpO_none ⟨_, d_node n cs, ?_⟩⟩)))))))))))
    rw [cut_tl]
    refine ⟨_, rfl, fun i acc => acc = (cs.take i).map fun t => PyData.int ((t.size : Nat) : Int), rfl, ?_, ?_⟩
    · rintro i d acc e rfl
      rw [List.getElem?_map] at e
      cases q : cs[i]? with
      | none => rw [q] at e; cases e
      | some t =>
        rw [q] at e
        have e : t.d = d := Option.some.inj e
        subst e
        refine ⟨_, gD_name, by simp, wpT_yes ⟨fun _ => ?_, fun z => by cases z⟩⟩
        have m : t ∈ cs := List.mem_of_getElem? q
        refine wp_call (wpA_cons (wp_var rfl (wpA_nil ⟨t, rfl, lev_child hl m, size_child hs m, ?_⟩)))
        refine ⟨by rw [List.length_map, List.length_take]; omega, ?_⟩
        show _ ++ _ = _
        rw [List.take_add_one, q, List.map_append]
        rfl
    · rintro acc rfl
      rw [List.length_map, List.take_length]
      refine wpA_nil ?_
      have e : (cs.map fun t => PyData.int ((t.size : Nat) : Int)) = (cs.map fun t => ((t.size : Nat) : Int)).map PyData.int := by rw [List.map_map]; rfl
      rw [e]
      refine cad_sum (opd_ii ?_)
      rw [← sizes_map]
      exact hc
/-! ### every_part, size, rank -/
mutual
def Tr.parts : Tr → List Tr
  | .node n cs => .node n cs :: Tr.partsL cs
def Tr.partsL : List Tr → List Tr
  | [] => []
  | t :: ts => t.parts ++ Tr.partsL ts
end
theorem partsL_app : ∀ a b : List Tr, Tr.partsL (a ++ b) = Tr.partsL a ++ Tr.partsL b
  | [], b => rfl
  | t :: a, b => by
    show t.parts ++ Tr.partsL (a ++ b) = (t.parts ++ Tr.partsL a) ++ Tr.partsL b
    rw [partsL_app a b, List.append_assoc]
mutual
theorem parts_len : ∀ t : Tr, t.parts.length = t.size
  | .node n cs => by
    show (Tr.partsL cs).length + 1 = 1 + Tr.sizes cs
    rw [partsL_len cs]; omega
theorem partsL_len : ∀ ts : List Tr, (Tr.partsL ts).length = Tr.sizes ts
  | [] => rfl
  | t :: ts => by
    show (t.parts ++ Tr.partsL ts).length = t.size + Tr.sizes ts
    rw [List.length_append, parts_len t, partsL_len ts]
end
theorem sizes_app : ∀ a b : List Tr, Tr.sizes (a ++ b) = Tr.sizes a + Tr.sizes b := fun a b => by
  rw [← partsL_len, ← partsL_len, ← partsL_len, partsL_app, List.length_append]
theorem size_pos (t : Tr) : 1 ≤ t.size := by
  cases t with
  | node n cs => show 1 ≤ 1 + _; omega
theorem len_le_sizes : ∀ cs : List Tr, cs.length ≤ Tr.sizes cs
  | [] => Nat.le_refl _
  | c :: cs => by
    have := len_le_sizes cs
    have := size_pos c
    show cs.length + 1 ≤ c.size + Tr.sizes cs
    omega
def dl (l : List Tr) : List PyData := l.map Tr.d
def gEvery : List PyData → (PyData → Prop) → Prop := fun ds C => ∃ t : Tr, ds = [t.d] ∧ t.size < 50000 ∧ ∀ l : List Tr, l.Perm t.parts → C (.list (dl l))
theorem snoc_cases {α : Type} (l : List α) : l = [] ∨ ∃ a b, l = a ++ [b] := by
  rcases List.eq_nil_or_concat l with h | ⟨a, b, h⟩
  · exact .inl h
  · exact .inr ⟨a, b, by simpa using h⟩
theorem ok_every {f : Addr} {fdt : FuncData} (D : Df K mg "every_part" s_every_part P_every_part f fdt) (B : Bi mg) : FnOk P w K mg base CX0 1 f fdt P_every_part (spP K gEvery) := by
  refine okP D.F sc_every_part (fun ds C h => by obtain ⟨t, rfl, _⟩ := h; rfl) (fun cdv A outer s H E hr => ?_)
  refine ⟨_, (pss_cons (ps_set (i := 1) sc_every_part.nd rfl (Or.inl rfl) (pe_lst pa_nil))
      (pss_cons (ps_set (i := 2) sc_every_part.nd rfl (Or.inl rfl) (pe_lst (pa_cons (pv 0) pa_nil)))
      (pss_cons (ps_while PassesOwn.never (pt_truth (pv 2) (by intro _; rfl)) (pss_cons (ps_set (i := 3) sc_every_part.nd rfl (Or.inl rfl) (pe_bm0 PySem.F.plainAttrs_list PySem.F.slot_list_pop PySem.F.type_list_pop mt_pop (pv 2)))
      (pss_cons (ps_expr (pe_bm PySem.F.plainAttrs_list PySem.F.slot_list_append PySem.F.type_list_append mt_append (pv 1) (pa_cons (pv 3) pa_nil)))
      (pss_one (ps_expr (pe_bm PySem.F.plainAttrs_list PySem.F.slot_list_extend PySem.F.type_list_extend mt_extendT (pv 2) (pa_cons (pe_slice sl_tupA (pv 3) (po_some pe_int) po_none) pa_nil)))))))
      (pss_one (ps_ret (pv 1)))))), fun ds C h => ?_⟩
  obtain ⟨t, rfl, hs, hc⟩ := h
  refine wpS_seq (wpS_own (wpN_lst (wpA_nil ⟨by decide, fun p => ?_⟩)))
  refine wpS_seq (wpS_own (wpN_lst (wpA_cons (wp_var (d := t.d) rfl (wpA_nil ⟨(by show 1 ≤ 100000; decide), fun q => ?_⟩)))))
  refine wpS_seq (wpS_while (fun m env => ∃ (l ws : List Tr) (x : Sl), env = [.dat t.d, .own p (dl l), .own q (dl ws), x] ∧ (∀ a b, x ≠ .own a b) ∧ m = Tr.sizes ws ∧ (l ++ Tr.partsL ws).Perm t.parts) (Tr.sizes [t]) ⟨[], [t], .no, rfl, (fun a b z => by cases z), rfl, (by show (t.parts ++ []).Perm t.parts; rw [List.append_nil])⟩ ?_)
  rintro m env ⟨l, ws, x, rfl, hx, rfl, hp⟩
  have hlen : l.length + Tr.sizes ws = t.size := by
    have z := hp.length_eq
    rw [List.length_append, partsL_len, parts_len] at z
    exact z
  refine wpT_unown (wpT_tr (wp_var (d := .list (dl ws)) rfl (.inl ⟨_, .inl rfl, fun hb => ?_, fun hb => ?_⟩)))
  · rcases snoc_cases ws with rfl | ⟨ws, t1, rfl⟩
    · cases hb
    · have hws := len_le_sizes ws
      rw [sizes_app] at hlen
      have h1 : Tr.sizes [t1] = t1.size := by show t1.size + 0 = _; omega
      rw [h1] at hlen
      cases t1 with
      | node n cs =>
      have hcs := len_le_size (n := n) (cs := cs)
      refine wpS_seq (wpS_popT (ds := dl ws) (d := (Tr.node n cs).d) (as := [(3, (Tr.node n cs).d)]) (by show some _ = some _; unfold dl; rw [List.map_append]; rfl) gD_name ?_)
      refine wpS_seq (wpS_append (p := p) (ds := dl l) rfl (by unfold dl; rw [List.length_map]; omega) (wp_var (d := (Tr.node n cs).d) rfl ?_))
      refine wpS_extendT (p := q) (ds := dl ws) rfl (wp_slT (wp_var (d := (Tr.node n cs).d) rfl (wpO_some (wp_int ⟨1, rfl, wpO_none ⟨_, d_node n cs, ?_⟩⟩))))
      rw [cut_tl]
      refine ⟨_, rfl, by unfold dl; rw [List.length_map, List.length_map]; omega, ?_⟩
      have e1 : Tr.sizes (ws ++ cs) < Tr.sizes (ws ++ [Tr.node n cs]) := by
        rw [sizes_app, sizes_app, h1]
        show _ < _ + (1 + Tr.sizes cs)
        omega
      refine ⟨_, e1, l ++ [Tr.node n cs], ws ++ cs, .dat (Tr.node n cs).d, ?_, (fun a b z => by cases z), rfl, ?_⟩
      · unfold dl
        simp only [List.map_append]
        rfl
      · refine List.Perm.trans ?_ hp
        rw [partsL_app, partsL_app, List.append_assoc]
        refine List.Perm.append_left l ?_
        show (Tr.node n cs :: (Tr.partsL ws ++ Tr.partsL cs)).Perm (Tr.partsL ws ++ ((Tr.node n cs :: Tr.partsL cs) ++ []))
        rw [List.append_nil]
        exact (List.perm_middle (l₁ := Tr.partsL ws)).symm
  · have hw : ws = [] := by
      cases ws with
      | nil => rfl
      | cons a b => cases hb
    subst hw
    refine wpS_ret (wp_var (d := .list (dl l)) rfl (hc l ?_))
    have z : (l ++ []).Perm t.parts := hp
    rw [List.append_nil] at z
    exact z
def gSz : List PyData → (PyData → Prop) → Prop := fun ds C => ∃ t : Tr, ds = [t.d] ∧ t.size < 50000 ∧ C (.int (t.size : Nat))
theorem ok_sz {f f_ev : Addr} {fdt fdt_ev : FuncData} (D : Df K mg "size" s_size P_size f fdt) (B : Bi mg) (D_every_part : Df K mg "every_part" s_every_part P_every_part f_ev fdt_ev) : FnOk P w K mg base CX0 2 f fdt P_size (spP K gSz) := by
  have G_every_part : FnOk P w K mg base CX0 1 _ _ _ _ := ok_every D_every_part B
  refine okP D.F sc_size (fun ds C h => by obtain ⟨t, rfl, _⟩ := h; rfl) (fun cdv A outer s H E hr => ?_)
  have hr_every_part := hr
  refine ⟨_, (pss_one (ps_ret (pe_callB call_len_seq rfl B.len PySem.boot_len (pa_cons (pe_call G_every_part hr_every_part rfl D_every_part.m D_every_part.F.kp D_every_part.b .nil pass0 (pa_cons (pv 0) pa_nil)) pa_nil)))), fun ds C h => ?_⟩
  obtain ⟨t, rfl, hs, hc⟩ := h
  refine wpS_ret (wp_cb (wpA_cons (wp_call (wpA_cons (wp_var (d := t.d) rfl (wpA_nil ⟨t, rfl, hs, fun l hp => wpA_nil (cad_lenL ?_)⟩))))))
  have e : (dl l).length = t.size := by unfold dl; rw [List.length_map, hp.length_eq, parts_len]
  rw [e]; exact hc
/-- (size, tree) -/
def rk (t : Tr) : PyData := .tuple [.int (t.size : Nat), t.d]
def gRank : List PyData → (PyData → Prop) → Prop := fun ds C => ∃ t : Tr, ds = [t.d] ∧ t.size < 50000 ∧ C (rk t)
theorem ok_rank {f f_ev f_sz : Addr} {fdt fdt_ev fdt_sz : FuncData} (D : Df K mg "rank" s_rank P_rank f fdt) (B : Bi mg) (D_every_part : Df K mg "every_part" s_every_part P_every_part f_ev fdt_ev) (D_size : Df K mg "size" s_size P_size f_sz fdt_sz) : FnOk P w K mg base CX0 3 f fdt P_rank (spP K gRank) := by
  have G_size : FnOk P w K mg base CX0 2 _ _ _ _ := ok_sz D_size B D_every_part
  refine okP D.F sc_rank (fun ds C h => by obtain ⟨t, rfl, _⟩ := h; rfl) (fun cdv A outer s H E hr => ?_)
  have hr_size := hr
  refine ⟨_, (pss_one (ps_ret (pe_tup (pa_cons (pe_call G_size hr_size rfl D_size.m D_size.F.kp D_size.b .nil pass0 (pa_cons (pv 0) pa_nil)) (pa_cons (pv 0) pa_nil))))), fun ds C h => ?_⟩
  obtain ⟨t, rfl, hs, hc⟩ := h
  exact wpS_ret (wp_tup (wpA_cons (wp_call (wpA_cons (wp_var (d := t.d) rfl (wpA_nil ⟨t, rfl, hs, wpA_cons (wp_var (d := t.d) rfl (wpA_nil ⟨(by show 2 ≤ 100000; decide), hc⟩))⟩))))))
end
end Gr

namespace Gr
open PySem L2 Evl Dn PySem.W
/-! ### the order of trees -/
mutual
def dsz : PyData → Nat
  | .tuple xs => dszs xs
  | .str _ => 1
  | _ => 0
def dszs : List PyData → Nat
  | [] => 0
  | x :: xs => dsz x + dszs xs
end
mutual
theorem dsz_d : ∀ t : Tr, dsz t.d = t.size
  | .node n cs => by
    show dsz (.tuple (.str n :: Tr.ds cs)) = 1 + Tr.sizes cs
    rw [dsz, dszs, dsz, dszs_ds cs]
theorem dszs_ds : ∀ cs : List Tr, dszs (Tr.ds cs) = Tr.sizes cs
  | [] => by rw [Tr.ds, dszs]; rfl
  | t :: ts => by
    rw [Tr.ds, dszs, dsz_d t, dszs_ds ts]; rfl
end
def kfD (d : PyData) : PyData := .tuple [.int (dsz d : Nat), d]
theorem kf_rk (t : Tr) : kfD t.d = rk t := by unfold kfD rk; rw [dsz_d]
mutual
theorem alike_d : ∀ t u : Tr, alike t.d u.d = true
  | .node n cs, .node m es => by
    show alike (.tuple (.str n :: Tr.ds cs)) (.tuple (.str m :: Tr.ds es)) = true
    rw [alike, alikeAll, alike, alikeAll_ds cs es]; rfl
theorem alikeAll_ds : ∀ cs es : List Tr, alikeAll (Tr.ds cs) (Tr.ds es) = true
  | [], es => by rw [Tr.ds, alikeAll]
  | t :: ts, [] => by rw [Tr.ds, Tr.ds, alikeAll]
  | t :: ts, u :: us => by rw [Tr.ds, Tr.ds, alikeAll, alike_d t u, alikeAll_ds ts us]; rfl
end
mutual
theorem eqv_d : ∀ t u : Tr, PyData.eqv t.d u.d = true → t = u
  | .node n cs, .node m es, h => by
    have h : PyData.eqv (.tuple (.str n :: Tr.ds cs)) (.tuple (.str m :: Tr.ds es)) = true := h
    rw [PyData.eqv, PyData.eqvAll, PyData.eqv, Bool.and_eq_true] at h
    have e1 : n = m := by simpa using h.1
    rw [e1, eqvAll_ds cs es h.2]
theorem eqvAll_ds : ∀ cs es : List Tr, PyData.eqvAll (Tr.ds cs) (Tr.ds es) = true → cs = es
  | [], [], _ => rfl
  | [], u :: us, h => by rw [Tr.ds, Tr.ds, PyData.eqvAll] at h; cases h
  | t :: ts, [], h => by rw [Tr.ds, Tr.ds, PyData.eqvAll] at h; cases h
  | t :: ts, u :: us, h => by
    rw [Tr.ds, Tr.ds, PyData.eqvAll, Bool.and_eq_true] at h
    rw [eqv_d t u h.1, eqvAll_ds ts us h.2]
end
mutual
theorem eqv_self : ∀ t : Tr, PyData.eqv t.d t.d = true
  | .node n cs => by
    show PyData.eqv (.tuple (.str n :: Tr.ds cs)) (.tuple (.str n :: Tr.ds cs)) = true
    rw [PyData.eqv, PyData.eqvAll, PyData.eqv, eqvAll_self cs]; simp
theorem eqvAll_self : ∀ cs : List Tr, PyData.eqvAll (Tr.ds cs) (Tr.ds cs) = true
  | [] => by rw [Tr.ds, PyData.eqvAll]
  | t :: ts => by rw [Tr.ds, PyData.eqvAll, eqv_self t, eqvAll_self ts]; rfl
end
open Classical in
theorem eqv_dec (t u : Tr) : PyData.eqv t.d u.d = decide (t = u) := by
  by_cases h : t = u
  · subst h; rw [eqv_self, decide_eq_true rfl]
  · rw [decide_eq_false h]
    cases q : PyData.eqv t.d u.d with
    | true => exact absurd (eqv_d t u q) h
    | false => rfl
theorem toks_inj {x y : PyData} (h : alike x y = true) (e : keyToks x = keyToks y) : PyData.eqv x y = true := by
  cases q : PyData.eqv x y with
  | true => rfl
  | false =>
    have z := (toks_eqv x y h).2 q [] [Sum.inl 0]
    have key : ∀ l : List (Int ⊕ List Nat), PyProof.Rows.lexLt PyProof.Rows.itemOrd (l ++ []) (l ++ [Sum.inl 0]) = true := fun l => (lex_pre l [] [Sum.inl 0]).trans rfl
    have irr : ∀ l : List (Int ⊕ List Nat), PyProof.Rows.lexLt PyProof.Rows.itemOrd l l = false := fun l => PyProof.Rows.lex_irrefl (O := PyProof.Rows.itemOrd) l
    rw [e, key, irr] at z
    cases z
def leT (t u : Tr) : Bool := dataLe false kfD t.d u.d
theorem leT_eq (t u : Tr) : leT t u = !PyProof.Rows.lexLt PyProof.Rows.itemOrd (keyToks (rk u)) (keyToks (rk t)) := by
  rw [← kf_rk, ← kf_rk]; rfl
theorem le_total : TotalLe leT := ⟨fun a b c => (sortLe_total (PyProof.Rows.listOrd PyProof.Rows.itemOrd) false fun b => keyToks (kfD b)).trans a.d b.d c.d, fun a b => (sortLe_total (PyProof.Rows.listOrd PyProof.Rows.itemOrd) false fun b => keyToks (kfD b)).total a.d b.d⟩
theorem alike_rk (t u : Tr) : alike (rk t) (rk u) = true := by
  unfold rk
  rw [alike, alikeAll, alike, alikeAll, alike_d, alikeAll]; rfl
theorem le_anti {t u : Tr} (h1 : leT t u = true) (h2 : leT u t = true) : t = u := by
  rw [leT_eq, Bool.not_eq_true'] at h1 h2
  have e : keyToks (rk t) = keyToks (rk u) := PyProof.Rows.lex_total (O := PyProof.Rows.itemOrd) _ _ h2 h1
  have z := toks_inj (alike_rk t u) e
  unfold rk at z
  rw [PyData.eqv, PyData.eqvAll, PyData.eqvAll, Bool.and_eq_true, Bool.and_eq_true] at z
  exact eqv_d t u z.2.1
/-- sorted by rank -/
def srt (l : List Tr) : List Tr := l.mergeSort leT
theorem srt_dl (l : List Tr) : (dl l).mergeSort (dataLe false kfD) = dl (srt l) := (sort_maps Tr.d fun a _ b _ => rfl).symm
theorem srt_rk (l : List Tr) : (l.map rk).mergeSort (dataLe false id) = (srt l).map rk := (sort_maps rk fun a _ b _ => by rw [leT_eq]; rfl).symm
theorem srt_perm {l m : List Tr} (h : l.Perm m) : srt l = srt m := by
  refine List.Perm.eq_of_pairwise (le := fun a b => leT a b = true) (fun a b _ _ => le_anti) (sort_pairwise le_total l) (sort_pairwise le_total m) ?_
  exact ((List.mergeSort_perm l leT).trans h).trans (List.mergeSort_perm m leT).symm
open Classical in
/-- the first i of S, each once -/
noncomputable def pref (S : List Tr) : Nat → List Tr
  | 0 => []
  | i + 1 => pref S i ++ (if i = 0 ∨ S[i]? ≠ S[i - 1]? then S[i]?.toList else [])
theorem pref_last (S : List Tr) : ∀ i, i ≤ S.length → 0 < i → (pref S i).getLast? = S[i - 1]?
  | 0, _, h => by cases h
  | i + 1, h, _ => by
    have hi : i < S.length := h
    show (pref S i ++ _).getLast? = S[i]?
    rw [List.getElem?_eq_getElem hi]
    by_cases c : i = 0 ∨ some S[i] ≠ S[i - 1]?
    · rw [if_pos c]
      show (pref S i ++ [S[i]]).getLast? = _
      rw [List.getLast?_concat]
    · rw [if_neg c, List.append_nil]
      have c1 : i ≠ 0 := fun z => c (.inl z)
      have c2 : some S[i] = S[i - 1]? := Classical.byContradiction fun z => c (.inr z)
      rw [pref_last S i (Nat.le_of_lt hi) (Nat.pos_of_ne_zero c1), c2]
theorem pref_nil (S : List Tr) {i : Nat} (h : i ≤ S.length) (h0 : 0 < i) : pref S i ≠ [] := fun z => by
  have q := pref_last S i h h0
  rw [z, List.getElem?_eq_getElem (by omega)] at q
  cases q
theorem pref_len (S : List Tr) : ∀ i, (pref S i).length ≤ i
  | 0 => Nat.le_refl _
  | i + 1 => by
    show (pref S i ++ _).length ≤ i + 1
    rw [List.length_append]
    have := pref_len S i
    split
    · have z : S[i]?.toList.length ≤ 1 := by cases S[i]? <;> simp
      omega
    · show _ + 0 ≤ _; omega
theorem pref_yes {S : List Tr} {i : Nat} {t : Tr} (e : S[i]? = some t) (h : i = 0 ∨ ¬ S[i - 1]? = some t) : pref S (i + 1) = pref S i ++ [t] := by
  show pref S i ++ _ = _
  rw [if_pos (h.imp id fun h z => h (by rw [← z, e])), e]; rfl
theorem pref_no {S : List Tr} {i : Nat} {t : Tr} (e : S[i]? = some t) (h0 : i ≠ 0) (h : S[i - 1]? = some t) : pref S (i + 1) = pref S i := by
  show pref S i ++ _ = _
  rw [if_neg (fun z => z.elim h0 fun z => z (by rw [e, h])), List.append_nil]
/-- in order, each once -/
noncomputable def ord (l : List Tr) : List Tr := pref (srt l) (srt l).length
theorem ord_perm {l m : List Tr} (h : l.Perm m) : ord l = ord m := by unfold ord; rw [srt_perm h]
theorem srt_len (l : List Tr) : (srt l).length = l.length := List.length_mergeSort ..
theorem srt_mem {l : List Tr} {t : Tr} : t ∈ srt l ↔ t ∈ l := (List.mergeSort_perm l leT).mem_iff
theorem pref_mem {S : List Tr} {t : Tr} : ∀ {i}, t ∈ pref S i → t ∈ S
  | 0, h => by cases h
  | i + 1, h => by
    rcases List.mem_append.mp (show t ∈ pref S i ++ _ from h) with h | h
    · exact pref_mem h
    · split at h
      · cases e : S[i]? with
        | none => rw [e] at h; cases h
        | some u =>
          rw [e] at h
          have : t = u := by simpa using h
          rw [this]; exact List.mem_of_getElem? e
      · cases h
theorem ord_mem {l : List Tr} {t : Tr} (h : t ∈ ord l) : t ∈ l := srt_mem.mp (pref_mem h)
theorem ord_len (l : List Tr) : (ord l).length ≤ l.length := by
  have := pref_len (srt l) (srt l).length
  have e := srt_len l
  unfold ord
  omega
/-! ### what is known of the trees at hand -/
/-- a name: one to eight letters -/
def nOk (n : Str) : Bool := decide (1 ≤ n.length) && (decide (n.length ≤ 8) && n.cps.toList.all fun c => decide (97 ≤ c) && decide (c ≤ 122))
theorem nOk_str {n : Str} (h : nOk n = true) : PyData.strOk n = true := by
  unfold nOk at h
  rw [Bool.and_eq_true, Bool.and_eq_true] at h
  unfold PyData.strOk
  rw [Array.all_eq_true]
  intro i hi
  have z := List.all_eq_true.mp h.2.2 n.cps[i] (by simp)
  rw [Bool.and_eq_true] at z
  have := of_decide_eq_true z.2
  exact decide_eq_true (by omega)
mutual
def Tr.lay : Tr → Bool
  | .node n cs => nOk n && (decide (cs.length ≤ 4) && Tr.lays cs)
def Tr.lays : List Tr → Bool
  | [] => true
  | t :: ts => t.lay && Tr.lays ts
end
mutual
theorem lay_d : ∀ t : Tr, t.lay = true → t.d.canLay0 = true
  | .node n cs, h => by
    rw [Tr.lay, Bool.and_eq_true, Bool.and_eq_true] at h
    show PyData.canLay0 (.tuple (.str n :: Tr.ds cs)) = true
    rw [PyData.canLay0, PyData.canLayAll0, PyData.canLay0, lays_ds cs h.2.2]
    have := nOk_str h.1
    simpa using this
theorem lays_ds : ∀ cs : List Tr, Tr.lays cs = true → PyData.canLayAll0 (Tr.ds cs) = true
  | [], _ => by rw [Tr.ds, PyData.canLayAll0]
  | t :: ts, h => by
    rw [Tr.lays, Bool.and_eq_true] at h
    rw [Tr.ds, PyData.canLayAll0, lay_d t h.1, lays_ds ts h.2]; rfl
end
mutual
theorem depth_d : ∀ t : Tr, t.d.depth ≤ t.lev
  | .node n cs => by
    show PyData.depth (.tuple (.str n :: Tr.ds cs)) ≤ 1 + Tr.levs cs
    have := depths_ds cs
    rw [PyData.depth, PyData.depthAll, PyData.depth]
    omega
theorem depths_ds : ∀ cs : List Tr, PyData.depthAll (Tr.ds cs) ≤ Tr.levs cs
  | [] => by rw [Tr.ds, PyData.depthAll]; exact Nat.zero_le _
  | t :: ts => by
    rw [Tr.ds, PyData.depthAll]
    have := depth_d t
    have := depths_ds ts
    show _ ≤ max t.lev (Tr.levs ts)
    omega
end
mutual
theorem plain_d : ∀ t : Tr, plain t.d = true
  | .node n cs => by
    show plain (.tuple (.str n :: Tr.ds cs)) = true
    rw [Dn.plain, plainAll, plain_ds cs, Bool.and_true]; simp [Dn.plain]
theorem plain_ds : ∀ cs : List Tr, plainAll (Tr.ds cs) = true
  | [] => by rw [Tr.ds, plainAll]
  | t :: ts => by rw [Tr.ds, plainAll, plain_d t, plain_ds ts]; rfl
end
theorem plainAll_of : ∀ {l : List PyData}, (∀ d, d ∈ l → plain d = true) → plainAll l = true
  | [], _ => by rw [plainAll]
  | d :: l, h => by rw [plainAll, h d (List.mem_cons_self ..), plainAll_of fun d m => h d (List.mem_cons_of_mem _ m)]; rfl
theorem layAll_of : ∀ {l : List PyData}, (∀ d, d ∈ l → d.canLay0 = true) → PyData.canLayAll0 l = true
  | [], _ => by rw [PyData.canLayAll0]
  | d :: l, h => by rw [PyData.canLayAll0, h d (List.mem_cons_self ..), layAll_of fun d m => h d (List.mem_cons_of_mem _ m)]; rfl
theorem depthAll_of {n : Nat} : ∀ {l : List PyData}, (∀ d, d ∈ l → d.depth ≤ n) → PyData.depthAll l ≤ n
  | [], _ => by rw [PyData.depthAll]; exact Nat.zero_le _
  | d :: l, h => by
    rw [PyData.depthAll]
    have := h d (List.mem_cons_self ..)
    have := depthAll_of fun d m => h d (List.mem_cons_of_mem _ m)
    omega
structure Gd (t : Tr) : Prop where
  lev : t.lev ≤ 20
  size : t.size < 400
  lay : t.lay = true
theorem Gd.cmp {t : Tr} (h : Gd t) : cmp t.d = true := by
  unfold Dn.cmp SeqAt.shaped
  have := depth_d t
  have := h.lev
  rw [plain_d, lay_d t h.lay, decide_eq_true (by omega)]; rfl
theorem cmp_list {l : List PyData} (h : ∀ d, d ∈ l → plain d = true ∧ d.canLay0 = true ∧ d.depth ≤ 60) : cmp (.list l) = true := by
  unfold Dn.cmp SeqAt.shaped
  have := depthAll_of fun d m => (h d m).2.2
  rw [Dn.plain, plainAll_of fun d m => (h d m).1, PyData.canLay0, layAll_of fun d m => (h d m).2.1, PyData.depth, decide_eq_true (by omega)]; rfl
theorem cmp_tup {l : List PyData} (h : ∀ d, d ∈ l → plain d = true ∧ d.canLay0 = true ∧ d.depth ≤ 60) : cmp (.tuple l) = true := by
  unfold Dn.cmp SeqAt.shaped
  have := depthAll_of fun d m => (h d m).2.2
  rw [Dn.plain, plainAll_of fun d m => (h d m).1, PyData.canLay0, layAll_of fun d m => (h d m).2.1, PyData.depth, decide_eq_true (by omega)]; rfl
theorem Gd.three {t : Tr} (h : Gd t) : plain t.d = true ∧ t.d.canLay0 = true ∧ t.d.depth ≤ 60 := ⟨plain_d t, lay_d t h.lay, by have := depth_d t; have := h.lev; omega⟩
theorem Gd.list {l : List Tr} (h : ∀ t, t ∈ l → Gd t) : Dn.cmp (PyData.list (dl l)) = true := cmp_list fun d m => by
  obtain ⟨t, ht, e⟩ := List.mem_map.mp m
  rw [← e]; exact (h t ht).three
theorem lay_child {n : Str} {cs : List Tr} {t : Tr} (h : (Tr.node n cs).lay = true) (m : t ∈ cs) : t.lay = true := by
  rw [Tr.lay, Bool.and_eq_true, Bool.and_eq_true] at h
  have key : ∀ cs : List Tr, Tr.lays cs = true → t ∈ cs → t.lay = true := by
    intro cs
    induction cs with
    | nil => intro _ m; cases m
    | cons c cs ih =>
      intro h m
      rw [Tr.lays, Bool.and_eq_true] at h
      rcases List.mem_cons.mp m with rfl | m
      · exact h.1
      · exact ih h.2 m
  exact key cs h.2.2 m
theorem Gd.child {n : Str} {cs : List Tr} {t : Tr} (h : Gd (.node n cs)) (m : t ∈ cs) : Gd t :=
  ⟨Nat.le_trans (lev_child (k := (Tr.node n cs).lev) (Nat.le_succ _) m) h.lev, size_child h.size m, lay_child h.lay m⟩
mutual
theorem part_gd : ∀ {t p : Tr}, Gd t → p ∈ t.parts → Gd p
  | .node n cs, p, h, m => by
    rcases List.mem_cons.mp (show p ∈ Tr.node n cs :: Tr.partsL cs from m) with rfl | m
    · exact h
    · exact partL_gd (fun t ht => h.child ht) m
theorem partL_gd : ∀ {ts : List Tr} {p : Tr}, (∀ t, t ∈ ts → Gd t) → p ∈ Tr.partsL ts → Gd p
  | [], p, _, m => by cases m
  | t :: ts, p, h, m => by
    rcases List.mem_append.mp (show p ∈ t.parts ++ Tr.partsL ts from m) with m | m
    · exact part_gd (h t (List.mem_cons_self ..)) m
    · exact partL_gd (fun t ht => h t (List.mem_cons_of_mem _ ht)) m
end
theorem eqvAll_dl : ∀ l m : List Tr, PyData.eqvAll (dl l) (dl m) = true ↔ l = m := fun l m => by
  refine ⟨fun h => ?_, fun h => ?_⟩
  · unfold dl at h; rw [← ds_map, ← ds_map] at h; exact eqvAll_ds l m h
  · subst h; unfold dl; rw [← ds_map]; exact eqvAll_self l
end Gr

namespace Gr
open PySem L2 Evl Dn
abbrev N_ordered : List Str := ["trees", "found", "tree"]
abbrev P_ordered : List Str := ["trees"]
theorem sc_ordered : FnScope N_ordered P_ordered (defScope s_ordered) := ⟨rfl, rfl, rfl, by decide +kernel, rfl, by decide +kernel, by decide +kernel⟩
abbrev N_parts_of : List Str := ["trees", "tree", "part"]
abbrev P_parts_of : List Str := ["trees"]
theorem sc_parts_of : FnScope N_parts_of P_parts_of (defScope s_parts_of) := ⟨rfl, rfl, rfl, by decide +kernel, rfl, by decide +kernel, by decide +kernel⟩
abbrev N_parts : List Str := ["tree"]
abbrev P_parts : List Str := ["tree"]
theorem sc_parts : FnScope N_parts P_parts (defScope s_parts) := ⟨rfl, rfl, rfl, by decide +kernel, rfl, by decide +kernel, by decide +kernel⟩
section
variable {P : Program} {w : World} {K : Frag} {mg : Str → Option Value} {base : Heap}
theorem rank_key {l : List Tr} (h : ∀ t, t ∈ l → Gd t) : KeyOk K gRank (dl l) kfD where
  one := fun d m => by
    obtain ⟨t, ht, e⟩ := List.mem_map.mp m
    subst e
    exact ⟨t, rfl, by have := (h t ht).size; omega, (kf_rk t).symm⟩
  pl := fun d m => by
    obtain ⟨t, ht, e⟩ := List.mem_map.mp m
    subst e
    rw [kf_rk]
    unfold rk
    rw [Dn.plain, plainAll, plainAll, plain_d, plainAll]
    simp [Dn.plain]
  al := fun d hd d' hd' => by
    obtain ⟨x, hx, e⟩ := List.mem_map.mp hd
    obtain ⟨y, hy, e'⟩ := List.mem_map.mp hd'
    obtain ⟨t, ht, e2⟩ := List.mem_map.mp hx
    obtain ⟨u, hu, e3⟩ := List.mem_map.mp hy
    subst e; subst e'; subst e2; subst e3
    rw [kf_rk, kf_rk]
    exact alike_rk t u
  so := .inl fun d hd => by
    obtain ⟨x, hx, e⟩ := List.mem_map.mp hd
    subst e
    exact ⟨_, _, rfl⟩
  dp := fun d m => by
    obtain ⟨t, ht, e⟩ := List.mem_map.mp m
    subst e
    rw [kf_rk]
    unfold rk
    have := depth_d t
    have := (h t ht).lev
    rw [PyData.depth, PyData.depthAll, PyData.depthAll, PyData.depthAll, PyData.depth]
    omega
def gOrd : List PyData → (List PyData → Prop) → Prop := fun ds C => ∃ l : List Tr, ds = [.list (dl l)] ∧ (∀ t, t ∈ l → Gd t) ∧ l.length < 50000 ∧ C (dl (ord l))
theorem dl_get {l : List Tr} {i : Nat} {d : PyData} (h : (dl l)[i]? = some d) : ∃ t, l[i]? = some t ∧ d = t.d := by
  unfold dl at h
  rw [List.getElem?_map] at h
  cases q : l[i]? with
  | none => rw [q] at h; cases h
  | some t => rw [q] at h; exact ⟨t, rfl, (Option.some.inj h).symm⟩
theorem dl_len (l : List Tr) : (dl l).length = l.length := List.length_map _
theorem atI_last {l : List PyData} {d : PyData} (h : l.getLast? = some d) : atI l (-1) = some d := by
  cases l with
  | nil => cases h
  | cons a r =>
    rw [List.getLast?_eq_getElem?] at h
    unfold atI ixN
    have e : (r.length + 1 : Nat) = (a :: r).length := rfl
    rw [if_neg (by decide), if_pos (by rw [List.length_cons]; omega)]
    show (a :: r)[_]? = _
    rw [← h]
    congr 1
    rw [List.length_cons]; omega
theorem ok_ordered {f f_ev f_sz f_rk : Addr} {fdt fdt_ev fdt_sz fdt_rk : FuncData} (D : Df K mg "ordered" s_ordered P_ordered f fdt) (B : Bi mg) (D_every_part : Df K mg "every_part" s_every_part P_every_part f_ev fdt_ev) (D_size : Df K mg "size" s_size P_size f_sz fdt_sz) (D_rank : Df K mg "rank" s_rank P_rank f_rk fdt_rk) : FnOk P w K mg base CX0 6 f fdt P_ordered (spN K gOrd) := by
  have G_rank : FnOk P w K mg base CX0 3 _ _ _ _ := ok_rank D_rank B D_every_part D_size
  refine okN D.F sc_ordered (fun ds C h => by obtain ⟨l, rfl, _⟩ := h; rfl) (fun cdv A outer s H E hr => ?_)
  have hr_rank := hr.in1.in1
  have hu := huOf hr
  have hu64 := hr.units
  refine ⟨_, (pss_cons (ps_set (i := 1) sc_ordered.nd rfl (Or.inl rfl) (pe_lst pa_nil))
      (pss_cons (ps_for PassesOwn.never rfl (pi_list (pe_callBK (cr_sortK G_rank D_rank.b hr_rank hu) rfl B.sorted (by decide +kernel) (pa_cons (pv 0) pa_nil) (pk_cons (pe_glob rfl D_rank.m (show RelV (V.ref _) (Value.ref _) from rfl)) pk_nil))) (pg_name (i := 2) sc_ordered.nd rfl (Or.inl rfl)) (pss_one (ps_if (PW.pt (pw_or (pt_not (pt_truth (pv 1) (by intro _; rfl))) (pw_or1 (pt_cmpR (op_neD hu64) (pe_ix ix_list (pv 1) (pe_un un_neg pe_int) (fun _ _ => rfl)) (pv 2) (nomark _))))) (pss_one (ps_expr (pe_bm PySem.F.plainAttrs_list PySem.F.slot_list_append PySem.F.type_list_append mt_append (pv 1) (pa_cons (pv 2) pa_nil)))) pss_nil)))
      (pss_one (ps_ret (pv 1))))), fun ds C h => ?_⟩
  obtain ⟨l, rfl, hg, hz, hc⟩ := h
  refine wpS_seq (wpS_own (wpN_lst (wpA_nil ⟨by decide, fun p => ?_⟩)))
  refine wpS_seq (wpS_for (wpI_list (wpE_new (wpN_sortK (wp_var (d := .list (dl l)) rfl ⟨dl l, kfD, rfl, rank_key hg, ?_⟩)))))
  rw [srt_dl]
  refine ⟨_, rfl, fun i env => ∃ x : Sl, env = [.dat (.list (dl l)), .own p (dl (pref (srt l) i)), x] ∧ (∀ a b, x ≠ .own a b), ⟨.no, rfl, fun a b z => nomatch z⟩, ?_, ?_⟩
  · rintro i d env e ⟨x, rfl, hx⟩
    obtain ⟨t, ht, rfl⟩ := dl_get e
    refine ⟨_, gD_name, ?_⟩
    have hi : i < (srt l).length := (List.getElem?_eq_some_iff.mp ht).1
    have hgt : Gd t := hg t (srt_mem.mp (List.mem_of_getElem? ht))
    have hSl := srt_len l
    have hpl := pref_len (srt l) i
    have yes : (i = 0 ∨ ¬ (srt l)[i - 1]? = some t) → dl (pref (srt l) (i + 1)) = dl (pref (srt l) i) ++ [t.d] := fun q => by
      rw [pref_yes ht q]; unfold dl; rw [List.map_append]; rfl
    have app : ∀ {P : Po}, P.nx [.dat (.list (dl l)), .own p (dl (pref (srt l) (i + 1))), .dat t.d] → (i = 0 ∨ ¬ (srt l)[i - 1]? = some t) → wpS K nofd (tDrop (tBM K "list" rAppend (tVar 1) (tCons (tVar 2) tNil))) [.dat (.list (dl l)), .own p (dl (pref (srt l) i)), .dat t.d] P := fun q1 q =>
      wpS_append (p := p) (ds := dl (pref (srt l) i)) rfl (by rw [dl_len]; omega) (wp_var (d := t.d) rfl (by rw [yes q] at q1; exact q1))
    refine wpS_if (wpT_unown (wpT_or (wpT_not (wpT_tr (wp_var (d := .list (dl (pref (srt l) i))) rfl (.inl ⟨_, .inl rfl, fun hb => ?_, fun hb => ?_⟩))))))
    · refine ⟨fun _ => app ⟨_, rfl, fun a b z => nomatch z⟩ (.inl ?_), fun z => nomatch z⟩
      refine Classical.byContradiction fun h0 => ?_
      have q := pref_nil (srt l) (Nat.le_of_lt hi) (Nat.pos_of_ne_zero h0)
      cases e3 : pref (srt l) i with
      | nil => exact q e3
      | cons a r => rw [e3] at hb; exact nomatch hb
    · have h0 : 0 < i := Nat.pos_of_ne_zero fun z => by
        subst z
        exact nomatch hb
      have hlast := pref_last (srt l) i (Nat.le_of_lt hi) h0
      obtain ⟨v, hv⟩ : ∃ v, (srt l)[i - 1]? = some v := ⟨_, List.getElem?_eq_getElem (by omega)⟩
      have hgv : Gd v := hg v (srt_mem.mp (List.mem_of_getElem? hv))
      refine wpT_B (wp_op (wp_op (wp_var (d := .list (dl (pref (srt l) i))) rfl (wp_un (wp_int (und_neg (opd_ixL (d := v.d) (atI_last (by unfold dl; rw [List.getLast?_map, hlast, hv]; rfl)) (wp_var (d := t.d) rfl (opd_neD hgv.cmp hgt.cmp ⟨_, rfl, fun q => ?_, fun q => ?_⟩)))))))))
      · refine app ⟨_, rfl, fun a b z => nomatch z⟩ (.inr fun z => ?_)
        rw [hv] at z
        rw [Option.some.inj z, eqv_self] at q
        cases q
      · refine wpS_next ⟨.dat t.d, ?_, fun a b z => nomatch z⟩
        have e4 : v = t := eqv_d v t (by simpa using q)
        rw [pref_no ht (by omega) (by rw [hv, e4])]
        rfl
  · rintro env ⟨x, rfl, hx⟩
    rw [dl_len]
    exact wpS_retOwn (p := p) (ds := dl (ord l)) rfl hc
theorem partsL_map (l : List Tr) : Tr.partsL l = (l.map Tr.parts).flatten := by
  induction l with
  | nil => rfl
  | cons t l ih => show t.parts ++ Tr.partsL l = _; rw [ih]; rfl
theorem partsL_one (t : Tr) : Tr.partsL [t] = t.parts := List.append_nil _
def gPartsOf : List PyData → (List PyData → Prop) → Prop := fun ds C => ∃ l : List Tr, ds = [.list (dl l)] ∧ (∀ t, t ∈ l → Gd t) ∧ Tr.sizes l < 50000 ∧ C (dl (ord (Tr.partsL l)))
theorem ok_parts_of {f f_ev f_sz f_rk f_or : Addr} {fdt fdt_ev fdt_sz fdt_rk fdt_or : FuncData} (D : Df K mg "parts_of" s_parts_of P_parts_of f fdt) (B : Bi mg) (D_every_part : Df K mg "every_part" s_every_part P_every_part f_ev fdt_ev) (D_size : Df K mg "size" s_size P_size f_sz fdt_sz) (D_rank : Df K mg "rank" s_rank P_rank f_rk fdt_rk) (D_ordered : Df K mg "ordered" s_ordered P_ordered f_or fdt_or) : FnOk P w K mg base CX0 7 f fdt P_parts_of (spN K gPartsOf) := by
  have G_every_part : FnOk P w K mg base CX0 1 _ _ _ _ := ok_every D_every_part B
  have G_ordered : FnOk P w K mg base CX0 6 _ _ _ _ := ok_ordered D_ordered B D_every_part D_size D_rank
  refine okN D.F sc_parts_of (fun ds C h => by obtain ⟨l, rfl, _⟩ := h; rfl) (fun cdv A outer s H E hr => ?_)
  have hr_ordered := hr
  have hr_every_part := hr.mono (show 1 ≤ 6 by decide)
  refine ⟨_, (pss_one (ps_ret (pe_call G_ordered hr_ordered rfl D_ordered.m D_ordered.F.kp D_ordered.b .nil pass0 (pa_cons (pe_lc2 rfl sc_parts_of.nd (vs1 := [2]) (pi_list (pv 0)) (blkOk_by (own := [("tree", 1), ("part", 2)]) (N := N_parts_of) (sc := defScope s_parts_of) (by decide +kernel)) (by decide) (fun _ _ _ _ _ => (pg_name (i := 1) sc_parts_of.nd rfl (Or.inl rfl))) (fun _ _ _ _ _ => pts_nil) (fun _ _ _ _ _ => (show PI _ _ _ (iList K _) from (pi_list (pe_call G_every_part hr_every_part rfl D_every_part.m D_every_part.F.kp D_every_part.b .nil pass0 (pa_cons (pv 1) pa_nil))))) (fun _ _ _ _ _ => (pg_name (i := 2) sc_parts_of.nd rfl (Or.inl rfl))) (fun _ _ _ _ _ => pts_nil) (fun _ _ _ _ _ => (pv 2))) pa_nil)))), fun ds C h => ?_⟩
  obtain ⟨l, rfl, hg, hz, hc⟩ := h
  refine wpS_retNew (wpN_call (wpA_cons (wpE_new (wpN_lc2 (wpI_list (wp_var (d := .list (dl l)) rfl ⟨_, rfl, fun i acc => ∃ L : List Tr, acc = dl L ∧ L.Perm (Tr.partsL (l.take i)), ⟨[], rfl, List.Perm.refl _⟩, ?_, ?_⟩))))))
  · rintro i d acc e ⟨L, rfl, hL⟩
    obtain ⟨t, ht, rfl⟩ := dl_get e
    have hgt : Gd t := hg t (List.mem_of_getElem? ht)
    have etk : Tr.partsL (l.take (i + 1)) = Tr.partsL (l.take i) ++ t.parts := by
      rw [List.take_add_one, ht, partsL_app]
      show _ ++ Tr.partsL [t] = _
      rw [partsL_one]
    have hsz : Tr.sizes (l.take (i + 1)) ≤ Tr.sizes l := by
      have z := sizes_app (l.take (i + 1)) (l.drop (i + 1))
      rw [List.take_append_drop] at z
      omega
    have hLl : L.length + t.size = Tr.sizes (l.take (i + 1)) := by
      rw [hL.length_eq, ← partsL_len (l.take (i + 1)), etk, List.length_append, parts_len]
    refine ⟨_, gD_name, by simp, wpT_yes ⟨fun _ => wpI_list (wp_call (wpA_cons (wp_var (d := t.d) rfl (wpA_nil ⟨t, rfl, by have := hgt.size; omega, fun m hm => ⟨_, rfl, fun j acc => acc = dl (L ++ m.take j), (by show dl L = dl (L ++ []); rw [List.append_nil]), ?_, ?_⟩⟩)))), fun z => nomatch z⟩⟩
    · rintro j d acc e rfl
      obtain ⟨u, hu, rfl⟩ := dl_get e
      have hml : m.length = t.size := by rw [hm.length_eq, parts_len]
      have hj : j < m.length := (List.getElem?_eq_some_iff.mp hu).1
      refine ⟨_, gD_name, by simp, wpT_yes ⟨fun _ => wp_var (d := u.d) rfl ⟨?_, ?_⟩, fun z => nomatch z⟩⟩
      · rw [dl_len, List.length_append, List.length_take]; omega
      · show _ = dl (L ++ m.take (j + 1))
        rw [List.take_add_one, hu, ← List.append_assoc]
        unfold dl
        rw [List.map_append (l₁ := L ++ m.take j)]
        rfl
    · rintro acc rfl
      rw [dl_len, List.take_length]
      exact ⟨L ++ m, rfl, by rw [etk]; exact hL.append hm⟩
  · rintro acc ⟨L, rfl, hL⟩
    rw [dl_len, List.take_length] at hL
    have hLl : L.length = Tr.sizes l := by rw [hL.length_eq, partsL_len]
    refine wpA_nil ⟨L, rfl, fun t m => partL_gd hg (hL.mem_iff.mp m), by omega, ?_⟩
    rw [ord_perm hL]
    exact hc
def gParts : List PyData → (List PyData → Prop) → Prop := fun ds C => ∃ t : Tr, ds = [t.d] ∧ Gd t ∧ C (dl (ord t.parts))
theorem ok_parts {f f_ev f_sz f_rk f_or f_po : Addr} {fdt fdt_ev fdt_sz fdt_rk fdt_or fdt_po : FuncData} (D : Df K mg "parts" s_parts P_parts f fdt) (B : Bi mg) (D_every_part : Df K mg "every_part" s_every_part P_every_part f_ev fdt_ev) (D_size : Df K mg "size" s_size P_size f_sz fdt_sz) (D_rank : Df K mg "rank" s_rank P_rank f_rk fdt_rk) (D_ordered : Df K mg "ordered" s_ordered P_ordered f_or fdt_or) (D_parts_of : Df K mg "parts_of" s_parts_of P_parts_of f_po fdt_po) : FnOk P w K mg base CX0 8 f fdt P_parts (spN K gParts) := by
  have G_parts_of : FnOk P w K mg base CX0 7 _ _ _ _ := ok_parts_of D_parts_of B D_every_part D_size D_rank D_ordered
  refine okN D.F sc_parts (fun ds C h => by obtain ⟨l, rfl, _⟩ := h; rfl) (fun cdv A outer s H E hr => ?_)
  have hr_parts_of := hr
  refine ⟨_, (pss_one (ps_ret (pe_call G_parts_of hr_parts_of rfl D_parts_of.m D_parts_of.F.kp D_parts_of.b .nil pass0 (pa_cons (pe_lst (pa_cons (pv 0) pa_nil)) pa_nil)))), fun ds C h => ?_⟩
  obtain ⟨t, rfl, hg, hc⟩ := h
  refine wpS_retNew (wpN_call (wpA_cons (wpE_new (wpN_lst (wpA_cons (wp_var (d := t.d) rfl (wpA_nil ⟨(by show 1 ≤ 100000; decide), wpA_nil ⟨[t], rfl, ?_, ?_, ?_⟩⟩)))))))
  · intro u m
    rw [List.mem_singleton.mp m]; exact hg
  · show t.size + 0 < 50000
    have := hg.size
    omega
  · rw [partsL_one]; exact hc
end
end Gr

namespace Gr
open PySem L2 Evl Dn
abbrev N_places : List Str := ["tree", "waiting", "place", "part", "child"]
abbrev P_places : List Str := ["tree"]
theorem sc_places : GScope N_places P_places (defScope s_places) := ⟨rfl, rfl, rfl, by decide +kernel, rfl, by decide +kernel, by decide +kernel⟩
abbrev N__law_parts : List Str := ["tree", "found", "child"]
abbrev P__law_parts : List Str := ["tree"]
theorem sc__law_parts : FnScope N__law_parts P__law_parts (defScope s__law_parts) := ⟨rfl, rfl, rfl, by decide +kernel, rfl, by decide +kernel, by decide +kernel⟩
abbrev N__law_ordered : List Str := ["trees", "found", "k", "tree"]
abbrev P__law_ordered : List Str := ["trees"]
theorem sc__law_ordered : FnScope N__law_ordered P__law_ordered (defScope s__law_ordered) := ⟨rfl, rfl, rfl, by decide +kernel, rfl, by decide +kernel, by decide +kernel⟩
abbrev N__law_places : List Str := ["tree", "found", "number", "child", "place", "part"]
abbrev P__law_places : List Str := ["tree"]
theorem sc__law_places : FnScope N__law_places P__law_places (defScope s__law_places) := ⟨rfl, rfl, rfl, by decide +kernel, rfl, by decide +kernel, by decide +kernel⟩
/-! ### places -/
mutual
def Tr.pl : Tr → List (List Nat × Tr)
  | .node n cs => ([], .node n cs) :: Tr.plL 0 cs
def Tr.plL : Nat → List Tr → List (List Nat × Tr)
  | _, [] => []
  | i, t :: ts => (t.pl.map fun q => (i :: q.1, q.2)) ++ Tr.plL (i + 1) ts
end
def pInts (p : List Nat) : List PyData := p.map fun n => .int (n : Nat)
def ppd (q : List Nat × Tr) : PyData := .tuple [.tuple (pInts q.1), q.2.d]
def chL (q : List Nat) : Nat → List Tr → List (List Nat × Tr)
  | _, [] => []
  | i, c :: cs => (q ++ [i], c) :: chL q (i + 1) cs
theorem chL_len {q : List Nat} : ∀ {cs : List Tr} {i : Nat}, (chL q i cs).length = cs.length
  | [], _ => rfl
  | c :: cs, i => congrArg (· + 1) (chL_len (cs := cs) (i := i + 1))
theorem chL_get {q : List Nat} : ∀ {cs : List Tr} {i k : Nat} {c : Tr}, cs[k]? = some c → (chL q i cs)[k]? = some (q ++ [i + k], c)
  | [], _, _, _, e => by simp at e
  | c :: cs, i, 0, c', e => by
    have : c = c' := Option.some.inj e
    subst this; rfl
  | c :: cs, i, k + 1, c', e => by
    have z := chL_get (q := q) (cs := cs) (i := i + 1) (k := k) (c := c') e
    show (chL q (i + 1) cs)[k]? = _
    rw [z]
    congr 4
    omega
def ex1 (q : List Nat × Tr) : List (List Nat × Tr) := q.2.pl.map fun r => (q.1 ++ r.1, r.2)
def flatW (W : List (List Nat × Tr)) : List (List Nat × Tr) := (W.reverse.map ex1).flatten
theorem chL_flat {q : List Nat} : ∀ (cs : List Tr) (i : Nat), ((chL q i cs).map ex1).flatten = (Tr.plL i cs).map fun r => (q ++ r.1, r.2)
  | [], _ => rfl
  | c :: cs, i => by
    show ex1 (q ++ [i], c) ++ ((chL q (i + 1) cs).map ex1).flatten = ((c.pl.map fun r => (i :: r.1, r.2)) ++ Tr.plL (i + 1) cs).map fun r => (q ++ r.1, r.2)
    rw [chL_flat cs (i + 1), List.map_append, List.map_map]
    congr 1
    unfold ex1
    refine List.map_congr_left fun r _ => ?_
    show ((q ++ [i]) ++ r.1, r.2) = (q ++ (i :: r.1), r.2)
    rw [List.append_assoc]; rfl
theorem flat_step (W : List (List Nat × Tr)) (q : List Nat) (n : Str) (cs : List Tr) : flatW (W ++ [(q, .node n cs)]) = (q, Tr.node n cs) :: flatW (W ++ (chL q 0 cs).reverse) := by
  unfold flatW
  rw [List.reverse_append, List.reverse_append, List.reverse_reverse, List.map_append, List.map_append, List.flatten_append, List.flatten_append, chL_flat]
  show (((q ++ [], Tr.node n cs) :: (Tr.plL 0 cs).map fun r => (q ++ r.1, r.2)) ++ []) ++ _ = _
  rw [List.append_nil, List.append_nil]
  rfl
def sumW (W : List (List Nat × Tr)) : Nat := Tr.sizes (W.map (·.2))
theorem chL_snd {q : List Nat} : ∀ (cs : List Tr) (i : Nat), (chL q i cs).map (·.2) = cs
  | [], _ => rfl
  | c :: cs, i => congrArg (List.cons c) (chL_snd cs (i + 1))
theorem sizes_rev : ∀ l : List Tr, Tr.sizes l.reverse = Tr.sizes l
  | [] => rfl
  | t :: l => by
    rw [List.reverse_cons, sizes_app, sizes_rev l]
    show _ + (t.size + 0) = t.size + _
    omega
theorem sumW_app (W V : List (List Nat × Tr)) : sumW (W ++ V) = sumW W + sumW V := by unfold sumW; rw [List.map_append, sizes_app]
theorem sumW_ch (q : List Nat) (cs : List Tr) : sumW (chL q 0 cs).reverse = Tr.sizes cs := by
  unfold sumW; rw [List.map_reverse, chL_snd, sizes_rev]
theorem len_sumW (W : List (List Nat × Tr)) : W.length ≤ sumW W := by
  have := len_le_sizes (W.map (·.2))
  rw [List.length_map] at this
  exact this
mutual
theorem pl_len : ∀ t : Tr, t.pl.length = t.size
  | .node n cs => by
    show (Tr.plL 0 cs).length + 1 = 1 + Tr.sizes cs
    rw [plL_len cs 0]; omega
theorem plL_len : ∀ (cs : List Tr) (i : Nat), (Tr.plL i cs).length = Tr.sizes cs
  | [], _ => rfl
  | t :: ts, i => by
    show ((t.pl.map _) ++ Tr.plL (i + 1) ts).length = t.size + Tr.sizes ts
    rw [List.length_append, List.length_map, pl_len t, plL_len ts (i + 1)]
end
mutual
theorem pl_lev : ∀ (t : Tr) (q : List Nat × Tr), q ∈ t.pl → q.1.length < t.lev ∧ (Gd t → Gd q.2)
  | .node n cs, q, h => by
    rcases List.mem_cons.mp (show q ∈ ([], Tr.node n cs) :: Tr.plL 0 cs from h) with rfl | h
    · exact ⟨by show 0 < 1 + _; omega, id⟩
    · obtain ⟨h1, h2⟩ := plL_lev cs 0 q h
      exact ⟨by show _ < 1 + Tr.levs cs; omega, fun g => h2 fun t ht => g.child ht⟩
theorem plL_lev : ∀ (cs : List Tr) (i : Nat) (q : List Nat × Tr), q ∈ Tr.plL i cs → q.1.length < 1 + Tr.levs cs ∧ ((∀ t, t ∈ cs → Gd t) → Gd q.2)
  | [], _, _, h => by cases h
  | t :: ts, i, q, h => by
    rcases List.mem_append.mp (show q ∈ (t.pl.map fun q => (i :: q.1, q.2)) ++ Tr.plL (i + 1) ts from h) with h | h
    · obtain ⟨r, hr, e⟩ := List.mem_map.mp h
      subst e
      obtain ⟨h1, h2⟩ := pl_lev t r hr
      refine ⟨?_, fun g => h2 (g t (List.mem_cons_self ..))⟩
      show r.1.length + 1 < 1 + max t.lev (Tr.levs ts)
      omega
    · obtain ⟨h1, h2⟩ := plL_lev ts (i + 1) q h
      refine ⟨?_, fun g => h2 fun u hu => g u (List.mem_cons_of_mem _ hu)⟩
      show _ < 1 + max t.lev (Tr.levs ts)
      omega
end
section
variable {P : Program} {w : World} {K : Frag} {mg : Str → Option Value} {base : Heap}
def gPl : List PyData → (List PyData → Prop) → Prop := fun ds C => ∃ t : Tr, ds = [t.d] ∧ Gd t ∧ C (t.pl.map ppd)
theorem ok_places {f : Addr} {fdt : FuncData} (D : Df K mg "places" s_places P_places f fdt) (B : Bi mg) : GFn P w K mg base 1 f fdt P_places (spGn K gPl) := by
  refine okG D.F sc_places (fun ds C h => by obtain ⟨t, rfl, _⟩ := h; rfl) (fun cdv A outer s H E pn hr => ?_)
  refine ⟨_, (gss_cons (gs_ps (ps_set (i := 1) sc_places.nd rfl (Or.inl rfl) (pe_lst (pa_cons (pe_tup (pa_cons (pe_tup pa_nil) (pa_cons (pv 0) pa_nil))) pa_nil))))
      (gss_cons (gs_while owns_gcx (pt_truth (pv 1) (by intro _; rfl)) (gss_cons (gs_ps (ps_asg (pe_bm0 PySem.F.plainAttrs_list PySem.F.slot_list_pop PySem.F.type_list_pop mt_pop (pv 1)) (pg_tup rfl (pgs_cons (pg_name (i := 2) sc_places.nd rfl (Or.inl rfl)) (pgs_cons (pg_name (i := 3) sc_places.nd rfl (Or.inl rfl)) pgs_nil)))))
      (gss_cons (gs_yield (pe_tup (pa_cons (pv 2) (pa_cons (pv 3) pa_nil))))
      (gss_cons (gs_ps (ps_for owns_gcx rfl (pi_revR rfl B.reversed (prg_1 rfl B.range (pe_op op_sub (pe_callB call_len_seq rfl B.len PySem.boot_len (pa_cons (pv 3) pa_nil)) pe_int))) (pg_name (i := 4) sc_places.nd rfl (Or.inl rfl)) (pss_one (ps_expr (pe_bm PySem.F.plainAttrs_list PySem.F.slot_list_append PySem.F.type_list_append mt_append (pv 1) (pa_cons (pe_tup (pa_cons (pe_op op_catA (pv 2) (pe_tup (pa_cons (pv 4) pa_nil))) (pa_cons (pe_ix ix_tup (pv 3) (pe_op op_add (pv 4) pe_int) (fun _ _ => rfl)) pa_nil))) pa_nil))))))
      gss_nil))))
      gss_nil)), fun ds C h => ?_⟩
  obtain ⟨t, rfl, hg, hc⟩ := h
  refine wpG_then (wpG_plain (wpS_own (wpN_lst (wpA_cons (wp_tup (wpA_cons (wp_tup (wpA_nil ⟨by decide, wpA_cons (wp_var (d := t.d) rfl (wpA_nil ⟨(by show 2 ≤ 100000; decide), wpA_nil ⟨(by show 1 ≤ 100000; decide), fun p => ?_⟩⟩))⟩))))))))
  have hst := hg.size
  refine wpG_then (wpG_while (fun m ys env => ∃ (Y W : List (List Nat × Tr)) (x y z : Sl), ys = Y.map ppd ∧ env = [.dat t.d, .own p (W.map ppd), x, y, z] ∧ m = sumW W ∧ Y ++ flatW W = t.pl) t.size ⟨[], [([], t)], .no, .no, .no, rfl, rfl, ?_, ?_⟩ ?_)
  · show t.size = t.size + 0; rfl
  · show [] ++ ((t.pl.map fun r => ([] ++ r.1, r.2)) ++ []) = t.pl
    rw [List.append_nil, List.nil_append]
    exact List.map_id' _
  rintro m ys env ⟨Y, W, x, y, z, rfl, rfl, rfl, hYW⟩
  refine wpT_unown (wpT_tr (wp_var (d := .list (W.map ppd)) rfl (.inl ⟨_, .inl rfl, fun hb => ?_, fun hb => ?_⟩)))
  · rcases snoc_cases W with rfl | ⟨W, ⟨q, tt⟩, rfl⟩
    · cases hb
    · cases tt with
      | node n cs =>
      have hlen := congrArg List.length hYW
      rw [List.length_append, pl_len] at hlen
      have hYl : Y.length < 400 := by omega
      rw [flat_step, List.length_cons] at hlen
      have hmem : (q, Tr.node n cs) ∈ t.pl := by
        rw [← hYW, flat_step]
        exact List.mem_append_right _ (List.mem_cons_self ..)
      obtain ⟨hq, hgd⟩ := pl_lev t _ hmem
      have hgn : Gd (.node n cs) := hgd hg
      have hql : q.length < 20 := Nat.lt_of_lt_of_le hq hg.lev
      have hcl := len_le_size (n := n) (cs := cs)
      have hcs : cs.length < 400 := Nat.lt_trans hcl hgn.size
      have flen : ∀ V : List (List Nat × Tr), (flatW V).length = sumW V := fun V => by
        unfold flatW sumW
        rw [List.length_flatten, List.map_map, ← sizes_rev, ← List.map_reverse]
        generalize V.reverse = U
        induction U with
        | nil => rfl
        | cons u U ih =>
          rw [List.map_cons, List.sum_cons, ih]
          show (u.2.pl.map _).length + _ = u.2.size + _
          rw [List.length_map, pl_len]
      have hWl : W.length + cs.length < 400 := by
        rw [flen, sumW_app, sumW_ch] at hlen
        have := len_sumW W
        have := len_le_sizes cs
        omega
      refine wpG_then (wpG_plain (wpS_popT (ds := W.map ppd) (d := ppd (q, .node n cs)) (as := [(2, .tuple (pInts q)), (3, (Tr.node n cs).d)]) (by show some _ = some _; rw [List.map_append]; rfl) (gD_tup (gsD_cons gD_name (gsD_cons gD_name gsD_nil)) rfl) ?_))
      refine wpG_then (wpG_yield (by rw [List.length_map]; omega) (wp_tup (wpA_cons (wp_var (d := .tuple (pInts q)) rfl (wpA_cons (wp_var (d := (Tr.node n cs).d) rfl (wpA_nil ⟨(by show 2 ≤ 100000; decide), ?_⟩)))))))
      refine wpG_then (wpG_plain (wpS_for (wpI_revR (n := 0) (wp_op (wp_cb (wpA_cons (wp_var (d := .tuple (.str n :: cs.map Tr.d)) (by rw [← d_node]; rfl) (wpA_nil (cad_lenT (wp_int (opd_ii ⟨_, rfl, ?_, ?_, fun i env => ∃ z : Sl, env = [.dat t.d, .own p (W.map ppd ++ ((chL q 0 cs).reverse.take i).map ppd), .dat (.tuple (pInts q)), .dat (Tr.node n cs).d, z], ⟨z, ?_⟩, ?_, ?_⟩)))))))))))
      · rw [List.length_cons, List.length_map]; omega
      · rw [List.length_cons, List.length_map]; omega
      · rw [List.take_zero]
        show _ = [_, Sl.own p (W.map ppd ++ []), _, _, _]
        rw [List.append_nil]
        rfl
      · rintro i d env e ⟨z, rfl⟩
        have ej : ((((Sl.dat (Tr.node n cs).d :: []).length : Nat) : Int)) = 1 := rfl
        have en : ((PyData.str n :: cs.map Tr.d).length : Int) - 1 = ((cs.length : Nat) : Int) := by rw [List.length_cons, List.length_map]; omega
        rw [en, Int.toNat_natCast] at e
        have hi : i < cs.length := by
          have z := (List.getElem?_eq_some_iff.mp e).1
          rw [List.length_reverse, rng_len] at z
          exact z
        rw [List.getElem?_reverse (by rw [rng_len]; exact hi), rng_len, rng_get (by omega)] at e
        have e := (Option.some.inj e).symm
        subst e
        obtain ⟨k, hk⟩ : ∃ k, k = cs.length - 1 - i := ⟨_, rfl⟩
        rw [← hk]
        obtain ⟨c, hc'⟩ : ∃ c, cs[k]? = some c := ⟨_, List.getElem?_eq_getElem (by omega)⟩
        have hget : (chL q 0 cs).reverse[i]? = some (q ++ [k], c) := by
          rw [List.getElem?_reverse (by rw [chL_len]; exact hi), chL_len, ← hk, chL_get hc', Nat.zero_add]
        refine ⟨_, gD_name, ?_⟩
        refine wpS_append (p := p) (ds := W.map ppd ++ ((chL q 0 cs).reverse.take i).map ppd) rfl (by rw [List.length_append, List.length_map, List.length_map, List.length_take, List.length_reverse, chL_len]; omega) (wp_tup (wpA_cons (wp_op (wp_var (d := .tuple (pInts q)) rfl (wp_tup (wpA_cons (wp_var (d := .int (0 + (k : Int))) rfl (wpA_nil ⟨(by show 1 ≤ 100000; decide), opd_catA ?_ (wpA_cons (wp_op (wp_var (d := .tuple (.str n :: cs.map Tr.d)) (by rw [← d_node]; rfl) (wp_op (wp_var (d := .int (0 + (k : Int))) rfl (wp_int (opd_ii (opd_ixT (d := c.d) ?_ (wpA_nil ⟨(by show 2 ≤ 100000; decide), .dat (.int (0 + (k : Int))), ?_⟩)))))))))⟩))))))))
        · unfold pInts
          rw [List.length_map]
          show q.length + 1 ≤ _
          omega
        · unfold atI ixN
          rw [if_pos (by omega), if_pos (by rw [List.length_cons, List.length_map]; omega)]
          have e2 : (0 + (k : Int) + 1).toNat = k + 1 := by omega
          show (PyData.str n :: cs.map Tr.d)[_]? = _
          rw [e2, List.getElem?_cons_succ, List.getElem?_map, hc']
          rfl
        · show [_, Sl.own p _, _, _, _] = [_, Sl.own p _, _, _, _]
          have e3 : ((chL q 0 cs).reverse.take (i + 1)).map ppd = ((chL q 0 cs).reverse.take i).map ppd ++ [ppd (q ++ [k], c)] := by
            rw [List.take_add_one, hget, List.map_append]; rfl
          have e4 : ppd (q ++ [k], c) = .tuple [.tuple (pInts q ++ [.int (0 + (k : Int))]), c.d] := by
            unfold ppd pInts
            rw [List.map_append, Int.zero_add]
            rfl
          rw [e3, e4, List.append_assoc]
      · rintro env ⟨z, rfl⟩
        have en : ((PyData.str n :: cs.map Tr.d).length : Int) - 1 = ((cs.length : Nat) : Int) := by rw [List.length_cons, List.length_map]; omega
        rw [en, Int.toNat_natCast, List.length_reverse, rng_len, List.take_of_length_le (by rw [List.length_reverse, chL_len]; exact Nat.le_refl _)]
        refine wpG_nil ⟨sumW (W ++ (chL q 0 cs).reverse), ?_, Y ++ [(q, .node n cs)], W ++ (chL q 0 cs).reverse, .dat (.tuple (pInts q)), .dat (Tr.node n cs).d, z, ?_, ?_, rfl, ?_⟩
        · rw [sumW_app, sumW_app, sumW_ch]
          show _ < _ + ((1 + Tr.sizes cs) + 0)
          omega
        · rw [List.map_append]; rfl
        · rw [List.map_append]
        · rw [List.append_assoc, ← hYW, flat_step]; rfl
  · have hW : W = [] := by
      cases W with
      | nil => rfl
      | cons a b => cases hb
    subst hW
    refine wpG_nil ?_
    have e : t.pl = Y := by rw [← hYW]; exact List.append_nil _
    rw [e] at hc
    exact hc
/-! ### the law's own parts, places, order -/
def gLPa (k : Nat) : List PyData → (PyData → Prop) → Prop := fun ds C => ∃ t : Tr, ds = [t.d] ∧ t.lev ≤ k ∧ Gd t ∧ C (.list (dl t.parts))
theorem ok_lparts {f : Addr} {fdt : FuncData} (D__law_parts : Df K mg "_law_parts" s__law_parts P__law_parts f fdt) (B : Bi mg) : ∀ k, FnOk P w K mg base CX0 (k + 1) f fdt P__law_parts (spP K (gLPa k))
  | 0 => no_spP fun ds C ⟨t, _, h, _⟩ => by have := lev_pos t; omega
  | k + 1 => by
    have G__law_parts := ok_lparts D__law_parts B k
    refine okP D__law_parts.F sc__law_parts (fun ds C h => by obtain ⟨t, rfl, _⟩ := h; rfl) (fun cdv A outer s H E hr => ?_)
    have hr__law_parts := hr
    refine ⟨_, (pss_cons (ps_set (i := 1) sc__law_parts.nd rfl (Or.inl rfl) (pe_lst (pa_cons (pv 0) pa_nil)))
      (pss_cons (ps_for PassesOwn.never rfl (pi_tup (pe_slice sl_tupA (pv 0) (po_some pe_int) po_none)) (pg_name (i := 2) sc__law_parts.nd rfl (Or.inl rfl)) (pss_one (ps_set (i := 1) sc__law_parts.nd rfl (Or.inl rfl) (pe_op op_cat (pv 1) (pe_call G__law_parts hr__law_parts rfl D__law_parts.m D__law_parts.F.kp D__law_parts.b .nil pass0 (pa_cons (pv 2) pa_nil))))))
      (pss_one (ps_ret (pv 1))))), fun ds C h => ?_⟩
    obtain ⟨t, rfl, hl, hg, hc⟩ := h
    cases t with
    | node n cs =>
    have hlen := len_le_size (n := n) (cs := cs)
    have hgs := hg.size
    refine wpS_seq (wpS_asg (wpE_new (wpN_lst (wpA_cons (wp_var (d := (Tr.node n cs).d) rfl (wpA_nil ⟨(by show 1 ≤ 100000; decide), ?_⟩))))))
    refine wpS_seq (wpS_for (wpI_tup (wp_slT (wp_var (d := (Tr.node n cs).d) rfl (wpO_some (wp_int ⟨1, rfl, wpO_none ⟨_, d_node n cs, ?_⟩⟩))))))
    rw [cut_tl]
    refine ⟨_, rfl, fun i env => ∃ x : Sl, env = [.dat (Tr.node n cs).d, .dat (.list (dl (.node n cs :: Tr.partsL (cs.take i)))), x], ⟨.no, rfl⟩, ?_, ?_⟩
    · rintro i d env e ⟨x, rfl⟩
      obtain ⟨c, hc', rfl⟩ := dl_get (l := cs) e
      have m : c ∈ cs := List.mem_of_getElem? hc'
      have etk : Tr.partsL (cs.take (i + 1)) = Tr.partsL (cs.take i) ++ c.parts := by
        rw [List.take_add_one, hc', partsL_app]
        show _ ++ Tr.partsL [c] = _
        rw [partsL_one]
      have hz : (Tr.partsL (cs.take i)).length + c.parts.length ≤ Tr.sizes cs := by
        have z := sizes_app (cs.take (i + 1)) (cs.drop (i + 1))
        rw [List.take_append_drop, ← partsL_len (cs.take (i + 1)), etk, List.length_append] at z
        omega
      have hs2 : (Tr.node n cs).size = 1 + Tr.sizes cs := rfl
      refine ⟨_, gD_name, wpS_asg (wpE_new (wpN_op (wp_var (d := .list (dl (.node n cs :: Tr.partsL (cs.take i)))) rfl (wp_call (wpA_cons (wp_var (d := c.d) rfl (wpA_nil ⟨c, rfl, lev_child hl m, hg.child m, opn_cat ?_ ⟨.dat c.d, ?_⟩⟩)))))))⟩
      · rw [dl_len, dl_len, List.length_cons]; omega
      · rw [etk]
        unfold dl
        rw [← List.map_append]
        rfl
    · rintro env ⟨x, rfl⟩
      rw [List.length_map, List.take_length]
      exact wpS_ret (wp_var (d := .list (dl (Tr.node n cs).parts)) rfl hc)
def gLPl (k : Nat) : List PyData → (PyData → Prop) → Prop := fun ds C => ∃ t : Tr, ds = [t.d] ∧ t.lev ≤ k ∧ Gd t ∧ C (.list (t.pl.map ppd))
theorem plL_app : ∀ (a b : List Tr) (i : Nat), Tr.plL i (a ++ b) = Tr.plL i a ++ Tr.plL (i + a.length) b
  | [], b, i => rfl
  | t :: a, b, i => by
    show (t.pl.map _) ++ Tr.plL (i + 1) (a ++ b) = ((t.pl.map _) ++ Tr.plL (i + 1) a) ++ Tr.plL (i + (a.length + 1)) b
    rw [plL_app a b (i + 1), List.append_assoc, Nat.add_assoc i 1, Nat.add_comm 1]
theorem plL_one (c : Tr) (i : Nat) : Tr.plL i [c] = c.pl.map fun q => (i :: q.1, q.2) := List.append_nil _
theorem ok_lplaces {f : Addr} {fdt : FuncData} (D__law_places : Df K mg "_law_places" s__law_places P__law_places f fdt) (B : Bi mg) : ∀ k, FnOk P w K mg base CX0 (k + 1) f fdt P__law_places (spP K (gLPl k))
  | 0 => no_spP fun ds C ⟨t, _, h, _⟩ => by have := lev_pos t; omega
  | k + 1 => by
    have G__law_places := ok_lplaces D__law_places B k
    refine okP D__law_places.F sc__law_places (fun ds C h => by obtain ⟨t, rfl, _⟩ := h; rfl) (fun cdv A outer s H E hr => ?_)
    have hr__law_places := hr
    refine ⟨_, (pss_cons (ps_set (i := 1) sc__law_places.nd rfl (Or.inl rfl) (pe_lst (pa_cons (pe_tup (pa_cons (pe_tup pa_nil) (pa_cons (pv 0) pa_nil))) pa_nil)))
      (pss_cons (ps_for PassesOwn.never rfl (pi_enumT rfl B.enumerate (pa_cons (pe_slice sl_tupA (pv 0) (po_some pe_int) po_none) pa_nil)) (pg_tup rfl (pgs_cons (pg_name (i := 2) sc__law_places.nd rfl (Or.inr rfl)) (pgs_cons (pg_name (i := 3) sc__law_places.nd rfl (Or.inl rfl)) pgs_nil))) (pss_one (ps_set (i := 1) sc__law_places.nd rfl (Or.inl rfl) (pe_op op_cat (pv 1) (pe_lc rfl sc__law_places.nd (pi_list (pe_call G__law_places hr__law_places rfl D__law_places.m D__law_places.F.kp D__law_places.b .nil pass0 (pa_cons (pv 3) pa_nil))) (blkOk_by (own := [("place", 4), ("part", 5)]) (N := N__law_places) (sc := defScope s__law_places) (by decide +kernel)) (fun _ _ _ _ _ => (show PG _ _ (gTup K 2 _) from pg_tup rfl (pgs_cons (pg_name (i := 4) sc__law_places.nd rfl (Or.inl rfl)) (pgs_cons (pg_name (i := 5) sc__law_places.nd rfl (Or.inl rfl)) pgs_nil)))) (fun _ _ _ _ _ => pts_nil) (fun _ _ _ _ _ => (pe_tup (pa_cons (pe_op (show OpR _ _ (rCatA K) from op_catA) (pe_tup (pa_cons (pv 2) pa_nil)) (pv 4)) (pa_cons (pv 5) pa_nil)))))))))
      (pss_one (ps_ret (pv 1))))), fun ds C h => ?_⟩
    obtain ⟨t, rfl, hl, hg, hc⟩ := h
    cases t with
    | node n cs =>
    have hlen := len_le_size (n := n) (cs := cs)
    have hgs := hg.size
    refine wpS_seq (wpS_asg (wpE_new (wpN_lst (wpA_cons (wp_tup (wpA_cons (wp_tup (wpA_nil ⟨by decide, wpA_cons (wp_var (d := (Tr.node n cs).d) rfl (wpA_nil ⟨(by show 2 ≤ 100000; decide), wpA_nil ⟨(by show 1 ≤ 100000; decide), ?_⟩⟩))⟩))))))))
    refine wpS_seq (wpS_for (wpI_enumT (wpA_cons (wp_slT (wp_var (d := (Tr.node n cs).d) rfl (wpO_some (wp_int ⟨1, rfl, wpO_none ⟨_, d_node n cs, wpA_nil ⟨_, rfl, ?_⟩⟩⟩)))))))
    rw [cut_tl]
    refine ⟨fun i env => ∃ x y z v : Sl, env = [.dat (Tr.node n cs).d, .dat (.list ((([], .node n cs) :: Tr.plL 0 (cs.take i)).map ppd)), x, y, z, v], ⟨.no, .no, .no, .no, rfl⟩, ?_, ?_⟩
    · rintro i d env e ⟨x, y, z, v, rfl⟩
      have hi : i < cs.length := by
        have z := (List.getElem?_eq_some_iff.mp e).1
        rw [enumD_len, List.length_map] at z
        exact z
      obtain ⟨c, hc'⟩ : ∃ c, cs[i]? = some c := ⟨_, List.getElem?_eq_getElem hi⟩
      rw [enumD_get (d := c.d) (by rw [List.getElem?_map, hc']; rfl)] at e
      have e := (Option.some.inj e).symm
      subst e
      have m : c ∈ cs := List.mem_of_getElem? hc'
      have etk : Tr.plL 0 (cs.take (i + 1)) = Tr.plL 0 (cs.take i) ++ c.pl.map fun q => (i :: q.1, q.2) := by
        rw [List.take_add_one, hc', plL_app, Nat.zero_add, List.length_take, Nat.min_eq_left (Nat.le_of_lt hi)]
        show _ ++ Tr.plL i [c] = _
        rw [plL_one]
      have hz : (Tr.plL 0 (cs.take i)).length + c.pl.length ≤ Tr.sizes cs := by
        have z := sizes_app (cs.take (i + 1)) (cs.drop (i + 1))
        rw [List.take_append_drop, ← plL_len (cs.take (i + 1)) 0, etk, List.length_append, List.length_map] at z
        omega
      have hs2 : (Tr.node n cs).size = 1 + Tr.sizes cs := rfl
      refine ⟨_, gD_tup (gsD_cons gD_name (gsD_cons gD_name gsD_nil)) rfl, wpS_asg (wpE_new (wpN_op (wp_var (d := .list ((([], Tr.node n cs) :: Tr.plL 0 (cs.take i)).map ppd)) rfl (wpE_new (wpN_lc (wpI_list (wp_call (wpA_cons (wp_var (d := c.d) rfl (wpA_nil ⟨c, rfl, lev_child hl m, hg.child m, _, rfl, fun j acc => acc = (c.pl.take j).map fun q => ppd (i :: q.1, q.2), rfl, ?_, ?_⟩))))))))))⟩
      · rintro j d acc e rfl
        rw [List.getElem?_map] at e
        cases hq : c.pl[j]? with
        | none => rw [hq] at e; cases e
        | some q =>
          rw [hq] at e
          have e := (Option.some.inj e).symm
          subst e
          obtain ⟨hql, _⟩ := pl_lev c q (List.mem_of_getElem? hq)
          have hcl := (hg.child m).lev
          refine ⟨_, gD_tup (gsD_cons gD_name (gsD_cons gD_name gsD_nil)) rfl, by simp, wpT_yes ⟨fun _ => ?_, fun z => nomatch z⟩⟩
          refine wp_tup (wpA_cons (wp_op (wp_tup (wpA_cons (wp_var (d := .int (i : Nat)) rfl ?_)))))
          refine wpA_nil ⟨(by show 1 ≤ 100000; decide), ?_⟩
          refine wp_var (d := .tuple (pInts q.1)) rfl (opd_catA ?_ ?_)
          rotate_left
          · refine wpA_cons (wp_var (d := q.2.d) rfl (wpA_nil ⟨(by show 2 ≤ 100000; decide), ?_, ?_⟩))
            · rw [List.length_map, List.length_take]; omega
            · show _ = (c.pl.take (j + 1)).map fun q => ppd (i :: q.1, q.2)
              rw [List.take_add_one, hq, List.map_append]
              rfl
          · unfold pInts
            rw [List.length_map]
            show 1 + _ ≤ _
            omega
      · rintro acc rfl
        rw [List.length_map, List.take_length]
        refine opn_cat ?_ ⟨.dat (.int (i : Nat)), .dat c.d, z, v, ?_⟩
        · rw [List.length_map, List.length_map, List.length_cons]; omega
        · rw [etk]
          show [_, Sl.dat (.list (_ ++ _)), _, _, _, _] = _
          rw [← List.cons_append, List.map_append, List.map_map]
          rfl
    · rintro env ⟨x, y, z, v, rfl⟩
      rw [enumD_len, List.length_map, List.take_length]
      exact wpS_ret (wp_var (d := .list ((Tr.node n cs).pl.map ppd)) rfl hc)
end
end Gr

namespace Gr
open PySem L2 Evl Dn
abbrev N__law_names : List Str := ["feed", "some"]
abbrev P__law_names : List Str := ["feed"]
theorem sc__law_names : FnScope N__law_names P__law_names (defScope s__law_names) := ⟨rfl, rfl, rfl, by decide +kernel, rfl, by decide +kernel, by decide +kernel⟩
abbrev N__law_grow : List Str := ["feed", "names", "nodes", "levels", "way", "many", "rest", "found", "turn", "share"]
abbrev P__law_grow : List Str := ["feed", "names", "nodes", "levels"]
theorem sc__law_grow : FnScope N__law_grow P__law_grow (defScope s__law_grow) := ⟨rfl, rfl, rfl, by decide +kernel, rfl, by decide +kernel, by decide +kernel⟩
abbrev N__law_tree : List Str := ["feed", "names", "nodes"]
abbrev P__law_tree : List Str := ["feed", "names", "nodes"]
theorem sc__law_tree : FnScope N__law_tree P__law_tree (defScope s__law_tree) := ⟨rfl, rfl, rfl, by decide +kernel, rfl, by decide +kernel, by decide +kernel⟩
theorem eqv_rk (t u : Tr) (h : PyData.eqv (rk t) (rk u) = true) : t = u := by
  unfold rk at h
  rw [PyData.eqv, PyData.eqvAll, PyData.eqvAll, Bool.and_eq_true, Bool.and_eq_true] at h
  exact eqv_d t u h.2.1
theorem eqv_rk_self (t : Tr) : PyData.eqv (rk t) (rk t) = true := by
  unfold rk
  rw [PyData.eqv, PyData.eqvAll, PyData.eqvAll, PyData.eqvAll, eqv_self, PyData.eqv]
  simp
theorem Gd.cmp_rk {t : Tr} (h : Gd t) : Dn.cmp (rk t) = true := by
  unfold rk
  refine cmp_tup fun d m => ?_
  rcases List.mem_cons.mp m with e | m
  · subst e
    refine ⟨by simp [Dn.plain], by simp [PyData.canLay0], by simp [PyData.depth]⟩
  · rw [List.mem_singleton.mp m]; exact h.three
theorem Gd.three_rk {t : Tr} (h : Gd t) : Dn.plain (rk t) = true ∧ (rk t).depth ≤ 60 := by
  unfold rk
  have := depth_d t
  have := h.lev
  refine ⟨?_, ?_⟩
  · rw [Dn.plain, plainAll, plainAll, plain_d, plainAll]
    simp [Dn.plain]
  · rw [PyData.depth, PyData.depthAll, PyData.depthAll, PyData.depthAll, PyData.depth]
    omega
section
variable {P : Program} {w : World} {K : Frag} {mg : Str → Option Value} {base : Heap}
def gLO : List PyData → (PyData → Prop) → Prop := fun ds C => ∃ l : List Tr, ds = [.list (dl l)] ∧ (∀ t, t ∈ l → Gd t) ∧ l.length < 50000 ∧ C (.list (dl (ord l)))
theorem rkl_get {l : List Tr} {i : Nat} {d : PyData} (h : (l.map rk)[i]? = some d) : ∃ t, l[i]? = some t ∧ d = rk t := by
  rw [List.getElem?_map] at h
  cases q : l[i]? with
  | none => rw [q] at h; cases h
  | some t => rw [q] at h; exact ⟨t, rfl, (Option.some.inj h).symm⟩
theorem atI_nat' {l : List PyData} {i : Int} {k : Nat} {d : PyData} (e : i = (k : Int)) (h : l[k]? = some d) : atI l i = some d := by
  have hk : k < l.length := (List.getElem?_eq_some_iff.mp h).1
  unfold atI ixN
  rw [e, if_pos (by omega), if_pos (by omega)]
  show l[_]? = _
  rw [Int.toNat_natCast]; exact h
theorem ok_lordered {f f_sz : Addr} {fdt fdt_sz : FuncData} (D : Df K mg "_law_ordered" s__law_ordered P__law_ordered f fdt) (B : Bi mg) (D__law_size : Df K mg "_law_size" s__law_size P__law_size f_sz fdt_sz) : FnOk P w K mg base CX0 22 f fdt P__law_ordered (spP K gLO) := by
  have G__law_size : FnOk P w K mg base CX0 21 _ _ _ _ := ok_size D__law_size B 20
  refine okP D.F sc__law_ordered (fun ds C h => by obtain ⟨l, rfl, _⟩ := h; rfl) (fun cdv A outer s H E hr => ?_)
  have hr__law_size := hr
  have hu := huOf hr
  have hu64 := hr.units
  refine ⟨_, (pss_cons (ps_set (i := 1) sc__law_ordered.nd rfl (Or.inr rfl) (pe_callB (cr_sortD hu) rfl B.sorted (by decide +kernel) (pa_cons (pe_lc rfl sc__law_ordered.nd (pi_list (pv 0)) (blkOk_by (own := [("tree", 3)]) (N := N__law_ordered) (sc := defScope s__law_ordered) (by decide +kernel)) (fun _ _ _ _ _ => (pg_name (i := 3) sc__law_ordered.nd rfl (Or.inl rfl))) (fun _ _ _ _ _ => pts_nil) (fun _ _ _ _ _ => (pe_tup (pa_cons (pe_call G__law_size hr__law_size rfl D__law_size.m D__law_size.F.kp D__law_size.b .nil pass0 (pa_cons (pv 3) pa_nil)) (pa_cons (pv 3) pa_nil))))) pa_nil)))
      (pss_one (ps_ret (pe_lc rfl sc__law_ordered.nd (pi_range1 rfl B.range (pa_cons (pe_callB call_len_seq rfl B.len PySem.boot_len (pa_cons (pv 1) pa_nil)) pa_nil)) (blkOk_by (own := [("k", 2)]) (N := N__law_ordered) (sc := defScope s__law_ordered) (by decide +kernel)) (fun _ _ _ _ _ => (pg_name (i := 2) sc__law_ordered.nd rfl (Or.inl rfl))) (fun _ _ _ _ _ => (pts_one (PW.pt (pw_or (pt_cmpR op_eq (pv 2) pe_int (nomark _)) (pw_or1 (pt_cmpR (show OpR _ _ (rNeD K) from (op_neD hu64)) (pe_ix (show IxR _ (rIxL K) from ix_list) (pv 1) (pv 2) (fun _ _ => rfl)) (pe_ix (show IxR _ (rIxL K) from ix_list) (pv 1) (pe_op op_sub (pv 2) pe_int) (fun _ _ => rfl)) (nomark _))))))) (fun _ _ _ _ _ => (pe_ix (show IxR _ (rIxT K) from ix_tup) (pe_ix (show IxR _ (rIxL K) from ix_list) (pv 1) (pv 2) (fun _ _ => rfl)) pe_int (fun _ _ => rfl))))))), fun ds C h => ?_⟩
  obtain ⟨l, rfl, hg, hz, hc⟩ := h
  refine wpS_seq (wpS_asg (wpE_new (wpN_cb (wpA_cons (wpE_new (wpN_lc (wpI_list (wp_var (d := .list (dl l)) rfl ⟨_, rfl, fun i acc => acc = (l.take i).map rk, rfl, ?_, ?_⟩))))))))
  · rintro i d acc e rfl
    obtain ⟨t, ht, rfl⟩ := dl_get e
    have hgt := hg t (List.mem_of_getElem? ht)
    have hi : i < l.length := (List.getElem?_eq_some_iff.mp ht).1
    refine ⟨_, gD_name, by simp, wpT_yes ⟨fun _ => ?_, fun z => nomatch z⟩⟩
    refine wp_tup (wpA_cons (wp_call (wpA_cons (wp_var (d := t.d) rfl (wpA_nil ⟨t, rfl, hgt.lev, by have := hgt.size; omega, ?_⟩)))))
    refine wpA_cons (wp_var (d := t.d) rfl (wpA_nil ⟨(by show 2 ≤ 100000; decide), ?_, ?_⟩))
    · rw [List.length_map, List.length_take]; omega
    · show _ = (l.take (i + 1)).map rk
      rw [List.take_add_one, ht, List.map_append]
      rfl
  · rintro acc rfl
    rw [dl_len, List.take_length]
    have hS : (l.map rk).mergeSort (PySem.W.dataLe false id) = (srt l).map rk := srt_rk l
    refine wpA_nil (can_sortD (fun d m => ?_) (fun d m d' m' => ?_) (.inl fun d m => ?_) (fun d m => ?_) ?_)
    · obtain ⟨t, ht, rfl⟩ := List.mem_map.mp m
      exact (hg t ht).three_rk.1
    · obtain ⟨t, ht, rfl⟩ := List.mem_map.mp m
      obtain ⟨u, hu, rfl⟩ := List.mem_map.mp m'
      exact alike_rk t u
    · obtain ⟨t, ht, rfl⟩ := List.mem_map.mp m
      exact ⟨_, _, rfl⟩
    · obtain ⟨t, ht, rfl⟩ := List.mem_map.mp m
      exact (hg t ht).three_rk.2
    · rw [hS]
      have hSl := srt_len l
      refine wpS_ret (wpE_new (wpN_lc (wpI_rng1 (wpA_cons (wp_cb (wpA_cons (wp_var (d := .list ((srt l).map rk)) rfl (wpA_nil (cad_lenL (wpA_nil ⟨_, rfl, ?_, ?_, fun i acc => acc = dl (pref (srt l) i), rfl, ?_, ?_⟩))))))))))
      · omega
      · rw [List.length_map]; omega
      · rintro i d acc e rfl
        rw [List.length_map, Int.toNat_natCast] at e
        have hi : i < (srt l).length := by
          have z := (List.getElem?_eq_some_iff.mp e).1
          rw [rng_len] at z
          exact z
        rw [rng_get hi] at e
        have e := (Option.some.inj e).symm
        subst e
        obtain ⟨t, ht⟩ : ∃ t, (srt l)[i]? = some t := ⟨_, List.getElem?_eq_getElem hi⟩
        have hgt : Gd t := hg t (srt_mem.mp (List.mem_of_getElem? ht))
        have hpl := pref_len (srt l) i
        have yes : (i = 0 ∨ ¬ (srt l)[i - 1]? = some t) → dl (pref (srt l) (i + 1)) = dl (pref (srt l) i) ++ [t.d] := fun q => by
          rw [pref_yes ht q]; unfold dl; rw [List.map_append]; rfl
        have hat : atI ((srt l).map rk) (0 + (i : Int)) = some (rk t) := atI_nat' (k := i) (by omega) (by rw [List.getElem?_map, ht]; rfl)
        have elt : ∀ {C : PyData → Prop}, C t.d → wpE K nofd (tOp (rIxT K) (tOp (rIxL K) (tVar 1) (tVar 2)) (tC (.int 1))) (asgE (wipeE [.dat (.list (dl l)), .dat (.list ((srt l).map rk)), .no, .no] [2]) [(2, .int (0 + (i : Int)))]) C := fun c =>
          wp_op (wp_op (wp_var (d := .list ((srt l).map rk)) rfl (wp_var (d := .int (0 + (i : Int))) rfl (opd_ixL hat (wp_int (opd_ixT (d := t.d) rfl c))))))
        refine ⟨_, gD_name, by simp, ?_⟩
        refine wpT_or (wpT_B (wp_op (wp_var (d := .int (0 + (i : Int))) rfl (wp_int (opd_eqI ⟨_, rfl, fun q => ?_, fun q => ?_⟩)))))
        · have h0 : i = 0 := by have := of_decide_eq_true q; omega
          refine ⟨fun _ => elt ⟨?_, ?_⟩, fun z => nomatch z⟩
          · rw [dl_len]; omega
          · exact (yes (.inl h0)).symm
        · have h0 : i ≠ 0 := fun z => of_decide_eq_false q (by omega)
          obtain ⟨v, hv⟩ : ∃ v, (srt l)[i - 1]? = some v := ⟨_, List.getElem?_eq_getElem (by omega)⟩
          have hgv : Gd v := hg v (srt_mem.mp (List.mem_of_getElem? hv))
          have hat2 : atI ((srt l).map rk) (0 + (i : Int) - 1) = some (rk v) := atI_nat' (k := i - 1) (by omega) (by rw [List.getElem?_map, hv]; rfl)
          refine wpT_B (wp_op (wp_op (wp_var (d := .list ((srt l).map rk)) rfl (wp_var (d := .int (0 + (i : Int))) rfl (opd_ixL hat ?_)))))
          refine wp_op (wp_var (d := .list ((srt l).map rk)) rfl (wp_op (wp_var (d := .int (0 + (i : Int))) rfl (wp_int (opd_ii (opd_ixL hat2 (opd_neD hgt.cmp_rk hgv.cmp_rk ⟨_, rfl, fun q => ?_, fun q => ?_⟩)))))))
          · refine elt ⟨?_, ?_⟩
            · rw [dl_len]; omega
            · refine (yes (.inr fun z => ?_)).symm
              rw [hv] at z
              rw [Option.some.inj z, eqv_rk_self] at q
              cases q
          · have e4 : t = v := eqv_rk t v (by simpa using q)
            show _ = dl (pref (srt l) (i + 1))
            rw [pref_no ht h0 (by rw [hv, e4])]
      · rintro acc rfl
        rw [rng_len, List.length_map, Int.toNat_natCast]
        exact hc
end
end Gr

namespace Gr
open PySem L2 Evl Dn
section
variable {P : Program} {w : World} {K : Frag} {mg : Str → Option Value} {base : Heap}
def NM (d : PyData) : Prop := ∃ ns : List Str, d = .list (ns.map PyData.str) ∧ ns.length = 6 ∧ ∀ x, x ∈ ns → nOk x = true
def gNm : List PyData → (PyData → Prop) → Prop := fun ds C => ds = [] ∧ ∀ d, NM d → C d
theorem nm6 (a b c d e f : Str) (h : ([a, b, c, d, e, f].all nOk) = true) : NM (.list [.str a, .str b, .str c, .str d, .str e, .str f]) :=
  ⟨[a, b, c, d, e, f], rfl, rfl, fun x m => List.all_eq_true.mp h x m⟩
theorem ok_names {f f_tk f_pk : Addr} {fdt fdt_tk fdt_pk : FuncData} (D : Df K mg "_law_names" s__law_names P__law_names f fdt) (B : Bi mg) (D__law_take : Df K mg "_law_take" s__law_take P__law_take f_tk fdt_tk) (D__law_pick : Df K mg "_law_pick" s__law_pick P__law_pick f_pk fdt_pk) : FnOk P w K mg base CX0 3 f fdt P__law_names (spF K gNm) := by
  have G__law_pick : FnOk P w K mg base CX0 2 _ _ _ _ := ok_pick D__law_pick B D__law_take
  refine okF D.F sc__law_names (fun ds C h => by obtain ⟨rfl, _⟩ := h; rfl) (fun cdv A outer s H E hr => ?_)
  have hr__law_pick := hr
  refine ⟨_, (pss_cons (ps_set (i := 1) sc__law_names.nd rfl (Or.inl rfl) (pe_lst (pa_cons (pe_lst (pa_cons pe_str (pa_cons pe_str (pa_cons pe_str (pa_cons pe_str (pa_cons pe_str (pa_cons pe_str pa_nil))))))) (pa_cons (pe_lst (pa_cons pe_str (pa_cons pe_str (pa_cons pe_str (pa_cons pe_str (pa_cons pe_str (pa_cons pe_str pa_nil))))))) (pa_cons (pe_lst (pa_cons pe_str (pa_cons pe_str (pa_cons pe_str (pa_cons pe_str (pa_cons pe_str (pa_cons pe_str pa_nil))))))) pa_nil)))))
      (pss_cons (ps_set (i := 1) sc__law_names.nd rfl (Or.inl rfl) (pe_op op_cat (pv 1) (pe_lst (pa_cons (pe_lst (pa_cons pe_str (pa_cons pe_str (pa_cons pe_str (pa_cons pe_str (pa_cons pe_str (pa_cons pe_str pa_nil))))))) (pa_cons (pe_lst (pa_cons pe_str (pa_cons pe_str (pa_cons pe_str (pa_cons pe_str (pa_cons pe_str (pa_cons pe_str pa_nil))))))) pa_nil)))))
      (pss_one (ps_ret (pe_call G__law_pick hr__law_pick rfl D__law_pick.m D__law_pick.F.kp D__law_pick.b .nil pass0 (pa_cons (pv 0) (pa_cons (pe_op op_cat (pv 1) (pe_lst (pa_cons (pe_lst (pa_cons pe_str (pa_cons pe_str (pa_cons pe_str (pa_cons pe_str (pa_cons pe_str (pa_cons pe_str pa_nil))))))) pa_nil))) pa_nil))))))), fun p ds C h => ?_⟩
  obtain ⟨rfl, hc⟩ := h
  refine wpS_seq (wpS_asg (wpE_new (wpN_lst ?_)))
  repeat (first | refine wpA_cons ?_ | refine wp_str ?_ | refine wpE_new (wpN_lst ?_) | refine wpA_nil ⟨by decide, ?_⟩)
  refine wpS_seq (wpS_asg (wpE_new (wpN_op (wp_var (i := 1) rfl (wpE_new (wpN_lst ?_))))))
  repeat (first | refine wpA_cons ?_ | refine wp_str ?_ | refine wpE_new (wpN_lst ?_) | refine wpA_nil ⟨by decide, ?_⟩)
  refine opn_cat (by decide) ?_
  refine wpS_ret (wp_callF rfl rfl (wpA_cons (wpE_new (wpN_op (wp_var (i := 1) rfl (wpE_new (wpN_lst ?_)))))))
  repeat (first | refine wpA_cons ?_ | refine wp_str ?_ | refine wpE_new (wpN_lst ?_) | refine wpA_nil ⟨by decide, ?_⟩)
  refine opn_cat (by decide) (wpA_nil ⟨_, rfl, by simp, by decide, fun d m => hc d ?_⟩)
  simp only [List.cons_append, List.nil_append, List.mem_cons, List.not_mem_nil, or_false] at m
  rcases m with rfl | rfl | rfl | rfl | rfl | rfl <;> exact nm6 _ _ _ _ _ _ (by decide +kernel)
def gGrow (k : Nat) : List PyData → (PyData → Prop) → Prop := fun ds C => ∃ (ns : List Str) (nodes levels : Int), ds = [.list (ns.map PyData.str), .int nodes, .int levels] ∧ ns.length = 6 ∧ (∀ x, x ∈ ns → nOk x = true) ∧ 1 ≤ nodes ∧ nodes ≤ 40 ∧ 1 ≤ levels ∧ levels ≤ k ∧
  ∀ t : Tr, ((t.size : Nat) : Int) ≤ nodes → ((t.lev : Nat) : Int) ≤ levels → t.lay = true → C t.d
theorem no_spF {f : Addr} {fdt : FuncData} {ps : List Str} {G : List PyData → (PyData → Prop) → Prop} {k : Nat} (h : ∀ ds C, ¬ G ds C) : FnOk P w K mg base CX0 k f fdt ps (spF K G) :=
  ⟨fun vs H Q E z => by obtain ⟨p, ws, F, ds, C, _, _, _, _, _, g, _⟩ := z; exact absurd g (h ds C), fun A outer s H args us vs Q E _ _ _ _ z => by obtain ⟨p, ws, F, ds, C, _, _, _, _, _, g, _⟩ := z; exact absurd g (h ds C)⟩
theorem nm_get {ns : List Str} (hl : ns.length = 6) {r : Int} (h0 : 0 ≤ r) (h1 : r < 6) : ∃ n, n ∈ ns ∧ atI (ns.map PyData.str) r = some (.str n) := by
  have hr : r.toNat < ns.length := by omega
  refine ⟨ns[r.toNat], List.getElem_mem _, atI_nat' (k := r.toNat) (by omega) ?_⟩
  rw [List.getElem?_map, List.getElem?_eq_getElem hr]; rfl
theorem levs_snoc : ∀ (fs : List Tr) (t : Tr), Tr.levs (fs ++ [t]) = max (Tr.levs fs) t.lev
  | [], t => by show max t.lev 0 = max 0 t.lev; omega
  | f :: fs, t => by
    show max f.lev (Tr.levs (fs ++ [t])) = max (max f.lev (Tr.levs fs)) t.lev
    rw [levs_snoc fs t]; omega
theorem lays_snoc : ∀ (fs : List Tr) (t : Tr), Tr.lays fs = true → t.lay = true → Tr.lays (fs ++ [t]) = true
  | [], t, _, h => by show Tr.lays [t] = true; rw [Tr.lays, Tr.lays, h]; rfl
  | f :: fs, t, h, q => by
    rw [Tr.lays, Bool.and_eq_true] at h
    show Tr.lays (f :: (fs ++ [t])) = true
    rw [Tr.lays, h.1, lays_snoc fs t h.2 q]; rfl
theorem ok_grow {f f_tk f_pk : Addr} {fdt fdt_tk fdt_pk : FuncData} (D__law_grow : Df K mg "_law_grow" s__law_grow P__law_grow f fdt) (B : Bi mg) (D__law_take : Df K mg "_law_take" s__law_take P__law_take f_tk fdt_tk) (D__law_pick : Df K mg "_law_pick" s__law_pick P__law_pick f_pk fdt_pk) : ∀ k, FnOk P w K mg base CX0 (k + 3) f fdt P__law_grow (spF K (gGrow k))
  | 0 => no_spF fun ds C ⟨ns, nodes, levels, _, _, _, _, _, h1, h2, _⟩ => by omega
  | k + 1 => by
    have G__law_grow := ok_grow D__law_grow B D__law_take D__law_pick k
    have G__law_take : FnOk P w K mg base CX0 1 _ _ _ _ := ok_take D__law_take B
    have G__law_pick : FnOk P w K mg base CX0 2 _ _ _ _ := ok_pick D__law_pick B D__law_take
    refine okF D__law_grow.F sc__law_grow (fun ds C h => by obtain ⟨ns, nodes, levels, rfl, _⟩ := h; rfl) (fun cdv A outer s H E hr => ?_)
    have hr__law_grow := hr
    have hr__law_take := hr.mono (show 1 ≤ k + 3 by omega)
    have hr__law_pick := hr.mono (show 2 ≤ k + 3 by omega)
    refine ⟨_, (pss_cons (ps_set (i := 4) sc__law_grow.nd rfl (Or.inl rfl) (pe_call G__law_take hr__law_take rfl D__law_take.m D__law_take.F.kp D__law_take.b .nil pass0 (pa_cons (pv 0) (pa_cons pe_int pa_nil))))
      (pss_cons (ps_if (PW.pt (pw_or (pt_cmpR op_eq (pv 2) pe_int (nomark _)) (pw_or (pt_cmpR op_eq (pv 3) pe_int (nomark _)) (pw_or1 (pt_cmpR op_eq (pv 4) pe_int (nomark _)))))) (pss_one (ps_ret (pe_tup (pa_cons (pe_ix ix_list (pv 1) (pe_call G__law_take hr__law_take rfl D__law_take.m D__law_take.F.kp D__law_take.b .nil pass0 (pa_cons (pv 0) (pa_cons pe_int pa_nil))) (fun _ _ => rfl)) pa_nil)))) pss_nil)
      (pss_cons (ps_if (PW.pt (pw_or (pt_cmpR op_eq (pv 2) pe_int (nomark _)) (pw_or1 (pt_cmpR op_eq (pv 4) pe_int (nomark _))))) (pss_one (ps_ret (pe_tup (pa_cons (pe_ix ix_list (pv 1) (pe_op op_add pe_int (pe_call G__law_take hr__law_take rfl D__law_take.m D__law_take.F.kp D__law_take.b .nil pass0 (pa_cons (pv 0) (pa_cons pe_int pa_nil)))) (fun _ _ => rfl)) (pa_cons (pe_call G__law_grow hr__law_grow rfl D__law_grow.m D__law_grow.F.kp D__law_grow.b .nil pass0 (pa_cons (pv 0) (pa_cons (pv 1) (pa_cons (pe_op op_sub (pv 2) pe_int) (pa_cons (pe_op op_sub (pv 3) pe_int) pa_nil))))) pa_nil))))) pss_nil)
      (pss_cons (ps_par3 (i := 5) (j := 6) (l := 7) (by rfl) sc__law_grow.nd rfl rfl rfl (by decide) (by decide) (by decide) rfl rfl rfl (pa_cons (pe_callB (call_min2 rfl) rfl B.min (by decide +kernel) (pa_cons (pe_call G__law_pick hr__law_pick rfl D__law_pick.m D__law_pick.F.kp D__law_pick.b .nil pass0 (pa_cons (pv 0) (pa_cons (pe_lst (pa_cons pe_int (pa_cons pe_int (pa_cons pe_int (pa_cons pe_int (pa_cons pe_int pa_nil)))))) pa_nil))) (pa_cons (pe_op op_sub (pv 2) pe_int) pa_nil))) (pa_cons (pe_op op_sub (pv 2) pe_int) (pa_cons (pe_tup pa_nil) pa_nil))) (by rfl))
      (pss_cons (ps_for PassesOwn.never rfl (pi_range1 rfl B.range (pa_cons (pv 5) pa_nil)) (pg_name (i := 8) sc__law_grow.nd rfl (Or.inl rfl)) (pss_cons (ps_set (i := 9) sc__law_grow.nd rfl (Or.inl rfl) (pe_op op_add pe_int (pe_call G__law_take hr__law_take rfl D__law_take.m D__law_take.F.kp D__law_take.b .nil pass0 (pa_cons (pv 0) (pa_cons (pe_op op_add (pe_op op_sub (pv 6) (pe_op op_sub (pv 5) (pv 8))) pe_int) pa_nil)))))
      (pss_cons (ps_set (i := 7) sc__law_grow.nd rfl (Or.inl rfl) (pe_op op_catA (pv 7) (pe_tup (pa_cons (pe_call G__law_grow hr__law_grow rfl D__law_grow.m D__law_grow.F.kp D__law_grow.b .nil pass0 (pa_cons (pv 0) (pa_cons (pv 1) (pa_cons (pv 9) (pa_cons (pe_op op_sub (pv 3) pe_int) pa_nil))))) pa_nil))))
      (pss_one (ps_set (i := 6) sc__law_grow.nd rfl (Or.inl rfl) (pe_op op_sub (pv 6) (pv 9)))))))
      (pss_one (ps_ret (pe_op op_catA (pe_tup (pa_cons (pe_ix ix_list (pv 1) pe_int (fun _ _ => rfl)) pa_nil)) (pv 7))))))))), fun p ds C h => ?_⟩
    obtain ⟨ns, nodes, levels, rfl, hn, hs, h1, h2, h3, h4, hc⟩ := h
    refine wpS_seq (wpS_asg (wp_callF rfl rfl (wpA_cons (wp_int (wpA_nil ⟨4, rfl, by decide, by decide, fun way w0 w1 => ?_⟩)))))
    have leaf : ∀ {P : Po}, (∀ d, C d → P.rt d) → wpS K (fun a => a = p) (tRet (tTup (tCons (tOp (rIxL K) (tVar 1) (tCall (spF K gTake) [] E0 (tCons (tVar 0) (tCons (tC (.int 3)) tNil)))) tNil))) [.fed p, .dat (.list (ns.map PyData.str)), .dat (.int nodes), .dat (.int levels), .dat (.int way), .no, .no, .no, .no, .no] P := fun hp => by
      refine wpS_ret (wp_tup (wpA_cons (wp_op (wp_var (d := .list (ns.map PyData.str)) rfl (wp_callF rfl rfl (wpA_cons (wp_int (wpA_nil ⟨3, rfl, by decide, by decide, fun r r0 r1 => ?_⟩))))))))
      obtain ⟨n, hm, e⟩ := nm_get hn r0 (show r < 6 by omega)
      refine opd_ixL e (wpA_nil ⟨(by show 1 ≤ 100000; decide), hp _ (hc (.node n []) ?_ ?_ ?_)⟩)
      · show ((1 + 0 : Nat) : Int) ≤ nodes; omega
      · show ((1 + 0 : Nat) : Int) ≤ levels; omega
      · rw [Tr.lay, Tr.lays, hs n hm]; rfl
    refine wpS_seq (wpS_if ?_)
    refine wpT_or (wpT_test (wp_op (wp_var (d := .int nodes) rfl (wp_int (opd_eqI ⟨_, rfl, fun q => ⟨fun _ => leaf fun d c => c, fun z => nomatch z⟩, fun q1 => ?_⟩)))))
    refine wpT_or (wpT_test (wp_op (wp_var (d := .int levels) rfl (wp_int (opd_eqI ⟨_, rfl, fun q => ⟨fun _ => leaf fun d c => c, fun z => nomatch z⟩, fun q2 => ?_⟩)))))
    refine wpT_test (wp_op (wp_var (d := .int way) rfl (wp_int (opd_eqI ⟨_, rfl, fun q => leaf fun d c => c, fun q3 => ?_⟩))))
    have n1 : nodes ≠ 1 := of_decide_eq_false q1
    have n2 : levels ≠ 1 := of_decide_eq_false q2
    refine wpS_next ?_
    have twig : ∀ {P : Po}, (∀ d, C d → P.rt d) → wpS K (fun a => a = p) (tRet (tTup (tCons (tOp (rIxL K) (tVar 1) (tOp (rI0 fun i j => .int (i + j)) (tC (.int 3)) (tCall (spF K gTake) [] E0 (tCons (tVar 0) (tCons (tC (.int 2)) tNil))))) (tCons (tCall (spF K (gGrow k)) [] E0 (tCons (tVar 0) (tCons (tVar 1) (tCons (tOp (rI0 fun i j => .int (i - j)) (tVar 2) (tC (.int 1))) (tCons (tOp (rI0 fun i j => .int (i - j)) (tVar 3) (tC (.int 1))) tNil))))) tNil)))) [.fed p, .dat (.list (ns.map PyData.str)), .dat (.int nodes), .dat (.int levels), .dat (.int way), .no, .no, .no, .no, .no] P := fun hp => by
      refine wpS_ret (wp_tup (wpA_cons (wp_op (wp_var (d := .list (ns.map PyData.str)) rfl (wp_op (wp_int (wp_callF rfl rfl (wpA_cons (wp_int (wpA_nil ⟨2, rfl, by decide, by decide, fun r r0 r1 => opd_ii ?_⟩))))))))))
      obtain ⟨n, hm, e⟩ := nm_get hn (show 0 ≤ 3 + r by omega) (show 3 + r < 6 by omega)
      refine opd_ixL e (wpA_cons (wp_callF rfl rfl (wpA_cons (wp_var (d := .list (ns.map PyData.str)) rfl (wpA_cons (wp_op (wp_var (d := .int nodes) rfl (wp_int (opd_ii (wpA_cons (wp_op (wp_var (d := .int levels) rfl (wp_int (opd_ii (wpA_nil ⟨ns, nodes - 1, levels - 1, rfl, hn, hs, by omega, by omega, by omega, by omega, fun t t1 t2 t3 => ?_⟩)))))))))))))))
      refine wpA_nil ⟨(by show 2 ≤ 100000; decide), hp _ (hc (.node n [t]) ?_ ?_ ?_)⟩
      · show ((1 + (t.size + 0) : Nat) : Int) ≤ nodes; omega
      · show ((1 + max t.lev 0 : Nat) : Int) ≤ levels; omega
      · rw [Tr.lay, Tr.lays, Tr.lays, hs n hm, t3]; rfl
    refine wpS_seq (wpS_if ?_)
    refine wpT_or (wpT_test (wp_op (wp_var (d := .int nodes) rfl (wp_int (opd_eqI ⟨_, rfl, fun q => ⟨fun _ => twig fun d c => c, fun z => nomatch z⟩, fun q4 => ?_⟩)))))
    refine wpT_test (wp_op (wp_var (d := .int way) rfl (wp_int (opd_eqI ⟨_, rfl, fun q => twig fun d c => c, fun q5 => ?_⟩))))
    have n3 : nodes ≠ 2 := of_decide_eq_false q4
    refine wpS_next ?_
    refine wpS_seq (wpS_par3 (wp_cb (wpA_cons (wp_callF rfl rfl (wpA_cons (wpE_new (wpN_lst ?_)))))))
    repeat (first | refine wpA_cons ?_ | refine wp_int ?_ | refine wpA_nil ⟨by decide, ?_⟩)
    refine wpA_nil ⟨_, rfl, by simp, by decide, fun d m => ?_⟩
    have hm : ∃ j : Int, d = .int j ∧ 2 ≤ j ∧ j ≤ 4 := by
      simp only [List.mem_cons, List.not_mem_nil, or_false] at m
      rcases m with rfl | rfl | rfl | rfl | rfl <;> exact ⟨_, rfl, by decide, by decide⟩
    obtain ⟨j, rfl, j1, j2⟩ := hm
    refine wpA_cons (wp_op (wp_var (d := .int nodes) rfl (wp_int (opd_ii (wpA_nil (cad_min2 ?_))))))
    obtain ⟨many, hmany⟩ : ∃ many, many = if nodes - 1 < j then nodes - 1 else j := ⟨_, rfl⟩
    rw [← hmany]
    have hm1 : 2 ≤ many ∧ many ≤ nodes - 1 ∧ many ≤ 4 := by split at hmany <;> omega
    obtain ⟨m1, m2, m3⟩ := hm1
    refine wp_op (wp_var (d := .int nodes) rfl (wp_int (opd_ii (wp_tup (wpA_nil ⟨by decide, ?_⟩)))))
    refine wpS_seq (wpS_for (wpI_rng1 (wpA_cons (wp_var (d := .int many) rfl (wpA_nil ⟨many, rfl, by omega, by omega, ?_⟩)))))
    refine ⟨fun i env => ∃ (fs : List Tr) (rest : Int) (x y : Sl), env = [.fed p, .dat (.list (ns.map PyData.str)), .dat (.int nodes), .dat (.int levels), .dat (.int way), .dat (.int many), .dat (.int rest), .dat (.tuple (dl fs)), x, y] ∧ fs.length = i ∧ ((Tr.sizes fs : Nat) : Int) + rest ≤ nodes - 1 ∧ many - i ≤ rest ∧ ((Tr.levs fs : Nat) : Int) ≤ levels - 1 ∧ Tr.lays fs = true, ⟨[], nodes - 1, .no, .no, rfl, rfl, ?_, ?_, ?_, rfl⟩, ?_, ?_⟩
    · show ((0 : Nat) : Int) + _ ≤ _; omega
    · omega
    · show ((0 : Nat) : Int) ≤ _; omega
    · rintro i d env e ⟨fs, rest, x, y, rfl, hi, hz, hr1, hlv, hly⟩
      have hlt : i < many.toNat := by
        have z := (List.getElem?_eq_some_iff.mp e).1
        rw [rng_len] at z
        exact z
      rw [rng_get hlt] at e
      have e := (Option.some.inj e).symm
      subst e
      refine ⟨_, gD_name, wpS_seq (wpS_asg ?_)⟩
      refine wp_op (wp_int (wp_callF rfl rfl (wpA_cons ?_)))
      refine wp_op (wp_op (wp_var (d := .int rest) rfl (wp_op (wp_var (d := .int many) rfl (wp_var (d := .int (0 + (i : Int))) rfl (opd_ii (opd_ii (wp_int (opd_ii ?_)))))))))
      refine wpA_nil ⟨_, rfl, by omega, by omega, fun r r0 r1 => opd_ii ?_⟩
      refine wpS_seq (wpS_asg (wp_op (wp_var (d := .tuple (dl fs)) rfl (wp_tup (wpA_cons ?_)))))
      refine wp_callF rfl rfl (wpA_cons (wp_var (d := .list (ns.map PyData.str)) rfl (wpA_cons (wp_var (d := .int (1 + r)) rfl (wpA_cons (wp_op (wp_var (d := .int levels) rfl (wp_int (opd_ii ?_)))))))))
      refine wpA_nil ⟨ns, 1 + r, levels - 1, rfl, hn, hs, by omega, by omega, by omega, by omega, fun t t1 t2 t3 => ?_⟩
      refine wpA_nil ⟨(by show 1 ≤ 100000; decide), opd_catA ?_ ?_⟩
      · rw [dl_len]; show _ + 1 ≤ _; omega
      refine wpS_asg (wp_op (wp_var (d := .int rest) rfl (wp_var (d := .int (1 + r)) rfl (opd_ii ?_))))
      refine ⟨fs ++ [t], rest - (1 + r), .dat (.int (0 + (i : Int))), .dat (.int (1 + r)), ?_, ?_, ?_, ?_, ?_, ?_⟩
      · unfold dl; rw [List.map_append]; rfl
      · rw [List.length_append, hi]; rfl
      · rw [sizes_app]
        have : Tr.sizes [t] = t.size := Nat.add_zero _
        omega
      · omega
      · rw [levs_snoc]; omega
      · exact lays_snoc fs t hly t3
    · rintro env ⟨fs, rest, x, y, rfl, hi, hz, hr1, hlv, hly⟩
      rw [rng_len] at hi hr1
      obtain ⟨n, hm, e⟩ := nm_get hn (show (0 : Int) ≤ 5 by decide) (by decide)
      refine wpS_ret (wp_op (wp_tup (wpA_cons (wp_op (wp_var (d := .list (ns.map PyData.str)) rfl (wp_int (opd_ixL e ?_)))))))
      refine wpA_nil ⟨(by show 1 ≤ 100000; decide), wp_var (d := .tuple (dl fs)) rfl (opd_catA ?_ ?_)⟩
      · rw [dl_len]; show 1 + _ ≤ _; omega
      have z := hc (.node n fs) ?_ ?_ ?_
      · rw [d_node] at z; exact z
      · show ((1 + Tr.sizes fs : Nat) : Int) ≤ nodes; omega
      · show ((1 + Tr.levs fs : Nat) : Int) ≤ levels; omega
      · rw [Tr.lay, hs n hm, hly, decide_eq_true (show fs.length ≤ 4 by omega)]; rfl
end
end Gr

namespace Gr
open PySem L2 Evl Dn
abbrev N_law : List Str := ["script", "k", "feed", "names", "tree", "due", "turn", "found", "trees", "shown"]
abbrev P_law : List Str := ["script"]
theorem sc_law : FnScope N_law P_law (defScope s_law) := ⟨rfl, rfl, rfl, by decide +kernel, rfl, by decide +kernel, by decide +kernel⟩
theorem cut_none (l : List PyData) (b : Option Int) : ∀ d, d ∈ cut l none b → d ∈ l := fun d m => List.mem_of_mem_drop (List.mem_of_mem_take m)
theorem cut_dl (l : List Tr) (a b : Option Int) : cut (dl l) a b = dl (cut l a b) := by
  unfold cut dl
  rw [List.length_map, List.map_take, List.map_drop]
theorem cut_mem {l : List Tr} {a b : Option Int} {t : Tr} (m : t ∈ cut l a b) : t ∈ l := List.mem_of_mem_drop (List.mem_of_mem_take m)
theorem cut_le {α : Type} (l : List α) (a b : Option Int) : (cut l a b).length ≤ l.length := by
  unfold cut
  rw [List.length_take, List.length_drop]
  omega
theorem cut_m1 (l : List PyData) (d : PyData) : cut (l ++ [d]) none (some (-1)) = l := by
  unfold cut
  have e1 : HT.sIx (l ++ [d]).length 0 none = 0 := rfl
  have e2 : HT.sIx (l ++ [d]).length (l ++ [d]).length (some (-1)) = l.length := by
    show (if (-1 : Int) < 0 then ((-1 : Int) + ((l ++ [d]).length : Int)).toNat else min (-1 : Int).toNat (l ++ [d]).length) = _
    rw [if_pos (by decide), List.length_append, List.length_singleton]
    omega
  rw [e1, e2, List.drop_zero, Nat.sub_zero, List.take_left' rfl]
section
variable {P : Program} {w : World} {K : Frag} {mg : Str → Option Value} {base : Heap}
def gFeed : List PyData → (List PyData → Prop) → Prop := fun ds C => ∃ (ns : List Int) (k : Int), ds = [given (ns.map PyData.int), .int k] ∧ ns.length ≤ 63 ∧ 0 ≤ k ∧ k ≤ 1000 ∧ ∀ d m : Int, 0 ≤ d → 0 ≤ m → m < 4294967311 → C [.int d, .int m]
theorem cut_map (ns : List Int) (a b : Option Int) : cut (ns.map PyData.int) a b = (cut ns a b).map PyData.int := by
  unfold cut
  rw [List.length_map, List.map_take, List.map_drop]
theorem cut_len (ns : List Int) (a b : Option Int) : (cut ns a b).length ≤ ns.length := by
  unfold cut
  rw [List.length_take, List.length_drop]
  omega
theorem ok_feed {f : Addr} {fdt : FuncData} (D : Df K mg "_law_feed" s__law_feed P__law_feed f fdt) (B : Bi mg) : FnOk P w K mg base CX0 1 f fdt P__law_feed (spN K gFeed) := by
  refine okN D.F sc__law_feed (fun ds C h => by obtain ⟨ns, k, rfl, _⟩ := h; rfl) (fun cdv A outer s H E hr => ?_)
  refine ⟨_, (pss_cons (ps_set (i := 2) sc__law_feed.nd rfl (Or.inl rfl) (pe_ix ix_list (pe_op op_cat (pe_callTy call_list_of rfl B.list (by decide +kernel) (pa_cons (pe_slice sl_list (pv 0) (po_some (pv 1)) (po_some (pe_op op_add (pv 1) pe_int))) pa_nil)) (pe_lst (pa_cons (pe_op op_add (pe_op op_mul pe_int (pv 1)) pe_int) pa_nil))) pe_int (fun _ _ => rfl)))
      (pss_cons (ps_set (i := 3) sc__law_feed.nd rfl (Or.inl rfl) (pe_callB (call_max2 rfl) rfl B.max (by decide +kernel) (pa_cons pe_int (pa_cons (pe_op op_sub (pe_callB call_abs rfl B.abs (by decide +kernel) (pa_cons (pv 2) pa_nil)) (pe_op op_pow pe_int pe_int)) pa_nil))))
      (pss_one (ps_ret (pe_lst (pa_cons (pv 3) (pa_cons (pe_op op_modN (pe_callTy call_int1 rfl B.int (by decide +kernel) (pa_cons (pe_op op_add (pe_op op_add (pe_op op_mul (pe_op op_modN (pe_callTy call_int1 rfl B.int (by decide +kernel) (pa_cons (pe_callB call_abs rfl B.abs (by decide +kernel) (pa_cons (pv 2) pa_nil)) pa_nil)) pe_int) pe_int) (pe_op op_mul pe_int (pv 1))) pe_int) pa_nil)) pe_int) pa_nil))))))), fun ds C h => ?_⟩
  obtain ⟨ns, k, rfl, hn, h0, h1, hc⟩ := h
  refine wpS_seq (wpS_asg (wp_op (wpE_new (wpN_op (wpE_new (wpN_cb (wpA_cons (wpE_new (wpN_slG (wp_var (d := given (ns.map PyData.int)) rfl ?_))))))))))
  refine wpO_some (wp_var (d := .int k) rfl ⟨_, rfl, wpO_some (wp_op (wp_var (d := .int k) rfl (wp_int (opd_ii ⟨_, rfl, _, rfl, ?_⟩))))⟩)
  refine wpA_nil (can_listL (wpE_new (wpN_lst (wpA_cons (wp_op (wp_op (wp_int (wp_var (d := .int k) rfl (opd_I ?_ (wp_int (opd_ii ?_)))))))))))
  · exact .inl (by decide)
  refine wpA_nil ⟨(by show 1 ≤ 100000; decide), opn_cat ?_ (wp_int ?_)⟩
  · rw [cut_map, List.length_map]
    have := cut_len ns (some k) (some (k + 1))
    show _ + 1 ≤ _
    omega
  obtain ⟨s, hs⟩ : ∃ s : Int, atI (cut (ns.map PyData.int) (some k) (some (k + 1)) ++ [PyData.int (71 * k + 23)]) 0 = some (.int s) := by
    rw [cut_map]
    cases cut ns (some k) (some (k + 1)) with
    | nil => exact ⟨_, rfl⟩
    | cons a r => exact ⟨a, atI_nat' (k := 0) rfl rfl⟩
  refine opd_ixL hs ?_
  refine wpS_seq (wpS_asg (wp_cb (wpA_cons (wp_int (wpA_cons (wp_op (wp_cb (wpA_cons (wp_var (d := .int s) rfl (wpA_nil (cad_abs (wp_op (wp_int (wp_int (opd_I ?_ (opd_ii (wpA_nil (cad_max2 ?_))))))))))))))))))
  · exact ⟨by decide, by decide, by decide⟩
  generalize hD : (if (if s < 0 then -s else s) - 10 ^ (18 : Int).toNat > 0 then (if s < 0 then -s else s) - 10 ^ (18 : Int).toNat else 0) = dg
  have hdg : 0 ≤ dg := by split at hD <;> omega
  refine wpS_retNew (wpN_lst (wpA_cons (wp_var (d := .int dg) rfl (wpA_cons (wp_op (wp_cb (wpA_cons (wp_op (wp_op (wp_op (wp_op (wp_cb (wpA_cons (wp_cb (wpA_cons (wp_var (d := .int s) rfl (wpA_nil (cad_abs (wpA_nil (cad_int (wp_int (opd_I (by decide) (wp_int (opd_I ?_ (wp_op (wp_int (wp_var (d := .int k) rfl (opd_I ?_ (opd_ii (wp_int (opd_ii (wpA_nil (cad_int (wp_int (opd_I (by decide) (wpA_nil ⟨(by show 2 ≤ 100000; decide), hc _ _ hdg ?_ ?_⟩))))))))))))))))))))))))))))))))))))
  · exact .inr (by decide)
  · exact .inl (by decide)
  · exact (fmod_in (by decide)).1
  · have := (fmod_in (a := (if s < 0 then -s else s).fmod 1000003 * 7919 + 31 * k + 17) (b := 1000033) (by decide)).2
    omega
def gTree : List PyData → (PyData → Prop) → Prop := fun ds C => ∃ (ns : List Str) (nodes : Int), ds = [.list (ns.map PyData.str), .int nodes] ∧ ns.length = 6 ∧ (∀ x, x ∈ ns → nOk x = true) ∧ 1 ≤ nodes ∧ nodes ≤ 40 ∧ ∀ t : Tr, ((t.size : Nat) : Int) ≤ nodes → t.lev ≤ 6 → t.lay = true → C t.d
theorem ok_tree {f f_gr f_tk f_pk : Addr} {fdt fdt_gr fdt_tk fdt_pk : FuncData} (D : Df K mg "_law_tree" s__law_tree P__law_tree f fdt) (B : Bi mg) (D__law_grow : Df K mg "_law_grow" s__law_grow P__law_grow f_gr fdt_gr) (D__law_take : Df K mg "_law_take" s__law_take P__law_take f_tk fdt_tk) (D__law_pick : Df K mg "_law_pick" s__law_pick P__law_pick f_pk fdt_pk) : FnOk P w K mg base CX0 10 f fdt P__law_tree (spF K gTree) := by
  have G__law_grow : FnOk P w K mg base CX0 9 _ _ _ _ := ok_grow D__law_grow B D__law_take D__law_pick 6
  refine okF D.F sc__law_tree (fun ds C h => by obtain ⟨ns, nodes, rfl, _⟩ := h; rfl) (fun cdv A outer s H E hr => ?_)
  have hr__law_grow := hr
  refine ⟨_, (pss_one (ps_ret (pe_call G__law_grow hr__law_grow rfl D__law_grow.m D__law_grow.F.kp D__law_grow.b .nil pass0 (pa_cons (pv 0) (pa_cons (pv 1) (pa_cons (pv 2) (pa_cons pe_int pa_nil))))))), fun p ds C h => ?_⟩
  obtain ⟨ns, nodes, rfl, hn, hs, h1, h2, hc⟩ := h
  refine wpS_ret (wp_callF rfl rfl (wpA_cons (wp_var (d := .list (ns.map PyData.str)) rfl (wpA_cons (wp_var (d := .int nodes) rfl (wpA_cons (wp_int (wpA_nil ⟨ns, nodes, 6, rfl, hn, hs, h1, h2, by decide, by decide, fun t t1 t2 t3 => hc t (by omega) (by omega) t3⟩))))))))
end
end Gr

namespace Gr
open PySem L2 Evl Dn
section
variable {P : Program} {w : World} {K : Frag} {mg : Str → Option Value} {base : Heap}
def gLaw : List PyData → (PyData → Prop) → Prop := fun ds C => ∃ ns : List Int, ds = [given (ns.map PyData.int)] ∧ ns.length ≤ 63 ∧ C (.bool true)
theorem eqv_same {d : PyData} (h : Dn.cmp d = true) : PyData.eqv d d = true := by
  unfold Dn.cmp at h
  rw [Bool.and_eq_true] at h
  exact SeqAt.eqv_refl d (SeqAt.canLay_of_shaped h.2)
theorem pl_cmp {t : Tr} (h : Gd t) : Dn.cmp (PyData.list (t.pl.map ppd)) = true := cmp_list fun d m => by
  obtain ⟨q, hq, rfl⟩ := List.mem_map.mp m
  have h3 := ((pl_lev t q hq).2 h).three
  unfold ppd
  have e1 : Dn.plain (.tuple (pInts q.1)) = true ∧ (PyData.tuple (pInts q.1)).canLay0 = true ∧ (PyData.tuple (pInts q.1)).depth ≤ 1 := by
    have a : ∀ d, d ∈ pInts q.1 → ∃ n : Int, d = .int n := fun d m => by
      obtain ⟨n, _, e⟩ := List.mem_map.mp m
      exact ⟨_, e.symm⟩
    refine ⟨?_, ?_, ?_⟩
    · rw [Dn.plain]; exact plainAll_of fun d m => by obtain ⟨n, rfl⟩ := a d m; simp [Dn.plain]
    · rw [PyData.canLay0]; exact layAll_of fun d m => by obtain ⟨n, rfl⟩ := a d m; simp [PyData.canLay0]
    · rw [PyData.depth]
      have := depthAll_of (n := 0) fun d m => by obtain ⟨n, rfl⟩ := a d m; simp [PyData.depth]
      omega
  have h4 := depth_d q.2
  have h5 := ((pl_lev t q hq).2 h).lev
  refine ⟨?_, ?_, ?_⟩
  · rw [Dn.plain, plainAll, plainAll, plainAll, e1.1, h3.1]; rfl
  · rw [PyData.canLay0, PyData.canLayAll0, PyData.canLayAll0, PyData.canLayAll0, e1.2.1, h3.2.1]; rfl
  · have := e1.2.2
    rw [PyData.depth, PyData.depthAll, PyData.depthAll, PyData.depthAll]
    omega
theorem flat_one {α : Type} (x : α) : ∀ n : Nat, (List.replicate n [x]).flatten = List.replicate n x
  | 0 => rfl
  | n + 1 => by rw [List.replicate_succ, List.flatten_cons, flat_one x n]; rfl
theorem sizes_rep (u : Tr) : ∀ n : Nat, Tr.sizes (List.replicate n u) = n * u.size
  | 0 => by rw [Nat.zero_mul]; rfl
  | n + 1 => by
    show u.size + Tr.sizes (List.replicate n u) = _
    rw [sizes_rep u n, Nat.succ_mul, Nat.add_comm]
theorem levs_rep (u : Tr) : ∀ n : Nat, Tr.levs (List.replicate n u) ≤ u.lev
  | 0 => Nat.zero_le _
  | n + 1 => by
    have := levs_rep u n
    show max u.lev (Tr.levs (List.replicate n u)) ≤ _
    omega
theorem lays_rep {u : Tr} (h : u.lay = true) : ∀ n : Nat, Tr.lays (List.replicate n u) = true
  | 0 => rfl
  | n + 1 => by
    show Tr.lays (u :: List.replicate n u) = true
    rw [Tr.lays, h, lays_rep h n]; rfl
theorem ok_law {f f_feed f_names f_tree f_pick f_take f_grow f_size f_lsize f_places f_lplaces f_lord f_lparts f_parts f_ord f_ev f_rk f_po : Addr} {fdt d_feed d_names d_tree d_pick d_take d_grow d_size d_lsize d_places d_lplaces d_lord d_lparts d_parts d_ord d_ev d_rk d_po : FuncData}
    (D : Df K mg "law" s_law P_law f fdt) (B : Bi mg) (D__law_feed : Df K mg "_law_feed" s__law_feed P__law_feed f_feed d_feed) (D__law_names : Df K mg "_law_names" s__law_names P__law_names f_names d_names) (D__law_tree : Df K mg "_law_tree" s__law_tree P__law_tree f_tree d_tree)
    (D__law_pick : Df K mg "_law_pick" s__law_pick P__law_pick f_pick d_pick) (D__law_take : Df K mg "_law_take" s__law_take P__law_take f_take d_take) (D__law_grow : Df K mg "_law_grow" s__law_grow P__law_grow f_grow d_grow) (D_size : Df K mg "size" s_size P_size f_size d_size) (D__law_size : Df K mg "_law_size" s__law_size P__law_size f_lsize d_lsize)
    (D_places : Df K mg "places" s_places P_places f_places d_places) (D__law_places : Df K mg "_law_places" s__law_places P__law_places f_lplaces d_lplaces) (D__law_ordered : Df K mg "_law_ordered" s__law_ordered P__law_ordered f_lord d_lord) (D__law_parts : Df K mg "_law_parts" s__law_parts P__law_parts f_lparts d_lparts)
    (D_parts : Df K mg "parts" s_parts P_parts f_parts d_parts) (D_ordered : Df K mg "ordered" s_ordered P_ordered f_ord d_ord) (D_every_part : Df K mg "every_part" s_every_part P_every_part f_ev d_ev) (D_rank : Df K mg "rank" s_rank P_rank f_rk d_rk) (D_parts_of : Df K mg "parts_of" s_parts_of P_parts_of f_po d_po) :
    FnOk P w K mg base CX0 23 f fdt P_law (spP K gLaw) := by
  have G__law_feed : FnOk P w K mg base CX0 1 _ _ _ _ := ok_feed D__law_feed B
  have G__law_names : FnOk P w K mg base CX0 3 _ _ _ _ := ok_names D__law_names B D__law_take D__law_pick
  have G__law_tree : FnOk P w K mg base CX0 10 _ _ _ _ := ok_tree D__law_tree B D__law_grow D__law_take D__law_pick
  have G__law_pick : FnOk P w K mg base CX0 2 _ _ _ _ := ok_pick D__law_pick B D__law_take
  have G__law_take : FnOk P w K mg base CX0 1 _ _ _ _ := ok_take D__law_take B
  have G__law_grow : FnOk P w K mg base CX0 8 _ _ _ _ := ok_grow D__law_grow B D__law_take D__law_pick 5
  have G_size : FnOk P w K mg base CX0 2 _ _ _ _ := ok_sz D_size B D_every_part
  have G__law_size : FnOk P w K mg base CX0 21 _ _ _ _ := ok_size D__law_size B 20
  have G_places : GFn P w K mg base 1 _ _ _ _ := ok_places D_places B
  have G__law_places : FnOk P w K mg base CX0 21 _ _ _ _ := ok_lplaces D__law_places B 20
  have G__law_ordered : FnOk P w K mg base CX0 22 _ _ _ _ := ok_lordered D__law_ordered B D__law_size
  have G__law_parts : FnOk P w K mg base CX0 21 _ _ _ _ := ok_lparts D__law_parts B 20
  have G_parts : FnOk P w K mg base CX0 8 _ _ _ _ := ok_parts D_parts B D_every_part D_size D_rank D_ordered D_parts_of
  have G_ordered : FnOk P w K mg base CX0 6 _ _ _ _ := ok_ordered D_ordered B D_every_part D_size D_rank
  refine okP D.F sc_law (fun ds C h => by obtain ⟨ns, rfl, _⟩ := h; rfl) (fun cdv A outer s H E hr => ?_)
  have hr__law_feed := hr.mono (show 1 ≤ 22 by decide)
  have hr__law_names := hr.mono (show 3 ≤ 22 by decide)
  have hr__law_tree := hr.mono (show 10 ≤ 22 by decide)
  have hr__law_pick := hr.mono (show 2 ≤ 22 by decide)
  have hr__law_take := hr.mono (show 1 ≤ 22 by decide)
  have hr__law_grow := hr.mono (show 8 ≤ 22 by decide)
  have hr_size := hr.mono (show 2 ≤ 22 by decide)
  have hr__law_size := hr.mono (show 21 ≤ 22 by decide)
  have hr_places := hr.mono (show 1 ≤ 22 by decide)
  have hr3_places := hr.mono (show 4 ≤ 22 by decide)
  have hr__law_places := hr.mono (show 21 ≤ 22 by decide)
  have hr__law_ordered := hr
  have hr__law_parts := hr.mono (show 21 ≤ 22 by decide)
  have hr_parts := hr.mono (show 8 ≤ 22 by decide)
  have hr_ordered := hr.mono (show 6 ≤ 22 by decide)
  have hu64 := hr.units
  have hu := huOf hr
  refine ⟨_, (pss_cons (ps_for PassesOwn.never rfl (pi_range1 rfl B.range (pa_cons (pe_callB (call_max2 rfl) rfl B.max (by decide +kernel) (pa_cons pe_int (pa_cons (pe_callB (call_min2 rfl) rfl B.min (by decide +kernel) (pa_cons pe_int (pa_cons (pe_callB call_len_seq rfl B.len PySem.boot_len (pa_cons (pv 0) pa_nil)) pa_nil))) pa_nil))) pa_nil)) (pg_name (i := 1) sc_law.nd rfl (Or.inl rfl)) (pss_cons (ps_set (i := 2) sc_law.nd rfl (Or.inr rfl) (pe_call G__law_feed hr__law_feed rfl D__law_feed.m D__law_feed.F.kp D__law_feed.b .nil pass0 (pa_cons (pv 0) (pa_cons (pv 1) pa_nil))))
      (pss_cons (ps_set (i := 3) sc_law.nd rfl (Or.inr rfl) (pe_call G__law_names hr__law_names rfl D__law_names.m D__law_names.F.kp D__law_names.b .nil pass0 (pa_cons (pv 2) pa_nil)))
      (pss_cons (ps_set (i := 4) sc_law.nd rfl (Or.inl rfl) (pe_call G__law_tree hr__law_tree rfl D__law_tree.m D__law_tree.F.kp D__law_tree.b .nil pass0 (pa_cons (pv 2) (pa_cons (pv 3) (pa_cons (pe_call G__law_pick hr__law_pick rfl D__law_pick.m D__law_pick.F.kp D__law_pick.b .nil pass0 (pa_cons (pv 2) (pa_cons (pe_lst (pa_cons pe_int (pa_cons pe_int (pa_cons pe_int (pa_cons pe_int pa_nil))))) pa_nil))) pa_nil)))))
      (pss_cons (ps_if (pt_cmpR op_eq (pe_call G__law_take hr__law_take rfl D__law_take.m D__law_take.F.kp D__law_take.b .nil pass0 (pa_cons (pv 2) (pa_cons pe_int pa_nil))) pe_int (nomark _)) (pss_one (ps_set (i := 4) sc_law.nd rfl (Or.inl rfl) (pe_op op_catA (pe_tup (pa_cons (pe_ix ix_list (pv 3) pe_int (fun _ _ => rfl)) pa_nil)) (pe_op op_repU (pe_tup (pa_cons (pe_call G__law_grow hr__law_grow rfl D__law_grow.m D__law_grow.F.kp D__law_grow.b .nil pass0 (pa_cons (pv 2) (pa_cons (pv 3) (pa_cons pe_int (pa_cons pe_int pa_nil))))) pa_nil)) (pe_op op_add pe_int (pe_call G__law_take hr__law_take rfl D__law_take.m D__law_take.F.kp D__law_take.b .nil pass0 (pa_cons (pv 2) (pa_cons pe_int pa_nil)))))))) (pss_one (ps_if (pt_cmpR op_eq (pe_call G__law_take hr__law_take rfl D__law_take.m D__law_take.F.kp D__law_take.b .nil pass0 (pa_cons (pv 2) (pa_cons pe_int pa_nil))) pe_int (nomark _)) (pss_one (ps_set (i := 4) sc_law.nd rfl (Or.inl rfl) (pe_op op_catA (pe_tup (pa_cons (pe_ix ix_list (pv 3) pe_int (fun _ _ => rfl)) pa_nil)) (pe_callTy call_tuple_of rfl B.tuple (by decide +kernel) (pa_cons (pe_lc rfl sc_law.nd (pi_range1 rfl B.range (pa_cons (pe_op op_add pe_int (pe_call G__law_take hr__law_take rfl D__law_take.m D__law_take.F.kp D__law_take.b .nil pass0 (pa_cons (pv 2) (pa_cons pe_int pa_nil)))) pa_nil)) (blkOk_by (own := [("turn", 6)]) (N := N_law) (sc := defScope s_law) (by decide +kernel)) (fun _ _ _ _ _ => (pg_name (i := 6) sc_law.nd rfl (Or.inl rfl))) (fun _ _ _ _ _ => pts_nil) (fun _ _ _ _ _ => (pe_call G__law_grow hr__law_grow rfl D__law_grow.m D__law_grow.F.kp D__law_grow.b .nil pass0 (pa_cons (pv 2) (pa_cons (pv 3) (pa_cons pe_int (pa_cons pe_int pa_nil))))))) pa_nil))))) pss_nil)))
      (pss_cons (ps_if (PW.pt (pw_or (pt_cmpR op_ne (pe_callB SkE.call_repr_int rfl B.repr (by decide +kernel) (pa_cons (pe_call G_size hr_size rfl D_size.m D_size.F.kp D_size.b .nil pass0 (pa_cons (pv 4) pa_nil)) pa_nil)) (pe_callB SkE.call_repr_int rfl B.repr (by decide +kernel) (pa_cons (pe_call G__law_size hr__law_size rfl D__law_size.m D__law_size.F.kp D__law_size.b .nil pass0 (pa_cons (pv 4) pa_nil)) pa_nil)) (nomark _)) (pw_or1 (pt_cmpR (op_neD hu64) (pe_listG (pgen_call (E := fun _ _ _ => False) G_places hr_places rfl D_places.m D_places.F.kp D_places.b .nil (pa_cons (pv 4) pa_nil)) passF nostopF hr3_places rfl B.list (by decide +kernel)) (pe_call G__law_places hr__law_places rfl D__law_places.m D__law_places.F.kp D__law_places.b .nil pass0 (pa_cons (pv 4) pa_nil)) (nomark _))))) (pss_one (ps_ret pe_bl)) pss_nil)
      (pss_cons (ps_set (i := 5) sc_law.nd rfl (Or.inl rfl) (pe_call G__law_ordered hr__law_ordered rfl D__law_ordered.m D__law_ordered.F.kp D__law_ordered.b .nil pass0 (pa_cons (pe_call G__law_parts hr__law_parts rfl D__law_parts.m D__law_parts.F.kp D__law_parts.b .nil pass0 (pa_cons (pv 4) pa_nil)) pa_nil)))
      (pss_cons (ps_for PassesOwn.never rfl (pi_range1 rfl B.range (pa_cons pe_int pa_nil)) (pg_name (i := 6) sc_law.nd rfl (Or.inl rfl)) (pss_cons (ps_set (i := 7) sc_law.nd rfl (Or.inl rfl) (pe_call G_parts hr_parts rfl D_parts.m D_parts.F.kp D_parts.b .nil pass0 (pa_cons (pv 4) pa_nil)))
      (pss_cons (ps_if (pt_cmpR (op_neD hu64) (pv 7) (pv 5) (nomark _)) (pss_one (ps_ret pe_bl)) pss_nil)
      (pss_one (ps_expr (pe_bm PySem.F.plainAttrs_list PySem.F.slot_list_append PySem.F.type_list_append mt_append (pv 7) (pa_cons pe_non pa_nil)))))))
      (pss_cons (ps_setLc (i := 8) rfl sc_law.nd rfl rfl (sw_true rfl rfl rfl (by decide +kernel)) (pi_range1 rfl B.range (pa_cons (pe_call G__law_take hr__law_take rfl D__law_take.m D__law_take.F.kp D__law_take.b .nil pass0 (pa_cons (pv 2) (pa_cons pe_int pa_nil))) pa_nil)) (blkOk_by (own := [("turn", 6)]) (N := N_law) (sc := defScope s_law) (by decide +kernel)) (fun _ _ _ _ _ => (pg_name (i := 6) sc_law.nd rfl (Or.inl rfl))) (fun _ _ _ _ _ => pts_nil) (fun _ _ _ _ _ => (pe_call G__law_tree hr__law_tree rfl D__law_tree.m D__law_tree.F.kp D__law_tree.b .nil pass0 (pa_cons (pv 2) (pa_cons (pv 3) (pa_cons (pe_op op_add pe_int (pe_call G__law_take hr__law_take rfl D__law_take.m D__law_take.F.kp D__law_take.b .nil pass0 (pa_cons (pv 2) (pa_cons pe_int pa_nil)))) pa_nil))))))
      (pss_cons (ps_set (i := 8) sc_law.nd rfl (Or.inl rfl) (pe_op op_cat (pv 8) (pe_slice sl_list (pv 8) po_none (po_some (pe_call G__law_take hr__law_take rfl D__law_take.m D__law_take.F.kp D__law_take.b .nil pass0 (pa_cons (pv 2) (pa_cons pe_int pa_nil)))))))
      (pss_cons (ps_par (i := 9) (j := 7) (by rfl) sc_law.nd rfl rfl (by decide) rfl rfl (pa_cons (pe_callTy call_list_of rfl B.list (by decide +kernel) (pa_cons (pv 8) pa_nil)) (pa_cons (pe_call G_ordered hr_ordered rfl D_ordered.m D_ordered.F.kp D_ordered.b .nil pass0 (pa_cons (pv 8) pa_nil)) pa_nil)) (by rfl))
      (pss_cons (ps_if (PW.pt (pw_or (pt_cmpR (op_neD hu64) (pv 7) (pe_call G__law_ordered hr__law_ordered rfl D__law_ordered.m D__law_ordered.F.kp D__law_ordered.b .nil pass0 (pa_cons (pv 8) pa_nil)) (nomark _)) (pw_or1 (pt_cmpR (op_neD hu64) (pv 8) (pv 9) (nomark _))))) (pss_one (ps_ret pe_bl)) pss_nil)
      (pss_cons (ps_expr (pe_bm PySem.F.plainAttrs_list PySem.F.slot_list_append PySem.F.type_list_append mt_append (pv 7) (pa_cons pe_non pa_nil)))
      (pss_one (ps_if (PW.pt (pw_or (pt_cmpR (op_neD hu64) (pv 8) (pv 9) (nomark _)) (pw_or1 (pt_cmpR (op_neD hu64) (pe_call G_ordered hr_ordered rfl D_ordered.m D_ordered.F.kp D_ordered.b .nil pass0 (pa_cons (pv 8) pa_nil)) (pe_slice sl_list (pv 7) po_none (po_some (pe_un un_neg pe_int))) (nomark _))))) (pss_one (ps_ret pe_bl)) pss_nil)))))))))))))))
      (pss_one (ps_ret pe_bl))), fun ds C h => ?_⟩
  obtain ⟨ns, rfl, hn, hc⟩ := h
  refine wpS_seq (wpS_for (wpI_rng1 (wpA_cons (wp_cb (wpA_cons (wp_int (wpA_cons (wp_cb (wpA_cons (wp_int (wpA_cons (wp_cb (wpA_cons (wp_var (d := given (ns.map PyData.int)) rfl (wpA_nil (cad_lenG (wpA_nil (cad_min2 (wpA_nil (cad_max2 (wpA_nil ?_)))))))))))))))))))))
  rw [List.length_map]
  generalize hJ : (if (if ((ns.length : Nat) : Int) < 3 then ((ns.length : Nat) : Int) else 3) > 1 then (if ((ns.length : Nat) : Int) < 3 then ((ns.length : Nat) : Int) else 3) else 1) = jj
  have hjj : 1 ≤ jj ∧ jj ≤ 3 := by
    split at hJ
    · split at hJ <;> omega
    · omega
  refine ⟨jj, rfl, by omega, by omega, fun i env => env = [.dat (given (ns.map PyData.int)), .no, .no, .no, .no, .no, .no, .no, .no, .no], rfl, ?_, ?_⟩
  · rintro i d env e rfl
    have hlt : i < jj.toNat := by
      have z := (List.getElem?_eq_some_iff.mp e).1
      rw [rng_len] at z
      exact z
    rw [rng_get hlt] at e
    have e := (Option.some.inj e).symm
    subst e
    refine ⟨_, gD_name, ?_⟩
    refine wpS_feed (wpN_call (wpA_cons (wp_var (d := given (ns.map PyData.int)) rfl (wpA_cons (wp_var (d := .int (0 + (i : Int))) rfl (wpA_nil ⟨ns, 0 + (i : Int), rfl, hn, by omega, by omega, fun dd m hd hm hm2 => ⟨dd, m, rfl, hd, hm, hm2, fun p => ?_⟩⟩))))))
    refine wpS_seq (wpS_asg (wp_callF rfl rfl (wpA_nil ⟨rfl, fun nd hnd => ?_⟩)))
    obtain ⟨nm, rfl, hnl, hno⟩ := hnd
    refine wpS_seq (wpS_asg (wp_callF rfl rfl (wpA_cons (wp_var (d := .list (nm.map PyData.str)) rfl (wpA_cons (wp_callF rfl rfl (wpA_cons (wpE_new (wpN_lst ?_)))))))))
    repeat (first | refine wpA_cons ?_ | refine wp_int ?_ | refine wpA_nil ⟨by decide, ?_⟩)
    refine wpA_nil ⟨_, rfl, by simp, by decide, fun d m => ?_⟩
    have hm : ∃ j : Int, d = .int j ∧ 1 ≤ j ∧ j ≤ 40 := by
      simp only [List.mem_cons, List.not_mem_nil, or_false] at m
      rcases m with rfl | rfl | rfl | rfl <;> exact ⟨_, rfl, by decide, by decide⟩
    obtain ⟨j, rfl, j1, j2⟩ := hm
    refine wpA_nil ⟨nm, j, rfl, hnl, hno, j1, j2, fun t t1 t2 t3 => ?_⟩
    have hgt : Gd t := ⟨by omega, by omega, t3⟩
    obtain ⟨n4, hn4, hat4⟩ := nm_get hnl (show (0 : Int) ≤ 4 by decide) (by decide)
    refine wpS_cut (R := fun e => ∃ (t : Tr) (x : Sl), Gd t ∧ e = [.dat (given (ns.map PyData.int)), .dat (.int (0 + (i : Int))), .fed p, .dat (.list (nm.map PyData.str)), .dat t.d, .no, x, .no, .no, .no]) ?_ ?_
    · refine wpS_if (wpT_test (wp_op (wp_callF rfl rfl (wpA_cons (wp_int (wpA_nil ⟨3, rfl, by decide, by decide, fun r r0 r1 => wp_int (opd_eqI ⟨_, rfl, fun q => ?_, fun q => ?_⟩)⟩))))))
      · refine wpS_asg (wp_op (wp_tup (wpA_cons (wp_op (wp_var (d := .list (nm.map PyData.str)) rfl (wp_int (opd_ixL hat4 ?_)))))))
        refine wpA_nil ⟨(by show 1 ≤ 100000; decide), wp_op (wp_tup (wpA_cons (wp_callF rfl rfl (wpA_cons (wp_var (d := .list (nm.map PyData.str)) rfl (wpA_cons (wp_int (wpA_cons (wp_int ?_)))))))))⟩
        refine wpA_nil ⟨nm, 9, 5, rfl, hnl, hno, by decide, by decide, by decide, by decide, fun u u1 u2 u3 => ?_⟩
        refine wpA_nil ⟨(by show 1 ≤ 100000; decide), wp_op (wp_int (wp_callF rfl rfl (wpA_cons (wp_int (wpA_nil ⟨4, rfl, by decide, by decide, fun r2 r3 r4 => opd_ii (opd_repU (by simp) (by omega) (by omega) (by show 1 ≤ 1000; decide) ?_)⟩)))))⟩
        obtain ⟨c, hc2⟩ : ∃ c : Nat, c = (1 + r2).toNat := ⟨_, rfl⟩
        have hcl : c ≤ 4 := by omega
        have hcs : c * u.size ≤ 4 * 9 := Nat.mul_le_mul hcl (by omega)
        rw [← hc2, flat_one]
        have hlv := levs_rep u c
        refine opd_catA ?_ ⟨.node n4 (List.replicate c u), .no, ⟨?_, ?_, ?_⟩, ?_⟩
        · rw [List.length_replicate]; show 1 + _ ≤ _; omega
        · show 1 + _ ≤ 20; omega
        · show 1 + _ < 400; rw [sizes_rep]; omega
        · rw [Tr.lay, hno n4 hn4, lays_rep u3 c, decide_eq_true (show (List.replicate c u).length ≤ 4 by rw [List.length_replicate]; omega)]; rfl
        · rw [d_node, List.map_replicate]; rfl
      · refine wpS_if (wpT_test (wp_op (wp_callF rfl rfl (wpA_cons (wp_int (wpA_nil ⟨3, rfl, by decide, by decide, fun r r0 r1 => wp_int (opd_eqI ⟨_, rfl, fun q => ?_, fun q => ?_⟩)⟩))))))
        · refine wpS_asg (wp_op (wp_tup (wpA_cons (wp_op (wp_var (d := .list (nm.map PyData.str)) rfl (wp_int (opd_ixL hat4 ?_)))))))
          refine wpA_nil ⟨(by show 1 ≤ 100000; decide), wp_cb (wpA_cons (wpE_new (wpN_lc (wpI_rng1 (wpA_cons (wp_op (wp_int (wp_callF rfl rfl (wpA_cons (wp_int (wpA_nil ⟨2, rfl, by decide, by decide, fun r2 r3 r4 => opd_ii (wpA_nil ⟨3 + r2, rfl, by omega, by omega, fun i2 acc => ∃ L : List Tr, acc = dl L ∧ L.length = i2 ∧ Tr.sizes L ≤ 6 * i2 ∧ Tr.levs L ≤ 5 ∧ Tr.lays L = true, ⟨[], rfl, rfl, Nat.zero_le _, Nat.zero_le _, rfl⟩, ?_, ?_⟩)⟩)))))))))))⟩
          · rintro i2 d acc e ⟨L, rfl, h1, h2, h3, h4⟩
            have hlt2 : i2 < (3 + r2).toNat := by
              have z := (List.getElem?_eq_some_iff.mp e).1
              rw [rng_len] at z
              exact z
            refine ⟨_, gD_name, by simp, wpT_yes ⟨fun _ => ?_, fun z => nomatch z⟩⟩
            refine wp_callF rfl rfl (wpA_cons (wp_var (d := .list (nm.map PyData.str)) rfl (wpA_cons (wp_int (wpA_cons (wp_int (wpA_nil ⟨nm, 6, 5, rfl, hnl, hno, by decide, by decide, by decide, by decide, fun u u1 u2 u3 => ⟨?_, L ++ [u], ?_, ?_, ?_, ?_, ?_⟩⟩)))))))
            · rw [dl_len]; omega
            · unfold dl; rw [List.map_append]; rfl
            · rw [List.length_append, h1]; rfl
            · rw [sizes_app]
              have : Tr.sizes [u] = u.size := Nat.add_zero _
              omega
            · rw [levs_snoc]; omega
            · exact lays_snoc L u h4 u3
          · rintro acc ⟨L, rfl, h1, h2, h3, h4⟩
            rw [rng_len] at h1 h2
            refine wpA_nil (cad_tupL (opd_catA ?_ ⟨.node n4 L, .no, ⟨?_, ?_, ?_⟩, ?_⟩))
            · rw [dl_len]; show 1 + _ ≤ _; omega
            · show 1 + _ ≤ 20; omega
            · show 1 + _ < 400; omega
            · rw [Tr.lay, hno n4 hn4, h4, decide_eq_true (show L.length ≤ 4 by omega)]; rfl
            · rw [d_node]; rfl
        · exact wpS_next ⟨t, .no, hgt, rfl⟩
    · rintro env ⟨t, x, hgt, rfl⟩
      have hsz := hgt.size
      have hpc := pl_cmp hgt
      have hlog : ((t.size : Nat) : Int).natAbs.log2 < 1920 := by
        rw [Int.natAbs_natCast]
        have : t.size.log2 ≤ t.size := Nat.log2_le_self _
        omega
      refine wpS_seq (wpS_if (wpT_or (wpT_test (wp_op (wp_cb (wpA_cons (wp_call (wpA_cons (wp_var (d := t.d) rfl (wpA_nil ⟨t, rfl, by omega, wpA_nil (cad_reprI hlog ?_)⟩))))))))))
      refine wp_cb (wpA_cons (wp_call (wpA_cons (wp_var (d := t.d) rfl (wpA_nil ⟨t, rfl, hgt.lev, by omega, wpA_nil (cad_reprI hlog (opd_neS ⟨_, rfl, fun q => ?_, fun _ => ?_⟩))⟩)))))
      · rw [decide_eq_true rfl] at q; cases q
      refine wpT_test (wp_op (wpE_new (wpN_listG (wpA_cons (wp_var (d := t.d) rfl (wpA_nil ⟨t, rfl, hgt, wp_call (wpA_cons (wp_var (d := t.d) rfl (wpA_nil ⟨t, rfl, hgt.lev, hgt, opd_neD hpc hpc ⟨_, rfl, fun q => ?_, fun _ => ?_⟩⟩)))⟩))))))
      · rw [eqv_same hpc] at q; cases q
      refine wpS_next ?_
      have hpg : ∀ u, u ∈ t.parts → Gd u := fun u m => part_gd hgt m
      have hdc : Dn.cmp (PyData.list (dl (ord t.parts))) = true := Gd.list fun u m => hpg u (ord_mem m)
      have hpl := parts_len t
      have hol := ord_len t.parts
      refine wpS_seq (wpS_asg (wp_call (wpA_cons (wp_call (wpA_cons (wp_var (d := t.d) rfl (wpA_nil ⟨t, rfl, hgt.lev, hgt, wpA_nil ⟨t.parts, rfl, hpg, by omega, ?_⟩⟩)))))))
      refine wpS_seq (wpS_for (wpI_rng1 (wpA_cons (wp_int (wpA_nil ⟨2, rfl, by decide, by decide, fun i2 e => ∃ x y : Sl, e = [.dat (given (ns.map PyData.int)), .dat (.int (0 + (i : Int))), .fed p, .dat (.list (nm.map PyData.str)), .dat t.d, .dat (.list (dl (ord t.parts))), x, y, .no, .no], ⟨x, .no, rfl⟩, ?_, ?_⟩)))))
      · rintro i2 d env e ⟨x, y, rfl⟩
        refine ⟨_, gD_name, ?_⟩
        refine wpS_seq (wpS_own (wpN_call (wpA_cons (wp_var (d := t.d) rfl (wpA_nil ⟨t, rfl, hgt, fun q => ?_⟩)))))
        refine wpS_seq (wpS_if (wpT_unown (wpT_test (wp_op (wp_var (d := .list (dl (ord t.parts))) rfl (wp_var (d := .list (dl (ord t.parts))) rfl (opd_neD hdc hdc ⟨_, rfl, fun z => ?_, fun _ => ?_⟩)))))))
        · rw [eqv_same hdc] at z; cases z
        refine wpS_next (wpS_append (p := q) (ds := dl (ord t.parts)) rfl (by rw [dl_len]; omega) (wp_non ⟨.dat d, .own q (dl (ord t.parts) ++ [.none]), rfl⟩))
      · rintro env ⟨x, y, rfl⟩
        refine wpS_seq (wpS_asg (wpE_new (wpN_lc (wpI_rng1 (wpA_cons (wp_callF rfl rfl (wpA_cons (wp_int (wpA_nil ⟨12, rfl, by decide, by decide, fun r r0 r1 => wpA_nil ⟨r, rfl, by omega, by omega, fun i2 acc => ∃ L : List Tr, acc = dl L ∧ L.length = i2 ∧ ∀ u, u ∈ L → Gd u, ⟨[], rfl, rfl, fun u m => nomatch m⟩, ?_, ?_⟩⟩)))))))))
        · rintro i2 d acc e ⟨L, rfl, h1, h2⟩
          have hlt2 : i2 < r.toNat := by
            have z := (List.getElem?_eq_some_iff.mp e).1
            rw [rng_len] at z
            exact z
          refine ⟨_, gD_name, by simp, wpT_yes ⟨fun _ => ?_, fun z => nomatch z⟩⟩
          refine wp_callF rfl rfl (wpA_cons (wp_var (d := .list (nm.map PyData.str)) rfl (wpA_cons (wp_op (wp_int (wp_callF rfl rfl (wpA_cons (wp_int (wpA_nil ⟨6, rfl, by decide, by decide, fun r5 r6 r7 => opd_ii ?_⟩)))))))))
          refine wpA_nil ⟨nm, 1 + r5, rfl, hnl, hno, by omega, by omega, fun u u1 u2 u3 => ⟨?_, L ++ [u], ?_, ?_, fun v m => ?_⟩⟩
          · rw [dl_len]; omega
          · unfold dl; rw [List.map_append]; rfl
          · rw [List.length_append, h1]; rfl
          · rcases List.mem_append.mp m with m | m
            · exact h2 v m
            · rw [List.mem_singleton.mp m]; exact ⟨by omega, by omega, u3⟩
        · rintro acc ⟨L, rfl, h1, h2⟩
          rw [rng_len] at h1
          refine wpS_seq (wpS_asg (wpE_new (wpN_op (wp_var (d := .list (dl L)) rfl (wpE_new (wpN_sl (wp_var (d := .list (dl L)) rfl (wpO_none (wpO_some (wp_callF rfl rfl (wpA_cons (wp_int (wpA_nil ⟨4, rfl, by decide, by decide, fun r5 r6 r7 => ⟨r5, rfl, _, rfl, ?_⟩⟩)))))))))))))
          have hcl := cut_le L none (some r5)
          rw [cut_dl]
          refine opn_cat (by rw [dl_len, dl_len]; omega) ?_
          have e : dl L ++ dl (cut L none (some r5)) = dl (L ++ cut L none (some r5)) := by unfold dl; rw [List.map_append]
          rw [e]
          obtain ⟨M, hM⟩ : ∃ M, M = L ++ cut L none (some r5) := ⟨_, rfl⟩
          rw [← hM]
          have hg : ∀ u, u ∈ M → Gd u := fun u m => by
            rw [hM] at m
            rcases List.mem_append.mp m with m | m
            · exact h2 u m
            · exact h2 u (cut_mem m)
          have hMl : M.length < 100 := by rw [hM, List.length_append]; omega
          have hoM := ord_len M
          have hmc : Dn.cmp (PyData.list (dl M)) = true := Gd.list hg
          have hoc : Dn.cmp (PyData.list (dl (ord M))) = true := Gd.list fun u m => hg u (ord_mem m)
          refine wpS_seq (wpS_parO (wpE_new (wpN_cb (wpA_cons (wp_var (d := .list (dl M)) rfl (wpA_nil (can_listL (wpN_call (wpA_cons (wp_var (d := .list (dl M)) rfl (wpA_nil ⟨M, rfl, hg, by omega, fun q => ?_⟩)))))))))))
          refine wpS_seq (wpS_if (wpT_unown (wpT_or (wpT_test (wp_op (wp_var (d := .list (dl (ord M))) rfl (wp_call (wpA_cons (wp_var (d := .list (dl M)) rfl (wpA_nil ⟨M, rfl, hg, by omega, opd_neD hoc hoc ⟨_, rfl, fun z => ?_, fun _ => ?_⟩⟩))))))))))
          · rw [eqv_same hoc] at z; cases z
          refine wpT_test (wp_op (wp_var (d := .list (dl M)) rfl (wp_var (d := .list (dl M)) rfl (opd_neD hmc hmc ⟨_, rfl, fun z => ?_, fun _ => ?_⟩))))
          · rw [eqv_same hmc] at z; cases z
          refine wpS_next ?_
          refine wpS_seq (wpS_append (p := q) (ds := dl (ord M)) rfl (by rw [dl_len]; omega) (wp_non ?_))
          refine wpS_if (wpT_unown (wpT_or (wpT_test (wp_op (wp_var (d := .list (dl M)) rfl (wp_var (d := .list (dl M)) rfl (opd_neD hmc hmc ⟨_, rfl, fun z => ?_, fun _ => ?_⟩)))))))
          · rw [eqv_same hmc] at z; cases z
          refine wpT_test (wp_op (wpE_new (wpN_call (wpA_cons (wp_var (d := .list (dl M)) rfl (wpA_nil ⟨M, rfl, hg, by omega, wpE_new (wpN_sl (wp_var (d := .list (dl (ord M) ++ [.none])) rfl (wpO_none (wpO_some (wp_un (wp_int (und_neg ⟨-1, rfl, _, rfl, ?_⟩)))))))⟩))))))
          rw [cut_m1]
          refine opd_neD hoc hoc ⟨_, rfl, fun z => ?_, fun _ => wpS_next rfl⟩
          rw [eqv_same hoc] at z; cases z
  · rintro env rfl
    exact wpS_ret (wp_bl hc)
end
theorem all_mk {l : PySem.W.OpenLaw} {w : World} {K : PySem.W.Frag} {h : Heap} {mg : Str → Option Value} {fa f0 f1 f2 f3 f4 f5 f6 f7 f8 f9 f10 f11 f12 f13 f14 f15 f16 f17 : Addr} (X : K.In h) (G : h.Ns mainGlobals mg) (hfa : mg "law" = some (.ref fa))
    {od0 an0 od1 an1 od2 an2 od3 an3 od4 an4 od5 an5 od6 an6 od7 an7 od8 an8 od9 an9 od10 an10 od11 an11 od12 an12 od13 an13 od14 an14 od15 an15 od16 an16 od17 an17 : Option Addr} {sl0 sl1 sl2 sl3 sl4 sl5 sl6 sl7 sl8 sl9 sl10 sl11 sl12 sl13 sl14 sl15 sl16 sl17 : Array (Option Value)} {oc0 kV0 dc0 pm0 cd0 ct0 oc1 kV1 dc1 pm1 cd1 ct1 oc2 kV2 dc2 pm2 cd2 ct2 oc3 kV3 dc3 pm3 cd3 ct3 oc4 kV4 dc4 pm4 cd4 ct4 oc5 kV5 dc5 pm5 cd5 ct5 oc6 kV6 dc6 pm6 cd6 ct6 oc7 kV7 dc7 pm7 cd7 ct7 oc8 kV8 dc8 pm8 cd8 ct8 oc9 kV9 dc9 pm9 cd9 ct9 oc10 kV10 dc10 pm10 cd10 ct10 oc11 kV11 dc11 pm11 cd11 ct11 oc12 kV12 dc12 pm12 cd12 ct12 oc13 kV13 dc13 pm13 cd13 ct13 oc14 kV14 dc14 pm14 cd14 ct14 oc15 kV15 dc15 pm15 cd15 ct15 oc16 kV16 dc16 pm16 cd16 ct16 oc17 kV17 dc17 pm17 cd17 ct17 : Value}
    (a0 : PySem.W.nsIn K mainGlobals "every_part" = some (some (.ref f0))) (l0 : K.lookup f0 = some ⟨oc0, od0, .func (PySem.W.fnOf "every_part" "every_part" (defArgs s_every_part) (defBody s_every_part) (defScope s_every_part) .none kV0 dc0 pm0 an0 cd0 ct0), sl0⟩) (c0 : PySem.W.codeIn K cd0 "every_part" = true) (k0 : PySem.W.keepIn K (.ref f0) = true)
    (a1 : PySem.W.nsIn K mainGlobals "size" = some (some (.ref f1))) (l1 : K.lookup f1 = some ⟨oc1, od1, .func (PySem.W.fnOf "size" "size" (defArgs s_size) (defBody s_size) (defScope s_size) .none kV1 dc1 pm1 an1 cd1 ct1), sl1⟩) (c1 : PySem.W.codeIn K cd1 "size" = true) (k1 : PySem.W.keepIn K (.ref f1) = true)
    (a2 : PySem.W.nsIn K mainGlobals "rank" = some (some (.ref f2))) (l2 : K.lookup f2 = some ⟨oc2, od2, .func (PySem.W.fnOf "rank" "rank" (defArgs s_rank) (defBody s_rank) (defScope s_rank) .none kV2 dc2 pm2 an2 cd2 ct2), sl2⟩) (c2 : PySem.W.codeIn K cd2 "rank" = true) (k2 : PySem.W.keepIn K (.ref f2) = true)
    (a3 : PySem.W.nsIn K mainGlobals "ordered" = some (some (.ref f3))) (l3 : K.lookup f3 = some ⟨oc3, od3, .func (PySem.W.fnOf "ordered" "ordered" (defArgs s_ordered) (defBody s_ordered) (defScope s_ordered) .none kV3 dc3 pm3 an3 cd3 ct3), sl3⟩) (c3 : PySem.W.codeIn K cd3 "ordered" = true) (k3 : PySem.W.keepIn K (.ref f3) = true)
    (a4 : PySem.W.nsIn K mainGlobals "parts_of" = some (some (.ref f4))) (l4 : K.lookup f4 = some ⟨oc4, od4, .func (PySem.W.fnOf "parts_of" "parts_of" (defArgs s_parts_of) (defBody s_parts_of) (defScope s_parts_of) .none kV4 dc4 pm4 an4 cd4 ct4), sl4⟩) (c4 : PySem.W.codeIn K cd4 "parts_of" = true) (k4 : PySem.W.keepIn K (.ref f4) = true)
    (a5 : PySem.W.nsIn K mainGlobals "parts" = some (some (.ref f5))) (l5 : K.lookup f5 = some ⟨oc5, od5, .func (PySem.W.fnOf "parts" "parts" (defArgs s_parts) (defBody s_parts) (defScope s_parts) .none kV5 dc5 pm5 an5 cd5 ct5), sl5⟩) (c5 : PySem.W.codeIn K cd5 "parts" = true) (k5 : PySem.W.keepIn K (.ref f5) = true)
    (a6 : PySem.W.nsIn K mainGlobals "places" = some (some (.ref f6))) (l6 : K.lookup f6 = some ⟨oc6, od6, .func (PySem.W.fnOf "places" "places" (defArgs s_places) (defBody s_places) (defScope s_places) .none kV6 dc6 pm6 an6 cd6 ct6), sl6⟩) (c6 : PySem.W.codeIn K cd6 "places" = true) (k6 : PySem.W.keepIn K (.ref f6) = true)
    (a7 : PySem.W.nsIn K mainGlobals "_law_feed" = some (some (.ref f7))) (l7 : K.lookup f7 = some ⟨oc7, od7, .func (PySem.W.fnOf "_law_feed" "_law_feed" (defArgs s__law_feed) (defBody s__law_feed) (defScope s__law_feed) .none kV7 dc7 pm7 an7 cd7 ct7), sl7⟩) (c7 : PySem.W.codeIn K cd7 "_law_feed" = true) (k7 : PySem.W.keepIn K (.ref f7) = true)
    (a8 : PySem.W.nsIn K mainGlobals "_law_take" = some (some (.ref f8))) (l8 : K.lookup f8 = some ⟨oc8, od8, .func (PySem.W.fnOf "_law_take" "_law_take" (defArgs s__law_take) (defBody s__law_take) (defScope s__law_take) .none kV8 dc8 pm8 an8 cd8 ct8), sl8⟩) (c8 : PySem.W.codeIn K cd8 "_law_take" = true) (k8 : PySem.W.keepIn K (.ref f8) = true)
    (a9 : PySem.W.nsIn K mainGlobals "_law_pick" = some (some (.ref f9))) (l9 : K.lookup f9 = some ⟨oc9, od9, .func (PySem.W.fnOf "_law_pick" "_law_pick" (defArgs s__law_pick) (defBody s__law_pick) (defScope s__law_pick) .none kV9 dc9 pm9 an9 cd9 ct9), sl9⟩) (c9 : PySem.W.codeIn K cd9 "_law_pick" = true) (k9 : PySem.W.keepIn K (.ref f9) = true)
    (a10 : PySem.W.nsIn K mainGlobals "_law_names" = some (some (.ref f10))) (l10 : K.lookup f10 = some ⟨oc10, od10, .func (PySem.W.fnOf "_law_names" "_law_names" (defArgs s__law_names) (defBody s__law_names) (defScope s__law_names) .none kV10 dc10 pm10 an10 cd10 ct10), sl10⟩) (c10 : PySem.W.codeIn K cd10 "_law_names" = true) (k10 : PySem.W.keepIn K (.ref f10) = true)
    (a11 : PySem.W.nsIn K mainGlobals "_law_grow" = some (some (.ref f11))) (l11 : K.lookup f11 = some ⟨oc11, od11, .func (PySem.W.fnOf "_law_grow" "_law_grow" (defArgs s__law_grow) (defBody s__law_grow) (defScope s__law_grow) .none kV11 dc11 pm11 an11 cd11 ct11), sl11⟩) (c11 : PySem.W.codeIn K cd11 "_law_grow" = true) (k11 : PySem.W.keepIn K (.ref f11) = true)
    (a12 : PySem.W.nsIn K mainGlobals "_law_tree" = some (some (.ref f12))) (l12 : K.lookup f12 = some ⟨oc12, od12, .func (PySem.W.fnOf "_law_tree" "_law_tree" (defArgs s__law_tree) (defBody s__law_tree) (defScope s__law_tree) .none kV12 dc12 pm12 an12 cd12 ct12), sl12⟩) (c12 : PySem.W.codeIn K cd12 "_law_tree" = true) (k12 : PySem.W.keepIn K (.ref f12) = true)
    (a13 : PySem.W.nsIn K mainGlobals "_law_size" = some (some (.ref f13))) (l13 : K.lookup f13 = some ⟨oc13, od13, .func (PySem.W.fnOf "_law_size" "_law_size" (defArgs s__law_size) (defBody s__law_size) (defScope s__law_size) .none kV13 dc13 pm13 an13 cd13 ct13), sl13⟩) (c13 : PySem.W.codeIn K cd13 "_law_size" = true) (k13 : PySem.W.keepIn K (.ref f13) = true)
    (a14 : PySem.W.nsIn K mainGlobals "_law_parts" = some (some (.ref f14))) (l14 : K.lookup f14 = some ⟨oc14, od14, .func (PySem.W.fnOf "_law_parts" "_law_parts" (defArgs s__law_parts) (defBody s__law_parts) (defScope s__law_parts) .none kV14 dc14 pm14 an14 cd14 ct14), sl14⟩) (c14 : PySem.W.codeIn K cd14 "_law_parts" = true) (k14 : PySem.W.keepIn K (.ref f14) = true)
    (a15 : PySem.W.nsIn K mainGlobals "_law_ordered" = some (some (.ref f15))) (l15 : K.lookup f15 = some ⟨oc15, od15, .func (PySem.W.fnOf "_law_ordered" "_law_ordered" (defArgs s__law_ordered) (defBody s__law_ordered) (defScope s__law_ordered) .none kV15 dc15 pm15 an15 cd15 ct15), sl15⟩) (c15 : PySem.W.codeIn K cd15 "_law_ordered" = true) (k15 : PySem.W.keepIn K (.ref f15) = true)
    (a16 : PySem.W.nsIn K mainGlobals "_law_places" = some (some (.ref f16))) (l16 : K.lookup f16 = some ⟨oc16, od16, .func (PySem.W.fnOf "_law_places" "_law_places" (defArgs s__law_places) (defBody s__law_places) (defScope s__law_places) .none kV16 dc16 pm16 an16 cd16 ct16), sl16⟩) (c16 : PySem.W.codeIn K cd16 "_law_places" = true) (k16 : PySem.W.keepIn K (.ref f16) = true)
    (a17 : PySem.W.nsIn K mainGlobals "law" = some (some (.ref f17))) (l17 : K.lookup f17 = some ⟨oc17, od17, .func (PySem.W.fnOf "law" "law" (defArgs s_law) (defBody s_law) (defScope s_law) .none kV17 dc17 pm17 an17 cd17 ct17), sl17⟩) (c17 : PySem.W.codeIn K cd17 "law" = true) (k17 : PySem.W.keepIn K (.ref f17) = true)
    (z_len : PySem.W.nsIn K mainGlobals "len" = some none)
    (z_range : PySem.W.nsIn K mainGlobals "range" = some none)
    (z_list : PySem.W.nsIn K mainGlobals "list" = some none)
    (z_tuple : PySem.W.nsIn K mainGlobals "tuple" = some none)
    (z_sum : PySem.W.nsIn K mainGlobals "sum" = some none)
    (z_max : PySem.W.nsIn K mainGlobals "max" = some none)
    (z_min : PySem.W.nsIn K mainGlobals "min" = some none)
    (z_abs : PySem.W.nsIn K mainGlobals "abs" = some none)
    (z_int : PySem.W.nsIn K mainGlobals "int" = some none)
    (z_repr : PySem.W.nsIn K mainGlobals "repr" = some none)
    (z_sorted : PySem.W.nsIn K mainGlobals "sorted" = some none)
    (z_enumerate : PySem.W.nsIn K mainGlobals "enumerate" = some none)
    (z_isinstance : PySem.W.nsIn K mainGlobals "isinstance" = some none)
    (z_reversed : PySem.W.nsIn K mainGlobals "reversed" = some none)
    (z_all : PySem.W.nsIn K mainGlobals "all" = some none)
    (z_str : PySem.W.nsIn K mainGlobals "str" = some none)
    (z_bool : PySem.W.nsIn K mainGlobals "bool" = some none)
    (z_dict : PySem.W.nsIn K mainGlobals "dict" = some none) :
    ∃ fd : FuncData, (∀ (s : Shared) (v : Value), BindsTo s fd ⟨[v], []⟩ [("script", v)]) ∧ ∀ base : Heap, K.In base → base.Ns mainGlobals mg → FnOk l.prog w K mg base CX0 23 fa fd ["script"] (spP K gLaw) := by
  have e := hfa.symm.trans (PySem.W.mg_of X G a17)
  cases e
  have F0 := fun_mk (st := s_every_part) l0 c0 k0
  have D_every_part : Df K mg "every_part" s_every_part P_every_part _ _ := ⟨F0, PySem.W.mg_of X G a0, F0.binds (ps := P_every_part) fun _ _ _ _ _ _ us hl => match us, hl with | [_], _ => rfl⟩
  have F1 := fun_mk (st := s_size) l1 c1 k1
  have D_size : Df K mg "size" s_size P_size _ _ := ⟨F1, PySem.W.mg_of X G a1, F1.binds (ps := P_size) fun _ _ _ _ _ _ us hl => match us, hl with | [_], _ => rfl⟩
  have F2 := fun_mk (st := s_rank) l2 c2 k2
  have D_rank : Df K mg "rank" s_rank P_rank _ _ := ⟨F2, PySem.W.mg_of X G a2, F2.binds (ps := P_rank) fun _ _ _ _ _ _ us hl => match us, hl with | [_], _ => rfl⟩
  have F3 := fun_mk (st := s_ordered) l3 c3 k3
  have D_ordered : Df K mg "ordered" s_ordered P_ordered _ _ := ⟨F3, PySem.W.mg_of X G a3, F3.binds (ps := P_ordered) fun _ _ _ _ _ _ us hl => match us, hl with | [_], _ => rfl⟩
  have F4 := fun_mk (st := s_parts_of) l4 c4 k4
  have D_parts_of : Df K mg "parts_of" s_parts_of P_parts_of _ _ := ⟨F4, PySem.W.mg_of X G a4, F4.binds (ps := P_parts_of) fun _ _ _ _ _ _ us hl => match us, hl with | [_], _ => rfl⟩
  have F5 := fun_mk (st := s_parts) l5 c5 k5
  have D_parts : Df K mg "parts" s_parts P_parts _ _ := ⟨F5, PySem.W.mg_of X G a5, F5.binds (ps := P_parts) fun _ _ _ _ _ _ us hl => match us, hl with | [_], _ => rfl⟩
  have F6 := fun_mk (st := s_places) l6 c6 k6
  have D_places : Df K mg "places" s_places P_places _ _ := ⟨F6, PySem.W.mg_of X G a6, F6.binds (ps := P_places) fun _ _ _ _ _ _ us hl => match us, hl with | [_], _ => rfl⟩
  have F7 := fun_mk (st := s__law_feed) l7 c7 k7
  have D__law_feed : Df K mg "_law_feed" s__law_feed P__law_feed _ _ := ⟨F7, PySem.W.mg_of X G a7, F7.binds (ps := P__law_feed) fun _ _ _ _ _ _ us hl => match us, hl with | [_, _], _ => rfl⟩
  have F8 := fun_mk (st := s__law_take) l8 c8 k8
  have D__law_take : Df K mg "_law_take" s__law_take P__law_take _ _ := ⟨F8, PySem.W.mg_of X G a8, F8.binds (ps := P__law_take) fun _ _ _ _ _ _ us hl => match us, hl with | [_, _], _ => rfl⟩
  have F9 := fun_mk (st := s__law_pick) l9 c9 k9
  have D__law_pick : Df K mg "_law_pick" s__law_pick P__law_pick _ _ := ⟨F9, PySem.W.mg_of X G a9, F9.binds (ps := P__law_pick) fun _ _ _ _ _ _ us hl => match us, hl with | [_, _], _ => rfl⟩
  have F10 := fun_mk (st := s__law_names) l10 c10 k10
  have D__law_names : Df K mg "_law_names" s__law_names P__law_names _ _ := ⟨F10, PySem.W.mg_of X G a10, F10.binds (ps := P__law_names) fun _ _ _ _ _ _ us hl => match us, hl with | [_], _ => rfl⟩
  have F11 := fun_mk (st := s__law_grow) l11 c11 k11
  have D__law_grow : Df K mg "_law_grow" s__law_grow P__law_grow _ _ := ⟨F11, PySem.W.mg_of X G a11, F11.binds (ps := P__law_grow) fun _ _ _ _ _ _ us hl => match us, hl with | [_, _, _, _], _ => rfl⟩
  have F12 := fun_mk (st := s__law_tree) l12 c12 k12
  have D__law_tree : Df K mg "_law_tree" s__law_tree P__law_tree _ _ := ⟨F12, PySem.W.mg_of X G a12, F12.binds (ps := P__law_tree) fun _ _ _ _ _ _ us hl => match us, hl with | [_, _, _], _ => rfl⟩
  have F13 := fun_mk (st := s__law_size) l13 c13 k13
  have D__law_size : Df K mg "_law_size" s__law_size P__law_size _ _ := ⟨F13, PySem.W.mg_of X G a13, F13.binds (ps := P__law_size) fun _ _ _ _ _ _ us hl => match us, hl with | [_], _ => rfl⟩
  have F14 := fun_mk (st := s__law_parts) l14 c14 k14
  have D__law_parts : Df K mg "_law_parts" s__law_parts P__law_parts _ _ := ⟨F14, PySem.W.mg_of X G a14, F14.binds (ps := P__law_parts) fun _ _ _ _ _ _ us hl => match us, hl with | [_], _ => rfl⟩
  have F15 := fun_mk (st := s__law_ordered) l15 c15 k15
  have D__law_ordered : Df K mg "_law_ordered" s__law_ordered P__law_ordered _ _ := ⟨F15, PySem.W.mg_of X G a15, F15.binds (ps := P__law_ordered) fun _ _ _ _ _ _ us hl => match us, hl with | [_], _ => rfl⟩
  have F16 := fun_mk (st := s__law_places) l16 c16 k16
  have D__law_places : Df K mg "_law_places" s__law_places P__law_places _ _ := ⟨F16, PySem.W.mg_of X G a16, F16.binds (ps := P__law_places) fun _ _ _ _ _ _ us hl => match us, hl with | [_], _ => rfl⟩
  have F17 := fun_mk (st := s_law) l17 c17 k17
  have D_law : Df K mg "law" s_law P_law _ _ := ⟨F17, PySem.W.mg_of X G a17, F17.binds (ps := P_law) fun _ _ _ _ _ _ us hl => match us, hl with | [_], _ => rfl⟩
  have B : Bi mg := ⟨PySem.W.mg_none_of X G z_len, PySem.W.mg_none_of X G z_range, PySem.W.mg_none_of X G z_list, PySem.W.mg_none_of X G z_tuple, PySem.W.mg_none_of X G z_sum, PySem.W.mg_none_of X G z_max, PySem.W.mg_none_of X G z_min, PySem.W.mg_none_of X G z_abs, PySem.W.mg_none_of X G z_int, PySem.W.mg_none_of X G z_repr, PySem.W.mg_none_of X G z_sorted, PySem.W.mg_none_of X G z_enumerate, PySem.W.mg_none_of X G z_isinstance, PySem.W.mg_none_of X G z_reversed, PySem.W.mg_none_of X G z_all, PySem.W.mg_none_of X G z_str, PySem.W.mg_none_of X G z_bool, PySem.W.mg_none_of X G z_dict⟩
  exact ⟨PySem.W.fnOf "law" "law" (defArgs s_law) (defBody s_law) (defScope s_law) .none kV17 dc17 pm17 an17 cd17 ct17, fun s v => .of_eq rfl, fun base _ _ => ok_law D_law B D__law_feed D__law_names D__law_tree D__law_pick D__law_take D__law_grow D_size D__law_size D_places D__law_places D__law_ordered D__law_parts D_parts D_ordered D_every_part D_rank D_parts_of⟩
theorem law_holds {K : Frag} {H : Hp} {a : Addr} {ns : List Int} (hl : ns.length ≤ 63) (hS : SqL K H a (ns.map V.int)) : spP K gLaw [.ref a] H (fun v _ => v = .bl true) fun _ _ _ => False :=
  ⟨fun _ => False, [given (ns.map PyData.int)], fun d => d = .bool true, fun a z => z.elim, .cons (.giv (ex_l (fun b o e => by rw [off_ne (S := fun _ => False) id]; exact e) hS) (ints_all ns)) .nil, ⟨ns, rfl, hl, rfl⟩, fun r H' d _ rd e => by subst e; cases rd; rfl⟩
theorem walk {l : PySem.W.OpenLaw} {q : Program} {loose : List Str} {XP : (Str → Option Value) → Heap → Prop} {YP : World → Heap → Prop} {d : DefRec} {K : Params → PySem.W.Frag} (hn : l.most = some 63) (hdf : d.params.defaults = [])
    (hY : ∀ (w : World) (h : Heap), YP w h → (K w.params).In h)
    (F : ∀ (w : World) (mg : Str → Option Value) (fa : Addr) (h : Heap), (K w.params).In h → h.Ns mainGlobals mg → mg d.name = some (.ref fa) →
      ∃ fd : FuncData, (∀ (s : Shared) (u : Value), BindsTo s fd ⟨[u], []⟩ [("script", u)]) ∧ ∀ base : Heap, (K w.params).In base → base.Ns mainGlobals mg → FnOk l.prog w (K w.params) mg base CX0 23 fa fd ["script"] (spP (K w.params) gLaw)) :
    PySem.W.WalkO q loose XP YP l.row.toRowW d [] (fun f vs => PySem.call f vs) :=
  L2.walk_of (n := 63) (k := 23) (x := "script") (CX := fun _ => CX0) (sp := fun w => spP (K w.params) gLaw) hn (by decide) hdf ⟨rfl, by decide, by decide⟩ hY F (fun _ _ a ns hl _ hS => law_holds hl hS) fun _ _ _ _ _ z => z
end Gr
open PySem PySem.W PyProof.Rows
set_option maxRecDepth 100000 in
set_option maxHeartbeats 0 in
theorem PySem.Challenge.cw_graftrules_k02_parts_and_places_holds : PySem.Challenge.rw_graftrules_k02_parts_and_places.Holds := by
  w_on; o_law; k_head; (case hw => w_witness2)
  k_fill
  refine Gr.walk (l := PySem.Challenge.rw_graftrules_k02_parts_and_places) rfl rfl (fun w h Y => PySem.W.kIn_of Y) ?F
  case F =>
    intro w mg fa h KX G hmg
    refine' Gr.all_mk KX G hmg ?a0 ?l0 ?c0 ?k0 ?a1 ?l1 ?c1 ?k1 ?a2 ?l2 ?c2 ?k2 ?a3 ?l3 ?c3 ?k3 ?a4 ?l4 ?c4 ?k4 ?a5 ?l5 ?c5 ?k5 ?a6 ?l6 ?c6 ?k6 ?a7 ?l7 ?c7 ?k7 ?a8 ?l8 ?c8 ?k8 ?a9 ?l9 ?c9 ?k9 ?a10 ?l10 ?c10 ?k10 ?a11 ?l11 ?c11 ?k11 ?a12 ?l12 ?c12 ?k12 ?a13 ?l13 ?c13 ?k13 ?a14 ?l14 ?c14 ?k14 ?a15 ?l15 ?c15 ?k15 ?a16 ?l16 ?c16 ?k16 ?a17 ?l17 ?c17 ?k17 ?z_len ?z_range ?z_list ?z_tuple ?z_sum ?z_max ?z_min ?z_abs ?z_int ?z_repr ?z_sorted ?z_enumerate ?z_isinstance ?z_reversed ?z_all ?z_str ?z_bool ?z_dict
    (case a0 => k_is)
    (case l0 => k_is)
    (case c0 => k_is)
    (case k0 => k_is)
    (case a1 => k_is)
    (case l1 => k_is)
    (case c1 => k_is)
    (case k1 => k_is)
    (case a2 => k_is)
    (case l2 => k_is)
    (case c2 => k_is)
    (case k2 => k_is)
    (case a3 => k_is)
    (case l3 => k_is)
    (case c3 => k_is)
    (case k3 => k_is)
    (case a4 => k_is)
    (case l4 => k_is)
    (case c4 => k_is)
    (case k4 => k_is)
    (case a5 => k_is)
    (case l5 => k_is)
    (case c5 => k_is)
    (case k5 => k_is)
    (case a6 => k_is)
    (case l6 => k_is)
    (case c6 => k_is)
    (case k6 => k_is)
    (case a7 => k_is)
    (case l7 => k_is)
    (case c7 => k_is)
    (case k7 => k_is)
    (case a8 => k_is)
    (case l8 => k_is)
    (case c8 => k_is)
    (case k8 => k_is)
    (case a9 => k_is)
    (case l9 => k_is)
    (case c9 => k_is)
    (case k9 => k_is)
    (case a10 => k_is)
    (case l10 => k_is)
    (case c10 => k_is)
    (case k10 => k_is)
    (case a11 => k_is)
    (case l11 => k_is)
    (case c11 => k_is)
    (case k11 => k_is)
    (case a12 => k_is)
    (case l12 => k_is)
    (case c12 => k_is)
    (case k12 => k_is)
    (case a13 => k_is)
    (case l13 => k_is)
    (case c13 => k_is)
    (case k13 => k_is)
    (case a14 => k_is)
    (case l14 => k_is)
    (case c14 => k_is)
    (case k14 => k_is)
    (case a15 => k_is)
    (case l15 => k_is)
    (case c15 => k_is)
    (case k15 => k_is)
    (case a16 => k_is)
    (case l16 => k_is)
    (case c16 => k_is)
    (case k16 => k_is)
    (case a17 => k_is)
    (case l17 => k_is)
    (case c17 => k_is)
    (case k17 => k_is)
    (case z_len => k_is)
    (case z_range => k_is)
    (case z_list => k_is)
    (case z_tuple => k_is)
    (case z_sum => k_is)
    (case z_max => k_is)
    (case z_min => k_is)
    (case z_abs => k_is)
    (case z_int => k_is)
    (case z_repr => k_is)
    (case z_sorted => k_is)
    (case z_enumerate => k_is)
    (case z_isinstance => k_is)
    (case z_reversed => k_is)
    (case z_all => k_is)
    (case z_str => k_is)
    (case z_bool => k_is)
    (case z_dict => k_is)
#print axioms PySem.Challenge.cw_graftrules_k02_parts_and_places_holds
