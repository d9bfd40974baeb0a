import PyProof.Rows.All
import Wide.All
import OpenK.AllK
import Wide.FinOn
import HandS.ForMost
import HandS.TupAny
import HandS.Style
import HandS.Evl
import HandS.Deep
import HandS.RevRange
import HandS.SortKw
import HandS.TupMul
import HandS.IsInst
import KE.SortKeyHeap
import KE.GoesEnum
import HandS.Exc
import HandS.GenOver
import HandS.GenBody
import HandS.GenYield
import HandS.GenCall
import HandS.GenList
import HandS.Conv
import KE.GoesMore
import HandS.RaiseMore
import PyProof.ReprRoads
import HandS.Text
import KE.DataCmp
import KE.KExcSuper
import KE.KSuper
import HandS.ForExc
import HandS.ForSpec
import HandS.TryOnly
import HandS.NoneIn
import HandS.More
import KE.DataEq
import PyProof.EqKinds
import PyProof.FactsAll.dict
import HandS.SetFor
import OpenK.KMeth
import PyProof.InstEq
import PyProof.StrBlock2
import PyProof.StrLawsIn
import HandS.RaiseFrom
import HandS.SuiteRaise
import HandS.ExcCtx
import HandS.HotCalls
import KE.KExcIs
import HandS.ExcIs
import KE.KExcMake
import HandS.ExcBuiltin
import HandS.ExcValue
import KE.KDictDisplayH
import KE.KeyNested
import PySem.Challenge.RW_graftrules_k05_values_that_are_lots
set_option Elab.async false
set_option linter.all false
set_option maxRecDepth 100000
set_option maxHeartbeats 4000000
/-! # A layer of my own: what expressions and statements give, told by plain data (PyData), no address in sight -/
namespace Dn
open PySem L2 Evl
abbrev Frag := PySem.W.Frag
abbrev Ad := Addr → Prop
/-- what of H is seen where the addresses in S are hidden -/
noncomputable def off (S : Ad) (H : Hp) : Hp := fun a => @ite _ (S a) (Classical.propDecidable _) none (H a)
theorem off_ne {S : Ad} {H : Hp} {a : Addr} (h : ¬ S a) : off S H a = H a := by unfold off; rw [if_neg h]
theorem off_in {S : Ad} {H : Hp} {a : Addr} (h : S a) : off S H a = none := by unfold off; rw [if_pos h]
theorem off_some {S : Ad} {H : Hp} {a : Addr} {o : HO} (h : off S H a = some o) : ¬ S a ∧ H a = some o := by
  by_cases q : S a
  · rw [off_in q] at h; cases h
  · rw [off_ne q] at h; exact ⟨q, h⟩
theorem off_less {S T : Ad} {H : Hp} (h : ∀ a, S a → T a) : Ex (off T H) (off S H) := fun a o e => by
  obtain ⟨n, e⟩ := off_some e
  rw [off_ne fun q => n (h a q)]; exact e
theorem off_full {S : Ad} {H : Hp} : Ex (off S H) H := fun a o e => (off_some e).2
theorem off_ex {S fd : Ad} {H H' : Hp} (hs : ∀ a, fd a → S a) (h : ∀ a o, ¬ fd a → H a = some o → H' a = some o) : Ex (off S H) (off S H') := fun a o e => by
  obtain ⟨n, e⟩ := off_some e
  rw [off_ne n]; exact h a o (fun q => n (hs a q)) e
theorem off_exE {S : Ad} {H H' : Hp} (h : Ex H H') : Ex (off S H) (off S H') := fun a o e => by
  obtain ⟨n, e⟩ := off_some e
  rw [off_ne n]; exact h a o e

/-! ## data: an instance of a class at C is told as a dict whose first pair is (None, C) -/
/-- at a stands a dict of one pair -/
def One (h : Heap) (a : Addr) (kv vv : V) : Prop := ∃ (o : Obj) (e : DictEntry) (n : Nat), h.get? a = some o ∧ o.cls = .type "dict" ∧ o.data = .dict #[e] n ∧ (a == sysModules) = false ∧ RelV kv e.key ∧ RelV vv e.val
mutual
inductive Dr (K : Frag) (H : Hp) : V → PyData → Prop
  | non : Dr K H .non .none
  | bl (b : Bool) : Dr K H (.bl b) (.bool b)
  | int (i : Int) : Dr K H (.int i) (.int i)
  | str (x : Str) : Dr K H (.str x) (.str x)
  | lst {a : Addr} {xs : List V} {ds : List PyData} : H a = some (.lst xs) → DrAll K H xs ds → Dr K H (.ref a) (.list ds)
  | tup {a : Addr} {xs : List V} {ds : List PyData} : SqT K H a xs → DrAll K H xs ds → Dr K H (.ref a) (.tuple ds)
  | ins {a C dx : Addr} {fs : List (Str × V)} {kvs : List (PyData × PyData)} : H a = some (.ins C dx fs) → DrFs K H fs kvs → Dr K H (.ref a) (.dict ((.none, .int (C : Int)) :: kvs))
  /-- a list handed in, that nobody changes -/
  | giv {a : Addr} {xs : List V} {ds : List PyData} : SqL K H a xs → DrAll K H xs ds → Dr K H (.ref a) (.dict [(.bool true, .list ds)])
  /-- a dict whose keys are texts -/
  | dct {a : Addr} {fs : List (Str × V)} {kvs : List (PyData × PyData)} : H a = some (.dK (fs.map fun p => (Sum.inr p.1, p.2))) → DrFs K H fs kvs → Dr K H (.ref a) (.dict kvs)
  /-- a dict of one pair, its key a tuple -/
  | dtp {a : Addr} {φ : Heap → Prop} {kv vv : V} {ks : List PyData} {dv : PyData} : H a = some (.ext φ) → (∀ h, φ h → One h a kv vv) → Dr K H kv (.tuple ks) → Dr K H vv dv → Dr K H (.ref a) (.dict [(.tuple ks, dv)])
inductive DrAll (K : Frag) (H : Hp) : List V → List PyData → Prop
  | nil : DrAll K H [] []
  | cons {v : V} {vs : List V} {d : PyData} {ds : List PyData} : Dr K H v d → DrAll K H vs ds → DrAll K H (v :: vs) (d :: ds)
inductive DrFs (K : Frag) (H : Hp) : List (Str × V) → List (PyData × PyData) → Prop
  | nil : DrFs K H [] []
  | cons {f : Str} {v : V} {fs : List (Str × V)} {d : PyData} {kvs : List (PyData × PyData)} : Dr K H v d → DrFs K H fs kvs → DrFs K H ((f, v) :: fs) ((.str f, d) :: kvs)
end
section
variable {K : Frag} {G G' : Hp}
theorem dmono (e : Ex G G') {d : PyData} {v : V} (h : Dr K G v d) : Dr K G' v d :=
  Dr.rec (motive_1 := fun v d _ => Dr K G' v d) (motive_2 := fun vs ds _ => DrAll K G' vs ds) (motive_3 := fun fs kvs _ => DrFs K G' fs kvs)
    .non .bl .int .str (fun h _ r => .lst (e _ _ h) r) (fun h _ r => .tup (ex_t e h) r) (fun h _ r => .ins (e _ _ h) r) (fun h _ r => .giv (ex_l e h) r) (fun h _ r => .dct (e _ _ h) r) (fun h q _ _ r1 r2 => .dtp (e _ _ h) q r1 r2) .nil (fun _ _ a b => .cons a b) .nil (fun _ _ a b => .cons a b) h
theorem dmonoAll (e : Ex G G') {ds : List PyData} {vs : List V} (h : DrAll K G vs ds) : DrAll K G' vs ds :=
  DrAll.rec (motive_1 := fun v d _ => Dr K G' v d) (motive_2 := fun vs ds _ => DrAll K G' vs ds) (motive_3 := fun fs kvs _ => DrFs K G' fs kvs)
    .non .bl .int .str (fun h _ r => .lst (e _ _ h) r) (fun h _ r => .tup (ex_t e h) r) (fun h _ r => .ins (e _ _ h) r) (fun h _ r => .giv (ex_l e h) r) (fun h _ r => .dct (e _ _ h) r) (fun h q _ _ r1 r2 => .dtp (e _ _ h) q r1 r2) .nil (fun _ _ a b => .cons a b) .nil (fun _ _ a b => .cons a b) h
mutual
def plain : PyData → Bool
  | .list ds => plainAll ds
  | .tuple ds => plainAll ds
  | .dict _ => false
  | _ => true
def plainAll : List PyData → Bool
  | [] => true
  | d :: ds => plain d && plainAll ds
end
theorem toDp {d : PyData} {v : V} (h : Dr K G v d) : plain d = true → Dp K G v d :=
  Dr.rec (motive_1 := fun v d _ => plain d = true → Dp K G v d) (motive_2 := fun vs ds _ => plainAll ds = true → DpAll K G vs ds) (motive_3 := fun _ _ _ => True)
    (fun _ => .non) (fun b _ => .bl b) (fun i _ => .int i) (fun x _ => .str x) (fun h _ r p => .lst (sq_of h) (r (by simpa [plain] using p))) (fun h _ r p => .tup h (r (by simpa [plain] using p))) (fun _ _ _ p => by simp [plain] at p) (fun _ _ _ p => by simp [plain] at p) (fun _ _ _ p => by simp [plain] at p) (fun _ _ _ _ _ _ p => by simp [plain] at p)
    (fun _ => .nil) (fun _ _ a b p => by
      rw [plainAll, Bool.and_eq_true] at p
      exact .cons (a p.1) (b p.2)) True.intro (fun _ _ _ _ => True.intro) h
end
def flat : PyData → Bool
  | .none | .bool _ | .int _ | .str _ => true
  | _ => false
theorem dflat {K : Frag} {G G' : Hp} {v : V} {d : PyData} (f : flat d = true) (h : Dr K G v d) : Dr K G' v d := by
  cases h with
  | non => exact .non
  | bl b => exact .bl _
  | int i => exact .int _
  | str x => exact .str _
  | lst _ _ => cases f
  | tup _ _ => cases f
  | ins _ _ => cases f
  | giv _ _ => cases f
  | dct _ _ => cases f
  | dtp _ _ _ _ => cases f
section
variable {K : Frag} {G : Hp}
theorem all_len : ∀ {vs : List V} {ds : List PyData}, DrAll K G vs ds → vs.length = ds.length
  | _, [], h => by cases h; rfl
  | _, d :: ds, h => by
    cases h with
    | cons a b => show _ + 1 = _ + 1; rw [all_len b]
theorem all_get : ∀ {vs : List V} {ds : List PyData} {i : Nat} {d : PyData}, DrAll K G vs ds → ds[i]? = some d → ∃ v, vs[i]? = some v ∧ Dr K G v d
  | _, [], _, _, _, e => by simp at e
  | _, d :: ds, i, d', h, e => by
    cases h with
    | cons a b =>
      cases i with
      | zero => simp at e; subst e; exact ⟨_, rfl, a⟩
      | succ i =>
        obtain ⟨v, h1, h2⟩ := all_get (i := i) b (by simpa using e)
        exact ⟨v, by simpa using h1, h2⟩
theorem all_get' : ∀ {vs : List V} {ds : List PyData} {i : Nat} {v : V}, DrAll K G vs ds → vs[i]? = some v → ∃ d, ds[i]? = some d ∧ Dr K G v d := fun {vs ds i v} h e => by
  have hl := all_len h
  have hi : i < vs.length := (List.getElem?_eq_some_iff.mp e).1
  obtain ⟨w, h1, h2⟩ := all_get (i := i) (d := ds[i]'(hl ▸ hi)) h (List.getElem?_eq_getElem _)
  rw [e] at h1; cases h1
  exact ⟨_, List.getElem?_eq_getElem _, h2⟩
theorem all_app : ∀ {vs ws : List V} {ds es : List PyData}, DrAll K G vs ds → DrAll K G ws es → DrAll K G (vs ++ ws) (ds ++ es)
  | _, _, [], _, h, q => by cases h; exact q
  | _, _, d :: ds, es, h, q => by
    cases h with
    | cons a b => exact .cons a (all_app b q)
theorem all_one {v : V} {d : PyData} (h : Dr K G v d) : DrAll K G [v] [d] := .cons h .nil
theorem all_take : ∀ {vs : List V} {ds : List PyData} (n : Nat), DrAll K G vs ds → DrAll K G (vs.take n) (ds.take n)
  | _, [], n, h => by cases h; simp; exact .nil
  | _, d :: ds, 0, h => by simp; exact .nil
  | _, d :: ds, n + 1, h => by
    cases h with
    | cons a b => exact .cons a (all_take n b)
theorem all_drop : ∀ {vs : List V} {ds : List PyData} (n : Nat), DrAll K G vs ds → DrAll K G (vs.drop n) (ds.drop n)
  | _, [], n, h => by cases h; simp; exact .nil
  | _, d :: ds, 0, h => h
  | _, d :: ds, n + 1, h => by
    cases h with
    | cons a b => exact all_drop n b
theorem all_ints : ∀ {vs : List V} {ns : List Int}, DrAll K G vs (ns.map .int) → vs = ns.map V.int
  | _, [], h => by cases h; rfl
  | _, n :: ns, h => by
    cases h with
    | cons a b => cases a; rw [all_ints b]; rfl
theorem ints_all : ∀ (ns : List Int), DrAll K G (ns.map V.int) (ns.map .int)
  | [] => .nil
  | n :: ns => .cons (.int n) (ints_all ns)
theorem all_bools : ∀ {vs : List V} {ns : List Bool}, DrAll K G vs (ns.map .bool) → vs = ns.map V.bl
  | _, [], h => by cases h; rfl
  | _, n :: ns, h => by
    cases h with
    | cons a b => cases a; rw [all_bools b]; rfl
theorem all_strs : ∀ {vs : List V} {ns : List Str}, DrAll K G vs (ns.map .str) → vs = ns.map V.str
  | _, [], h => by cases h; rfl
  | _, n :: ns, h => by
    cases h with
    | cons a b => cases a; rw [all_strs b]; rfl
end
/-- xs[lo:hi] of any list -/
def cut {α : Type} (xs : List α) (lo hi : Option Int) : List α := (xs.drop (HT.sIx xs.length 0 lo)).take (HT.sIx xs.length xs.length hi - HT.sIx xs.length 0 lo)
theorem all_cut {K : Frag} {G : Hp} {vs : List V} {ds : List PyData} (h : DrAll K G vs ds) (lo hi : Option Int) : DrAll K G (cutV vs lo hi) (cut ds lo hi) := by
  unfold cut cutV
  rw [all_len h]
  exact all_take _ (all_drop _ h)
theorem all_at {K : Frag} {G : Hp} {vs : List V} {ds : List PyData} {i : Int} {d : PyData} (h : DrAll K G vs ds) (e : atI ds i = some d) : ∃ v, atI vs i = some v ∧ Dr K G v d := by
  unfold atI at e ⊢
  rw [all_len h]
  cases q : ixN ds.length i with
  | none => rw [q] at e; cases e
  | some j =>
    rw [q] at e
    exact all_get h e

/-! ## slots -/
inductive Sl where
  | no
  | dat (d : PyData)
  | own (p : Addr) (ds : List PyData)
  | fed (f : Addr)
  | raw (v : V)
/-- the feed: two whole numbers -/
def Feed (fd : Ad) (H : Hp) : Prop := ∀ f, fd f → ∃ d m : Int, H f = some (.lst [.int d, .int m]) ∧ 0 ≤ d ∧ 0 ≤ m ∧ m < 4294967311
theorem Feed.ex {fd : Ad} {H H' : Hp} (h : Feed fd H) (e : Ex H H') : Feed fd H' := fun f q => by
  obtain ⟨d, m, h1, h2⟩ := h f q
  exact ⟨d, m, e _ _ h1, h2⟩
def SlOk (K : Frag) (fd F : Ad) (H : Hp) : Option V → Sl → Prop
  | _, .no => True
  | some v, .dat d => Dr K (off F H) v d
  | some v, .own p ds => v = .ref p ∧ F p ∧ ¬ fd p ∧ ∃ vs, H p = some (.lst vs) ∧ DrAll K (off F H) vs ds
  | some v, .fed f => v = .ref f ∧ fd f
  | some v, .raw w => v = w
  | none, _ => False
/-- H to H': all but the feed stands, the feed is one still -/
structure Up (fd : Ad) (H H' : Hp) : Prop where
  keep : ∀ a o, ¬ fd a → H a = some o → H' a = some o
  feed : Feed fd H'
theorem Up.refl {fd : Ad} {H : Hp} (h : Feed fd H) : Up fd H H := ⟨fun _ _ _ e => e, h⟩
theorem Up.trans {fd : Ad} {H H1 H2 : Hp} (a : Up fd H H1) (b : Up fd H1 H2) : Up fd H H2 := ⟨fun x o n e => b.keep x o n (a.keep x o n e), b.feed⟩
theorem Up.ex {fd : Ad} {H H' : Hp} (h : Feed fd H) (e : Ex H H') : Up fd H H' := ⟨fun a o _ q => e a o q, h.ex e⟩
/-- what an expression finds: F is hidden (all of it stands in H), the feed among it; the slots are as told -/
structure EnvOk (K : Frag) (fd F : Ad) (σ : L2.St) (H : Hp) (env : List Sl) : Prop where
  there : ∀ a, F a → H a ≠ none
  fdF : ∀ a, fd a → F a
  feed : Feed fd H
  len : σ.length = env.length
  slot : ∀ (i : Nat) (o : Option V) (x : Sl), σ[i]? = some o → env[i]? = some x → SlOk K fd F H o x
theorem there_up {F fd : Ad} {H H' : Hp} (h : ∀ a, F a → H a ≠ none) (u : Up fd H H') : ∀ a, F a → H' a ≠ none := fun a q => by
  by_cases z : fd a
  · obtain ⟨d, m, e, _⟩ := u.feed a z
    rw [e]; intro c; cases c
  · cases e : H a with
    | none => exact absurd e (h a q)
    | some o => rw [u.keep a o z e]; intro c; cases c
theorem SlOk.up {K : Frag} {fd F : Ad} {H H' : Hp} {o : Option V} {x : Sl} (hf : ∀ a, fd a → F a) (u : Up fd H H') (h : SlOk K fd F H o x) : SlOk K fd F H' o x := by
  have e := off_ex (S := F) hf u.keep
  cases x with
  | no => cases o <;> exact True.intro
  | dat d =>
    cases o with
    | none => exact h
    | some v => exact dmono e h
  | own p ds =>
    cases o with
    | none => exact h
    | some v =>
      obtain ⟨h1, h2, h3, vs, h4, h5⟩ := h
      exact ⟨h1, h2, h3, vs, u.keep _ _ h3 h4, dmonoAll e h5⟩
  | fed f => cases o <;> exact h
  | raw w => cases o <;> exact h
section
variable {K : Frag} {fd F : Ad} {σ : L2.St} {H H' : Hp} {env : List Sl}
theorem EnvOk.up (h : EnvOk K fd F σ H env) (u : Up fd H H') : EnvOk K fd F σ H' env :=
  ⟨there_up h.there u, h.fdF, u.feed, h.len, fun i o x e1 e2 => (h.slot i o x e1 e2).up h.fdF u⟩
theorem EnvOk.see (h : EnvOk K fd F σ H env) (u : Up fd H H') : Ex (off F H) (off F H') := off_ex h.fdF u.keep
theorem EnvOk.get (h : EnvOk K fd F σ H env) {i : Nat} {x : Sl} (e : env[i]? = some x) : ∃ o, σ[i]? = some o ∧ SlOk K fd F H o x := by
  have hi : i < env.length := (List.getElem?_eq_some_iff.mp e).1
  have hj : i < σ.length := by rw [h.len]; exact hi
  exact ⟨_, List.getElem?_eq_getElem hj, h.slot i _ x (List.getElem?_eq_getElem hj) e⟩
theorem EnvOk.set (h : EnvOk K fd F σ H env) {i : Nat} {v : V} {x : Sl} (hx : SlOk K fd F H (some v) x) : EnvOk K fd F (σ.set i (some v)) H (env.set i x) :=
  ⟨h.there, h.fdF, h.feed, by rw [List.length_set, List.length_set]; exact h.len, fun j o y e1 e2 => by
    by_cases hj : i = j
    · subst hj
      have l1 : i < σ.length := by have := (List.getElem?_eq_some_iff.mp e1).1; rwa [List.length_set] at this
      have l2 : i < env.length := by have := (List.getElem?_eq_some_iff.mp e2).1; rwa [List.length_set] at this
      rw [List.getElem?_set_self l1] at e1
      rw [List.getElem?_set_self l2] at e2
      cases e1; cases e2; exact hx
    · rw [List.getElem?_set_ne hj] at e1 e2
      exact h.slot j o y e1 e2⟩
end

/-! ## judgements -/
def wpE (K : Frag) (fd : Ad) (te : TE) (env : List Sl) (C : PyData → Prop) : Prop :=
  ∀ (F : Ad) (σ : L2.St) (H : Hp), EnvOk K fd F σ H env → ∀ Q : VK, (∀ v H2 d, Up fd H H2 → Dr K (off F H2) v d → C d → Q v H2) → te σ H Q
/-- a new list -/
def wpN (K : Frag) (fd : Ad) (te : TE) (env : List Sl) (C : List PyData → Prop) : Prop :=
  ∀ (F : Ad) (σ : L2.St) (H : Hp), EnvOk K fd F σ H env → ∀ Q : VK, (∀ p vs H2 ds, H p = none → Up fd H H2 → H2 p = some (.lst vs) → DrAll K (off (fun a => F a ∨ a = p) H2) vs ds → C ds → Q (.ref p) H2) → te σ H Q
def wpA (K : Frag) (fd : Ad) (ta : TA) (env : List Sl) (C : List PyData → Prop) : Prop :=
  ∀ (F : Ad) (σ : L2.St) (H : Hp), EnvOk K fd F σ H env → ∀ Q : List V → Hp → Prop, (∀ vs H2 ds, Up fd H H2 → DrAll K (off F H2) vs ds → C ds → Q vs H2) → ta σ H Q
def wpT (K : Frag) (fd : Ad) (tt : TT) (env : List Sl) (C : Bool → Prop) : Prop :=
  ∀ (F : Ad) (σ : L2.St) (H : Hp), EnvOk K fd F σ H env → ∀ Q : Bool → Hp → Prop, (∀ b H2, Up fd H H2 → C b → Q b H2) → tt σ H Q
/-- an operation of two values -/
def OpD (K : Frag) (r : R2) (a b : PyData) (C : PyData → Prop) : Prop :=
  ∀ (F : Ad) (H : Hp) (x y : V), (∀ a, F a → H a ≠ none) → Dr K (off F H) x a → Dr K (off F H) y b → ∀ Q : VK, (∀ v H2 d, Ex H H2 → Dr K (off F H2) v d → C d → Q v H2) → r x y H Q
def UnD (K : Frag) (r : V → Hp → VK → Prop) (a : PyData) (C : PyData → Prop) : Prop :=
  ∀ (F : Ad) (H : Hp) (x : V), (∀ a, F a → H a ≠ none) → Dr K (off F H) x a → ∀ Q : VK, (∀ v H2 d, Ex H H2 → Dr K (off F H2) v d → C d → Q v H2) → r x H Q
/-- a call of a built-in -/
def CaD (K : Frag) (r : List V → Hp → VK → Prop) (as : List PyData) (C : PyData → Prop) : Prop :=
  ∀ (F : Ad) (H : Hp) (xs : List V), (∀ a, F a → H a ≠ none) → DrAll K (off F H) xs as → ∀ Q : VK, (∀ v H2 d, Ex H H2 → Dr K (off F H2) v d → C d → Q v H2) → r xs H Q
/-- .. that gives a new list -/
def CaN (K : Frag) (r : List V → Hp → VK → Prop) (as : List PyData) (C : List PyData → Prop) : Prop :=
  ∀ (F : Ad) (H : Hp) (xs : List V), (∀ a, F a → H a ≠ none) → DrAll K (off F H) xs as → ∀ Q : VK, (∀ p vs H2 ds, H p = none → Ex H H2 → H2 p = some (.lst vs) → DrAll K (off (fun a => F a ∨ a = p) H2) vs ds → C ds → Q (.ref p) H2) → r xs H Q
section
variable {K : Frag} {fd : Ad} {env : List Sl} {te ta tb tc : TE} {tt tu : TT} {tas : TA} {C C' : PyData → Prop} {CL : List PyData → Prop} {CB : Bool → Prop}
theorem wpE_imp (h : wpE K fd te env C) (q : ∀ d, C d → C' d) : wpE K fd te env C' := fun F σ H I Q k => h F σ H I Q fun v H2 d u r c => k v H2 d u r (q d c)
theorem see_new {F : Ad} {H H2 : Hp} {p : Addr} (th : ∀ a, F a → H a ≠ none) (hp : H p = none) {vs : List V} {ds : List PyData} (e : H2 p = some (.lst vs)) (h : DrAll K (off (fun a => F a ∨ a = p) H2) vs ds) : Dr K (off F H2) (.ref p) (.list ds) :=
  .lst (by rw [off_ne fun z => th p z hp]; exact e) (dmonoAll (off_less fun a z => .inl z) h)
theorem wpE_new (h : wpN K fd te env fun ds => C (.list ds)) : wpE K fd te env C := fun F σ H I Q k =>
  h F σ H I Q fun p vs H2 ds hp u e r c => k _ H2 _ u (see_new I.there hp e r) c
theorem wp_var {i : Nat} {d : PyData} (e : env[i]? = some (.dat d)) (c : C d) : wpE K fd (tVar i) env C := fun F σ H I Q k => by
  obtain ⟨o, h1, h2⟩ := I.get e
  cases o with
  | none => exact False.elim h2
  | some v => exact ⟨v, h1, k v H d (.refl I.feed) h2 c⟩
theorem wp_int {i : Int} (c : C (.int i)) : wpE K fd (tC (.int i)) env C := fun F σ H I Q k => k _ H _ (.refl I.feed) (.int i) c
theorem wp_str {x : Str} (c : C (.str x)) : wpE K fd (tC (.str x)) env C := fun F σ H I Q k => k _ H _ (.refl I.feed) (.str x) c
theorem wp_bl {b : Bool} (c : C (.bool b)) : wpE K fd (tC (.bl b)) env C := fun F σ H I Q k => k _ H _ (.refl I.feed) (.bl b) c
theorem wp_non (c : C .none) : wpE K fd (tC .non) env C := fun F σ H I Q k => k _ H _ (.refl I.feed) .non c
theorem wp_op {r : R2} (h : wpE K fd ta env fun a => wpE K fd tb env fun b => OpD K r a b C) : wpE K fd (tOp r ta tb) env C := fun F σ H I Q k =>
  h F σ H I _ fun x H1 a u1 ra q1 => q1 F σ H1 (I.up u1) _ fun y H2 b u2 rb q2 => q2 F H2 x y ((I.up u1).up u2).there (dmono ((I.up u1).see u2) ra) rb Q fun v H3 d e r c =>
    k v H3 d ((u1.trans u2).trans (.ex u2.feed e)) r c
theorem wp_un {r : V → Hp → VK → Prop} (h : wpE K fd ta env fun a => UnD K r a C) : wpE K fd (tUn r ta) env C := fun F σ H I Q k =>
  h F σ H I _ fun x H1 a u1 ra q1 => q1 F H1 x (I.up u1).there ra Q fun v H3 d e r c => k v H3 d (u1.trans (.ex u1.feed e)) r c
theorem wpA_nil (c : CL []) : wpA K fd tNil env CL := fun F σ H I Q k => k [] H [] (.refl I.feed) .nil c
theorem wpA_cons {tr : TA} (h : wpE K fd ta env fun a => wpA K fd tr env fun as => CL (a :: as)) : wpA K fd (tCons ta tr) env CL := fun F σ H I Q k =>
  h F σ H I _ fun x H1 a u1 ra q1 => q1 F σ H1 (I.up u1) _ fun xs H2 as u2 rs c => k (x :: xs) H2 (a :: as) (u1.trans u2) (.cons (dmono ((I.up u1).see u2) ra) rs) c
theorem wp_cb {r : List V → Hp → VK → Prop} (h : wpA K fd tas env fun as => CaD K r as C) : wpE K fd (tCB r tas) env C := fun F σ H I Q k =>
  h F σ H I _ fun xs H1 as u1 ra q1 => q1 F H1 xs (I.up u1).there ra Q fun v H3 d e r c => k v H3 d (u1.trans (.ex u1.feed e)) r c
theorem none_back {fd F : Ad} {H H1 : Hp} (th : ∀ a, F a → H a ≠ none) (hf : ∀ a, fd a → F a) (u : Up fd H H1) {p : Addr} (h : H1 p = none) : H p = none := by
  cases e : H p with
  | none => rfl
  | some o =>
    by_cases z : fd p
    · obtain ⟨_, _, q, _⟩ := u.feed p z
      rw [q] at h; cases h
    · rw [u.keep p o z e] at h; cases h
theorem wpN_cb {r : List V → Hp → VK → Prop} (h : wpA K fd tas env fun as => CaN K r as CL) : wpN K fd (tCB r tas) env CL := fun F σ H I Q k =>
  h F σ H I _ fun xs H1 as u1 ra q1 => q1 F H1 xs (I.up u1).there ra Q fun p vs H3 ds hp e e1 r c => k p vs H3 ds (none_back I.there I.fdF u1 hp) (u1.trans (.ex u1.feed e)) e1 r c
theorem new_all {F : Ad} {H : Hp} {p : Addr} {o : HO} {xs : List V} {ds : List PyData} (hp : H p = none) (r : DrAll K (off F H) xs ds) : DrAll K (off (fun a => F a ∨ a = p) (upd H p o)) xs ds := by
  refine dmonoAll (fun a u e => ?_) r
  obtain ⟨n, e⟩ := off_some e
  have hne : a ≠ p := ne_of_none e hp
  rw [off_ne (by intro z; rcases z with z | z; exact n z; exact hne z), upd_ne hne]
  exact e
theorem wpN_lst (h : wpA K fd tas env fun ds => ds.length ≤ 100000 ∧ CL ds) : wpN K fd (tLst tas) env CL := fun F σ H I Q k =>
  h F σ H I _ fun xs H1 ds u1 ra c => ⟨sz_of (by rw [all_len ra]; exact c.1), fun p hp => k p xs _ ds (none_back I.there I.fdF u1 hp) (u1.trans (.ex u1.feed (Ex.new hp))) upd_same (new_all hp ra) c.2⟩
theorem new_tup {F : Ad} {H : Hp} {p : Addr} {xs : List V} {ds : List PyData} (th : ∀ a, F a → H a ≠ none) (hp : H p = none) (r : DrAll K (off F H) xs ds) : Dr K (off F (upd H p (.tup xs))) (.ref p) (.tuple ds) :=
  .tup (st_of (by rw [off_ne fun z => th p z hp]; exact upd_same)) (dmonoAll (off_exE (Ex.new hp)) r)
theorem wp_tup (h : wpA K fd tas env fun ds => ds.length ≤ 100000 ∧ C (.tuple ds)) : wpE K fd (tTup tas) env C := fun F σ H I Q k =>
  h F σ H I _ fun xs H1 ds u1 ra c => ⟨sz_of (by rw [all_len ra]; exact c.1), fun p hp => k _ _ _ (u1.trans (.ex u1.feed (Ex.new hp))) (new_tup (I.up u1).there hp ra) c.2⟩
/-! tests -/
theorem wpT_imp {CB' : Bool → Prop} (h : wpT K fd tt env CB) (q : ∀ b, CB b → CB' b) : wpT K fd tt env CB' := fun F σ H I Q k => h F σ H I Q fun b H2 u c => k b H2 u (q b c)
theorem wpT_test (h : wpE K fd te env fun d => ∃ b, d = .bool b ∧ CB b) : wpT K fd (tTest te) env CB := fun F σ H I Q k =>
  h F σ H I _ fun x H1 d u r c => by
    obtain ⟨b, rfl, c⟩ := c
    cases r
    exact ⟨b, rfl, k b H1 u c⟩
theorem wpT_B (h : wpE K fd te env fun d => ∃ b, d = .bool b ∧ CB b) : wpT K fd (tB te) env CB := fun F σ H I Q k =>
  h F σ H I _ fun x H1 d u r c => by
    obtain ⟨b, rfl, c⟩ := c
    cases r
    exact ⟨b, rfl, k b H1 u c⟩
theorem wpT_and (h : wpT K fd tt env fun b => (b = true → wpT K fd tu env CB) ∧ (b = false → CB false)) : wpT K fd (tAnd tt tu) env CB := fun F σ H I Q k =>
  h F σ H I _ fun b H1 u c => by
    cases b with
    | true => rw [if_pos rfl]; exact c.1 rfl F σ H1 (I.up u) Q fun b H2 u2 c => k b H2 (u.trans u2) c
    | false => rw [if_neg (by decide)]; exact k _ _ u (c.2 rfl)
theorem wpT_or (h : wpT K fd tt env fun b => (b = true → CB true) ∧ (b = false → wpT K fd tu env CB)) : wpT K fd (tOr tt tu) env CB := fun F σ H I Q k =>
  h F σ H I _ fun b H1 u c => by
    cases b with
    | true => rw [if_pos rfl]; exact k _ _ u (c.1 rfl)
    | false => rw [if_neg (by decide)]; exact c.2 rfl F σ H1 (I.up u) Q fun b H2 u2 c => k b H2 (u.trans u2) c
theorem wpT_not (h : wpT K fd tt env fun b => CB (!b)) : wpT K fd (tNot tt) env CB := fun F σ H I Q k => h F σ H I _ fun b H1 u c => k _ _ u c
theorem wp_if (h : wpT K fd tt env fun b => (b = true → wpE K fd ta env C) ∧ (b = false → wpE K fd tb env C)) : wpE K fd (tIf tt ta tb) env C := fun F σ H I Q k =>
  h F σ H I _ fun b H1 u c => by
    cases b with
    | true => rw [if_pos rfl]; exact c.1 rfl F σ H1 (I.up u) Q fun v H2 d u2 => k v H2 d (u.trans u2)
    | false => rw [if_neg (by decide)]; exact c.2 rfl F σ H1 (I.up u) Q fun v H2 d u2 => k v H2 d (u.trans u2)
theorem wp_andV (h : wpE K fd ta env fun d => ∃ b, d = .bool b ∧ (b = true → wpE K fd tb env C) ∧ (b = false → C (.bool false))) : wpE K fd (tAndV ta tb) env C := fun F σ H I Q k =>
  h F σ H I _ fun x H1 d u r c => by
    obtain ⟨b, rfl, c1, c2⟩ := c
    cases r
    refine ⟨b, rfl, ?_⟩
    cases b with
    | true => rw [if_pos rfl]; exact c1 rfl F σ H1 (I.up u) Q fun v H2 d u2 => k v H2 d (u.trans u2)
    | false => rw [if_neg (by decide)]; exact k _ _ _ u (.bl false) (c2 rfl)
theorem wp_orV (h : wpE K fd ta env fun d => ∃ b, d = .bool b ∧ (b = true → C (.bool true)) ∧ (b = false → wpE K fd tb env C)) : wpE K fd (tOrV ta tb) env C := fun F σ H I Q k =>
  h F σ H I _ fun x H1 d u r c => by
    obtain ⟨b, rfl, c1, c2⟩ := c
    cases r
    refine ⟨b, rfl, ?_⟩
    cases b with
    | true => rw [if_pos rfl]; exact k _ _ _ u (.bl true) (c1 rfl)
    | false => rw [if_neg (by decide)]; exact c2 rfl F σ H1 (I.up u) Q fun v H2 d u2 => k v H2 d (u.trans u2)
theorem wp_notV (h : wpE K fd ta env fun d => ∃ b, d = .bool b ∧ C (.bool (!b))) : wpE K fd (tNotV ta) env C := fun F σ H I Q k =>
  h F σ H I _ fun x H1 d u r c => by
    obtain ⟨b, rfl, c⟩ := c
    cases r
    exact ⟨b, rfl, k _ _ _ u (.bl _) c⟩
end
end Dn

namespace Dn
open PySem L2 Evl
section
variable {K : Frag} {fd : Ad} {env : List Sl} {te ta tb tc : TE} {C : PyData → Prop} {CL : List PyData → Prop}
/-! ## operators -/
theorem opd_ii {f : Int → Int → Int} {i j : Int} (c : C (.int (f i j))) : OpD K (rI0 fun i j => .int (f i j)) (.int i) (.int j) C := fun F H x y th rx ry Q k => by
  cases rx; cases ry; exact ⟨i, j, rfl, rfl, k _ H _ (Ex.refl H) (.int _) c⟩
theorem opd_ib {f : Int → Int → Bool} {i j : Int} (c : C (.bool (f i j))) : OpD K (rI0 fun i j => .bl (f i j)) (.int i) (.int j) C := fun F H x y th rx ry Q k => by
  cases rx; cases ry; exact ⟨i, j, rfl, rfl, k _ H _ (Ex.refl H) (.bl _) c⟩
theorem opd_I {Cc : Int → Int → Prop} {f : Int → Int → Int} {i j : Int} (hc : Cc i j) (c : C (.int (f i j))) : OpD K (rI Cc fun i j => .int (f i j)) (.int i) (.int j) C := fun F H x y th rx ry Q k => by
  cases rx; cases ry; exact ⟨i, j, rfl, rfl, hc, k _ H _ (Ex.refl H) (.int _) c⟩
theorem opd_eqI {i j : Int} (c : C (.bool (decide (i = j)))) : OpD K rEq (.int i) (.int j) C := fun F H x y th rx ry Q k => by
  cases rx; cases ry
  refine ⟨rfl, ?_⟩
  have e : decide (V.int i = V.int j) = decide (i = j) := by
    by_cases z : i = j
    · subst z; simp
    · rw [decide_eq_false z, decide_eq_false fun q => z (V.int.inj q)]
  rw [e]
  exact k _ H _ (Ex.refl H) (.bl _) c
theorem opd_neI {i j : Int} (c : C (.bool (!decide (i = j)))) : OpD K rNe (.int i) (.int j) C := fun F H x y th rx ry Q k => by
  cases rx; cases ry
  refine ⟨rfl, ?_⟩
  have e : decide (V.int i = V.int j) = decide (i = j) := by
    by_cases z : i = j
    · subst z; simp
    · rw [decide_eq_false z, decide_eq_false fun q => z (V.int.inj q)]
  rw [e]
  exact k _ H _ (Ex.refl H) (.bl _) c
theorem opd_eqS {i j : Str} (c : C (.bool (decide (i = j)))) : OpD K rEq (.str i) (.str j) C := fun F H x y th rx ry Q k => by
  cases rx; cases ry
  refine ⟨rfl, ?_⟩
  have e : decide (V.str i = V.str j) = decide (i = j) := by
    by_cases z : i = j
    · subst z; simp
    · rw [decide_eq_false z, decide_eq_false fun q => z (V.str.inj q)]
  rw [e]
  exact k _ H _ (Ex.refl H) (.bl _) c
theorem opd_neS {i j : Str} (c : C (.bool (!decide (i = j)))) : OpD K rNe (.str i) (.str j) C := fun F H x y th rx ry Q k => by
  cases rx; cases ry
  refine ⟨rfl, ?_⟩
  have e : decide (V.str i = V.str j) = decide (i = j) := by
    by_cases z : i = j
    · subst z; simp
    · rw [decide_eq_false z, decide_eq_false fun q => z (V.str.inj q)]
  rw [e]
  exact k _ H _ (Ex.refl H) (.bl _) c
/-- data that may be compared -/
def cmp (d : PyData) : Bool := plain d && SeqAt.shaped d
theorem opd_eqD {a b : PyData} (ha : cmp a = true) (hb : cmp b = true) (c : C (.bool (PyData.eqv a b))) : OpD K (rEqD K) a b C := fun F H x y th rx ry Q k => by
  unfold cmp at ha hb; rw [Bool.and_eq_true] at ha hb
  exact ⟨a, b, toDp (dmono off_full rx) ha.1, toDp (dmono off_full ry) hb.1, ha.2, hb.2, k _ H _ (Ex.refl H) (.bl _) c⟩
theorem opd_neD {a b : PyData} (ha : cmp a = true) (hb : cmp b = true) (c : C (.bool (!PyData.eqv a b))) : OpD K (rNeD K) a b C := fun F H x y th rx ry Q k => by
  unfold cmp at ha hb; rw [Bool.and_eq_true] at ha hb
  exact ⟨a, b, toDp (dmono off_full rx) ha.1, toDp (dmono off_full ry) hb.1, ha.2, hb.2, k _ H _ (Ex.refl H) (.bl _) c⟩
theorem opd_inD {a : PyData} {ds : List PyData} (ha : cmp a = true) (hb : cmp (.list ds) = true) (c : C (.bool (ds.any fun z => PyData.eqv z a))) : OpD K (rInD K) a (.list ds) C := fun F H x y th rx ry Q k => by
  unfold cmp at ha hb; rw [Bool.and_eq_true] at ha hb
  exact ⟨a, ds, toDp (dmono off_full rx) ha.1, toDp (dmono off_full ry) hb.1, ha.2, hb.2, k _ H _ (Ex.refl H) (.bl _) c⟩
theorem opd_ninD {a : PyData} {ds : List PyData} (ha : cmp a = true) (hb : cmp (.list ds) = true) (c : C (.bool (!ds.any fun z => PyData.eqv z a))) : OpD K (rNotInD K) a (.list ds) C := fun F H x y th rx ry Q k => by
  unfold cmp at ha hb; rw [Bool.and_eq_true] at ha hb
  exact ⟨a, ds, toDp (dmono off_full rx) ha.1, toDp (dmono off_full ry) hb.1, ha.2, hb.2, k _ H _ (Ex.refl H) (.bl _) c⟩
theorem opd_catA {xs ys : List PyData} (hz : xs.length + ys.length ≤ 100000) (c : C (.tuple (xs ++ ys))) : OpD K (rCatA K) (.tuple xs) (.tuple ys) C := fun F H x y th rx ry Q k => by
  cases rx with
  | @tup a us _ sa ra =>
    cases ry with
    | @tup b ws _ sb rb =>
      have la := all_len ra
      have lb := all_len rb
      refine ⟨a, b, us, ws, rfl, rfl, ex_t off_full sa, ex_t off_full sb, sz_of (by omega), fun e => ?_, fun _ e => ?_, fun _ _ p hp => ?_⟩
      · subst e
        have e2 : xs = [] := List.eq_nil_of_length_eq_zero (by rw [← la]; rfl)
        subst e2
        exact k _ H _ (Ex.refl H) (.tup sb rb) c
      · subst e
        have e2 : ys = [] := List.eq_nil_of_length_eq_zero (by rw [← lb]; rfl)
        subst e2
        rw [List.append_nil] at c
        exact k _ H _ (Ex.refl H) (.tup sa ra) c
      · exact k _ _ _ (Ex.new hp) (new_tup th hp (all_app ra rb)) c
theorem opd_ixL {xs : List PyData} {i : Int} {d : PyData} (e : atI xs i = some d) (c : C d) : OpD K (rIxL K) (.list xs) (.int i) C := fun F H x y th rx ry Q k => by
  cases ry
  cases rx with
  | @lst a us _ sa ra =>
    obtain ⟨v, h1, h2⟩ := all_at ra e
    exact ⟨a, us, i, v, rfl, rfl, sq_of (off_full _ _ sa), h1, k v H d (Ex.refl H) h2 c⟩
theorem opd_ixT {xs : List PyData} {i : Int} {d : PyData} (e : atI xs i = some d) (c : C d) : OpD K (rIxT K) (.tuple xs) (.int i) C := fun F H x y th rx ry Q k => by
  cases ry
  cases rx with
  | @tup a us _ sa ra =>
    obtain ⟨v, h1, h2⟩ := all_at ra e
    exact ⟨a, us, i, v, rfl, rfl, ex_t off_full sa, h1, k v H d (Ex.refl H) h2 c⟩
theorem opd_ixS {z : Str} {i : Int} {ch : Nat} (hz : z.length ≤ 100000) (e : atI z.cps.toList i = some ch) (c : C (.str ⟨#[ch]⟩)) : OpD K rIxS (.str z) (.int i) C := fun F H x y th rx ry Q k => by
  cases ry; cases rx
  exact ⟨z, i, ch, rfl, rfl, sz_of hz, e, k _ H _ (Ex.refl H) (.str _) c⟩
theorem opd_catS {x y : Str} (hz : x.length + y.length ≤ 100000) (c : C (.str (x ++ y))) : OpD K (fun x y H Q => ∃ i j, x = .str i ∧ y = .str j ∧ i.length + j.length ≤ sizeLine ∧ Q (.str (i ++ j)) H) (.str x) (.str y) C := fun F H a b th rx ry Q k => by
  cases ry; cases rx
  exact ⟨x, y, rfl, rfl, sz_of hz, k _ H _ (Ex.refl H) (.str _) c⟩
/-- .. that give a new list -/
def OpN (K : Frag) (r : R2) (a b : PyData) (C : List PyData → Prop) : Prop :=
  ∀ (F : Ad) (H : Hp) (x y : V), (∀ a, F a → H a ≠ none) → Dr K (off F H) x a → Dr K (off F H) y b → ∀ Q : VK, (∀ p vs H2 ds, H p = none → Ex H H2 → H2 p = some (.lst vs) → DrAll K (off (fun a => F a ∨ a = p) H2) vs ds → C ds → Q (.ref p) H2) → r x y H Q
theorem wpN_op {r : R2} (h : wpE K fd ta env fun a => wpE K fd tb env fun b => OpN K r a b CL) : wpN K fd (tOp r ta tb) env CL := fun F σ H I Q k =>
  h F σ H I _ fun x H1 a u1 ra q1 => q1 F σ H1 (I.up u1) _ fun y H2 b u2 rb q2 => q2 F H2 x y ((I.up u1).up u2).there (dmono ((I.up u1).see u2) ra) rb Q fun p vs H3 ds hp e e1 r c =>
    k p vs H3 ds (none_back I.there I.fdF (u1.trans u2) hp) ((u1.trans u2).trans (.ex u2.feed e)) e1 r c
theorem opn_cat {xs ys : List PyData} (hz : xs.length + ys.length ≤ 100000) (c : CL (xs ++ ys)) : OpN K rCat (.list xs) (.list ys) CL := fun F H x y th rx ry Q k => by
  cases rx with
  | @lst a us _ sa ra =>
    cases ry with
    | @lst b ws _ sb rb =>
      refine ⟨a, b, us, ws, rfl, rfl, off_full _ _ sa, off_full _ _ sb, sz_of (by rw [all_len ra, all_len rb]; exact hz), fun p hp => ?_⟩
      exact k p _ _ _ hp (Ex.new hp) upd_same (new_all hp (all_app ra rb)) c
theorem rep_all {G : Hp} {vs : List V} {ds : List PyData} (h : DrAll K G vs ds) : ∀ n : Nat, DrAll K G (List.replicate n vs).flatten (List.replicate n ds).flatten
  | 0 => .nil
  | n + 1 => by
    rw [List.replicate_succ, List.replicate_succ, List.flatten_cons, List.flatten_cons]
    exact all_app h (rep_all h n)
/-! ## calls of built-ins -/
theorem cad_lenL {xs : List PyData} (c : C (.int (xs.length : Int))) : CaD K (rLenS K) [.list xs] C := fun F H vs th r Q k => by
  cases r with
  | cons a b =>
    cases b
    cases a with
    | @lst a us _ sa ra => exact ⟨a, us, rfl, .inl (sq_of (off_full _ _ sa)), by rw [all_len ra]; exact k _ H _ (Ex.refl H) (.int _) c⟩
theorem cad_lenT {xs : List PyData} (c : C (.int (xs.length : Int))) : CaD K (rLenS K) [.tuple xs] C := fun F H vs th r Q k => by
  cases r with
  | cons a b =>
    cases b
    cases a with
    | @tup a us _ sa ra => exact ⟨a, us, rfl, .inr (ex_t off_full sa), by rw [all_len ra]; exact k _ H _ (Ex.refl H) (.int _) c⟩
def rInt1 : List V → Hp → VK → Prop := fun xs H Q => (∃ i, xs = [.int i] ∧ Q (.int i) H) ∨ ∃ k, xs = [.bl k] ∧ Q (.int (if k then 1 else 0)) H
theorem cad_int {i : Int} (c : C (.int i)) : CaD K rInt1 [.int i] C := fun F H vs th r Q k => by
  cases r with
  | cons a b => cases b; cases a; exact .inl ⟨i, rfl, k _ H _ (Ex.refl H) (.int _) c⟩
def rAbs : List V → Hp → VK → Prop := fun xs H Q => ∃ i, xs = [.int i] ∧ Q (.int (if i < 0 then -i else i)) H
theorem cad_abs {i : Int} (c : C (.int (if i < 0 then -i else i))) : CaD K rAbs [.int i] C := fun F H vs th r Q k => by
  cases r with
  | cons a b => cases b; cases a; exact ⟨i, rfl, k _ H _ (Ex.refl H) (.int _) c⟩
theorem cad_max2 {i j : Int} (c : C (.int (if j > i then j else i))) : CaD K rMax2 [.int i, .int j] C := fun F H vs th r Q k => by
  cases r with
  | cons a b =>
    cases b with
    | cons b e => cases e; cases a; cases b; exact ⟨i, j, rfl, k _ H _ (Ex.refl H) (.int _) c⟩
def rMin2 : List V → Hp → VK → Prop := fun xs H Q => ∃ i j, xs = [.int i, .int j] ∧ Q (.int (if j < i then j else i)) H
theorem cad_min2 {i j : Int} (c : C (.int (if j < i then j else i))) : CaD K rMin2 [.int i, .int j] C := fun F H vs th r Q k => by
  cases r with
  | cons a b =>
    cases b with
    | cons b e => cases e; cases a; cases b; exact ⟨i, j, rfl, k _ H _ (Ex.refl H) (.int _) c⟩
theorem can_listL {xs : List PyData} (c : CL xs) : CaN K (rListS K) [.list xs] CL := fun F H vs th r Q k => by
  cases r with
  | cons a b =>
    cases b
    cases a with
    | @lst a us _ sa ra => exact ⟨a, us, rfl, .inl (sq_of (off_full _ _ sa)), fun l hl => k l us _ xs hl (Ex.new hl) upd_same (new_all hl ra) c⟩
theorem can_listT {xs : List PyData} (c : CL xs) : CaN K (rListS K) [.tuple xs] CL := fun F H vs th r Q k => by
  cases r with
  | cons a b =>
    cases b
    cases a with
    | @tup a us _ sa ra => exact ⟨a, us, rfl, .inr (ex_t off_full sa), fun l hl => k l us _ xs hl (Ex.new hl) upd_same (new_all hl ra) c⟩
def rTupOf (K : Frag) : List V → Hp → VK → Prop := fun xs H Q => ∃ p ys, xs = [.ref p] ∧ ((SqL K H p ys ∧ ∀ l, H l = none → Q (.ref l) (upd H l (.tup ys))) ∨ (SqT K H p ys ∧ Q (.ref p) H))
theorem cad_tupL {xs : List PyData} (c : C (.tuple xs)) : CaD K (rTupOf K) [.list xs] C := fun F H vs th r Q k => by
  cases r with
  | cons a b =>
    cases b
    cases a with
    | @lst a us _ sa ra => exact ⟨a, us, rfl, .inl ⟨sq_of (off_full _ _ sa), fun l hl => k _ _ _ (Ex.new hl) (new_tup th hl ra) c⟩⟩
theorem cad_sum {ns : List Int} (c : C (.int ns.sum)) : CaD K (rSum K) [.list (ns.map .int)] C := fun F H vs th r Q k => by
  cases r with
  | cons a b =>
    cases b
    cases a with
    | @lst a us _ sa ra =>
      have e := all_ints ra
      subst e
      exact ⟨a, ns, rfl, sq_of (off_full _ _ sa), k _ H _ (Ex.refl H) (.int _) c⟩
theorem cad_max {ns : List Int} (h0 : 0 < ns.length) (c : ∀ m, m ∈ ns → (∀ y, y ∈ ns → y ≤ m) → C (.int m)) : CaD K (rMax K) [.list (ns.map .int)] C := fun F H vs th r Q k => by
  cases r with
  | cons a b =>
    cases b
    cases a with
    | @lst a us _ sa ra =>
      have e := all_ints ra
      subst e
      exact ⟨a, ns, rfl, sq_of (off_full _ _ sa), h0, fun m h1 h2 => k _ H _ (Ex.refl H) (.int _) (c m h1 h2)⟩
theorem cad_all {bs : List Bool} (c : C (.bool (bs.all id))) : CaD K (rAll K) [.list (bs.map .bool)] C := fun F H vs th r Q k => by
  cases r with
  | cons a b =>
    cases b
    cases a with
    | @lst a us _ sa ra =>
      have e := all_bools ra
      subst e
      exact ⟨a, bs, rfl, sq_of (off_full _ _ sa), k _ H _ (Ex.refl H) (.bl _) c⟩
/-! ## slices, chains, truth -/
def wpO (K : Frag) (fd : Ad) (to : TO) (env : List Sl) (C : Option Int → Prop) : Prop :=
  ∀ (F : Ad) (σ : L2.St) (H : Hp), EnvOk K fd F σ H env → ∀ Q : Option Int → Hp → Prop, (∀ o H2, Up fd H H2 → C o → Q o H2) → to σ H Q
theorem wpO_none {CO : Option Int → Prop} (c : CO none) : wpO K fd tNoPart env CO := fun F σ H I Q k => k none H (.refl I.feed) c
theorem wpO_some {CO : Option Int → Prop} (h : wpE K fd te env fun d => ∃ i, d = .int i ∧ CO (some i)) : wpO K fd (tPart te) env CO := fun F σ H I Q k =>
  h F σ H I _ fun x H1 d u r c => by
    obtain ⟨i, rfl, c⟩ := c
    cases r
    exact ⟨i, rfl, k _ H1 u c⟩
theorem wpN_sl {tl th : TO} (h : wpE K fd te env fun d => wpO K fd tl env fun lo => wpO K fd th env fun hi => ∃ ds, d = .list ds ∧ CL (cut ds lo hi)) : wpN K fd (tSl (rSlL K) te tl th) env CL := fun F σ H I Q k =>
  h F σ H I _ fun x H1 d u1 r c1 => c1 F σ H1 (I.up u1) _ fun lo H2 u2 c2 => c2 F σ H2 ((I.up u1).up u2) _ fun hi H3 u3 c3 => by
    obtain ⟨ds, rfl, c⟩ := c3
    have r3 := dmono ((I.up u1).see (u2.trans u3)) r
    cases r3 with
    | @lst a us _ sa ra => exact ⟨a, us, rfl, sq_of (off_full _ _ sa), fun p hp => k p _ _ _ (none_back I.there I.fdF ((u1.trans u2).trans u3) hp) (((u1.trans u2).trans u3).trans (.ex u3.feed (Ex.new hp))) upd_same (new_all hp (all_cut ra lo hi)) c⟩
theorem wp_slT {tl th : TO} (h : wpE K fd te env fun d => wpO K fd tl env fun lo => wpO K fd th env fun hi => ∃ ds, d = .tuple ds ∧ C (.tuple (cut ds lo hi))) : wpE K fd (tSl (rSlA K) te tl th) env C := fun F σ H I Q k =>
  h F σ H I _ fun x H1 d u1 r c1 => c1 F σ H1 (I.up u1) _ fun lo H2 u2 c2 => c2 F σ H2 ((I.up u1).up u2) _ fun hi H3 u3 c3 => by
    obtain ⟨ds, rfl, c⟩ := c3
    have r3 := dmono ((I.up u1).see (u2.trans u3)) r
    cases r3 with
    | @tup a us _ sa ra =>
      refine ⟨a, us, rfl, ex_t off_full sa, fun e => ?_, fun _ p hp => k _ _ _ (((u1.trans u2).trans u3).trans (.ex u3.feed (Ex.new hp))) (new_tup (((I.up u1).up u2).up u3).there hp (all_cut ra lo hi)) c⟩
      have e2 : cut ds lo hi = ds := by
        unfold cut
        rw [← all_len ra, e.1, e.2, List.drop_zero, Nat.sub_zero, all_len ra, List.take_length]
      rw [e2] at c
      exact k _ _ _ ((u1.trans u2).trans u3) (.tup sa ra) c
theorem wp_chain {r r' : R2} (h : wpE K fd ta env fun a => wpE K fd tb env fun b => OpD K r a b fun d => ∃ k, d = .bool k ∧ (k = true → wpE K fd tc env fun c => OpD K r' b c C) ∧ (k = false → C (.bool false)))
    (hd : ∀ σ H Q, tChain r r' ta tb tc σ H Q = (ta σ H fun x H1 => tb σ H1 fun y H2 => r x y H2 fun z H3 => ∃ k, z = .bl k ∧ (if k = true then tc σ H3 (fun w H4 => r' y w H4 Q) else Q (.bl false) H3)) := by intros; rfl) : wpE K fd (tChain r r' ta tb tc) env C := fun F σ H I Q k => by
  rw [hd]
  refine h F σ H I _ fun x H1 a u1 ra q1 => q1 F σ H1 (I.up u1) _ fun y H2 b u2 rb q2 => q2 F H2 x y ((I.up u1).up u2).there (dmono ((I.up u1).see u2) ra) rb _ fun v H3 d e r3 c3 => ?_
  obtain ⟨kb, rfl, c1, c2⟩ := c3
  cases r3
  have u3 : Up fd H H3 := (u1.trans u2).trans (.ex u2.feed e)
  refine ⟨kb, rfl, ?_⟩
  cases kb with
  | false => rw [if_neg (by decide)]; exact k _ _ _ u3 (.bl _) (c2 rfl)
  | true =>
    rw [if_pos rfl]
    have I3 := I.up u3
    exact c1 rfl F σ H3 I3 _ fun w H4 c u4 rc q4 => q4 F H4 y w (I3.up u4).there (dmono (Ex.trans (off_exE e) (I3.see u4)) rb) rc Q fun v H5 d e5 r5 c5 => k v H5 d ((u3.trans u4).trans (.ex u4.feed e5)) r5 c5
def tTr (K : Frag) (ta : TE) : TT := fun σ H Q => ta σ H fun x H' => ∃ k, TruV K x H' k ∧ Q k H'
theorem wpT_tr {CB : Bool → Prop} (h : wpE K fd ta env fun d => (∃ ds, (d = .list ds ∨ d = .tuple ds) ∧ CB (!ds.isEmpty)) ∨ (∃ b, d = .bool b ∧ CB b) ∨ (∃ i, d = .int i ∧ CB (i != 0)) ∨ (d = .none ∧ CB false)) : wpT K fd (tTr K ta) env CB := fun F σ H I Q k =>
  h F σ H I _ fun x H1 d u r c => by
    rcases c with ⟨ds, rfl | rfl, c⟩ | ⟨b, rfl, c⟩ | ⟨i, rfl, c⟩ | ⟨rfl, c⟩
    · cases r with
      | @lst a us _ sa ra =>
        have e : (!us.isEmpty) = !ds.isEmpty := by cases ra <;> rfl
        exact ⟨_, .inl ⟨us, sq_of (off_full _ _ sa), rfl⟩, k _ H1 u (by rw [e]; exact c)⟩
    · cases r with
      | @tup a us _ sa ra =>
        have e : (!us.isEmpty) = !ds.isEmpty := by cases ra <;> rfl
        exact ⟨_, .inr (.inl ⟨us, ex_t off_full sa, rfl⟩), k _ H1 u (by rw [e]; exact c)⟩
    · cases r; exact ⟨b, rfl, k _ H1 u c⟩
    · cases r; exact ⟨_, rfl, k _ H1 u c⟩
    · cases r; exact ⟨false, rfl, k _ H1 u c⟩
def isNone : PyData → Bool
  | .none => true
  | _ => false
theorem isNone_eq {G : Hp} {x : V} {d : PyData} (r : Dr K G x d) : decide (x = V.non) = isNone d := by cases r <;> rfl
theorem opd_isN {d : PyData} (c : C (.bool (isNone d))) : OpD K (fun x y H Q => y = .non ∧ Q (.bl (decide (x = .non))) H) d .none C := fun F H x y th rx ry Q k => by
  cases ry
  refine ⟨rfl, ?_⟩
  rw [isNone_eq rx]
  exact k _ H _ (Ex.refl H) (.bl _) c
theorem opd_notN {d : PyData} (c : C (.bool (!isNone d))) : OpD K (fun x y H Q => y = .non ∧ Q (.bl (!decide (x = .non))) H) d .none C := fun F H x y th rx ry Q k => by
  cases ry
  refine ⟨rfl, ?_⟩
  rw [isNone_eq rx]
  exact k _ H _ (Ex.refl H) (.bl _) c
/-! ## contracts -/
/-- a def that changes nothing that stood: G says for which data and results -/
def spP (K : Frag) (G : List PyData → (PyData → Prop) → Prop) : Sp := fun vs H Q _ => ∃ (F : Ad) (ds : List PyData) (C : PyData → Prop), (∀ a, F a → H a ≠ none) ∧ DrAll K (off F H) vs ds ∧ G ds C ∧
  ∀ r H' d, Ex H H' → Dr K (off F H') r d → C d → Q r H'
/-- a def that draws from the feed, its first argument -/
def spF (K : Frag) (G : List PyData → (PyData → Prop) → Prop) : Sp := fun vs H Q _ => ∃ (f : Addr) (ws : List V) (F : Ad) (ds : List PyData) (C : PyData → Prop), vs = .ref f :: ws ∧ F f ∧ Feed (fun a => a = f) H ∧ (∀ a, F a → H a ≠ none) ∧ DrAll K (off F H) ws ds ∧ G ds C ∧
  ∀ r H' d, Up (fun a => a = f) H H' → Dr K (off F H') r d → C d → Q r H'
theorem wp_call {G : List PyData → (PyData → Prop) → Prop} {E : XK} {tas : TA} (h : wpA K fd tas env fun ds => G ds C) : wpE K fd (tCall (spP K G) [] E tas) env C := fun F σ H I Q k =>
  h F σ H I _ fun vs H1 ds u r g => by
    show spP K G (vs ++ []) H1 Q E
    rw [List.append_nil]
    exact ⟨F, ds, C, (I.up u).there, r, g, fun r H' d e rd c => k r H' d (u.trans (.ex u.feed e)) rd c⟩
theorem wp_callF {f : Addr} {G : List PyData → (PyData → Prop) → Prop} {E : XK} {tas : TA} {i : Nat} (e : env[i]? = some (.fed f)) (hfd : fd = fun a => a = f) (h : wpA K fd tas env fun ds => G ds C) : wpE K fd (tCall (spF K G) [] E (tCons (tVar i) tas)) env C := fun F σ H I Q k => by
  subst hfd
  obtain ⟨o, h1, h2⟩ := I.get e
  cases o with
  | none => exact False.elim h2
  | some v =>
    obtain ⟨rfl, _⟩ := h2
    refine ⟨_, h1, h F σ H I _ fun vs H1 ds u r g => ?_⟩
    show spF K G ((V.ref f :: vs) ++ []) H1 Q E
    rw [List.append_nil]
    exact ⟨f, vs, F, ds, C, rfl, I.fdF f rfl, u.feed, (I.up u).there, r, g, fun r H' d u2 rd c => k r H' d (u.trans u2) rd c⟩
end
end Dn

namespace Dn
open PySem L2 Evl
section
variable {K : Frag} {fd : Ad} {env : List Sl} {te ta tb tc : TE} {C : PyData → Prop} {CL : List PyData → Prop}
/-! ## own lists as plain data -/
def unown1 : Sl → Sl
  | .own _ ds => .dat (.list ds)
  | x => x
def unown (env : List Sl) : List Sl := env.map unown1
def own1 : Sl → List Addr → List Addr
  | .own p _, l => p :: l
  | _, l => l
def ownd : List Sl → List Addr
  | [] => []
  | x :: env => own1 x (ownd env)
theorem own1_mem {x : Sl} {l : List Addr} {q : Addr} (h : q ∈ l) : q ∈ own1 x l := by
  cases x with
  | own p ds => exact List.mem_cons_of_mem _ h
  | no => exact h
  | dat d => exact h
  | fed f => exact h
  | raw v => exact h
theorem mem_ownd {p : Addr} {ds : List PyData} : ∀ {env : List Sl} {i : Nat}, env[i]? = some (.own p ds) → p ∈ ownd env
  | [], i, e => by simp at e
  | y :: env, 0, e => by
    have ey : y = .own p ds := Option.some.inj e
    subst ey
    exact List.mem_cons_self ..
  | y :: env, i + 1, e => own1_mem (mem_ownd (env := env) (i := i) e)
theorem ownd_get {p : Addr} : ∀ {env : List Sl}, p ∈ ownd env → ∃ (i : Nat) (ds : List PyData), env[i]? = some (.own p ds)
  | [], h => by cases h
  | y :: env, h => by
    have step : p ∈ ownd env → ∃ (i : Nat) (ds : List PyData), (y :: env)[i]? = some (.own p ds) := fun h => by
      obtain ⟨i, ds, e⟩ := ownd_get h
      exact ⟨i + 1, ds, e⟩
    cases y with
    | own q ds =>
      rcases List.mem_cons.mp (show p ∈ q :: ownd env from h) with h | h
      · subst h; exact ⟨0, ds, rfl⟩
      · exact step h
    | no => exact step h
    | dat d => exact step h
    | fed f => exact step h
    | raw v => exact step h
theorem EnvOk.unown {F F0 : Ad} {σ : L2.St} {H : Hp} (h : EnvOk K fd F σ H env) (s : ∀ a, F0 a → F a) (f : ∀ a, fd a → F0 a) (n : ∀ p, p ∈ ownd env → ¬ F0 p) : EnvOk K fd F0 σ H (unown env) where
  there := fun a q => h.there a (s a q)
  fdF := f
  feed := h.feed
  len := by rw [h.len]; unfold Dn.unown; rw [List.length_map]
  slot := fun i o x e1 e2 => by
    unfold Dn.unown at e2
    rw [List.getElem?_map] at e2
    cases e3 : env[i]? with
    | none => rw [e3] at e2; cases e2
    | some y =>
      rw [e3] at e2
      have e2 : unown1 y = x := Option.some.inj e2
      have q := h.slot i o y e1 e3
      cases y with
      | no => subst e2; cases o <;> exact True.intro
      | dat d =>
        subst e2
        cases o with
        | none => exact q
        | some v => exact dmono (off_less s) q
      | own p ds =>
        subst e2
        cases o with
        | none => exact q
        | some v =>
          obtain ⟨rfl, h2, h3, vs, h4, h5⟩ := q
          exact .lst (by rw [off_ne (n p (mem_ownd e3))]; exact h4) (dmonoAll (off_less s) h5)
      | fed f => subst e2; cases o <;> exact q
      | raw w => subst e2; cases o <;> exact q
theorem EnvOk.ownNfd {F : Ad} {σ : L2.St} {H : Hp} (I : EnvOk K fd F σ H env) {p : Addr} (hp : p ∈ ownd env) : ¬ fd p := by
  obtain ⟨i, ds, e⟩ := ownd_get hp
  obtain ⟨o, e1, q⟩ := I.get e
  cases o with
  | none => exact False.elim q
  | some v => exact q.2.2.1
theorem EnvOk.un1 {F : Ad} {σ : L2.St} {H : Hp} (I : EnvOk K fd F σ H env) : EnvOk K fd (fun a => F a ∧ ¬ a ∈ ownd env) σ H (Dn.unown env) :=
  I.unown (fun a q => q.1) (fun a q => ⟨I.fdF a q, fun z => I.ownNfd z q⟩) (fun p hp z => z.2 hp)
/-- a test read with the own lists as plain data -/
theorem wpT_unown {tt : TT} {CB : Bool → Prop} (h : wpT K fd tt (unown env) CB) : wpT K fd tt env CB := fun F σ H I Q k => h _ σ H I.un1 Q k
/-- an expression likewise, its value flat -/
theorem wpE_unown (h : wpE K fd te (unown env) fun d => flat d = true ∧ C d) : wpE K fd te env C := fun F σ H I Q k =>
  h _ σ H I.un1 Q fun v H2 d u r c => k v H2 d u (dflat c.1 r) c.2
/-! ## statements -/
structure Po where
  nx : List Sl → Prop
  rt : PyData → Prop
  bk : List Sl → Prop := fun _ => False
  ct : List Sl → Prop := fun _ => False
  /-- an own list is handed back -/
  ow : List PyData → Prop := fun _ => False
/-- within a def that began at H0, F0 hidden from it -/
structure StOk (K : Frag) (fd F0 : Ad) (H0 : Hp) (σ : L2.St) (H : Hp) (env : List Sl) : Prop where
  ev : EnvOk K fd (fun a => F0 a ∨ a ∈ ownd env) σ H env
  old : ∀ a o, ¬ fd a → H0 a = some o → H a = some o
  th0 : ∀ a, F0 a → H0 a ≠ none
  fd0 : ∀ a, fd a → F0 a
  fresh : ∀ p, p ∈ ownd env → H0 p = none
  nd : (ownd env).Nodup
structure Fin (K : Frag) (fd F0 : Ad) (H0 : Hp) (H : Hp) : Prop where
  up : Up fd H0 H
/-- the ends of a statement, told by data -/
structure DOk (K : Frag) (fd F0 : Ad) (H0 : Hp) (D : Ends) (P : Po) : Prop where
  nx : ∀ σ H env, P.nx env → StOk K fd F0 H0 σ H env → D.nx σ H
  bk : ∀ σ H env, P.bk env → StOk K fd F0 H0 σ H env → D.bk σ H
  ct : ∀ σ H env, P.ct env → StOk K fd F0 H0 σ H env → D.ct σ H
  rt : ∀ v H d, P.rt d → Up fd H0 H → Dr K (off F0 H) v d → D.rt v H
  ow : ∀ p vs H ds, P.ow ds → H0 p = none → Up fd H0 H → H p = some (.lst vs) → DrAll K (off (fun a => F0 a ∨ a = p) H) vs ds → D.rt (.ref p) H
def wpS (K : Frag) (fd : Ad) (t : TS) (env : List Sl) (P : Po) : Prop :=
  ∀ (F0 : Ad) (H0 : Hp) (σ : L2.St) (H : Hp), StOk K fd F0 H0 σ H env → ∀ D : Ends, DOk K fd F0 H0 D P → t D σ H
section
variable {F0 : Ad} {H0 H H' : Hp} {σ : L2.St} {P : Po} {t u : TS}
theorem StOk.upE (h : StOk K fd F0 H0 σ H env) (u : Up fd H H') : StOk K fd F0 H0 σ H' env :=
  ⟨h.ev.up u, fun a o n e => u.keep a o n (h.old a o n e), h.th0, h.fd0, h.fresh, h.nd⟩
theorem StOk.all (h : StOk K fd F0 H0 σ H env) : Up fd H0 H := ⟨h.old, h.ev.feed⟩
theorem StOk.un (h : StOk K fd F0 H0 σ H env) : EnvOk K fd F0 σ H (unown env) := h.ev.unown (fun a q => .inl q) h.fd0 fun p hp q => h.th0 p q (h.fresh p hp)
theorem SlOk.less {F G : Ad} {o : Option V} {x : Sl} (s : ∀ a, G a → F a) (n : ∀ p ds, x = .own p ds → G p) (h : SlOk K fd F H o x) : SlOk K fd G H o x := by
  cases x with
  | no => cases o <;> exact True.intro
  | dat d =>
    cases o with
    | none => exact h
    | some v => exact dmono (off_less s) h
  | own p ds =>
    cases o with
    | none => exact h
    | some v =>
      obtain ⟨h1, h2, h3, vs, h4, h5⟩ := h
      exact ⟨h1, n p ds rfl, h3, vs, h4, dmonoAll (off_less s) h5⟩
  | fed f => cases o <;> exact h
  | raw w => cases o <;> exact h
theorem own1_sub {x : Sl} {l l' : List Addr} (h : l.Sublist l') : (own1 x l).Sublist (own1 x l') := by
  cases x with
  | own p ds => exact h.cons₂ p
  | no => exact h
  | dat d => exact h
  | fed f => exact h
  | raw v => exact h
theorem own1_sup {x : Sl} {l : List Addr} : l.Sublist (own1 x l) := by
  cases x with
  | own p ds => exact List.sublist_cons_self _ _
  | no => exact List.Sublist.refl _
  | dat d => exact List.Sublist.refl _
  | fed f => exact List.Sublist.refl _
  | raw v => exact List.Sublist.refl _
theorem own1_not {x : Sl} {l : List Addr} (hx : ∀ p ds, x ≠ .own p ds) : own1 x l = l := by
  cases x with
  | own p ds => exact absurd rfl (hx p ds)
  | no => rfl
  | dat d => rfl
  | fed f => rfl
  | raw v => rfl
theorem ownd_sub {x : Sl} (hx : ∀ p ds, x ≠ .own p ds) : ∀ {env : List Sl} {i : Nat}, (ownd (env.set i x)).Sublist (ownd env)
  | [], i => by simp
  | y :: env, 0 => by
    show (own1 x (ownd env)).Sublist (own1 y (ownd env))
    rw [own1_not hx]
    exact own1_sup
  | y :: env, i + 1 => own1_sub (ownd_sub hx (env := env) (i := i))
/-- a slot takes what is not an own list -/
theorem StOk.set (h : StOk K fd F0 H0 σ H env) {i : Nat} {v : V} {x : Sl} (hx : SlOk K fd (fun a => F0 a ∨ a ∈ ownd env) H (some v) x) (hn : ∀ p ds, x ≠ .own p ds) : StOk K fd F0 H0 (σ.set i (some v)) H (env.set i x) := by
  have sub := ownd_sub hn (env := env) (i := i)
  have I := h.ev.set (i := i) hx
  refine ⟨⟨fun a q => I.there a (q.imp id fun z => sub.subset z), fun a q => .inl (h.fd0 a q), I.feed, I.len, fun j o y e1 e2 => (I.slot j o y e1 e2).less (fun a q => q.imp id fun z => sub.subset z) fun p ds e => ?_⟩, h.old, h.th0, h.fd0, fun p hp => h.fresh p (sub.subset hp), h.nd.sublist sub⟩
  subst e
  exact .inr (mem_ownd e2)
theorem wpS_seq (h : wpS K fd t env { P with nx := fun env' => wpS K fd u env' P }) : wpS K fd (tSeq t u) env P := fun F0 H0 σ H I D k =>
  h F0 H0 σ H I _ ⟨fun σ' H' env' q I' => q F0 H0 σ' H' I' D k, k.bk, k.ct, k.rt, k.ow⟩
theorem wpS_next (h : P.nx env) : wpS K fd tNext env P := fun F0 H0 σ H I D k => k.nx σ H env h I
theorem wpS_brk (h : P.bk env) : wpS K fd tBreak env P := fun F0 H0 σ H I D k => k.bk σ H env h I
theorem wpS_cnt (h : P.ct env) : wpS K fd tCont env P := fun F0 H0 σ H I D k => k.ct σ H env h I
theorem wpS_asg {i : Nat} (h : wpE K fd te env fun d => P.nx (env.set i (.dat d))) : wpS K fd (tAsg te (gName i)) env P := fun F0 H0 σ H I D k =>
  h _ σ H I.ev _ fun v H2 d u r c => k.nx _ _ _ c ((I.upE u).set (x := .dat d) r (fun p ds e => by cases e))
theorem wpS_drop (h : wpE K fd te env fun d => P.nx env) : wpS K fd (tDrop te) env P := fun F0 H0 σ H I D k =>
  h _ σ H I.ev _ fun v H2 d u r c => k.nx _ _ _ c (I.upE u)
theorem wpS_ret (h : wpE K fd te (unown env) P.rt) : wpS K fd (tRet te) env P := fun F0 H0 σ H I D k =>
  h _ σ H I.un _ fun v H2 d u r c => k.rt v H2 d c (I.all.trans u) r
theorem wpS_retN (h : P.rt .none) : wpS K fd tRetN env P := fun F0 H0 σ H I D k => k.rt _ H _ h I.all .non
theorem wpS_if {tt : TT} (h : wpT K fd tt env fun b => (b = true → wpS K fd t env P) ∧ (b = false → wpS K fd u env P)) : wpS K fd (tIfS tt t u) env P := fun F0 H0 σ H I D k =>
  h _ σ H I.ev _ fun b H2 up c => by
    cases b with
    | true => rw [if_pos rfl]; exact c.1 rfl F0 H0 σ H2 (I.upE up) D k
    | false => rw [if_neg (by decide)]; exact c.2 rfl F0 H0 σ H2 (I.upE up) D k
theorem wpS_never : wpS K fd tNever env P → wpS K fd tNever env P := id
/-- what a def's body gives when control falls off its end -/
theorem wpS_imp {P' : Po} (h : wpS K fd t env P) (h1 : ∀ e, P.nx e → P'.nx e) (h2 : ∀ d, P.rt d → P'.rt d) (h3 : ∀ e, P.bk e → P'.bk e) (h4 : ∀ e, P.ct e → P'.ct e) (h5 : ∀ d, P.ow d → P'.ow d) : wpS K fd t env P' := fun F0 H0 σ H I D k =>
  h F0 H0 σ H I D ⟨fun σ H e q => k.nx σ H e (h1 e q), fun σ H e q => k.bk σ H e (h3 e q), fun σ H e q => k.ct σ H e (h4 e q), fun v H d q => k.rt v H d (h2 d q), fun p vs H d q => k.ow p vs H d (h5 d q)⟩
/-! own lists -/
theorem own1_or {x : Sl} {l : List Addr} {q : Addr} (h : q ∈ own1 x l) : (∃ ds, x = .own q ds) ∨ q ∈ l := by
  cases x with
  | own p ds =>
    rcases List.mem_cons.mp (show q ∈ p :: l from h) with h | h
    · subst h; exact .inl ⟨ds, rfl⟩
    · exact .inr h
  | no => exact .inr h
  | dat d => exact .inr h
  | fed f => exact .inr h
  | raw v => exact .inr h
theorem ownd_set_own {p : Addr} {ds : List PyData} {q : Addr} : ∀ {env : List Sl} {i : Nat}, q ∈ ownd (env.set i (.own p ds)) → q = p ∨ q ∈ ownd env
  | [], i, h => by simp [ownd] at h
  | y :: env, 0, h => by
    rcases List.mem_cons.mp (show q ∈ p :: ownd env from h) with h | h
    · exact .inl h
    · exact .inr (own1_mem h)
  | y :: env, i + 1, h => by
    rcases own1_or (show q ∈ own1 y (ownd (env.set i (.own p ds))) from h) with ⟨es, e⟩ | h
    · subst e; exact .inr (List.mem_cons_self ..)
    · exact (ownd_set_own h).imp id own1_mem
theorem nodup_set_own {p : Addr} {ds : List PyData} : ∀ {env : List Sl} {i : Nat}, (ownd env).Nodup → ¬ p ∈ ownd env → (ownd (env.set i (.own p ds))).Nodup
  | [], i, h, n => by simp [ownd]
  | y :: env, 0, h, n => List.nodup_cons.mpr ⟨fun z => n (own1_mem z), h.sublist own1_sup⟩
  | y :: env, i + 1, h, n => by
    have ih := nodup_set_own (p := p) (ds := ds) (env := env) (i := i) (h.sublist own1_sup) fun z => n (own1_mem z)
    cases y with
    | own p' ds' =>
      refine List.nodup_cons.mpr ⟨fun z => ?_, ih⟩
      rcases ownd_set_own z with e | z
      · exact n (List.mem_cons.mpr (.inl e.symm))
      · exact (List.nodup_cons.mp (show (p' :: ownd env).Nodup from h)).1 z
    | no => exact ih
    | dat d => exact ih
    | fed f => exact ih
    | raw v => exact ih
theorem SlOk.more {F G : Ad} {o : Option V} {x : Sl} (s : ∀ a, G a → F a ∨ H a = none) (n : ∀ p ds, x = .own p ds → G p) (h : SlOk K fd F H o x) : SlOk K fd G H o x := by
  have e : Ex (off F H) (off G H) := fun a o e => by
    obtain ⟨n1, e1⟩ := off_some e
    rw [off_ne fun q => (s a q).elim n1 fun z => by rw [z] at e1; cases e1]
    exact e1
  cases x with
  | no => cases o <;> exact True.intro
  | dat d =>
    cases o with
    | none => exact h
    | some v => exact dmono e h
  | own p ds =>
    cases o with
    | none => exact h
    | some v =>
      obtain ⟨h1, h2, h3, vs, h4, h5⟩ := h
      exact ⟨h1, n p ds rfl, h3, vs, h4, dmonoAll e h5⟩
  | fed f => cases o <;> exact h
  | raw w => cases o <;> exact h
theorem StOk.newOwn {i : Nat} {H2 : Hp} {p : Addr} {vs : List V} {ds : List PyData} (I : StOk K fd F0 H0 σ H env) (u : Up fd H H2) (hp : H p = none) (e : H2 p = some (.lst vs)) (r : DrAll K (off (fun a => (F0 a ∨ a ∈ ownd env) ∨ a = p) H2) vs ds) :
    StOk K fd F0 H0 (σ.set i (some (.ref p))) H2 (env.set i (.own p ds)) := by
  have I2 := I.upE u
  have np : H0 p = none := none_back I.th0 I.fd0 I.all hp
  have nfd : ¬ fd p := fun z => by
    obtain ⟨d, m, q, _⟩ := I.ev.feed p z
    rw [q] at hp; cases hp
  have nown : ¬ p ∈ ownd env := fun z => I.ev.there p (.inr z) hp
  have lt : (ownd (env.set i (.own p ds))).Nodup := nodup_set_own I.nd nown
  have hid : ∀ a, (F0 a ∨ a ∈ ownd (env.set i (.own p ds))) → ((F0 a ∨ a ∈ ownd env) ∨ a = p) := fun a q => by
    rcases q with q | q
    · exact .inl (.inl q)
    · rcases ownd_set_own q with q | q
      · exact .inr q
      · exact .inl (.inr q)
  refine ⟨⟨fun a q => ?_, fun a q => .inl (I.fd0 a q), I2.ev.feed, by rw [List.length_set, List.length_set]; exact I2.ev.len, fun j o y e1 e2 => ?_⟩, I2.old, I.th0, I.fd0, fun q hq => ?_, lt⟩
  · rcases hid a q with q | q
    · exact I2.ev.there a q
    · subst q; rw [e]; intro z; cases z
  · by_cases hj : i = j
    · subst hj
      have l1 : i < σ.length := by have := (List.getElem?_eq_some_iff.mp e1).1; rwa [List.length_set] at this
      have l2 : i < env.length := by have := (List.getElem?_eq_some_iff.mp e2).1; rwa [List.length_set] at this
      have m : p ∈ ownd (env.set i (.own p ds)) := mem_ownd (i := i) (ds := ds) (List.getElem?_set_self l2)
      rw [List.getElem?_set_self l1] at e1
      rw [List.getElem?_set_self l2] at e2
      cases e1; cases e2
      exact ⟨rfl, .inr m, nfd, vs, e, dmonoAll (off_less hid) r⟩
    · have e2' := e2
      rw [List.getElem?_set_ne hj] at e1 e2
      -- the slot was told ahead of the new list: it stands in H, carried to H2
      have q0 := I.ev.slot j o y e1 e2
      have q1 : SlOk K fd (fun a => F0 a ∨ a ∈ ownd (env.set i (.own p ds))) H o y := q0.more (fun a z => (hid a z).imp id fun z => by rw [z]; exact hp) fun p' ds' z => by
        subst z; exact .inr (mem_ownd e2')
      refine q1.up (fun a z => .inl (I.fd0 a z)) u
  · rcases ownd_set_own hq with z | z
    · rw [z]; exact np
    · exact I.fresh q z
theorem wpS_own {i : Nat} (h : wpN K fd te env fun ds => ∀ p, P.nx (env.set i (.own p ds))) : wpS K fd (tAsg te (gName i)) env P := fun F0 H0 σ H I D k =>
  h _ σ H I.ev _ fun p vs H2 ds hp u e r c => k.nx _ _ _ (c p) (I.newOwn u hp e r)
theorem ownd_same {p : Addr} {ds es : List PyData} : ∀ {env : List Sl} {i : Nat}, env[i]? = some (.own p ds) → ownd (env.set i (.own p es)) = ownd env
  | [], i, e => by simp at e
  | y :: env, 0, e => by
    have ey : y = .own p ds := Option.some.inj e
    subst ey
    rfl
  | y :: env, i + 1, e => congrArg (own1 y) (ownd_same (env := env) (i := i) e)
theorem own_apart {p : Addr} : ∀ {env : List Sl} {i j : Nat} {ds ds' : List PyData}, i ≠ j → env[i]? = some (.own p ds) → env[j]? = some (.own p ds') → ¬ (ownd env).Nodup
  | [], i, j, ds, ds', _, e, _, _ => by simp at e
  | y :: env, 0, 0, ds, ds', hij, _, _, _ => hij rfl
  | y :: env, 0, j + 1, ds, ds', hij, e, e', nd => by
    have ey : y = .own p ds := Option.some.inj e
    subst ey
    exact (List.nodup_cons.mp (show (p :: ownd env).Nodup from nd)).1 (mem_ownd (i := j) e')
  | y :: env, i + 1, 0, ds, ds', hij, e, e', nd => by
    have ey : y = .own p ds' := Option.some.inj e'
    subst ey
    exact (List.nodup_cons.mp (show (p :: ownd env).Nodup from nd)).1 (mem_ownd (i := i) e)
  | y :: env, i + 1, j + 1, ds, ds', hij, e, e', nd => own_apart (env := env) (i := i) (j := j) (fun z => hij (by rw [z])) e e' (nd.sublist own1_sup)
/-- an own list is changed -/
theorem StOk.mut (h : StOk K fd F0 H0 σ H env) {i : Nat} {p : Addr} {ds es : List PyData} {vs ws : List V} (e : env[i]? = some (.own p ds)) (r : DrAll K (off (fun a => F0 a ∨ a ∈ ownd env) H) ws es) : StOk K fd F0 H0 σ (upd H p (.lst ws)) (env.set i (.own p es)) := by
  obtain ⟨o, e1, q⟩ := h.ev.get e
  have hi : i < env.length := (List.getElem?_eq_some_iff.mp e).1
  have hm : p ∈ ownd env := mem_ownd e
  have oe : ∀ q, q ∈ ownd (env.set i (.own p es)) ↔ q ∈ ownd env := by
    intro q
    refine ⟨fun z => (ownd_set_own z).elim (fun z => z ▸ hm) id, fun z => ?_⟩
    obtain ⟨j, fs, ej⟩ := ownd_get z
    by_cases hj : i = j
    · subst hj
      rw [e] at ej
      have eq : p = q := by injection ej with ej; injection ej
      subst eq
      exact mem_ownd (i := i) (List.getElem?_set_self hi)
    · exact mem_ownd (i := j) (by rw [List.getElem?_set_ne hj]; exact ej)
  have ehid : (fun a => F0 a ∨ a ∈ ownd (env.set i (.own p es))) = (fun a => F0 a ∨ a ∈ ownd env) := by
    funext a
    exact propext ⟨fun z => z.imp id (oe a).mp, fun z => z.imp id (oe a).mpr⟩
  cases o with
  | none => exact False.elim q
  | some v =>
    obtain ⟨rfl, h2, h3, us, h4, h5⟩ := q
    have eoff : off (fun a => F0 a ∨ a ∈ ownd env) (upd H p (.lst ws)) = off (fun a => F0 a ∨ a ∈ ownd env) H := by
      funext a
      by_cases z : F0 a ∨ a ∈ ownd env
      · rw [off_in (S := fun a => F0 a ∨ a ∈ ownd env) z, off_in (S := fun a => F0 a ∨ a ∈ ownd env) z]
      · rw [off_ne (S := fun a => F0 a ∨ a ∈ ownd env) z, off_ne (S := fun a => F0 a ∨ a ∈ ownd env) z, upd_ne (show a ≠ p from fun w => z (.inr (by rw [w]; exact hm)))]
    have hn : ownd (env.set i (.own p es)) = ownd env := ownd_same e
    refine ⟨?_, fun a o n z => ?_, h.th0, h.fd0, fun q hq => h.fresh q ((oe q).mp hq), by rw [hn]; exact h.nd⟩
    · rw [ehid]
      refine ⟨fun a z => ?_, h.ev.fdF, fun f z => ?_, by rw [List.length_set]; exact h.ev.len, fun j o y a1 a2 => ?_⟩
      · by_cases w : a = p
        · rw [w, upd_same]; intro c; cases c
        · rw [upd_ne w]; exact h.ev.there a z
      · obtain ⟨d, m, a1, a2⟩ := h.ev.feed f z
        exact ⟨d, m, by rw [upd_ne (show f ≠ p from fun w => h3 (by rw [← w]; exact z))]; exact a1, a2⟩
      · by_cases hj : i = j
        · subst hj
          rw [List.getElem?_set_self hi] at a2
          rw [e1] at a1
          cases a1; cases a2
          exact ⟨rfl, h2, h3, ws, upd_same, by rw [eoff]; exact r⟩
        · rw [List.getElem?_set_ne hj] at a2
          have z := h.ev.slot j o y a1 a2
          cases y with
          | no => cases o <;> exact True.intro
          | dat d =>
            cases o with
            | none => exact z
            | some v =>
              show Dr K (off _ _) v d
              rw [eoff]; exact z
          | own p' ds' =>
            cases o with
            | none => exact z
            | some v =>
              obtain ⟨b1, b2, b3, us', b4, b5⟩ := z
              have hne : p' ≠ p := fun w => by
                subst w
                exact own_apart hj e a2 h.nd
              exact ⟨b1, b2, b3, us', by rw [upd_ne hne]; exact b4, by rw [eoff]; exact b5⟩
          | fed f => cases o <;> exact z
          | raw w => cases o <;> exact z
    · have w : a ≠ p := fun c => by rw [c, h.fresh p hm] at z; cases z
      rw [upd_ne w]
      exact h.old a o n z
theorem StOk.slotOwn (h : StOk K fd F0 H0 σ H env) {i : Nat} {p : Addr} {ds : List PyData} (e : env[i]? = some (.own p ds)) : σ[i]? = some (some (.ref p)) ∧ ∃ vs, H p = some (.lst vs) ∧ DrAll K (off (fun a => F0 a ∨ a ∈ ownd env) H) vs ds := by
  obtain ⟨o, e1, q⟩ := h.ev.get e
  cases o with
  | none => exact False.elim q
  | some v =>
    obtain ⟨rfl, h2, h3, us, h4, h5⟩ := q
    exact ⟨e1, us, h4, h5⟩
/-- return xs, xs an own list -/
theorem wpS_retOwn {i : Nat} {p : Addr} {ds : List PyData} (e : env[i]? = some (.own p ds)) (h : P.ow ds) : wpS K fd (tRet (tVar i)) env P := fun F0 H0 σ H I D k => by
  obtain ⟨e1, us, h4, h5⟩ := I.slotOwn e
  exact ⟨_, e1, k.ow p us H ds h (I.fresh p (mem_ownd e)) I.all h4 (dmonoAll (off_less fun a q => q.imp id fun z => by rw [z]; exact mem_ownd e) h5)⟩
theorem wpS_retNew (h : wpN K fd te (unown env) P.ow) : wpS K fd (tRet te) env P := fun F0 H0 σ H I D k =>
  h _ σ H I.un _ fun p vs H2 ds hp u e r c => k.ow p vs H2 ds c (none_back I.th0 I.fd0 I.all hp) (I.all.trans u) e r
/-- xs.append(e), xs an own list -/
theorem wpS_append {i : Nat} {p : Addr} {ds : List PyData} (e : env[i]? = some (.own p ds)) (hz : ds.length < 100000) (h : wpE K fd te env fun d => P.nx (env.set i (.own p (ds ++ [d])))) :
    wpS K fd (tDrop (tBM K "list" rAppend (tVar i) (tCons te tNil))) env P := fun F0 H0 σ H I D k => by
  obtain ⟨e1, us, h4, h5⟩ := I.slotOwn e
  refine ⟨_, e1, .inl ⟨rfl, _, SqL.of h4⟩, h _ σ H I.ev _ fun v H2 d u r c => ?_⟩
  have I2 := I.upE u
  obtain ⟨e1', us', h4', h5'⟩ := I2.slotOwn e
  refine ⟨p, us', v, rfl, rfl, h4', sz_lt (by rw [all_len h5']; exact hz), ?_⟩
  exact k.nx _ _ _ c (I2.mut (vs := us') e (all_app h5' (all_one r)))
end
end
end Dn

namespace Dn
open PySem L2 Evl
section
variable {K : Frag} {fd : Ad} {env : List Sl} {te ta tb tc : TE} {C : PyData → Prop} {CL : List PyData → Prop}
/-! ## targets: what is put where -/
def asgE (env : List Sl) (as : List (Nat × PyData)) : List Sl := as.foldl (fun e p => e.set p.1 (.dat p.2)) env
def asgV (σ : L2.St) (as : List (Nat × V)) : L2.St := as.foldl (fun e p => e.set p.1 (some p.2)) σ
inductive PairA (K : Frag) (G : Hp) : List (Nat × V) → List (Nat × PyData) → Prop
  | nil : PairA K G [] []
  | cons {i : Nat} {v : V} {d : PyData} {ws : List (Nat × V)} {as : List (Nat × PyData)} : Dr K G v d → PairA K G ws as → PairA K G ((i, v) :: ws) ((i, d) :: as)
theorem PairA.app {G : Hp} {ws xs : List (Nat × V)} {as bs : List (Nat × PyData)} (h : PairA K G ws as) (q : PairA K G xs bs) : PairA K G (ws ++ xs) (as ++ bs) := by
  induction h with
  | nil => exact q
  | cons a _ ih => exact .cons a ih
theorem PairA.fst {G : Hp} {ws : List (Nat × V)} {as : List (Nat × PyData)} (h : PairA K G ws as) : ws.map (·.1) = as.map (·.1) := by
  induction h with
  | nil => rfl
  | cons a _ ih => simp [ih]
def gD (K : Frag) (g : TG) (d : PyData) (as : List (Nat × PyData)) : Prop :=
  ∀ (S : Ad) (H : Hp) (σ : L2.St) (v : V) (N : L2.St → Hp → Prop), Dr K (off S H) v d → (∀ ws, PairA K (off S H) ws as → N (asgV σ ws) H) → g v σ H N
def gsD (K : Frag) (g : TGs) (ds : List PyData) (as : List (Nat × PyData)) : Prop :=
  ∀ (S : Ad) (H : Hp) (σ : L2.St) (vs : List V) (N : L2.St → Hp → Prop), DrAll K (off S H) vs ds → (∀ ws, PairA K (off S H) ws as → N (asgV σ ws) H) → g vs σ H N
theorem gD_name {i : Nat} {d : PyData} : gD K (gName i) d [(i, d)] := fun S H σ v N r k => k [(i, v)] (.cons r .nil)
theorem gsD_nil : gsD K gNil [] [] := fun S H σ vs N r k => by cases r; exact ⟨rfl, k [] .nil⟩
theorem gsD_cons {g : TG} {gs : TGs} {d : PyData} {ds : List PyData} {as bs : List (Nat × PyData)} (h : gD K g d as) (q : gsD K gs ds bs) : gsD K (gCons g gs) (d :: ds) (as ++ bs) := fun S H σ vs N r k => by
  cases r with
  | cons a b => exact ⟨_, _, rfl, h S H σ _ _ a fun ws p => q S H _ _ N b fun xs p2 => by
      have z := k (ws ++ xs) (p.app p2)
      unfold asgV at z ⊢
      rw [List.foldl_append] at z
      exact z⟩
theorem gD_tup {n : Nat} {gs : TGs} {ds : List PyData} {as : List (Nat × PyData)} (h : gsD K gs ds as) (hn : ds.length = n) : gD K (gTup K n gs) (.tuple ds) as := fun S H σ v N r k => by
  cases r with
  | @tup a us _ sa ra => exact ⟨a, us, rfl, ex_t off_full sa, by rw [all_len ra]; exact hn, h S H σ us N ra k⟩
theorem EnvOk.asg {F : Ad} {H : Hp} {ws : List (Nat × V)} {as : List (Nat × PyData)} (p : PairA K (off F H) ws as) : ∀ {σ : L2.St} {env : List Sl}, EnvOk K fd F σ H env → EnvOk K fd F (asgV σ ws) H (asgE env as) := by
  induction p with
  | nil => exact fun h => h
  | cons a _ ih => exact fun h => ih (h.set (x := .dat _) a)
theorem StOk.asg {F0 : Ad} {H0 H : Hp} {G : Hp} {ws : List (Nat × V)} {as : List (Nat × PyData)} (p : PairA K G ws as) : ∀ {σ : L2.St} {env : List Sl}, StOk K fd F0 H0 σ H env → Ex G (off (fun a => F0 a ∨ a ∈ ownd env) H) → StOk K fd F0 H0 (asgV σ ws) H (asgE env as) := by
  induction p with
  | nil => exact fun h _ => h
  | cons a _ ih =>
    intro σ env h e
    refine ih (h.set (x := .dat _) (dmono e a) fun p ds z => by cases z) (e.trans (off_less fun a q => q.imp id fun z => (ownd_sub (fun p ds z => by cases z)).subset z))
theorem wpS_asgT {g : TG} {P : Po} (h : wpE K fd te env fun d => ∃ as, gD K g d as ∧ P.nx (asgE env as)) : wpS K fd (tAsg te g) env P := fun F0 H0 σ H I D k =>
  h _ σ H I.ev _ fun v H2 d u r c => by
    obtain ⟨as, hg, c⟩ := c
    exact hg _ H2 σ v _ r fun ws p => k.nx _ _ _ c ((I.upE u).asg p (Ex.refl _))
/-! ## what is walked -/
structure ItD (K : Frag) (F : Ad) (J : It) (H : Hp) (ds : List PyData) : Prop where
  go : ∀ i H', Ex (off F H) H' → i < ds.length → J.go i H'
  stop : ∀ i H', Ex (off F H) H' → ds.length ≤ i → J.stop i H'
  yld : ∀ i x H' H'', Ex (off F H) H' → i < ds.length → J.yld i H' x H'' → ∃ d, ds[i]? = some d ∧ Ex H' H'' ∧ ∀ G, Ex (off F H) G → (∀ a o, H' a = none → H'' a = some o → G a = some o) → Dr K G x d
def wpI (K : Frag) (fd : Ad) (wi : TI) (env : List Sl) (C : List PyData → Prop) : Prop :=
  ∀ (F : Ad) (σ : L2.St) (H : Hp), EnvOk K fd F σ H env → ∀ R : It → Hp → Prop, (∀ J H2 ds, Up fd H H2 → ItD K F J H2 ds → C ds → R J H2) → wi σ H R
theorem sql_one {H : Hp} {a : Addr} {xs ys : List V} (h : H a = some (.lst xs)) (e : K.lookup a = none) (q : SqL K H a ys) : ys = xs := by
  rcases q with (q | ⟨o, q⟩) | ⟨o, its, n, q, _⟩
  · rw [h] at q; injection q with q; injection q with q; exact q.symm
  · rw [h] at q; cases q
  · rw [e] at q; cases q
theorem wpI_list (h : wpE K fd te env fun d => ∃ ds, d = .list ds ∧ CL ds) : wpI K fd (iList K te) env CL := fun F σ H I R k =>
  h F σ H I _ fun v H2 d u r c => by
    obtain ⟨ds, rfl, c⟩ := c
    cases r with
    | @lst a us _ sa ra =>
      have hl := all_len ra
      refine ⟨a, rfl, ⟨us, sq_of (off_full _ _ sa)⟩, k _ H2 ds u ⟨fun i H' e hi => ?_, fun i H' e hi => ⟨us, sq_of (e _ _ sa), by rw [hl]; exact hi⟩, fun i x H' H'' e hi y => ?_⟩ c⟩
      · have hi' : i < us.length := by rw [hl]; exact hi
        exact ⟨us, us[i], sq_of (e _ _ sa), List.getElem?_eq_getElem hi'⟩
      · obtain ⟨rfl, y⟩ := y
        obtain ⟨d, e1, e2⟩ := all_get' ra (y us (sq_of (e _ _ sa)))
        exact ⟨d, e1, Ex.refl _, fun G g _ => dmono g e2⟩
theorem wpI_tup (h : wpE K fd te env fun d => ∃ ds, d = .tuple ds ∧ CL ds) : wpI K fd (iTup K te) env CL := fun F σ H I R k =>
  h F σ H I _ fun v H2 d u r c => by
    obtain ⟨ds, rfl, c⟩ := c
    cases r with
    | @tup a us _ sa ra =>
      have hl := all_len ra
      refine ⟨a, rfl, ⟨us, ex_t off_full sa⟩, k _ H2 ds u ⟨fun i H' e hi => ?_, fun i H' e hi => ⟨us, ex_t e sa, by rw [hl]; exact hi⟩, fun i x H' H'' e hi y => ?_⟩ c⟩
      · have hi' : i < us.length := by rw [hl]; exact hi
        exact ⟨us, us[i], ex_t e sa, List.getElem?_eq_getElem hi'⟩
      · obtain ⟨rfl, y⟩ := y
        obtain ⟨d, e1, e2⟩ := all_get' ra (y us (ex_t e sa))
        exact ⟨d, e1, Ex.refl _, fun G g _ => dmono g e2⟩
def rng (lo : Int) (n : Nat) : List PyData := (List.range n).map fun (k : Nat) => PyData.int (lo + (k : Int))
theorem rng_len {lo : Int} {n : Nat} : (rng lo n).length = n := by unfold rng; rw [List.length_map, List.length_range]
theorem rng_get {lo : Int} {n i : Nat} (h : i < n) : (rng lo n)[i]? = some (.int (lo + (i : Int))) := by
  unfold rng
  rw [List.getElem?_map, List.getElem?_range h]
  rfl
theorem itd_rng {F : Ad} {lo : Int} {n : Nat} {H : Hp} : ItD K F (Itr lo n) H (rng lo n) :=
  ⟨fun i H' e hi => by rw [rng_len] at hi; exact hi, fun i H' e hi => by rw [rng_len] at hi; exact hi, fun i x H' H'' e hi y => by
    obtain ⟨rfl, rfl⟩ := y
    rw [rng_len] at hi
    exact ⟨_, rng_get hi, Ex.refl _, fun G _ _ => .int _⟩⟩
theorem wpI_rng1 {ta : TA} (h : wpA K fd ta env fun ds => ∃ j : Int, ds = [.int j] ∧ -(2 ^ 62) ≤ j ∧ j < 2 ^ 62 ∧ CL (rng 0 j.toNat)) : wpI K fd (iRng1 ta) env CL := fun F σ H I R k =>
  h F σ H I _ fun vs H1 ds u r c => by
    obtain ⟨j, rfl, h1, h2, c⟩ := c
    cases r with
    | cons a b => cases b; cases a; exact ⟨j, rfl, h1, h2, k _ H1 _ u itd_rng c⟩
theorem wpI_rng2 {ta : TA} (h : wpA K fd ta env fun ds => ∃ i j : Int, ds = [.int i, .int j] ∧ (-(2 ^ 62) ≤ i ∧ i < 2 ^ 62 ∧ -(2 ^ 62) ≤ j ∧ j < 2 ^ 62) ∧ CL (rng i (j - i).toNat)) : wpI K fd (iRng2 ta) env CL := fun F σ H I R k =>
  h F σ H I _ fun vs H1 ds u r c => by
    obtain ⟨i, j, rfl, h1, c⟩ := c
    cases r with
    | cons a b =>
      cases b with
      | cons b e => cases e; cases a; cases b; exact ⟨i, j, rfl, h1, k _ H1 _ u itd_rng c⟩
/-- (0, x), (1, y), .. -/
def enumD (ds : List PyData) : List PyData := ds.mapIdx fun k d => .tuple [.int (k : Int), d]
theorem enumD_len {ds : List PyData} : (enumD ds).length = ds.length := by unfold enumD; rw [List.length_mapIdx]
theorem enumD_get {ds : List PyData} {i : Nat} {d : PyData} (h : ds[i]? = some d) : (enumD ds)[i]? = some (.tuple [.int (i : Int), d]) := by
  unfold enumD
  rw [List.getElem?_mapIdx, h]
  rfl
theorem wpI_enum {ta : TA} (h : wpA K fd ta env fun ds => ∃ es, ds = [.list es] ∧ CL (enumD es)) : wpI K fd (iEnum K ta) env CL := fun F σ H I R k =>
  h F σ H I _ fun vs H2 ds u r c => by
    obtain ⟨es, rfl, c⟩ := c
    cases r with
    | cons r b =>
      cases b
      cases r with
      | @lst a us _ sa ra =>
        have hl := all_len ra
        refine ⟨a, us, rfl, sq_of (off_full _ _ sa), k _ H2 _ u ⟨fun i H' e hi => ?_, fun i H' e hi => ⟨us, sq_of (e _ _ sa), by rw [enumD_len] at hi; rw [hl]; exact hi⟩, fun i x H' H'' e hi y => ?_⟩ c⟩
        · rw [enumD_len] at hi
          have hi' : i < us.length := by rw [hl]; exact hi
          exact ⟨us, us[i], sq_of (e _ _ sa), List.getElem?_eq_getElem hi'⟩
        · obtain ⟨T, z, rfl, hT, rfl, y⟩ := y
          obtain ⟨d, e1, e2⟩ := all_get' ra (y us (sq_of (e _ _ sa)))
          refine ⟨_, enumD_get e1, Ex.new hT, fun G g g2 => .tup (st_of (g2 _ _ hT upd_same)) (.cons (.int _) (all_one (dmono g e2)))⟩
/-! ## for -/
section
variable {P : Po} {tb : TS} {g : TG} {wi : TI} {F0 : Ad} {H0 H H1 : Hp} {σ : L2.St}
/-- the same state, seen from here on: all that is seen now but the own lists must stay -/
theorem StOk.base (h : StOk K fd F0 H0 σ H env) : StOk K fd F0 (off (fun a => a ∈ ownd env) H) σ H env where
  ev := h.ev
  old := fun a o n e => (off_some e).2
  th0 := fun a q => by
    rw [off_ne (S := fun a => a ∈ ownd env) fun z => h.th0 a q (h.fresh a z)]
    exact h.ev.there a (.inl q)
  fd0 := h.fd0
  fresh := fun p hp => off_in (S := fun a => a ∈ ownd env) hp
  nd := h.nd
theorem fd_not_own (h : StOk K fd F0 H0 σ H env) {a : Addr} (q : fd a) : ¬ a ∈ ownd env := fun z => h.th0 a (h.fd0 a q) (h.fresh a z)
theorem base_up (h : StOk K fd F0 H0 σ H env) : Up fd H0 (off (fun a => a ∈ ownd env) H) where
  keep := fun a o n e => by
    rw [off_ne (S := fun a => a ∈ ownd env) fun z => by rw [h.fresh a z] at e; cases e]
    exact h.old a o n e
  feed := fun f q => by
    obtain ⟨d, m, e, r⟩ := h.ev.feed f q
    exact ⟨d, m, by rw [off_ne (S := fun a => a ∈ ownd env) (fd_not_own h q)]; exact e, r⟩
theorem StOk.back {H' H2 : Hp} {σ' : L2.St} {env' : List Sl} (u : Up fd H0 H1) (th : ∀ a, F0 a → H0 a ≠ none) (h : StOk K fd F0 H1 σ' H' env') : StOk K fd F0 H0 σ' H' env' where
  ev := h.ev
  old := fun a o n e => h.old a o n (u.keep a o n e)
  th0 := th
  fd0 := h.fd0
  fresh := fun p hp => none_back th h.fd0 u (h.fresh p hp)
  nd := h.nd
theorem DOk.base {D : Ends} (u : Up fd H0 H1) (th : ∀ a, F0 a → H0 a ≠ none) (hf : ∀ a, fd a → F0 a) (k : DOk K fd F0 H0 D P) : DOk K fd F0 H1 D P where
  nx := fun σ H e q I => k.nx σ H e q (I.back (H2 := H) u th)
  bk := fun σ H e q I => k.bk σ H e q (I.back (H2 := H) u th)
  ct := fun σ H e q I => k.ct σ H e q (I.back (H2 := H) u th)
  rt := fun v H d q u2 r => k.rt v H d q (u.trans u2) r
  ow := fun p vs H d q n u2 e r => k.ow p vs H d q (none_back th hf u n) (u.trans u2) e r
theorem see_base {H' : Hp} {σ' : L2.St} {env' : List Sl} (h : StOk K fd F0 H0 σ H env) (q : StOk K fd F0 (off (fun a => a ∈ ownd env) H) σ' H' env') : Ex (off (fun a => F0 a ∨ a ∈ ownd env) H) H' := fun a o e => by
  obtain ⟨n, e⟩ := off_some e
  exact q.old a o (fun z => n (.inl (h.fd0 a z))) (by rw [off_ne (S := fun a => a ∈ ownd env) fun z => n (.inr z)]; exact e)
theorem wpS_for {wi : TI} (h : wpI K fd wi env fun ds => ∃ I : Nat → List Sl → Prop, I 0 env ∧
    (∀ i d env', ds[i]? = some d → I i env' → ∃ as, gD K g d as ∧ wpS K fd tb (asgE env' as) { P with nx := I (i + 1), ct := I (i + 1), bk := P.nx }) ∧ ∀ env', I ds.length env' → P.nx env') :
    wpS K fd (tFor wi g tb) env P := fun F0 H0 σ H S D k =>
  h _ σ H S.ev _ fun J H2 ds u it c => by
    obtain ⟨I, i0, turn, last⟩ := c
    have S2 := S.upE u
    have ub := base_up S2
    have kb := k.base ub S.th0 S.fd0
    refine ⟨fun i m σ' H' => m = ds.length - i ∧ i ≤ ds.length ∧ ∃ env', I i env' ∧ StOk K fd F0 (off (fun a => a ∈ ownd env) H2) σ' H' env', ⟨ds.length, by simp, Nat.zero_le _, env, i0, S2.base⟩, ?_⟩
    rintro i m σ' H' ⟨rfl, hi, env', inv, S'⟩
    have e := see_base S2 S'
    by_cases hlt : i < ds.length
    · refine .inr ⟨it.go i H' e hlt, fun σ' H' => i + 1 ≤ ds.length ∧ ∃ env', I (i + 1) env' ∧ StOk K fd F0 (off (fun a => a ∈ ownd env) H2) σ' H' env', fun σ'' H'' ⟨a, b⟩ => ⟨ds.length - (i + 1), by omega, rfl, a, b⟩, fun x H'' y => ?_⟩
      obtain ⟨d, ed, ex, rd⟩ := it.yld i x H' H'' e hlt y
      obtain ⟨as, hg, hb⟩ := turn i d env' ed inv
      have u2 : Up fd H' H'' := .ex S'.ev.feed ex
      have S3 := S'.upE u2
      have z0 : Ex (off (fun a => F0 a ∨ a ∈ ownd env) H2) (off (fun a => F0 a ∨ a ∈ ownd env') H'') := fun a o q => by
        have q1 := ex _ _ (e _ _ q)
        obtain ⟨n, q2⟩ := off_some q
        rw [off_ne (S := fun a => F0 a ∨ a ∈ ownd env') fun z => ?_]
        · exact q1
        · rcases z with z | z
          · exact n (.inl z)
          · have f := S'.fresh a z
            rw [off_ne (S := fun a => a ∈ ownd env) fun z => n (.inr z), q2] at f
            cases f
      have r := rd (off (fun a => F0 a ∨ a ∈ ownd env') H'') z0 fun a o q1 q2 => by
        rw [off_ne (S := fun a => F0 a ∨ a ∈ ownd env') fun z => S'.ev.there a z q1]; exact q2
      refine hg _ H'' σ' x _ r fun ws p => ?_
      refine hb F0 _ _ H'' (S3.asg p (Ex.refl _)) _ ⟨fun σ H env q I => ⟨hlt, env, q, I⟩, kb.nx, fun σ H env q I => ⟨hlt, env, q, I⟩, kb.rt, kb.ow⟩
    · have ei : i = ds.length := Nat.le_antisymm hi (Nat.le_of_not_lt hlt)
      subst ei
      exact .inl ⟨it.stop _ H' e (Nat.le_refl _), kb.nx σ' H' env' (last env' inv) S'⟩
theorem wpS_while {c : TT} (I : Nat → List Sl → Prop) (m0 : Nat) (i0 : I m0 env) (turn : ∀ m env', I m env' → wpT K fd c env' fun b =>
    (b = true → wpS K fd tb env' { P with nx := fun e => ∃ m', m' < m ∧ I m' e, ct := fun e => ∃ m', m' < m ∧ I m' e, bk := P.nx }) ∧ (b = false → P.nx env')) : wpS K fd (tWhile c tb) env P := fun F0 H0 σ H S D k => by
  refine ⟨fun m σ H => ∃ env', I m env' ∧ StOk K fd F0 H0 σ H env', ⟨m0, env, i0, S⟩, ?_⟩
  rintro m σ' H' ⟨env', inv, S'⟩
  refine turn m env' inv _ σ' H' S'.ev _ fun b H2 u q => ?_
  have S2 := S'.upE u
  cases b with
  | true =>
    rw [if_pos rfl]
    refine ⟨fun σ H => ∃ m', m' < m ∧ ∃ env', I m' env' ∧ StOk K fd F0 H0 σ H env', fun σ H ⟨m', l, e⟩ => ⟨m', l, e⟩, ?_⟩
    exact q.1 rfl F0 H0 σ' H2 S2 _ ⟨fun σ H e ⟨m', l, i⟩ I => ⟨m', l, e, i, I⟩, k.nx, fun σ H e ⟨m', l, i⟩ I => ⟨m', l, e, i, I⟩, k.rt, k.ow⟩
  | false => rw [if_neg (by decide)]; exact k.nx _ _ _ (q.2 rfl) S2
end
/-! ## comprehensions -/
def wipeE (env : List Sl) : List Nat → List Sl
  | [] => env
  | v :: vs => (wipeE env vs).set v .no
theorem wipe_get {σ : L2.St} {j : Nat} : ∀ {vs : List Nat}, (wipe σ vs)[j]? = if j ∈ vs then (σ[j]?).map (fun _ => none) else σ[j]?
  | [] => by simp [wipe]
  | v :: vs => by
    have ih := wipe_get (σ := σ) (j := j) (vs := vs)
    unfold wipe
    by_cases hv : v = j
    · subst hv
      rw [if_pos (List.mem_cons_self ..)]
      by_cases hl : v < σ.length
      · rw [List.getElem?_set_self (by rw [wipe_length]; exact hl), List.getElem?_eq_getElem hl]
        rfl
      · rw [List.getElem?_eq_none (by rw [List.length_set, wipe_length]; omega), List.getElem?_eq_none (by omega)]
        rfl
    · rw [List.getElem?_set_ne hv, ih]
      by_cases hm : j ∈ vs
      · rw [if_pos hm, if_pos (List.mem_cons_of_mem _ hm)]
      · rw [if_neg hm, if_neg fun z => (List.mem_cons.mp z).elim (fun z => hv z.symm) hm]
theorem wipeE_len : ∀ {vs : List Nat}, (wipeE env vs).length = env.length
  | [] => rfl
  | v :: vs => by unfold wipeE; rw [List.length_set, wipeE_len]
theorem wipeE_get {j : Nat} : ∀ {vs : List Nat}, (wipeE env vs)[j]? = if j ∈ vs then (env[j]?).map (fun _ => .no) else env[j]?
  | [] => by simp [wipeE]
  | v :: vs => by
    have ih := wipeE_get (j := j) (vs := vs)
    unfold wipeE
    by_cases hv : v = j
    · subst hv
      rw [if_pos (List.mem_cons_self ..)]
      by_cases hl : v < env.length
      · rw [List.getElem?_set_self (by rw [wipeE_len]; exact hl), List.getElem?_eq_getElem hl]
        rfl
      · rw [List.getElem?_eq_none (by rw [List.length_set, wipeE_len]; omega), List.getElem?_eq_none (by omega)]
        rfl
    · rw [List.getElem?_set_ne hv, ih]
      by_cases hm : j ∈ vs
      · rw [if_pos hm, if_pos (List.mem_cons_of_mem _ hm)]
      · rw [if_neg hm, if_neg fun z => (List.mem_cons.mp z).elim (fun z => hv z.symm) hm]
theorem EnvOk.wipe {F : Ad} {σ : L2.St} {H : Hp} (h : EnvOk K fd F σ H env) (vs : List Nat) : EnvOk K fd F (L2.wipe σ vs) H (wipeE env vs) :=
  ⟨h.there, h.fdF, h.feed, by rw [wipe_length, wipeE_len]; exact h.len, fun j o x e1 e2 => by
    rw [wipe_get] at e1
    rw [wipeE_get] at e2
    by_cases hm : j ∈ vs
    · rw [if_pos hm] at e1 e2
      cases q : env[j]? with
      | none => rw [q] at e2; cases e2
      | some y =>
        rw [q] at e2
        have e2 : Sl.no = x := Option.some.inj e2
        subst e2
        cases o <;> exact True.intro
    · rw [if_neg hm] at e1 e2
      exact h.slot j o x e1 e2⟩
theorem asgV_len : ∀ {ws : List (Nat × V)} {σ : L2.St}, (asgV σ ws).length = σ.length
  | [], σ => rfl
  | w :: ws, σ => by
    have z := asgV_len (ws := ws) (σ := σ.set w.1 (some w.2))
    rw [List.length_set] at z
    exact z
theorem asgV_get {j : Nat} : ∀ {ws : List (Nat × V)} {σ : L2.St}, (∀ w, w ∈ ws → w.1 ≠ j) → (asgV σ ws)[j]? = σ[j]?
  | [], σ, _ => rfl
  | w :: ws, σ, h => by
    have z := asgV_get (j := j) (ws := ws) (σ := σ.set w.1 (some w.2)) fun x hx => h x (List.mem_cons_of_mem _ hx)
    rw [List.getElem?_set_ne (h w (List.mem_cons_self ..))] at z
    exact z
theorem wipe_asg {σ : L2.St} {ws : List (Nat × V)} {vs : List Nat} (h : ∀ w, w ∈ ws → w.1 ∈ vs) : wipe (asgV (wipe σ vs) ws) vs = wipe σ vs := by
  apply List.ext_getElem?
  intro j
  rw [wipe_get, wipe_get]
  by_cases hm : j ∈ vs
  · rw [if_pos hm, if_pos hm]
    by_cases hl : j < σ.length
    · rw [List.getElem?_eq_getElem (by rw [asgV_len, wipe_length]; exact hl), List.getElem?_eq_getElem hl]; rfl
    · rw [List.getElem?_eq_none (by rw [asgV_len, wipe_length]; omega), List.getElem?_eq_none (by omega)]
  · rw [if_neg hm, if_neg hm, asgV_get fun w hw z => hm (by rw [← z]; exact h w hw), wipe_get, if_neg hm]
theorem PairA.slots {G : Hp} {ws : List (Nat × V)} {as : List (Nat × PyData)} {vs : List Nat} (p : PairA K G ws as) (h : ∀ a, a ∈ as → a.1 ∈ vs) : ∀ w, w ∈ ws → w.1 ∈ vs := fun w hw => by
  have z : w.1 ∈ ws.map (·.1) := List.mem_map.mpr ⟨w, hw, rfl⟩
  rw [p.fst] at z
  obtain ⟨a, ha, e⟩ := List.mem_map.mp z
  rw [← e]; exact h a ha
theorem asgE_own {p : Addr} {ds : List PyData} {jj : Nat} : ∀ (as : List (Nat × PyData)) {E : List Sl}, (asgE E as)[jj]? = some (Sl.own p ds) → E[jj]? = some (Sl.own p ds)
  | [], E, h => h
  | a :: as, E, h => by
    have h2 := asgE_own as (E := E.set a.1 (.dat a.2)) h
    by_cases w : a.1 = jj
    · subst w
      by_cases l : a.1 < E.length
      · rw [List.getElem?_set_self l] at h2; cases h2
      · rw [List.getElem?_eq_none (by rw [List.length_set]; omega)] at h2; cases h2
    · rw [List.getElem?_set_ne w] at h2; exact h2
theorem wipeE_own {p : Addr} {ds : List PyData} {jj : Nat} {vs : List Nat} (z2 : (wipeE env vs)[jj]? = some (Sl.own p ds)) : env[jj]? = some (Sl.own p ds) := by
  rw [wipeE_get] at z2
  by_cases w : jj ∈ vs
  · rw [if_pos w] at z2
    cases e9 : env[jj]? with
    | none => rw [e9] at z2; cases z2
    | some y9 => rw [e9] at z2; cases z2
  · rw [if_neg w] at z2; exact z2
/-- the list that a comprehension grows -/
def AccAt (K : Frag) (F : Ad) (Dl : Addr) (H : Hp) (acc : List PyData) : Prop := ∃ vs, H Dl = some (.lst vs) ∧ DrAll K (off (fun a => F a ∨ a = Dl) H) vs acc
section
variable {F : Ad} {σ : L2.St} {H H1 H2 H3 : Hp} {Dl : Addr} {acc : List PyData}
theorem acc_env (I : EnvOk K fd F σ H env) (hD : H Dl = none) (u : Up fd H H2) (h : AccAt K F Dl H2 acc) : EnvOk K fd (fun a => F a ∨ a = Dl) σ H2 env :=
  ⟨fun a q => by
    rcases q with q | q
    · exact there_up I.there u a q
    · subst q
      obtain ⟨vs, e, _⟩ := h
      rw [e]; exact (fun z => nomatch z), fun a q => .inl (I.fdF a q), u.feed, I.len, fun j o x e1 e2 =>
    ((I.slot j o x e1 e2).more (fun a q => q.imp id fun z => by rw [z]; exact hD) fun p ds z => by
      subst z
      have q := I.slot j o _ e1 e2
      cases o with
      | none => exact False.elim q
      | some v => exact .inl q.2.1).up (fun a q => .inl (I.fdF a q)) u⟩
theorem acc_up (hn : ¬ fd Dl) (u : Up fd H2 H3) (hf : ∀ a, fd a → F a) (h : AccAt K F Dl H2 acc) : AccAt K F Dl H3 acc := by
  obtain ⟨vs, e, r⟩ := h
  exact ⟨vs, u.keep _ _ hn e, dmonoAll (off_ex (fun a q => .inl (hf a q)) u.keep) r⟩
theorem acc_push {y : V} {e : PyData} (h : AccAt K F Dl H acc) (r : Dr K (off (fun a => F a ∨ a = Dl) H) y e) : ∃ vs, H Dl = some (.lst vs) ∧ AccAt K F Dl (upd H Dl (.lst (vs ++ [y]))) (acc ++ [e]) ∧ vs.length = acc.length := by
  obtain ⟨vs, e1, r1⟩ := h
  have eoff : off (fun a => F a ∨ a = Dl) (upd H Dl (.lst (vs ++ [y]))) = off (fun a => F a ∨ a = Dl) H := by
    funext a
    by_cases z : F a ∨ a = Dl
    · rw [off_in (S := fun a => F a ∨ a = Dl) z, off_in (S := fun a => F a ∨ a = Dl) z]
    · rw [off_ne (S := fun a => F a ∨ a = Dl) z, off_ne (S := fun a => F a ∨ a = Dl) z, upd_ne (show a ≠ Dl from fun w => z (.inr w))]
  exact ⟨vs, e1, ⟨_, upd_same, by rw [eoff]; exact all_app r1 (all_one r)⟩, all_len r1⟩
end
theorem wpT_yes {CB : Bool → Prop} (c : CB true) : wpT K fd tYes env CB := fun F σ H I Q k => k _ _ (.refl I.feed) c
theorem wpN_lc {wi : TI} {g : TG} {tt : TT} {vs : List Nat} (h : wpI K fd wi env fun ds => ∃ Inv : Nat → List PyData → Prop, Inv 0 [] ∧
    (∀ i d acc, ds[i]? = some d → Inv i acc → ∃ as, gD K g d as ∧ (∀ a, a ∈ as → a.1 ∈ vs) ∧ wpT K fd tt (asgE (wipeE env vs) as) fun b =>
      (b = true → wpE K fd te (asgE (wipeE env vs) as) fun e => acc.length < 100000 ∧ Inv (i + 1) (acc ++ [e])) ∧ (b = false → Inv (i + 1) acc)) ∧ ∀ acc, Inv ds.length acc → CL acc) :
    wpN K fd (tLc wi g tt te vs) env CL := fun F σ H I Q k =>
  h F σ H I _ fun J H1 ds u it c => by
    obtain ⟨Inv, i0, turn, last⟩ := c
    intro D hD
    have hD0 : H D = none := none_back I.there I.fdF u hD
    have nfd : ¬ fd D := fun z => by
      obtain ⟨d, m, q, _⟩ := I.feed D z
      rw [q] at hD0; cases hD0
    refine ⟨fun i m H' => m = ds.length - i ∧ i ≤ ds.length ∧ ∃ acc, AccAt K F D H' acc ∧ Inv i acc ∧ Up fd H1 H', ⟨ds.length, by simp, Nat.zero_le _, [], ⟨[], upd_same, .nil⟩, i0, .ex u.feed (Ex.new hD)⟩, ?_⟩
    rintro i m H' ⟨rfl, hi, acc, ac, inv, u1⟩
    have e : Ex (off F H1) H' := fun a o q => by
      obtain ⟨n, q⟩ := off_some q
      exact u1.keep a o (fun z => n (I.fdF a z)) q
    by_cases hlt : i < ds.length
    · refine .inr ⟨it.go i H' e hlt, fun H' => i + 1 ≤ ds.length ∧ ∃ acc, AccAt K F D H' acc ∧ Inv (i + 1) acc ∧ Up fd H1 H', fun H'' ⟨a, b⟩ => ⟨ds.length - (i + 1), by omega, rfl, a, b⟩, fun x H'' y => ?_⟩
      obtain ⟨d, ed, ex, rd⟩ := it.yld i x H' H'' e hlt y
      obtain ⟨as, hg, hs, hb⟩ := turn i d acc ed inv
      have u2 : Up fd H' H'' := .ex u1.feed ex
      have ac2 := acc_up nfd u2 I.fdF ac
      have I2 := (acc_env I hD0 (u.trans (u1.trans u2)) ac2).wipe vs
      have r := rd (off (fun a => F a ∨ a = D) H'') (fun a o q => by
        obtain ⟨n, q1⟩ := off_some q
        rw [off_ne (S := fun a => F a ∨ a = D) fun z => z.elim n fun z => by rw [z, hD] at q1; cases q1]
        exact ex _ _ (e _ _ q)) fun a o q1 q2 => by
        rw [off_ne (S := fun a => F a ∨ a = D) fun z => ?_]
        · exact q2
        · rcases z with z | z
          · exact there_up I.there (u.trans u1) a z q1
          · obtain ⟨vs, e2, _⟩ := ac
            rw [z, e2] at q1; cases q1
      refine hg _ H'' (L2.wipe σ vs) x _ r fun ws p => ⟨wipe_asg (p.slots hs), ?_⟩
      have I3 := I2.asg p
      refine hb _ _ H'' I3 _ fun b H3 u3 q => ?_
      have ac3 := acc_up nfd u3 I.fdF ac2
      cases b with
      | true =>
        rw [if_pos rfl]
        refine q.1 rfl _ _ H3 (I3.up u3) _ fun yv H4 e4 u4 r4 q4 => ?_
        obtain ⟨vs4, h1, h2, h3⟩ := acc_push (acc_up nfd u4 I.fdF ac3) r4
        refine ⟨vs4, h1, sz_lt (by rw [h3]; exact q4.1), hlt, _, h2, q4.2, ?_⟩
        have uu := ((u1.trans u2).trans u3).trans u4
        exact ⟨fun a o n z => by rw [upd_ne (show a ≠ D from fun w => by rw [w, hD] at z; cases z)]; exact uu.keep a o n z, fun f z => by
          obtain ⟨d, m, z1, z2⟩ := uu.feed f z
          exact ⟨d, m, by rw [upd_ne (show f ≠ D from fun w => nfd (by rw [← w]; exact z))]; exact z1, z2⟩⟩
      | false =>
        rw [if_neg (by decide)]
        exact ⟨hlt, acc, ac3, q.2 rfl, (u1.trans u2).trans u3⟩
    · have ei : i = ds.length := Nat.le_antisymm hi (Nat.le_of_not_lt hlt)
      subst ei
      obtain ⟨vs', e1, r1⟩ := ac
      exact .inl ⟨it.stop _ H' e (Nat.le_refl _), k D vs' H' acc hD0 (u.trans u1) e1 r1 (last acc inv)⟩
theorem wpN_lc2 {wi wi1 : TI} {g g1 : TG} {tt tt1 : TT} {vs vs1 : List Nat} (h : wpI K fd wi env fun ds => ∃ Inv : Nat → List PyData → Prop, Inv 0 [] ∧
    (∀ i d acc, ds[i]? = some d → Inv i acc → ∃ as, gD K g d as ∧ (∀ a, a ∈ as → a.1 ∈ vs) ∧ wpT K fd tt (asgE (wipeE env vs) as) fun b =>
      (b = true → wpI K fd wi1 (asgE (wipeE env vs) as) fun es => ∃ Inv1 : Nat → List PyData → Prop, Inv1 0 acc ∧
        (∀ j e acc', es[j]? = some e → Inv1 j acc' → ∃ bs, gD K g1 e bs ∧ (∀ a, a ∈ bs → a.1 ∈ vs1) ∧ wpT K fd tt1 (asgE (wipeE (asgE (wipeE env vs) as) vs1) bs) fun b =>
          (b = true → wpE K fd te (asgE (wipeE (asgE (wipeE env vs) as) vs1) bs) fun y => acc'.length < 100000 ∧ Inv1 (j + 1) (acc' ++ [y])) ∧ (b = false → Inv1 (j + 1) acc')) ∧
        ∀ acc', Inv1 es.length acc' → Inv (i + 1) acc') ∧ (b = false → Inv (i + 1) acc)) ∧ ∀ acc, Inv ds.length acc → CL acc) :
    wpN K fd (tLc2 wi g tt wi1 g1 tt1 te vs vs1) env CL := fun F σ H I Q k =>
  h F σ H I _ fun J H1 ds u it c => by
    obtain ⟨Inv, i0, turn, last⟩ := c
    intro D hD
    have hD0 : H D = none := none_back I.there I.fdF u hD
    have nfd : ¬ fd D := fun z => by
      obtain ⟨d, m, q, _⟩ := I.feed D z
      rw [q] at hD0; cases hD0
    refine ⟨fun i m H' => m = ds.length - i ∧ i ≤ ds.length ∧ ∃ acc, AccAt K F D H' acc ∧ Inv i acc ∧ Up fd H1 H', ⟨ds.length, by simp, Nat.zero_le _, [], ⟨[], upd_same, .nil⟩, i0, .ex u.feed (Ex.new hD)⟩, ?_⟩
    rintro i m H' ⟨rfl, hi, acc, ac, inv, u1⟩
    have e : Ex (off F H1) H' := fun a o q => by
      obtain ⟨n, q⟩ := off_some q
      exact u1.keep a o (fun z => n (I.fdF a z)) q
    by_cases hlt : i < ds.length
    · refine .inr ⟨it.go i H' e hlt, fun H' => i + 1 ≤ ds.length ∧ ∃ acc, AccAt K F D H' acc ∧ Inv (i + 1) acc ∧ Up fd H1 H', fun H'' ⟨a, b⟩ => ⟨ds.length - (i + 1), by omega, rfl, a, b⟩, fun x H'' y => ?_⟩
      obtain ⟨d, ed, ex, rd⟩ := it.yld i x H' H'' e hlt y
      obtain ⟨as, hg, hs, hb⟩ := turn i d acc ed inv
      have u2 : Up fd H' H'' := .ex u1.feed ex
      have ac2 := acc_up nfd u2 I.fdF ac
      have I2 := (acc_env I hD0 (u.trans (u1.trans u2)) ac2).wipe vs
      have r := rd (off (fun a => F a ∨ a = D) H'') (fun a o q => by
        obtain ⟨n, q1⟩ := off_some q
        rw [off_ne (S := fun a => F a ∨ a = D) fun z => z.elim n fun z => by rw [z, hD] at q1; cases q1]
        exact ex _ _ (e _ _ q)) fun a o q1 q2 => by
        rw [off_ne (S := fun a => F a ∨ a = D) fun z => ?_]
        · exact q2
        · rcases z with z | z
          · exact there_up I.there (u.trans u1) a z q1
          · obtain ⟨vs, e2, _⟩ := ac
            rw [z, e2] at q1; cases q1
      refine hg _ H'' (L2.wipe σ vs) x _ r fun ws p => ⟨wipe_asg (p.slots hs), ?_⟩
      have I3 := I2.asg p
      refine hb _ _ H'' I3 _ fun b H3 u3 q => ?_
      have ac3 := acc_up nfd u3 I.fdF ac2
      cases b with
      | true =>
        rw [if_pos rfl]
        have I4 := I3.up u3
        refine q.1 rfl _ _ H3 I4 _ fun J1 H4 es u4 it1 c1 => ?_
        obtain ⟨Inv1, j0, turn1, last1⟩ := c1
        have ac4 := acc_up nfd u4 I.fdF ac3
        have I5 := I4.up u4
        have uu := ((u1.trans u2).trans u3).trans u4
        -- D stays among the hidden ones: what of it changes is told by AccAt
        refine ⟨fun j m H' => m = es.length - j ∧ j ≤ es.length ∧ ∃ acc, AccAt K F D H' acc ∧ Inv1 j acc ∧ (∀ a o, ¬ fd a → a ≠ D → H4 a = some o → H' a = some o) ∧ Feed fd H', ⟨es.length, by simp, Nat.zero_le _, acc, ac4, j0, fun a o n _ z => z, u4.feed⟩, ?_⟩
        rintro j m' G ⟨rfl, hj, acc1, bc, inv1, kp, fdG⟩
        have up1 : Up fd H1 G := ⟨fun a o n z => kp a o n (fun w => by rw [w, hD] at z; cases z) (uu.keep a o n z), fdG⟩
        have e1 : Ex (off (fun a => F a ∨ a = D) H4) G := fun a o q => by
          obtain ⟨n, q⟩ := off_some q
          exact kp a o (fun z => n (.inl (I.fdF a z))) (fun z => n (.inr z)) q
        by_cases hlt1 : j < es.length
        · refine .inr ⟨it1.go j G e1 hlt1, fun H' => j + 1 ≤ es.length ∧ ∃ acc, AccAt K F D H' acc ∧ Inv1 (j + 1) acc ∧ (∀ a o, ¬ fd a → a ≠ D → H4 a = some o → H' a = some o) ∧ Feed fd H', fun G' ⟨a, b⟩ => ⟨es.length - (j + 1), by omega, rfl, a, b⟩, fun x1 G2 y1 => ?_⟩
          obtain ⟨d1, ed1, ex1, rd1⟩ := it1.yld j x1 G G2 e1 hlt1 y1
          obtain ⟨bs, hg1, hs1, hb1⟩ := turn1 j d1 acc1 ed1 inv1
          have v2 : Up fd G G2 := .ex fdG ex1
          have bc2 := acc_up nfd v2 I.fdF bc
          -- the slots as they were at H4, at G2
          have up2 : Up fd H1 G2 := up1.trans v2
          have I6 : EnvOk K fd (fun a => F a ∨ a = D) (asgV (L2.wipe σ vs) ws) G2 (asgE (wipeE env vs) as) :=
            ⟨fun a q => by
              rcases q with q | q
              · exact there_up I.there (u.trans up2) a q
              · subst q
                obtain ⟨vs, e2, _⟩ := bc2
                rw [e2]; exact (fun z => nomatch z), I5.fdF, v2.feed, I5.len, fun jj o xx a1 a2 => by
              have q0 := I5.slot jj o xx a1 a2
              have see : Ex (off (fun a => F a ∨ a = D) H4) (off (fun a => F a ∨ a = D) G2) := fun a o q => by
                obtain ⟨n, q1⟩ := off_some q
                rw [off_ne (S := fun a => F a ∨ a = D) n]
                exact ex1 _ _ (e1 _ _ q)
              cases xx with
              | no => cases o <;> exact True.intro
              | dat d =>
                cases o with
                | none => exact q0
                | some v => exact dmono see q0
              | own p ds =>
                cases o with
                | none => exact q0
                | some v =>
                  obtain ⟨b1, b2, b3, us, b4, b5⟩ := q0
                  have hp : p ≠ D := fun w => by
                    subst w
                    obtain ⟨o9, z9, q9⟩ := I.get (wipeE_own (asgE_own as a2))
                    cases o9 with
                    | none => exact q9
                    | some v9 =>
                      obtain ⟨_, f9, _, us9, h9, _⟩ := q9
                      rw [hD0] at h9; cases h9
                  exact ⟨b1, b2, b3, us, ex1 _ _ (kp _ _ b3 hp b4), dmonoAll see b5⟩
              | fed f => cases o <;> exact q0
              | raw w => cases o <;> exact q0⟩
          have I7 := I6.wipe vs1
          have r1 := rd1 (off (fun a => F a ∨ a = D) G2) (fun a o q => by
            obtain ⟨n, q1⟩ := off_some q
            rw [off_ne (S := fun a => F a ∨ a = D) n]
            exact ex1 _ _ (e1 _ _ q)) fun a o q1 q2 => by
            rw [off_ne (S := fun a => F a ∨ a = D) fun z => ?_]
            · exact q2
            · rcases z with z | z
              · exact there_up I.there (u.trans up1) a z q1
              · obtain ⟨vs, e2, _⟩ := bc
                rw [z, e2] at q1; cases q1
          refine hg1 _ G2 (L2.wipe (asgV (L2.wipe σ vs) ws) vs1) x1 _ r1 fun ws1 p1 => ⟨wipe_asg (p1.slots hs1), ?_⟩
          have I8 := I7.asg p1
          refine hb1 _ _ G2 I8 _ fun b G3 v3 q3 => ?_
          have bc3 := acc_up nfd v3 I.fdF bc2
          have kp3 : ∀ a o, ¬ fd a → a ≠ D → H4 a = some o → G3 a = some o := fun a o n n2 z => v3.keep _ _ n (v2.keep _ _ n (kp a o n n2 z))
          cases b with
          | true =>
            rw [if_pos rfl]
            refine q3.1 rfl _ _ G3 (I8.up v3) _ fun yv G4 e4 v4 r4 q4 => ?_
            obtain ⟨vs4, h1, h2, h3⟩ := acc_push (acc_up nfd v4 I.fdF bc3) r4
            refine ⟨vs4, h1, sz_lt (by rw [h3]; exact q4.1), hlt1, _, h2, q4.2, fun a o n n2 z => ?_, fun f z => ?_⟩
            · rw [upd_ne n2]; exact v4.keep _ _ n (kp3 a o n n2 z)
            · obtain ⟨d, m, z1, z2⟩ := v4.feed f z
              exact ⟨d, m, by rw [upd_ne (show f ≠ D from fun w => nfd (by rw [← w]; exact z))]; exact z1, z2⟩
          | false =>
            rw [if_neg (by decide)]
            exact ⟨hlt1, acc1, bc3, q3.2 rfl, kp3, v3.feed⟩
        · have ej : j = es.length := Nat.le_antisymm hj (Nat.le_of_not_lt hlt1)
          subst ej
          exact .inl ⟨it1.stop _ G e1 (Nat.le_refl _), hlt, acc1, bc, last1 acc1 inv1, up1⟩
      | false =>
        rw [if_neg (by decide)]
        exact ⟨hlt, acc, ac3, q.2 rfl, (u1.trans u2).trans u3⟩
    · have ei : i = ds.length := Nat.le_antisymm hi (Nat.le_of_not_lt hlt)
      subst ei
      obtain ⟨vs', e1, r1⟩ := ac
      exact .inl ⟨it.stop _ H' e (Nat.le_refl _), k D vs' H' acc hD0 (u.trans u1) e1 r1 (last acc inv)⟩
end
end Dn

namespace Dn
open PySem L2 Evl PyProof.Rows
def nofd : Ad := fun _ => False
section
variable {P : Program} {w : World} {K : Frag} {mg : Str → Option Value} {base : Heap}
/-- a def of the text: it stands at f, its name holds it, its arguments bind -/
structure Df (K : Frag) (mg : Str → Option Value) (x : Str) (st : Stmt) (ps : List Str) (f : Addr) (fdt : FuncData) : Prop where
  F : Fun K x x st f fdt
  m : mg x = some (.ref f)
  b : Binds K fdt ps []
def env0 (N : List Str) (ds : List PyData) : List Sl := ds.map Sl.dat ++ List.replicate (N.length - ds.length) Sl.no
theorem paired_get {G : Hp} {vs : List V} {ds : List PyData} {fd F : Ad} {H : Hp} (h : DrAll K (off F H) vs ds) : ∀ {n m : Nat}, n = m → ∀ (i : Nat) (o : Option V) (x : Sl), (vs.map some ++ List.replicate n none)[i]? = some o → (ds.map Sl.dat ++ List.replicate m Sl.no)[i]? = some x → SlOk K fd F H o x := by
  intro n m enm i o x e1 e2
  have hl := all_len h
  by_cases hi : i < vs.length
  · rw [List.getElem?_append_left (by rw [List.length_map]; exact hi), List.getElem?_map] at e1
    rw [List.getElem?_append_left (by rw [List.length_map, ← hl]; exact hi), List.getElem?_map] at e2
    cases q1 : vs[i]? with
    | none => rw [q1] at e1; cases e1
    | some v =>
      rw [q1] at e1
      obtain ⟨d, q2, r⟩ := all_get' h q1
      rw [q2] at e2
      have a1 : some v = o := Option.some.inj e1
      have a2 : Sl.dat d = x := Option.some.inj e2
      subst a1; subst a2
      exact r
  · rw [List.getElem?_append_right (by rw [List.length_map, ← hl]; omega)] at e2
    have z := List.mem_of_getElem? e2
    have z2 := List.eq_of_mem_replicate z
    subst z2
    cases o <;> exact True.intro
theorem ownd_dat : ∀ (ds : List PyData) (l : List Sl), ownd (ds.map Sl.dat ++ l) = ownd l
  | [], l => rfl
  | d :: ds, l => ownd_dat ds l
theorem ownd_no : ∀ n, ownd (List.replicate n Sl.no) = []
  | 0 => rfl
  | n + 1 => ownd_no n
/-- a def that changes nothing that stood -/
theorem okP {x qual : Str} {st : Stmt} {f : Addr} {fdt : FuncData} {N ps : List Str} {k : Nat} {G : List PyData → (PyData → Prop) → Prop} (D : Fun K x qual st f fdt) (S : FnScope N ps (defScope st)) (hG : ∀ ds C, G ds C → ds.length = ps.length)
    (body : ∀ (cdv : Value) (A : Around) (outer : List Env) (s : Shared) (H : Hp) (E : XK), Room k (A.deeper (envOfC qual (defScope st) s.heap.objs.size f cdv)) →
      ∃ t, PSs (cxOf CX0 P w K mg base N qual (defScope st) f cdv A outer s H E).nox (defBody st) t ∧ ∀ ds C, G ds C → wpS K nofd t (env0 N ds) { nx := fun _ => C .none, rt := C }) : FnOk P w K mg base CX0 (k + 1) f fdt ps (spP K G) := by
  refine D.ok S (fun vs H Q E h => ?_) (fun cdv A outer s H vs Q E hr h => ?_)
  · obtain ⟨F, ds, C, _, r, g, _⟩ := h
    rw [all_len r]; exact hG ds C g
  · obtain ⟨t, ht, hw⟩ := body cdv A outer s H E hr
    obtain ⟨F, ds, C, th, r, g, q⟩ := h
    refine ⟨t, ht, hw ds C g F H (start N vs) H ?_ _ ⟨fun σ H' e c I => q .non H' .none (fun a o z => I.old a o (fun z => z) z) .non c, fun σ H e c => c.elim, fun σ H e c => c.elim, fun v H' d c u r => q v H' d (fun a o z => u.keep a o (fun z => z) z) r c, fun p vs H d c => c.elim⟩⟩
    have eo : ownd (env0 N ds) = [] := by unfold env0; rw [ownd_dat, ownd_no]
    refine ⟨⟨fun a z => ?_, fun a z => z.elim, fun f z => z.elim, ?_, fun i o x e1 e2 => ?_⟩, fun a o _ z => z, th, fun a z => z.elim, fun p hp => (by rw [eo] at hp; cases hp), (by rw [eo]; exact List.nodup_nil)⟩
    · rcases z with z | z
      · exact th a z
      · rw [eo] at z; cases z
    · unfold L2.start env0
      rw [List.length_append, List.length_append, List.length_map, List.length_map, List.length_replicate, List.length_replicate, all_len r]
    · have ehid : (fun a => F a ∨ a ∈ ownd (env0 N ds)) = F := by
        funext a
        rw [eo]
        exact propext ⟨fun z => z.elim id (fun z => by cases z), .inl⟩
      rw [ehid]
      exact paired_get (G := H) r (by rw [all_len r]) i o x e1 e2
/-- a def that draws from the feed, its first argument -/
theorem okF {x : Str} {st : Stmt} {f : Addr} {fdt : FuncData} {N ps : List Str} {k : Nat} {G : List PyData → (PyData → Prop) → Prop} (D : Fun K x x st f fdt) (S : FnScope N ps (defScope st)) (hG : ∀ ds C, G ds C → ds.length + 1 = ps.length)
    (body : ∀ (cdv : Value) (A : Around) (outer : List Env) (s : Shared) (H : Hp) (E : XK), Room k (A.deeper (envOfC x (defScope st) s.heap.objs.size f cdv)) →
      ∃ t, PSs (cxOf CX0 P w K mg base N x (defScope st) f cdv A outer s H E).nox (defBody st) t ∧ ∀ (p : Addr) ds C, G ds C → wpS K (fun a => a = p) t (Sl.fed p :: (ds.map Sl.dat ++ List.replicate (N.length - (ds.length + 1)) Sl.no)) { nx := fun _ => C .none, rt := C }) : FnOk P w K mg base CX0 (k + 1) f fdt ps (spF K G) := by
  refine D.ok S (fun vs H Q E h => ?_) (fun cdv A outer s H vs Q E hr h => ?_)
  · obtain ⟨p, ws, F, ds, C, rfl, _, _, _, r, g, _⟩ := h
    rw [← hG ds C g, List.length_cons, all_len r]
  · obtain ⟨t, ht, hw⟩ := body cdv A outer s H E hr
    obtain ⟨p, ws, F, ds, C, rfl, hp, hf, th, r, g, q⟩ := h
    refine ⟨t, ht, hw p ds C g F H (start N (.ref p :: ws)) H ?_ _ ⟨fun σ H' e c I => q .non H' .none I.all .non c, fun σ H e c => c.elim, fun σ H e c => c.elim, fun v H' d c u r => q v H' d u r c, fun p vs H d c => c.elim⟩⟩
    have eo : ownd (Sl.fed p :: (ds.map Sl.dat ++ List.replicate (N.length - (ds.length + 1)) Sl.no)) = [] := by
      show ownd (ds.map Sl.dat ++ List.replicate (N.length - (ds.length + 1)) Sl.no) = []
      rw [ownd_dat, ownd_no]
    refine ⟨⟨fun a z => ?_, fun a z => .inl (by rw [z]; exact hp), hf, ?_, fun i o x e1 e2 => ?_⟩, fun a o _ z => z, th, fun a z => by rw [z]; exact hp, fun p hp => (by rw [eo] at hp; cases hp), (by rw [eo]; exact List.nodup_nil)⟩
    · rcases z with z | z
      · exact th a z
      · rw [eo] at z; cases z
    · unfold L2.start
      rw [List.length_append, List.length_map, List.length_replicate, List.length_cons, List.length_cons, List.length_append, List.length_map, List.length_replicate, all_len r]
      omega
    · have ehid : (fun a => F a ∨ a ∈ ownd (Sl.fed p :: (ds.map Sl.dat ++ List.replicate (N.length - (ds.length + 1)) Sl.no))) = F := by
        funext a
        rw [eo]
        exact propext ⟨fun z => z.elim id (fun z => by cases z), .inl⟩
      rw [ehid]
      cases i with
      | zero =>
        have a1 : some (V.ref p) = o := Option.some.inj e1
        have a2 : Sl.fed p = x := Option.some.inj e2
        subst a1; subst a2
        exact ⟨rfl, rfl⟩
      | succ i =>
        refine paired_get (G := H) r (n := N.length - (ws.length + 1)) (m := N.length - (ds.length + 1)) (by rw [all_len r]) i o x ?_ e2
        have z : (start N (.ref p :: ws))[i + 1]? = (ws.map some ++ List.replicate (N.length - (ws.length + 1)) none)[i]? := rfl
        rw [← z]; exact e1
end
end Dn

namespace Dn
open PySem L2 Evl PyProof.Rows
/-! ## xs.extend(t), t a tuple -/
theorem ext_tup (l : Addr) (items : Array Value) (n : Nat) (b : Addr) (dd : Option Addr) (sl : Array (Option Value)) (items2 : Array Value) (n2 : Nat) (h0 : ¬(!items.isEmpty && Builtin.List.listTooLong (items.size + items2.size)) = true) (h1 : items.size ≤ sizeLine) (h2 : items.size + items2.size ≤ sizeLine + 1) :
    Meets (Builtin.«list.extend» ⟨[.ref l, .ref b], []⟩) (fun _ R s => s.heap.get? l = some { cls := .type "list", dict := none, data := .seq items n, slots := #[] } ∧
      s.heap.get? b = some { cls := .type "tuple", dict := dd, data := .seq items2 n2, slots := sl } ∧ R (.ok (.ret Value.none)) { s with heap := s.heap.update l (Obj.mapSeq fun x => x ++ items2), toks := s.toks }) :=
  .of_wp fun prog w A R s h => by
    obtain ⟨hp, g, d, tk, os⟩ := s
    obtain ⟨hl, hb, h⟩ := h
    have f1 := AutoSeq1.idx_int
    have f2 := AutoSeq1.sub_tuple_tuple
    have f3 := AutoSeq1.sub_list_list
    have f4 := AutoSeq1.sub_tuple_list
    have f5 := AutoSeq1.sub_list_tuple
    have hz' : (items ++ items2).size ≤ sizeLine + 1 := by rw [Array.size_append]; exact h2
    wp_walk using (wpAny_updateSeq hl rfl (hz := h1) (_hz' := hz')), wpAny_loadPart' hl, wpAny_loadPart' hb
    exact ⟨_, rfl, h⟩
def rExtT (K : Frag) : V → List V → Hp → VK → Prop := fun x vs H Q => ∃ l b xs zs, x = .ref l ∧ vs = [.ref b] ∧ H l = some (.lst xs) ∧ SqT K H b zs ∧ xs.length + zs.length ≤ sizeLine ∧ Q .non (upd H l (.lst (xs ++ zs)))
theorem mt_extendT {X : Cx} : MtM X "list.extend" (rExtT X.K) := by
  intro pins s σ H x vs v us Q I rx rv h
  obtain ⟨l, b, xs, zs, rfl, rfl, hH, hB, hz, q⟩ := h
  cases rx
  obtain ⟨u, rfl, ru⟩ := rv.one
  cases ru
  obtain ⟨z, its, n, r, hl, e⟩ := I.lstM hH
  obtain ⟨its2, r2, ⟨ob, e2, c2, n2, d2⟩, hz2⟩ := I.tuple hB
  obtain ⟨obc, obd, obda, obs⟩ := ob
  have c2' : obc = .type "tuple" := c2
  have d2' : obda = .seq its2.toArray n2 := d2
  subst c2'; subst d2'
  have h2 := r2.length
  have hsz : its.toArray.size + its2.toArray.size ≤ sizeLine := by rw [List.size_toArray, List.size_toArray]; omega
  have hlong : ¬ (!its.toArray.isEmpty && Builtin.List.listTooLong (its.toArray.size + its2.toArray.size)) = true := by
    rw [notLongL hsz, Bool.and_false]
    decide
  refine call_meets F.slot_list_extend ⟨_, e, rfl⟩ F.entry_list_extend (F.args_list_extend_2 _ _) (ext_tup l its.toArray n b obd obs its2.toArray n2 hlong (by rw [List.size_toArray]; omega) (by omega)) ⟨e, e2, ?_⟩
  refine ⟨.non, _, I.lset (its' := its ++ its2) hH e (by simp) (r.append r2) ?_, rfl, q⟩
  rw [List.length_append]; omega
section
variable {K : Frag} {fd : Ad} {env : List Sl} {te ta tb tc : TE} {C : PyData → Prop} {CL : List PyData → Prop} {P : Po}
/-- xs.extend(t), xs an own list -/
theorem wpS_extendT {i : Nat} {p : Addr} {ds : List PyData} (e : env[i]? = some (.own p ds)) (h : wpE K fd te env fun d => ∃ es, d = .tuple es ∧ ds.length + es.length ≤ 100000 ∧ P.nx (env.set i (.own p (ds ++ es)))) :
    wpS K fd (tDrop (tBM K "list" (rExtT K) (tVar i) (tCons te tNil))) env P := fun F0 H0 σ H I D k => by
  obtain ⟨e1, us, h4, h5⟩ := I.slotOwn e
  refine ⟨_, e1, .inl ⟨rfl, _, SqL.of h4⟩, h _ σ H I.ev _ fun v H2 d u r c => ?_⟩
  obtain ⟨es, rfl, hz, c⟩ := c
  have I2 := I.upE u
  obtain ⟨e1', us', h4', h5'⟩ := I2.slotOwn e
  cases r with
  | @tup a ws _ sa ra =>
    refine ⟨p, a, us', ws, rfl, rfl, h4', ex_t off_full sa, sz_of (by rw [all_len h5', all_len ra]; exact hz), ?_⟩
    exact k.nx _ _ _ c (I2.mut (vs := us') e (all_app h5' ra))
/-- x = xs.pop(), xs an own list, x another slot -/
theorem wpS_pop {i j : Nat} {p : Addr} {ds : List PyData} {d : PyData} (e : env[j]? = some (.own p (ds ++ [d]))) (h : P.nx ((env.set j (.own p ds)).set i (.dat d))) :
    wpS K fd (tAsg (tBM0 K "list" rPop (tVar j)) (gName i)) env P := fun F0 H0 σ H I D k => by
  obtain ⟨e1, us, h4, h5⟩ := I.slotOwn e
  have hl := all_len h5
  rw [List.length_append, List.length_singleton] at hl
  obtain ⟨v, h6, h7⟩ := all_get (i := us.length - 1) (d := d) h5 (by
    rw [hl, Nat.add_sub_cancel, List.getElem?_append_right (Nat.le_refl _), Nat.sub_self]
    rfl)
  refine ⟨_, e1, .inl ⟨rfl, _, SqL.of h4⟩, p, us, v, rfl, rfl, h4, h6, ?_⟩
  have hd : DrAll K (off (fun a => F0 a ∨ a ∈ ownd env) H) us.dropLast ds := by
    have z := all_take (us.length - 1) h5
    rw [List.dropLast_eq_take]
    rw [hl, Nat.add_sub_cancel, List.take_left'] at z
    · rw [hl, Nat.add_sub_cancel]; exact z
    · rfl
  have I2 := I.mut (vs := us) e hd
  have eo : ownd (env.set j (.own p ds)) = ownd env := ownd_same e
  refine k.nx _ _ _ h (I2.set (x := .dat d) ?_ fun p ds z => by cases z)
  rw [eo]
  refine dmono (fun a o z => ?_) h7
  obtain ⟨n, z⟩ := off_some z
  rw [off_ne (S := fun a => F0 a ∨ a ∈ ownd env) n, upd_ne (show a ≠ p from fun w => n (.inr (by rw [w]; exact mem_ownd e)))]
  exact z
/-! ## tuple * int -/
theorem opd_repT {xs : List PyData} {n : Int} (hx : xs ≠ []) (h1 : 2 ≤ n) (h2 : n ≤ 1000) (h3 : xs.length ≤ 1000) (c : C (.tuple (List.replicate n.toNat xs).flatten)) : OpD K (rRepT K) (.tuple xs) (.int n) C := fun F H x y th rx ry Q k => by
  cases ry
  cases rx with
  | @tup a us _ sa ra =>
    refine ⟨a, n, us, rfl, rfl, ex_t off_full sa, fun z => ?_, h1, h2, by rw [all_len ra]; exact h3, fun p hp => k _ _ _ (Ex.new hp) (new_tup th hp (rep_all ra _)) c⟩
    subst z
    exact hx (List.eq_nil_of_length_eq_zero (by rw [← all_len ra]; rfl))
end
end Dn

namespace Dn
open PySem L2 Evl PyProof.Rows PySem.W
theorem each_of {K : PySem.W.Frag} {G : Hp} {h : Heap} {xs : List V} {us : List Value} {ds : List PyData} (r : Vals xs us) (q : DrAll K G xs ds) : EachIs (fun v d => ∃ x, RelV x v ∧ Dr K G x d) us ds := by
  induction r generalizing ds with
  | nil => cases q; exact .nil
  | cons a _ ih =>
    cases q with
    | cons b c => exact .cons ⟨_, a, b⟩ (ih c)
theorem of_each {K : PySem.W.Frag} {G : Hp} {us : List Value} {ds : List PyData} (e : EachIs (fun v d => ∃ x, RelV x v ∧ Dr K G x d) us ds) : ∃ xs, Vals xs us ∧ DrAll K G xs ds := by
  induction e with
  | nil => exact ⟨[], .nil, .nil⟩
  | cons a _ ih =>
    obtain ⟨x, r, q⟩ := a
    obtain ⟨xs, rs, qs⟩ := ih
    exact ⟨x :: xs, .cons r rs, .cons q qs⟩
theorem reads_of {X : Cx} {pins : List (Addr × Obj)} {σ : L2.St} {H : Hp} {s : Shared} (I : Inv X pins σ H s) {x : V} {u : Value} {d : PyData} (h : Dr X.K H x d) (p : plain d = true) (r : RelV x u) : ∃ as, Reads s.heap u d as := Dp.reads I d x u (toDp h p) r
section
variable {X : Cx} {pins : List (Addr × Obj)} {σ : L2.St} {H : Hp} {s : Shared}
/-- one pinned object turns, the rest of the pins stays -/
theorem Inv.repin {t' : Nat} {h' : Heap} {a : Addr} {o o' : Obj} (I : Inv X ((a, o) :: pins) σ H s) (k : ∀ b u, b ≠ a → s.heap.get? b = some u → h'.get? b = some u) (e : h'.get? a = some o') (hv : ∀ v, o'.data ≠ .cell v) (h1 : X.s_0.heap.objs.size ≤ a)
    (h2 : ∀ x c, X.env.cells.lookup x = some c → c ≠ a) (h3 : ∀ p ∈ X.pn ++ pins, p.1 ≠ a) : Inv X ((a, o') :: pins) σ H { s with heap := h', toks := t' } := by
  have pa := I.pin (a, o) (List.mem_append_right _ (List.mem_cons_self ..))
  have I0 : Inv X pins σ H s := I.pins_of fun p hp => I.pin p (List.mem_append_right _ (List.mem_cons_of_mem _ hp))
  have I1 := I0.turned (t' := t') (it := a) k pa.2.1 pa.2.2.1 (.inr h1) h2 h3
  refine I1.pins_of fun p hp => ?_
  rcases List.mem_cons.mp hp with z | z
  · subst z; exact ⟨e, pa.2.1, pa.2.2.1, pa.2.2.2.1, hv⟩
  · exact I1.pin p (List.mem_append_right _ z)
end
/-- what the key def gives -/
structure KeyOk (K : PySem.W.Frag) (G : List PyData → (PyData → Prop) → Prop) (ds : List PyData) (kf : PyData → PyData) : Prop where
  one : ∀ d, d ∈ ds → G [d] (fun e => e = kf d)
  pl : ∀ d, d ∈ ds → plain (kf d) = true
  al : AllAlike (ds.map kf)
  so : Sortable (ds.map kf)
  dp : ∀ d, d ∈ ds → (kf d).depth ≤ 60
section
variable {X : Cx} {pins : List (Addr × Obj)} {σ : L2.St} {H : Hp} {s : Shared} {f : Addr} {fdt : FuncData} {k : Nat} {x : Str} {G : List PyData → (PyData → Prop) → Prop} {kf : PyData → PyData} {F : Ad} {ds : List PyData} {vs : List Value} {a kS : Addr} {e1 : Nat}
/-- the loop that makes the keys, and the sort behind it -/
theorem key_rest (I : Inv X ((kS, seqObj "list" #[] 0) :: (a, seqObj "list" #[] e1) :: pins) σ H s) (Gf : FnOk X.prog X.w X.K X.mg X.base CX0 k f fdt [x] (spP X.K G)) (hb : Binds X.K fdt [x] []) (hr : Room k X.A.in1.in1) (hu : X.A.units + 200 < cLine)
    (hka : kS ≠ a) (y1 : X.s_0.heap.objs.size ≤ kS) (y2 : X.s_0.heap.objs.size ≤ a) (c1 : ∀ y c, X.env.cells.lookup y = some c → c ≠ kS) (c2 : ∀ y c, X.env.cells.lookup y = some c → c ≠ a) (p1 : ∀ p ∈ X.pn ++ pins, p.1 ≠ kS) (p2 : ∀ p ∈ X.pn ++ pins, p.1 ≠ a)
    (th : ∀ b, F b → H b ≠ none) {xs : List V} (rv : Vals xs vs) (rd : DrAll X.K (off F H) xs ds) (ok : KeyOk X.K G ds kf) (hz : ds.length ≤ sizeLine) {P : PySem.Fin → Shared → Prop} {E : Value → Shared → Prop}
    (q : ∀ h' g' d' tk out c Hj, Ex H Hj → Inv X pins σ Hj { s with heap := h', gens := g', drawn := d', toks := tk } → h'.get? a = some (seqObj "list" (List.toArray out) c) → Hj a = none →
      EachIs (fun v d => ∃ x, RelV x v ∧ Dr X.K (off F H) x d) out (ds.mergeSort (dataLe false kf)) → P (.done (.ret .none)) { s with heap := h', gens := g', drawn := d', toks := tk }) :
    wpAny (model X.prog X.w) X.A.in1.in1 (ksk_rest a (.ref f) false vs.toArray e1 (.ref kS)) P E s := by
  have hlen : vs.length = ds.length := by rw [← rv.length, all_len rd]
  unfold ksk_rest
  refine wpAny_bind (wpAny_rule ?_)
  first
    | rw [List.forIn_toArray]
    | (rw [← Array.forIn_toList]; simp only [List.toList_toArray])
    | rw [← Array.forIn_toList]
  refine wpAny_bind (ksk_fold (fun i s' => ∃ h' g' d' tk kA e ks Hj, s' = { s with heap := h', gens := g', drawn := d', toks := tk } ∧ Ex H Hj ∧ Inv X ((kS, seqObj "list" kA e) :: (a, seqObj "list" #[] e1) :: pins) σ Hj { s with heap := h', gens := g', drawn := d', toks := tk } ∧
      Vals ks kA.toList ∧ DrAll X.K Hj ks ((ds.map kf).take i)) vs 0 s ⟨s.heap, s.gens, s.drawn, s.toks, #[], 0, [], H, rfl, Ex.refl H, I, .nil, by rw [List.take_zero]; exact .nil⟩ ?step ?done)
  case step =>
    rintro j v s' hx ⟨h', g', d', tk, kA, e, ks, Hj, rfl, ex, J, rk, rdk⟩
    simp only [Nat.zero_add] at rdk ⊢
    have hj : j < vs.length := (List.getElem?_eq_some_iff.mp hx).1
    have hjd : j < ds.length := by omega
    obtain ⟨d, hd⟩ : ∃ d, ds[j]? = some d := ⟨_, List.getElem?_eq_getElem hjd⟩
    obtain ⟨xv, hxv, rxd⟩ := all_get rd hd
    obtain ⟨u, hu1, rxu⟩ := rv.get hxv
    rw [hx] at hu1
    have eu : v = u := Option.some.inj hu1
    subst eu
    have hm : d ∈ ds := List.mem_of_getElem? hd
    have hsz : kA.size ≤ sizeLine := by
      have z := all_len rdk
      rw [rk.length, List.length_take, List.length_map, Array.length_toList] at z
      omega
    refine wpAny_bind (wpAny_attempt ?_)
    have hsp : spP X.K G ([xv] ++ []) Hj (fun r Hk => Dr X.K (off F Hk) r (kf d) ∧ Ex Hj Hk) (fun _ _ _ => False) :=
      ⟨F, [d], fun e => e = kf d, (fun b z c => by
        cases w : H b with
        | none => exact th b z w
        | some o => rw [ex b o w] at c; cases c), .cons (dmono (off_exE ex) rxd) .nil, ok.one d hm, fun r Hk e' hex hr' he => by subst he; exact ⟨hr', hex⟩⟩
    refine wpAny_call (codeAny_mono (Gf.run X.A.in1.in1 X.stack _ Hj ⟨[v], []⟩ [v] [xv] _ _ hr J.env0.in1.in1 (hb _ [v] J.kIn rfl) (.cons rxu .nil) hsp) fun r s'' hq => ?_)
    cases r with
    | error er => exact False.elim hq
    | ok fl =>
      cases fl with
      | next => exact False.elim hq
      | brk => exact False.elim hq
      | cont => exact False.elim hq
      | ret kv =>
        obtain ⟨r, Hk, os, bare, un, hok, rr, rdr, hex⟩ := hq
        have J2 := J.call' os un hok bare (fun b z => absurd z (by simp))
        obtain ⟨h2, g2, d2, tk2, os2⟩ := s''
        have eos : os2 = s.os := os
        subst eos
        have nk2 : h2.get? kS = some (seqObj "list" kA e) := (J2.pin (kS, _) (List.mem_append_right _ (List.mem_cons_self ..))).1
        have s1 := Heap.SameBut.update h2 kS (Obj.mapSeq (·.push kv))
        obtain ⟨c3, hc3⟩ : ∃ c3, (h2.update kS (Obj.mapSeq (·.push kv))).get? kS = some (seqObj "list" (kA.push kv) c3) := ⟨_, get?_update_seq nk2 (·.push kv)⟩
        try dsimp only
        refine wpAny_bind (listUpdate_at nk2 rfl ?_ hsz (Nat.le_trans (Nat.le_of_eq (Array.size_push ..)) (Nat.succ_le_succ hsz)))
        have J3 := Inv.repin (t' := tk2) (h' := h2.update kS (Obj.mapSeq (·.push kv))) J2 (fun b u hb z => (s1.2 b hb).trans z) hc3 (fun v z => nomatch z) y1 c1 (fun p hp => by
          rcases List.mem_append.mp hp with z | z
          · exact p1 p (List.mem_append_left _ z)
          · rcases List.mem_cons.mp z with z | z
            · subst z; exact hka.symm
            · exact p1 p (List.mem_append_right _ z))
        refine wpAny_pure ⟨rfl, _, _, _, _, kA.push kv, c3, ks ++ [r], Hk, rfl, ex.trans hex, J3, ?_, ?_⟩
        · have ea : (kA.push kv).toList = kA.toList ++ [kv] := by simp
          rw [ea]; exact rk.append (.cons rr .nil)
        · have ek : (ds.map kf).take (j + 1) = (ds.map kf).take j ++ [kf d] := by rw [List.take_add_one, List.getElem?_map, hd]; rfl
          rw [ek]
          exact all_app (dmonoAll hex rdk) (all_one (dmono off_full rdr))
  case done =>
    rintro s' ⟨h', g', d', tk, kA, e, ks, Hj, rfl, ex, J, rk, rdk⟩
    have e3 : (ds.map kf).take (0 + vs.length) = ds.map kf := List.take_of_length_le (by rw [List.length_map]; omega)
    rw [e3] at rdk
    have nk' := (J.pin (kS, _) (List.mem_append_right _ (List.mem_cons_self ..))).1
    have na' := (J.pin (a, _) (List.mem_append_right _ (List.mem_cons_of_mem _ (List.mem_cons_self ..)))).1
    have hsz : kA.size = vs.length := by
      have z := all_len rdk
      rw [rk.length, List.length_map, Array.length_toList] at z
      omega
    have hk' : EachIs (fun v k => ∃ as, Reads h' v k as) kA.toList (ds.map kf) := by
      have z := each_of (h := h') rk rdk
      have pl : ∀ d, d ∈ ds.map kf → plain d = true := fun d hd => by
        obtain ⟨d0, h0, h1⟩ := List.mem_map.mp hd
        rw [← h1]; exact ok.pl d0 h0
      refine (PySem.W.each_mem z).mono fun v d ⟨⟨x, r, q⟩, hd⟩ => reads_of J q (pl d hd) r
    have SA : SortsAt X.prog X.w X.A.in1.in1 { s with heap := h', gens := g', drawn := d', toks := tk } (dataKind h' (ds.map kf)) kA.toList :=
      SortsAt.data (s := { s with heap := h', gens := g', drawn := d', toks := tk }) hk' ok.al ok.so fun d hd => by
        obtain ⟨d0, h0, h1⟩ := List.mem_map.mp hd
        rw [← h1]
        have := ok.dp d0 h0
        show X.A.units + 1 + 1 + (kf d0).depth < cLine
        omega
    have Ho : Hj a = none := (J.pin (a, _) (List.mem_append_right _ (List.mem_cons_of_mem _ (List.mem_cons_self ..)))).2.1
    try dsimp only
    refine wpAny_bind (listItems_at nk' rfl ?_)
    obtain ⟨g1, q1, q2⟩ := restrict h' fun b => decide (b ≠ kS)
    refine keyH_end (κ := dataKind h' (ds.map kf)) (h₁ := g1) (b := false) (fun b o hb z => ?_) (q2 kS (by simp)) nk' na' hka SA hsz (by omega) fun h3 tk3 c k3 n3 => ?_
    · by_cases w : b = kS
      · rw [w, q2 kS (by simp)] at z; cases z
      · rw [q1 b (decide_eq_true w)] at z; exact z
    · have J0 : Inv X pins σ Hj { s with heap := h', gens := g', drawn := d', toks := tk } := J.pins_of fun p hp => J.pin p (List.mem_append_right _ (List.mem_cons_of_mem _ (List.mem_cons_of_mem _ hp)))
      have kp := J.pin (kS, _) (List.mem_append_right _ (List.mem_cons_self ..))
      have ap := J.pin (a, _) (List.mem_append_right _ (List.mem_cons_of_mem _ (List.mem_cons_self ..)))
      -- both of the sort's own lists turn
      have J1 : Inv X pins σ Hj { s with heap := h3, gens := g', drawn := d', toks := tk3 } :=
        Inv.turnedL (t' := tk3) (ch := [kS, a]) J0 (fun b o hb z => k3 b o (fun w => hb (by simp [w])) (by
          rw [q1 b (decide_eq_true fun w => hb (by simp [w]))]; exact z)) fun b hb => by
          rcases (by simpa using hb : b = kS ∨ b = a) with w | w
          · subst w; exact ⟨kp.2.1, kp.2.2.1, kp.2.2.2.1, .inr y1, c1, p1⟩
          · subst w; exact ⟨ap.2.1, ap.2.2.1, ap.2.2.2.1, .inr y2, c2, p2⟩
      refine q h3 g' d' tk3 _ c Hj ex J1 n3 Ho (keyedOut_each kf ⟨h', kA.toList, ok.al, rfl, hk'⟩ (each_of (h := h') rv rd))
end
end Dn

namespace Dn
open PySem L2 Evl PyProof.Rows PySem.W
section
variable {X : Cx} {pins : List (Addr × Obj)} {σ : L2.St} {H : Hp} {s : Shared}
/-- a young object of nobody's is told from now on -/
theorem Inv.track {a : Addr} {o : HO} (I : Inv X pins σ H s) (hn : H a = none) (y : X.s_0.heap.objs.size ≤ a) (hL : a ≠ X.env.locals) (hc : ∀ x c, X.env.cells.lookup x = some c → c ≠ a) (hp : ∀ p ∈ X.pn ++ pins, p.1 ≠ a) (new : ObjOk X.prog X.w (upd H a o) s.heap a o) :
    Inv X pins σ (upd H a o) s where
  ok := I.ok
  os := I.os
  bare := I.bare
  base := {
    keep := I.base.keep
    slot := I.base.slot
    free := fun b ob e n hx => by rw [upd_ne (Nat.ne_of_lt (Nat.lt_of_lt_of_le (Heap.lt_size e) y))]; exact I.base.free b ob e n hx
    there := I.base.there
    tups := fun b xs e => by have z := I.base.tups b xs e; rw [upd_ne (ne_of_none z hn)]; exact z
    frzs := fun b ob u e => by have z := I.base.frzs b ob u e; rw [upd_ne (ne_of_none z hn)]; exact z
    tbls := fun b ps e => by obtain ⟨m, z⟩ := I.base.tbls b ps e; exact ⟨m, by rw [upd_ne (ne_of_none z hn)]; exact z⟩ }
  loc := I.loc
  cell := I.cell
  free := by rw [upd_ne (Ne.symm hL)]; exact I.free
  freeC := fun x c e => by rw [upd_ne (hc x c e)]; exact I.freeC x c e
  pin := fun p hm => by
    obtain ⟨z1, z2, z3⟩ := I.pin p hm
    exact ⟨z1, by rw [upd_ne (hp p hm)]; exact z2, z3⟩
  hok := fun b u e => by
    by_cases hb : b = a
    · subst hb
      rw [upd_same] at e
      cases e
      exact new
    · rw [upd_ne hb] at e
      exact (I.hok b u e).stay (fun _ _ _ q => q) (fun c q => by rw [upd_ne (ne_of_none q hn)]; exact q) fun c xs q => by rw [upd_ne (ne_of_none q hn)]; exact q
  len := I.len
variable {f : Addr} {fdt : FuncData} {k : Nat} {x : Str} {G : List PyData → (PyData → Prop) → Prop} {kf : PyData → PyData} {F : Ad} {ds : List PyData}
theorem sorted_key_run {l : Addr} {xs : List V} {Q : VK} (I : Inv X pins σ H s) (hl : SqL X.K H l xs) (Gf : FnOk X.prog X.w X.K X.mg X.base CX0 k f fdt [x] (spP X.K G)) (hb : L2.Binds X.K fdt [x] []) (hr : Room k X.A.in1.in1) (hu : X.A.units + 200 < cLine)
    (th : ∀ b, F b → H b ≠ none) (rd : DrAll X.K (off F H) xs ds) (ok : KeyOk X.K G ds kf)
    (q : ∀ p vs' H', H p = none → Ex H H' → H' p = some (.lst vs') → DrAll X.K (off F H) vs' (ds.mergeSort (dataLe false kf)) → Q (.ref p) H') :
    wpAny (model X.prog X.w) X.A (call (.builtin "sorted") [.ref l] [(Str.ofString "key", .ref f)]) (EP X pins σ Q) X.xe s := by
  obtain ⟨its, rv, hl', hz⟩ := I.list hl
  have hlen : its.length = ds.length := by rw [← rv.length, all_len rd]
  refine sorted_of_sort hl'.isList (by rw [← rv.length]; exact hz) (PyProof.Rows.ksk_s1 _ _) (fun _ => PyProof.Rows.ksk_l1 _ _) fun E' => ?_
  rw [ksk_t1]
  obtain ⟨a, ha⟩ : ∃ a, a = s.heap.objs.size + 1 := ⟨_, rfl⟩
  have ho : (copyHeap s.heap its).get? a = some (seqObj "list" its.toArray 0) := by rw [ha]; exact copyHeap_at s.heap its
  have hZ : its.length ≤ sizeLine := by rw [← rv.length]; exact hz
  rw [← ha]
  unfold ksk_tree
  refine wpAny_bind (listItems_at (s := { s with heap := copyHeap s.heap its }) ho rfl ?_)
  obtain ⟨e1, ho1⟩ : ∃ e1, ((copyHeap s.heap its).update a (Obj.mapSeq fun _ => (#[] : Array Value))).get? a = some (seqObj "list" #[] e1) := ⟨_, get?_update_seq ho fun _ => #[]⟩
  refine wpAny_bind (listUpdate_at (s := { s with heap := copyHeap s.heap its }) ho rfl ?_ (by rw [List.size_toArray]; exact hZ) (Nat.zero_le _))
  refine wpAny_bind (seqEpoch_at ho1 rfl ?_)
  refine wpAny_bind (wpAny_newTuple ?_ (by show its.length ≤ _; exact hZ))
  refine wpAny_bind (wpAny_newList ?_ (Nat.zero_le _))
  refine wpAny_holding ?_
  -- the heap as the loop finds it
  obtain ⟨g, hg⟩ : ∃ g, g = (((copyHeap s.heap its).update a (Obj.mapSeq fun _ => (#[] : Array Value))).push (seqObj "tuple" its.toArray 0)).push (seqObj "list" #[] 0) := ⟨_, rfl⟩
  obtain ⟨kS, hkS⟩ : ∃ kS, kS = (((copyHeap s.heap its).update a (Obj.mapSeq fun _ => (#[] : Array Value))).push (seqObj "tuple" its.toArray 0)).objs.size := ⟨_, rfl⟩
  have kSa : a < kS := by
    rw [hkS, size_push']
    exact Nat.lt_succ_of_lt (Heap.lt_size ho1)
  have hga : g.get? a = some (seqObj "list" #[] e1) := by rw [hg]; exact Heap.get?_push_of_some _ (Heap.get?_push_of_some _ ho1)
  have hgk : g.get? kS = some (seqObj "list" #[] 0) := by rw [hg, hkS]; exact Heap.get?_push_size _ rfl
  have keep : ∀ b o, s.heap.get? b = some o → g.get? b = some o := fun b o z => by
    rw [hg]
    refine Heap.get?_push_of_some _ (Heap.get?_push_of_some _ ?_)
    rw [Heap.get?_update_ne _ _ _ _ (show b ≠ a by rw [ha]; exact Nat.ne_of_lt (Nat.lt_succ_of_lt (Heap.lt_size z)))]
    exact copyHeap_old z
  have I1 : Inv X pins σ H { s with heap := g } := I.kept (t' := s.toks) keep
  have sza : s.heap.objs.size ≤ a := by rw [ha]; exact Nat.le_succ _
  have szk : s.heap.objs.size ≤ kS := Nat.le_trans sza (Nat.le_of_lt kSa)
  have cel : ∀ {b : Addr}, s.heap.objs.size ≤ b → ∀ y c, X.env.cells.lookup y = some c → c ≠ b := fun {b} hb y c e z => by
    obtain ⟨v, o, w, _⟩ := I.cell y c e
    have z2 := Heap.lt_size w
    rw [z] at z2
    exact absurd (Nat.lt_of_lt_of_le z2 hb) (Nat.lt_irrefl _)
  have pnn : ∀ {b : Addr}, s.heap.objs.size ≤ b → ∀ p ∈ X.pn ++ pins, p.1 ≠ b := fun {b} hb p hp z => by
    have w := Heap.lt_size (I.pin p hp).1
    rw [z] at w
    exact absurd (Nat.lt_of_lt_of_le w hb) (Nat.lt_irrefl _)
  have locn : ∀ {b : Addr}, s.heap.objs.size ≤ b → b ≠ X.env.locals := fun {b} hb z => by
    have w := I.lt
    rw [← z] at w
    exact absurd (Nat.lt_of_lt_of_le w hb) (Nat.lt_irrefl _)
  have fsn : ∀ {b : Addr}, s.heap.objs.size ≤ b → ¬ b ∈ X.fs := fun {b} hb => I.nofs hb
  have I2 : Inv X ((kS, seqObj "list" #[] 0) :: (a, seqObj "list" #[] e1) :: pins) σ H { s with heap := g } := I1.pins_of fun p hp => by
    rcases List.mem_cons.mp hp with z | z
    · subst z; exact ⟨hgk, I.hok.fresh szk, locn szk, fsn szk, fun v z => nomatch z⟩
    · rcases List.mem_cons.mp z with z | z
      · subst z; exact ⟨hga, I.hok.fresh sza, locn sza, fsn sza, fun v z => nomatch z⟩
      · exact I1.pin p (List.mem_append_right _ z)
  show wpAny (model X.prog X.w) X.A.in1.in1 (ksk_rest a (.ref f) false its.toArray e1 (.ref _)) _ E' { s with heap := _ }
  rw [← hkS, ← hg]
  refine key_rest (kf := kf) I2 Gf hb hr hu (Nat.ne_of_gt kSa) (Nat.le_trans I.sz szk) (Nat.le_trans I.sz sza) (cel szk) (cel sza) (pnn szk) (pnn sza) th rv rd ok (by rw [← hlen]; exact hZ) fun h' g' d' tk out c Hj ex J hout ha0 ho => ⟨rfl, ?_⟩
  obtain ⟨vs', r1, r2⟩ := of_each ho
  have hl2 : vs'.length ≤ sizeLine := by rw [all_len r2, List.length_mergeSort, ← hlen]; exact hZ
  have J1 : Inv X pins σ (upd Hj a (.lst vs')) { s with heap := h', gens := g', drawn := d', toks := tk } :=
    Inv.track J ha0 (Nat.le_trans I.sz sza) (locn sza) (cel sza) (pnn sza) ⟨hl2, out, c, r1, hout⟩
  exact ⟨.ref a, _, J1, rfl, q a vs' _ (I.hok.fresh sza) (ex.mut (I.hok.fresh sza)) upd_same r2⟩
/-- sorted(xs, key=f), f a def of the text -/
def rSortK (K : PySem.W.Frag) (f : Addr) (G : List PyData → (PyData → Prop) → Prop) : List V → List V → Hp → VK → Prop := fun vs zs H Q => ∃ (l : Addr) (xs : List V) (F : Ad) (ds : List PyData) (kf : PyData → PyData), vs = [.ref l] ∧ zs = [.ref f] ∧ SqL K H l xs ∧
  (∀ b, F b → H b ≠ none) ∧ DrAll K (off F H) xs ds ∧ KeyOk K G ds kf ∧ ∀ p vs' H', H p = none → Ex H H' → H' p = some (.lst vs') → DrAll K (off F H) vs' (ds.mergeSort (dataLe false kf)) → Q (.ref p) H'
theorem cr_sortK (Gf : FnOk X.prog X.w X.K X.mg X.base CX0 k f fdt [x] (spP X.K G)) (hb : L2.Binds X.K fdt [x] []) (hr : Room k X.A.in1.in1) (hu : X.A.units + 200 < cLine) : CallRK X (.builtin "sorted") [Str.ofString "key"] (rSortK X.K f G) := by
  intro pins s σ H vs zs us ws Q I r rz h
  obtain ⟨l, xs, F, ds, kf, rfl, rfl, hl, th, rd, ok, q⟩ := h
  obtain rfl := Vals.ref1 r
  obtain rfl := Vals.ref1 rz
  exact sorted_key_run I hl Gf hb hr hu th rd ok q
end
section
variable {K : Frag} {fd : Ad} {env : List Sl} {te : TE} {CL : List PyData → Prop} {f : Addr} {G : List PyData → (PyData → Prop) → Prop}
theorem wpN_sortK (h : wpE K fd te env fun d => ∃ ds kf, d = .list ds ∧ KeyOk K G ds kf ∧ CL (ds.mergeSort (dataLe false kf))) : wpN K fd (tCKw (rSortK K f G) (tCons te tNil) (tCons (tC (.ref f)) tNil)) env CL := fun F σ H I Q k =>
  h F σ H I _ fun v H2 d u r c => by
    obtain ⟨ds, kf, rfl, ok, c⟩ := c
    cases r with
    | @lst a us _ sa ra =>
      refine ⟨a, us, F, ds, kf, rfl, rfl, sq_of (off_full _ _ sa), (I.up u).there, ra, ok, fun p vs' H' hp ex e r' => ?_⟩
      refine k p vs' H' _ (none_back I.there I.fdF u hp) (u.trans (.ex u.feed ex)) e (dmonoAll (fun a o z => ?_) r') c
      obtain ⟨n, z⟩ := off_some z
      rw [off_ne (S := fun a => F a ∨ a = p) fun w => w.elim n fun w => by rw [w, hp] at z; cases z]
      exact ex _ _ z
end
/-! ## sorted(xs) of data -/
section
variable {X : Cx} {pins : List (Addr × Obj)} {σ : L2.St} {H : Hp} {s : Shared}
def rSortD (K : PySem.W.Frag) : List V → Hp → VK → Prop := fun vs H Q => ∃ (l : Addr) (xs : List V) (F : Ad) (ds : List PyData), vs = [.ref l] ∧ SqL K H l xs ∧ (∀ b, F b → H b ≠ none) ∧ DrAll K (off F H) xs ds ∧ (∀ d, d ∈ ds → plain d = true) ∧ AllAlike ds ∧ Sortable ds ∧ (∀ d, d ∈ ds → d.depth ≤ 60) ∧
  ∀ p vs' H', H p = none → Ex H H' → H' p = some (.lst vs') → DrAll K (off F H) vs' (ds.mergeSort (dataLe false id)) → Q (.ref p) H'
theorem each_map_id {R : Value → PyData → Prop} {us : List Value} {ds : List PyData} (h : EachIs R us ds) : EachIs R us (ds.map id) := by rw [List.map_id]; exact h
theorem cr_sortD (hu : X.A.units + 200 < cLine) : CallR X (.builtin "sorted") (rSortD X.K) := by
  intro pins s σ H vs us Q I r h
  obtain ⟨l, xs, F, ds, rfl, hl, th, rd, pl, al, so, dp, q⟩ := h
  obtain rfl := Vals.ref1 r
  obtain ⟨its, rv, hl', hz⟩ := I.list hl
  have hlen : its.length = ds.length := by rw [← rv.length, all_len rd]
  have e := each_of (h := s.heap) rv rd
  have er : EachIs (fun v d => ∃ as, Reads s.heap v d as) its ds := (PySem.W.each_mem e).mono fun v d ⟨⟨x, r, q⟩, hd⟩ => reads_of I (dmono off_full q) (pl d hd) r
  refine sorted_data (enc := id) hl'.isList e er (by rw [List.map_id]; exact al) (by rw [List.map_id]; exact so) (by rw [← hlen, ← rv.length]; exact hz) (fun d hd => by have := dp d hd; show X.A.units + 2 + d.depth < cLine; omega) fun out hol ho => ?_
  obtain ⟨vs', r1, r2⟩ := of_each ho
  obtain ⟨ep, he'⟩ := PyProof.Rows.sortedAll_at s.heap its out.toArray
  have hl2 : vs'.length ≤ sizeLine := by rw [r1.length, hol, ← hlen, ← rv.length]; exact hz
  have nw : H (s.heap.objs.size + 1) = none := I.hok.fresh (Nat.le_succ _)
  refine ⟨.ref _, upd H (s.heap.objs.size + 1) (.lst vs'), I.laid (t' := s.toks) (fun _ _ => PyProof.Rows.sortedAll_old) (Nat.le_succ _) ⟨hl2, out, ep, r1, ?_⟩, rfl, q _ _ _ nw (Ex.new nw) upd_same r2⟩
  rw [he']
end
section
variable {K : Frag} {fd : Ad} {env : List Sl} {te : TE} {CL : List PyData → Prop}
theorem can_sortD {ds : List PyData} (pl : ∀ d, d ∈ ds → plain d = true) (al : AllAlike ds) (so : Sortable ds) (dp : ∀ d, d ∈ ds → d.depth ≤ 60) (c : CL (ds.mergeSort (dataLe false id))) : CaN K (rSortD K) [.list ds] CL := fun F H vs th r Q k => by
  cases r with
  | cons a b =>
    cases b
    cases a with
    | @lst a us _ sa ra =>
      refine ⟨a, us, F, ds, rfl, sq_of (off_full _ _ sa), th, ra, pl, al, so, dp, fun p vs' H' hp ex e r' => ?_⟩
      refine k p vs' H' _ hp ex e (dmonoAll (fun a o z => ?_) r') c
      obtain ⟨n, z⟩ := off_some z
      rw [off_ne (S := fun a => F a ∨ a = p) fun w => w.elim n fun w => by rw [w, hp] at z; cases z]
      exact ex _ _ z
end
end Dn

namespace Dn
open PySem L2 Evl PyProof.Rows
section
variable {K : Frag} {fd : Ad} {env : List Sl} {te ta tb tc : TE} {C : PyData → Prop} {CL : List PyData → Prop} {P : Po}
/-- a, b = xs.pop(), xs an own list -/
theorem wpS_popT {j : Nat} {p : Addr} {ds : List PyData} {d : PyData} {g : TG} {as : List (Nat × PyData)} (e : env[j]? = some (.own p (ds ++ [d]))) (hg : gD K g d as) (h : P.nx (asgE (env.set j (.own p ds)) as)) :
    wpS K fd (tAsg (tBM0 K "list" rPop (tVar j)) g) env P := fun F0 H0 σ H I D k => by
  obtain ⟨e1, us, h4, h5⟩ := I.slotOwn e
  have hl := all_len h5
  rw [List.length_append, List.length_singleton] at hl
  obtain ⟨v, h6, h7⟩ := all_get (i := us.length - 1) (d := d) h5 (by
    rw [hl, Nat.add_sub_cancel, List.getElem?_append_right (Nat.le_refl _), Nat.sub_self]
    rfl)
  refine ⟨_, e1, .inl ⟨rfl, _, SqL.of h4⟩, p, us, v, rfl, rfl, h4, h6, ?_⟩
  have hd : DrAll K (off (fun a => F0 a ∨ a ∈ ownd env) H) us.dropLast ds := by
    have z := all_take (us.length - 1) h5
    rw [List.dropLast_eq_take]
    rw [hl, Nat.add_sub_cancel, List.take_left'] at z
    · rw [hl, Nat.add_sub_cancel]; exact z
    · rfl
  have I2 := I.mut (vs := us) e hd
  have eo : ownd (env.set j (.own p ds)) = ownd env := ownd_same e
  have r : Dr K (off (fun a => F0 a ∨ a ∈ ownd (env.set j (.own p ds))) (upd H p (.lst us.dropLast))) v d := by
    rw [eo]
    refine dmono (fun a o z => ?_) h7
    obtain ⟨n, z⟩ := off_some z
    rw [off_ne (S := fun a => F0 a ∨ a ∈ ownd env) n, upd_ne (show a ≠ p from fun w => n (.inr (by rw [w]; exact mem_ownd e)))]
    exact z
  exact hg _ _ σ v _ r fun ws q => k.nx _ _ _ h (StOk.asg q (by
    have z : σ = σ := rfl
    refine ⟨I2.ev.there |> fun th => I2.ev, I2.old, I2.th0, I2.fd0, I2.fresh, I2.nd⟩) (Ex.refl _))
theorem itd_revr {F : Ad} {n : Nat} {H : Hp} {a : Int} : ItD K F (Itc (a + ((n : Nat) : Int) - 1) (-1) n) H (rng a n).reverse :=
  ⟨fun i H' e hi => by rw [List.length_reverse, rng_len] at hi; exact hi, fun i H' e hi => by rw [List.length_reverse, rng_len] at hi; exact hi, fun i x H' H'' e hi y => by
    obtain ⟨rfl, rfl⟩ := y
    rw [List.length_reverse, rng_len] at hi
    refine ⟨_, ?_, Ex.refl _, fun G _ _ => .int _⟩
    rw [List.getElem?_reverse (by rw [rng_len]; exact hi), rng_len, rng_get (by omega)]
    congr 2
    omega⟩
theorem wpI_revR {n : Int} (h : wpE K fd te env fun d => ∃ j : Int, d = .int j ∧ -(2 ^ 62) ≤ j ∧ j < 2 ^ 62 ∧ CL (rng 0 j.toNat).reverse) : wpI K fd (iRevR (tRg1 te)) env CL := fun F σ H I R k =>
  h F σ H I _ fun v H1 d u r c => by
    obtain ⟨j, rfl, h1, h2, c⟩ := c
    cases r
    refine ⟨j, rfl, by decide, by decide, h1, h2, ?_⟩
    have z := k (Itc (0 + (((j - 0).toNat : Nat) : Int) - 1) (-1) (j - 0).toNat) H1 _ u (itd_revr (n := (j - 0).toNat) (a := 0)) (by rw [Int.sub_zero]; exact c)
    exact z
/-! ## generators -/
def wpG (K : Frag) (fd : Ad) (t : TGn) (ys : List PyData) (env : List Sl) (P : List PyData → List Sl → Prop) : Prop :=
  ∀ (F0 : Ad) (H0 : Hp) (σ : L2.St) (H : Hp) (yv : List V), StOk K fd F0 H0 σ H env → DrAll K (off (fun a => F0 a ∨ a ∈ ownd env) H) yv ys →
    ∀ D : GEnds, (∀ yv σ H ys env, P ys env → StOk K fd F0 H0 σ H env → DrAll K (off (fun a => F0 a ∨ a ∈ ownd env) H) yv ys → D.nx yv σ H) → t D yv σ H
variable {PG : List PyData → List Sl → Prop} {ys : List PyData} {t u : TGn}
theorem see_all {F0 : Ad} {H0 H H' : Hp} {σ σ' : L2.St} {env' : List Sl} (h : StOk K fd F0 H0 σ H env) (q : StOk K fd F0 (off (fun a => a ∈ ownd env) H) σ' H' env') : Ex (off (fun a => F0 a ∨ a ∈ ownd env) H) (off (fun a => F0 a ∨ a ∈ ownd env') H') := fun a o e => by
  obtain ⟨n, e1⟩ := off_some e
  rw [off_ne (S := fun a => F0 a ∨ a ∈ ownd env') fun z => ?_]
  · exact see_base h q a o e
  · rcases z with z | z
    · exact n (.inl z)
    · have f := q.fresh a z
      rw [off_ne (S := fun a => a ∈ ownd env) fun z => n (.inr z), e1] at f
      cases f
theorem wpG_plain {t : TS} (h : wpS K fd t env { nx := fun env' => PG ys env', rt := fun _ => False }) : wpG K fd (tPlain t) ys env PG := fun F0 H0 σ H yv S r D k => by
  have kb := base_up S
  exact h F0 _ σ H S.base _ ⟨fun σ' H' env' q I => k yv σ' H' ys env' q (I.back (H2 := H) kb S.th0) (dmonoAll (see_all S I) r), fun σ H e c => c.elim, fun σ H e c => c.elim, fun v H d c => c.elim, fun p vs H d c => c.elim⟩
theorem wpG_then (h : wpG K fd t ys env fun ys' env' => wpG K fd u ys' env' PG) : wpG K fd (tGThen t u) ys env PG := fun F0 H0 σ H yv S r D k =>
  h F0 H0 σ H yv S r _ fun yv' σ' H' ys' env' q S' r' => q F0 H0 σ' H' yv' S' r' D k
theorem wpG_nil (h : PG ys env) : wpG K fd tG0 ys env PG := fun F0 H0 σ H yv S r D k => k yv σ H ys env h S r
theorem wpG_yield (hz : ys.length < 100000) (h : wpE K fd te env fun d => PG (ys ++ [d]) env) : wpG K fd (tGYield te) ys env PG := fun F0 H0 σ H yv S r D k =>
  ⟨sz_lt (by rw [all_len r]; exact hz), h _ σ H S.ev _ fun v H2 d u r2 c => k _ σ H2 _ env c (S.upE u) (all_app (dmonoAll (S.ev.see u) r) (all_one r2))⟩
theorem wpG_while {c : TT} {tb : TGn} (I : Nat → List PyData → List Sl → Prop) (m0 : Nat) (i0 : I m0 ys env) (turn : ∀ m ys' env', I m ys' env' → wpT K fd c env' fun b =>
    (b = true → wpG K fd tb ys' env' fun ys'' e => ∃ m', m' < m ∧ I m' ys'' e) ∧ (b = false → PG ys' env')) : wpG K fd (tGWhile c tb) ys env PG := fun F0 H0 σ H yv S r D k => by
  refine ⟨fun m yv σ H => ∃ ys' env', I m ys' env' ∧ StOk K fd F0 H0 σ H env' ∧ DrAll K (off (fun a => F0 a ∨ a ∈ ownd env') H) yv ys', ⟨m0, ys, env, i0, S, r⟩, ?_⟩
  rintro m yv' σ' H' ⟨ys', env', inv, S', r'⟩
  refine turn m ys' env' inv _ σ' H' S'.ev _ fun b H2 u q => ?_
  have S2 := S'.upE u
  have r2 := dmonoAll (S'.ev.see u) r'
  cases b with
  | true =>
    rw [if_pos rfl]
    exact ⟨fun yv σ H => ∃ m', m' < m ∧ ∃ ys' env', I m' ys' env' ∧ StOk K fd F0 H0 σ H env' ∧ DrAll K (off (fun a => F0 a ∨ a ∈ ownd env') H) yv ys', fun yv σ H ⟨m', l, e⟩ => ⟨m', l, e⟩,
      q.1 rfl F0 H0 σ' H2 yv' S2 r2 _ fun yv σ H ys env ⟨m', l, i⟩ S r => ⟨m', l, ys, env, i, S, r⟩⟩
  | false => rw [if_neg (by decide)]; exact k _ _ _ _ _ (q.2 rfl) S2 r2
/-- a generator def that changes nothing that stood -/
def spGn (K : Frag) (G : List PyData → (List PyData → Prop) → Prop) : SpG := fun vs H Q _ => ∃ (F : Ad) (ds : List PyData) (C : List PyData → Prop), (∀ a, F a → H a ≠ none) ∧ DrAll K (off F H) vs ds ∧ G ds C ∧
  ∀ out H' es, Ex H H' → DrAll K (off F H') out es → C es → Q out H'
theorem wpN_listG {G : List PyData → (List PyData → Prop) → Prop} {E : XK} {tas : TA} (h : wpA K fd tas env fun ds => G ds CL) : wpN K fd (tListG (tCallG (spGn K G) [] E tas)) env CL := fun F σ H I Q k =>
  h F σ H I _ fun vs H1 ds u r g => by
    show spGn K G (vs ++ []) H1 _ E
    rw [List.append_nil]
    refine ⟨F, ds, CL, (I.up u).there, r, g, fun out H' es e rd c p hp => ?_⟩
    exact k p out _ es (none_back I.there I.fdF (u.trans (.ex u.feed e)) hp) ((u.trans (.ex u.feed e)).trans (.ex (u.feed.ex e) (Ex.new hp))) upd_same (new_all hp rd) c
end
section
variable {P : Program} {w : World} {K : Frag} {mg : Str → Option Value} {base : Heap}
theorem okG {x : Str} {st : Stmt} {f : Addr} {fdt : FuncData} {N ps : List Str} {k : Nat} {G : List PyData → (List PyData → Prop) → Prop} (D : Fun K x x st f fdt) (S : GScope N ps (defScope st)) (hG : ∀ ds C, G ds C → ds.length = ps.length)
    (body : ∀ (cdv : Value) (A : Around) (outer : List Env) (s : Shared) (H : Hp) (E : XK) (pn : List (Addr × Obj)), Room k (A.deeper (envOfC x (defScope st) s.heap.objs.size f cdv)) →
      ∃ t, GSs (gcxOf P w K mg base N x (defScope st) f cdv A outer s H E pn) (defBody st) t ∧ ∀ ds C, G ds C → wpG K nofd t [] (env0 N ds) fun ys _ => C ys) : GFn P w K mg base (k + 1) f fdt ps (spGn K G) := by
  obtain ⟨oc, od, kV, doc, pm, an, cdv, ct, osl, rfl, lk, hcd⟩ := D.ex
  refine gfn_of lk hcd S (fun vs H Q E h => ?_) fun A outer s H vs Q E pn hr h => ?_
  · obtain ⟨F, ds, C, _, r, g, _⟩ := h
    rw [all_len r]; exact hG ds C g
  · obtain ⟨t, ht, hw⟩ := body cdv A outer s H E pn hr
    obtain ⟨F, ds, C, th, r, g, q⟩ := h
    have eo : ownd (env0 N ds) = [] := by unfold env0; rw [ownd_dat, ownd_no]
    have ehid : (fun a => F a ∨ a ∈ ownd (env0 N ds)) = F := by
      funext a
      rw [eo]
      exact propext ⟨fun z => z.elim id (fun z => by cases z), .inl⟩
    refine ⟨t, ht, hw ds C g F H (start N vs) H [] ?_ .nil _ fun yv σ H' ys env c I r => q yv H' ys (fun a o z => I.old a o (fun z => z) z) (dmonoAll (off_less fun a z => .inl z) r) c⟩
    refine ⟨⟨fun a z => ?_, fun a z => z.elim, fun f z => z.elim, ?_, fun i o x e1 e2 => ?_⟩, fun a o _ z => z, th, fun a z => z.elim, fun p hp => (by rw [eo] at hp; cases hp), (by rw [eo]; exact List.nodup_nil)⟩
    · rcases z with z | z
      · exact th a z
      · rw [eo] at z; cases z
    · unfold L2.start env0
      rw [List.length_append, List.length_append, List.length_map, List.length_map, List.length_replicate, List.length_replicate, all_len r]
    · rw [ehid]
      exact paired_get (G := H) r (by rw [all_len r]) i o x e1 e2
end
end Dn

namespace Dn
open PySem L2 Evl PyProof.Rows
/-! ## enumerate(t), t a tuple -/
theorem enum_new1 {v : Value} {o : Obj} {Hh : Heap → Prop} (B : Begins v o Hh) : Meets (Builtin.«enumerate.__new__» ⟨[.type "enumerate", v], []⟩) (fun _ R s => Hh s.heap ∧
      R (.ok (.ret (.ref (s.heap.push o).objs.size))) { s with heap := (s.heap.push o).push { cls := .type "enumerate", data := .fields #[.none, .bool false, .ref s.heap.objs.size, rawInt 0, .none, .none] } }) :=
  .of_wp fun prog w A R s h => by
    obtain ⟨hp, g, d, tk, os⟩ := s
    obtain ⟨h1, h⟩ := h
    have hsub := sub_enumerate
    have itr : ∀ {A' : Around} {E : Value → Shared → Prop} {Q : Value → Shared → Prop}, Q (.ref hp.objs.size) ⟨hp.push o, g, d, tk, os⟩ → wpAny (model prog w) A' (pyIter v) Q E ⟨hp, g, d, tk, os⟩ :=
      fun q => B.iter prog w _ _ ⟨hp, g, d, tk, os⟩ _ h1 q
    wp_walk using itr
    refine wpAny_stack_any fun st => wpAny_pure ?_
    split
    · rename_i c _ _ _ _ _
      cases (c == Value.type "enumerate") <;> (wp_walk using itr; exact ⟨_, rfl, h⟩)
    · wp_walk using itr
      exact ⟨_, rfl, h⟩
section
variable {prog : Program} {w : World} {A : Around} {E : Value → Shared → Prop} {s : Shared}
theorem enum_call1 {v : Value} {o : Obj} {Hh : Heap → Prop} {Q : Value → Shared → Prop} (B : Begins v o Hh) (h1 : Hh s.heap)
    (h : ∀ h', IsEnum h' (s.heap.objs.size + 1) s.heap.objs.size 0 .none → h'.get? s.heap.objs.size = some o → h'.objs.size = s.heap.objs.size + 2 → (∀ b o, s.heap.get? b = some o → h'.get? b = some o) → Q (.ref (s.heap.objs.size + 1)) { s with heap := h' }) :
    wpAny (model prog w) A (call (.type "enumerate") [v]) Q E s := by
  refine callType_new F.called_enumerate (by decide) (F.typeCall_enumerate_1 _) (F.newCall_enumerate_1 _) (fun obj => F.args_object_init_2 obj _) F.entry_enumerate_new (enum_new1 B) ⟨h1, ?_⟩
  have hz : (s.heap.push o).objs.size = s.heap.objs.size + 1 := Heap.size_push ..
  show _ ∧ _
  rw [hz]
  have he : IsEnum ((s.heap.push o).push { cls := .type "enumerate", data := .fields #[.none, .bool false, .ref s.heap.objs.size, rawInt 0, .none, .none] }) (s.heap.objs.size + 1) s.heap.objs.size 0 .none := by
    have z := Heap.get?_push_size (s.heap.push o) (o := { cls := .type "enumerate", data := .fields #[.none, .bool false, .ref s.heap.objs.size, rawInt 0, .none, .none] }) rfl
    rw [hz] at z; exact z
  exact ⟨⟨_, he, rfl⟩, h _ he (Heap.get?_push_of_some _ (Heap.get?_push_size _ B.free)) (by rw [Heap.size_push, hz]) fun b o x => Heap.get?_push_of_some _ (Heap.get?_push_of_some _ x)⟩
end
theorem wpAny_pyNext_enum_tupEnd {prog : Program} {w : World} {A : Around} {E : Value → Shared → Prop} {s : Shared} {e it t : Addr} {items : Array Value} {i : Nat} {j : Int} {old : Value} {Q : Option Value → Shared → Prop} (hh : A.handled = none)
    (he : IsEnum s.heap e it j old) (hit : s.heap.IsTupleIter it t i) (ht : s.heap.IsTuple t items) (hle : items.size ≤ i) (hQ : ∀ h', Heap.ExtBut it s.heap h' → Q none { s with heap := h' }) : wpAny (model prog w) A (pyNext (.ref e)) Q E s := by
  have hT : s.TypeIs (.ref e) "enumerate" := ⟨_, he, rfl⟩
  unfold pyNext
  refine wpAny_bind (wpAny_attempt (wpAny_callSpecial?_slot (name := Str.ofString "__next__") hT F.slot_enumerate_next (wpAny_call_entry F.slot_enumerate_next hT F.entry_enumerate_next ?_ (F.args_enumerate_next_1 _))))
  show wpAny _ _ (field (.ref e) 2 >>= _) _ _ _
  refine wpAny_bind (wpAny_field he rfl (x := .ref it) rfl ?_)
  refine wpAny_bind (wpAny_nextOf_tuple_end hh hit ht (Array.getElem?_eq_none hle) fun h' x he' hx' => ?_)
  obtain ⟨o, ho, hc⟩ := hx'
  refine wpAny_bind (wpAny_isInstance (T := "StopIteration") (b := true) ⟨o, ho, hc⟩ isSubtype_stop ?_)
  exact wpAny_pure (hQ _ he')
def IteT (K : Frag) (a : Addr) : It :=
  ⟨fun i H => ∃ (xs : List V) (x : V), SqT K H a xs ∧ xs[i]? = some x, fun i H v H' => ∃ T x, v = .ref T ∧ H T = none ∧ H' = upd H T (.tup [.int (i : Nat), x]) ∧ ∀ xs, SqT K H a xs → xs[i]? = some x, fun i H => ∃ xs : List V, SqT K H a xs ∧ xs.length ≤ i⟩
theorem istup_iff {h : Heap} {a : Addr} {its : Array Value} (p : IsTup h a its) : h.IsTuple a its := by
  obtain ⟨o, e, c, n, d⟩ := p
  exact ⟨o, e, c, n, d⟩
theorem turn_enumT {P : Program} {w : World} {K : Frag} {elts : List Expr} {kk : Nat} {tpos : Pos} (a e it : Addr) :
    Turn P w K (.Tuple elts kk tpos) (IteT K a) [e, it] e (fun i h => (∃ old, IsEnum h e it ((i : Nat) : Int) old) ∧ h.IsTupleIter it a i ∧ e ≠ it ∧ a ≠ it ∧ e ≠ a) where
  mem := by simp
  obj := fun i h st b hb => by
    obtain ⟨⟨old, he⟩, ⟨o, ho, hc, hd⟩, _⟩ := st
    rcases (by simpa using hb : b = e ∨ b = it) with z | z
    · rw [z]; exact ⟨_, he, fun v q => nomatch q⟩
    · rw [z]; exact ⟨o, ho, fun v q => by rw [hd] at q; cases q⟩
  keep := fun i h h' st k => let ⟨⟨old, he⟩, hi, hne⟩ := st; ⟨⟨old, k e (by simp) _ he⟩, hi.at fun o q => k it (by simp) o q, hne⟩
  item := by
    intro X hP hw hK hc i pins s σ H E I hf st hg
    subst hP hw hK
    obtain ⟨⟨old, he⟩, hit, hne, hai, hea⟩ := st
    obtain ⟨xs, x, hq, hx⟩ := hg
    obtain ⟨its, rv, p, hz⟩ := I.tuple hq
    have hel : e < s.heap.objs.size := Heap.lt_size he
    have hil : it < s.heap.objs.size := by obtain ⟨_, q, _⟩ := hit; exact Heap.lt_size q
    have hi : i < its.toArray.size := by rw [List.size_toArray, ← rv.length]; exact (List.getElem?_eq_some_iff.mp hx).1
    refine wpAny_pyNext_enum_itemD (Draws.tuple (show X.A.in1.handled = none from I.ok.hd hc) it a hai its.toArray) he ⟨hit, istup_iff p⟩ hi hne (by simp [hne, hea]) fun u h' tk hu ho hst' hT hsz hk => ?_
    obtain ⟨u', hu', ru'⟩ := rv.get hx
    have hu2 : its[i]? = some u := by simpa using hu
    rw [hu'] at hu2
    obtain rfl := Option.some.inj hu2
    refine ⟨_, rfl, wpAny_letOwnedTupleGo_enum (s := { s with heap := h', toks := tk + 1 }) ho fun h'' he' sb => ?_⟩
    have hT2 : h''.get? s.heap.objs.size = some { cls := .type "tuple", data := .seq #[.int i tk, u'] } := (sb.2 _ (Nat.ne_of_gt hel)).trans hT
    have new : ObjOk X.prog X.w (upd H s.heap.objs.size (.tup [.int (i : Nat), x])) h'' s.heap.objs.size (.tup [.int (i : Nat), x]) :=
      ⟨by show 2 ≤ sizeLine; decide, [.int i tk, u'], .cons ⟨_, rfl⟩ (.cons ru' .nil), ⟨_, hT2, rfl, _, rfl⟩⟩
    have I1 : L2.Inv X pins σ (upd H s.heap.objs.size (.tup [.int (i : Nat), x])) { s with heap := h'', toks := tk + 1 } :=
      I.turnedNew (ch := [e, it]) (fun b ob hb q => (sb.2 b (fun z => hb (by simp [z]))).trans (hk b ob (fun z => hb (by simp [z])) (fun z => hb (by simp [z])) q)) hf (Nat.le_refl _) new
    refine ⟨.ref s.heap.objs.size, _, I1, rfl, ⟨_, x, rfl, I.hok.fresh (Nat.le_refl _), rfl, fun ys hy => by rw [I.tuple_inj hy hq]; exact hx⟩, ⟨⟨u', ?_⟩, hst'.1.at fun o q => (sb.2 it (Ne.symm hne)).trans q, hne, hai, hea⟩, fun b hb => ?_⟩
    · have e1 : ((i + 1 : Nat) : Int) = (i : Int) + 1 := by omega
      rw [e1]; exact he'
    · have hb' : b < s.heap.objs.size := by
        rcases (by simpa using hb : b = e ∨ b = it) with z | z
        · rw [z]; exact hel
        · rw [z]; exact hil
      rw [upd_ne (Nat.ne_of_lt hb')]
      exact (hf b hb).1
  done := by
    intro X hP hw hK hc i pins s σ H E I hf st hg
    subst hP hw hK
    obtain ⟨⟨old, he⟩, hit, hne, hai, hea⟩ := st
    obtain ⟨xs, hq, hx⟩ := hg
    obtain ⟨its, rv, p, hz⟩ := I.tuple hq
    obtain ⟨f0, f1, f2, f3, f4, f5⟩ := hf it (by simp)
    have hl := rv.length
    have hle : its.toArray.size ≤ i := by rw [List.size_toArray]; omega
    refine wpAny_pyNext_enum_tupEnd (I.ok.hd hc) he hit (istup_iff p) hle fun h' eb => ⟨rfl, I.turned (t' := s.toks) (fun b o hb q => eb b o hb q) f0 f1 f3 f4 f5⟩
  self := fun A i s Q E st h => let ⟨⟨_, he⟩, _⟩ := st; wpAny_pyIter_enum he h
def iEnumT (K : Frag) (ta : TA) : TI := fun σ H R => ta σ H fun vs H1 => ∃ a xs, vs = [.ref a] ∧ SqT K H1 a xs ∧ R (IteT K a) H1
theorem pi_enumT {X : Cx} {e : Expr} {ta : TA} {p pos tpos : Pos} {elts : List Expr} {kk : Nat} (hg : Gl X "enumerate") (hm : X.mg "enumerate" = none) (ha : PA X [e] ta) (hs : starEach [e] X.env = [(false, eval e X.env)] := by rfl) :
    PI X (.Tuple elts kk tpos) (.Call (.Name "enumerate" p) [e] [] pos) (iEnumT X.K ta) := by
  refine ⟨fun pins s σ H R I h => ?_⟩
  refine Call_ (ld_blt I hg hm boot_enumerate (PyProof.Rows.callWith_type1 (thn (ha.run pos pins s σ H _ I h) fun us s1 ⟨vs, H1, I1, r1, q1⟩ => ?_) hs rfl))
  obtain ⟨a, xs, ex, hq, q⟩ := q1
  subst ex
  obtain rfl := Vals.ref1 r1
  obtain ⟨its, rv, p', hz⟩ := I1.tuple hq
  have hta := istup_iff p'
  have hal : a < s1.heap.objs.size := by
    obtain ⟨o, eo, _⟩ := hta
    exact Heap.lt_size eo
  refine enum_call1 (begins_tuple a its.toArray) hta fun h' he hit hsz hk => wpAny_pyIter_enum he ?_
  have I2 : L2.Inv X pins σ H1 { s1 with heap := h' } := I1.kept (t' := s1.toks) hk
  refine ⟨s1.heap.objs.size + 1, [s1.heap.objs.size + 1, s1.heap.objs.size], _, _, H1, rfl, I2, turn_enumT a (s1.heap.objs.size + 1) s1.heap.objs.size, ⟨⟨.none, he⟩, ⟨_, hit, rfl, rfl⟩, Nat.succ_ne_self _, Nat.ne_of_lt hal, Nat.ne_of_gt (Nat.lt_succ_of_lt hal)⟩, fun b hb => ?_, q⟩
  have hle : s1.heap.objs.size ≤ b := by
    rcases (by simpa using hb : b = s1.heap.objs.size + 1 ∨ b = s1.heap.objs.size) with z | z
    · rw [z]; exact Nat.le_add_right _ _
    · rw [z]; exact Nat.le_refl _
  exact I1.fpOk hle (I1.hok.fresh hle)
section
variable {K : Frag} {fd : Ad} {env : List Sl} {CL : List PyData → Prop}
theorem wpI_enumT {ta : TA} (h : wpA K fd ta env fun ds => ∃ es, ds = [.tuple es] ∧ CL (enumD es)) : wpI K fd (iEnumT K ta) env CL := fun F σ H I R k =>
  h F σ H I _ fun vs H2 ds u r c => by
    obtain ⟨es, rfl, c⟩ := c
    cases r with
    | cons r b =>
      cases b
      cases r with
      | @tup a us _ sa ra =>
        have hl := all_len ra
        refine ⟨a, us, rfl, ex_t off_full sa, k _ H2 _ u ⟨fun i H' e hi => ?_, fun i H' e hi => ⟨us, ex_t e sa, by rw [enumD_len] at hi; rw [hl]; exact hi⟩, fun i x H' H'' e hi y => ?_⟩ c⟩
        · rw [enumD_len] at hi
          have hi' : i < us.length := by rw [hl]; exact hi
          exact ⟨us, us[i], ex_t e sa, List.getElem?_eq_getElem hi'⟩
        · obtain ⟨T, z, rfl, hT, rfl, y⟩ := y
          obtain ⟨d, e1, e2⟩ := all_get' ra (y us (ex_t e sa))
          refine ⟨_, enumD_get e1, Ex.new hT, fun G g g2 => .tup (st_of (g2 _ _ hT upd_same)) (.cons (.int _) (all_one (dmono g e2)))⟩
end
end Dn

namespace Dn
open PySem L2 Evl PyProof.Rows
/-! ## tuple * int, the int at least 1 -/
theorem tuple_mul_one (l : Addr) (items : Array Value) (n : Nat) (dd : Option Addr) (sl : Array (Option Value)) (u : Tok) :
    Meets (Builtin.«tuple.__mul__» ⟨[.ref l, .int 1 u], []⟩) (fun _ R s => s.heap.get? l = some { cls := .type "tuple", dict := dd, data := .seq items n, slots := sl } ∧ R (.ok (.ret (Value.ref l))) s) :=
  .of_wp fun prog w A R s h => by
    obtain ⟨hp, g, d, tk, os⟩ := s
    obtain ⟨hl, h⟩ := h
    have f1 := AutoSeq1.idx_int
    have c0 : (decide ((1 : Int) < -(2 ^ 63)) || decide ((1 : Int) ≥ 2 ^ 63)) = false := by decide
    have c1 : (items.isEmpty || (1 : Int) == 1) = true := by rw [show ((1 : Int) == 1) = true from rfl, Bool.or_true]
    wp_walk using wpAny_loadPart' hl
    repeat (first
      | (refine wpAny_ite_false (decide_eq_false (by rw [c0]; exact Bool.false_ne_true)) ?_; wp_walk using wpAny_loadPart' hl)
      | (refine wpAny_ite_true (decide_eq_true c1) ?_; wp_walk using wpAny_loadPart' hl))
    exact ⟨_, rfl, h⟩
def rRepU (K : Frag) : R2 := fun x y H Q => rRepT K x y H Q ∨ ∃ l xs, x = .ref l ∧ y = .int 1 ∧ SqT K H l xs ∧ Q x H
theorem op_repU {X : Cx} : OpR X (binaryOp .Mult) (rRepU X.K) := by
  intro pins s σ H x y v u Q I rx ry h
  rcases h with h | h
  · exact op_repT pins s σ H x y v u Q I rx ry h
  obtain ⟨l, xs, rfl, rfl, hT, q⟩ := h
  cases rx
  obtain ⟨t, rfl⟩ := ry
  obtain ⟨its, r, ⟨⟨cls, dd, data, sl⟩, ho, hc, n, hd⟩, hs⟩ := I.tuple hT
  simp only at hc hd
  subst hc hd
  refine wpAny_binaryOp_repeat_ref (T := "tuple") (U := "int") (by decide) ⟨_, ho, rfl⟩ (fun s' => typeIs_int s' 1 t) noFill_tuple_mul F.fills_int_mul F.slot_int_rmul repeat_tuple F.slot_int_index.lookup
    (call_meets F.slot_int_rmul (typeIs_int s 1 t) F.entry_int_rmul (F.args_int_rmul_2 _ _) (int_rmul_tuple 1 t l its.toArray n dd sl)
      ⟨ho, rfl, ⟨_, ho, rfl⟩, call_meets F.slot_tuple_mul ⟨_, ho, rfl⟩ F.entry_tuple_mul (F.args_tuple_mul_2 _ _) (tuple_mul_one l its.toArray n dd sl t) ⟨ho, ?_⟩⟩)
  exact ⟨.ref l, H, I.tok _, rfl, q⟩
section
variable {K : Frag} {fd : Ad} {env : List Sl} {te ta tb tc : TE} {C : PyData → Prop} {CL : List PyData → Prop} {P : Po}
theorem opd_repU {xs : List PyData} {n : Int} (hx : xs ≠ []) (h1 : 1 ≤ n) (h2 : n ≤ 1000) (h3 : xs.length ≤ 1000) (c : C (.tuple (List.replicate n.toNat xs).flatten)) : OpD K (rRepU K) (.tuple xs) (.int n) C := fun F H x y th rx ry Q k => by
  by_cases z : n = 1
  · subst z
    cases ry
    cases rx with
    | @tup a us _ sa ra =>
      have e : (List.replicate (1 : Int).toNat xs).flatten = xs := by
        show (List.replicate 1 xs).flatten = xs
        simp
      rw [e] at c
      exact .inr ⟨a, us, rfl, rfl, ex_t off_full sa, k _ H _ (Ex.refl H) (.tup sa ra) c⟩
  · exact opd_repT hx (by omega) h2 h3 c F H x y th rx ry (fun v H => Q v H) k |> .inl
theorem und_neg {i : Int} (c : C (.int (-i))) : UnD K (rU fun i => .int (-i)) (.int i) C := fun F H x th rx Q k => by
  cases rx; exact ⟨i, rfl, k _ H _ (Ex.refl H) (.int _) c⟩
def rReprI : List V → Hp → VK → Prop := fun xs H Q => ∃ i, xs = [.int i] ∧ i.natAbs.log2 < 1920 ∧ Q (.str (toString i)) H
theorem cad_reprI {i : Int} (h : i.natAbs.log2 < 1920) (c : C (.str (toString i))) : CaD K rReprI [.int i] C := fun F H vs th r Q k => by
  cases r with
  | cons a b => cases b; cases a; exact ⟨i, rfl, h, k _ H _ (Ex.refl H) (.str _) c⟩
/-! ## several names at once -/
theorem wpS_par {i j : Nat} (h : wpE K fd ta env fun a => wpE K fd tb env fun b => P.nx ((env.set i (.dat a)).set j (.dat b))) : wpS K fd (tPar i j (tCons ta (tCons tb tNil))) env P := fun F0 H0 σ H I D k =>
  h _ σ H I.ev _ fun v H2 a u1 r1 c1 => c1 _ σ H2 (I.upE u1).ev _ fun w H3 b u2 r2 c2 => by
    have I3 := (I.upE u1).upE u2
    have I4 := I3.set (i := i) (x := .dat a) (dmono ((I.upE u1).ev.see u2) r1) (fun p ds e => by cases e)
    refine ⟨v, w, rfl, k.nx _ _ _ c2 (I4.set (i := j) (x := .dat b) ?_ fun p ds e => by cases e)⟩
    exact dmono (off_less fun a q => q.imp id fun z => (ownd_sub (fun p ds z => by cases z)).subset z) r2
theorem wpS_par3 {i j l : Nat} (h : wpE K fd ta env fun a => wpE K fd tb env fun b => wpE K fd tc env fun c => P.nx (((env.set i (.dat a)).set j (.dat b)).set l (.dat c))) : wpS K fd (tPar3 i j l (tCons ta (tCons tb (tCons tc tNil)))) env P := fun F0 H0 σ H I D k =>
  h _ σ H I.ev _ fun v H2 a u1 r1 c1 => c1 _ σ H2 (I.upE u1).ev _ fun w H3 b u2 r2 c2 => c2 _ σ H3 ((I.upE u1).upE u2).ev _ fun z H4 c u3 r3 c3 => by
    have J2 := I.upE u1
    have J3 := J2.upE u2
    have J4 := J3.upE u3
    have I5 := J4.set (i := i) (x := .dat a) (dmono (J2.ev.see (u2.trans u3)) r1) (fun p ds e => by cases e)
    have less : ∀ {env : List Sl} {i : Nat} {d : PyData} {G : Hp}, Ex (off (fun a => F0 a ∨ a ∈ ownd env) G) (off (fun a => F0 a ∨ a ∈ ownd (env.set i (.dat d))) G) := fun {env i d G} => off_less fun a q => q.imp id fun z => (ownd_sub (fun p ds z => by cases z)).subset z
    have I6 := I5.set (i := j) (x := .dat b) (dmono less (dmono (J3.ev.see u3) r2)) (fun p ds e => by cases e)
    exact ⟨v, w, z, rfl, k.nx _ _ _ c3 (I6.set (i := l) (x := .dat c) (dmono (less.trans less) r3) fun p ds e => by cases e)⟩
end
section
variable {K : Frag} {fd : Ad} {env : List Sl} {te ta tb tc : TE} {P : Po} {t u : TS}
/-- the second one a new list -/
theorem wpS_parO {i j : Nat} (h : wpE K fd ta env fun a => wpN K fd tb env fun ds => ∀ q, P.nx ((env.set i (.dat a)).set j (.own q ds))) : wpS K fd (tPar i j (tCons ta (tCons tb tNil))) env P := fun F0 H0 σ H I D k =>
  h _ σ H I.ev _ fun v H2 a u1 r1 c1 => c1 _ σ H2 (I.upE u1).ev _ fun p vs H3 ds hp u2 e r2 c2 => by
    have I4 := (I.upE u1).set (i := i) (x := .dat a) r1 (fun p ds e => by cases e)
    refine ⟨v, .ref p, rfl, k.nx _ _ _ (c2 p) (I4.newOwn (i := j) u2 hp e (dmonoAll (off_less fun a q => q.imp (fun q => q.imp id fun z => ?_) id) r2))⟩
    exact (ownd_sub (fun p ds z => by cases z)).subset z
theorem wpS_cut {R : List Sl → Prop} (h : wpS K fd t env { P with nx := R }) (q : ∀ e, R e → wpS K fd u e P) : wpS K fd (tSeq t u) env P := wpS_seq (wpS_imp h q (fun _ z => z) (fun _ z => z) (fun _ z => z) fun _ z => z)
end
/-! ## defs that hand back a new list -/
def spN (K : Frag) (G : List PyData → (List PyData → Prop) → Prop) : Sp := fun vs H Q _ => ∃ (F : Ad) (ds : List PyData) (C : List PyData → Prop), (∀ a, F a → H a ≠ none) ∧ DrAll K (off F H) vs ds ∧ G ds C ∧
  ∀ p xs H' es, H p = none → Ex H H' → H' p = some (.lst xs) → DrAll K (off (fun a => F a ∨ a = p) H') xs es → C es → Q (.ref p) H'
section
variable {K : Frag} {fd : Ad} {env : List Sl} {te ta tb tc : TE} {C : PyData → Prop} {CL : List PyData → Prop} {P : Po}
theorem wpN_call {G : List PyData → (List PyData → Prop) → Prop} {E : XK} {tas : TA} (h : wpA K fd tas env fun ds => G ds CL) : wpN K fd (tCall (spN K G) [] E tas) env CL := fun F σ H I Q k =>
  h F σ H I _ fun vs H1 ds u r g => by
    show spN K G (vs ++ []) H1 Q E
    rw [List.append_nil]
    exact ⟨F, ds, CL, (I.up u).there, r, g, fun p xs H' es hp e e1 r c => k p xs H' es (none_back I.there I.fdF u hp) (u.trans (.ex u.feed e)) e1 r c⟩
end
section
variable {P : Program} {w : World} {K : Frag} {mg : Str → Option Value} {base : Heap}
theorem okN {x qual : Str} {st : Stmt} {f : Addr} {fdt : FuncData} {N ps : List Str} {k : Nat} {G : List PyData → (List PyData → Prop) → Prop} (D : Fun K x qual st f fdt) (S : FnScope N ps (defScope st)) (hG : ∀ ds C, G ds C → ds.length = ps.length)
    (body : ∀ (cdv : Value) (A : Around) (outer : List Env) (s : Shared) (H : Hp) (E : XK), Room k (A.deeper (envOfC qual (defScope st) s.heap.objs.size f cdv)) →
      ∃ t, PSs (cxOf CX0 P w K mg base N qual (defScope st) f cdv A outer s H E).nox (defBody st) t ∧ ∀ ds C, G ds C → wpS K nofd t (env0 N ds) { nx := fun _ => False, rt := fun _ => False, ow := C }) : FnOk P w K mg base CX0 (k + 1) f fdt ps (spN K G) := by
  refine D.ok S (fun vs H Q E h => ?_) (fun cdv A outer s H vs Q E hr h => ?_)
  · obtain ⟨F, ds, C, _, r, g, _⟩ := h
    rw [all_len r]; exact hG ds C g
  · obtain ⟨t, ht, hw⟩ := body cdv A outer s H E hr
    obtain ⟨F, ds, C, th, r, g, q⟩ := h
    have eo : ownd (env0 N ds) = [] := by unfold env0; rw [ownd_dat, ownd_no]
    refine ⟨t, ht, hw ds C g F H (start N vs) H ?_ _ ⟨fun σ H' e c I => c.elim, fun σ H e c => c.elim, fun σ H e c => c.elim, fun v H' d c u r => c.elim, fun p xs H' es c hp u e r => q p xs H' es hp (fun a o z => u.keep a o (fun z => z) z) e r c⟩⟩
    refine ⟨⟨fun a z => ?_, fun a z => z.elim, fun f z => z.elim, ?_, fun i o x e1 e2 => ?_⟩, fun a o _ z => z, th, fun a z => z.elim, fun p hp => (by rw [eo] at hp; cases hp), (by rw [eo]; exact List.nodup_nil)⟩
    · rcases z with z | z
      · exact th a z
      · rw [eo] at z; cases z
    · unfold L2.start env0
      rw [List.length_append, List.length_append, List.length_map, List.length_map, List.length_replicate, List.length_replicate, all_len r]
    · have ehid : (fun a => F a ∨ a ∈ ownd (env0 N ds)) = F := by
        funext a
        rw [eo]
        exact propext ⟨fun z => z.elim id (fun z => by cases z), .inl⟩
      rw [ehid]
      exact paired_get (G := H) r (by rw [all_len r]) i o x e1 e2
end
/-! ## a feed is made, the rest runs on it -/
def keep1 : List Sl → List Sl
  | .dat d :: r => .dat d :: r.map fun _ => .no
  | r => r.map fun _ => .no
theorem keep1_len (e : List Sl) : (keep1 e).length = e.length := by
  unfold keep1
  split
  · rw [List.length_cons, List.length_cons, List.length_map]
  · rw [List.length_map]
theorem keep1_get {e : List Sl} {j : Nat} {x : Sl} (h : (keep1 e)[j]? = some x) : x = .no ∨ ∃ d, x = .dat d ∧ e[j]? = some (.dat d) := by
  unfold keep1 at h
  split at h
  · cases j with
    | zero =>
      have h : Sl.dat _ = x := Option.some.inj h
      exact .inr ⟨_, h.symm, rfl⟩
    | succ j =>
      have z := List.mem_of_getElem? (show (List.map (fun _ => Sl.no) _)[j]? = some x from h)
      obtain ⟨y, _, e⟩ := List.mem_map.mp z
      exact .inl e.symm
  · have z := List.mem_of_getElem? h
    obtain ⟨y, _, e⟩ := List.mem_map.mp z
    exact .inl e.symm
theorem keep1_own (e : List Sl) : ownd (keep1 e) = [] := by
  have key : ∀ l : List Sl, ownd (l.map fun _ => Sl.no) = [] := fun l => by
    induction l with
    | nil => rfl
    | cons a l ih => exact ih
  unfold keep1
  split
  · exact key _
  · exact key _
section
variable {K : Frag} {env : List Sl} {te : TE} {P : Po} {u : TS}
theorem SlOk.fedd {F : Ad} {H : Hp} {o : Option V} {x : Sl} {f : Addr} (h : SlOk K nofd F H o x) (n : ∀ q ds, x = .own q ds → q ≠ f) : SlOk K (fun a => a = f) F H o x := by
  cases x with
  | no => cases o <;> exact True.intro
  | dat d => cases o <;> exact h
  | own p ds =>
    cases o with
    | none => exact h
    | some v => exact ⟨h.1, h.2.1, n p ds rfl, h.2.2.2⟩
  | fed g =>
    cases o with
    | none => exact h
    | some v => exact h.2.elim
  | raw w => cases o <;> exact h
theorem wpS_feed {i : Nat} (h : wpN K nofd te env fun ds => ∃ d m : Int, ds = [.int d, .int m] ∧ 0 ≤ d ∧ 0 ≤ m ∧ m < 4294967311 ∧ ∀ p, wpS K (fun a => a = p) u (env.set i (.fed p)) { nx := fun e => P.nx (keep1 e), rt := P.rt }) :
    wpS K nofd (tSeq (tAsg te (gName i)) u) env P := fun F0 H0 σ H I D k =>
  h _ σ H I.ev _ fun p vs H2 ds hp up e r c => by
    obtain ⟨d, m, rfl, hd, hm, hm2, c⟩ := c
    obtain rfl := all_ints (ns := [d, m]) r
    have I2 := I.upE up
    have np : H0 p = none := none_back I.th0 I.fd0 I.all hp
    have nown : ¬ p ∈ ownd env := fun z => I.ev.there p (.inr z) hp
    have sub : (ownd (env.set i (.fed p))).Sublist (ownd env) := ownd_sub fun p ds z => by cases z
    have nown' : ¬ p ∈ ownd (env.set i (.fed p)) := fun z => nown (sub.subset z)
    obtain ⟨H1, eH1⟩ : ∃ H1, H1 = off (fun a => a ∈ ownd (env.set i (.fed p))) H2 := ⟨_, rfl⟩
    have H1n : ∀ a, ¬ a ∈ ownd (env.set i (.fed p)) → H1 a = H2 a := fun a n => by rw [eH1]; exact off_ne (S := fun a => a ∈ ownd (env.set i (.fed p))) n
    have H1o : ∀ a, a ∈ ownd (env.set i (.fed p)) → H1 a = none := fun a n => by rw [eH1]; exact off_in (S := fun a => a ∈ ownd (env.set i (.fed p))) n
    have old1 : ∀ a o, H0 a = some o → H1 a = some o := fun a o z => by
      rw [H1n a fun w => by rw [I.fresh a (sub.subset w)] at z; cases z]
      exact I2.old a o (fun z => z) z
    have S : StOk K (fun a => a = p) (fun a => F0 a ∨ a = p) H1 (σ.set i (some (.ref p))) H2 (env.set i (.fed p)) := by
      refine ⟨⟨fun a z => ?_, fun a z => .inl (.inr z), fun f z => ?_, by rw [List.length_set, List.length_set]; exact I2.ev.len, fun j o y e1 e2 => ?_⟩, fun a o n z => ?_, fun a z => ?_, fun a z => .inr z, fun q hq => H1o q hq, I.nd.sublist sub⟩
      · rcases z with (z | z) | z
        · exact I2.ev.there a (.inl z)
        · rw [z, e]; exact fun c => nomatch c
        · exact I2.ev.there a (.inr (sub.subset z))
      · subst z; exact ⟨d, m, e, hd, hm, hm2⟩
      · by_cases hj : i = j
        · subst hj
          have l1 : i < σ.length := by have := (List.getElem?_eq_some_iff.mp e1).1; rwa [List.length_set] at this
          have l2 : i < env.length := by have := (List.getElem?_eq_some_iff.mp e2).1; rwa [List.length_set] at this
          rw [List.getElem?_set_self l1] at e1
          rw [List.getElem?_set_self l2] at e2
          cases e1; cases e2
          exact ⟨rfl, rfl⟩
        · have e2' := e2
          rw [List.getElem?_set_ne hj] at e1 e2
          have q0 := I.ev.slot j o y e1 e2
          have q1 : SlOk K nofd (fun a => (F0 a ∨ a = p) ∨ a ∈ ownd (env.set i (.fed p))) H o y := q0.more (fun a z => by
            rcases z with (z | z) | z
            · exact .inl (.inl z)
            · exact .inr (by rw [z]; exact hp)
            · exact .inl (.inr (sub.subset z))) fun p' ds' z => by subst z; exact .inr (mem_ownd e2')
          refine (q1.up (fun a z => z.elim) up).fedd fun q ds z w => ?_
          subst z; subst w
          exact nown (mem_ownd e2)
      · exact (by rw [H1n a (fun w => by rw [H1o a w] at z; cases z)] at z; exact z)
      · rcases z with z | z
        · rw [H1n a fun w => I.th0 a z (I.fresh a (sub.subset w))]
          exact I2.ev.there a (.inl z)
        · subst z; rw [H1n a nown', e]; exact fun c => nomatch c
    refine c p _ H1 _ H2 S _ ⟨fun σ' H' e' q J => k.nx _ _ _ q ?_, fun σ H e c => c.elim, fun σ H e c => c.elim, fun v H' d c u r => ?_, fun p vs H d c => c.elim⟩
    · have eo := keep1_own e'
      refine ⟨⟨fun a z => ?_, fun a z => z.elim, fun f z => z.elim, by rw [keep1_len]; exact J.ev.len, fun j o y e1 e2 => ?_⟩, fun a o n z => J.old a o (fun w => by rw [w, np] at z; cases z) (old1 a o z), I.th0, fun a z => z.elim, fun q hq => (by rw [eo] at hq; cases hq), (by rw [eo]; exact List.nodup_nil)⟩
      · rcases z with z | z
        · exact J.ev.there a (.inl (.inl z))
        · rw [eo] at z; cases z
      · rcases keep1_get e2 with z | ⟨d, z, e3⟩
        · subst z; cases o <;> exact True.intro
        · subst z
          have z := J.ev.slot j o _ e1 e3
          cases o with
          | none => exact z
          | some v => exact dmono (off_less fun a z => by
              rcases z with z | z
              · exact .inl (.inl z)
              · rw [eo] at z; cases z) z
    · exact k.rt v H' d c ⟨fun a o n z => u.keep a o (fun w => by rw [w, np] at z; cases z) (old1 a o z), fun f z => z.elim⟩ (dmono (off_less fun a z => .inl z) r)
end
theorem passF {X : Cx} : Passes (CX X.prog X.w) X (fun _ _ _ => False) := fun pins σ H s e s' I hc => by
  obtain ⟨a, B, H', cls, d, _, _, _, _, _, _, _, z⟩ := hc
  exact z.elim
theorem nostopF {K : Frag} : NoStop K (fun _ _ _ => False) := fun cls d H z => z.elim
theorem huOf {k : Nat} {A : Around} (r : Room k A) : A.units + 200 < cLine := by have := r.un; omega
theorem hu65Of {k : Nat} {A : Around} (r : Room k A) : A.units + 65 < cLine := by have := r.un; omega
/-! ## a list handed in -/
def given (ds : List PyData) : PyData := .dict [(.bool true, .list ds)]
section
variable {K : Frag} {fd : Ad} {env : List Sl} {te ta tb tc : TE} {C : PyData → Prop} {CL : List PyData → Prop} {P : Po}
theorem giv_inv {G : Hp} {v : V} {ds : List PyData} (h : Dr K G v (given ds)) : ∃ a us, v = .ref a ∧ SqL K G a us ∧ DrAll K G us ds := by
  generalize e : given ds = d at h
  cases h with
  | giv sa ra =>
    unfold given at e
    injection e with e
    injection e with e1 e2
    injection e1 with e3 e4
    injection e4 with e4
    subst e4
    exact ⟨_, _, rfl, sa, ra⟩
  | ins _ _ =>
    unfold given at e
    injection e with e
    injection e with e1 e2
    injection e1 with e3 e4
    cases e3
  | dct _ rf =>
    cases rf with
    | nil => cases e
    | cons _ _ =>
      unfold given at e
      injection e with e
      injection e with e1 e2
      injection e1 with e3 e4
      cases e3
  | _ => cases e
theorem cad_lenG {xs : List PyData} (c : C (.int (xs.length : Int))) : CaD K (rLenS K) [given xs] C := fun F H vs th r Q k => by
  cases r with
  | cons a b =>
    cases b
    obtain ⟨a9, us, rfl, sa, ra⟩ := giv_inv a
    exact ⟨a9, us, rfl, .inl (ex_l off_full sa), by rw [all_len ra]; exact k _ H _ (Ex.refl H) (.int _) c⟩
theorem wpN_slG {tl th : TO} (h : wpE K fd te env fun d => wpO K fd tl env fun lo => wpO K fd th env fun hi => ∃ ds, d = given ds ∧ CL (cut ds lo hi)) : wpN K fd (tSl (rSlL K) te tl th) env CL := fun F σ H I Q k =>
  h F σ H I _ fun x H1 d u1 r c1 => c1 F σ H1 (I.up u1) _ fun lo H2 u2 c2 => c2 F σ H2 ((I.up u1).up u2) _ fun hi H3 u3 c3 => by
    obtain ⟨ds, rfl, c⟩ := c3
    have r3 := dmono ((I.up u1).see (u2.trans u3)) r
    obtain ⟨a, us, rfl, sa, ra⟩ := giv_inv r3
    exact ⟨a, us, rfl, ex_l off_full sa, fun p hp => k p _ _ _ (none_back I.there I.fdF ((u1.trans u2).trans u3) hp) (((u1.trans u2).trans u3).trans (.ex u3.feed (Ex.new hp))) upd_same (new_all hp (all_cut ra lo hi)) c⟩
end
end Dn

namespace Dn
open PySem L2 Evl PyProof.Rows
/-! ## defs that are called where no repr is under way -/
structure FnG (P : Program) (w : World) (K : Frag) (mg : Str → Option Value) (base : Heap) (k : Nat) (f : Addr) (fd : FuncData) (ps : List Str) (sp : Sp) : Prop where
  len : ∀ us Hh Q E, sp us Hh Q E → us.length = ps.length
  run : ∀ (B : Around) (out : List Env) (s : Shared) (Hh : Hp) (args : Args) (ws : List Value) (us : List V) (Q : VK) (E : XK), B.guards = some [] → Room k B → Env0 P w K mg base B out s Hh → BindsTo s fd args (ps.zip ws) → Vals us ws → sp us Hh Q E →
    codeAny (model P w) B (.call (.ref f) args) (CR CX0 out P w Hh s Q E) s
theorem FnG.mono {P : Program} {w : World} {K : Frag} {mg : Str → Option Value} {base : Heap} {j k : Nat} {f : Addr} {fd : FuncData} {ps : List Str} {sp : Sp} (F : FnG P w K mg base j f fd ps sp) (h : j ≤ k) : FnG P w K mg base k f fd ps sp :=
  ⟨F.len, fun B out s Hh args ws us Q E g r => F.run B out s Hh args ws us Q E g (r.mono h)⟩
section
variable {P : Program} {w : World} {K : Frag} {mg : Str → Option Value} {base : Heap}
theorem fnG_ok {x : Str} {st : Stmt} {f : Addr} {fd : FuncData} {N ps : List Str} {k : Nat} {sp : Sp} (D : Fun K x x st f fd) (S : FnScope N ps (defScope st)) (len : ∀ us Hh Q E, sp us Hh Q E → us.length = ps.length)
    (body : ∀ (cdv : Value) (B : Around) (out : List Env) (s : Shared) (Hh : Hp) (us : List V) (Q : VK) (E : XK), (B.deeper (envOfC x (defScope st) s.heap.objs.size f cdv)).guards = some [] → Room k (B.deeper (envOfC x (defScope st) s.heap.objs.size f cdv)) → sp us Hh Q E →
      ∃ t, PSs (cxOf CX0 P w K mg base N x (defScope st) f cdv B out s Hh E).nox (defBody st) t ∧ t { nx := fun _ H2 => Q .non H2, rt := Q } (start N us) Hh) : FnG P w K mg base (k + 1) f fd ps sp := by
  obtain ⟨oc, od, kV, doc, pm, an, cdv, ct, osl, rfl, lk, hcd⟩ := D.ex
  refine ⟨len, fun B out s Hh args ws us Q E hg hr e0 hb r hs => ?_⟩
  have inK : K.In s.heap := e0.mod.kin.keeps fun b o e => (e0.bs b o e).1
  have nl : s.heap.NoLimit := e0.mod.nolimit.keeps fun b o e => (e0.bs b o e).1
  have kinds : ∀ y ∈ ps.zip ws, (defScope st).names.lookup y.1 = some .local ∨ ((defScope st).names.lookup y.1 = some .cell ∧ ((cellsFrom (s.heap.objs.size + 1) (defScope st).names []).lookup y.1).isSome = true) := by
    rintro ⟨n, v⟩ hy
    exact (S.par n (List.of_mem_zip hy).1).imp id fun q => ⟨q, PySem.W.cellsFrom_some _ _ _ (.inl q)⟩
  refine codeAny_call_function hr.depth (inK _ _ lk) rfl S.co S.gen rfl (PySem.W.codeRec_of inK hcd) (hb _ _ _ _ (wpAny_newFunctionEnv_cells S.kind kinds fun env he s1 q => ?_))
  subst he
  refine ⟨nl.keeps q.toInCall.keep, codeAny_func ?_⟩
  obtain ⟨t, ht, hq⟩ := body cdv B out s Hh us Q E hg (hr.deeper _) hs
  have I : L2.Inv (cxOf CX0 P w K mg base N x (defScope st) f cdv B out s Hh E) [] (start N us) Hh s1 := inv_start S hr.hd e0 (len _ _ _ _ hs) r q
  refine wpAny_mono (ht.nox.run [] s1 (start N us) Hh _ I hq) (fun fl s2 h => ?_) fun e s2 h => h
  cases fl with
  | ret u => obtain ⟨v, σ2, H2, J, rv, z⟩ := h; exact ⟨v, H2, J.os, J.bare, J.base, J.hok, rv, z⟩
  | next => obtain ⟨σ2, H2, J, z⟩ := h; exact ⟨V.non, H2, J.os, J.bare, J.base, J.hok, rfl, z⟩
  | brk => obtain ⟨_, _, _, z⟩ := h; exact z.elim
  | cont => obtain ⟨_, _, _, z⟩ := h; exact z.elim
/-- a def that changes nothing that stood -/
theorem okPG {x : Str} {st : Stmt} {f : Addr} {fdt : FuncData} {N ps : List Str} {k : Nat} {G : List PyData → (PyData → Prop) → Prop} (D : Fun K x x st f fdt) (S : FnScope N ps (defScope st)) (hG : ∀ ds C, G ds C → ds.length = ps.length)
    (body : ∀ (cdv : Value) (A : Around) (outer : List Env) (s : Shared) (H : Hp) (E : XK), (A.deeper (envOfC x (defScope st) s.heap.objs.size f cdv)).guards = some [] → Room k (A.deeper (envOfC x (defScope st) s.heap.objs.size f cdv)) →
      ∃ t, PSs (cxOf CX0 P w K mg base N x (defScope st) f cdv A outer s H E).nox (defBody st) t ∧ ∀ ds C, G ds C → wpS K nofd t (env0 N ds) { nx := fun _ => C .none, rt := C }) : FnG P w K mg base (k + 1) f fdt ps (spP K G) := by
  refine fnG_ok D S (fun vs H Q E h => ?_) (fun cdv A outer s H vs Q E hg hr h => ?_)
  · obtain ⟨F, ds, C, _, r, g, _⟩ := h
    rw [all_len r]; exact hG ds C g
  · obtain ⟨t, ht, hw⟩ := body cdv A outer s H E hg hr
    obtain ⟨F, ds, C, th, r, g, q⟩ := h
    have eo : ownd (env0 N ds) = [] := by unfold env0; rw [ownd_dat, ownd_no]
    refine ⟨t, ht, hw ds C g F H (start N vs) H ?_ _ ⟨fun σ H' e c I => q .non H' .none (fun a o z => I.old a o (fun z => z) z) .non c, fun σ H e c => c.elim, fun σ H e c => c.elim, fun v H' d c u r => q v H' d (fun a o z => u.keep a o (fun z => z) z) r c, fun p vs H d c => c.elim⟩⟩
    refine ⟨⟨fun a z => ?_, fun a z => z.elim, fun f z => z.elim, ?_, fun i o x e1 e2 => ?_⟩, fun a o _ z => z, th, fun a z => z.elim, fun p hp => (by rw [eo] at hp; cases hp), (by rw [eo]; exact List.nodup_nil)⟩
    · rcases z with z | z
      · exact th a z
      · rw [eo] at z; cases z
    · unfold L2.start env0
      rw [List.length_append, List.length_append, List.length_map, List.length_map, List.length_replicate, List.length_replicate, all_len r]
    · have ehid : (fun a => F a ∨ a ∈ ownd (env0 N ds)) = F := by
        funext a
        rw [eo]
        exact propext ⟨fun z => z.elim id (fun z => by cases z), .inl⟩
      rw [ehid]
      exact paired_get (G := H) r (by rw [all_len r]) i o x e1 e2
end
section
variable {X : Cx} {k : Nat} {f : Addr} {fd : FuncData} {ps : List Str} {sp : Sp} {E : XK} {x : Str} {p pos : Pos} {e : Expr} {es : List Expr} {t : TA}
theorem runG {pins : List (Addr × Obj)} {σ : L2.St} {H : Hp} {s : Shared} {Q : VK} {us : List Value} {vs : List V} (F : FnG X.prog X.w X.K X.mg X.base k f fd ps sp) (hg : X.A.guards = some []) (hr : Room k X.A) (hb : L2.Binds X.K fd ps []) (hx : Passes CX0 X E)
    (I : L2.Inv X pins σ H s) (r : Vals vs us) (h : sp vs H Q E) : wpAny (model X.prog X.w) X.A (call (.ref f) us) (EP X pins σ Q) X.xe s := by
  have hl : us.length = ps.length := r.length.symm.trans (F.len _ _ _ _ h)
  have hb2 := hb s us I.kIn (by rw [List.append_nil]; exact hl)
  rw [List.append_nil] at hb2
  refine wpAny_call (codeAny_mono (F.run X.A X.stack s H ⟨us, []⟩ us vs Q E hg hr I.env0 hb2 r h) fun res s2 hq => ?_)
  cases res with
  | error er => exact hx pins σ H s er s2 I hq
  | ok fl =>
    cases fl with
    | ret u => exact I.after hq
    | next => exact hq.elim
    | brk => exact hq.elim
    | cont => exact hq.elim
theorem pe_callG (F : FnG X.prog X.w X.K X.mg X.base k f fd ps sp) (hg : X.A.guards = some []) (hr : Room k X.A) (gl : Gl X x) (hm : X.mg x = some (.ref f)) (hk : PySem.W.keepIn X.K (.ref f) = true) (hb : L2.Binds X.K fd ps []) (hx : Passes CX0 X E)
    (pa : PA X (e :: es) t) (hdb : (x == ("__debug__" : Str)) = false := by decide)
    (hse : starEach (e :: es) X.env = (false, eval e X.env) :: starEach es X.env := by rfl) (hpl : (backTo pos (starEach es X.env)).any (·.1) = false := by rfl) :
    PE X (.Call (.Name x p) (e :: es) [] pos) (tCall sp [] E t) := by
  refine ⟨fun pins s σ H Q I h => wpAny_Call_Name_kw (ld_glob I gl hm ?_ hdb)⟩
  refine PySem.W.callWith_K (h₀ := X.base) I.ok.mod.kin hk (thn (pa.run pos pins s σ H _ I h) fun us s1 ⟨vs, H1, I1, r, q⟩ => ⟨I1.kIn, ?_⟩) hse hpl
  have q : sp (vs ++ []) H1 Q E := q
  rw [List.append_nil] at q
  exact runG F hg hr hb hx I1 r q
/-! ## repr of data -/
def rReprD (K : Frag) : List V → Hp → VK → Prop := fun vs H Q => ∃ (x : V) (d : PyData), vs = [x] ∧ Dp K H x d ∧ plain d = true ∧ d.showable = true ∧ d.shown.length ≤ 1000000 ∧ d.depth ≤ 100 ∧ Q (.str d.shown) H
theorem plain_hasDict : ∀ d : PyData, plain d = true → d.hasDict = false := by
  have key : ∀ n (d : PyData), sizeOf d < n → plain d = true → d.hasDict = false := by
    intro n
    induction n with
    | zero => intro d h; omega
    | succ n ih =>
      have all : ∀ l : List PyData, sizeOf l < n + 1 → plainAll l = true → PyData.hasDictAll l = false := by
        intro l
        induction l with
        | nil => intro _ _; rw [PyData.hasDictAll]
        | cons a r ihl =>
          intro hz h
          simp only [List.cons.sizeOf_spec] at hz
          rw [plainAll, Bool.and_eq_true] at h
          rw [PyData.hasDictAll, ih a (by omega) h.1, ihl (by omega) h.2]; rfl
      intro d hz h
      cases d with
      | list xs =>
        simp only [PyData.list.sizeOf_spec] at hz
        rw [plain] at h
        rw [PyData.hasDict]; exact all xs (by omega) h
      | tuple xs =>
        simp only [PyData.tuple.sizeOf_spec] at hz
        rw [plain] at h
        rw [PyData.hasDict]; exact all xs (by omega) h
      | dict _ => simp [plain] at h
      | none => rw [PyData.hasDict]
      | bool _ => rw [PyData.hasDict]
      | int _ => rw [PyData.hasDict]
      | str _ => rw [PyData.hasDict]
  exact fun d => key _ d (Nat.lt_succ_self _)
end
section
variable {X : Cx}
theorem cr_reprD (hg : X.A.guards = some []) (hu : X.A.units + 200 < cLine) : CallR X (.builtin "repr") (rReprD X.K) := by
  intro pins s σ H vs us Q I r h
  obtain ⟨x, d, rfl, hd, hp, hs, hz, hdp, q⟩ := h
  obtain ⟨u, rfl, ru⟩ := r.one
  have hz2 : d.shown.length ≤ sizeLine := by rw [sizeLine_eq]; omega
  obtain ⟨as, rd⟩ := Dp.reads I d x u hd ru
  cases d with
  | none => cases hd; cases ru; exact PySem.P.repr_of_none ⟨.str _, H, I.tok _, ⟨_, rfl⟩, q⟩
  | bool b => cases hd; cases ru; exact PySem.P.repr_of_bool ⟨.str _, H, I.tok _, ⟨_, rfl⟩, q⟩
  | int i => cases hd; obtain ⟨t, rfl⟩ := ru; exact PySem.P.repr_of_int (of_decide_eq_true hs) ⟨.str _, H, I.tok _, ⟨_, rfl⟩, q⟩
  | str y => cases hd; obtain ⟨t, rfl⟩ := ru; exact PySem.P.repr_of_str ⟨.str _, H, I.tok _, ⟨_, rfl⟩, q⟩ hz2
  | list ds =>
    cases hd with
    | lst _ _ =>
      cases ru
      exact repr_of_reads' rd hs (fun z => by rw [plain_hasDict _ hp] at z; cases z) hg (by omega) (fun _ _ e => e) (fun h2 u tk k => ⟨.str _, H, I.kept (t' := tk) k, ⟨_, rfl⟩, q⟩) hz2
  | tuple ds =>
    cases hd with
    | tup _ _ =>
      cases ru
      exact repr_of_reads' rd hs (fun z => by rw [plain_hasDict _ hp] at z; cases z) hg (by omega) (fun _ _ e => e) (fun h2 u tk k => ⟨.str _, H, I.kept (t' := tk) k, ⟨_, rfl⟩, q⟩) hz2
  | dict _ => simp [plain] at hp
end
section
variable {K : Frag} {C : PyData → Prop}
theorem cad_reprD {d : PyData} (hp : plain d = true) (hs : d.showable = true) (hz : d.shown.length ≤ 1000000) (hd : d.depth ≤ 100) (c : C (.str d.shown)) : CaD K (rReprD K) [d] C := fun F H vs th r Q k => by
  cases r with
  | cons a b => cases b; exact ⟨_, d, rfl, toDp (dmono off_full a) hp, hp, hs, hz, hd, k _ H _ (Ex.refl H) (.str _) c⟩
end
/-! ## the law's end, for a law that is called outside any repr -/
theorem walkG {l : PySem.W.OpenLaw} {n k : Nat} {q : Program} {loose : List Str} {XP : (Str → Option Value) → Heap → Prop} {YP : World → Heap → Prop} {d : DefRec} {K : Params → PySem.W.Frag} {sp : World → Sp} {x : Str}
    (hn : l.most = some n) (hn2 : n ≤ sizeLine) (hdf : d.params.defaults = []) (room : Room k callerA) (hY : ∀ (w : World) (h : Heap), YP w h → (K w.params).In h)
    (F : ∀ (w : World) (mg : Str → Option Value) (fa : Addr) (hh : Heap), (K w.params).In hh → hh.Ns mainGlobals mg → mg d.name = some (.ref fa) →
      ∃ fd : FuncData, (∀ (s : Shared) (u : Value), BindsTo s fd ⟨[u], []⟩ [(x, u)]) ∧ ∀ base : Heap, (K w.params).In base → base.Ns mainGlobals mg → FnG l.prog w (K w.params) mg base k fa fd [x] (sp w))
    (hsp : ∀ (w : World) (H : Hp) (a : Addr) (ns : List Int), ns.length ≤ n → SqL (K w.params) H a (ns.map V.int) →
      sp w [.ref a] H (fun v _ => v = .bl true) fun _ _ _ => False) :
    PySem.W.WalkO q loose XP YP l.row.toRowW d [] (fun f vs => PySem.call f vs) := by
  refine Att.attach_call hn hdf fun w sA sB mg mb fa o pm cd doc a vs ns G Y ho hd hcd hmg hobj hints hlen hgens => ?_
  have inB := hY w _ Y
  obtain ⟨fd, hb, hF⟩ := F w mg fa _ inB G.T.g hmg
  have rel := vals_ints hints
  have len := hints.length
  have main : ∀ H : Hp, (∀ b u, H b = some u → b = a ∧ (K w.params).lookup a = none ∧ ∃ ob xs, u = .frz ob (.lst xs)) → SqL (K w.params) H a (ns.map V.int) → HOk l.prog w H sB.heap →
      codeAny (model l.prog w) callerA (.call (.ref fa) ⟨[.ref a], []⟩) (fun r s2 => r = .ok (.ret (.bool true)) ∧ OldK sB.heap s2.heap ∧ s2.os = sB.os ∧ AllBare s2.gens) sB := by
    intro H only hS hok
    have tell : ∀ b, H b = none ∨ (b = a ∧ (K w.params).lookup a = none) := fun b => by
      cases e : H b with
      | none => exact .inl rfl
      | some u => exact .inr ⟨(only b u e).1, (only b u e).2.1⟩
    have names : ∀ {b : Addr} {m : Str → Option Value}, sB.heap.Ns b m → (hidT sB.heap H).Ns b m := fun {b m} ⟨o, es, ep, e, dt, rest⟩ => by
      refine ⟨o, es, ep, hidT_get e ?_, dt, rest⟩
      rcases tell b with z | ⟨z, _⟩
      · exact z
      · subst z
        rw [hobj] at e
        cases e
        cases (show Data.seq vs.toArray _ = Data.dict es ep from dt)
    have inH : (K w.params).In (hidT sB.heap H) := fun b o e => hidT_get (inB b o e) (by
      rcases tell b with z | ⟨z, z2⟩
      · exact z
      · subst z; rw [z2] at e; cases e)
    obtain ⟨mc, lim1, lim2⟩ := G.T.nolimit
    have env : Env0 l.prog w (K w.params) mg (hidT sB.heap H) callerA [] sB H :=
      ⟨rfl, ⟨inH, names G.T.g, ⟨mb, names G.T.b, G.T.builtins⟩, ⟨mc, names lim1, lim2⟩⟩, fun b o e => of_hidT e, Nat.le_of_eq (hidT_size _ _), trivial, fun b z => absurd (show b ∈ ([] : List Addr) from z) (by simp), hok, .of_eq hgens⟩
    refine codeAny_mono ((hF _ inH (names G.T.g)).run callerA [] sB H ⟨[.ref a], []⟩ [.ref a] [.ref a] _ _ rfl room env (hb sB (.ref a)) (.cons rfl .nil) (hsp w H a ns hlen hS)) fun res s2 h => ?_
    cases res with
    | error er => exact h.elim
    | ok fl =>
      cases fl with
      | next => exact h.elim
      | brk => exact h.elim
      | cont => exact h.elim
      | ret u =>
        obtain ⟨v, H2, os, bare, un, hok2, rv, z⟩ := h
        have z : v = .bl true := z
        subst z
        have eu : u = Value.bool true := rv
        subst eu
        refine ⟨rfl, OldK.of_keep fun b o e => ?_, os, bare⟩
        cases z : H b with
        | none => exact un.keep b o e z (fun m => nomatch m) fun m => nomatch m
        | some u =>
          obtain ⟨_, _, ob, xs, rfl⟩ := only b u z
          have e1 := (hok b _ z).1
          have e2 := (hok2 b _ (un.frzs b ob _ z)).1
          rw [e] at e1
          cases e1
          exact e2
  cases hk : (K w.params).lookup a with
  | some o =>
    have e := inB a o hk
    rw [hobj] at e
    cases e
    exact main (fun _ => none) (fun b u z => nomatch z) (.inr ⟨_, vs.toArray, _, hk, rfl, rfl, rfl, by rw [List.size_toArray, len]; exact Nat.le_trans hlen hn2, by simpa using rel⟩) (fun b u z => nomatch z)
  | none =>
    refine main (fun b => if b = a then some (.frz { cls := .type "list", data := .seq vs.toArray } (.lst (ns.map V.int))) else none) (fun b u z => ?_) (.inl (.inr ⟨_, if_pos rfl⟩)) (fun b u z => ?_)
    · by_cases hb : b = a
      · exact ⟨hb, hk, _, _, (Option.some.inj ((if_pos hb).symm.trans z)).symm⟩
      · cases (if_neg hb).symm.trans z
    · by_cases hb : b = a
      · have z := Option.some.inj ((if_pos hb).symm.trans z)
        subst z
        subst hb
        exact ⟨hobj, by rw [List.length_map]; exact Nat.le_trans hlen hn2, vs, _, rel, hobj⟩
      · cases (if_neg hb).symm.trans z
end Dn

namespace Dn
open PySem L2 Evl PyProof.Rows
/-! ## what is never reached -/
def tDead : TS := fun _ _ _ => False
theorem ps_dead {X : Cx} {st : Stmt} : PS X st tDead := ⟨fun pins s σ H D I h => h.elim⟩
theorem op_dead {X : Cx} {f : Value → Value → Sem Value} : OpR X f (fun _ _ _ _ => False) := fun pins s σ H x y v u Q I rx ry h => h.elim
section
variable {K : Frag} {fd : Ad} {env : List Sl} {te ta tb tc : TE} {C : PyData → Prop} {CL : List PyData → Prop} {P : Po}
theorem wpS_dead (h : False) : wpS K fd tDead env P := h.elim
/-! ## isinstance of data and a built-in class -/
def tyName : PyData → Option String
  | .none => some "NoneType"
  | .bool _ => some "bool"
  | .int _ => some "int"
  | .str _ => some "str"
  | .list _ => some "list"
  | .tuple _ => some "tuple"
  | .dict [] => some "dict"
  | .dict ((.str _, _) :: _) => some "dict"
  | .dict _ => Option.none
theorem tyx {F : Ad} {H : Hp} {v : V} {d : PyData} {n : String} (r : Dr K (off F H) v d) (e : tyName d = some n) : TyX K H v (.type n) := by
  cases r with
  | non => cases e; exact .base .non
  | bl b => cases e; exact .base (.bl b)
  | int i => cases e; exact .base (.int i)
  | str x => cases e; exact .base (.str x)
  | lst sa _ => cases e; exact .base (.lst (off_full _ _ sa))
  | tup sa _ =>
    cases e
    rcases ex_t off_full sa with (z | ⟨o, z⟩) | ⟨o, its, n, k1, k2, _⟩
    · exact .base (.tup z)
    · exact .fTuple z
    · exact .kTuple k1 k2
  | ins _ _ => cases e
  | giv _ _ => cases e
  | dct sa ra =>
    cases ra with
    | nil => cases e; exact .base (.dK (off_full _ _ sa))
    | cons _ _ => cases e; exact .base (.dK (off_full _ _ sa))
  | dtp _ _ _ _ => cases e
/-- is d one of the class T -/
def isB (d : PyData) (T : String) : Option Bool := (tyName d).bind fun n => kitB n T
theorem wp_isi {T : String} (h : wpE K fd ta env fun d => ∃ b, isB d T = some b ∧ C (.bool b)) : wpE K fd (tCB (rIsi K) (tCons ta (tCons (tC (.ty T)) tNil))) env C := fun F σ H I Q k =>
  h F σ H I _ fun x H1 d u r c => by
    obtain ⟨b, e, c⟩ := c
    unfold isB at e
    cases en : tyName d with
    | none => rw [en] at e; cases e
    | some n =>
      rw [en] at e
      exact ⟨x, .ty T, .type n, .type T, b, rfl, .ty T, tyx r en, kit_ty e, k _ H1 _ u (.bl b) c⟩
/-! ## texts -/
theorem opd_leS {x y : Str} (c : C (.bool (!decide (y.cps.toList < x.cps.toList)))) : OpD K (fun x y H Q => ∃ i j, x = .str i ∧ y = .str j ∧ Q (.bl (!decide (j.cps.toList < i.cps.toList))) H) (.str x) (.str y) C := fun F H a b th rx ry Q k => by
  cases rx; cases ry; exact ⟨x, y, rfl, rfl, k _ H _ (Ex.refl H) (.bl _) c⟩
theorem opd_inSign {ch : Nat} {z : Str} (c : C (.bool (decide (ch ∈ z.cps.toList)))) : OpD K (fun x y H Q => ∃ (c : Nat) (z : Str), x = .str ⟨#[c]⟩ ∧ y = .str z ∧ Q (.bl (decide (c ∈ z.cps.toList))) H) (.str ⟨#[ch]⟩) (.str z) C := fun F H a b th rx ry Q k => by
  cases rx; cases ry; exact ⟨ch, z, rfl, rfl, k _ H _ (Ex.refl H) (.bl _) c⟩
def rLenStr : List V → Hp → VK → Prop := fun xs H Q => ∃ z, xs = [.str z] ∧ z.length ≤ sizeLine ∧ Q (.int z.length) H
theorem cad_lenS {z : Str} (hz : z.length ≤ 100000) (c : C (.int (z.length : Nat))) : CaD K rLenStr [.str z] C := fun F H vs th r Q k => by
  cases r with
  | cons a b => cases b; cases a; exact ⟨z, rfl, sz_of hz, k _ H _ (Ex.refl H) (.int _) c⟩
def signs (z : Str) : List PyData := z.cps.toList.map fun c => .str ⟨#[c]⟩
theorem wpI_str (h : wpE K fd te env fun d => ∃ z, d = .str z ∧ CL (signs z)) : wpI K fd (iStr te) env CL := fun F σ H I R k =>
  h F σ H I _ fun v H2 d u r c => by
    obtain ⟨z, rfl, c⟩ := c
    cases r
    have hl : (signs z).length = z.cps.size := by unfold signs; rw [List.length_map, Array.length_toList]
    refine ⟨z, rfl, k _ H2 _ u ⟨fun i H' e hi => (by show i < z.cps.size; omega), fun i H' e hi => (by show z.cps.size ≤ i; omega), fun i x H' H'' e hi y => ?_⟩ c⟩
    obtain ⟨rfl, ch, hc, rfl⟩ := y
    refine ⟨.str ⟨#[ch]⟩, ?_, Ex.refl _, fun G _ _ => .str _⟩
    unfold signs
    rw [List.getElem?_map, Array.getElem?_toList, hc]
    rfl
end
section
variable {K : Frag} {fd : Ad} {env : List Sl} {te ta tb tc : TE} {C : PyData → Prop} {P : Po}
/-- xs[e], xs an own list -/
theorem wp_ixOwn {i : Nat} {p : Addr} {ds : List PyData} (e : env[i]? = some (.own p ds)) (h : wpE K fd tb env fun b => ∃ (k : Int) (d : PyData), b = .int k ∧ atI ds k = some d ∧ C d) : wpE K fd (tOp (rIxL K) (tVar i) tb) env C := fun F σ H I Q k => by
  obtain ⟨o, e1, q⟩ := I.get e
  cases o with
  | none => exact False.elim q
  | some v =>
    obtain ⟨rfl, h2, h3, us, h4, h5⟩ := q
    refine ⟨_, e1, h F σ H I _ fun y H2 b u r c => ?_⟩
    obtain ⟨kk, d, rfl, hat, hc⟩ := c
    cases r
    obtain ⟨v, hv, rv⟩ := all_at h5 hat
    exact ⟨p, us, kk, v, rfl, rfl, sq_of (u.keep _ _ h3 h4), hv, k v H2 d u (dmono (I.see u) rv) hc⟩
end
end Dn

namespace Dn
open PySem L2 Evl PyProof.Rows
/-! ## instances of own classes, told as data -/
theorem dmonoFs {K : Frag} {G G' : Hp} (e : Ex G G') {fs : List (Str × V)} {kvs : List (PyData × PyData)} (h : DrFs K G fs kvs) : DrFs K G' fs kvs := by
  induction fs generalizing kvs with
  | nil => cases h; exact .nil
  | cons p fs ih =>
    cases h with
    | cons a b => exact .cons (dmono e a) (ih b)
def fldOf : List (PyData × PyData) → Str → Option PyData
  | (.str g, d) :: r, f => if f = g then some d else fldOf r f
  | _, _ => none
theorem drfs_get {K : Frag} {G : Hp} {fs : List (Str × V)} {kvs : List (PyData × PyData)} {f : Str} {d : PyData} (h : DrFs K G fs kvs) (e : fldOf kvs f = some d) : ∃ v, fs.lookup f = some v ∧ Dr K G v d := by
  induction fs generalizing kvs with
  | nil => cases h; cases e
  | cons p fs ih =>
    cases h with
    | @cons g v _ d' kvs' a b =>
      rw [fldOf] at e
      by_cases z : f = g
      · rw [if_pos z] at e
        obtain rfl := Option.some.inj e
        subst z
        exact ⟨v, by rw [List.lookup_cons, beq_self_eq_true], a⟩
      · rw [if_neg z] at e
        obtain ⟨v', h1, h2⟩ := ih b e
        exact ⟨v', by rw [List.lookup_cons, beq_eq_false_iff_ne.mpr z]; exact h1, h2⟩
theorem drfs_no {K : Frag} {G : Hp} {fs : List (Str × V)} {kvs : List (PyData × PyData)} {f : Str} (h : DrFs K G fs kvs) (e : ∀ k d, (k, d) ∈ kvs → k ≠ .str f) : fs.lookup f = none := by
  induction fs generalizing kvs with
  | nil => rfl
  | cons p fs ih =>
    cases h with
    | @cons g v _ d' kvs' a b =>
      have z : f ≠ g := fun z => e _ _ (List.mem_cons_self ..) (by rw [z])
      rw [List.lookup_cons, beq_eq_false_iff_ne.mpr z]
      exact ih b fun k d m => e k d (List.mem_cons_of_mem _ m)
/-- an instance of the class at C -/
def insD (C : Addr) (kvs : List (PyData × PyData)) : PyData := .dict ((.none, .int (C : Int)) :: kvs)
theorem ins_inv {K : Frag} {G : Hp} {v : V} {C : Addr} {kvs : List (PyData × PyData)} (h : Dr K G v (insD C kvs)) : ∃ a dx fs, v = .ref a ∧ G a = some (.ins C dx fs) ∧ DrFs K G fs kvs := by
  generalize e : insD C kvs = d at h
  cases h with
  | @ins a C2 dx fs kvs2 sa ra =>
    unfold insD at e
    injection e with e
    injection e with e1 e2
    injection e1 with e3 e4
    injection e4 with e4
    have e5 : C = C2 := Int.ofNat_inj.mp e4
    subst e2; subst e5
    exact ⟨_, _, _, rfl, sa, ra⟩
  | giv _ _ =>
    unfold insD at e
    injection e with e
    injection e with e1 e2
    injection e1 with e3 e4
    cases e3
  | dct _ rf =>
    cases rf with
    | nil => cases e
    | cons _ _ =>
      unfold insD at e
      injection e with e
      injection e with e1 e2
      injection e1 with e3 e4
      cases e3
  | _ => cases e
section
variable {K : Frag} {fd : Ad} {env : List Sl} {te ta tb tc : TE} {C : PyData → Prop} {CL : List PyData → Prop} {P : Po} {A : Addr} {f m : Str} {tas : TA} {E : XK}
theorem wp_fld (cl : Cls K A) (no : NoAttr K A f) (h : wpE K fd te env fun d => ∃ kvs d', d = insD A kvs ∧ fldOf kvs f = some d' ∧ C d') : wpE K fd (tFld K te f) env C := fun F σ H I Q k =>
  h F σ H I _ fun v H1 d u r c => by
    obtain ⟨kvs, d', rfl, e, c⟩ := c
    obtain ⟨a, dx, fs, rfl, ha, rf⟩ := ins_inv r
    obtain ⟨v, hv, rv⟩ := drfs_get rf e
    exact ⟨a, A, dx, fs, v, rfl, off_full _ _ ha, cl, no, hv, k v H1 d' u rv c⟩
/-- o.m(..), m a def that hands back a new list -/
theorem wpN_meth {G : List PyData → (List PyData → Prop) → Prop} (h : wpE K fd te env fun d => ∃ kvs, d = insD A kvs ∧ (∀ k d, (k, d) ∈ kvs → k ≠ .str m) ∧ wpA K fd tas env fun ds => G (d :: ds) CL) : wpN K fd (tMeth A m (spN K G) [] E te tas) env CL := fun F σ H I Q k =>
  h F σ H I _ fun v H1 d u r c => by
    obtain ⟨kvs, rfl, no, c⟩ := c
    obtain ⟨a, dx, fs, rfl, ha, rf⟩ := ins_inv r
    refine ⟨a, dx, fs, rfl, off_full _ _ ha, drfs_no rf no, c F σ H1 (I.up u) _ fun vs H2 ds u2 r2 g => ?_⟩
    show spN K G (V.ref a :: (vs ++ [])) H2 Q E
    rw [List.append_nil]
    exact ⟨F, insD A kvs :: ds, CL, ((I.up u).up u2).there, .cons (dmono ((I.up u).see u2) r) r2, g, fun p xs H' es hp e e1 r3 c3 => k p xs H' es (none_back I.there I.fdF (u.trans u2) hp) ((u.trans u2).trans (.ex u2.feed e)) e1 r3 c3⟩
/-- __init__ of the class at A: p, new, gets its attributes -/
def spI (K : Frag) (A : Addr) (G : List PyData → (List (PyData × PyData) → Prop) → Prop) : Sp := fun vs H Q _ => ∃ (p dx : Addr) (ws : List V) (F : Ad) (ds : List PyData) (Cf : List (PyData × PyData) → Prop), vs = .ref p :: ws ∧ H p = some (.ins A dx []) ∧ F p ∧ (∀ a, F a → H a ≠ none) ∧ DrAll K (off F H) ws ds ∧ G ds Cf ∧
  ∀ H' fs kvs, (∀ a o, a ≠ p → H a = some o → H' a = some o) → H' p = some (.ins A dx fs) → DrFs K (off F H') fs kvs → Cf kvs → Q .non H'
theorem wp_make {G : List PyData → (List (PyData × PyData) → Prop) → Prop} (h : wpA K fd tas env fun ds => G ds fun kvs => C (insD A kvs)) : wpE K fd (tMake A (spI K A G) [] E tas) env C := fun F σ H I Q k =>
  h F σ H I _ fun vs H1 ds u r g => by
    intro x dx nx ndx ne
    show spI K A G (V.ref x :: (vs ++ [])) _ _ E
    rw [List.append_nil]
    have I1 := I.up u
    have nf : ∀ {b}, H1 b = none → ¬ F b := fun {b} e z => I1.there b z e
    have st : ∀ a o, H1 a = some o → (upd (upd H1 dx (.own x)) x (.ins A dx [])) a = some o := fun a o e => by
      rw [upd_ne (ne_of_none e nx), upd_ne (ne_of_none e ndx)]; exact e
    refine ⟨x, dx, vs, fun a => F a ∨ a = x, ds, _, rfl, upd_same, .inr rfl, fun a z => ?_, dmonoAll (fun a o e => ?_) r, g, fun H' fs kvs kp e rf c => ⟨rfl, ?_⟩⟩
    · rcases z with z | z
      · cases e : H1 a with
        | none => exact absurd e (I1.there a z)
        | some o => rw [st a o e]; exact fun c => nomatch c
      · subst z; rw [upd_same]; exact fun c => nomatch c
    · obtain ⟨n, e⟩ := off_some e
      rw [off_ne (S := fun a => F a ∨ a = x) fun z => z.elim n fun z => by rw [z, nx] at e; cases e]
      exact st a o e
    · have ex : ∀ a o, H1 a = some o → H' a = some o := fun a o e => kp a o (ne_of_none e nx) (st a o e)
      exact k _ H' _ (u.trans (.ex u.feed ex)) (.ins (by rw [off_ne (nf nx)]; exact e) (dmonoFs (off_less fun a z => .inl z) rf)) c
/-- self.f = a new list, self (slot 0) being made -/
theorem fld_set {F : Ad} {σ : L2.St} {H : Hp} {D : Ends} {p dx : Addr} {fs : List (Str × V)} {kvs : List (PyData × PyData)} (I : EnvOk K nofd F σ H env) (e0 : env[0]? = some (.raw (.ref p))) (hF : F p) (hown : ∀ (i : Nat) (q : Addr) (ds : List PyData), env[i]? = some (.own q ds) → q ≠ p)
    (hp : H p = some (.ins A dx fs)) (r : DrFs K (off F H) fs kvs) (cl : Cls K A) (no : NoAttr K A f) (hl : fs.length < 1000) (h : wpN K nofd te env CL)
    (k : ∀ H' v ds, CL ds → EnvOk K nofd F σ H' env → H' p = some (.ins A dx (putF f v fs)) → Dr K (off F H') v (.list ds) → DrFs K (off F H') fs kvs → (∀ a o, a ≠ p → H a = some o → H' a = some o) → D.nx σ H') : sFld K (tVar 0) te f D σ H :=
  h F σ H I _ fun q vs H2 ds hq u e r2 c => by
    have I2 := I.up u
    obtain ⟨o, e1, z⟩ := I.get e0
    cases o with
    | none => exact z.elim
    | some v =>
      have z : v = .ref p := z
      subst z
      have hp2 := u.keep p _ (fun z => z) hp
      have npq : q ≠ p := fun z => by rw [z, hp] at hq; cases hq
      have hoff : ∀ v', off F (upd H2 p (.ins A dx (putF f v' fs))) = off F H2 := fun v' => by
        funext a
        by_cases z : F a
        · rw [off_in z, off_in z]
        · rw [off_ne z, off_ne z, upd_ne (show a ≠ p from fun w => z (by rw [w]; exact hF))]
      refine ⟨_, e1, p, A, dx, fs, rfl, hp2, cl, no, hl, k _ (.ref q) ds c ?_ upd_same ?_ ?_ fun a o n e => by rw [upd_ne n]; exact u.keep a o (fun z => z) e⟩
      · refine ⟨fun a z => ?_, I2.fdF, fun f z => z.elim, I2.len, fun i o x a1 a2 => ?_⟩
        · by_cases w : a = p
          · rw [w, upd_same]; exact fun c => nomatch c
          · rw [upd_ne w]; exact I2.there a z
        · have s := I2.slot i o x a1 a2
          cases x with
          | no => cases o <;> exact True.intro
          | dat d =>
            cases o with
            | none => exact s
            | some v => show Dr K (off F _) v d; rw [hoff]; exact s
          | own q2 ds2 =>
            cases o with
            | none => exact s
            | some v =>
              obtain ⟨s1, s2, s3, us, s4, s5⟩ := s
              exact ⟨s1, s2, s3, us, by rw [upd_ne (hown i q2 ds2 a2)]; exact s4, by rw [hoff]; exact s5⟩
          | fed g => cases o <;> exact s
          | raw w => cases o <;> exact s
      · rw [hoff]; exact see_new I.there hq e r2
      · rw [hoff]; exact dmonoFs (I.see u) r
end
end Dn

namespace Dn
open PySem L2 Evl PyProof.Rows
/-! ## if within a generator -/
def tGIf (c : TT) (t u : TGn) : TGn := fun D ys σ H => c σ H fun b H1 => if b = true then t D ys σ H1 else u D ys σ H1
theorem gs_if {X : Cx} {test : Expr} {body orelse : List Stmt} {pos : Pos} {tc : TT} {t u : TGn} (hc : PT X test tc) (hb : GSs X body t) (hu : GSs X orelse u) : GS X (.If test body orelse pos) (tGIf tc t u) := by
  refine ⟨fun A S ip R n ys sA c fs K J gd lv s σ H D g hn k hI ht => ?_⟩
  obtain ⟨acc, cc, r, I⟩ := hI
  refine seg_at ?_
  show Seg _ A R _ n sA c (Sem.wrap K J gd lv ((isTrue test X.env (eval test X.env)).bind fun b => if b then execs body X.env else execs orelse X.env)) fs s
  rw [Sem.bind_eq_wrap, Sem.wrap_wrap]
  refine seg_wrap ?_
  rw [g.over]
  refine wpAny_mono (hc.run _ s σ H _ I ht) (fun b s2 h => ?_) fun x s2 hx => k.exc n sA x s2 hx
  obtain ⟨H2, I2, q⟩ := h
  cases b with
  | true =>
    rw [if_pos rfl] at q
    exact hb.run A S ip R n ys sA c fs K J gd lv s2 σ H2 D g hn k ⟨acc, cc, r, I2⟩ q
  | false =>
    rw [if_neg Bool.false_ne_true] at q
    exact hu.run A S ip R n ys sA c fs K J gd lv s2 σ H2 D g hn k ⟨acc, cc, r, I2⟩ q
section
variable {K : Frag} {fd : Ad} {env : List Sl} {PG : List PyData → List Sl → Prop} {ys : List PyData} {t u : TGn} {tc : TT}
theorem wpG_if (h : wpT K fd tc env fun b => (b = true → wpG K fd t ys env PG) ∧ (b = false → wpG K fd u ys env PG)) : wpG K fd (tGIf tc t u) ys env PG := fun F0 H0 σ H yv S r D k =>
  h _ σ H S.ev _ fun b H2 up c => by
    have r2 := dmonoAll (S.ev.see up) r
    cases b with
    | true => rw [if_pos rfl]; exact c.1 rfl F0 H0 σ H2 yv (S.upE up) r2 D k
    | false => rw [if_neg (by decide)]; exact c.2 rfl F0 H0 σ H2 yv (S.upE up) r2 D k
end
end Dn

namespace Dn
open PySem L2 Evl PyProof.Rows
/-! ## for within a generator -/
section
variable {prog : Program} {w : World} {A : Around} {R : GenEnd} {Y : Protocol} {n : Nat} {sA : Shared} {fs : List Frame} {s : Shared} {env : Env}
/-- what a loop's code does with an exception -/
def noted (env : Env) (e : Value) : Sem PySem.Fin := (do noteFrame e env; theTreesLotGoes e : Sem Unit).wrap (fun _ => .raise e) .raise id id
theorem seg_turn {tg : Expr} {it : Value} {body : List Stmt}
    (h : wpAny (model prog w) (A.over (.forLoop tg it body [] env) fs) (pyNext it) (fun r s1 => match r with
      | none => Seg (model prog w) A R Y n sA (.forLoop tg it body [] env) (.pure (.again (.block [] env))) fs s1
      | some v => wpAny (model prog w) (A.over (.forLoop tg it body [] env) fs) (letOwnedTupleGo tg it v) (fun _ s2 =>
          wpAny (model prog w) (A.over (.forLoop tg it body [] env) fs) (assign tg env v) (fun _ s3 =>
            Seg (model prog w) A R Y n sA (.forLoop tg it body [] env) ((execs body env).wrap (fun f => match f with
              | .next | .cont => .pure (.again (.forLoop tg it body [] env))
              | .brk => .pure (.done .next)
              | .ret v => .pure (.done (.ret v))) (noted env) id id) fs s3)
            (fun x s3 => Seg (model prog w) A R Y n sA (.forLoop tg it body [] env) (noted env x) fs s3) s2)
          (fun x s2 => Seg (model prog w) A R Y n sA (.forLoop tg it body [] env) (noted env x) fs s2) s1)
      (fun x s1 => Seg (model prog w) A R Y n sA (.forLoop tg it body [] env) (noted env x) fs s1) s) :
    Seg (model prog w) A R Y n sA (.forLoop tg it body [] env) ((model prog w).den (.forLoop tg it body [] env)) fs s := by
  show Seg _ A R Y n sA _ ((forTurn tg it body [] env).onRaise (fun x => do noteFrame x env; theTreesLotGoes x)) fs s
  unfold forTurn
  rw [Sem.onRaise_eq_wrap]
  have nt : ∀ e, ((do noteFrame e env; theTreesLotGoes e : Sem Unit).bind fun _ => (.raise e : Sem PySem.Fin)) = noted env e := fun e => Sem.bind_eq_wrap _ _
  refine seg_at ?_
  show Seg _ A R Y n sA _ (Sem.wrap _ _ _ _ (((pyNext it).onRaise fun _ => standAt { tg.pos with line := 0 }).bind _)) fs s
  rw [Sem.bind_eq_wrap, Sem.wrap_wrap]
  refine seg_wrap (wpAny_onRaise (wpAny_mono h (fun r s1 h1 => ?_) fun x s1 hx => wpAny_standAt ?_))
  · cases r with
    | none => exact h1
    | some v =>
      show Seg _ A R Y n sA _ (Sem.wrap _ _ _ _ ((letOwnedTupleGo tg it v).bind _)) fs s1
      rw [Sem.bind_eq_wrap, Sem.wrap_wrap]
      refine seg_wrap (wpAny_mono h1 (fun _ s2 h2 => ?_) fun x s2 hx => ?_)
      · show Seg _ A R Y n sA _ (Sem.wrap _ _ _ _ ((assign tg env v).bind _)) fs s2
        rw [Sem.bind_eq_wrap, Sem.wrap_wrap]
        refine seg_wrap (wpAny_mono h2 (fun _ s3 h3 => ?_) fun x s3 hx => ?_)
        · show Seg _ A R Y n sA _ (Sem.wrap _ _ _ _ ((execs body env).bind _)) fs s3
          rw [Sem.bind_eq_wrap, Sem.wrap_wrap]
          refine (congrArg (fun t => Seg (model prog w) A R Y n sA (.forLoop tg it body [] env) t fs s3) (Sem.wrap_congr (execs body env) id id (fun f => ?_) fun e => ?_)).mpr h3
          · cases f <;> rfl
          · exact nt e
        · show Seg _ A R Y n sA _ ((do noteFrame x env; theTreesLotGoes x : Sem Unit).bind fun _ => .raise x) fs s3
          rw [nt]; exact hx
      · show Seg _ A R Y n sA _ ((do noteFrame x env; theTreesLotGoes x : Sem Unit).bind fun _ => .raise x) fs s2
        rw [nt]; exact hx
  · show Seg _ A R Y n sA _ ((do noteFrame x env; theTreesLotGoes x : Sem Unit).bind fun _ => .raise x) fs s1
    rw [nt]; exact hx
end
def tGFor (wi : TI) (g : TG) (tb : TGn) : TGn := fun D ys σ H => wi σ H fun J H1 => ∃ W : Nat → Nat → List V → L2.St → Hp → Prop, (∃ m, W 0 m ys σ H1) ∧ ∀ i m ys σ H, W i m ys σ H →
  (J.stop i H ∧ D.nx ys σ H) ∨ (J.go i H ∧ ∃ N : List V → L2.St → Hp → Prop, (∀ ys2 σ2 H2, N ys2 σ2 H2 → ∃ m2, m2 < m ∧ W (i + 1) m2 ys2 σ2 H2) ∧ ∀ x H2, J.yld i H x H2 → g x σ H2 fun σ3 H3 => tb { D with nx := N, ct := N, bk := D.nx } ys σ3 H3)
theorem gs_for {X : Cx} {tg iter : Expr} {body : List Stmt} {pos : Pos} {wi : TI} {g : TG} {tb : TGn} (hp : PassesOwn (model X.prog X.w) X.A X.env X.xe) (hc : X.calm = true) (hi : PI X tg iter wi) (hg : PG X tg g) (hb : GSs X body tb)
    (hs : ∀ x, foldedSetIterable iter X.env x = pure x := by intro _; rfl) : GS X (.For tg iter body [] pos) (tGFor wi g tb) := by
  refine ⟨fun A S ip R n ys sA c fs K J gd lv s σ H D gg hn k hI ht => ?_⟩
  obtain ⟨acc, cc, r, I⟩ := hI
  refine seg_at ?_
  show Seg _ A R _ n sA c (Sem.wrap K J gd lv ((eval iter X.env).bind _)) fs s
  rw [Sem.bind_eq_wrap, Sem.wrap_wrap]
  refine seg_wrap ?_
  rw [gg.over]
  refine wpAny_mono (hi.run _ s σ H _ I ht) (fun v s1 h1 => ?_) fun x s1 hx => k.exc n sA x s1 hx
  show Seg _ A R _ n sA c (Sem.wrap K J gd lv ((foldedSetIterable iter X.env v).bind _)) fs s1
  rw [hs v]
  refine seg_at ?_
  show Seg _ A R _ n sA c (Sem.wrap K J gd lv ((holding [v] (pyIter v)).bind _)) fs s1
  rw [Sem.bind_eq_wrap, Sem.wrap_wrap]
  refine seg_wrap ?_
  rw [gg.over]
  refine wpAny_holding (wpAny_mono h1 (fun itv s2 h2 => ?_) fun x s2 hx => k.exc n sA x s2 hx)
  obtain ⟨it, fp, tn, J1, H2, e, I2, T, st2, f2, W, ⟨m0, w0⟩, turn⟩ := h2
  subst e
  refine seg_call fun p => ?_
  have gl := fun (kk : Result → Sem PySem.Fin) => gc_loop (k := kk) (c' := .forLoop tg (.ref it) body [] X.env) (l := lv []) (kp := []) (p := p) gg rfl rfl
  have gb := fun (kk : Result → Sem PySem.Fin) => gc_loop (k := kk) (c' := .block [] X.env) (l := lv []) (kp := []) (p := p) gg rfl rfl
  have hS : ∀ b, b ∈ fp → b ≠ S := fun b hbm z => (f2 b hbm).2.2.2.2.2 (S, lstObj acc cc) (List.mem_append_right _ (List.mem_cons_self ..)) z.symm
  have foot : ∀ {H5 : Hp} {acc5 : Array Value} {c5 : Nat}, (∀ b, b ∈ fp → H5 b = none) → ∀ b ∈ fp, FpOk X ((S, lstObj acc5 c5) :: ip) H5 b := fun {H5 acc5 c5} hn5 b hbm => by
    obtain ⟨_, z1, z2, z3, z4, z5⟩ := f2 b hbm
    refine ⟨hn5 b hbm, z1, z2, z3, z4, fun q hq => ?_⟩
    rcases List.mem_append.mp hq with hq | hq
    · exact z5 q (List.mem_append_left _ hq)
    · rcases List.mem_cons.mp hq with hq | hq
      · rw [hq]; exact fun z => hS b hbm z.symm
      · exact z5 q (List.mem_append_right _ (List.mem_cons_of_mem _ hq))
  have loop : ∀ (m i n : Nat) (ys : List V) (sA s : Shared) (σ : L2.St) (H : Hp) (acc : Array Value) (cc : Nat), n + ys.length = sizeLine → Vals ys acc.toList → L2.Inv X ((S, lstObj acc cc) :: ip) σ H s → tn i s.heap → (∀ b, b ∈ fp → H b = none) → W i m ys σ H →
      Seg (model X.prog X.w) A R (GY X S) n sA (.forLoop tg (.ref it) body [] X.env) ((model X.prog X.w).den (.forLoop tg (.ref it) body [] X.env))
        (.ret (fun r => ((match r with | .ok f => (.pure f : Sem Flow) | .error e => .raise e).onRaise (cameBack X.env)).wrap K J gd lv) none (gd false) (lv []) c p [] :: fs) s := by
    intro m
    induction m using Nat.strongRecOn with
    | ind m ih =>
      intro i n ys sA s σ H acc cc hn r I st fr w
      have ee : ∀ (c2 : Code) (n : Nat) (sA : Shared) (x : Value) (s5 : Shared), A.over c2 (.ret (fun r => ((match r with | .ok f => (.pure f : Sem Flow) | .error e => .raise e).onRaise (cameBack X.env)).wrap K J gd lv) none (gd false) (lv []) c p [] :: fs) = X.A → X.xe x s5 →
          Seg (model X.prog X.w) A R (GY X S) n sA c2 (noted X.env x) (.ret (fun r => ((match r with | .ok f => (.pure f : Sem Flow) | .error e => .raise e).onRaise (cameBack X.env)).wrap K J gd lv) none (gd false) (lv []) c p [] :: fs) s5 := fun c2 n sA x s5 ov hx => by
        refine seg_wrap ?_
        rw [ov]
        refine wpAny_bind (wpAny_mono (hp x s5 hx) (fun _ s6 h6 => wpAny_theTreesLotGoes ?_) fun y s6 h6 => ?_)
        · exact seg_leaf (.error x) (seg_cameBack gg k h6)
        · exact seg_leaf (.error y) (seg_cameBack gg k h6)
      have ov := (gl (fun r => ((match r with | .ok f => (.pure f : Sem Flow) | .error e => .raise e).onRaise (cameBack X.env)).wrap K J gd lv)).over
      refine seg_turn ?_
      rw [ov]
      rcases turn i m ys σ H w with ⟨stop, q⟩ | ⟨go, N, hN, step⟩
      · refine wpAny_mono (T.done X rfl rfl rfl hc i _ s σ H X.xe I (foot fr) st stop) (fun rr s3 h3 => ?_) fun x s3 hx => ee _ n sA x s3 ov hx
        obtain ⟨rfl, I3⟩ := h3
        refine seg_again rfl ?_
        exact seg_leaf (.ok .next) (k.ok n ys sA s3 .next hn ⟨σ, H, ⟨acc, cc, r, I3⟩, q⟩)
      · refine wpAny_mono (T.item X rfl rfl rfl hc i _ s σ H X.xe I (foot fr) st go) (fun rr s3 h3 => ?_) fun x s3 hx => ee _ n sA x s3 ov hx
        obtain ⟨u, rfl, h4⟩ := h3
        refine wpAny_mono h4 (fun _ s4 h5 => ?_) fun x s4 hx => ee _ n sA x s4 ov hx
        obtain ⟨x, H5, I5, r5, y5, st5, fr5⟩ := h5
        have I6 : L2.Inv X ((S, lstObj acc cc) :: (ip ++ pinsAt fp s4.heap)) σ H5 s4 := I5.pinned (foot fr5) (T.obj _ _ st5)
        refine wpAny_mono (hg.run _ s4 σ H5 x u _ I6 r5 (step x H5 y5)) (fun _ s5 h6 => ?_) fun x s5 hx => ee _ n sA x s5 ov hx
        obtain ⟨σ6, H6, I7, q6⟩ := h6
        have g2 : GC X S (ip ++ pinsAt fp s4.heap) A (.forLoop tg (.ref it) body [] X.env) (.ret (fun r => ((match r with | .ok f => (.pure f : Sem Flow) | .error e => .raise e).onRaise (cameBack X.env)).wrap K J gd lv) none (gd false) (lv []) c p [] :: fs) id :=
          let g1 := gl (fun r => ((match r with | .ok f => (.pure f : Sem Flow) | .error e => .raise e).onRaise (cameBack X.env)).wrap K J gd lv)
          ⟨g1.pn, fun q hq => (List.mem_append.mp hq).elim (g1.ip q) fun z => hS q.1 (of_pinsAt z).1, g1.apart, g1.over, g1.split, g1.guard, g1.gd⟩
        have back : ∀ (n7 : Nat) (ys7 : List V) (sB s7 : Shared), n7 + ys7.length = sizeLine → (∃ σ7 H7, GI X S (ip ++ pinsAt fp s4.heap) ys7 σ7 H7 s7 ∧ N ys7 σ7 H7) → Seg (model X.prog X.w) A R (GY X S) n7 sB (.forLoop tg (.ref it) body [] X.env) (.pure (.again (.forLoop tg (.ref it) body [] X.env))) (.ret (fun r => ((match r with | .ok f => (.pure f : Sem Flow) | .error e => .raise e).onRaise (cameBack X.env)).wrap K J gd lv) none (gd false) (lv []) c p [] :: fs) s7 := by
          rintro n7 ys7 sB s7 hn7 ⟨σ7, H7, ⟨acc7, c7, r7, I8⟩, q7⟩
          obtain ⟨m2, hm2, w2⟩ := hN ys7 σ7 H7 q7
          have pin : ∀ b, b ∈ fp → ∀ o, s4.heap.get? b = some o → s7.heap.get? b = some o ∧ H7 b = none := fun b hbm o e => by
            have z := I8.pin (b, o) (List.mem_append_right _ (List.mem_cons_of_mem _ (List.mem_append_right _ (mem_pinsAt hbm e))))
            exact ⟨z.1, z.2.1⟩
          have I9 : L2.Inv X ((S, lstObj acc7 c7) :: ip) σ7 H7 s7 := Inv.unpinned (pl := pinsAt fp s4.heap) I8
          refine seg_again rfl (ih m2 hm2 (i + 1) n7 ys7 sB s7 σ7 H7 acc7 c7 hn7 r7 I9 (T.keep _ _ _ st5 fun b hbm o e => (pin b hbm o e).1) (fun b hbm => ?_) w2)
          obtain ⟨o, e, _⟩ := T.obj _ _ st5 b hbm
          exact (pin b hbm o e).2
        have unp : ∀ {ys7 : List V} {σ7 : L2.St} {H7 : Hp} {s7 : Shared}, GI X S (ip ++ pinsAt fp s4.heap) ys7 σ7 H7 s7 → GI X S ip ys7 σ7 H7 s7 := fun {ys7 σ7 H7 s7} ⟨acc7, c7, r7, I8⟩ => ⟨acc7, c7, r7, Inv.unpinned (pl := pinsAt fp s4.heap) I8⟩
        refine hb.run A S (ip ++ pinsAt fp s4.heap) R n ys sA _ _ _ _ id id s5 σ6 H6 { D with nx := N, ct := N, bk := D.nx } g2 hn ⟨fun n7 ys7 sB s7 f hn7 h7 => ?_, fun n7 sB x s7 hx => ee _ n7 sB x s7 ov hx⟩ ⟨acc, cc, r, I7⟩ q6
        cases f with
        | next => exact back n7 ys7 sB s7 hn7 h7
        | cont => exact back n7 ys7 sB s7 hn7 h7
        | brk => obtain ⟨σ7, H7, z, q7⟩ := h7; exact seg_leaf (.ok .next) (k.ok n7 ys7 sB s7 .next hn7 ⟨σ7, H7, unp z, q7⟩)
        | ret v => obtain ⟨v7, σ7, H7, z, q7⟩ := h7; exact seg_leaf (.ok (.ret v)) (k.ok n7 ys7 sB s7 (.ret v) hn7 ⟨v7, σ7, H7, unp z, q7⟩)
  exact loop m0 0 n ys sA s2 σ H2 acc cc hn r I2 st2 (fun b hbm => (f2 b hbm).1) w0
end Dn

namespace Dn
open PySem L2 Evl PyProof.Rows
/-! ## a < b for data that are alike -/
def rLtD (K : Frag) : R2 := fun x y H Q => ∃ a b, Dp K H x a ∧ Dp K H y b ∧ PySem.W.alike a b = true ∧ a ≠ .none ∧ a.depth ≤ 60 ∧ Q (.bl (PySem.W.dataLt a b)) H
theorem op_ltD {X : Cx} (hu : X.A.units + 64 < cLine) : OpR X (compareOp .Lt) (rLtD X.K) := by
  intro pins s σ H x y v u Q I rx ry h
  obtain ⟨a, b, ha, hb, hal, hn, hd, q⟩ := h
  obtain ⟨as, r1⟩ := Dp.reads I a x v ha rx
  obtain ⟨bs, r2⟩ := Dp.reads I b y u hb ry
  exact PySem.W.rcLt_alike a b X.A s v u as bs r1 r2 hal hn (by have := Nat.min_le_left a.depth b.depth; omega) X.prog X.w X.xe _ ⟨.bl _, H, I, rfl, q⟩
section
variable {K : Frag} {C : PyData → Prop}
theorem opd_ltD {a b : PyData} (ha : plain a = true) (hb : plain b = true) (hal : PySem.W.alike a b = true) (hn : a ≠ .none) (hd : a.depth ≤ 60) (c : C (.bool (PySem.W.dataLt a b))) : OpD K (rLtD K) a b C := fun F H x y th rx ry Q k =>
  ⟨a, b, toDp (dmono off_full rx) ha, toDp (dmono off_full ry) hb, hal, hn, hd, k _ H _ (Ex.refl H) (.bl _) c⟩
end
end Dn

namespace Dn
open PySem L2 Evl PyProof.Rows
section
variable {K : Frag} {fd : Ad} {env : List Sl} {PG : List PyData → List Sl → Prop} {ys : List PyData}
/-- for within a generator -/
theorem wpG_for {wi : TI} {g : TG} {tb : TGn} (h : wpI K fd wi env fun ds => ∃ I : Nat → List PyData → List Sl → Prop, I 0 ys env ∧
    (∀ i d ys2 env2, ds[i]? = some d → I i ys2 env2 → ∃ as, gD K g d as ∧ wpG K fd tb ys2 (asgE env2 as) (I (i + 1))) ∧ ∀ ys2 env2, I ds.length ys2 env2 → PG ys2 env2) :
    wpG K fd (tGFor wi g tb) ys env PG := fun F0 H0 σ H yv S r D k =>
  h _ σ H S.ev _ fun J H2 ds u it c => by
    obtain ⟨I, i0, turn, last⟩ := c
    have S2 := S.upE u
    have ub := base_up S2
    have r2 := dmonoAll (S.ev.see u) r
    refine ⟨fun i m yv σ3 H3 => m = ds.length - i ∧ i ≤ ds.length ∧ ∃ ys3 env3, I i ys3 env3 ∧ StOk K fd F0 (off (fun a => a ∈ ownd env) H2) σ3 H3 env3 ∧ DrAll K (off (fun a => F0 a ∨ a ∈ ownd env3) H3) yv ys3, ⟨ds.length, by simp, Nat.zero_le _, ys, env, i0, S2.base, r2⟩, ?_⟩
    rintro i m yv3 σ3 H3 ⟨rfl, hi, ys3, env3, inv, S3, r3⟩
    have e := see_base S2 S3
    by_cases hlt : i < ds.length
    · refine .inr ⟨it.go i H3 e hlt, fun yv σ H => i + 1 ≤ ds.length ∧ ∃ ys3 env3, I (i + 1) ys3 env3 ∧ StOk K fd F0 (off (fun a => a ∈ ownd env) H2) σ H env3 ∧ DrAll K (off (fun a => F0 a ∨ a ∈ ownd env3) H) yv ys3, fun yv σ H ⟨a, b⟩ => ⟨ds.length - (i + 1), by omega, rfl, a, b⟩, fun x H4 y => ?_⟩
      obtain ⟨d, ed, ex, rd⟩ := it.yld i x H3 H4 e hlt y
      obtain ⟨as, hg, hb⟩ := turn i d ys3 env3 ed inv
      have u2 : Up fd H3 H4 := .ex S3.ev.feed ex
      have S4 := S3.upE u2
      have z0 : Ex (off (fun a => F0 a ∨ a ∈ ownd env) H2) (off (fun a => F0 a ∨ a ∈ ownd env3) H4) := fun a o q => by
        have q1 := ex _ _ (e _ _ q)
        obtain ⟨n, q2⟩ := off_some q
        rw [off_ne (S := fun a => F0 a ∨ a ∈ ownd env3) fun z => ?_]
        · exact q1
        · rcases z with z | z
          · exact n (.inl z)
          · have f := S3.fresh a z
            rw [off_ne (S := fun a => a ∈ ownd env) fun z => n (.inr z), q2] at f
            cases f
      have rx := rd (off (fun a => F0 a ∨ a ∈ ownd env3) H4) z0 fun a o q1 q2 => by
        rw [off_ne (S := fun a => F0 a ∨ a ∈ ownd env3) fun z => S3.ev.there a z q1]; exact q2
      have r4 := dmonoAll (S3.ev.see u2) r3
      refine hg _ H4 σ3 x _ rx fun ws p => ?_
      have S5 := S4.asg p (Ex.refl _)
      have sub : ∀ (as : List (Nat × PyData)) (E : List Sl) (a : Addr), a ∈ ownd (asgE E as) → a ∈ ownd E := fun as => by
        induction as with
        | nil => exact fun E a z => z
        | cons q as ih => exact fun E a z => (ownd_sub (fun p ds z => by cases z)).subset (ih _ a z)
      exact hb F0 _ _ H4 yv3 S5 (dmonoAll (off_less fun a z => z.imp id (sub as env3 a)) r4) _ fun yv σ H ys env q I r => ⟨hlt, ys, env, q, I, r⟩
    · have ei : i = ds.length := Nat.le_antisymm hi (Nat.le_of_not_lt hlt)
      subst ei
      exact .inl ⟨it.stop _ H3 e (Nat.le_refl _), k yv3 σ3 H3 ys3 env3 (last ys3 env3 inv) (S3.back (H2 := H3) (u.trans (.ex u.feed (Ex.refl _)) |> fun _ => ub) S.th0) r3⟩
end
end Dn

/-! # Own exceptions whose __init__ says super().__init__("..") and keeps its argument as a field -/
namespace XIX
open PySem PySem.W PySem.Calls PyProof.Rows PySem.HandSPX
def iA (par : Str) (p1 p2 : Pos) : Arguments := { posonlyargs := [], args := [{ arg := "self", annotation := none, pos := p1 }, { arg := par, annotation := none, pos := p2 }], vararg := none, kwonlyargs := [], kw_defaults := [], kwarg := none, defaults := [] }
def iB (txt fld par : Str) (j : Nat) (p0 p1 p2 p3 p4 p5 q1 q2 q3 q4 : Pos) : List Stmt :=
  [.Expr (.Call (.Attribute (.Call (.Name "super" p0) [] [] p1) "__init__" p2) [.Constant (.str txt) j p3] [] p4) p5, .Assign [.Attribute (.Name "self" q1) fld q2] (.Name par q3) q4]
def iS (par : Str) : Scope := { kind := .function, names := [(PySem.Str.ofString "self", .local), (par, .local), (PySem.Str.ofString "__class__", .free), (PySem.Str.ofString "super", .globalImplicit)], isGenerator := false, isCoroutine := false, more := [] }
/-- what the written part says of the class nm, at C, and of its __init__, at fI -/
structure XTxt (P : Program) (K : Frag) (mg : Str → Option Value) (nm qual par fld : Str) (C fI : Addr) : Prop where
  gC : mg nm = some (.ref C)
  cls : ∃ nm q N bs bm sn sub ab col dd k0 k1 k2 k3 k5, K.lookup C = some (excClassObj nm q C N bs bm true sn sub ab col dd k0 k1 k2 k3 k5 "ValueError.__new__") ∧ refsVE bm = true
  sa : findIn K (.ref C) "__setattr__" = some (some (.builtin "object.__setattr__"))
  ga : findIn K (.ref C) "__getattribute__" = some (some (.builtin "BaseException.__getattribute__"))
  gg : findIn K (.ref C) "__getattr__" = some none
  noN : findIn K (.ref C) fld = some none
  iC : findIn K (.ref C) "__init__" = some (some (.ref fI))
  tC : typeIn K (.ref fI) = some (.type "function")
  kC : keepIn K (.ref C) = true
  exC : subIn K (.ref C) (.type "BaseException") = some true
  tyC : typeIn K (.ref C) = some (.type "type")
  hdC : hasDictIn K C = true
  fn : ∃ (oc : Value) (od : Option Addr) (kV doc pm : Value) (an : Option Addr) (cda cc : Addr) (ct : Value) (osl : Array (Option Value)) (txt : Str) (j : Nat) (r1 r2 p0 p1 p2 p3 p4 p5 q1 q2 q3 q4 : Pos),
    K.lookup fI = some ⟨oc, od, .func (fnX "__init__" qual (iA par r1 r2) (iB txt fld par j p0 p1 p2 p3 p4 p5 q1 q2 q3 q4) (iS par) [("__class__", cc)] .none kV doc pm an (.ref cda) ct), osl⟩ ∧ codeIn K (.ref cda) qual = true ∧
    (∃ pl : Sem Bool, ∀ env : Env, eval (.Call (.Attribute (.Call (.Name "super" p0) [] [] p1) "__init__" p2) [.Constant (.str txt) j p3] [] p4) env = (do
      let ov ← attributeBase (.Call (.Name "super" p0) [] [] p1) "__init__" env (eval (.Call (.Name "super" p0) [] [] p1) env)
      standAt p2.atName
      let (f, first) ← holding [ov] (getMethod ov "__init__" pl)
      callWith p4 f first (backTo p4 (starEach [.Constant (.str txt) j p3] env)) [])) ∧
    (∃ (ccl : Value) (cdd : Option Addr) (vs : Array Value) (ccs : Array (Option Value)) (file : Str) (tf : Tok), K.lookup cda = some ⟨ccl, cdd, .fields vs, ccs⟩ ∧ vs[2]? = some (.str file tf) ∧ ((P.main.file : Str) == file) = true) ∧
    (∃ (cl : Value) (cld : Option Addr) (csl : Array (Option Value)), K.lookup cc = some ⟨cl, cld, .cell (some (.ref C)), csl⟩)
  sup : ks_superIn K C C "__init__" = some (some (.builtin "ValueError.__init__"))
  sVE : subIn K (.ref C) (.type "ValueError") = some true
  mC : mroIn K C (.ref C) = some true
  noT : nsIn K cStatics "thirdparty.any" = some none
  noS : mg "super" = none
  top : (P.main.scope.names.lookup ("super" : Str)).isSome = false
  par1 : (par == ("self" : Str)) = false
  par2 : (par == ("__class__" : Str)) = false
  par3 : (par == ("super" : Str)) = false
  par4 : (par == ("__debug__" : Str)) = false
theorem exm_self {K : Frag} {S : Addr} (h1 : subIn K (.ref S) (.type "BaseException") = some true) (h2 : isClsIn K S = true) (h3 : typeIn K (.ref S) = some (.type "type")) (h4 : subIn K (.ref S) (.ref S) = some true) :
    exmOne K (.ref S) (.ref S) = some true := by
  have e1 : (subIn K (.ref S) (.type "BaseException") == some true) = true := by rw [h1] <;> rfl
  have e2 : ((clsIn K S).isSome && typeIn K (.ref S) == some (.type "type")) = true := by
    have h2' : (clsIn K S).isSome = true := h2
    rw [h2', h3] <;> rfl
  show (if (subIn K (.ref S) (.type "BaseException") == some true) = true then (if ((clsIn K S).isSome && typeIn K (.ref S) == some (.type "type")) = true then subIn K (.ref S) (.ref S) else none) else none) = some true
  rw [if_pos e1, if_pos e2]
  exact h4
theorem one_size (v : Value) : [v].length ≤ sizeLine := by
  rw [sizeLine_eq]
  exact (by decide : 1 ≤ 16777216)
theorem kept_but {K : Frag} {h h' : Heap} {x : Addr} (X : K.In h) (hx : K.lookup x = none) (k : ∀ b o, b ≠ x → h.get? b = some o → h'.get? b = some o) : K.In h' := fun a o e =>
  k a o (fun z => by rw [z, hx] at e; cases e) (X a o e)
/-- what __init__ leaves of a fresh exception at x -/
structure InitEnd (h h' : Heap) (x C dx t1 : Addr) (fld : Str) (v : Value) : Prop where
  keep : ∀ b o, b ≠ x → h.get? b = some o → h'.get? b = some o
  obj : h'.get? x = some { cls := .ref C, dict := some dx, data := .fields #[.ref t1, .none, .none, .none, .bool false, .none] }
  dbig : h.objs.size ≤ dx
  dne : dx ≠ x
  ns : h'.Ns1 dx (fun y => if y = fld then some v else none)
/-- a made exception -/
structure OwnMade (h h' : Heap) (e C d : Addr) (fld : Str) (v : Value) : Prop where
  keep : ∀ b o, h.get? b = some o → h'.get? b = some o
  new : h.objs.size ≤ e
  obj : ∃ t1 : Addr, h'.get? e = some { cls := .ref C, dict := some d, data := .fields #[.ref t1, .none, .none, .none, .bool false, .none] }
  dbig : h.objs.size ≤ d
  dne : d ≠ e
  ns : h'.Ns1 d (fun y => if y = fld then some v else none)
section
variable {prog : Program} {w : World} {A : Around} {E : Value → Shared → Prop} {R : Result → Shared → Prop} {s : Shared} {K : Frag} {mg : Str → Option Value} {nm qual par fld : Str} {C fI : Addr} {base : Heap}
/-- the arguments bind -/
def ArgsTo (K : Frag) (fI : Addr) (par : Str) (args : Args) (v : Value) : Prop := ∀ (s : Shared) (x : Addr) (fd : FuncData) (oc : Value) (od : Option Addr) (osl : Array (Option Value)), K.lookup fI = some ⟨oc, od, .func fd, osl⟩ → BindsTo s fd { args with pos := .ref x :: args.pos } [("self", .ref x), (par, v)]
theorem args_pos (T : XTxt prog K mg nm qual par fld C fI) (hbind : ∀ (qual' : Str) (body : List Stmt) (kV doc pm : Value) (an : Option Addr) (cdv ct : Value) (r1 r2 : Pos) (cl : List (Str × Addr)) (x : Addr) (u : Value),
    bindArgs (fnX "__init__" qual' (iA par r1 r2) body (iS par) cl .none kV doc pm an cdv ct) ⟨[.ref x, u], []⟩ = pure [(("self" : Str), Value.ref x), (par, u)]) (u : Value) : ArgsTo K fI par ⟨[u], []⟩ u := fun s x fd oc od osl h => by
  obtain ⟨oc, od, kV, doc, pm, an, cda, cc, ct, osl, txt, j, r1, r2, p0, p1, p2, p3, p4, p5, q1, q2, q3, q4, ho, _⟩ := T.fn
  rw [ho] at h
  cases h
  exact BindsTo.of_eq (hbind _ _ _ _ _ _ _ _ _ _ _ _ _)
theorem x_init (T : XTxt prog K mg nm qual par fld C fI) {x t0 : Addr} {v : Value} {args : Args} (hb : ArgsTo K fI par args v) (Mo : L2.Mod K mg base) (bs : ∀ b o, base.get? b = some o → s.heap.get? b = some o) (hx : s.heap.get? x = some (excO C t0)) (hnx : K.lookup x = none) (hroom : A.depth < recursionLimit)
    (hq : ∀ h' tk dx t1, InitEnd s.heap h' x C dx t1 fld v → R (.ok (.ret .none)) { s with heap := h', toks := tk }) :
    codeAny (model prog w) A (.call (.ref fI) { args with pos := .ref x :: args.pos }) R s := by
  obtain ⟨oc, od, kV, doc, pm, an, cda, cc, ct, osl, txt, j, r1, r2, p0, p1, p2, p3, p4, p5, q1, q2, q3, q4, ho, hcd, ⟨pl, hev⟩, ⟨ccl, cdd, vs, ccs, file, tf, hcode, hvs, hfile⟩, cl, cld, csl, hcell⟩ := T.fn
  obtain ⟨nm', q, N, bas, bm, sn, sub, ab, col, dd, k0, k1, k2, k3, k5, hC, hbm⟩ := T.cls
  have X : K.In s.heap := Mo.kin.keeps bs
  have hcl : clsIn K C = some { name := nm', bases := bas, mro := .ref C :: bm, ns := N, qualname := q, hasDict := true, slotNames := sn, subclasses := sub, abstract := ab, collection := col, hasDel := false } := by unfold clsIn; rw [hC] <;> rfl
  have hp1 := T.par1
  have hp2 := T.par2
  have hp3 := T.par3
  have hpn : (PySem.Str.ofString "self" == par) = false := by
    have z := T.par1
    simp only [beq_eq_false_iff_ne, ne_eq] at z ⊢
    exact fun e => z e.symm
  have lS : (iS par).names.lookup ("self" : Str) = some .local := rfl
  have lP : (iS par).names.lookup par = some .local := by
    show List.lookup par [(PySem.Str.ofString "self", NameKind.local), (par, .local), (PySem.Str.ofString "__class__", .free), (PySem.Str.ofString "super", .globalImplicit)] = _
    have e1 : (par == PySem.Str.ofString "self") = false := T.par1
    simp [List.lookup, e1]
  have lC : (iS par).names.lookup ("__class__" : Str) = some .free := by
    show List.lookup ("__class__" : Str) [(PySem.Str.ofString "self", NameKind.local), (par, .local), (PySem.Str.ofString "__class__", .free), (PySem.Str.ofString "super", .globalImplicit)] = _
    have e1 : (("__class__" : Str) == PySem.Str.ofString "self") = false := by decide
    have e2 : (("__class__" : Str) == par) = false := by
      have z := T.par2
      simp only [beq_eq_false_iff_ne, ne_eq] at z ⊢
      exact fun e => z e.symm
    simp [List.lookup, e1, e2]
  have lU : (iS par).names.lookup ("super" : Str) = some .globalImplicit := by
    show List.lookup ("super" : Str) [(PySem.Str.ofString "self", NameKind.local), (par, .local), (PySem.Str.ofString "__class__", .free), (PySem.Str.ofString "super", .globalImplicit)] = _
    have e1 : (("super" : Str) == PySem.Str.ofString "self") = false := by decide
    have e2 : (("super" : Str) == par) = false := by
      have z := T.par3
      simp only [beq_eq_false_iff_ne, ne_eq] at z ⊢
      exact fun e => z e.symm
    have e3 : (("super" : Str) == PySem.Str.ofString "__class__") = false := by decide
    simp [List.lookup, e1, e2, e3]
  refine ks_codeAny_call_defAt (binds := [("self", .ref x), (par, v)]) hroom (X _ _ ho) rfl (Mo.nolimit.keeps bs) (codeRec_of X hcd) rfl (hb s x _ _ _ _ ho) (fun y hy => ?_) (fun y hy => ?_) (fun h₁ hn k => ?_) rfl rfl rfl
  · show y.2 ≠ .cell
    have hy : y ∈ [(PySem.Str.ofString "self", NameKind.local), (par, .local), (PySem.Str.ofString "__class__", .free), (PySem.Str.ofString "super", .globalImplicit)] := hy
    simp only [List.mem_cons, List.not_mem_nil, or_false] at hy
    rcases hy with rfl | rfl | rfl | rfl <;> simp
  · show (iS par).names.lookup y.1 = some .local
    simp only [List.mem_cons, List.not_mem_nil, or_false] at hy
    rcases hy with rfl | rfl
    · exact lS
    · exact lP
  show _root_.PySem.wpAt (model prog w) (A.deeper (envX qual (iS par) s.heap.objs.size fI (.ref cda) [("__class__", cc)])) (.func (iB txt fld par j p0 p1 p2 p3 p4 p5 q1 q2 q3 q4) (envX qual (iS par) s.heap.objs.size fI (.ref cda) [("__class__", cc)])) (execs (iB txt fld par j p0 p1 p2 p3 p4 p5 q1 q2 q3 q4) (envX qual (iS par) s.heap.objs.size fI (.ref cda) [("__class__", cc)])) _ _ _
  have hxL : s.heap.objs.size ≠ x := Nat.ne_of_gt (Heap.lt_size hx)
  have X₁ : K.In h₁ := X.keeps k
  have hx₁ := k _ _ hx
  have bs₁ : ∀ b o, base.get? b = some o → h₁.get? b = some o := fun b o e => k _ _ (bs _ _ e)
  obtain ⟨hp, g, d, tk, os⟩ := s
  refine ks_wpAt_execs_cons (ks_wpAt_Expr_any (ks_wpAt_MethodCall ?_ (hev _)))
  obtain ⟨mb, hmb1, hmb2⟩ := Mo.blt
  refine ks_wpAt_super_base (env := envX qual (iS par) hp.objs.size fI (.ref cda) [("__class__", cc)]) lU lC (by decide) rfl (X₁ _ _ ho) rfl rfl rfl (X₁ _ _ hcode) rfl hvs hfile T.top ?_
  refine ks_loadName_global rfl lU (loadGlobal_builtin (env := envX qual (iS par) hp.objs.size fI (.ref cda) [("__class__", cc)]) (Mo.glob.keeps bs₁) T.noS (hmb1.keeps bs₁) (hmb2 "super" (by decide)) ⟨rfl, ?_⟩)
  refine wpAny_loadName_free rfl lC rfl ⟨_, X₁ _ _ hcell, rfl⟩ ?_
  refine wpAny_loadName_local rfl lS hn (v := .ref x) ?_ ?_
  · show List.lookup ("self" : Str) [(par, v), ("self", .ref x)] = _
    have e2 : (("self" : Str) == par) = false := hpn
    simp [List.lookup, e2]
  refine ks_wpAny_isType_cls (X₁ _ _ hC) rfl ⟨rfl, ?_⟩
  refine ks_wpAny_call_super (X₁ _ _ hC) rfl hx₁ rfl (fun c e => by cases e) (looks_mroIn X₁ T.mC) (fun h₂ e₂ k₂ => ?_)
  have X₂ : K.In h₂ := X₁.keeps k₂
  have hx₂ := k₂ _ _ hx₁
  have hm : alongIn K "__init__" (((Value.ref C :: bm).dropWhile (· != .ref C)).drop 1) = some (some (.builtin "ValueError.__init__")) := by
    have z := T.sup
    unfold ks_superIn at z
    rw [hcl] at z
    exact z
  have I2 : InstAt h₂ x (excO C t0) C none := ⟨hx₂, rfl, rfl, trivial⟩
  refine kxs_getMethod kxs_ValueError e₂ (looks_opaque X₂ T.noT) (l₀ := Value.ref C :: bm) (fun A Q E s k q => wpAny_bind ((looks_clsIn X₂ hcl) A _ E s k (wpAny_pure q))) rfl X₂ hm (I2.type.andThen (looks_subIn X₂ T.sVE)) (ks_ne X₂ I2 hcl) (by decide) ?_
  refine kxs_callWith (i := "ValueError.__init__") (x := x) rfl (evalArgs_plain (Calls.spliced_cons (Calls.Constant_str (k := j) (pos := p3) (Calls.spliced_nil ⟨Heap.get?_push_size _ rfl, ?_⟩))))
  have hx₃ : (h₂.push (kxs_mw "ValueError.__init__" x)).get? x = some (excO C t0) := Heap.get?_push_of_some _ hx₂
  have hC₃ := Heap.get?_push_of_some (kxs_mw "ValueError.__init__" x) (X₂ _ _ hC)
  have hu : (h₂.push (kxs_mw "ValueError.__init__" x)).get? h₂.objs.size = some (kxs_mw "ValueError.__init__" x) := Heap.get?_push_size _ rfl
  refine wpAny_call (codeAny_of_tree ?_)
  show wpAny _ _ (callAny (.ref h₂.objs.size) ⟨[.str txt _], []⟩) _ _ _
  simp only [callAny]
  refine wpAny_bind (wpAny_load hu ?_)
  simp only [kxs_mw, show (Value.type "method-wrapper" == Value.type "method" || Value.type "method-wrapper" == Value.type "builtin_function_or_method" || Value.type "method-wrapper" == Value.type "method-wrapper") = true by decide, if_true]
  refine KFB.if_so (by decide) ?_
  refine wpAny_bind (check_bound_init F.excBase_ValueError.toExcCallFacts hC₃ hx₃ rfl ?_)
  refine wpAny_bind (wpAny_pure (wpAny_pure ?_))
  refine ⟨plainId_quiet F.excBase_ValueError.init.plain _, codeAny_builtin F.excBase_ValueError.initEntry ?_⟩
  refine exc_init_tree (cls := .ref C) (t0 := t0) (dv := none) (c2 := .none) (c3 := .none) (b4 := .bool false) hx₃ (one_size _) (fun h₄ k₄ e₄ _ => ?_)
  have kk : ∀ b o, b ≠ x → hp.get? b = some o → h₄.get? b = some o := fun b o n e => k₄ b o n (Heap.get?_push_of_some _ (k₂ _ _ (k _ _ e)))
  have X₄ : K.In h₄ := kept_but X hnx kk
  have hn₄ : h₄.Ns hp.objs.size (fun y => List.lookup y [(par, v), (("self" : Str), Value.ref x)]) := by
    obtain ⟨o, es, ep, e, r⟩ := hn
    exact ⟨o, es, ep, k₄ _ _ hxL (Heap.get?_push_of_some _ (k₂ _ _ e)), r⟩
  refine wpAt_of_wpAny ?_
  refine wpAny_execs_cons (plainObj_wpAny_Assign_Attribute (wpAny_Name (wpAny_loadName_local (v := v) rfl lP hn₄ ?_ (wpAny_Name (wpAny_loadName_local (v := .ref x) rfl lS hn₄ ?_ ?_) (by decide))) T.par4))
  · simp [List.lookup]
  · have e2 : (("self" : Str) == par) = false := hpn
    simp [List.lookup, e2]
  refine set_plain X₄ (ox := excRec (.ref C) _ none .none .none (.bool false)) (od := none) ⟨e₄, rfl, rfl, trivial⟩ T.sa ?_
  refine exc_osa X₄ e₄ hcl (show refsVE (.ref C :: bm) = true from hbm) rfl T.noN (fun h₅ tk₅ dx k₅ dn dne hx₅ hn₅ => ?_)
  show wpAny _ _ (execs _ _) _ _ _
  have z1 : hp.objs.size < h₄.objs.size := hn₄.lt
  exact wpAny_execs_nil (hq h₅ tk₅ dx _ ⟨fun b o hb e => k₅ b o hb (kk b o hb e), hx₅, Nat.le_of_lt (Nat.lt_of_lt_of_le z1 dn), dne, hn₅⟩)
theorem x_made (T : XTxt prog K mg nm qual par fld C fI) {v : Value} (hb : ArgsTo K fI par ⟨[v], []⟩ v) (Mo : L2.Mod K mg base) (bs : ∀ b o, base.get? b = some o → s.heap.get? b = some o) (hroom : A.depth + 1 < recursionLimit)
    (hq : ∀ h' tk e d, OwnMade s.heap h' e C d fld v → R (.ok (.ret (.ref e))) { s with heap := h', toks := tk }) :
    codeAny (model prog w) A (.call (.ref C) ⟨[v], []⟩) R s := by
  obtain ⟨nm', q, N, bas, bm, sn, sub, ab, col, dd, k0, k1, k2, k3, k5, hC, hbm⟩ := T.cls
  have X : K.In s.heap := Mo.kin.keeps bs
  obtain ⟨hp, g, dr, tk, os⟩ := s
  have k : ∀ b o, hp.get? b = some o → ((hp.push (kdv_tup [v])).push (excO C hp.objs.size)).get? b = some o := fun b o e => Heap.get?_push_of_some _ (Heap.get?_push_of_some _ e)
  have hget : ((hp.push (kdv_tup [v])).push (excO C hp.objs.size)).get? (hp.objs.size + 1) = some (excO C hp.objs.size) := by heap_get
  have hnx : K.lookup (hp.objs.size + 1) = none := by
    cases e : K.lookup (hp.objs.size + 1) with
    | none => rfl
    | some o =>
      have z : hp.get? (hp.objs.size + 1) = some o := X _ _ e
      exact absurd (Nat.lt_of_succ_lt (Heap.lt_size z)) (Nat.lt_irrefl _)
  refine call_own F.excBase_ValueError (fun X => refsVE_contains X bm hbm) (X _ _ hC) (looks_findIn X T.iC) (fun self => bind_fn X self T.tC) (one_size v) ?_
  refine x_init (s := ⟨(hp.push (kdv_tup [v])).push (excO C hp.objs.size), g, dr, tk, os⟩) T hb Mo (fun b o e => k _ _ (bs _ _ e)) hget hnx ?_ fun h' tk' dx t1 ⟨k', hx, dn, dne, hns⟩ => ?_
  · show A.depth + 1 < recursionLimit
    exact hroom
  · have old : ∀ b o, hp.get? b = some o → h'.get? b = some o := fun b o e => k' b o (Nat.ne_of_lt (Nat.lt_succ_of_lt (Heap.lt_size e))) (k b o e)
    have z : hp.objs.size + 1 + 1 ≤ dx := by
      first
        | (simpa only [Heap.size_push] using dn)
        | exact dn
        | (have q := dn; rw [Heap.size_push, Heap.size_push] at q; exact q)
    exact ⟨rfl, hq h' tk' (hp.objs.size + 1) dx ⟨old, Nat.le_succ _, ⟨t1, hx⟩, Nat.le_trans (Nat.le_trans (Nat.le_succ _) (Nat.le_succ _)) z, dne, hns⟩⟩
end
end XIX
namespace L2
open PySem PySem.Spec PyProof.Rows
theorem relO_fld {v : V} {v' : Value} (r : RelV v v') (fld f : Str) : RelO (List.lookup f [(fld, v)]) (if f = fld then some v' else none) := by
  by_cases hw : f = fld
  · subst hw
    rw [if_pos rfl]
    have q : List.lookup f [(f, v)] = some v := by simp [List.lookup]
    rw [q]
    exact r
  · rw [if_neg hw]
    have qw : (f == fld) = false := by simpa using hw
    have q2 : List.lookup f [(fld, v)] = none := by simp [List.lookup, qw]
    rw [q2]
    trivial
section
variable {X : Cx} {C fI : Addr} {nm qual par fld : Str}
/-- nm(e) -/
def tMkX (C : Addr) (fld : Str) (ta : TA) : St → Hp → XK → Prop := fun σ H Q => ta σ H fun vs H1 => ∃ v, vs = [v] ∧ ∀ d, H1 d = none → Q (.ref C) (some d) (upd H1 d (.xd [(fld, v)]))
/-- what there is to a made exception -/
theorem x_calls {pins : List (Addr × Obj)} {σ : St} {H1 : Hp} {s1 : Shared} {v : V} {u : Value} {E : Value → Shared → Prop} {Q' : Value → Shared → Prop} {k : Nat} (T : XIX.XTxt X.prog X.K X.mg nm qual par fld C fI) (hb : XIX.ArgsTo X.K fI par ⟨[u], []⟩ u) (hr : Room k X.A) (hk : 1 ≤ k) (I1 : Inv X pins σ H1 s1) (rv : RelV v u)
    (h : ∀ h' tk e d, XIX.OwnMade s1.heap h' e C d fld u → Q' (.ref e) { s1 with heap := h', toks := tk }) : wpAny (model X.prog X.w) X.A (call (.ref C) [u]) Q' E s1 := by
  refine wpAny_call (codeAny_mono (XIX.x_made (R := fun r s' => ∃ e h' tk d, r = .ok (.ret (.ref e)) ∧ s' = { s1 with heap := h', toks := tk } ∧ XIX.OwnMade s1.heap h' e C d fld u) T hb I1.ok.mod I1.bk ?_ fun h' tk e d M => ⟨e, h', tk, d, rfl, rfl, M⟩) fun r s' hh => ?_)
  · have z := hr.dp
    omega
  · obtain ⟨e, h', tk, d, rfl, rfl, M⟩ := hh
    exact h h' tk e d M
theorem pmk_x {a : Expr} {ta : TA} {p pos : Pos} {k : Nat} (T : XIX.XTxt X.prog X.K X.mg nm qual par fld C fI) (hb : ∀ u, XIX.ArgsTo X.K fI par ⟨[u], []⟩ u) (hr : Room k X.A) (hk : 1 ≤ k) (ha : PA X [a] ta) (hg : Gl X nm := by rfl)
    (hdb : (nm == ("__debug__" : Str)) = false := by decide)
    (he : starEach (a :: []) X.env = (false, eval a X.env) :: starEach [] X.env := by rfl) (hpl : (backTo pos (starEach [] X.env)).any (·.1) = false := by rfl) :
    PMk X (.Call (.Name nm p) [a] [] pos) (tMkX C fld ta) := by
  intro pins s σ H Q I h
  refine wpAny_Call_Name_kw (ld_glob I hg T.gC ?_ hdb)
  refine PySem.W.callWith_K (h₀ := X.base) I.ok.mod.kin T.kC (thn (ha.run pos pins s σ H _ I h) fun us s1 hh => ?_) he hpl
  obtain ⟨vs, H1, I1, r1, v, ev, q1⟩ := hh
  subst ev
  refine ⟨I1.kIn, ?_⟩
  cases r1 with
  | @cons _ u _ ur rv rn =>
    cases rn
    refine x_calls T (hb u) hr hk I1 rv fun h' tk' e d M => ?_
    obtain ⟨hp, g, dr, tk, os⟩ := s1
    show MkP X pins σ Q (.ref e) ⟨h', g, dr, tk', os⟩
    obtain ⟨t1, hoe⟩ := M.obj
    have hns := M.ns
    obtain ⟨G', g1, g2⟩ := restrict h' fun b => decide (b ≠ e)
    have gk : ∀ b, b ≠ e → G'.get? b = h'.get? b := fun b hb => g1 b (decide_eq_true hb)
    have ge : G'.get? e = none := g2 e (by simp)
    have old : ∀ b o, hp.get? b = some o → G'.get? b = some o := fun b o q => (gk b (Nat.ne_of_lt (Nat.lt_of_lt_of_le (Heap.lt_size q) M.new))).trans (M.keep b o q)
    have ob : ObjOk X.prog X.w (upd H1 d (.xd [(fld, v)])) G' d (.xd [(fld, v)]) :=
      ⟨_, hns.at (fun o q => (gk d M.dne).trans q), fun f => relO_fld rv fld f⟩
    have J : Inv X pins σ (upd H1 d (.xd [(fld, v)])) ⟨G', g, dr, tk', os⟩ := I1.laid (t' := tk') old M.dbig ob
    refine ⟨e, _, _, ⟨G', g, dr, tk', os⟩, _, .ref C, some d, rfl, J, fun b o q => ?_, ge, hoe, ⟨rfl, rfl⟩, rfl, rfl, ?_, rfl, I1.bare, raises_own T.exC T.tyC, q1 d (I1.hok.fresh M.dbig)⟩
    · by_cases hb : b = e
      · have q' : G'.get? b = some o := q
        rw [hb, ge] at q'; cases q'
      · exact (gk b hb).symm.trans q
    · rw [upd_ne (Ne.symm M.dne)]
      exact I1.hok.fresh M.new
/-- raise nm(e) -/
def tRaiseX (C : Addr) (fld : Str) (W : WX) (ta : TA) : TS := fun _ σ H => tMkX C fld ta σ H fun cls d H' => W cls d σ H'
theorem ps_raiseX {a : Expr} {ta : TA} {W : WX} {p pos pos2 : Pos} {k : Nat} (hc : X.calm = true) (T : XIX.XTxt X.prog X.K X.mg nm qual par fld C fI) (hb : ∀ u, XIX.ArgsTo X.K fI par ⟨[u], []⟩ u) (hr : Room k X.A) (hk : 1 ≤ k) (tk : Takes X W) (ha : PA X [a] ta) (hg : Gl X nm := by rfl)
    (hdb : (nm == ("__debug__" : Str)) = false := by decide)
    (he : starEach (a :: []) X.env = (false, eval a X.env) :: starEach [] X.env := by rfl) (hpl : (backTo pos (starEach [] X.env)).any (·.1) = false := by rfl) :
    PS X (.Raise (some (.Call (.Name nm p) [a] [] pos)) none pos2) (tRaiseX C fld W ta) := ps_raise hc tk (pmk_x T hb hr hk ha hg hdb he hpl)
/-- err.fld, err the exception that the suite holds (at a; its class cls, its dict d) -/
def tByX (C : Addr) (fld : Str) (a : Addr) (cls : Value) (d : Option Addr) (te : TE) : TE := fun σ H Q => te σ H fun x H1 => x = .ref a ∧ cls = .ref C ∧ ∃ (dd : Addr) (v : V), d = some dd ∧ H1 dd = some (.xd [(fld, v)]) ∧ Q v H1
theorem pe_byX {a : Addr} {oe : Obj} {cls : Value} {d : Option Addr} {pn : List (Addr × Obj)} {e : Expr} {te : TE} {pos : Pos} (T : XIX.XTxt X.prog X.K X.mg nm qual par fld C fI) (hz : Zc cls d oe) (hf : ∃ vs, oe.data = .fields vs) (he : PE (X.suite a ((a, oe) :: pn)) e te)
    (hb : attributeBase e fld X.env (eval e X.env) = eval e X.env := by rfl) :
    PE (X.suite a ((a, oe) :: pn)) (.Attribute e fld pos) (tByX C fld a cls d te) := by
  refine ⟨fun pins s σ H Q I h => ?_⟩
  refine attr_of hb (thn (he.run pins s σ H _ I h) fun u s1 hh => ?_)
  obtain ⟨x, H1, I1, rx, ex, ec, dd, v, ed, ea, q⟩ := hh
  subst ex
  obtain rfl : u = Value.ref a := rx
  subst ec
  subst ed
  obtain ⟨ha, _⟩ := I1.pin (a, oe) (List.mem_append_left _ List.mem_cons_self)
  obtain ⟨vs, hd⟩ := hf
  have hx : ObjOk X.prog X.w H1 s1.heap dd (.xd [(fld, v)]) := I1.hok dd _ ea
  obtain ⟨mA, hns, hr⟩ := hx
  obtain ⟨od, ho, hl⟩ := lookIn_ns hns
  have l : List.lookup fld [(fld, v)] = some v := by simp [List.lookup]
  obtain ⟨u, hu, ru⟩ := RelO.some_of (v := v) (o := mA fld) (by rw [← l]; exact hr fld)
  have J : PySem.W.InstAt s1.heap a oe C (some od) := ⟨ha, hz.1, by unfold PySem.W.notCls; rw [hd] <;> rfl, by rw [hz.2]; exact ho⟩
  exact HandSPX.exc_get I1.kIn J T.ga T.gg T.exC (PySem.W.findObj_own T.hdC T.noN rfl (by rw [hl, hu])) (handed_of ru) ⟨v, H1, I1.tok _, ru, q⟩
end
end L2

namespace Dn
open PySem L2 Evl PyProof.Rows
/-! ## what is raised, told by data: the class's address, the field's name, what it holds -/
abbrev PXs := Addr → Str → PyData → List Sl → Prop
/-- the wish W takes what PX tells, within a def that began at H0, F0 hidden from it -/
def XOk (K : Frag) (fd F0 : Ad) (H0 : Hp) (PX : PXs) (W : WX) : Prop := ∀ (C : Addr) (fld : Str) (d : Addr) (v : V) (dv : PyData) (σ : L2.St) (H' : Hp) (env : List Sl), PX C fld dv env → StOk K fd F0 H0 σ H' env → H' d = some (.xd [(fld, v)]) → Dr K (off F0 H') v dv → W (.ref C) (some d) σ H'
/-- .. while an expression is evaluated -/
def XOe (K : Frag) (fd F : Ad) (σ : L2.St) (H : Hp) (PX : Addr → Str → PyData → Prop) (W : WX) : Prop := ∀ (C : Addr) (fld : Str) (d : Addr) (v : V) (dv : PyData) (H' : Hp), PX C fld dv → Up fd H H' → H' d = some (.xd [(fld, v)]) → Dr K (off F H') v dv → W (.ref C) (some d) σ H'
section
variable {K : Frag} {fd : Ad} {env : List Sl} {te ta tb tc : TE} {C : PyData → Prop} {CL : List PyData → Prop} {W : WX} {PX : PXs} {PE' : Addr → Str → PyData → Prop} {P : Po} {t u : TS} {F0 F : Ad} {H0 H H' : Hp} {σ : L2.St}
theorem XOk.at (x : XOk K fd F0 H0 PX W) (I : StOk K fd F0 H0 σ H env) : XOe K fd (fun a => F0 a ∨ a ∈ ownd env) σ H (fun c f d => PX c f d env) W := fun c f d v dv H' h u e r => x c f d v dv σ H' env h (I.upE u) e (dmono (off_less fun a q => .inl q) r)
theorem XOe.up (x : XOe K fd F σ H PE' W) (u : Up fd H H') : XOe K fd F σ H' PE' W := fun c f d v dv H2 h u2 e r => x c f d v dv H2 h (u.trans u2) e r
theorem XOe.less {F' : Ad} (x : XOe K fd F σ H PE' W) (l : ∀ a, F a → F' a) : XOe K fd F' σ H PE' W := fun c f d v dv H2 h u2 e r => x c f d v dv H2 h u2 e (dmono (off_less l) r)
theorem XOk.base (x : XOk K fd F0 H0 PX W) (u : Up fd H0 H) (th : ∀ a, F0 a → H0 a ≠ none) : XOk K fd F0 H PX W := fun c f d v dv σ H' env h I e r => x c f d v dv σ H' env h (I.back (H2 := H') u th) e r
/-- a statement that may raise -/
def wpSX (K : Frag) (fd : Ad) (W : WX) (PX : PXs) (t : TS) (env : List Sl) (P : Po) : Prop :=
  ∀ (F0 : Ad) (H0 : Hp) (σ : L2.St) (H : Hp), StOk K fd F0 H0 σ H env → XOk K fd F0 H0 PX W → ∀ D : Ends, DOk K fd F0 H0 D P → t D σ H
/-- an expression that may raise -/
def wpEX (K : Frag) (fd : Ad) (W : WX) (PX : Addr → Str → PyData → Prop) (te : TE) (env : List Sl) (C : PyData → Prop) : Prop :=
  ∀ (F : Ad) (σ : L2.St) (H : Hp), EnvOk K fd F σ H env → XOe K fd F σ H PX W → ∀ Q : VK, (∀ v H2 d, Up fd H H2 → Dr K (off F H2) v d → C d → Q v H2) → te σ H Q
theorem wpSX_of (h : wpS K fd t env P) : wpSX K fd W PX t env P := fun F0 H0 σ H I _ D k => h F0 H0 σ H I D k
theorem wpEX_of (h : wpE K fd te env C) : wpEX K fd W PE' te env C := fun F σ H I _ Q k => h F σ H I Q k
theorem wpEX_imp {C' : PyData → Prop} (h : wpEX K fd W PE' te env C) (q : ∀ d, C d → C' d) : wpEX K fd W PE' te env C' := fun F σ H I x Q k => h F σ H I x Q fun v H2 d u r c => k v H2 d u r (q d c)
theorem wpSX_seq (h : wpSX K fd W PX t env { P with nx := fun env' => wpSX K fd W PX u env' P }) : wpSX K fd W PX (tSeq t u) env P := fun F0 H0 σ H I x D k =>
  h F0 H0 σ H I x _ ⟨fun σ' H' env' q I' => q F0 H0 σ' H' I' x D k, k.bk, k.ct, k.rt, k.ow⟩
theorem wpSX_seqS (h : wpS K fd t env { P with nx := fun env' => wpSX K fd W PX u env' P }) : wpSX K fd W PX (tSeq t u) env P := wpSX_seq (wpSX_of h)
theorem wpSX_if {tt : TT} (h : wpT K fd tt env fun b => (b = true → wpSX K fd W PX t env P) ∧ (b = false → wpSX K fd W PX u env P)) : wpSX K fd W PX (tIfS tt t u) env P := fun F0 H0 σ H I x D k =>
  h _ σ H I.ev _ fun b H2 up c => by
    cases b with
    | true => rw [if_pos rfl]; exact c.1 rfl F0 H0 σ H2 (I.upE up) x D k
    | false => rw [if_neg (by decide)]; exact c.2 rfl F0 H0 σ H2 (I.upE up) x D k
/-- raise X(e) -/
theorem wpSX_raise {A : Addr} {fld : Str} (h : wpE K fd te env fun d => PX A fld d env) : wpSX K fd W PX (tRaiseX A fld W (tCons te tNil)) env P := fun F0 H0 σ H I x D k =>
  h _ σ H I.ev _ fun v H2 dv u r c => ⟨v, rfl, fun d hd => by
    have I2 := I.upE u
    have e : Up fd H2 (upd H2 d (.xd [(fld, v)])) := .ex I2.ev.feed (Ex.new hd)
    exact x A fld d v dv σ _ env c (I2.upE e) upd_same (dmono (off_less fun a q => .inl q) (dmono (off_exE (Ex.new hd)) r))⟩
theorem wpSX_asg {i : Nat} (h : wpEX K fd W (fun c f d => PX c f d env) te env fun d => P.nx (env.set i (.dat d))) : wpSX K fd W PX (tAsg te (gName i)) env P := fun F0 H0 σ H I x D k =>
  h _ σ H I.ev (x.at I) _ fun v H2 d u r c => k.nx _ _ _ c ((I.upE u).set (x := .dat d) r (fun p ds e => by cases e))
theorem wpSX_drop (h : wpEX K fd W (fun c f d => PX c f d env) te env fun d => P.nx env) : wpSX K fd W PX (tDrop te) env P := fun F0 H0 σ H I x D k =>
  h _ σ H I.ev (x.at I) _ fun v H2 d u r c => k.nx _ _ _ c (I.upE u)
theorem XOk.atU (x : XOk K fd F0 H0 PX W) (I : StOk K fd F0 H0 σ H env) : XOe K fd F0 σ H (fun c f d => PX c f d env) W := fun c f d v dv H' h u e r => x c f d v dv σ H' env h (I.upE u) e r
theorem wpSX_ret (h : wpEX K fd W (fun c f d => PX c f d env) te (unown env) P.rt) : wpSX K fd W PX (tRet te) env P := fun F0 H0 σ H I x D k =>
  h _ σ H I.un (x.atU I) _ fun v H2 d u r c => k.rt v H2 d c (I.all.trans u) r
/-- xs.append(e), xs an own list, e may raise -/
theorem wpSX_append {i : Nat} {p : Addr} {ds : List PyData} (e : env[i]? = some (.own p ds)) (hz : ds.length < 100000) (h : wpEX K fd W (fun c f d => PX c f d env) te env fun d => P.nx (env.set i (.own p (ds ++ [d])))) :
    wpSX K fd W PX (tDrop (tBM K "list" rAppend (tVar i) (tCons te tNil))) env P := fun F0 H0 σ H I x D k => by
  obtain ⟨e1, us, h4, h5⟩ := I.slotOwn e
  refine ⟨_, e1, .inl ⟨rfl, _, SqL.of h4⟩, h _ σ H I.ev (x.at I) _ fun v H2 d u r c => ?_⟩
  have I2 := I.upE u
  obtain ⟨e1', us', h4', h5'⟩ := I2.slotOwn e
  refine ⟨p, us', v, rfl, rfl, h4', sz_lt (by rw [all_len h5']; exact hz), ?_⟩
  exact k.nx _ _ _ c (I2.mut (vs := us') e (all_app h5' (all_one r)))
theorem wpEX_if {tt : TT} (h : wpT K fd tt env fun b => (b = true → wpEX K fd W PE' ta env C) ∧ (b = false → wpEX K fd W PE' tb env C)) : wpEX K fd W PE' (tIf tt ta tb) env C := fun F σ H I x Q k =>
  h F σ H I _ fun b H1 u c => by
    cases b with
    | true => rw [if_pos rfl]; exact c.1 rfl F σ H1 (I.up u) (x.up u) Q fun v H2 d u2 => k v H2 d (u.trans u2)
    | false => rw [if_neg (by decide)]; exact c.2 rfl F σ H1 (I.up u) (x.up u) Q fun v H2 d u2 => k v H2 d (u.trans u2)
theorem wpEX_op {r : R2} (h : wpEX K fd W PE' ta env fun a => wpEX K fd W PE' tb env fun b => OpD K r a b C) : wpEX K fd W PE' (tOp r ta tb) env C := fun F σ H I x0 Q k =>
  h F σ H I x0 _ fun x H1 a u1 ra q1 => q1 F σ H1 (I.up u1) (x0.up u1) _ fun y H2 b u2 rb q2 => q2 F H2 x y ((I.up u1).up u2).there (dmono ((I.up u1).see u2) ra) rb Q fun v H3 d e r c =>
    k v H3 d ((u1.trans u2).trans (.ex u2.feed e)) r c
theorem wpSX_for {wi : TI} {g : TG} {tb : TS} (h : wpI K fd wi env fun ds => ∃ I : Nat → List Sl → Prop, I 0 env ∧
    (∀ i d env', ds[i]? = some d → I i env' → ∃ as, gD K g d as ∧ wpSX K fd W PX tb (asgE env' as) { P with nx := I (i + 1), ct := I (i + 1), bk := P.nx }) ∧ ∀ env', I ds.length env' → P.nx env') :
    wpSX K fd W PX (tFor wi g tb) env P := fun F0 H0 σ H S x0 D k =>
  h _ σ H S.ev _ fun J H2 ds u it c => by
    obtain ⟨I, i0, turn, last⟩ := c
    have S2 := S.upE u
    have ub := base_up S2
    have kb := k.base ub S.th0 S.fd0
    have xb := x0.base ub S.th0
    refine ⟨fun i m σ' H' => m = ds.length - i ∧ i ≤ ds.length ∧ ∃ env', I i env' ∧ StOk K fd F0 (off (fun a => a ∈ ownd env) H2) σ' H' env', ⟨ds.length, by simp, Nat.zero_le _, env, i0, S2.base⟩, ?_⟩
    rintro i m σ' H' ⟨rfl, hi, env', inv, S'⟩
    have e := see_base S2 S'
    by_cases hlt : i < ds.length
    · refine .inr ⟨it.go i H' e hlt, fun σ' H' => i + 1 ≤ ds.length ∧ ∃ env', I (i + 1) env' ∧ StOk K fd F0 (off (fun a => a ∈ ownd env) H2) σ' H' env', fun σ'' H'' ⟨a, b⟩ => ⟨ds.length - (i + 1), by omega, rfl, a, b⟩, fun x H'' y => ?_⟩
      obtain ⟨d, ed, ex, rd⟩ := it.yld i x H' H'' e hlt y
      obtain ⟨as, hg, hb⟩ := turn i d env' ed inv
      have u2 : Up fd H' H'' := .ex S'.ev.feed ex
      have S3 := S'.upE u2
      have z0 : Ex (off (fun a => F0 a ∨ a ∈ ownd env) H2) (off (fun a => F0 a ∨ a ∈ ownd env') H'') := fun a o q => by
        have q1 := ex _ _ (e _ _ q)
        obtain ⟨n, q2⟩ := off_some q
        rw [off_ne (S := fun a => F0 a ∨ a ∈ ownd env') fun z => ?_]
        · exact q1
        · rcases z with z | z
          · exact n (.inl z)
          · have f := S'.fresh a z
            rw [off_ne (S := fun a => a ∈ ownd env) fun z => n (.inr z), q2] at f
            cases f
      have r := rd (off (fun a => F0 a ∨ a ∈ ownd env') H'') z0 fun a o q1 q2 => by
        rw [off_ne (S := fun a => F0 a ∨ a ∈ ownd env') fun z => S'.ev.there a z q1]; exact q2
      refine hg _ H'' σ' x _ r fun ws p => ?_
      refine hb F0 _ _ H'' (S3.asg p (Ex.refl _)) xb _ ⟨fun σ H env q I => ⟨hlt, env, q, I⟩, kb.nx, fun σ H env q I => ⟨hlt, env, q, I⟩, kb.rt, kb.ow⟩
    · refine .inl ⟨it.stop i H' e (by omega), ?_⟩
      have ei : i = ds.length := by omega
      subst ei
      exact kb.nx _ _ _ (last env' inv) S'
/-! ## contracts of defs that may raise -/
def spX (K : Frag) (G : List PyData → (PyData → Prop) → (Addr → Str → PyData → Prop) → Prop) : Sp := fun vs H Q E => ∃ (F : Ad) (ds : List PyData) (C : PyData → Prop) (X : Addr → Str → PyData → Prop), (∀ a, F a → H a ≠ none) ∧ DrAll K (off F H) vs ds ∧ G ds C X ∧
  (∀ r H' d, Ex H H' → Dr K (off F H') r d → C d → Q r H') ∧ ∀ A fld d v dv H', X A fld dv → Ex H H' → H' d = some (.xd [(fld, v)]) → Dr K (off F H') v dv → E (.ref A) (some d) H'
theorem wpEX_call {G : List PyData → (PyData → Prop) → (Addr → Str → PyData → Prop) → Prop} {tas : TA} (h : wpA K fd tas env fun ds => G ds C PE') : wpEX K fd W PE' (tCallS (spX K G) (WE W) tas) env C := fun F σ H I x Q k =>
  h F σ H I _ fun vs H1 ds u r g => by
    exact ⟨F, ds, C, PE', (I.up u).there, r, g, fun r H' d e rd c => k r H' d (u.trans (.ex u.feed e)) rd c, fun A fld d v dv H' px e ed rv => x A fld d v dv H' px (u.trans (.ex u.feed e)) ed rv⟩
end
section
variable {P : Program} {w : World} {K : Frag} {mg : Str → Option Value} {base : Heap}
theorem okX {x qual : Str} {st : Stmt} {f : Addr} {fdt : FuncData} {N ps : List Str} {k : Nat} {G : List PyData → (PyData → Prop) → (Addr → Str → PyData → Prop) → Prop} (D : Fun K x qual st f fdt) (S : FnScope N ps (defScope st)) (hG : ∀ ds C X, G ds C X → ds.length = ps.length)
    (body : ∀ (cdv : Value) (A : Around) (outer : List Env) (s : Shared) (H : Hp) (E : XK), Room k (A.deeper (envOfC qual (defScope st) s.heap.objs.size f cdv)) →
      ∃ t, PSs (cxOf (L2.CX P w) P w K mg base N qual (defScope st) f cdv A outer s H E) (defBody st) t ∧ ∀ ds C X, G ds C X → wpSX K nofd (fun cls d _ H' => E cls d H') (fun a b c _ => X a b c) t (env0 N ds) { nx := fun _ => C .none, rt := C }) : FnOk P w K mg base (L2.CX P w) (k + 1) f fdt ps (spX K G) := by
  refine D.okX S (fun vs H Q E h => ?_) (fun cdv A outer s H vs Q E hr h => ?_)
  · obtain ⟨F, ds, C, X, _, r, g, _⟩ := h
    rw [all_len r]; exact hG ds C X g
  · obtain ⟨t, ht, hw⟩ := body cdv A outer s H E hr
    obtain ⟨F, ds, C, X, th, r, g, q, qx⟩ := h
    have eo : ownd (env0 N ds) = [] := by unfold env0; rw [ownd_dat, ownd_no]
    refine ⟨t, ht, hw ds C X g F H (start N vs) H ?_ (fun a b d v dv σ H' env px I e rv => qx a b d v dv H' px (fun c o z => I.old c o (fun z => z) z) e rv) _ ⟨fun σ H' e c I => q .non H' .none (fun a o z => I.old a o (fun z => z) z) .non c, fun σ H e c => c.elim, fun σ H e c => c.elim, fun v H' d c u r => q v H' d (fun a o z => u.keep a o (fun z => z) z) r c, fun p vs H d c => c.elim⟩⟩
    refine ⟨⟨fun a z => ?_, fun a z => z.elim, fun f z => z.elim, ?_, fun i o x e1 e2 => ?_⟩, fun a o _ z => z, th, fun a z => z.elim, fun p hp => (by rw [eo] at hp; cases hp), (by rw [eo]; exact List.nodup_nil)⟩
    · rcases z with z | z
      · exact th a z
      · rw [eo] at z; cases z
    · unfold L2.start env0
      rw [List.length_append, List.length_append, List.length_map, List.length_map, List.length_replicate, List.length_replicate, all_len r]
    · have ehid : (fun a => F a ∨ a ∈ ownd (env0 N ds)) = F := by
        funext a
        rw [eo]
        exact propext ⟨fun z => z.elim id (fun z => by cases z), .inl⟩
      rw [ehid]
      exact paired_get (G := H) r (by rw [all_len r]) i o x e1 e2
end
/-! ## try .. except X as e -/
section
variable {K : Frag} {fd : Ad} {env : List Sl} {P : Po} {PX : PXs}
theorem wpS_try {c : Value} {i : Nat} {tb : WX → TS} {ts : Addr → Value → Option Addr → TS} {Wout : WX} (hb : ∀ W, wpSX K fd W PX (tb W) env P)
    (hs : ∀ (A : Addr) (fld : Str) (dv : PyData) (env' : List Sl), PX A fld dv env' → PySem.W.exmOne K (.ref A) c = some true ∧
      ∀ (F0 : Ad) (H0 : Hp) (σ : L2.St) (H : Hp) (a d : Addr) (v : V) (D : Ends), StOk K fd F0 H0 σ H env' → H d = some (.xd [(fld, v)]) → Dr K (off F0 H) v dv → DOk K fd F0 H0 D P → H a = none →
        ts a (.ref A) (some d) { nx := fun σ' H' => D.nx (σ'.set i none) H', rt := D.rt, bk := fun σ' H' => D.bk (σ'.set i none) H', ct := fun σ' H' => D.ct (σ'.set i none) H' } (σ.set i (some (.ref a))) H) :
    wpS K fd (fun D σ H => tb (wAs K c i ts Wout D) D σ H) env P := fun F0 H0 σ H I D k =>
  hb (wAs K c i ts Wout D) F0 H0 σ H I (fun A fld d v dv σ' H' env' px I' e rv => by
    obtain ⟨h1, h2⟩ := hs A fld dv env' px
    exact ⟨true, h1, fun _ a ha => h2 F0 H0 σ' H' a d v D I' e rv k ha, fun z => nomatch z⟩) D k
end
end Dn

namespace Dn
open PySem L2 Evl PyProof.Rows
/-! ## {} and its repr -/
section
variable {K : Frag} {fd : Ad} {env : List Sl} {te ta tb tc : TE} {C : PyData → Prop} {CL : List PyData → Prop} {P : Po}
theorem wp_dnew (c : C (.dict [])) : wpE K fd tDNewK env C := fun F σ H I Q k => fun d hd =>
  k _ _ _ (.ex I.feed (Ex.new hd)) (.dct (fs := []) (by rw [off_ne fun z => I.there d z hd]; exact upd_same) .nil) c
/-- data whose repr can be told -/
def rpl (d : PyData) : Bool := match d with
  | .dict [] => true
  | d => plain d
def rReprE (K : Frag) : List V → Hp → VK → Prop := fun vs H Q => rReprD K vs H Q ∨ ∃ a, vs = [.ref a] ∧ H a = some (.dK []) ∧ Q (.str (PyData.dict []).shown) H
theorem cad_reprE {d : PyData} (hp : rpl d = true) (hs : d.showable = true) (hz : d.shown.length ≤ 1000000) (hd : d.depth ≤ 100) (c : C (.str d.shown)) : CaD K (rReprE K) [d] C := fun F H vs th r Q k => by
  by_cases hd0 : d = .dict []
  · subst hd0
    cases r with
    | cons a b =>
      cases b
      cases a with
      | @dct a fs _ sa ra =>
        cases ra
        exact .inr ⟨a, rfl, off_full _ _ sa, k _ H _ (Ex.refl H) (.str _) c⟩
  · have hp2 : plain d = true := by
      unfold rpl at hp
      split at hp
      · exact absurd rfl hd0
      · exact hp
    exact .inl (cad_reprD hp2 hs hz hd c F H vs th r Q k)
/-- xs + e, xs an own list -/
theorem wpN_catOwn {i : Nat} {p : Addr} {ds : List PyData} (e : env[i]? = some (.own p ds)) (h : wpE K fd tb env fun d => ∃ es, d = .list es ∧ ds.length + es.length ≤ 100000 ∧ CL (ds ++ es)) : wpN K fd (tOp rCat (tVar i) tb) env CL := fun F σ H I Q k => by
  obtain ⟨o, e1, q⟩ := I.get e
  cases o with
  | none => exact q.elim
  | some v =>
    obtain ⟨rfl, h2, h3, us, h4, h5⟩ := q
    refine ⟨_, e1, h F σ H I _ fun y H2 b u2 rb c2 => ?_⟩
    obtain ⟨es, rfl, hz, c⟩ := c2
    have h4' := u2.keep p _ h3 h4
    have h5' := dmonoAll (I.see u2) h5
    cases rb with
    | @lst b ws _ sb rb =>
      refine ⟨p, b, us, ws, rfl, rfl, h4', off_full _ _ sb, sz_of (by rw [all_len h5', all_len rb]; exact hz), fun q hq => ?_⟩
      exact k q _ _ _ (none_back I.there I.fdF u2 hq) (u2.trans (.ex u2.feed (Ex.new hq))) upd_same (new_all hq (all_app h5' rb)) c
/-- two names at once, the first a new list -/
theorem wpS_parN {i j : Nat} (h : wpN K fd ta env fun ds => ∀ p, wpE K fd tb env fun b => P.nx ((env.set i (.own p ds)).set j (.dat b))) : wpS K fd (tPar i j (tCons ta (tCons tb tNil))) env P := fun F0 H0 σ H I D k =>
  h _ σ H I.ev _ fun p vs H2 ds hp u e r c => c p _ σ H2 (acc_env I.ev hp u ⟨vs, e, r⟩) _ fun w H3 b u2 r2 c2 => by
    have nfd : ¬ fd p := fun z => by
      obtain ⟨d, m, q, _⟩ := I.ev.feed p z
      rw [q] at hp; cases hp
    have I3 := I.newOwn (i := i) (u.trans u2) hp (u2.keep p _ nfd e) (dmonoAll (off_ex (fun a z => .inl (.inl (I.fd0 a z))) u2.keep) r)
    refine ⟨.ref p, w, rfl, k.nx _ _ _ c2 (I3.set (i := j) (x := .dat b) ?_ fun p ds z => by cases z)⟩
    exact dmono (off_less fun a q => q.elim (fun q => .inl (.inl q)) fun q => (ownd_set_own q).elim .inr fun q => .inl (.inr q)) r2
end
section
variable {X : Cx}
theorem cr_reprE (hg : X.A.guards = some []) (hu : X.A.units + 200 < cLine) : CallR X (.builtin "repr") (rReprE X.K) := by
  intro pins s σ H vs us Q I r h
  rcases h with h | ⟨a, rfl, ha, q⟩
  · exact cr_reprD hg hu pins s σ H vs us Q I r h
  · obtain ⟨u, rfl, ru⟩ := r.one
    cases ru
    obtain ⟨_, hns, vs, rk, o, es, ep, ho, hx, hdt, _, hp, _⟩ := dk_of I.hok ha
    cases rk
    have he : es.toList = [] := by cases hz : es.toList with
      | nil => rfl
      | cons x l => rw [hz] at hp; cases hp
    have rd : Reads s.heap (.ref a) (.dict []) (a :: [] ++ []) := Reads.dict ho hx.1 hdt (by rw [he]; exact .nil) (by rw [he]; exact .nil)
    refine repr_of_reads' rd (by decide +kernel) (fun _ z => ?_) hg (by show X.A.units + (_ + 1) < cLine; have : (PyData.dict []).depth ≤ 5 := by decide +kernel
                                                                        omega) (fun _ _ e => e) (fun h2 u tk k => ⟨.str _, H, I.kept (t' := tk) k, ⟨_, rfl⟩, q⟩) (by rw [sizeLine_eq]; decide +kernel)
    · have z : sysModules ∈ [a] := z
      rw [List.mem_singleton.mp z] at hns
      simp at hns
end
end Dn

namespace Dn
open PySem L2 Evl PyProof.Rows
/-! ## repr of data with dicts in them -/
mutual
inductive RdS (h : Heap) : Value → PyData → Prop
  | none : RdS h .none .none
  | bl (b : Bool) : RdS h (.bool b) (.bool b)
  | int (i : Int) (t : Tok) : RdS h (.int i t) (.int i)
  | str (x : Str) (t : Tok) : RdS h (.str x t) (.str x)
  | lst {a : Addr} {o : Obj} {us : Array Value} {n : Nat} {xs : List PyData} : h.get? a = some o → o.cls = .type "list" → o.data = .seq us n → RdSs h us.toList xs → RdS h (.ref a) (.list xs)
  | tup {a : Addr} {o : Obj} {us : Array Value} {n : Nat} {xs : List PyData} : h.get? a = some o → o.cls = .type "tuple" → o.data = .seq us n → RdSs h us.toList xs → RdS h (.ref a) (.tuple xs)
  | dct {a : Addr} {o : Obj} {es : Array DictEntry} {n : Nat} {kvs : List (PyData × PyData)} : h.get? a = some o → o.cls = .type "dict" → o.data = .dict es n → (a == sysModules) = false → RdSs h (es.toList.map (·.key)) (kvs.map (·.1)) →
      RdSs h (es.toList.map (·.val)) (kvs.map (·.2)) → RdS h (.ref a) (.dict kvs)
inductive RdSs (h : Heap) : List Value → List PyData → Prop
  | nil : RdSs h [] []
  | cons {v : Value} {vs : List Value} {d : PyData} {ds : List PyData} : RdS h v d → RdSs h vs ds → RdSs h (v :: vs) (d :: ds)
end
section
variable {h : Heap} {prog : Program} {w : World}
mutual
theorem RdS.reads : ∀ {v : Value} {d : PyData}, RdS h v d → ∃ as, Reads h v d as
  | _, _, .none => ⟨_, Reads.none⟩
  | _, _, .bl b => ⟨_, Reads.bool b⟩
  | _, _, .int i t => ⟨_, Reads.int i t⟩
  | _, _, .str x t => ⟨_, Reads.str x t⟩
  | _, _, .lst e c dt r => by obtain ⟨as, q⟩ := r.reads; exact ⟨_, Reads.list e c dt q⟩
  | _, _, .tup e c dt r => by obtain ⟨as, q⟩ := r.reads; exact ⟨_, Reads.tuple e c dt q⟩
  | _, _, .dct e c dt _ r1 r2 => by
    obtain ⟨as, q1⟩ := r1.reads
    obtain ⟨bs, q2⟩ := r2.reads
    exact ⟨_, Reads.dict e c dt q1 q2⟩
theorem RdSs.reads : ∀ {vs : List Value} {ds : List PyData}, RdSs h vs ds → ∃ as, ReadsAll h vs ds as
  | _, _, .nil => ⟨_, ReadsAll.nil⟩
  | _, _, .cons r1 r2 => by
    obtain ⟨as, q1⟩ := r1.reads
    obtain ⟨bs, q2⟩ := r2.reads
    exact ⟨_, ReadsAll.cons q1 q2⟩
end
/-- its repr can be told while the lists, tuples, dicts at bs are not under way -/
def Tells (prog : Program) (w : World) (h : Heap) (k : Nat) (v : Value) (t : Str) : Prop := ∃ bs, ReadAtMost h k bs ∧ ReprK prog w bs h k v t
def TellsAll (prog : Program) (w : World) (h : Heap) (k : Nat) (vs : List Value) (ts : List Str) : Prop := ∃ bs, ReadAtMost h k bs ∧ ReprAllK prog w bs h k vs ts
mutual
theorem RdS.tells : ∀ {v : Value} {d : PyData}, RdS h v d → d.showable = true → d.shown.length ≤ sizeLine → Tells prog w h d.depth v d.shown
  | _, _, .none, _, _ => ⟨[], (fun _ m => (nomatch m)), by rw [PyData.shown]; exact ReprK.of_is ReprIs.none _ _ _⟩
  | _, _, .bl b, _, _ => ⟨[], (fun _ m => (nomatch m)), by rw [PyData.shown]; exact ReprK.of_is (ReprIs.bool b) _ _ _⟩
  | _, _, .int i t, sh, _ => ⟨[], (fun _ m => (nomatch m)), by rw [PyData.shown]; exact ReprK.of_is (ReprIs.int t (of_decide_eq_true (by rw [PyData.showable] at sh; exact sh))) _ _ _⟩
  | _, _, .str x t, _, z => ⟨[], (fun _ m => (nomatch m)), by rw [PyData.shown] at z ⊢; exact ReprK.of_is (ReprIs.str x t z) _ _ _⟩
  | _, _, .lst (a := a) (us := us) (xs := xs) e c dt r, sh, z => by
    rw [PyData.showable] at sh
    rw [PyData.shown] at z
    have rall := r
    obtain ⟨as, q⟩ := rall.reads
    obtain ⟨bs, b1, b2⟩ := r.tells sh fun t m => Nat.le_trans (listText_mem_le m) z
    have top : Reads h (.ref a) (.list xs) (a :: as) := Reads.list e c dt q
    have apart : a ∉ bs := not_mem_of_deeper top (by rw [PyData.depth]; omega) b1
    refine ⟨a :: bs, ReadAtMost.cons top (by rw [PyData.depth]; omega) b1, ?_⟩
    rw [PyData.depth, PyData.shown]
    cases us with
    | mk l =>
      cases l with
      | nil =>
        cases rall
        rw [PyData.shownAll, listText_nil]
        exact ReprK.listEmpty e c dt
      | cons x l => exact ReprK.list e c dt apart (by simpa using b2.length_eq) fun i y m => b2.item i y (by simpa using m)
  | _, _, .tup (a := a) (xs := xs) e c dt r, sh, z => by
    rw [PyData.showable] at sh
    rw [PyData.shown] at z
    have rall := r
    obtain ⟨as, q⟩ := rall.reads
    obtain ⟨bs, b1, b2⟩ := r.tells sh fun t m => Nat.le_trans (tupleText_mem_le m) z
    have top : Reads h (.ref a) (.tuple xs) as := Reads.tuple e c dt q
    have apart : a ∉ bs := not_mem_of_deeper top (by rw [PyData.depth]; omega) b1
    refine ⟨a :: bs, ReadAtMost.cons top (by rw [PyData.depth]; omega) b1, ?_⟩
    rw [PyData.depth, PyData.shown]
    exact ReprK.tuple e c dt apart b2
  | _, _, .dct (a := a) (es := es) (kvs := kvs) e c dt ns r1 r2, sh, z => by
    rw [PyData.showable] at sh
    rw [PyData.shown] at z
    have w1 := r1
    have w2 := r2
    obtain ⟨as, q1⟩ := w1.reads
    obtain ⟨cs, q2⟩ := w2.reads
    obtain ⟨s1, s2⟩ := PyData.showableKv_split kvs sh
    obtain ⟨bs, b1, b2⟩ := r1.tells s1 fun t m => by
      obtain ⟨p, mp, l⟩ := PyData.shownKv_key_le kvs t m
      exact Nat.le_trans l (Nat.le_trans (dictText_mem_le mp) z)
    obtain ⟨ds, d1, d2⟩ := r2.tells s2 fun t m => by
      obtain ⟨p, mp, l⟩ := PyData.shownKv_val_le kvs t m
      exact Nat.le_trans l (Nat.le_trans (dictText_mem_le mp) z)
    have top : Reads h (.ref a) (.dict kvs) (a :: as ++ cs) := Reads.dict e c dt q1 q2
    have both : ReadAtMost h (PyData.depthKv kvs) (bs ++ ds) := (b1.mono (PyData.depthAll_keys_le kvs)).append (d1.mono (PyData.depthAll_vals_le kvs))
    have apart : a ∉ bs ++ ds := not_mem_of_deeper top (by rw [PyData.depth]; omega) both
    refine ⟨a :: (bs ++ ds), ReadAtMost.cons top (by rw [PyData.depth]; omega) both, ?_⟩
    rw [PyData.depth, PyData.shown, PyData.shownKv_eq]
    refine ReprK.dict e c dt ns apart (ReprEntriesK.of_two es.toList _ _ (b2.more_le (fun b m => List.mem_append_left _ m) ?_) (d2.more_le (fun b m => List.mem_append_right _ m) ?_))
    · exact PyData.depthAll_keys_le kvs
    · exact PyData.depthAll_vals_le kvs
theorem RdSs.tells : ∀ {vs : List Value} {ds : List PyData}, RdSs h vs ds → PyData.showableAll ds = true → (∀ t, t ∈ PyData.shownAll ds → t.length ≤ sizeLine) → TellsAll prog w h (PyData.depthAll ds) vs (PyData.shownAll ds)
  | _, _, .nil, _, _ => ⟨[], (fun _ m => (nomatch m)), by rw [PyData.shownAll]; exact ReprAllK.nil⟩
  | _, _, .cons (d := d) (ds := ds) r1 r2, sh, z => by
    rw [PyData.showableAll, Bool.and_eq_true] at sh
    rw [PyData.shownAll] at z
    obtain ⟨bs, b1, b2⟩ := r1.tells sh.1 (z _ (List.mem_cons_self ..))
    obtain ⟨cs, c1, c2⟩ := r2.tells sh.2 fun t m => z t (List.mem_cons_of_mem _ m)
    rw [PyData.depthAll, PyData.shownAll]
    refine ⟨bs ++ cs, (b1.mono (Nat.le_max_left _ _)).append (c1.mono (Nat.le_max_right _ _)), ReprAllK.cons ?_ (c2.more_le (fun b m => List.mem_append_right _ m) (Nat.le_max_right _ _))⟩
    exact (b2.more fun b m => List.mem_append_left _ m).level_le (Nat.le_max_left _ _)
end
end
/-! no instance, no list handed in; the keys of dicts are texts -/
mutual
def rdb : PyData → Bool
  | .list ds => rdbAll ds
  | .tuple ds => rdbAll ds
  | .dict kvs => rdbKv kvs
  | _ => true
def rdbAll : List PyData → Bool
  | [] => true
  | d :: ds => rdb d && rdbAll ds
def rdbKv : List (PyData × PyData) → Bool
  | [] => true
  | (.str _, d) :: r => rdb d && rdbKv r
  | _ => false
end
section
variable {X : Cx} {pins : List (Addr × Obj)} {σ : L2.St} {H : Hp} {s : Shared}
theorem key_str {x : Str} {v : Value} (h : (mixKind X.prog X.w).is (.inr x) v = true) : ∃ t, v = .str x t := by
  rcases keyIs_shape (k := Sum.inr x) (v := v) h with ⟨_, _, e, _⟩ | ⟨y, t, e, e2⟩
  · exact nomatch e
  · have e : x = y := Sum.inr.inj e
    subst e
    exact ⟨t, e2⟩
theorem pairs_keys : ∀ {fs : List (Str × V)} {vs : List (Key × Value)} {es : List DictEntry}, KV (fs.map fun p => ((Sum.inr p.1 : Key), p.2)) vs → Pairs (mixKind X.prog X.w) es vs →
    (∃ ts : List Tok, es.map (·.key) = List.zipWith (fun p t => Value.str p t) (fs.map (·.1)) ts ∧ ts.length = fs.length) ∧ Vals (fs.map (·.2)) (es.map (·.val))
  | [], _, _, r, p => by
    cases r
    cases p
    exact ⟨⟨[], rfl, rfl⟩, .nil⟩
  | f :: fs, _, _, r, p => by
    cases r with
    | cons a b =>
      cases p with
      | cons p1 p2 p3 =>
        obtain ⟨⟨ts, h1, h2⟩, h3⟩ := pairs_keys b p3
        obtain ⟨a1, a2⟩ := a
        rw [← a1] at p1
        obtain ⟨t, e⟩ := key_str p1
        refine ⟨⟨t :: ts, ?_, by rw [List.length_cons, List.length_cons, h2]⟩, ?_⟩
        · rw [List.map_cons, List.map_cons, List.zipWith_cons_cons, h1, e]
        · rw [List.map_cons, List.map_cons]
          refine .cons ?_ h3
          rw [p2]; exact a2
theorem strs_rd {h : Heap} : ∀ (xs : List Str) (ts : List Tok), ts.length = xs.length → RdSs h (List.zipWith (fun p t => Value.str p t) xs ts) (xs.map PyData.str)
  | [], [], _ => .nil
  | x :: xs, t :: ts, e => .cons (.str x t) (strs_rd xs ts (by simpa using e))
theorem Dr.rds (I : Inv X pins σ H s) {v : V} {d : PyData} (h : Dr X.K H v d) : ∀ u, RelV v u → rdb d = true → RdS s.heap u d :=
  Dr.rec (motive_1 := fun v d _ => ∀ u, RelV v u → rdb d = true → RdS s.heap u d) (motive_2 := fun vs ds _ => ∀ us, Vals vs us → rdbAll ds = true → RdSs s.heap us ds)
    (motive_3 := fun fs kvs _ => ∀ us, Vals (fs.map (·.2)) us → rdbKv kvs = true → kvs.map (·.1) = (fs.map (·.1)).map PyData.str ∧ RdSs s.heap us (kvs.map (·.2)))
    (fun u r _ => by cases r; exact .none) (fun b u r _ => by cases r; exact .bl b) (fun i u r _ => by obtain ⟨t, rfl⟩ := r; exact .int i t) (fun x u r _ => by obtain ⟨t, rfl⟩ := r; exact .str x t)
    (fun hs _ ih u r p => by
      cases r
      obtain ⟨its, rv, ⟨o, n, ho, hc, _, hd⟩, _⟩ := I.list (sq_of hs)
      exact .lst ho hc hd (ih _ (by simpa using rv) (by rw [rdb] at p; exact p)))
    (fun hs _ ih u r p => by
      cases r
      obtain ⟨its, rv, ⟨o, ho, hc, n, hd⟩, _⟩ := I.tuple hs
      exact .tup ho hc hd (ih _ (by simpa using rv) (by rw [rdb] at p; exact p)))
    (fun _ _ _ u r p => by rw [rdb, rdbKv] at p; cases p; all_goals (intros; contradiction))
    (fun _ _ _ u r p => by rw [rdb, rdbKv] at p; cases p; all_goals (intros; contradiction))
    (fun hs _ ih u r p => by
      cases r
      obtain ⟨_, hns, vs, rk, o, es, ep, ho, hx, hdt, _, hp, _⟩ := dk_of I.hok hs
      obtain ⟨⟨ts, h1, h2⟩, h3⟩ := pairs_keys rk hp
      obtain ⟨k1, k2⟩ := ih _ h3 (by rw [rdb] at p; exact p)
      refine .dct ho hx.1 hdt hns ?_ k2
      rw [h1, k1]
      exact strs_rd _ _ (by rw [h2, List.length_map]))
    (fun _ _ _ _ _ _ u _ p => by rw [rdb, rdbKv] at p; cases p; all_goals (intros; contradiction))
    (fun us r _ => by cases r; exact .nil) (fun _ _ a b us r p => by
      cases r with
      | cons r1 r2 =>
        rw [rdbAll, Bool.and_eq_true] at p
        exact .cons (a _ r1 p.1) (b _ r2 p.2))
    (fun us r _ => by cases r; exact ⟨rfl, .nil⟩) (fun _ _ a b us r p => by
      cases r with
      | cons r1 r2 =>
        rw [rdbKv, Bool.and_eq_true] at p
        obtain ⟨q1, q2⟩ := b _ r2 p.2
        exact ⟨by rw [List.map_cons, List.map_cons, List.map_cons, q1], .cons (a _ r1 p.1) q2⟩) h
end
end Dn

namespace Dn
open PySem L2 Evl PyProof.Rows
section
variable {h : Heap} {prog : Program} {w : World}
theorem RdS.by {a : Addr} {d : PyData} (r : RdS h (.ref a) d) (sh : d.showable = true) (z : d.shown.length ≤ sizeLine) : ∃ T idr, ShowsBy prog w h a d T idr := by
  cases r with
  | @lst _ o us n xs e c dt r =>
    rw [PyData.showable] at sh
    rw [PyData.shown] at z
    obtain ⟨as, q⟩ := r.reads
    obtain ⟨bs, b1, b2⟩ := r.tells (prog := prog) (w := w) sh fun t m => Nat.le_trans (listText_mem_le m) z
    have apart : a ∉ bs := not_mem_of_deeper (Reads.list e c dt q) (by rw [PyData.depth]; omega) b1
    refine ⟨"list", "list.__repr__", PySem.F.slot_list_repr.toG, PySem.F.slot_list_str, PySem.F.slot_list_format, fun s k => ⟨o, k _ _ e, c⟩, fun A E s Q hg hu k hq => ?_⟩
    rw [PyData.depth] at hu
    rw [PyData.shown] at hq
    cases us with
    | mk l =>
      cases l with
      | nil =>
        cases r
        rw [PyData.shownAll, listText_nil] at hq
        exact call_list_repr_empty ⟨o, k _ _ e, c⟩ (k _ _ e) dt (hq s.heap _ _ fun _ _ m => m)
      | cons x l => exact call_list_reprK e c dt apart (by simpa using b2.length_eq) (fun i y m => b2.item i y (by simpa using m)) hg (fun b _ => Clear.nil b) hu k hq z
  | @tup _ o us n xs e c dt r =>
    rw [PyData.showable] at sh
    rw [PyData.shown] at z
    obtain ⟨as, q⟩ := r.reads
    obtain ⟨bs, b1, b2⟩ := r.tells (prog := prog) (w := w) sh fun t m => Nat.le_trans (tupleText_mem_le m) z
    have apart : a ∉ bs := not_mem_of_deeper (Reads.tuple e c dt q) (by rw [PyData.depth]; omega) b1
    refine ⟨"tuple", "tuple.__repr__", PySem.F.slot_tuple_repr, PySem.F.slot_tuple_str, PySem.F.slot_tuple_format, fun s k => ⟨o, k _ _ e, c⟩, fun A E s Q hg hu k hq => ?_⟩
    rw [PyData.depth] at hu
    rw [PyData.shown] at hq
    exact call_tuple_reprK e c dt apart b2 hg (fun b _ => Clear.nil b) hu k hq z
  | @dct _ o es n kvs e c dt ns r1 r2 =>
    rw [PyData.showable] at sh
    rw [PyData.shown] at z
    obtain ⟨as, q1⟩ := r1.reads
    obtain ⟨cs, q2⟩ := r2.reads
    obtain ⟨s1, s2⟩ := PyData.showableKv_split kvs sh
    obtain ⟨bs, b1, b2⟩ := r1.tells (prog := prog) (w := w) s1 fun t m => by
      obtain ⟨p, mp, l⟩ := PyData.shownKv_key_le kvs t m
      exact Nat.le_trans l (Nat.le_trans (dictText_mem_le mp) z)
    obtain ⟨ds, d1, d2⟩ := r2.tells (prog := prog) (w := w) s2 fun t m => by
      obtain ⟨p, mp, l⟩ := PyData.shownKv_val_le kvs t m
      exact Nat.le_trans l (Nat.le_trans (dictText_mem_le mp) z)
    have both : ReadAtMost h (PyData.depthKv kvs) (bs ++ ds) := (b1.mono (PyData.depthAll_keys_le kvs)).append (d1.mono (PyData.depthAll_vals_le kvs))
    have apart : a ∉ bs ++ ds := not_mem_of_deeper (Reads.dict e c dt q1 q2) (by rw [PyData.depth]; omega) both
    refine ⟨"dict", "dict.__repr__", PySem.F.slot_dict_repr, PySem.F.slot_dict_str, PySem.F.slot_dict_format, fun s k => ⟨o, k _ _ e, c⟩, fun A E s Q hg hu k hq => ?_⟩
    rw [PyData.depth] at hu
    rw [PyData.shown, PyData.shownKv_eq] at hq
    refine call_dict_reprK e c dt ns apart (ReprEntriesK.of_two es.toList _ _ (b2.more_le (fun b m => List.mem_append_left _ m) (PyData.depthAll_keys_le kvs)) (d2.more_le (fun b m => List.mem_append_right _ m) ?_)) hg (fun b _ => Clear.nil b) hu k hq ?_
    · exact PyData.depthAll_vals_le kvs
    · rw [← PyData.shownKv_eq]; exact z
end
def rReprF (K : Frag) : List V → Hp → VK → Prop := fun vs H Q => ∃ (x : V) (d : PyData), vs = [x] ∧ Dr K H x d ∧ rdb d = true ∧ d.showable = true ∧ d.shown.length ≤ 1000000 ∧ d.depth ≤ 100 ∧ Q (.str d.shown) H
theorem cr_reprF {X : Cx} (hg : X.A.guards = some []) (hu : X.A.units + 200 < cLine) : CallR X (.builtin "repr") (rReprF X.K) := by
  intro pins s σ H vs us Q I r hh
  obtain ⟨x, d, rfl, hd, hp, hs, hz, hdp, q⟩ := hh
  obtain ⟨u, rfl, ru⟩ := r.one
  have hz2 : d.shown.length ≤ sizeLine := by rw [sizeLine_eq]; omega
  have rd := Dr.rds I hd u ru hp
  have top : ∀ a, u = .ref a → wpAny (model X.prog X.w) X.A (call (.builtin "repr") [u]) (EP X pins σ Q) X.xe s := fun a e => by
    subst e
    obtain ⟨T, idr, S⟩ := rd.by (prog := X.prog) (w := X.w) hs hz2
    refine call_repr_slot (by omega) (S.typeIs s fun _ _ m => m) S.slotRepr (S.call X.A.in1 _ s _ hg ?_ (fun _ _ m => m) fun h2 t tk k => ⟨_, _, rfl, .str _, H, I.kept (t' := tk) k, ⟨_, rfl⟩, q⟩)
    show X.A.units + 1 + d.depth < cLine
    omega
  cases rd with
  | none => exact PySem.P.repr_of_none ⟨.str _, H, I.tok _, ⟨_, rfl⟩, q⟩
  | bl b => exact PySem.P.repr_of_bool ⟨.str _, H, I.tok _, ⟨_, rfl⟩, q⟩
  | int i t => exact PySem.P.repr_of_int (of_decide_eq_true hs) ⟨.str _, H, I.tok _, ⟨_, rfl⟩, q⟩
  | str y t => exact PySem.P.repr_of_str ⟨.str _, H, I.tok _, ⟨_, rfl⟩, q⟩ hz2
  | lst _ _ _ _ => exact top _ rfl
  | tup _ _ _ _ => exact top _ rfl
  | dct _ _ _ _ _ _ => exact top _ rfl
section
variable {K : Frag} {fd : Ad} {env : List Sl} {te ta tb tc : TE} {C : PyData → Prop} {CL : List PyData → Prop} {P : Po}
theorem cad_reprF {d : PyData} (hp : rdb d = true) (hs : d.showable = true) (hz : d.shown.length ≤ 1000000) (hd : d.depth ≤ 100) (c : C (.str d.shown)) : CaD K (rReprF K) [d] C := fun F H vs th r Q k => by
  cases r with
  | cons a b => cases b; exact ⟨_, d, rfl, dmono off_full a, hp, hs, hz, hd, k _ H _ (Ex.refl H) (.str _) c⟩
/-! ## a, b = a list -/
theorem gD_unl {n : Nat} {gs : TGs} {ds : List PyData} {as : List (Nat × PyData)} (h : gsD K gs ds as) (hn : ds.length = n) : gD K (gUnl K n gs) (.list ds) as := fun S H σ v N r k => by
  cases r with
  | @lst a us _ sa ra => exact ⟨a, us, rfl, sq_of (off_full _ _ sa), by rw [all_len ra]; exact hn, h S H σ us N ra k⟩
end
/-! ## len(x), x of an own class -/
def rLenO (C : Addr) (sp : Sp) : List V → Hp → VK → Prop := fun xs H Q => ∃ (a dx : Addr) (fs : List (Str × V)), xs = [.ref a] ∧ H a = some (.ins C dx fs) ∧ sp xs H (fun v H2 => ∃ n : Int, v = .int n ∧ (0 ≤ n ∧ n < 2 ^ 63) ∧ Q (.int n) H2) fun _ _ _ => False
theorem call_lenO {X : Cx} {k : Nat} {C f : Addr} {fdt : FuncData} {x : Str} {sp : Sp} (c : Cls X.K C) (hm : Meth X.K C "__len__" f) (F1 : FnOk X.prog X.w X.K X.mg X.base CX0 k f fdt [x] sp) (hb : L2.Binds X.K fdt [x] []) (hr : Room k X.A.in1) : CallR X (.builtin "len") (rLenO C sp) := by
  intro pins s σ H xs us Q I r hh
  obtain ⟨a, dx, fs, rfl, ha, q⟩ := hh
  obtain ⟨u, rfl, ru⟩ := r.one
  obtain rfl : u = Value.ref a := ru
  obtain ⟨mA, O, rel, _, _, _⟩ := ins_get I.hok ha
  obtain ⟨od, J, _⟩ := O.look
  have I0 := I
  refine Calls.call_function_entry kind_len plain_len entry_len (args_len1 _) ?_
  unfold Builtin.«len»
  refine wpAny_bind (m := oneArg "len" _) (wpAny_pure ?_)
  have b2 := hb s [.ref a] I.kIn rfl
  rw [List.append_nil] at b2
  refine wpAny_bind (m := callSpecial? (.ref a) (Str.ofString "__len__")) (PySem.W.special_fn I.kIn J hm.at_ (beq_iff_eq.mp hm.fn) (wpAny_call (codeAny_mono (F1.run _ X.stack s H ⟨[.ref a], []⟩ [.ref a] [.ref a] _ _ hr I.env0.in1 b2 (.cons rfl .nil) q) fun res s2 hq => ?_)))
  cases res with
  | error er => exact hq.elim
  | ok fl =>
    cases fl with
    | next => exact hq.elim
    | brk => exact hq.elim
    | cont => exact hq.elim
    | ret u =>
      obtain ⟨v, H2, J2, rv, n, rfl, ⟨h0, h1⟩, q2⟩ := I.after hq
      obtain ⟨t, rfl⟩ := rv
      refine wpAny_bind (wpAny_holding (wpAny_pure ?_))
      refine wpAny_bind (wpAny_letGo ?_)
      show wpAny _ _ (if n < 0 then _ else _) _ _ _
      rw [if_neg (by omega)]
      show wpAny _ _ (if n ≥ 2 ^ 63 then _ else _) _ _ _
      rw [if_neg (by omega)]
      exact wpAny_bind (wpAny_mkInt (wpAny_pure ⟨_, rfl, .int n, H2, J2.tok _, ⟨_, rfl⟩, q2⟩))
section
variable {K : Frag} {fd : Ad} {env : List Sl} {te ta tb tc : TE} {C : PyData → Prop} {CL : List PyData → Prop} {P : Po} {A : Addr}
theorem wp_lenO {G : List PyData → (PyData → Prop) → Prop} (h : wpE K fd te env fun d => ∃ kvs, d = insD A kvs ∧ G [d] fun r => ∃ n : Int, r = .int n ∧ (0 ≤ n ∧ n < 2 ^ 63) ∧ C (.int n)) : wpE K fd (tCB (rLenO A (spP K G)) (tCons te tNil)) env C := fun F σ H I Q k =>
  h F σ H I _ fun v H1 d u r c => by
    obtain ⟨kvs, rfl, g⟩ := c
    obtain ⟨a, dx, fs, rfl, ha, rf⟩ := ins_inv r
    refine ⟨a, dx, fs, rfl, off_full _ _ ha, F, [insD A kvs], _, (I.up u).there, all_one r, g, fun w H' d e rd c => ?_⟩
    obtain ⟨n, rfl, hn, c⟩ := c
    cases rd
    exact ⟨n, rfl, hn, k _ H' _ (u.trans (.ex u.feed e)) (.int n) c⟩
/-- o.m(..), m a def that hands back data -/
theorem wp_meth {m : Str} {tas : TA} {E : XK} {G : List PyData → (PyData → Prop) → Prop} (h : wpE K fd te env fun d => ∃ kvs, d = insD A kvs ∧ (∀ k d, (k, d) ∈ kvs → k ≠ .str m) ∧ wpA K fd tas env fun ds => G (d :: ds) C) : wpE K fd (tMeth A m (spP K G) [] E te tas) env C := fun F σ H I Q k =>
  h F σ H I _ fun v H1 d u r c => by
    obtain ⟨kvs, rfl, no, c⟩ := c
    obtain ⟨a, dx, fs, rfl, ha, rf⟩ := ins_inv r
    refine ⟨a, dx, fs, rfl, off_full _ _ ha, drfs_no rf no, c F σ H1 (I.up u) _ fun vs H2 ds u2 r2 g => ?_⟩
    show spP K G (V.ref a :: (vs ++ [])) H2 Q E
    rw [List.append_nil]
    exact ⟨F, insD A kvs :: ds, C, ((I.up u).up u2).there, .cons (dmono ((I.up u).see u2) r) r2, g, fun w H' d e rd c => k w H' d ((u.trans u2).trans (.ex u2.feed e)) rd c⟩
theorem all_rev {G : Hp} {vs : List V} {ds : List PyData} (h : DrAll K G vs ds) : DrAll K G vs.reverse ds.reverse := by
  induction ds generalizing vs with
  | nil => cases h; exact .nil
  | cons d ds ih =>
    cases h with
    | cons a b =>
      rw [List.reverse_cons, List.reverse_cons]
      exact all_app (ih b) (all_one a)
/-- try: .. except X: .. -/
theorem wpS_tryO {c : Value} {PX : PXs} {tb : WX → TS} {ts : Addr → Value → Option Addr → TS} {Wout : WX} (hb : ∀ W, wpSX K fd W PX (tb W) env P)
    (hs : ∀ (A : Addr) (fld : Str) (dv : PyData) (env' : List Sl), PX A fld dv env' → PySem.W.exmOne K (.ref A) c = some true ∧
      ∀ (F0 : Ad) (H0 : Hp) (σ : L2.St) (H : Hp) (a d : Addr) (v : V) (D : Ends), StOk K fd F0 H0 σ H env' → H d = some (.xd [(fld, v)]) → Dr K (off F0 H) v dv → DOk K fd F0 H0 D P → H a = none → ts a (.ref A) (some d) D σ H) :
    wpS K fd (fun D σ H => tb (wOnly K c ts Wout D) D σ H) env P := fun F0 H0 σ H I D k =>
  hb (wOnly K c ts Wout D) F0 H0 σ H I (fun A fld d v dv σ' H' env' px I' e rv => by
    obtain ⟨h1, h2⟩ := hs A fld dv env' px
    exact ⟨true, h1, fun _ a ha => h2 F0 H0 σ' H' a d v D I' e rv k ha, fun z => (nomatch z)⟩) D k
end
end Dn

namespace Dn
open PySem L2 Evl PyProof.Rows
section
variable {K : Frag} {fd : Ad} {env : List Sl} {te ta tb tc : TE} {C : PyData → Prop} {CL : List PyData → Prop} {P : Po} {F0 : Ad} {H0 H : Hp} {σ : L2.St} {t : TS}
theorem ownd_un : ∀ env : List Sl, ownd (unown env) = []
  | [] => rfl
  | .own p ds :: env => by
    show own1 (.dat (.list ds)) (ownd (unown env)) = []
    rw [ownd_un env]; rfl
  | .no :: env => by show own1 .no (ownd (unown env)) = []; rw [ownd_un env]; rfl
  | .dat d :: env => by show own1 (.dat d) (ownd (unown env)) = []; rw [ownd_un env]; rfl
  | .fed f :: env => by show own1 (.fed f) (ownd (unown env)) = []; rw [ownd_un env]; rfl
  | .raw w :: env => by show own1 (.raw w) (ownd (unown env)) = []; rw [ownd_un env]; rfl
/-- own lists are data from here on -/
theorem StOk.forget (h : StOk K fd F0 H0 σ H env) : StOk K fd F0 H0 σ H (unown env) := by
  have e : (fun a => F0 a ∨ a ∈ ownd (unown env)) = F0 := by
    funext a
    rw [ownd_un]
    exact propext ⟨fun z => z.elim id (fun z => by cases z), .inl⟩
  exact ⟨by rw [e]; exact h.un, h.old, h.th0, h.fd0, fun p hp => (by rw [ownd_un] at hp; cases hp), (by rw [ownd_un]; exact List.nodup_nil)⟩
theorem wpS_forget (h : wpS K fd t (unown env) P) : wpS K fd t env P := fun F0 H0 σ H I D k => h F0 H0 σ H I.forget D k
/-- xs[::-1] -/
theorem wpN_rev (h : wpE K fd te env fun d => ∃ ds, d = .list ds ∧ CL ds.reverse) : wpN K fd (tRevL K te) env CL := fun F σ H I Q k =>
  h F σ H I _ fun v H2 d u r c => by
    obtain ⟨ds, rfl, c⟩ := c
    cases r with
    | @lst a us _ sa ra =>
      refine ⟨a, us, rfl, sq_of (off_full _ _ sa), fun p hp => ?_⟩
      exact k p _ _ _ (none_back I.there I.fdF u hp) (u.trans (.ex u.feed (Ex.new hp))) upd_same (new_all hp (all_rev ra)) c
/-- x is not True -/
theorem opd_notBl {a b : Bool} (c : C (.bool (!decide (a = b)))) : OpD K rNotB (.bool a) (.bool b) C := fun F H x y th rx ry Q k => by
  cases rx; cases ry
  exact ⟨a, b, rfl, rfl, k _ H _ (Ex.refl H) (.bl _) c⟩
abbrev rInsert : V → List V → Hp → VK → Prop := fun x vs H Q => ∃ l xs i y, x = .ref l ∧ vs = [V.int i, y] ∧ H l = some (HO.lst xs) ∧ xs.length < sizeLine ∧ 0 ≤ i ∧ i < 2 ^ 63 ∧ Q .non (upd H l (HO.lst (List.take i.toNat xs ++ [y] ++ List.drop i.toNat xs)))
theorem all_td {G : Hp} {vs : List V} {ds : List PyData} (h : DrAll K G vs ds) : ∀ n, DrAll K G (vs.take n) (ds.take n) ∧ DrAll K G (vs.drop n) (ds.drop n) := by
  induction ds generalizing vs with
  | nil => cases h; intro n; cases n <;> exact ⟨.nil, .nil⟩
  | cons d ds ih =>
    cases h with
    | cons a b =>
      intro n
      cases n with
      | zero => exact ⟨.nil, .cons a b⟩
      | succ n => exact ⟨.cons a (ih b n).1, (ih b n).2⟩
/-- xs.insert(i, e), xs an own list -/
theorem wpS_insert {i : Nat} {p : Addr} {ds : List PyData} {tas : TA} (e : env[i]? = some (.own p ds)) (hz : ds.length < 100000) (h : wpA K fd tas env fun as => ∃ (k : Nat) (d : PyData), as = [.int (k : Nat), d] ∧ k ≤ 100000 ∧ P.nx (env.set i (.own p (ds.take k ++ [d] ++ ds.drop k)))) :
    wpS K fd (tDrop (tBM K "list" rInsert (tVar i) tas)) env P := fun F0 H0 σ H I D kk => by
  obtain ⟨e1, us, h4, h5⟩ := I.slotOwn e
  refine ⟨_, e1, .inl ⟨rfl, _, SqL.of h4⟩, h _ σ H I.ev _ fun vs H2 as u r c => ?_⟩
  obtain ⟨k, d, rfl, hk, c⟩ := c
  cases r with
  | cons r1 r =>
    cases r with
    | cons r2 r =>
      cases r
      cases r1
      have I2 := I.upE u
      obtain ⟨e1', us', h4', h5'⟩ := I2.slotOwn e
      refine ⟨p, us', _, _, rfl, rfl, h4', sz_lt (by rw [all_len h5']; exact hz), by omega, by omega, ?_⟩
      rw [Int.toNat_natCast]
      exact kk.nx _ _ _ c (I2.mut (vs := us') e (all_app (all_app (all_td h5' k).1 (all_one r2)) (all_td h5' k).2))
end
end Dn

namespace DnQ
open PySem PySem.SeqAt AutoSeq1 MeetsSeq
/-! ## == of a dict and of what is none -/
abbrev dOb (d0 : Option Addr) (s0 : Array (Option Value)) (es : Array DictEntry) (n : Nat) : Obj := { cls := .type "dict", dict := d0, data := .dict es n, slots := s0 }
abbrev sOb (T : String) (xs : Array Value) (m : Nat) (dd : Option Addr) (sl : Array (Option Value)) : Obj := { cls := .type T, dict := dd, data := .seq xs m, slots := sl }
theorem dq_list (l b : Addr) (d0 : Option Addr) (s0 : Array (Option Value)) (es : Array DictEntry) (xs : Array Value) (n m : Nat) (dd : Option Addr) (sl : Array (Option Value)) : Meets (Builtin.«dict.__eq__» ⟨[.ref l, .ref b], []⟩) (fun _ R s => s.heap.get? l = some (dOb d0 s0 es n) ∧ s.heap.get? b = some (sOb "list" xs m dd sl) ∧ R (.ok (.ret .notImplemented)) s) :=
  .of_wp fun pr wd A0 R s hh => by
    obtain ⟨a1, a2, a3, a4, a5⟩ := s
    obtain ⟨hl, hb, h⟩ := hh
    have fs := F.sub_list_dict
    wp_walk using AutoSeq1.wpAny_loadPart' hl, AutoSeq1.wpAny_loadPart' hb
    exact ⟨_, rfl, h⟩
theorem listq_d (l b : Addr) (d0 : Option Addr) (s0 : Array (Option Value)) (es : Array DictEntry) (xs : Array Value) (n m : Nat) (dd : Option Addr) (sl : Array (Option Value)) : Meets (Builtin.«list.__eq__» ⟨[.ref b, .ref l], []⟩) (fun _ R s => s.heap.get? l = some (dOb d0 s0 es n) ∧ s.heap.get? b = some (sOb "list" xs m dd sl) ∧ R (.ok (.ret .notImplemented)) s) :=
  .of_wp fun pr wd A0 R s hh => by
    obtain ⟨a1, a2, a3, a4, a5⟩ := s
    obtain ⟨hl, hb, h⟩ := hh
    have fs := F.sub_dict_list
    wp_walk using AutoSeq1.wpAny_loadPart' hl, AutoSeq1.wpAny_loadPart' hb
    exact ⟨_, rfl, h⟩
theorem dq_tuple (l b : Addr) (d0 : Option Addr) (s0 : Array (Option Value)) (es : Array DictEntry) (xs : Array Value) (n m : Nat) (dd : Option Addr) (sl : Array (Option Value)) : Meets (Builtin.«dict.__eq__» ⟨[.ref l, .ref b], []⟩) (fun _ R s => s.heap.get? l = some (dOb d0 s0 es n) ∧ s.heap.get? b = some (sOb "tuple" xs m dd sl) ∧ R (.ok (.ret .notImplemented)) s) :=
  .of_wp fun pr wd A0 R s hh => by
    obtain ⟨a1, a2, a3, a4, a5⟩ := s
    obtain ⟨hl, hb, h⟩ := hh
    have fs := F.sub_tuple_dict
    wp_walk using AutoSeq1.wpAny_loadPart' hl, AutoSeq1.wpAny_loadPart' hb
    exact ⟨_, rfl, h⟩
theorem tupleq_d (l b : Addr) (d0 : Option Addr) (s0 : Array (Option Value)) (es : Array DictEntry) (xs : Array Value) (n m : Nat) (dd : Option Addr) (sl : Array (Option Value)) : Meets (Builtin.«tuple.__eq__» ⟨[.ref b, .ref l], []⟩) (fun _ R s => s.heap.get? l = some (dOb d0 s0 es n) ∧ s.heap.get? b = some (sOb "tuple" xs m dd sl) ∧ R (.ok (.ret .notImplemented)) s) :=
  .of_wp fun pr wd A0 R s hh => by
    obtain ⟨a1, a2, a3, a4, a5⟩ := s
    obtain ⟨hl, hb, h⟩ := hh
    have fs := F.sub_dict_tuple
    wp_walk using AutoSeq1.wpAny_loadPart' hl, AutoSeq1.wpAny_loadPart' hb
    exact ⟨_, rfl, h⟩
theorem dq_NoneType (l : Addr) (d0 : Option Addr) (s0 : Array (Option Value)) (es : Array DictEntry) (n : Nat) : Meets (Builtin.«dict.__eq__» ⟨[.ref l, .none], []⟩) (fun _ R s => s.heap.get? l = some (dOb d0 s0 es n) ∧ R (.ok (.ret .notImplemented)) s) :=
  .of_wp fun pr wd A0 R s hh => by
    obtain ⟨a1, a2, a3, a4, a5⟩ := s
    obtain ⟨hl, h⟩ := hh
    have fs := F.sub_NoneType_dict
    wp_walk using AutoSeq1.wpAny_loadPart' hl
    exact ⟨_, rfl, h⟩
theorem dq_bool (l : Addr) (d0 : Option Addr) (s0 : Array (Option Value)) (es : Array DictEntry) (n : Nat) (x : Bool) : Meets (Builtin.«dict.__eq__» ⟨[.ref l, .bool x], []⟩) (fun _ R s => s.heap.get? l = some (dOb d0 s0 es n) ∧ R (.ok (.ret .notImplemented)) s) :=
  .of_wp fun pr wd A0 R s hh => by
    obtain ⟨a1, a2, a3, a4, a5⟩ := s
    obtain ⟨hl, h⟩ := hh
    have fs := F.sub_bool_dict
    wp_walk using AutoSeq1.wpAny_loadPart' hl
    exact ⟨_, rfl, h⟩
theorem boolq_d (l : Addr) (d0 : Option Addr) (s0 : Array (Option Value)) (es : Array DictEntry) (n : Nat) (x : Bool) : Meets (Builtin.«int.__eq__» ⟨[.bool x, .ref l], []⟩) (fun _ R s => s.heap.get? l = some (dOb d0 s0 es n) ∧ R (.ok (.ret .notImplemented)) s) :=
  .of_wp fun pr wd A0 R s hh => by
    obtain ⟨a1, a2, a3, a4, a5⟩ := s
    obtain ⟨hl, h⟩ := hh
    have fs := F.sub_dict_bool
    wp_walk using AutoSeq1.wpAny_loadPart' hl, wpAny_load hl
    exact ⟨_, rfl, h⟩
theorem dq_int (l : Addr) (d0 : Option Addr) (s0 : Array (Option Value)) (es : Array DictEntry) (n : Nat) (x : Int) (u : Tok) : Meets (Builtin.«dict.__eq__» ⟨[.ref l, .int x u], []⟩) (fun _ R s => s.heap.get? l = some (dOb d0 s0 es n) ∧ R (.ok (.ret .notImplemented)) s) :=
  .of_wp fun pr wd A0 R s hh => by
    obtain ⟨a1, a2, a3, a4, a5⟩ := s
    obtain ⟨hl, h⟩ := hh
    have fs := F.sub_int_dict
    wp_walk using AutoSeq1.wpAny_loadPart' hl
    exact ⟨_, rfl, h⟩
theorem intq_d (l : Addr) (d0 : Option Addr) (s0 : Array (Option Value)) (es : Array DictEntry) (n : Nat) (x : Int) (u : Tok) : Meets (Builtin.«int.__eq__» ⟨[.int x u, .ref l], []⟩) (fun _ R s => s.heap.get? l = some (dOb d0 s0 es n) ∧ R (.ok (.ret .notImplemented)) s) :=
  .of_wp fun pr wd A0 R s hh => by
    obtain ⟨a1, a2, a3, a4, a5⟩ := s
    obtain ⟨hl, h⟩ := hh
    have fs := F.sub_dict_int
    wp_walk using AutoSeq1.wpAny_loadPart' hl, wpAny_load hl
    exact ⟨_, rfl, h⟩
theorem dq_str (l : Addr) (d0 : Option Addr) (s0 : Array (Option Value)) (es : Array DictEntry) (n : Nat) (x : Str) (u : Tok) : Meets (Builtin.«dict.__eq__» ⟨[.ref l, .str x u], []⟩) (fun _ R s => s.heap.get? l = some (dOb d0 s0 es n) ∧ R (.ok (.ret .notImplemented)) s) :=
  .of_wp fun pr wd A0 R s hh => by
    obtain ⟨a1, a2, a3, a4, a5⟩ := s
    obtain ⟨hl, h⟩ := hh
    have fs := F.sub_str_dict
    wp_walk using AutoSeq1.wpAny_loadPart' hl
    exact ⟨_, rfl, h⟩
theorem strq_d (l : Addr) (d0 : Option Addr) (s0 : Array (Option Value)) (es : Array DictEntry) (n : Nat) (x : Str) (u : Tok) : Meets (Builtin.«str.__eq__» ⟨[.str x u, .ref l], []⟩) (fun _ R s => s.heap.get? l = some (dOb d0 s0 es n) ∧ R (.ok (.ret .notImplemented)) s) :=
  .of_wp fun pr wd A0 R s hh => by
    obtain ⟨a1, a2, a3, a4, a5⟩ := s
    obtain ⟨hl, h⟩ := hh
    have fs := F.sub_dict_str
    wp_walk using AutoSeq1.wpAny_loadPart' hl, wpAny_load hl
    exact ⟨_, rfl, h⟩
section
variable {A : Around} {s : Shared}
theorem rc_dlist {l b : Addr} {d0 : Option Addr} {s0 : Array (Option Value)} {es : Array DictEntry} {n : Nat} {xs : Array Value} (hl : s.heap.get? l = some (dOb d0 s0 es n)) (hb : s.heap.IsList b xs) (hu : A.units < cLine) : EqAt A s (.ref l) (.ref b) false ∧ EqAt A s (.ref b) (.ref l) false := by
  obtain ⟨⟨c, dd, dt, sl⟩, ho, hc, m, hd⟩ := id hb
  simp only at hc hd
  subst hc hd
  have hne : l ≠ b := fun e => by
    subst e
    rw [hl] at ho
    exact absurd (congrArg Obj.cls (Option.some.inj ho)) (by simp)
  refine ⟨.of_refs hne fun pr wd E Q h => ?_, .of_refs hne.symm fun pr wd E Q h => ?_⟩
  · exact rc_eq_decline_or (k := false) ⟨_, hl, rfl⟩ ⟨_, ho, rfl⟩ (by decide) F.sub_list_dict F.slot_dict_eq F.slot_list_eq_refl
      (fun _ q => call_meets F.slot_dict_eq ⟨_, hl, rfl⟩ F.entry_dict_eq (F.args_dict_eq_2 _ _) (dq_list l b d0 s0 es xs n m dd sl) ⟨hl, ho, q⟩)
      (fun _ q => call_meets F.slot_list_eq_refl ⟨_, ho, rfl⟩ F.entry_list_eq (F.args_list_eq_2 _ _) (listq_d l b d0 s0 es xs n m dd sl) ⟨hl, ho, q⟩)
      (fun _ q => wpAny_isSame_ref_other hne hl ho (by simp) q) (.inr hu) h
  · exact rc_eq_decline_or (k := false) ⟨_, ho, rfl⟩ ⟨_, hl, rfl⟩ (by decide) F.sub_dict_list F.slot_list_eq F.slot_dict_eq_refl
      (fun _ q => call_meets F.slot_list_eq ⟨_, ho, rfl⟩ F.entry_list_eq (F.args_list_eq_2 _ _) (listq_d l b d0 s0 es xs n m dd sl) ⟨hl, ho, q⟩)
      (fun _ q => call_meets F.slot_dict_eq_refl ⟨_, hl, rfl⟩ F.entry_dict_eq (F.args_dict_eq_2 _ _) (dq_list l b d0 s0 es xs n m dd sl) ⟨hl, ho, q⟩)
      (fun _ q => wpAny_isSame_ref_other hne.symm ho hl (by simp) q) (.inr hu) h
theorem rc_dtuple {l b : Addr} {d0 : Option Addr} {s0 : Array (Option Value)} {es : Array DictEntry} {n : Nat} {xs : Array Value} (hl : s.heap.get? l = some (dOb d0 s0 es n)) (hb : s.heap.IsTuple b xs) (hu : A.units < cLine) : EqAt A s (.ref l) (.ref b) false ∧ EqAt A s (.ref b) (.ref l) false := by
  obtain ⟨⟨c, dd, dt, sl⟩, ho, hc, m, hd⟩ := id hb
  simp only at hc hd
  subst hc hd
  have hne : l ≠ b := fun e => by
    subst e
    rw [hl] at ho
    exact absurd (congrArg Obj.cls (Option.some.inj ho)) (by simp)
  refine ⟨.of_refs hne fun pr wd E Q h => ?_, .of_refs hne.symm fun pr wd E Q h => ?_⟩
  · exact rc_eq_decline_or (k := false) ⟨_, hl, rfl⟩ ⟨_, ho, rfl⟩ (by decide) F.sub_tuple_dict F.slot_dict_eq F.slot_tuple_eq_refl
      (fun _ q => call_meets F.slot_dict_eq ⟨_, hl, rfl⟩ F.entry_dict_eq (F.args_dict_eq_2 _ _) (dq_tuple l b d0 s0 es xs n m dd sl) ⟨hl, ho, q⟩)
      (fun _ q => call_meets F.slot_tuple_eq_refl ⟨_, ho, rfl⟩ F.entry_tuple_eq (F.args_tuple_eq_2 _ _) (tupleq_d l b d0 s0 es xs n m dd sl) ⟨hl, ho, q⟩)
      (fun _ q => wpAny_isSame_ref_other hne hl ho (by simp) q) (.inr hu) h
  · exact rc_eq_decline_or (k := false) ⟨_, ho, rfl⟩ ⟨_, hl, rfl⟩ (by decide) F.sub_dict_tuple F.slot_tuple_eq F.slot_dict_eq_refl
      (fun _ q => call_meets F.slot_tuple_eq ⟨_, ho, rfl⟩ F.entry_tuple_eq (F.args_tuple_eq_2 _ _) (tupleq_d l b d0 s0 es xs n m dd sl) ⟨hl, ho, q⟩)
      (fun _ q => call_meets F.slot_dict_eq_refl ⟨_, hl, rfl⟩ F.entry_dict_eq (F.args_dict_eq_2 _ _) (dq_tuple l b d0 s0 es xs n m dd sl) ⟨hl, ho, q⟩)
      (fun _ q => wpAny_isSame_ref_other' hne.symm ho hl (by simp) q) (.inr hu) h
theorem rc_dNoneType {l : Addr} {d0 : Option Addr} {s0 : Array (Option Value)} {es : Array DictEntry} {n : Nat} (hl : s.heap.get? l = some (dOb d0 s0 es n)) (hu : A.units < cLine) : EqAt A s (.ref l) (.none) false ∧ EqAt A s (.none) (.ref l) false := by
  have r1 : RcAt A s (.ref l) (.none) false := fun pr wd E Q h => by
    exact rc_eq_decline_or (k := false) ⟨_, hl, rfl⟩ rfl (by decide) F.sub_NoneType_dict F.slot_dict_eq F.slot_NoneType_eq_refl
      (fun _ q => call_meets F.slot_dict_eq ⟨_, hl, rfl⟩ F.entry_dict_eq (F.args_dict_eq_2 _ _) (dq_NoneType l d0 s0 es n) ⟨hl, q⟩)
      (fun _ q => call_gives F.slot_NoneType_eq_refl rfl F.entry_NoneType_eq (F.args_NoneType_eq_2 _ _) (NoneType___eq___none_ref_0 l) q)
      (fun _ q => wpAny_of_eq (rfl : isSame (.ref l) (.none) = pure false) q) (.inr hu) h
  have r2 : RcAt A s (.none) (.ref l) false := fun pr wd E Q h => by
    exact rc_eq_decline_or (k := false) rfl ⟨_, hl, rfl⟩ (by decide) F.sub_dict_NoneType F.slot_NoneType_eq F.slot_dict_eq_refl
      (fun _ q => call_gives F.slot_NoneType_eq rfl F.entry_NoneType_eq (F.args_NoneType_eq_2 _ _) (NoneType___eq___none_ref_0 l) q)
      (fun _ q => call_meets F.slot_dict_eq_refl ⟨_, hl, rfl⟩ F.entry_dict_eq (F.args_dict_eq_2 _ _) (dq_NoneType l d0 s0 es n) ⟨hl, q⟩)
      (fun _ q => wpAny_of_eq (rfl : isSame (.none) (.ref l) = pure false) q) (.inr hu) h
  refine ⟨fun pr wd E Q h => ?_, fun pr wd E Q h => ?_⟩
  · unfold eqBool
    refine wpAny_holding ?_
    refine wpAny_ite_split (fun z => absurd (eq_of_beq z) nofun) fun _ => ?_
    exact wpAny_bind (r1 pr wd E _ (wpAny_truthy_bool h))
  · unfold eqBool
    refine wpAny_holding ?_
    refine wpAny_ite_split (fun z => absurd (eq_of_beq z) nofun) fun _ => ?_
    exact wpAny_bind (r2 pr wd E _ (wpAny_truthy_bool h))
theorem rc_dbool {l : Addr} {d0 : Option Addr} {s0 : Array (Option Value)} {es : Array DictEntry} {n : Nat} (x : Bool) (hl : s.heap.get? l = some (dOb d0 s0 es n)) (hu : A.units < cLine) : EqAt A s (.ref l) (.bool x) false ∧ EqAt A s (.bool x) (.ref l) false := by
  have r1 : RcAt A s (.ref l) (.bool x) false := fun pr wd E Q h => by
    exact rc_eq_decline_or (k := false) ⟨_, hl, rfl⟩ rfl (by decide) F.sub_bool_dict F.slot_dict_eq F.slot_bool_eq_refl
      (fun _ q => call_meets F.slot_dict_eq ⟨_, hl, rfl⟩ F.entry_dict_eq (F.args_dict_eq_2 _ _) (dq_bool l d0 s0 es n x) ⟨hl, q⟩)
      (fun _ q => call_meets F.slot_bool_eq_refl rfl F.entry_int_eq (F.args_int_eq_2 _ _) (boolq_d l d0 s0 es n x) ⟨hl, q⟩)
      (fun _ q => wpAny_of_eq (rfl : isSame (.ref l) (.bool x) = pure false) q) (.inr hu) h
  have r2 : RcAt A s (.bool x) (.ref l) false := fun pr wd E Q h => by
    exact rc_eq_decline_or (k := false) rfl ⟨_, hl, rfl⟩ (by decide) F.sub_dict_bool F.slot_bool_eq F.slot_dict_eq_refl
      (fun _ q => call_meets F.slot_bool_eq rfl F.entry_int_eq (F.args_int_eq_2 _ _) (boolq_d l d0 s0 es n x) ⟨hl, q⟩)
      (fun _ q => call_meets F.slot_dict_eq_refl ⟨_, hl, rfl⟩ F.entry_dict_eq (F.args_dict_eq_2 _ _) (dq_bool l d0 s0 es n x) ⟨hl, q⟩)
      (fun _ q => wpAny_of_eq (rfl : isSame (.bool x) (.ref l) = pure false) q) (.inr hu) h
  refine ⟨fun pr wd E Q h => ?_, fun pr wd E Q h => ?_⟩
  · unfold eqBool
    refine wpAny_holding ?_
    refine wpAny_ite_split (fun z => absurd (eq_of_beq z) nofun) fun _ => ?_
    exact wpAny_bind (r1 pr wd E _ (wpAny_truthy_bool h))
  · unfold eqBool
    refine wpAny_holding ?_
    refine wpAny_ite_split (fun z => absurd (eq_of_beq z) nofun) fun _ => ?_
    exact wpAny_bind (r2 pr wd E _ (wpAny_truthy_bool h))
theorem rc_dint {l : Addr} {d0 : Option Addr} {s0 : Array (Option Value)} {es : Array DictEntry} {n : Nat} (x : Int) (u : Tok) (hl : s.heap.get? l = some (dOb d0 s0 es n)) (hu : A.units < cLine) : EqAt A s (.ref l) (.int x u) false ∧ EqAt A s (.int x u) (.ref l) false := by
  have r1 : RcAt A s (.ref l) (.int x u) false := fun pr wd E Q h => by
    exact rc_eq_decline_or (k := false) ⟨_, hl, rfl⟩ (typeIs_int s x u) (by decide) F.sub_int_dict F.slot_dict_eq F.slot_int_eq_refl
      (fun _ q => call_meets F.slot_dict_eq ⟨_, hl, rfl⟩ F.entry_dict_eq (F.args_dict_eq_2 _ _) (dq_int l d0 s0 es n x u) ⟨hl, q⟩)
      (fun _ q => call_meets F.slot_int_eq_refl (typeIs_int s x u) F.entry_int_eq (F.args_int_eq_2 _ _) (intq_d l d0 s0 es n x u) ⟨hl, q⟩)
      (fun _ q => wpAny_of_eq (rfl : isSame (.ref l) (.int x u) = pure false) q) (.inr hu) h
  have r2 : RcAt A s (.int x u) (.ref l) false := fun pr wd E Q h => by
    exact rc_eq_decline_or (k := false) (typeIs_int s x u) ⟨_, hl, rfl⟩ (by decide) F.sub_dict_int F.slot_int_eq F.slot_dict_eq_refl
      (fun _ q => call_meets F.slot_int_eq (typeIs_int s x u) F.entry_int_eq (F.args_int_eq_2 _ _) (intq_d l d0 s0 es n x u) ⟨hl, q⟩)
      (fun _ q => call_meets F.slot_dict_eq_refl ⟨_, hl, rfl⟩ F.entry_dict_eq (F.args_dict_eq_2 _ _) (dq_int l d0 s0 es n x u) ⟨hl, q⟩)
      (fun _ q => wpAny_of_eq (rfl : isSame (.int x u) (.ref l) = pure false) q) (.inr hu) h
  refine ⟨fun pr wd E Q h => ?_, fun pr wd E Q h => ?_⟩
  · unfold eqBool
    refine wpAny_holding ?_
    refine wpAny_ite_split (fun z => absurd (eq_of_beq z) nofun) fun _ => ?_
    exact wpAny_bind (r1 pr wd E _ (wpAny_truthy_bool h))
  · unfold eqBool
    refine wpAny_holding ?_
    refine wpAny_ite_split (fun z => absurd (eq_of_beq z) nofun) fun _ => ?_
    exact wpAny_bind (r2 pr wd E _ (wpAny_truthy_bool h))
theorem rc_dstr {l : Addr} {d0 : Option Addr} {s0 : Array (Option Value)} {es : Array DictEntry} {n : Nat} (x : Str) (u : Tok) (hl : s.heap.get? l = some (dOb d0 s0 es n)) (hu : A.units < cLine) : EqAt A s (.ref l) (.str x u) false ∧ EqAt A s (.str x u) (.ref l) false := by
  have r1 : RcAt A s (.ref l) (.str x u) false := fun pr wd E Q h => by
    exact rc_eq_decline_or (k := false) ⟨_, hl, rfl⟩ (typeIs_str s x u) (by decide) F.sub_str_dict F.slot_dict_eq F.slot_str_eq_refl
      (fun _ q => call_meets F.slot_dict_eq ⟨_, hl, rfl⟩ F.entry_dict_eq (F.args_dict_eq_2 _ _) (dq_str l d0 s0 es n x u) ⟨hl, q⟩)
      (fun _ q => call_meets F.slot_str_eq_refl (typeIs_str s x u) F.entry_str_eq (F.args_str_eq_2 _ _) (strq_d l d0 s0 es n x u) ⟨hl, q⟩)
      (fun _ q => wpAny_of_eq (rfl : isSame (.ref l) (.str x u) = pure false) q) (.inr hu) h
  have r2 : RcAt A s (.str x u) (.ref l) false := fun pr wd E Q h => by
    exact rc_eq_decline_or (k := false) (typeIs_str s x u) ⟨_, hl, rfl⟩ (by decide) F.sub_dict_str F.slot_str_eq F.slot_dict_eq_refl
      (fun _ q => call_meets F.slot_str_eq (typeIs_str s x u) F.entry_str_eq (F.args_str_eq_2 _ _) (strq_d l d0 s0 es n x u) ⟨hl, q⟩)
      (fun _ q => call_meets F.slot_dict_eq_refl ⟨_, hl, rfl⟩ F.entry_dict_eq (F.args_dict_eq_2 _ _) (dq_str l d0 s0 es n x u) ⟨hl, q⟩)
      (fun _ q => wpAny_of_eq (rfl : isSame (.str x u) (.ref l) = pure false) q) (.inr hu) h
  refine ⟨fun pr wd E Q h => ?_, fun pr wd E Q h => ?_⟩
  · unfold eqBool
    refine wpAny_holding ?_
    refine wpAny_ite_split (fun z => absurd (eq_of_beq z) nofun) fun _ => ?_
    exact wpAny_bind (r1 pr wd E _ (wpAny_truthy_bool h))
  · unfold eqBool
    refine wpAny_holding ?_
    refine wpAny_ite_split (fun z => absurd (eq_of_beq z) nofun) fun _ => ?_
    exact wpAny_bind (r2 pr wd E _ (wpAny_truthy_bool h))
end
end DnQ

namespace DnQ
open PySem PySem.SeqAt AutoSeq1 MeetsSeq
theorem eqv_dict (d : PyData) (kvs : List (PyData × PyData)) : d.eqv (.dict kvs) = false ∧ (PyData.dict kvs).eqv d = false := by
  cases d <;> exact ⟨rfl, rfl⟩
theorem dict_as {o : Obj} {es : Array DictEntry} {n : Nat} (h2 : o.cls = .type "dict") (h3 : o.data = .dict es n) : o = dOb o.dict o.slots es n := by
  obtain ⟨c, d, dt, sl⟩ := o
  simp only at h2 h3
  subst h2 h3
  rfl
/-- a dict on one side, none on the other -/
theorem eqD1 {A : Around} {s : Shared} {da : PyData} {kvs : List (PyData × PyData)} {x y : Value} {as bs : List Addr} (rx : Reads s.heap x da as) (ry : Reads s.heap y (.dict kvs) bs) (hp : da.plain = true) (hu : A.units < cLine) : EqAt A s x y false ∧ EqAt A s y x false := by
  cases ry with
  | @dict l o es n _ _ _ g1 g2 g3 g4 g5 =>
    rw [dict_as g2 g3] at g1
    cases rx with
    | none => exact (rc_dNoneType g1 hu).symm
    | bool b => exact (rc_dbool b g1 hu).symm
    | int i t => exact (rc_dint i t g1 hu).symm
    | str z t => exact (rc_dstr z t g1 hu).symm
    | list q1 q2 q3 q4 => exact (rc_dlist g1 ⟨_, q1, q2, _, q3⟩ hu).symm
    | tuple q1 q2 q3 q4 => exact (rc_dtuple g1 ⟨_, q1, q2, _, q3⟩ hu).symm
    | dict => exact nomatch hp
mutual
/-- == where one side has no dict within -/
theorem eqH : ∀ (da db : PyData) (A : Around) (s : Shared) (x y : Value) (as bs : List Addr), da.plain = true → Reads s.heap x da as → Reads s.heap y db bs → A.units + min da.depth db.depth < cLine → EqAt A s x y (da.eqv db) ∧ EqAt A s y x (db.eqv da)
  | .none, db, A, s, x, y, as, bs, hp, rx, ry, hu => eqH0 _ _ A s x y as bs hp (fun _ e => nomatch e) (fun _ e => nomatch e) rx ry hu
  | .bool _, db, A, s, x, y, as, bs, hp, rx, ry, hu => eqH0 _ _ A s x y as bs hp (fun _ e => nomatch e) (fun _ e => nomatch e) rx ry hu
  | .int _, db, A, s, x, y, as, bs, hp, rx, ry, hu => eqH0 _ _ A s x y as bs hp (fun _ e => nomatch e) (fun _ e => nomatch e) rx ry hu
  | .str _, db, A, s, x, y, as, bs, hp, rx, ry, hu => eqH0 _ _ A s x y as bs hp (fun _ e => nomatch e) (fun _ e => nomatch e) rx ry hu
  | .dict _, _, _, _, _, _, _, _, hp, _, _, _ => nomatch hp
  | .list us, db, A, s, x, y, as, bs, hp, rx, ry, hu => by
    by_cases hq : db.plain = true
    · exact ⟨eqAt_plain _ _ A s _ _ _ _ rx ry hp hq hu, eqAt_plain _ _ A s _ _ _ _ ry rx hq hp (by rw [Nat.min_comm]; exact hu)⟩
    cases ry with
    | none => exact absurd rfl hq
    | bool => exact absurd rfl hq
    | int => exact absurd rfl hq
    | str => exact absurd rfl hq
    | dict q1 q2 q3 q4 q5 =>
      rw [(eqv_dict _ _).1, (eqv_dict _ _).2]
      exact eqD1 rx (.dict q1 q2 q3 q4 q5) hp (room_here hu)
    | tuple q1 q2 q3 q4 =>
      cases rx with
      | list w1 w2 w3 w4 => exact ⟨EqAt.list_tuple ⟨_, w1, w2, _, w3⟩ ⟨_, q1, q2, _, q3⟩ (room_here hu), EqAt.tuple_list ⟨_, q1, q2, _, q3⟩ ⟨_, w1, w2, _, w3⟩ (room_here hu)⟩
    | @list l2 o2 ws m2 ys bs2 q1 q2 q3 q4 =>
      cases rx with
      | @list l1 o1 vs m1 _ as1 w1 w2 w3 w4 =>
        have i1 : s.heap.IsList l1 vs := ⟨_, w1, w2, _, w3⟩
        have i2 : s.heap.IsList l2 ws := ⟨_, q1, q2, _, q3⟩
        have c1 : vs.size = us.length := by simpa using ReadsAll.length _ _ _ w4
        have c2 : ws.size = ys.length := by simpa using ReadsAll.length _ _ _ q4
        show EqAt A s (.ref l1) (.ref l2) (PyData.eqvAll us ys) ∧ EqAt A s (.ref l2) (.ref l1) (PyData.eqvAll ys us)
        have hne : l1 ≠ l2 := fun e => by
          subst e
          have z : PyData.list us = PyData.list ys := plain_unique _ _ _ _ _ hp (.list w1 w2 w3 w4) (.list q1 q2 q3 q4)
          exact hq (z ▸ hp)
        have hn : A.in1.units + min (PyData.depthAll us) (PyData.depthAll ys) < cLine := room_in hu
        have key := eqHs us ys A.in1 s vs.toList ws.toList _ _ hp w4 q4 hn
        by_cases hz : vs.size = ws.size
        · refine ⟨?_, ?_⟩
          · rw [← eqvAll_same_length (show us.length = ys.length by omega), ← c1]
            refine .of_refs hne (RcAt.lists i1 i2 hz (room_here hu) fun j j1 j2 => ?_)
            have z := (key j (by simpa using j1) (by simpa using j2)).1
            simpa using z
          · rw [← eqvAll_same_length (show ys.length = us.length by omega), ← c2]
            refine .of_refs hne.symm (RcAt.lists i2 i1 hz.symm (room_here hu) fun j j1 j2 => ?_)
            have z := (key j (by simpa using j2) (by simpa using j1)).2
            simpa using z
        · rw [eqvAll_other_length (show us.length ≠ ys.length by omega), eqvAll_other_length (show ys.length ≠ us.length by omega)]
          exact ⟨.of_refs hne (.lists_lengths i1 i2 (by simpa using hz) (room_here hu)), .of_refs hne.symm (.lists_lengths i2 i1 (by simpa using Ne.symm hz) (room_here hu))⟩
  | .tuple us, db, A, s, x, y, as, bs, hp, rx, ry, hu => by
    by_cases hq : db.plain = true
    · exact ⟨eqAt_plain _ _ A s _ _ _ _ rx ry hp hq hu, eqAt_plain _ _ A s _ _ _ _ ry rx hq hp (by rw [Nat.min_comm]; exact hu)⟩
    cases ry with
    | none => exact absurd rfl hq
    | bool => exact absurd rfl hq
    | int => exact absurd rfl hq
    | str => exact absurd rfl hq
    | dict q1 q2 q3 q4 q5 =>
      rw [(eqv_dict _ _).1, (eqv_dict _ _).2]
      exact eqD1 rx (.dict q1 q2 q3 q4 q5) hp (room_here hu)
    | list q1 q2 q3 q4 =>
      cases rx with
      | tuple w1 w2 w3 w4 => exact ⟨EqAt.tuple_list ⟨_, w1, w2, _, w3⟩ ⟨_, q1, q2, _, q3⟩ (room_here hu), EqAt.list_tuple ⟨_, q1, q2, _, q3⟩ ⟨_, w1, w2, _, w3⟩ (room_here hu)⟩
    | @tuple l2 o2 ws m2 ys bs2 q1 q2 q3 q4 =>
      cases rx with
      | @tuple l1 o1 vs m1 _ as1 w1 w2 w3 w4 =>
        have i1 : s.heap.IsTuple l1 vs := ⟨_, w1, w2, _, w3⟩
        have i2 : s.heap.IsTuple l2 ws := ⟨_, q1, q2, _, q3⟩
        have c1 : vs.size = us.length := by simpa using ReadsAll.length _ _ _ w4
        have c2 : ws.size = ys.length := by simpa using ReadsAll.length _ _ _ q4
        show EqAt A s (.ref l1) (.ref l2) (PyData.eqvAll us ys) ∧ EqAt A s (.ref l2) (.ref l1) (PyData.eqvAll ys us)
        have hne : l1 ≠ l2 := fun e => by
          subst e
          have z : PyData.tuple us = PyData.tuple ys := plain_unique _ _ _ _ _ hp (.tuple w1 w2 w3 w4) (.tuple q1 q2 q3 q4)
          exact hq (z ▸ hp)
        have hn : A.in1.units + min (PyData.depthAll us) (PyData.depthAll ys) < cLine := room_in hu
        have key := eqHs us ys A.in1 s vs.toList ws.toList _ _ hp w4 q4 hn
        refine ⟨?_, ?_⟩
        · rw [← eqvAll_eq us ys, ← c1, ← c2]
          refine .of_refs hne (RcAt.tuples i1 i2 (room_here hu) fun j j1 j2 => ?_)
          have z := (key j (by simpa using j1) (by simpa using j2)).1
          simpa using z
        · rw [← eqvAll_eq ys us, ← c1, ← c2]
          refine .of_refs hne.symm (RcAt.tuples i2 i1 (room_here hu) fun j j1 j2 => ?_)
          have z := (key j (by simpa using j2) (by simpa using j1)).2
          simpa using z
theorem eqH0 : ∀ (da db : PyData) (A : Around) (s : Shared) (x y : Value) (as bs : List Addr), da.plain = true → (∀ us, da ≠ .list us) → (∀ us, da ≠ .tuple us) → Reads s.heap x da as → Reads s.heap y db bs → A.units + min da.depth db.depth < cLine → EqAt A s x y (da.eqv db) ∧ EqAt A s y x (db.eqv da) := by
  intro da db A s x y as bs hp n1 n2 rx ry hu
  by_cases hq : db.plain = true
  · exact ⟨eqAt_plain _ _ A s _ _ _ _ rx ry hp hq hu, eqAt_plain _ _ A s _ _ _ _ ry rx hq hp (by rw [Nat.min_comm]; exact hu)⟩
  cases ry with
  | none => exact absurd rfl hq
  | bool => exact absurd rfl hq
  | int => exact absurd rfl hq
  | str => exact absurd rfl hq
  | dict q1 q2 q3 q4 q5 =>
    rw [(eqv_dict _ _).1, (eqv_dict _ _).2]
    exact eqD1 rx (.dict q1 q2 q3 q4 q5) hp (room_here hu)
  | list q1 q2 q3 q4 =>
    have i2 : s.heap.IsList _ _ := ⟨_, q1, q2, _, q3⟩
    cases rx with
    | none => exact ⟨EqAt.none_list i2 (room_here hu), EqAt.list_none i2 (room_here hu)⟩
    | bool b => exact ⟨EqAt.bool_list b i2 (room_here hu), EqAt.list_bool b i2 (room_here hu)⟩
    | int i t => exact ⟨EqAt.int_list i t i2 (room_here hu), EqAt.list_int i t i2 (room_here hu)⟩
    | str z t => exact ⟨EqAt.str_list z t i2 (room_here hu), EqAt.list_str z t i2 (room_here hu)⟩
    | list => exact absurd rfl (n1 _)
    | tuple => exact absurd rfl (n2 _)
    | dict => exact nomatch hp
  | tuple q1 q2 q3 q4 =>
    have i2 : s.heap.IsTuple _ _ := ⟨_, q1, q2, _, q3⟩
    cases rx with
    | none => exact ⟨EqAt.none_tuple i2 (room_here hu), EqAt.tuple_none i2 (room_here hu)⟩
    | bool b => exact ⟨EqAt.bool_tuple b i2 (room_here hu), EqAt.tuple_bool b i2 (room_here hu)⟩
    | int i t => exact ⟨EqAt.int_tuple i t i2 (room_here hu), EqAt.tuple_int i t i2 (room_here hu)⟩
    | str z t => exact ⟨EqAt.str_tuple z t i2 (room_here hu), EqAt.tuple_str z t i2 (room_here hu)⟩
    | list => exact absurd rfl (n1 _)
    | tuple => exact absurd rfl (n2 _)
    | dict => exact nomatch hp
theorem eqHs : ∀ (us ys : List PyData) (A : Around) (s : Shared) (vs ws : List Value) (as bs : List Addr), PyData.plainAll us = true → ReadsAll s.heap vs us as → ReadsAll s.heap ws ys bs → A.units + min (PyData.depthAll us) (PyData.depthAll ys) < cLine →
    ∀ j (j1 : j < vs.length) (j2 : j < ws.length), EqAt A s vs[j] ws[j] (pairEq us ys j) ∧ EqAt A s ws[j] vs[j] (pairEq ys us j)
  | [], _, _, _, _, _, _, _, _, rx, _, _, j, j1, _ => by cases rx; exact absurd j1 (Nat.not_lt_zero _)
  | _ :: _, [], _, _, _, _, _, _, _, _, ry, _, j, _, j2 => by cases ry; exact absurd j2 (Nat.not_lt_zero _)
  | u :: us, y :: ys, A, s, _, _, _, _, hp, rx, ry, hu, j, j1, j2 => by
    have hp2 : u.plain = true ∧ PyData.plainAll us = true := by simpa [PyData.plainAll] using hp
    cases rx with
    | cons a1 a2 =>
      cases ry with
      | cons b1 b2 =>
        cases j with
        | zero => exact eqH u y A s _ _ _ _ hp2.1 a1 b1 (room_head hu)
        | succ j => exact eqHs us ys A s _ _ _ _ hp2.2 a2 b2 (room_tail hu) j (Nat.lt_of_succ_lt_succ j1) (Nat.lt_of_succ_lt_succ j2)
end
end DnQ

namespace Dn
open PySem L2 Evl PyProof.Rows
theorem zip_eq {α β : Type} : ∀ {l m : List (α × β)}, l.map (·.1) = m.map (·.1) → l.map (·.2) = m.map (·.2) → l = m
  | [], [], _, _ => rfl
  | [], _ :: _, h, _ => by cases h
  | _ :: _, [], h, _ => by cases h
  | a :: l, b :: m, h1, h2 => by
    rw [List.map_cons, List.map_cons] at h1 h2
    injection h1 with e1 r1
    injection h2 with e2 r2
    rw [zip_eq r1 r2, Prod.ext e1 e2]
section
variable {h : Heap}
mutual
theorem RdS.uniq : ∀ {v : Value} {d : PyData}, RdS h v d → ∀ {e : PyData}, RdS h v e → d = e
  | _, _, .none, _, .none => rfl
  | _, _, .bl _, _, .bl _ => rfl
  | _, _, .int _ _, _, .int _ _ => rfl
  | _, _, .str _ _, _, .str _ _ => rfl
  | _, _, .lst g1 c1 d1 r1, e, q => by
    cases q with
    | lst g2 c2 d2 r2 => rw [g1] at g2; cases g2; rw [d1] at d2; cases d2; rw [r1.uniq r2]
    | tup g2 c2 d2 r2 => rw [g1] at g2; cases g2; rw [c1] at c2; exact absurd c2 (by simp)
    | dct g2 c2 d2 n r2 r3 => rw [g1] at g2; cases g2; rw [c1] at c2; exact absurd c2 (by simp)
  | _, _, .tup g1 c1 d1 r1, e, q => by
    cases q with
    | lst g2 c2 d2 r2 => rw [g1] at g2; cases g2; rw [c1] at c2; exact absurd c2 (by simp)
    | tup g2 c2 d2 r2 => rw [g1] at g2; cases g2; rw [d1] at d2; cases d2; rw [r1.uniq r2]
    | dct g2 c2 d2 n r2 r3 => rw [g1] at g2; cases g2; rw [c1] at c2; exact absurd c2 (by simp)
  | _, _, .dct g1 c1 d1 _ r1 s1, e, q => by
    cases q with
    | lst g2 c2 d2 r2 => rw [g1] at g2; cases g2; rw [c1] at c2; exact absurd c2 (by simp)
    | tup g2 c2 d2 r2 => rw [g1] at g2; cases g2; rw [c1] at c2; exact absurd c2 (by simp)
    | dct g2 c2 d2 n r2 r3 => rw [g1] at g2; cases g2; rw [d1] at d2; cases d2; rw [zip_eq (r1.uniq r2) (s1.uniq r3)]
theorem RdSs.uniq : ∀ {vs : List Value} {ds : List PyData}, RdSs h vs ds → ∀ {es : List PyData}, RdSs h vs es → ds = es
  | _, _, .nil, _, .nil => rfl
  | _, _, .cons a b, _, .cons c d => by rw [a.uniq c, b.uniq d]
end
theorem RdSs.mem : ∀ {vs : List Value} {ds : List PyData}, RdSs h vs ds → ∀ y, y ∈ vs → ∃ d, d ∈ ds ∧ RdS h y d
  | _, _, .nil, y, m => by cases m
  | _, _, .cons a b, y, m => by
    rcases List.mem_cons.mp m with rfl | m
    · exact ⟨_, List.mem_cons_self .., a⟩
    · obtain ⟨d, h1, h2⟩ := b.mem y m
      exact ⟨d, List.mem_cons_of_mem _ h1, h2⟩
open Classical in
/-- is what y reads as equal to x? -/
noncomputable def eqF (h : Heap) (x : PyData) (y : Value) : Bool := decide (∃ d, RdS h y d ∧ PyData.eqv d x = true)
open Classical in
theorem eqF_of {x d : PyData} {y : Value} (r : RdS h y d) : eqF h x y = PyData.eqv d x := by
  unfold eqF
  cases e : PyData.eqv d x with
  | true => exact decide_eq_true ⟨d, r, e⟩
  | false => exact decide_eq_false fun ⟨d2, r2, e2⟩ => by rw [← r.uniq r2, e] at e2; cases e2
theorem any_eqF {x : PyData} : ∀ {vs : List Value} {ds : List PyData}, RdSs h vs ds → vs.any (eqF h x) = ds.any fun d => PyData.eqv d x
  | _, _, .nil => rfl
  | _, _, .cons a b => by rw [List.any_cons, List.any_cons, eqF_of a, any_eqF b]
end
def rNinH (K : Frag) : R2 := fun x y H Q => ∃ (d : PyData) (ds : List PyData), Dr K H x d ∧ Dr K H y (.list ds) ∧ rdb d = true ∧ rdbAll ds = true ∧ d.depth ≤ 60 ∧ (∀ e, e ∈ ds → (e.plain = true ∨ d.plain = true) ∧ e.depth ≤ 60) ∧ Q (.bl (!ds.any fun e => PyData.eqv e d)) H
theorem op_ninH {X : Cx} (hu : X.A.units + 65 < cLine) : OpR X (compareOp .NotIn) (rNinH X.K) := by
  intro pins s σ H x y v u Q I rx ry h
  obtain ⟨d, ds, hd, he, p1, p2, z1, z2, q⟩ := h
  have r1 := Dr.rds I hd v rx p1
  have r2 := Dr.rds I he u ry (by show rdbAll ds = true; exact p2)
  obtain ⟨as, q1⟩ := r1.reads
  cases r2 with
  | @lst a o us n xs g1 g2 g3 g4 =>
    refine SeqAt.notIn_listAt (eqF s.heap d) ⟨_, g1, g2, _, g3⟩ (fun y hy => ?_) ?_
    · obtain ⟨e, he2, re⟩ := g4.mem y (by simpa using hy)
      obtain ⟨bs, q2⟩ := re.reads
      obtain ⟨pp, dd⟩ := z2 e he2
      rw [eqF_of re]
      have hu1 : (X.A.in1).units + 64 < cLine := by show X.A.units + 1 + 64 < cLine; omega
      rcases pp with pp | pp
      · exact (DnQ.eqH e d X.A.in1 s y v _ _ pp q2 q1 (by omega)).1
      · exact (DnQ.eqH d e X.A.in1 s v y _ _ pp q1 q2 (by omega)).2
    · rw [← Array.any_toList, any_eqF g4]
      exact ⟨.bl _, H, I, rfl, q⟩
section
variable {K : Frag} {fd : Ad} {env : List Sl} {te ta tb tc : TE} {C : PyData → Prop} {CL : List PyData → Prop} {P : Po}
theorem opd_ninH {a : PyData} {ds : List PyData} (p1 : rdb a = true) (p2 : rdbAll ds = true) (z1 : a.depth ≤ 60) (z2 : ∀ e, e ∈ ds → (e.plain = true ∨ a.plain = true) ∧ e.depth ≤ 60) (c : C (.bool (!ds.any fun z => PyData.eqv z a))) : OpD K (rNinH K) a (.list ds) C := fun F H x y th rx ry Q k =>
  ⟨a, ds, dmono off_full rx, dmono off_full ry, p1, p2, z1, z2, k _ H _ (Ex.refl H) (.bl _) c⟩
/-- ch not in a text -/
theorem opd_ninSign {ch : Nat} {z : Str} (c : C (.bool (!decide (ch ∈ z.cps.toList)))) : OpD K (fun x y H Q => ∃ c z, x = V.str { cps := #[c] } ∧ y = V.str z ∧ Q (V.bl !decide (c ∈ z.cps.toList)) H) (.str ⟨#[ch]⟩) (.str z) C := fun F H x y th rx ry Q k => by
  cases rx; cases ry
  exact ⟨ch, z, rfl, rfl, k _ H _ (Ex.refl H) (.bl _) c⟩
/-- z[a:b], z a text -/
theorem wp_slS {tl th : TO} (h : wpE K fd te env fun d => wpO K fd tl env fun lo => wpO K fd th env fun hi => ∃ z, d = .str z ∧ z.length ≤ 100000 ∧ C (.str (cutS z lo hi))) : wpE K fd (tSl rSlS te tl th) env C := fun F σ H I Q k =>
  h F σ H I _ fun v H1 d u1 r c1 => c1 F σ H1 (I.up u1) _ fun lo H2 u2 c2 => c2 F σ H2 ((I.up u1).up u2) _ fun hi H3 u3 c3 => by
    obtain ⟨z, rfl, hz, c⟩ := c3
    cases r
    exact ⟨z, rfl, sz_of hz, k _ _ _ ((u1.trans u2).trans u3) (.str _) c⟩
theorem all_txts {G : Hp} : ∀ {ys : List Str} {vs : List V}, DrAll K G vs (ys.map PyData.str) → vs = ys.map V.str
  | [], _, h => by cases h; rfl
  | y :: ys, _, h => by
    cases h with
    | cons a b => cases a; rw [all_txts b]; rfl
/-- sep.join(texts) -/
theorem wp_join {to : TE} (h : wpE K fd to env fun d => ∃ a, d = .str a ∧ wpE K fd te env fun e => ∃ ys : List Str, e = .list (ys.map PyData.str) ∧ (ys.map (·.length)).sum + ys.length * a.length ≤ 100000 ∧ C (.str (Txt.join a ys))) :
    wpE K fd (tM1 (fun x xs H Q => ∃ a p, ∃ ys : List Str, x = .str a ∧ xs = [.ref p] ∧ (SqL K H p (ys.map V.str) ∨ SqT K H p (ys.map V.str)) ∧ (ys.map (·.length)).sum + ys.length * a.length ≤ 16777216 ∧ Q (.str (Txt.join a ys)) H) to te) env C := fun F σ H I Q k =>
  h F σ H I _ fun v H1 d u1 r c1 => by
    obtain ⟨a, rfl, c1⟩ := c1
    cases r
    refine ⟨⟨a, rfl⟩, c1 F σ H1 (I.up u1) _ fun y H2 e u2 re c2 => ?_⟩
    obtain ⟨ys, rfl, hz, c⟩ := c2
    cases re with
    | @lst p us _ sa ra =>
      have e := all_txts ra
      subst e
      exact ⟨a, p, ys, rfl, rfl, .inl (sq_of (off_full _ _ sa)), by omega, k _ _ _ (u1.trans u2) (.str _) c⟩
end
end Dn

namespace Dn
open PySem L2 Evl PyProof.Rows
/-- xs == [], whatever is in xs -/
def rEqNil (K : Frag) : R2 := fun x y H Q => ∃ (ds : List PyData), Dr K H x (.list ds) ∧ Dr K H y (.list []) ∧ rdbAll ds = true ∧ Q (.bl ds.isEmpty) H
theorem RdSs.len {h : Heap} : ∀ {vs : List Value} {ds : List PyData}, RdSs h vs ds → vs.length = ds.length
  | _, _, .nil => rfl
  | _, _, .cons a b => by rw [List.length_cons, List.length_cons, b.len]
theorem op_eqNil {X : Cx} (hu : X.A.units + 65 < cLine) : OpR X (compareOp .Eq) (rEqNil X.K) := by
  intro pins s σ H x y v u Q I rx ry h
  obtain ⟨ds, hd, he, p1, q⟩ := h
  have r1 := Dr.rds I hd v rx (by show rdbAll ds = true; exact p1)
  have r2 := Dr.rds I he u ry rfl
  cases r1 with
  | @lst a o us n xs g1 g2 g3 g4 =>
    cases r2 with
    | @lst b o2 us2 n2 xs2 k1 k2 k3 k4 =>
      have i1 : s.heap.IsList a us := ⟨_, g1, g2, _, g3⟩
      have i2 : s.heap.IsList b us2 := ⟨_, k1, k2, _, k3⟩
      have c1 : us.size = ds.length := by simpa using g4.len
      have c2 : us2.size = 0 := by simpa using k4.len
      have rc : SeqAt.RcAt X.A s (.ref a) (.ref b) ds.isEmpty := by
        cases ds with
        | nil =>
          have z := SeqAt.RcAt.lists (e := fun _ => true) i1 i2 (by rw [c1, c2]; rfl) (show X.A.units < cLine by omega) fun j j1 j2 => absurd j2 (by omega)
          rw [c1] at z
          exact z
        | cons d r => exact SeqAt.RcAt.lists_lengths i1 i2 (by rw [c1, c2]; rfl) (by omega)
      exact rc X.prog X.w _ _ ⟨.bl _, H, I, rfl, q⟩
section
variable {K : Frag} {C : PyData → Prop}
theorem opd_eqNil {ds : List PyData} (p : rdbAll ds = true) (c : C (.bool ds.isEmpty)) : OpD K (rEqNil K) (.list ds) (.list []) C := fun F H x y th rx ry Q k =>
  ⟨ds, dmono off_full rx, dmono off_full ry, p, k _ H _ (Ex.refl H) (.bl _) c⟩
end
end Dn

namespace Dn
open PySem L2 Evl PyProof.Rows
section
variable {K : Frag} {fd : Ad} {env : List Sl} {C : PyData → Prop}
theorem upd_two {H : Hp} {p : Addr} {a b : HO} : upd (upd H p a) p b = upd H p b := by
  funext q
  by_cases h : q = p
  · subst h; rw [upd_same, upd_same]
  · rw [upd_ne h, upd_ne h, upd_ne h]
/-- {"k": x} -/
theorem wp_disp1 {k : Str} {i : Nat} {d : PyData} (e : env[i]? = some (.dat d)) (c : C (.dict [(.str k, d)])) : wpE K fd (tDisp [(tC (.str k), tVar i)]) env C := fun F σ H I Q q => by
  obtain ⟨o, e1, s1⟩ := I.get e
  cases o with
  | none => exact s1.elim
  | some v =>
    have s1 : Dr K (off F H) v d := s1
    refine fun p hp => ?_
    have e2 : upd (upd H p (.dK [])) p (.dK (mergeK [] [(Sum.inr k, v)])) = upd H p (.dK [(Sum.inr k, v)]) := by rw [upd_two]; rfl
    refine ⟨v, e1, upd_same, [(Sum.inr k, v)], rfl, (by show 1 ≤ 15; decide), ?_⟩
    rw [e2]
    refine q _ _ _ (.ex I.feed (Ex.new hp)) (.dct (fs := [(k, v)]) (by rw [off_ne fun z => I.there p z hp]; exact upd_same) (.cons ?_ .nil)) c
    exact dmono (off_exE (Ex.new hp)) s1
end
end Dn

namespace Dn
open PySem L2 Evl PyProof.Rows
section
variable {K : Frag} {fd : Ad} {env : List Sl} {te ti : TE} {P : Po}
theorem all_set {G : Hp} {v : V} {d : PyData} (r : Dr K G v d) : ∀ {vs : List V} {ds : List PyData} (j : Nat), DrAll K G vs ds → DrAll K G (vs.set j v) (ds.set j d)
  | _, _, 0, .nil => .nil
  | _, _, j + 1, .nil => .nil
  | _, _, 0, .cons a b => .cons r b
  | _, _, j + 1, .cons a b => .cons a (all_set r j b)
/-- xs[k] = e, xs an own list -/
theorem wpS_setOwn {i : Nat} {p : Addr} {ds : List PyData} (e : env[i]? = some (.own p ds)) (h : wpE K fd te env fun d => wpE K fd ti env fun k => ∃ j : Nat, k = .int (j : Nat) ∧ j < ds.length ∧ P.nx (env.set i (.own p (ds.set j d)))) : wpS K fd (tAsg te (gSub (tVar i) ti rSetL)) env P := fun F0 H0 σ H I D k =>
  h _ σ H I.ev _ fun v H1 d u1 r1 c1 => by
    have I1 := I.upE u1
    obtain ⟨e1, us, h4, h5⟩ := I1.slotOwn e
    refine ⟨.ref p, e1, c1 _ σ H1 I1.ev _ fun y H2 b u2 r2 c2 => ?_⟩
    obtain ⟨j, rfl, hj, c⟩ := c2
    cases r2
    have I2 := I1.upE u2
    obtain ⟨e2, ws, g4, g5⟩ := I2.slotOwn e
    refine ⟨p, ws, _, j, rfl, rfl, g4, ?_, ?_⟩
    · unfold ixN
      rw [if_pos (by omega), if_pos (by rw [all_len g5]; omega), Int.toNat_natCast]
    · exact k.nx _ _ _ c (I2.mut (vs := ws) e (all_set (dmono (I1.ev.see u2) r1) j g5))
end
section
variable {K : Frag}
theorem opn_repL2 {xs : List PyData} {n : Int} {CL : List PyData → Prop} (h1 : 0 ≤ n) (h2 : n ≤ 90) (h3 : xs.length ≤ 1000) (c : CL (List.replicate n.toNat xs).flatten) : OpN K rRep (.list xs) (.int n) CL := fun F H x y th rx ry Q k => by
  cases ry
  cases rx with
  | @lst a us _ sa ra =>
    refine ⟨a, n, us, rfl, rfl, off_full _ _ sa, by omega, by omega, ?_, fun p hp => k p _ _ _ hp (Ex.new hp) upd_same (new_all hp (rep_all ra _)) c⟩
    have e := all_len ra
    have : us.length * n.toNat ≤ 1000 * 90 := Nat.mul_le_mul (by omega) (by omega)
    exact sz_of (by omega)
end
end Dn

namespace Dn
open PySem L2 Evl PyProof.Rows
section
variable {K : Frag} {fd : Ad} {env : List Sl} {te ta tb tc tk : TE} {C : PyData → Prop} {CL : List PyData → Prop} {P : Po}
/-- xs.extend(zs), xs an own list, zs another -/
theorem wpS_extendL {i : Nat} {p : Addr} {ds : List PyData} (e : env[i]? = some (.own p ds)) (h : wpE K fd te env fun d => ∃ es, d = .list es ∧ ds.length + es.length ≤ 100000 ∧ P.nx (env.set i (.own p (ds ++ es)))) :
    wpS K fd (tDrop (tBM K "list" rExtend (tVar i) (tCons te tNil))) env P := fun F0 H0 σ H I D k => by
  obtain ⟨e1, us, h4, h5⟩ := I.slotOwn e
  refine ⟨_, e1, .inl ⟨rfl, _, SqL.of h4⟩, h _ σ H I.ev _ fun v H2 d u r c => ?_⟩
  obtain ⟨es, rfl, hz, c⟩ := c
  have I2 := I.upE u
  obtain ⟨e1', us', h4', h5'⟩ := I2.slotOwn e
  cases r with
  | @lst a ws _ sa ra =>
    refine ⟨p, a, us', ws, rfl, rfl, h4', off_full _ _ sa, sz_of (by rw [all_len h5', all_len ra]; exact hz), ?_⟩
    exact k.nx _ _ _ c (I2.mut (vs := us') e (all_app h5' ra))
/-- xs.count(k), xs a list of whole numbers -/
theorem wp_lcount (h : wpE K fd te env fun d => ∃ ns : List Int, d = .list (ns.map PyData.int) ∧ wpE K fd tk env fun e => ∃ k : Int, e = .int k ∧ C (.int (ns.count k : Nat))) : wpE K fd (tBM K "list" (rCntI K) te (tCons tk tNil)) env C := fun F σ H I Q k =>
  h F σ H I _ fun v H1 d u1 r c1 => by
    obtain ⟨ns, rfl, c1⟩ := c1
    cases id r with
    | @lst a us _ sa ra =>
      refine ⟨.inl ⟨rfl, us, sq_of (off_full _ _ sa)⟩, c1 F σ H1 (I.up u1) _ fun y H2 e u2 re c2 => ?_⟩
      obtain ⟨j, rfl, c⟩ := c2
      cases re
      have r2 := dmono ((I.up u1).see u2) r
      cases r2 with
      | @lst _ us2 _ sa2 ra2 =>
        have e := all_ints ra2
        subst e
        exact ⟨a, ns, j, rfl, rfl, sq_of (off_full _ _ sa2), k _ H2 _ (u1.trans u2) (.int _) c⟩
theorem cad_any {bs : List Bool} (c : C (.bool (bs.any id))) : CaD K (rAny K) [.list (bs.map .bool)] C := fun F H vs th r Q k => by
  cases r with
  | cons a b =>
    cases b
    cases a with
    | @lst a us _ sa ra =>
      have e := all_bools ra
      subst e
      exact ⟨a, bs, rfl, sq_of (off_full _ _ sa), k _ H _ (Ex.refl H) (.bl _) c⟩
theorem wpN_if {tt : TT} (h : wpT K fd tt env fun b => (b = true → wpN K fd ta env CL) ∧ (b = false → wpN K fd tb env CL)) : wpN K fd (tIf tt ta tb) env CL := fun F σ H I Q k =>
  h F σ H I _ fun b H1 u1 c => by
    have up : ∀ p, H1 p = none → H p = none := fun p hp => none_back I.there I.fdF u1 hp
    cases b with
    | true => rw [if_pos rfl]; exact c.1 rfl F σ H1 (I.up u1) Q fun p vs H2 ds hp u e r cc => k p vs H2 ds (up p hp) (u1.trans u) e r cc
    | false => rw [if_neg (by decide)]; exact c.2 rfl F σ H1 (I.up u1) Q fun p vs H2 ds hp u e r cc => k p vs H2 ds (up p hp) (u1.trans u) e r cc
end
end Dn

/-! # comprehensions as maps -/
namespace Dn
open PySem L2 Evl PyProof.Rows
theorem take_map_succ {α β : Type} {xs : List α} {i : Nat} {x : α} (h : xs[i]? = some x) (g : α → β) : (xs.take (i + 1)).map g = (xs.take i).map g ++ [g x] := by
  rw [List.take_add_one, h, List.map_append]; rfl
theorem map_get {α β : Type} {xs : List α} {f : α → β} {i : Nat} {d : β} (h : (xs.map f)[i]? = some d) : ∃ x, xs[i]? = some x ∧ d = f x := by
  rw [List.getElem?_map] at h
  cases q : xs[i]? with
  | none => rw [q] at h; cases h
  | some x => rw [q] at h; exact ⟨x, rfl, (Option.some.inj h).symm⟩
section
variable {K : Frag} {fd : Ad} {env : List Sl} {te ta tb tc tk : TE} {C : PyData → Prop} {CL : List PyData → Prop} {P : Po}
/-- [g(x) for x in xs] -/
theorem wpN_map {α : Type} {wi : TI} {gt : TG} {vs : List Nat} (h : wpI K fd wi env fun ds => ∃ (xs : List α) (f g : α → PyData), ds = xs.map f ∧ xs.length ≤ 100000 ∧
    (∀ x, x ∈ xs → ∃ as, gD K gt (f x) as ∧ (∀ a, a ∈ as → a.1 ∈ vs) ∧ wpE K fd te (asgE (wipeE env vs) as) fun e => e = g x) ∧ CL (xs.map g)) : wpN K fd (tLc wi gt tYes te vs) env CL :=
  wpN_lc fun F σ H I R k => h F σ H I R fun J H2 ds u it c => k J H2 ds u it (by
    obtain ⟨xs, f, g, rfl, hl, hx, hc⟩ := c
    refine ⟨fun i acc => acc = (xs.take i).map g, rfl, ?_, ?_⟩
    · rintro i d acc e rfl
      obtain ⟨x, e2, rfl⟩ := map_get e
      obtain ⟨as, a1, a2, a3⟩ := hx x (List.mem_of_getElem? e2)
      refine ⟨as, a1, a2, wpT_yes ⟨fun _ => wpE_imp a3 fun d q => ?_, fun z => nomatch z⟩⟩
      subst q
      have hi : i < xs.length := (List.getElem?_eq_some_iff.mp e2).1
      refine ⟨?_, (take_map_succ e2 g).symm⟩
      rw [List.length_map, List.length_take]; omega
    · rintro acc rfl
      rw [List.length_map, List.take_length]
      exact hc)
/-- [g(x) for x in xs if p(x)] -/
theorem wpN_filt {α : Type} {wi : TI} {gt : TG} {tt : TT} {vs : List Nat} (h : wpI K fd wi env fun ds => ∃ (xs : List α) (p : α → Bool) (f g : α → PyData), ds = xs.map f ∧ xs.length ≤ 100000 ∧
    (∀ x, x ∈ xs → ∃ as, gD K gt (f x) as ∧ (∀ a, a ∈ as → a.1 ∈ vs) ∧ wpT K fd tt (asgE (wipeE env vs) as) fun b => b = p x ∧ (b = true → wpE K fd te (asgE (wipeE env vs) as) fun e => e = g x)) ∧ CL ((xs.filter p).map g)) : wpN K fd (tLc wi gt tt te vs) env CL :=
  wpN_lc fun F σ H I R k => h F σ H I R fun J H2 ds u it c => k J H2 ds u it (by
    obtain ⟨xs, p, f, g, rfl, hl, hx, hc⟩ := c
    refine ⟨fun i acc => acc = ((xs.take i).filter p).map g, rfl, ?_, ?_⟩
    · rintro i d acc e rfl
      obtain ⟨x, e2, rfl⟩ := map_get e
      obtain ⟨as, a1, a2, a3⟩ := hx x (List.mem_of_getElem? e2)
      have hi : i < xs.length := (List.getElem?_eq_some_iff.mp e2).1
      refine ⟨as, a1, a2, wpT_imp a3 fun b q => ⟨fun hb => wpE_imp (q.2 hb) fun d q2 => ?_, fun hb => ?_⟩⟩
      · subst q2
        refine ⟨?_, ?_⟩
        · have := List.length_filter_le p (xs.take i)
          rw [List.length_map]
          rw [List.length_take] at this; omega
        · show _ ++ [g x] = ((xs.take (i + 1)).filter p).map g
          rw [List.take_add_one, e2, List.filter_append, List.map_append]
          have z : p x = true := q.1.symm.trans hb
          show _ = _ ++ ([x].filter p).map g
          rw [List.filter_cons_of_pos z]; rfl
      · show _ = ((xs.take (i + 1)).filter p).map g
        rw [List.take_add_one, e2, List.filter_append, List.map_append]
        have z : p x = false := q.1.symm.trans hb
        show _ = _ ++ ([x].filter p).map g
        rw [List.filter_cons_of_neg (by rw [z]; decide)]
        exact (List.append_nil _).symm
    · rintro acc rfl
      rw [List.length_map, List.take_length]
      exact hc)
/-- [g(x, y) for x in xs for y in ys(x)] -/
theorem wpN_flat {α β : Type} {wi wi1 : TI} {gt g1 : TG} {vs vs1 : List Nat} (h : wpI K fd wi env fun ds => ∃ (xs : List α) (f : α → PyData) (ys : α → List β) (f1 : α → β → PyData) (g : α → β → PyData), ds = xs.map f ∧ (xs.map fun x => (ys x).map (g x)).flatten.length ≤ 100000 ∧
    (∀ x, x ∈ xs → ∃ as, gD K gt (f x) as ∧ (∀ a, a ∈ as → a.1 ∈ vs) ∧ wpI K fd wi1 (asgE (wipeE env vs) as) fun es => es = (ys x).map (f1 x) ∧
      ∀ y, y ∈ ys x → ∃ bs, gD K g1 (f1 x y) bs ∧ (∀ a, a ∈ bs → a.1 ∈ vs1) ∧ wpE K fd te (asgE (wipeE (asgE (wipeE env vs) as) vs1) bs) fun e => e = g x y) ∧ CL (xs.map fun x => (ys x).map (g x)).flatten) :
    wpN K fd (tLc2 wi gt tYes wi1 g1 tYes te vs vs1) env CL :=
  wpN_lc2 fun F σ H I R k => h F σ H I R fun J H2 ds u it c => k J H2 ds u it (by
    obtain ⟨xs, f, ys, f1, g, rfl, hl, hx, hc⟩ := c
    refine ⟨fun i acc => acc = ((xs.take i).map fun x => (ys x).map (g x)).flatten, rfl, ?_, ?_⟩
    · rintro i d acc e rfl
      obtain ⟨x, e2, rfl⟩ := map_get e
      obtain ⟨as, a1, a2, a3⟩ := hx x (List.mem_of_getElem? e2)
      have hi : i < xs.length := (List.getElem?_eq_some_iff.mp e2).1
      have hsum : ((xs.take i).map fun x => (ys x).map (g x)).flatten.length + (ys x).length ≤ (xs.map fun x => (ys x).map (g x)).flatten.length := by
        have e3 : xs = xs.take i ++ (x :: xs.drop (i + 1)) := by
          rw [List.getElem?_eq_getElem hi] at e2
          have e2 := Option.some.inj e2
          rw [← e2, ← List.drop_eq_getElem_cons hi, List.take_append_drop]
        have e4 : (xs.map fun x => (ys x).map (g x)).flatten.length = ((xs.take i ++ (x :: xs.drop (i + 1))).map fun x => (ys x).map (g x)).flatten.length := by rw [← e3]
        rw [e4, List.map_append, List.flatten_append, List.length_append, List.map_cons, List.flatten_cons, List.length_append, List.length_map]
        omega
      refine ⟨as, a1, a2, wpT_yes ⟨fun _ => ?_, fun z => nomatch z⟩⟩
      refine fun F' σ' H' I' R' k' => a3 F' σ' H' I' R' fun J' H2' es u' it' c' => k' J' H2' es u' it' ?_
      obtain ⟨rfl, hy⟩ := c'
      refine ⟨fun j acc => acc = ((xs.take i).map fun x => (ys x).map (g x)).flatten ++ ((ys x).take j).map (g x), ?_, ?_, ?_⟩
      · exact (List.append_nil _).symm
      · rintro j d acc e rfl
        obtain ⟨y, e3, rfl⟩ := map_get e
        obtain ⟨bs, b1, b2, b3⟩ := hy y (List.mem_of_getElem? e3)
        have hj : j < (ys x).length := (List.getElem?_eq_some_iff.mp e3).1
        refine ⟨bs, b1, b2, wpT_yes ⟨fun _ => wpE_imp b3 fun d q => ?_, fun z => nomatch z⟩⟩
        subst q
        refine ⟨?_, ?_⟩
        · rw [List.length_append, List.length_map, List.length_take]; omega
        · show _ ++ [g x y] = _ ++ ((ys x).take (j + 1)).map (g x)
          rw [take_map_succ e3 (g x), List.append_assoc]
      · rintro acc rfl
        show _ = ((xs.take (i + 1)).map fun x => (ys x).map (g x)).flatten
        rw [List.length_map, List.take_length, take_map_succ e2 (fun x => (ys x).map (g x)), List.flatten_append]
        show _ = _ ++ ([(ys x).map (g x)]).flatten
        rw [List.flatten_cons]
        show _ = _ ++ (_ ++ [])
        rw [List.append_nil]
    · rintro acc rfl
      rw [List.length_map, List.take_length]
      exact hc)
end
end Dn

/-! # what is read while own lists are plain data, and holds none of them -/
namespace Dn
open PySem L2 Evl PyProof.Rows
mutual
def tpl : PyData → Bool
  | .tuple ds => tplAll ds
  | .list _ => false
  | .dict _ => false
  | _ => true
def tplAll : List PyData → Bool
  | [] => true
  | d :: ds => tpl d && tplAll ds
end
theorem tplAll_of : ∀ {l : List PyData}, (∀ d, d ∈ l → tpl d = true) → tplAll l = true
  | [], _ => by rw [tplAll]
  | d :: l, h => by rw [tplAll, h d (List.mem_cons_self ..), tplAll_of fun d m => h d (List.mem_cons_of_mem _ m)]; rfl
theorem rd_hide {F F' : Ad} {H : Hp} {a : Addr} {xs : List V} (hl : F' a → ¬ F a → ∃ ys, H a = some (.lst ys)) (h : Rd (off F H) a (.tup xs)) : Rd (off F' H) a (.tup xs) := by
  have key : ∀ o, off F H a = some o → (∀ ys, o ≠ .lst ys) → off F' H a = some o := fun o e n => by
    obtain ⟨n1, e1⟩ := off_some e
    by_cases q : F' a
    · obtain ⟨ys, e2⟩ := hl q n1
      rw [e1] at e2
      exact absurd (Option.some.inj e2) (n ys)
    · rw [off_ne q]; exact e1
  rcases h with h | ⟨o, h⟩
  · exact .inl (key _ h fun ys z => nomatch z)
  · exact .inr ⟨o, key _ h fun ys z => nomatch z⟩
section
variable {K : Frag} {F F' : Ad} {H : Hp} (hl : ∀ a, F' a → ¬ F a → ∃ ys, H a = some (.lst ys))
include hl
mutual
theorem dr_hide : ∀ (d : PyData) {v : V}, tpl d = true → Dr K (off F H) v d → Dr K (off F' H) v d
  | .none, _, _, h => by cases h; exact .non
  | .bool _, _, _, h => by cases h; exact .bl _
  | .int _, _, _, h => by cases h; exact .int _
  | .str _, _, _, h => by cases h; exact .str _
  | .list _, _, p, _ => by rw [tpl] at p; cases p
  | .dict _, _, p, _ => by rw [tpl] at p; cases p
  | .tuple ds, _, p, h => by
    rw [tpl] at p
    cases h with
    | @tup a us _ sa ra =>
      refine .tup (ds := ds) (xs := us) ?_ (dr_hideAll ds p ra)
      rcases sa with sa | sa
      · exact .inl (rd_hide (hl a) sa)
      · exact .inr sa
theorem dr_hideAll : ∀ (ds : List PyData) {vs : List V}, tplAll ds = true → DrAll K (off F H) vs ds → DrAll K (off F' H) vs ds
  | [], _, _, h => by cases h; exact .nil
  | d :: ds, _, p, h => by
    rw [tplAll, Bool.and_eq_true] at p
    cases h with
    | cons a b => exact .cons (dr_hide d p.1 a) (dr_hideAll ds p.2 b)
end
end
section
variable {K : Frag} {fd : Ad} {env : List Sl} {te ta tb tc tk : TE} {C : PyData → Prop} {CL : List PyData → Prop} {P : Po}
theorem own_lst {F : Ad} {σ : L2.St} {H H2 : Hp} (I : EnvOk K fd F σ H env) (u : Up fd H H2) {a : Addr} (m : a ∈ ownd env) : ∃ ys, H2 a = some (.lst ys) := by
  obtain ⟨i, ds, e⟩ := ownd_get m
  obtain ⟨o, _, h⟩ := I.get e
  cases o with
  | none => exact h.elim
  | some v =>
    obtain ⟨_, _, nf, vs, hv, _⟩ := h
    exact ⟨vs, u.keep _ _ nf hv⟩
theorem wpN_unown (h : wpN K fd te (unown env) fun ds => tplAll ds = true ∧ CL ds) : wpN K fd te env CL := fun F σ H I Q k =>
  h _ σ H I.un1 Q fun p vs H2 ds hp u e r c => k p vs H2 ds hp u e (dr_hideAll (fun a z1 z2 => own_lst I u (by
    rcases z1 with z1 | z1
    · exact Classical.byContradiction fun z => z2 (.inl ⟨z1, z⟩)
    · exact (z2 (.inr z1)).elim)) ds c.1 r) c.2
theorem wpE_unownT (h : wpE K fd te (unown env) fun d => tpl d = true ∧ C d) : wpE K fd te env C := fun F σ H I Q k =>
  h _ σ H I.un1 Q fun v H2 d u r c => k v H2 d u (dr_hide (fun a z1 z2 => own_lst I u (Classical.byContradiction fun z => z2 ⟨z1, z⟩)) d c.1 r) c.2
end
end Dn

/-! # own classes' ==, !=, in, + -/
namespace Dn
open PySem L2 Evl PyProof.Rows
/-- a value's type, seen in the heap -/
theorem looks_ty {X : Cx} {M : Model} {pins : List (Addr × Obj)} {σ : L2.St} {H : Hp} {s : Shared} {x : V} {u t : Value} (I : Inv X pins σ H s) (rx : RelV x u) (ty : TyX X.K H x t) : PySem.W.Looks M s.heap (typeOf u) t := by
  have at_ : ∀ {a : Addr} {o : Obj}, s.heap.get? a = some o → PySem.W.Looks M s.heap (typeOf (.ref a)) o.cls := fun e => (PySem.W.Looks.ld e).andThen .now
  cases ty with
  | base b =>
    cases b with
    | non => cases (show u = Value.none from rx); exact PySem.W.Looks.of_pure rfl
    | bl y => cases (show u = Value.bool y from rx); exact PySem.W.Looks.of_pure rfl
    | int i => obtain ⟨t, q⟩ := (show ∃ t, u = Value.int i t from rx); cases q; exact PySem.W.Looks.of_pure rfl
    | str y => obtain ⟨t, q⟩ := (show ∃ t, u = Value.str y t from rx); cases q; exact PySem.W.Looks.of_pure rfl
    | flt y => obtain ⟨t, q⟩ := (show ∃ t, u = Value.float y t from rx); cases q; exact PySem.W.Looks.of_pure rfl
    | @lst a xs ea =>
      obtain rfl : u = Value.ref a := rx
      obtain ⟨_, _, n, _, h1⟩ := (show ObjOk _ _ _ s.heap a (.lst xs) from I.hok _ _ ea)
      exact at_ h1
    | @frz a ob xs ea =>
      obtain rfl : u = Value.ref a := rx
      obtain ⟨_, _, _, n, _, h1⟩ := (show ObjOk _ _ _ s.heap a (.frz ob (.lst xs)) from I.hok _ _ ea)
      exact at_ h1
    | @tup a xs ea =>
      obtain rfl : u = Value.ref a := rx
      obtain ⟨_, _, _, o, h1, h2, _⟩ := (show ObjOk _ _ _ s.heap a (.tup xs) from I.hok _ _ ea)
      have z := at_ h1
      rw [h2] at z; exact z
    | @dK a kvs ea =>
      obtain rfl : u = Value.ref a := rx
      obtain ⟨_, _, vs, _, o, es, ep, h1, h2, _⟩ := (show ObjOk _ _ _ s.heap a (.dK kvs) from I.hok _ _ ea)
      have z := at_ h1
      rw [h2.1] at z; exact z
    | @dT a kvs ea =>
      obtain rfl : u = Value.ref a := rx
      obtain ⟨_, _, xs, _, o, es, ep, h1, h2, _⟩ := (show ObjOk _ _ _ s.heap a (.dT kvs) from I.hok _ _ ea)
      have z := at_ h1
      rw [h2.1] at z; exact z
    | @ins a C dx fs ea cl ha hn htk hm =>
      obtain rfl : u = Value.ref a := rx
      obtain ⟨mA, O, _⟩ := ins_get I.hok ea
      obtain ⟨od, J, _⟩ := O.look
      exact J.type
  | byt y => obtain ⟨t, q⟩ := (show ∃ t, u = Value.bytes y t from rx); cases q; exact PySem.W.Looks.of_pure rfl
  | @set a S n ea =>
    obtain rfl : u = Value.ref a := rx
    obtain ⟨_, _, _, _, e, ex, _⟩ := I.hok _ _ ea
    have z := at_ e
    rw [ex.1] at z; exact z
  | @kList a o e c =>
    obtain rfl : u = Value.ref a := rx
    have z := at_ (I.kIn a o e)
    rw [c] at z; exact z
  | @kTuple a o e c =>
    obtain rfl : u = Value.ref a := rx
    have z := at_ (I.kIn a o e)
    rw [c] at z; exact z
  | @kDict a o e c =>
    obtain rfl : u = Value.ref a := rx
    have z := at_ (I.kIn a o e)
    rw [c] at z; exact z
  | @fTuple a ob xs ea =>
    obtain rfl : u = Value.ref a := rx
    obtain ⟨_, _, _, _, o, h1, h2, _⟩ := (show ObjOk _ _ _ s.heap a (.frz ob (.tup xs)) from I.hok _ _ ea)
    have z := at_ h1
    rw [h2] at z; exact z
  | @fDict a ob kvs ea =>
    obtain rfl : u = Value.ref a := rx
    obtain ⟨_, _, _, vs, _, o, es, ep, h1, h2, _⟩ := (show ObjOk _ _ _ s.heap a (.frz ob (.dK kvs)) from I.hok _ _ ea)
    have z := at_ h1
    rw [h2.1] at z; exact z
/-- what a class says of its own operators -/
structure Ops (K : Frag) (A : Addr) : Prop where
  self : PySem.W.selfFirst K A = true
  ne : PySem.W.findIn K (.ref A) "__ne__" = some (some (.builtin "object.__ne__"))
  sub : PySem.W.subIn K (.ref A) (.type "object") = some true
  cls : PySem.W.findIn K (.ref A) "__class__" = some (some (.builtin "object.__class__"))
  spec : PySem.W.specialIn K (.builtin "object.__class__") "__get__" = some (some (.builtin "getset_descriptor.__get__"))
  takes : PySem.W.takesIn K (.builtin "object.__class__") = some true
  mro : PySem.W.mroIn K A (.type "object") = some true
  ci : (PySem.W.clsIn K A).isSome = true
  tyC : PySem.W.typeIn K (.ref A) = some (.type "type")
section
variable {X : Cx} {A f : Addr} {k : Nat} {fdt : FuncData} {ps : List Str} {sp : Sp}
/-- the call of an own method with two arguments -/
theorem call_two {A0 : Around} {pins : List (Addr × Obj)} {σ : L2.St} {H : Hp} {s : Shared} {x y : V} {u v : Value} {Q : V → Hp → Prop} {E : XK} {CX : CXT} (F1 : FnOk X.prog X.w X.K X.mg X.base CX k f fdt ps sp) (hb : L2.Binds X.K fdt ps []) (hr : Room k A0) (hfr : A0.frames = some X.stack) (I : Inv X pins σ H s) (rx : RelV x u) (ry : RelV y v) (hsp : sp [x, y] H Q E)
    (hx : ∀ e s', CX X.stack H s E e s' → X.xe e s') {Q' : Value → Shared → Prop} (hq : ∀ r w s' H', Inv X pins σ H' s' → RelV r w → Q r H' → Q' w s') : wpAny (model X.prog X.w) A0 (call (.ref f) [u, v]) Q' X.xe s := by
  have hl := F1.len _ _ _ _ hsp
  have b2 := hb s [u, v] I.kIn (by simpa using hl)
  rw [List.append_nil] at b2
  have e := I.env0
  have e0 : Env0 X.prog X.w X.K X.mg X.base A0 X.stack s H := ⟨hfr, e.mod, e.bs, e.bsz, e.funs, e.frf, e.hok, e.bare⟩
  refine wpAny_call (codeAny_mono (F1.run A0 X.stack s H ⟨[u, v], []⟩ [u, v] [x, y] Q E hr e0 b2 (.cons rx (.cons ry .nil)) hsp) fun res s2 hres => ?_)
  cases res with
  | error er => exact hx er s2 hres
  | ok fl =>
    cases fl with
    | next => exact hres.elim
    | brk => exact hres.elim
    | cont => exact hres.elim
    | ret w =>
      obtain ⟨r, H2, J, rr, q⟩ := I.after hres
      exact hq r w s2 H2 J rr q
def rInO (C : Addr) (sp : Sp) : R2 := fun x y H Q => ∃ a dx fs, y = .ref a ∧ H a = some (.ins C dx fs) ∧ sp [y, x] H (fun r H' => ∃ b, r = .bl b ∧ Q (.bl b) H') E0
/-- x in o, o an instance of the class at A -/
theorem op_inO (hm : Meth X.K A "__contains__" f) (F1 : FnOk X.prog X.w X.K X.mg X.base CX0 k f fdt ps sp) (hb : L2.Binds X.K fdt ps []) (hr : Room k X.A) : OpR X (compareOp .In) (rInO A sp) := by
  intro pins s σ H x y v u Q I rx ry hq
  obtain ⟨a, dx, fs, rfl, ha, q⟩ := hq
  obtain rfl : u = Value.ref a := ry
  obtain ⟨mA, O, _⟩ := ins_get I.hok ha
  obtain ⟨od, J, _⟩ := O.look
  obtain ⟨m, hF⟩ := I.fr
  refine PySem.W.in_K hF I.ok.mod.kin J hm.at_ hm.fn (call_two F1 hb hr I.ok.frames I (x := .ref a) rfl rx q (fun e s' z => z.elim) fun r w s' H' J2 rr z => ?_)
  obtain ⟨b, rfl, z⟩ := z
  obtain rfl : w = Value.bool b := rr
  exact wpAny_truthy_bool ⟨.bl b, H', J2, rfl, z⟩
def rEqO (K : Frag) (C : Addr) (sp : Sp) : R2 := fun x y H Q => ∃ a dx fs t, x = .ref a ∧ H a = some (.ins C dx fs) ∧ TyX K H y t ∧ PySem.W.notFirst K C t = true ∧ sp [x, y] H (fun r H' => ∃ b, r = .bl b ∧ Q (.bl b) H') E0
/-- o == y -/
theorem op_eqO (hm : Meth X.K A "__eq__" f) (F1 : FnOk X.prog X.w X.K X.mg X.base CX0 k f fdt ps sp) (hb : L2.Binds X.K fdt ps []) (hr : Room k X.A) (hu : X.A.units + 65 < cLine) : OpR X (compareOp .Eq) (rEqO X.K A sp) := by
  intro pins s σ H x y v u Q I rx ry hq
  obtain ⟨a, dx, fs, t, rfl, ha, ht, hn, q⟩ := hq
  obtain rfl : v = Value.ref a := rx
  obtain ⟨mA, O, _⟩ := ins_get I.hok ha
  obtain ⟨od, J, _⟩ := O.look
  obtain ⟨m, hF⟩ := I.fr
  refine PySem.W.cmp_K (op := .Eq) (by omega) hF I.ok.mod.kin J (looks_ty I ry ht) hn hm.at_ hm.fn (call_two F1 hb hr I.ok.frames I (x := .ref a) rfl ry q (fun e s' z => z.elim) fun r w s' H' J2 rr z => ?_)
  obtain ⟨b, rfl, z⟩ := z
  obtain rfl : w = Value.bool b := rr
  exact ⟨.bl b, H', J2, rfl, z⟩
/-- a built-in special method of an own class -/
theorem boundB {M : Model} {A0 : Around} {E : Value → Shared → Prop} {s : Shared} {K : Frag} {x C : Addr} {ox : Obj} {od : Option Obj} {name : Str} {id : String} {args : List Value} {Q : Option Value → Shared → Prop} (kin : K.In s.heap) (J : PySem.W.InstAt s.heap x ox C od) (hs : PySem.W.findIn K (.ref C) name = some (some (.builtin id)))
    (hb : bindSpecial (.builtin id) (.ref x) = pure (.builtin id, [.ref x])) (h : wpAny M A0 (call (.builtin id) (.ref x :: args)) (fun v => Q (some v)) E s) : wpAny M A0 (callSpecialIfBound? (.ref x) name args) Q E s := by
  unfold callSpecialIfBound? bindSpecialIfBound?
  refine wpAny_holding (wpAny_bind (wpAny_bind (wpAny_bind (J.type.here ((PySem.W.looks_findIn kin hs).here ?_)))))
  refine wpAny_bind (wpAny_askSetting ?_)
  refine wpAny_ite ?_
  have last : wpAny M A0 (call (.builtin id) ([.ref x] ++ args) >>= fun v => pure (some v)) Q E s := wpAny_bind (wpAny_mono h (fun _ _ z => wpAny_pure z) fun _ _ z => z)
  simp only [hb]
  split
  · exact wpAny_bind (wpAny_pure (wpAny_pure last))
  · exact wpAny_tryCatch (wpAny_bind (wpAny_pure (wpAny_pure last)))
/-- o != y, by the own == -/
theorem op_neO (O1 : Ops X.K A) (hm : Meth X.K A "__eq__" f) (F1 : FnOk X.prog X.w X.K X.mg X.base CX0 k f fdt ps sp) (hb : L2.Binds X.K fdt ps []) (hr : Room k X.A.in1) (hu : X.A.units + 65 < cLine) :
    OpR X (compareOp .NotEq) (fun x y H Q => rEqO X.K A sp x y H fun r H' => ∃ b, r = .bl b ∧ Q (.bl (!b)) H') := by
  intro pins s σ H x y v u Q I rx ry hq
  obtain ⟨a, dx, fs, t, rfl, ha, ht, hn, q⟩ := hq
  obtain rfl : v = Value.ref a := rx
  obtain ⟨mA, O, _⟩ := ins_get I.hok ha
  obtain ⟨od, J, _⟩ := O.look
  have kin := I.kIn
  have body : wpAny (model X.prog X.w) X.A (call (.builtin "object.__ne__") [.ref a, u]) (fun r s' => ∃ b, r = .bool b ∧ EP X pins σ Q (.bool b) s') X.xe s := by
    refine wpAny_call (codeAny_call_builtin F.cmp_object.ne.plain F.cmpEntry_ne ?_)
    have ok := F.cmpArgs_ne (.ref a) u
    simp only [checkBuiltinCall, F.cmpKind_ne, F.cmpSplit_ne]
    refine wpAny_bind ?_
    unfold isInstance
    refine wpAny_bind (J.type.here ((PySem.W.looks_subIn kin O1.sub).here ?_))
    rw [if_neg (by decide)]
    have bodyB : wpAny (model X.prog X.w) X.A.in1 (Builtin.«object.__ne__» ⟨[.ref a, u], []⟩) (fun fin s' => ∃ b, fin = .done (.ret (.bool b)) ∧ EP X pins σ Q (.bool b) s') X.xe s := by
      unfold Builtin.«object.__ne__»
      refine wpAny_bind (m := slotArgs "__ne__" 1 _) (wpAny_pure ?_)
      refine wpAny_bind (wpAny_cRoomFor (by show X.A.units + 1 < cLine; omega) ?_)
      refine wpAny_bind (m := callSpecialIfBound? (.ref a) (Str.ofString "__eq__") [u]) (PySem.W.ifBound_K kin J hm.at_ hm.fn (call_two F1 hb hr I.ok.frames I (x := .ref a) rfl ry q (fun e s' z => z.elim) fun r w s' H' J2 rr z => ?_))
      obtain ⟨b, rfl, b2, hb2, z⟩ := z
      cases hb2
      obtain rfl : w = Value.bool b := rr
      refine wpAny_bind (wpAny_truthy_bool ?_)
      exact wpAny_pure ⟨!b, rfl, .bl (!b), H', J2, rfl, z⟩
    have fin : wpAny (model X.prog X.w) X.A.in1 (Builtin.«object.__ne__» ⟨[.ref a, u], []⟩) (fun fin s' => match fin with | .done f => (match (Except.ok f : Result) with | .ok (.ret v) => ∃ b, v = Value.bool b ∧ EP X pins σ Q (.bool b) s' | .ok _ => False | .error e => X.xe e s') | .again c' => c'.quiet = true ∧ codeAny (model X.prog X.w) X.A c' (fun r s' => match r with | .ok (.ret v) => ∃ b, v = Value.bool b ∧ EP X pins σ Q (.bool b) s' | .ok _ => False | .error e => X.xe e s') s') (fun e s' => X.xe e s') s :=
      wpAny_mono bodyB (fun fi s' z => by obtain ⟨b, rfl, z⟩ := z; exact ⟨b, rfl, z⟩) fun _ _ z => z
    cases hsig : Manifest.signature? "object.__ne__" with
    | none => exact wpAny_pure fin
    | some sig =>
      unfold argsOk at ok
      rw [hsig] at ok
      have h2 : Bind.checkArgs "object.__ne__" sig ⟨[.ref a, u], []⟩ = pure () := ok
      show wpAny _ X.A.in1 (Bind.checkArgs "object.__ne__" sig ⟨[.ref a, u], []⟩) _ _ s
      rw [h2]
      exact wpAny_pure fin
  show wpAny (model X.prog X.w) X.A (richCompare .NotEq (.ref a) u) _ X.xe s
  have first : wpAny (model X.prog X.w) X.A (tryCompare (.ref a) "__ne__" u) (fun r s' => ∃ b, r = some (.bool b) ∧ EP X pins σ Q (.bool b) s') X.xe s := by
    unfold tryCompare
    refine wpAny_bind (boundB kin J O1.ne (F.cmp_object.ne.bind _) (wpAny_mono body (fun r s' z => ?_) fun _ _ z => z))
    obtain ⟨b, rfl, z⟩ := z
    exact wpAny_pure ⟨b, rfl, z⟩
  unfold richCompare
  simp only [oneThing_ref]
  refine wpAny_holding (wpAny_bind (wpAny_cRoomFor (by omega) ?_))
  rw [cmpInfo_NotEq]
  refine wpAny_bind (J.type.here (wpAny_bind ((looks_ty I ry ht).here ?_)))
  split
  · rename_i hne
    have e : PySem.W.subIn X.K t (.ref A) = some false := by
      unfold PySem.W.notFirst at hn
      rw [Bool.or_eq_true] at hn
      rcases hn with hn | hn
      · rw [beq_iff_eq.mp hn] at hne; simp at hne
      · exact beq_iff_eq.mp hn
    refine wpAny_bind ((PySem.W.looks_subIn kin e).here ?_)
    simp only [if_false, Bool.false_eq_true]
    refine wpAny_bind (wpAny_mono first (fun r s' z => ?_) fun _ _ z => z)
    obtain ⟨b, rfl, z⟩ := z
    exact wpAny_pure z
  · refine wpAny_bind (wpAny_pure (a := false) ?_)
    simp only [if_false, Bool.false_eq_true]
    refine wpAny_bind (wpAny_mono first (fun r s' z => ?_) fun _ _ z => z)
    obtain ⟨b, rfl, z⟩ := z
    exact wpAny_pure z
end
end Dn

/-! # makes, methods and + that may raise; own operators told by data -/
namespace Dn
open PySem L2 Evl PyProof.Rows
section
variable {X : Cx} {CX : CXT} {A f : Addr} {k : Nat} {fdt : FuncData} {ps : List Str} {sp : Sp} {a b e o : Expr} {es : List Expr} {ta tb te : TE} {t : TA} {E : L2.St → XK} {pos p apos : Pos} {x m : Str}
/-- what a call lets out, where nothing may -/
theorem at_false : ∀ σ : L2.St, PassesAt (L2.CX X.prog X.w) X σ (fun _ _ _ => False) := fun σ pins H s e s' I c => passF pins σ H s e s' I c
def tAddO (A : Addr) (sp : Sp) (E : L2.St → XK) (ta tb : TE) : TE := fun σ H Q => ta σ H fun x H1 => tb σ H1 fun y H2 => ∃ (p q dx dy : Addr) (fs gs : List (Str × V)), x = .ref p ∧ y = .ref q ∧ H2 p = some (.ins A dx fs) ∧ H2 q = some (.ins A dy gs) ∧ sp [x, y] H2 (fun r H' => ∃ c, r = .ref c ∧ Q r H') (E σ)
/-- o + o2 -/
theorem pe_addS (O1 : Ops X.K A) (hm : Meth X.K A "__add__" f) (F1 : FnOk X.prog X.w X.K X.mg X.base CX k f fdt ps sp) (hb : L2.Binds X.K fdt ps []) (hr : Room k X.A) (hx : ∀ σ, PassesAt CX X σ (E σ)) (ha : PE X a ta) (hb2 : PE X b tb) : PE X (.BinOp a .Add b pos) (tAddO A sp E ta tb) := by
  refine ⟨fun pins s σ H Q I h => wpAny_BinOp (binT ha hb2 I h fun v u s2 x y H2 I2 rx ry q => ?_)⟩
  obtain ⟨p, q2, dx, dy, fs, gs, rfl, rfl, hp, hq2, q⟩ := q
  obtain rfl : v = Value.ref p := rx
  obtain rfl : u = Value.ref q2 := ry
  obtain ⟨mA, O, _⟩ := ins_get I2.hok hp
  obtain ⟨od, J, _⟩ := O.look
  obtain ⟨mB, O2, _⟩ := ins_get I2.hok hq2
  obtain ⟨od2, J2, _⟩ := O2.look
  obtain ⟨mm, hF⟩ := I2.fr
  refine PySem.W.binop_K (op := .Add) hF I2.ok.mod.kin J J2.type O1.self hm.at_ hm.fn (call_two F1 hb hr I2.ok.frames I2 (x := .ref p) (y := .ref q2) rfl rfl q (fun e s' z => hx σ pins H2 s2 e s' I2 z) fun r w s' H' J3 rr z => ?_)
  obtain ⟨c, rfl, z⟩ := z
  obtain rfl : w = Value.ref c := rr
  exact ⟨.ref c, H', J3, rfl, z⟩
def tMakeS (A : Addr) (sp : Sp) (E : L2.St → XK) (t : TA) : TE := fun σ H Q => t σ H fun vs H1 => ∀ p dp, H1 p = none → H1 dp = none → dp ≠ p → sp (.ref p :: vs) (upd (upd H1 dp (.own p)) p (.ins A dp [])) (fun v H2 => v = .non ∧ Q (.ref p) H2) (E σ)
/-- C(e, ..) -/
theorem pe_makeS (M : Mk X.K A f) (F1 : FnOk X.prog X.w X.K X.mg X.base CX k f fdt ps sp) (hr : Room (k + 1) X.A) (hg : Gl X x) (hm : X.mg x = some (.ref A)) (hb : L2.Binds X.K fdt ps []) (hx : ∀ σ, PassesAt CX X σ (E σ)) (ha : PA X (e :: es) t)
    (hdb : (x == ("__debug__" : Str)) = false := by decide) (he : starEach (e :: es) X.env = (false, eval e X.env) :: starEach es X.env := by rfl) (hpl : (backTo pos (starEach es X.env)).any (·.1) = false := by rfl) : PE X (.Call (.Name x p) (e :: es) [] pos) (tMakeS A sp E t) := by
  refine ⟨fun pins s σ H Q I h => wpAny_Call_Name_kw (ld_glob I hg hm (PySem.W.callWith_K (h₀ := X.base) I.ok.mod.kin M.kp (thn (ha.run pos pins s σ H _ I h) fun us s1 ⟨vs, H1, I1, r, q⟩ => ⟨I1.kIn, ?_⟩) he hpl) hdb)⟩
  have q0 := q (s1.heap.objs.size + 1) s1.heap.objs.size (I1.hok.fresh (Nat.le_succ _)) (I1.hok.fresh (Nat.le_refl _)) (Nat.ne_of_lt (Nat.lt_succ_self _))
  have J := Inv.made (C := A) I1
  have r2 : Vals (V.ref (s1.heap.objs.size + 1) :: vs) (Value.ref (s1.heap.objs.size + 1) :: us) := .cons rfl r
  have hl : (Value.ref (s1.heap.objs.size + 1) :: us).length = ps.length := r2.length.symm.trans (F1.len _ _ _ _ q0)
  have b2 := hb _ (Value.ref (s1.heap.objs.size + 1) :: us) J.kIn (by rw [List.append_nil]; exact hl)
  rw [List.append_nil] at b2
  refine wpAny_call (make_map (f := f) I1.kIn M.makes M.init (beq_iff_eq.mp M.fn) (codeAny_mono (F1.run _ X.stack _ _ ⟨Value.ref (s1.heap.objs.size + 1) :: us, []⟩ (Value.ref (s1.heap.objs.size + 1) :: us) _ _ (E σ) (hr.make A us []) (J.env0.make A us []) b2 r2 q0) fun res s2 hres => ?_))
  cases res with
  | error er => exact hx σ pins _ _ er s2 J hres
  | ok fl =>
    cases fl with
    | next => exact hres.elim
    | brk => exact hres.elim
    | cont => exact hres.elim
    | ret w =>
      obtain ⟨v, H2, J2, rv, ev, q3⟩ := J.after hres
      subst ev
      exact ⟨rv, ⟨V.ref (s1.heap.objs.size + 1), H2, J2, rfl, q3⟩⟩
def tMethS (A : Addr) (m : Str) (sp : Sp) (E : L2.St → XK) (te : TE) (t : TA) : TE := fun σ H Q => te σ H fun x H1 => ∃ (p dx : Addr) (fs : List (Str × V)), x = .ref p ∧ H1 p = some (.ins A dx fs) ∧ fs.lookup m = none ∧ t σ H1 fun vs H2 => sp (x :: vs) H2 Q (E σ)
/-- o.m(e, ..) -/
theorem pe_methS {pl : Sem Bool} (he : PE X o te) (c : Cls X.K A) (hm : Meth X.K A m f) (F1 : FnOk X.prog X.w X.K X.mg X.base CX k f fdt ps sp) (hr : Room k X.A) (hb : L2.Binds X.K fdt ps []) (hx : ∀ σ, PassesAt CX X σ (E σ)) (ha : PA X (e :: es) t)
    (hst : starEach (e :: es) X.env = (false, eval e X.env) :: starEach es X.env := by rfl) (hpl : (backTo pos (starEach es X.env)).any (·.1) = false := by rfl)
    (ht : eval (.Call (.Attribute o m apos) (e :: es) [] pos) X.env = (do
      let ov ← eval o X.env
      standAt apos.atName
      let (g, first) ← holding [ov] (getMethod ov m pl)
      callWith pos g first (backTo pos (starEach (e :: es) X.env)) (backToKw pos (keywordEach [] X.env))) := by rfl) :
    PE X (.Call (.Attribute o m apos) (e :: es) [] pos) (tMethS A m sp E te t) := by
  refine ⟨fun pins s σ H Q I h => PySem.W.methodCall_KW (pl := pl) (thn (he.run pins s σ H _ I h) fun u s1 ⟨x, H1, I1, rx, p, dx, fs, ex, ep, l, q⟩ => ?_) ht⟩
  subst ex
  obtain rfl : u = Value.ref p := rx
  exact getmeth_ok I1 ep c hm l (PySem.W.callWith_K (first := [.ref p]) (h₀ := X.base) I.ok.mod.kin hm.kp (thn (ha.run pos pins s1 σ H1 _ I1 q) fun us s2 ⟨vs, H2, I2, r, q2⟩ => ⟨I2.kIn, run_fnS (us := .ref p :: us) (vs := .ref p :: vs) F1 hr hb (hx σ) I2 (.cons rfl r) q2⟩) hst hpl)
end
/-! ## told by data -/
/-- __init__ of the class at A, which may raise -/
def spIX (K : Frag) (A : Addr) (G : List PyData → (List (PyData × PyData) → Prop) → (Addr → Str → PyData → Prop) → Prop) : Sp := fun vs H Q E => ∃ (p dx : Addr) (ws : List V) (F : Ad) (ds : List PyData) (Cf : List (PyData × PyData) → Prop) (PE' : Addr → Str → PyData → Prop),
  vs = .ref p :: ws ∧ H p = some (.ins A dx []) ∧ F p ∧ (∀ a, F a → H a ≠ none) ∧ DrAll K (off F H) ws ds ∧ G ds Cf PE' ∧
  (∀ H' fs kvs, (∀ a o, a ≠ p → H a = some o → H' a = some o) → H' p = some (.ins A dx fs) → DrFs K (off F H') fs kvs → Cf kvs → Q .non H') ∧
  ∀ B fld d v dv H', PE' B fld dv → (∀ a o, a ≠ p → H a = some o → H' a = some o) → H' d = some (.xd [(fld, v)]) → Dr K (off F H') v dv → E (.ref B) (some d) H'
section
variable {K : Frag} {fd : Ad} {env : List Sl} {te ta tb tc : TE} {tas : TA} {C : PyData → Prop} {CL : List PyData → Prop} {P : Po} {A : Addr} {W : WX} {PE' : Addr → Str → PyData → Prop}
theorem wpEX_make {G : List PyData → (List (PyData × PyData) → Prop) → (Addr → Str → PyData → Prop) → Prop} (h : wpA K fd tas env fun ds => G ds (fun kvs => C (insD A kvs)) PE') : wpEX K fd W PE' (tMakeS A (spIX K A G) (WE W) tas) env C := fun F σ H I x Q k =>
  h F σ H I _ fun vs H1 ds u r g => by
    intro p dp np ndp ne
    have I1 := I.up u
    have nf : ∀ {b}, H1 b = none → ¬ F b := fun {b} e z => I1.there b z e
    have st : ∀ a o, H1 a = some o → (upd (upd H1 dp (.own p)) p (.ins A dp [])) a = some o := fun a o e => by
      rw [upd_ne (ne_of_none e np), upd_ne (ne_of_none e ndp)]; exact e
    have keep : ∀ H' : Hp, (∀ a o, a ≠ p → (upd (upd H1 dp (.own p)) p (.ins A dp [])) a = some o → H' a = some o) → ∀ a o, H1 a = some o → H' a = some o := fun H' kp a o e => kp a o (ne_of_none e np) (st a o e)
    refine ⟨p, dp, vs, fun a => F a ∨ a = p, ds, _, PE', rfl, upd_same, .inr rfl, fun a z => ?_, dmonoAll (fun a o e => ?_) r, g, fun H' fs kvs kp e rf c => ⟨rfl, ?_⟩, fun B fld d v dv H' px kp ed rv => ?_⟩
    · rcases z with z | z
      · cases e : H1 a with
        | none => exact absurd e (I1.there a z)
        | some o => rw [st a o e]; exact fun c => nomatch c
      · subst z; rw [upd_same]; exact fun c => nomatch c
    · obtain ⟨n, e⟩ := off_some e
      rw [off_ne (S := fun a => F a ∨ a = p) fun z => z.elim n fun z => by rw [z, np] at e; cases e]
      exact st a o e
    · refine k _ H' _ (u.trans (.ex u.feed (keep H' kp))) (.ins (dx := dp) (fs := fs) ?_ (dmonoFs (off_less fun a z => .inl z) rf)) c
      rw [off_ne (nf np)]; exact e
    · exact x B fld d v dv H' px (u.trans (.ex u.feed (keep H' kp))) ed (dmono (off_less fun a z => .inl z) rv)
theorem of_EX {C' : PyData → Prop} {tx : (L2.St → XK) → TE} (h : ∀ W, wpEX K fd W (fun _ _ _ => False) (tx (WE W)) env C') : wpE K fd (tx fun _ _ _ _ => False) env C' := fun F σ H I Q k =>
  h (fun _ _ _ _ => False) F σ H I (fun B fld d v dv H' px _ _ _ => px) Q k
theorem wp_makeX {G : List PyData → (List (PyData × PyData) → Prop) → (Addr → Str → PyData → Prop) → Prop} (h : wpA K fd tas env fun ds => G ds (fun kvs => C (insD A kvs)) fun _ _ _ => False) : wpE K fd (tMakeS A (spIX K A G) (fun _ _ _ _ => False) tas) env C :=
  of_EX (tx := fun E => tMakeS A (spIX K A G) E tas) fun W => wpEX_make h
theorem wpEX_meth {m : Str} {G : List PyData → (PyData → Prop) → (Addr → Str → PyData → Prop) → Prop} (h : wpE K fd te env fun d => ∃ kvs, d = insD A kvs ∧ (∀ k d, (k, d) ∈ kvs → k ≠ .str m) ∧ wpA K fd tas env fun ds => G (d :: ds) C PE') : wpEX K fd W PE' (tMethS A m (spX K G) (WE W) te tas) env C := fun F σ H I x Q k =>
  h F σ H I _ fun v H1 d u r c => by
    obtain ⟨kvs, rfl, no, c⟩ := c
    obtain ⟨a, dx, fs, rfl, ha, rf⟩ := ins_inv r
    exact ⟨a, dx, fs, rfl, off_full _ _ ha, drfs_no rf no, c F σ H1 (I.up u) _ fun vs H2 ds u2 r2 g => ⟨F, insD A kvs :: ds, C, PE', ((I.up u).up u2).there, .cons (dmono ((I.up u).see u2) r) r2, g, fun w H' d e rd c => k w H' d ((u.trans u2).trans (.ex u2.feed e)) rd c, fun B fld d v dv H' px e ed rv => x B fld d v dv H' px ((u.trans u2).trans (.ex u2.feed e)) ed rv⟩⟩
theorem wp_methX {m : Str} {G : List PyData → (PyData → Prop) → (Addr → Str → PyData → Prop) → Prop} (h : wpE K fd te env fun d => ∃ kvs, d = insD A kvs ∧ (∀ k d, (k, d) ∈ kvs → k ≠ .str m) ∧ wpA K fd tas env fun ds => G (d :: ds) C fun _ _ _ => False) : wpE K fd (tMethS A m (spX K G) (fun _ _ _ _ => False) te tas) env C :=
  of_EX (tx := fun E => tMethS A m (spX K G) E te tas) fun W => wpEX_meth h
theorem wpEX_add {G : List PyData → (PyData → Prop) → (Addr → Str → PyData → Prop) → Prop} (h : wpE K fd ta env fun d => ∃ kvs, d = insD A kvs ∧ wpE K fd tb env fun e => ∃ kvs2, e = insD A kvs2 ∧ G [d, e] (fun r => (∃ kvs3, r = insD A kvs3) ∧ C r) PE') : wpEX K fd W PE' (tAddO A (spX K G) (WE W) ta tb) env C := fun F σ H I x Q k =>
  h F σ H I _ fun v H1 d u r c => by
    obtain ⟨kvs, rfl, c⟩ := c
    refine c F σ H1 (I.up u) _ fun v2 H2 d2 u2 r2 c2 => ?_
    obtain ⟨kvs2, rfl, g⟩ := c2
    have r1 := dmono ((I.up u).see u2) r
    obtain ⟨a, dx, fs, rfl, ha, _⟩ := ins_inv r1
    obtain ⟨b, dy, gs, rfl, hb, _⟩ := ins_inv r2
    refine ⟨a, b, dx, dy, fs, gs, rfl, rfl, off_full _ _ ha, off_full _ _ hb, F, [insD A kvs, insD A kvs2], _, PE', ((I.up u).up u2).there, .cons r1 (.cons r2 .nil), g, fun w H' d e rd c => ?_, fun B fld d v dv H' px e ed rv => x B fld d v dv H' px ((u.trans u2).trans (.ex u2.feed e)) ed rv⟩
    obtain ⟨⟨kvs3, rfl⟩, c⟩ := c
    obtain ⟨q, _, _, rfl, _, _⟩ := ins_inv rd
    exact ⟨q, rfl, k _ H' _ ((u.trans u2).trans (.ex u2.feed e)) rd c⟩
theorem wp_addX {G : List PyData → (PyData → Prop) → (Addr → Str → PyData → Prop) → Prop} (h : wpE K fd ta env fun d => ∃ kvs, d = insD A kvs ∧ wpE K fd tb env fun e => ∃ kvs2, e = insD A kvs2 ∧ G [d, e] (fun r => (∃ kvs3, r = insD A kvs3) ∧ C r) fun _ _ _ => False) : wpE K fd (tAddO A (spX K G) (fun _ _ _ _ => False) ta tb) env C :=
  of_EX (tx := fun E => tAddO A (spX K G) E ta tb) fun W => wpEX_add h
theorem opd_inO {kvs : List (PyData × PyData)} {a : PyData} {G : List PyData → (PyData → Prop) → Prop} (h : G [insD A kvs, a] fun r => ∃ b, r = .bool b ∧ C (.bool b)) : OpD K (rInO A (spP K G)) a (insD A kvs) C := fun F H x y th rx ry Q k => by
  obtain ⟨p, dx, fs, rfl, hp, _⟩ := ins_inv ry
  refine ⟨p, dx, fs, rfl, off_full _ _ hp, F, [insD A kvs, a], _, th, .cons ry (.cons rx .nil), h, fun r H' d e rd c => ?_⟩
  obtain ⟨b, rfl, c⟩ := c
  cases rd
  exact ⟨b, rfl, k _ H' _ e (.bl b) c⟩
/-- what o may be compared to: data of a built-in type, or an instance of the same class -/
inductive Beside (A : Addr) : PyData → Prop
  | own (kvs : List (PyData × PyData)) : Beside A (insD A kvs)
  | bin {d : PyData} {n : String} (e : tyName d = some n) (h : ∀ K : Frag, PySem.W.subIn K (.type n) (.ref A) = some false) : Beside A d
theorem beside_ty {F : Ad} {H : Hp} {y : V} {d : PyData} (cl : Cls K A) (O1 : Ops K A) (h : Beside A d) (r : Dr K (off F H) y d) : ∃ t, TyX K H y t ∧ PySem.W.notFirst K A t = true := by
  cases h with
  | own kvs =>
    obtain ⟨p, dx, fs, rfl, hp, _⟩ := ins_inv r
    refine ⟨.ref A, .base (.ins (off_full _ _ hp) cl O1.cls O1.spec O1.takes O1.mro), ?_⟩
    unfold PySem.W.notFirst
    simp
  | @bin _ n e h =>
    refine ⟨.type n, tyx r e, ?_⟩
    unfold PySem.W.notFirst
    rw [h K]; simp
theorem opd_eqO {kvs : List (PyData × PyData)} {b : PyData} {G : List PyData → (PyData → Prop) → Prop} (cl : Cls K A) (O1 : Ops K A) (hb : Beside A b) (h : G [insD A kvs, b] fun r => ∃ b, r = .bool b ∧ C (.bool b)) : OpD K (rEqO K A (spP K G)) (insD A kvs) b C := fun F H x y th rx ry Q k => by
  obtain ⟨p, dx, fs, rfl, hp, _⟩ := ins_inv rx
  obtain ⟨t, ht, hn⟩ := beside_ty cl O1 hb ry
  refine ⟨p, dx, fs, t, rfl, off_full _ _ hp, ht, hn, F, [insD A kvs, b], _, th, .cons rx (.cons ry .nil), h, fun r H' d e rd c => ?_⟩
  obtain ⟨b, rfl, c⟩ := c
  cases rd
  exact ⟨b, rfl, k _ H' _ e (.bl b) c⟩
theorem opd_neO {kvs : List (PyData × PyData)} {b : PyData} {G : List PyData → (PyData → Prop) → Prop} (cl : Cls K A) (O1 : Ops K A) (hb : Beside A b) (h : G [insD A kvs, b] fun r => ∃ b, r = .bool b ∧ C (.bool (!b))) : OpD K (fun x y H Q => rEqO K A (spP K G) x y H fun r H' => ∃ b, r = .bl b ∧ Q (.bl (!b)) H') (insD A kvs) b C := fun F H x y th rx ry Q k => by
  obtain ⟨p, dx, fs, rfl, hp, _⟩ := ins_inv rx
  obtain ⟨t, ht, hn⟩ := beside_ty cl O1 hb ry
  refine ⟨p, dx, fs, t, rfl, off_full _ _ hp, ht, hn, F, [insD A kvs, b], _, th, .cons rx (.cons ry .nil), h, fun r H' d e rd c => ?_⟩
  obtain ⟨b, rfl, c⟩ := c
  cases rd
  exact ⟨b, rfl, b, rfl, k _ H' _ e (.bl (!b)) c⟩
/-- isinstance(x, the own class) -/
theorem wp_isiO (cl : Cls K A) (O1 : Ops K A) (h : wpE K fd ta env fun d => Beside A d ∧ ((∃ kvs, d = insD A kvs) → C (.bool true)) ∧ ((∃ n, tyName d = some n) → C (.bool false))) : wpE K fd (tCB (rIsi K) (tCons ta (tCons (tC (.ref A)) tNil))) env C := fun F σ H I Q k =>
  h F σ H I _ fun x H1 d u r c => by
    obtain ⟨hb, c1, c2⟩ := c
    cases hb with
    | own kvs =>
      obtain ⟨p, dx, fs, rfl, hp, _⟩ := ins_inv r
      refine ⟨_, .ref A, .ref A, .ref A, true, rfl, .own A, .base (.ins (off_full _ _ hp) cl O1.cls O1.spec O1.takes O1.mro), ?_, k _ H1 _ u (.bl _) (c1 ⟨kvs, rfl⟩)⟩
      unfold PySem.W.kitOne
      rw [if_pos (by simp)]
    | @bin _ n e hs =>
      refine ⟨_, .ref A, .type n, .ref A, false, rfl, .own A, tyx r e, ?_, k _ H1 _ u (.bl _) (c2 ⟨n, e⟩)⟩
      unfold PySem.W.kitOne
      rw [if_neg (by simp)]
      show (if ((PySem.W.clsIn K A).isSome && PySem.W.typeIn K (.ref A) == some (.type "type")) = true then PySem.W.subIn K (.type n) (.ref A) else none) = some false
      rw [if_pos (by rw [O1.ci, O1.tyC]; simp), hs K]
end
end Dn

/-! # value in a list where one side holds dicts; two new lists within a list; what may raise, gone on -/
namespace Dn
open PySem L2 Evl PyProof.Rows
def rInH (K : Frag) : R2 := fun x y H Q => ∃ (d : PyData) (ds : List PyData), Dr K H x d ∧ Dr K H y (.list ds) ∧ rdb d = true ∧ rdbAll ds = true ∧ d.depth ≤ 60 ∧ (∀ e, e ∈ ds → (e.plain = true ∨ d.plain = true) ∧ e.depth ≤ 60) ∧ Q (.bl (ds.any fun e => PyData.eqv e d)) H
theorem op_inH {X : Cx} (hu : X.A.units + 65 < cLine) : OpR X (compareOp .In) (rInH X.K) := by
  intro pins s σ H x y v u Q I rx ry h
  obtain ⟨d, ds, hd, he, p1, p2, z1, z2, q⟩ := h
  have r1 := Dr.rds I hd v rx p1
  have r2 := Dr.rds I he u ry (by show rdbAll ds = true; exact p2)
  obtain ⟨as, q1⟩ := r1.reads
  cases r2 with
  | @lst a o us n xs g1 g2 g3 g4 =>
    refine SeqAt.in_listAt (eqF s.heap d) ⟨_, g1, g2, _, g3⟩ (fun y hy => ?_) ?_
    · obtain ⟨e, he2, re⟩ := g4.mem y (by simpa using hy)
      obtain ⟨bs, q2⟩ := re.reads
      obtain ⟨pp, dd⟩ := z2 e he2
      rw [eqF_of re]
      have hu1 : (X.A.in1).units + 64 < cLine := by show X.A.units + 1 + 64 < cLine; omega
      rcases pp with pp | pp
      · exact (DnQ.eqH e d X.A.in1 s y v _ _ pp q2 q1 (by omega)).1
      · exact (DnQ.eqH d e X.A.in1 s v y _ _ pp q1 q2 (by omega)).2
    · rw [← Array.any_toList, any_eqF g4]
      exact ⟨.bl _, H, I, rfl, q⟩
section
variable {K : Frag} {fd : Ad} {env : List Sl} {te ta tb tc : TE} {tas : TA} {C : PyData → Prop} {CL : List PyData → Prop} {P : Po} {A : Addr} {W : WX} {PX : PXs} {PE' : Addr → Str → PyData → Prop}
theorem opd_inH {a : PyData} {ds : List PyData} (p1 : rdb a = true) (p2 : rdbAll ds = true) (z1 : a.depth ≤ 60) (z2 : ∀ e, e ∈ ds → (e.plain = true ∨ a.plain = true) ∧ e.depth ≤ 60) (c : C (.bool (ds.any fun z => PyData.eqv z a))) : OpD K (rInH K) a (.list ds) C := fun F H x y th rx ry Q k =>
  ⟨a, ds, dmono off_full rx, dmono off_full ry, p1, p2, z1, z2, k _ H _ (Ex.refl H) (.bl _) c⟩
theorem opd_neB {i j : Bool} (c : C (.bool (!decide (i = j)))) : OpD K rNe (.bool i) (.bool j) C := fun F H x y th rx ry Q k => by
  cases rx; cases ry
  refine ⟨rfl, ?_⟩
  have e : decide (V.bl i = V.bl j) = decide (i = j) := by
    by_cases z : i = j
    · subst z; simp
    · rw [decide_eq_false z, decide_eq_false fun q => z (V.bl.inj q)]
  rw [e]
  exact k _ H _ (Ex.refl H) (.bl _) c
/-- o.m(..), o may raise, m hands back a new list -/
theorem wpEX_methN {m : Str} {E : XK} {G : List PyData → (List PyData → Prop) → Prop} (h : wpEX K fd W PE' te env fun d => ∃ kvs, d = insD A kvs ∧ (∀ k d, (k, d) ∈ kvs → k ≠ .str m) ∧ wpA K fd tas env fun ds => G (d :: ds) fun xs => C (.list xs)) : wpEX K fd W PE' (tMeth A m (spN K G) [] E te tas) env C := fun F σ H I x0 Q k =>
  h F σ H I x0 _ fun v H1 d u r c => by
    obtain ⟨kvs, rfl, no, c⟩ := c
    obtain ⟨a, dx, fs, rfl, ha, rf⟩ := ins_inv r
    refine ⟨a, dx, fs, rfl, off_full _ _ ha, drfs_no rf no, c F σ H1 (I.up u) _ fun vs H2 ds u2 r2 g => ?_⟩
    show spN K G (V.ref a :: (vs ++ [])) H2 Q E
    rw [List.append_nil]
    exact ⟨F, insD A kvs :: ds, _, ((I.up u).up u2).there, .cons (dmono ((I.up u).see u2) r) r2, g, fun p xs H' es hp e e1 r3 c3 => k _ H' _ ((u.trans u2).trans (.ex u2.feed e)) (see_new ((I.up u).up u2).there hp e1 r3) c3⟩
theorem run_tailX {t u : TS} {F0 : Ad} {H0 H : Hp} {σ : L2.St} {D : Ends} {R : List Sl → Prop} (h : wpSX K nofd W PX t env { nx := R, rt := fun _ => False }) (S : StOk K nofd F0 H0 σ H env) (x : XOk K nofd F0 H0 PX W) (k : ∀ σ2 H2 env2, R env2 → StOk K nofd F0 H0 σ2 H2 env2 → u D σ2 H2) : tSeq t u D σ H :=
  h F0 H0 σ H S x _ ⟨k, fun σ H e c => c.elim, fun σ H e c => c.elim, fun v H d c => c.elim, fun p vs H d c => c.elim⟩
/-! ## xs = [a new list, a new list] .. xs[0].append(None); xs[1].append(None) -/
theorem poke_env {G : Ad} {H : Hp} {σ : L2.St} {p : Addr} {o : HO} (E : EnvOk K fd G σ H env) (hG : G p) (no : ∀ (j : Nat) (q : Addr) (ds : List PyData), env[j]? = some (.own q ds) → q ≠ p) (nfd : ¬ fd p) : EnvOk K fd G σ (upd H p o) env := by
  have eoff : off G (upd H p o) = off G H := by
    funext a
    by_cases z : G a
    · rw [off_in z, off_in z]
    · rw [off_ne z, off_ne z, upd_ne (show a ≠ p from fun w => z (by rw [w]; exact hG))]
  refine ⟨fun a z => ?_, E.fdF, fun f z => ?_, E.len, fun j x y a1 a2 => ?_⟩
  · by_cases w : a = p
    · rw [w, upd_same]; intro c; cases c
    · rw [upd_ne w]; exact E.there a z
  · obtain ⟨d, m, b1, b2⟩ := E.feed f z
    exact ⟨d, m, by rw [upd_ne (show f ≠ p from fun w => nfd (by rw [← w]; exact z))]; exact b1, b2⟩
  · have z := E.slot j x y a1 a2
    cases y with
    | no => cases x <;> exact True.intro
    | dat d =>
      cases x with
      | none => exact z
      | some v => show Dr K (off _ _) v d; rw [eoff]; exact z
    | own p' ds' =>
      cases x with
      | none => exact z
      | some v =>
        obtain ⟨b1, b2, b3, us', b4, b5⟩ := z
        exact ⟨b1, b2, b3, us', by rw [upd_ne (no j p' ds' a2)]; exact b4, by rw [eoff]; exact b5⟩
    | fed f => cases x <;> exact z
    | raw w => cases x <;> exact z
/-- a hidden view tells the open one -/
theorem StOk.of_env {F0 G : Ad} {H0 H H' : Hp} {σ : L2.St} (S : StOk K fd F0 H0 σ H env) (E : EnvOk K fd G σ H' env) (hG : ∀ a, (F0 a ∨ a ∈ ownd env) → G a) (old : ∀ a o, ¬ fd a → H0 a = some o → H' a = some o) : StOk K fd F0 H0 σ H' env := by
  refine ⟨⟨fun a z => E.there a (hG a z), fun a z => .inl (S.fd0 a z), E.feed, E.len, fun j o x e1 e2 => ?_⟩, old, S.th0, S.fd0, S.fresh, S.nd⟩
  exact (E.slot j o x e1 e2).less hG fun p ds z => by subst z; exact .inr (mem_ownd e2)
abbrev tApp0 (K : Frag) (i : Nat) (k : Int) : TS := tDrop (tBM K "list" rAppend (tOp (rIxL K) (tVar i) (tC (.int k))) (tCons (tC .non) tNil))
theorem hide_env {F : Ad} {H H2 : Hp} {σ : L2.St} {x : Addr} (I : EnvOk K fd F σ H env) (hx : H x = none) (u : Up fd H H2) (h2 : H2 x ≠ none) : EnvOk K fd (fun a => F a ∨ a = x) σ H2 env :=
  ⟨fun a q => by
    rcases q with q | q
    · exact there_up I.there u a q
    · subst q; exact h2, fun a q => .inl (I.fdF a q), u.feed, I.len, fun j o y e1 e2 =>
    ((I.slot j o y e1 e2).more (fun a q => q.imp id fun z => by rw [z]; exact hx) fun p ds z => by
      subst z
      have q := I.slot j o _ e1 e2
      cases o with
      | none => exact False.elim q
      | some v => exact .inl q.2.1).up (fun a q => .inl (I.fdF a q)) u⟩
theorem wpS_two {i : Nat} {tt : TT} {tr : TS} (hi : i < env.length) (h : wpN K fd ta env fun ds => wpN K fd tb env fun es => ds.length < 100000 ∧ es.length < 100000 ∧
    wpT K fd tt (env.set i (.dat (.list [.list ds, .list es]))) fun b => (b = true → wpS K fd tr (env.set i (.dat (.list [.list ds, .list es]))) { P with nx := fun _ => False }) ∧ (b = false → P.nx (env.set i .no))) :
    wpS K fd (tSeq (tAsg (tLst (tCons ta (tCons tb tNil))) (gName i)) (tSeq (tIfS tt tr tNext) (tSeq (tApp0 K i 0) (tApp0 K i 1)))) env P := fun F0 H0 σ H I D k => by
  refine h _ σ H I.ev _ fun p vs H1 ds hp u e r c => ?_
  have nfd : ∀ {x : Addr}, H x = none → ¬ fd x := fun hx z => by
    obtain ⟨d, m, q, _⟩ := I.ev.feed _ z
    rw [q] at hx; cases hx
  have E1 := acc_env I.ev hp u ⟨vs, e, r⟩
  refine c _ σ H1 E1 _ fun q ws H2 es hq u2 e2 r2 c2 => ?_
  obtain ⟨z1, z2, c2⟩ := c2
  have hq0 : H q = none := none_back I.ev.there I.ev.fdF u hq
  have E2 := acc_env E1 hq u2 ⟨ws, e2, r2⟩
  refine ⟨by show 2 ≤ sizeLine; rw [sizeLine_eq]; decide, fun l hl => ?_⟩
  have hl1 : H1 l = none := none_back E1.there E1.fdF u2 hl
  have hl0 : H l = none := none_back I.ev.there I.ev.fdF u hl1
  have hp2 : H2 p = some (.lst vs) := u2.keep p _ (nfd hp) e
  have npq : p ≠ q := fun z => by rw [z, hq] at e; cases e
  have npl : p ≠ l := fun z => by rw [z, hl1] at e; cases e
  have nql : q ≠ l := fun z => by rw [z, hl] at e2; cases e2
  have uu : Up fd H H2 := u.trans u2
  have x3 : Ex H2 (upd H2 l (.lst [.ref p, .ref q])) := Ex.new hl
  have u3 : Up fd H2 (upd H2 l (.lst [.ref p, .ref q])) := .ex E2.feed x3
  -- the open view
  have dp : Dr K (off (fun a => F0 a ∨ a ∈ ownd env) H2) (.ref p) (.list ds) := dmono (I.ev.up u |>.see u2) (see_new I.ev.there hp e r)
  have dq : Dr K (off (fun a => F0 a ∨ a ∈ ownd env) H2) (.ref q) (.list es) := dmono (off_less fun a z => .inl z) (see_new E1.there hq e2 r2)
  have S2 := I.upE uu
  have dl : Dr K (off (fun a => F0 a ∨ a ∈ ownd env) (upd H2 l (.lst [.ref p, .ref q]))) (.ref l) (.list [.list ds, .list es]) := by
    refine .lst (xs := [.ref p, .ref q]) ?_ (dmonoAll (off_exE x3) (.cons dp (.cons dq .nil)))
    rw [off_ne (S := fun a => F0 a ∨ a ∈ ownd env) fun z => S2.ev.there l z hl]; exact upd_same
  have S3 := (S2.upE u3).set (i := i) (v := .ref l) (x := .dat (.list [.list ds, .list es])) dl (fun p ds z => by cases z)
  have T3 := (S2.upE u3).set (i := i) (v := .ref l) (x := .no) True.intro (fun p ds z => by cases z)
  -- the hidden view
  have E3 := (hide_env E2 hl u3 (by rw [upd_same]; exact fun z => nomatch z)).set (i := i) (v := .ref l) (x := .no) True.intro
  have el : ∀ {H' : Hp}, Up fd (upd H2 l (.lst [.ref p, .ref q])) H' → H' l = some (.lst [.ref p, .ref q]) := fun w => w.keep l _ (nfd hl0) upd_same
  have ep : ∀ {H' : Hp}, Up fd (upd H2 l (.lst [.ref p, .ref q])) H' → H' p = some (.lst vs) := fun w => w.keep p _ (nfd hp) (by rw [upd_ne npl]; exact hp2)
  have eq2 : ∀ {H' : Hp}, Up fd (upd H2 l (.lst [.ref p, .ref q])) H' → H' q = some (.lst ws) := fun w => w.keep q _ (nfd hq0) (by rw [upd_ne nql]; exact e2)
  have hi : i < σ.length := by rw [I.ev.len]; exact hi
  refine c2 _ _ _ S3.ev _ fun b H4 u4 c3 => ?_
  cases b with
  | true => rw [if_pos rfl]; exact c3.1 rfl F0 H0 _ H4 (S3.upE u4) _ ⟨fun _ _ _ c => c.elim, k.bk, k.ct, k.rt, k.ow⟩
  | false =>
    rw [if_neg (by decide)]
    have e0 : (σ.set i (some (V.ref l)))[i]? = some (some (.ref l)) := List.getElem?_set_self hi
    have T4 := T3.upE u4
    have E4 := E3.up u4
    have no : ∀ (x : Addr), H x = none → ∀ (j : Nat) (q : Addr) (ds : List PyData), (env.set i .no)[j]? = some (.own q ds) → q ≠ x := fun x hx j q ds a1 z => by
      subst z
      by_cases hj : i = j
      · subst hj
        rw [List.getElem?_set_self (by rw [← I.ev.len]; exact hi)] at a1
        cases a1
      · rw [List.getElem?_set_ne hj] at a1
        exact I.ev.there _ (.inr (mem_ownd a1)) hx
    have n0 : ∀ {x : Addr}, H x = none → H0 x = none := fun hx => none_back I.th0 I.fd0 I.all hx
    have E5 := poke_env (p := p) (o := .lst (vs ++ [.non])) E4 (.inl (.inl (.inr rfl))) (no p hp) (nfd hp)
    have E6 := poke_env (p := q) (o := .lst (ws ++ [.non])) E5 (.inl (.inr rfl)) (no q hq0) (nfd hq0)
    have sq : ∀ {H' : Hp}, H' l = some (.lst [.ref p, .ref q]) → SqL K H' l [.ref p, .ref q] := fun z => SqL.of z
    refine ⟨_, e0, l, [.ref p, .ref q], 0, .ref p, rfl, rfl, sq (el u4), rfl, .inl ⟨rfl, _, SqL.of (ep u4)⟩, p, vs, .non, rfl, rfl, ep u4, sz_lt (by rw [all_len r]; exact z1), ?_⟩
    refine ⟨_, e0, l, [.ref p, .ref q], 1, .ref q, rfl, rfl, sq (by rw [upd_ne npl.symm]; exact el u4), rfl, .inl ⟨rfl, _, SqL.of (by rw [upd_ne npq.symm]; exact eq2 u4)⟩, q, ws, .non, rfl, rfl, by rw [upd_ne npq.symm]; exact eq2 u4, sz_lt (by rw [all_len r2]; exact z2), ?_⟩
    refine k.nx _ _ _ (c3.2 rfl) (T4.of_env E6 (fun a z => .inl (.inl (.inl (z.imp id fun z => (ownd_sub (fun p ds z => by cases z)).subset z)))) fun a o n z => ?_)
    have z4 := T4.old a o n z
    rw [upd_ne (fun w => by rw [w, n0 hq0] at z; cases z), upd_ne (fun w => by rw [w, n0 hp] at z; cases z)]
    exact z4
end
end Dn

/-! # an __init__ that keeps none of the lists handed in; defs that draw and say repr -/
namespace Dn
open PySem L2 Evl PyProof.Rows
def Lsts (H : Hp) : Ad := fun a => ∃ xs, H a = some (.lst xs)
/-- __init__ of the class at A, which may raise, and keeps no list that stood -/
def spIY (K : Frag) (A : Addr) (G : List PyData → (List (PyData × PyData) → Prop) → (Addr → Str → PyData → Prop) → Prop) : Sp := fun vs H Q E => ∃ (p dx : Addr) (ws : List V) (F : Ad) (ds : List PyData) (Cf : List (PyData × PyData) → Prop) (PE' : Addr → Str → PyData → Prop),
  vs = .ref p :: ws ∧ H p = some (.ins A dx []) ∧ F p ∧ (∀ a, F a → H a ≠ none) ∧ DrAll K (off F H) ws ds ∧ G ds Cf PE' ∧
  (∀ H' fs kvs, (∀ a o, a ≠ p → H a = some o → H' a = some o) → H' p = some (.ins A dx fs) → DrFs K (off (fun a => F a ∨ Lsts H a) H') fs kvs → Cf kvs → Q .non H') ∧
  ∀ B fld d v dv H', PE' B fld dv → (∀ a o, a ≠ p → H a = some o → H' a = some o) → H' d = some (.xd [(fld, v)]) → Dr K (off F H') v dv → E (.ref B) (some d) H'
theorem spIX_Y {K : Frag} {A : Addr} {G : List PyData → (List (PyData × PyData) → Prop) → (Addr → Str → PyData → Prop) → Prop} {vs : List V} {H : Hp} {Q : VK} {E : XK} (h : spIX K A G vs H Q E) : spIY K A G vs H Q E := by
  obtain ⟨p, dx, ws, F, ds, Cf, PX, a, b, c, d, e, g, q, x⟩ := h
  exact ⟨p, dx, ws, F, ds, Cf, PX, a, b, c, d, e, g, fun H' fs kvs k1 k2 r cf => q H' fs kvs k1 k2 (dmonoFs (off_less fun a z => .inl z) r) cf, x⟩
theorem fnY_X {P : Program} {w : World} {K : Frag} {mg : Str → Option Value} {base : Heap} {CX : CXT} {k : Nat} {A f : Addr} {fd : FuncData} {ps : List Str} {G : List PyData → (List (PyData × PyData) → Prop) → (Addr → Str → PyData → Prop) → Prop} (F : FnOk P w K mg base CX k f fd ps (spIY K A G)) : FnOk P w K mg base CX k f fd ps (spIX K A G) :=
  ⟨fun vs H Q E h => F.len vs H Q E (spIX_Y h), fun A0 outer s H args us vs Q E hr e0 hb r h => F.run A0 outer s H args us vs Q E hr e0 hb r (spIX_Y h)⟩
section
variable {K : Frag} {fd : Ad} {env : List Sl} {te ta tb tc : TE} {tas : TA} {C : PyData → Prop} {CL : List PyData → Prop} {P : Po} {A : Addr} {W : WX} {PX : PXs} {PE' : Addr → Str → PyData → Prop}
theorem wp_makeY {G : List PyData → (List (PyData × PyData) → Prop) → (Addr → Str → PyData → Prop) → Prop} (h : wpA K fd tas env fun ds => G ds (fun kvs => C (insD A kvs)) fun _ _ _ => False) : wpE K fd (tMakeS A (spIY K A G) (fun _ _ _ _ => False) tas) env C := fun F σ H I Q k =>
  h F σ H I _ fun vs H1 ds u r g => by
    intro p dp np ndp ne
    have I1 := I.up u
    have nf : ∀ {b}, H1 b = none → ¬ F b := fun {b} e z => I1.there b z e
    have st : ∀ a o, H1 a = some o → (upd (upd H1 dp (.own p)) p (.ins A dp [])) a = some o := fun a o e => by
      rw [upd_ne (ne_of_none e np), upd_ne (ne_of_none e ndp)]; exact e
    have keep : ∀ H' : Hp, (∀ a o, a ≠ p → (upd (upd H1 dp (.own p)) p (.ins A dp [])) a = some o → H' a = some o) → ∀ a o, H1 a = some o → H' a = some o := fun H' kp a o e => kp a o (ne_of_none e np) (st a o e)
    refine spIX_Y ⟨p, dp, vs, fun a => F a ∨ a = p, ds, _, _, rfl, upd_same, .inr rfl, fun a z => ?_, dmonoAll (fun a o e => ?_) r, g, fun H' fs kvs kp e rf c => ⟨rfl, ?_⟩, fun B fld d v dv H' px kp ed rv => px.elim⟩
    · rcases z with z | z
      · cases e : H1 a with
        | none => exact absurd e (I1.there a z)
        | some o => rw [st a o e]; exact fun c => nomatch c
      · subst z; rw [upd_same]; exact fun c => nomatch c
    · obtain ⟨n, e⟩ := off_some e
      rw [off_ne (S := fun a => F a ∨ a = p) fun z => z.elim n fun z => by rw [z, np] at e; cases e]
      exact st a o e
    · refine k _ H' _ (u.trans (.ex u.feed (keep H' kp))) (.ins (dx := dp) (fs := fs) ?_ (dmonoFs (off_less fun a z => .inl z) rf)) c
      rw [off_ne (nf np)]; exact e
/-- C(xs), xs an own list -/
theorem wp_makeOwn {i : Nat} {q : Addr} {es : List PyData} {G : List PyData → (List (PyData × PyData) → Prop) → (Addr → Str → PyData → Prop) → Prop} (e : env[i]? = some (.own q es)) (g : G [.list es] (fun kvs => C (insD A kvs)) fun _ _ _ => False) : wpE K fd (tMakeS A (spIY K A G) (fun _ _ _ _ => False) (tCons (tVar i) tNil)) env C := fun F σ H I Q k => by
  obtain ⟨o, e1, h⟩ := I.get e
  cases o with
  | none => exact h.elim
  | some v =>
    obtain ⟨rfl, hF, hfd, xs, hq, r⟩ := h
    refine ⟨_, e1, ?_⟩
    intro p dp np ndp ne
    have nf : ∀ {b}, H b = none → ¬ F b := fun {b} e z => I.there b z e
    have st : ∀ a o, H a = some o → (upd (upd H dp (.own p)) p (.ins A dp [])) a = some o := fun a o e => by
      rw [upd_ne (ne_of_none e np), upd_ne (ne_of_none e ndp)]; exact e
    have keep : ∀ H' : Hp, (∀ a o, a ≠ p → (upd (upd H dp (.own p)) p (.ins A dp [])) a = some o → H' a = some o) → ∀ a o, H a = some o → H' a = some o := fun H' kp a o e => kp a o (ne_of_none e np) (st a o e)
    have nqp : q ≠ p := ne_of_none hq np
    refine ⟨p, dp, [.ref q], fun a => (F a ∧ a ≠ q) ∨ a = p, [.list es], _, _, rfl, upd_same, .inr rfl, fun a z => ?_, all_one (.lst (xs := xs) ?_ (dmonoAll (fun a o e => ?_) r)), g, fun H' fs kvs kp e rf c => ⟨rfl, ?_⟩, fun B fld d v dv H' px kp ed rv => px.elim⟩
    · rcases z with z | z
      · cases e : H a with
        | none => exact absurd e (I.there a z.1)
        | some o => rw [st a o e]; exact fun c => nomatch c
      · subst z; rw [upd_same]; exact fun c => nomatch c
    · rw [off_ne (S := fun a => (F a ∧ a ≠ q) ∨ a = p) fun z => z.elim (fun z => z.2 rfl) nqp]
      exact st q _ hq
    · obtain ⟨n, e⟩ := off_some e
      rw [off_ne (S := fun a => (F a ∧ a ≠ q) ∨ a = p) fun z => z.elim (fun z => n z.1) fun z => by rw [z, np] at e; cases e]
      exact st a o e
    · refine k _ H' _ (.ex I.feed (keep H' kp)) (.ins (dx := dp) (fs := fs) ?_ (dmonoFs (off_less fun a z => ?_) rf)) c
      · rw [off_ne (nf np)]; exact e
      · by_cases w : a = q
        · exact .inr ⟨xs, by rw [w]; exact st q _ hq⟩
        · exact .inl (.inl ⟨z, w⟩)
/-- self.f = a new list, self (slot 0) being made; the list is a new one -/
theorem fld_setF {f : Str} {F : Ad} {σ : L2.St} {H : Hp} {D : Ends} {p dx : Addr} {fs : List (Str × V)} (I : EnvOk K nofd F σ H env) (e0 : env[0]? = some (.raw (.ref p))) (hF : F p) (hown : ∀ (i : Nat) (q : Addr) (ds : List PyData), env[i]? = some (.own q ds) → q ≠ p)
    (hp : H p = some (.ins A dx fs)) (cl : Cls K A) (no : NoAttr K A f) (hl : fs.length < 1000) (h : wpN K nofd te env CL)
    (k : ∀ H' q vs ds, CL ds → EnvOk K nofd F σ H' env → H q = none → H' p = some (.ins A dx (putF f (.ref q) fs)) → H' q = some (.lst vs) → DrAll K (off F H') vs ds → (∀ a o, a ≠ p → H a = some o → H' a = some o) → D.nx σ H') : sFld K (tVar 0) te f D σ H :=
  h F σ H I _ fun q vs H2 ds hq u e r2 c => by
    have I2 := I.up u
    obtain ⟨o, e1, z⟩ := I.get e0
    cases o with
    | none => exact z.elim
    | some v =>
      have z : v = .ref p := z
      subst z
      have hp2 := u.keep p _ (fun z => z) hp
      have npq : q ≠ p := fun z => by rw [z, hp] at hq; cases hq
      have hoff : ∀ v', off F (upd H2 p (.ins A dx (putF f v' fs))) = off F H2 := fun v' => by
        funext a
        by_cases z : F a
        · rw [off_in z, off_in z]
        · rw [off_ne z, off_ne z, upd_ne (show a ≠ p from fun w => z (by rw [w]; exact hF))]
      refine ⟨_, e1, p, A, dx, fs, rfl, hp2, cl, no, hl, k _ q vs ds c ?_ hq upd_same (by rw [upd_ne npq]; exact e) ?_ fun a o n e => by rw [upd_ne n]; exact u.keep a o (fun z => z) e⟩
      · exact poke_env I2 hF hown fun z => z
      · rw [hoff]; exact dmonoAll (off_less fun a z => .inl z) r2
end
section
variable {P : Program} {w : World} {K : Frag} {mg : Str → Option Value} {base : Heap}
theorem okFG {x : Str} {st : Stmt} {f : Addr} {fdt : FuncData} {N ps : List Str} {k : Nat} {G : List PyData → (PyData → Prop) → Prop} (D : Fun K x x st f fdt) (S : FnScope N ps (defScope st)) (hG : ∀ ds C, G ds C → ds.length + 1 = ps.length)
    (body : ∀ (cdv : Value) (A : Around) (outer : List Env) (s : Shared) (H : Hp) (E : XK), (A.deeper (envOfC x (defScope st) s.heap.objs.size f cdv)).guards = some [] → Room k (A.deeper (envOfC x (defScope st) s.heap.objs.size f cdv)) →
      ∃ t, PSs (cxOf CX0 P w K mg base N x (defScope st) f cdv A outer s H E).nox (defBody st) t ∧ ∀ (p : Addr) ds C, G ds C → wpS K (fun a => a = p) t (Sl.fed p :: (ds.map Sl.dat ++ List.replicate (N.length - (ds.length + 1)) Sl.no)) { nx := fun _ => C .none, rt := C }) : FnG P w K mg base (k + 1) f fdt ps (spF K G) := by
  refine fnG_ok D S (fun vs H Q E h => ?_) (fun cdv A outer s H vs Q E hg hr h => ?_)
  · obtain ⟨p, ws, F, ds, C, rfl, _, _, _, r, g, _⟩ := h
    rw [← hG ds C g, List.length_cons, all_len r]
  · obtain ⟨t, ht, hw⟩ := body cdv A outer s H E hg hr
    obtain ⟨p, ws, F, ds, C, rfl, hp, hf, th, r, g, q⟩ := h
    refine ⟨t, ht, hw p ds C g F H (start N (.ref p :: ws)) H ?_ _ ⟨fun σ H' e c I => q .non H' .none I.all .non c, fun σ H e c => c.elim, fun σ H e c => c.elim, fun v H' d c u r => q v H' d u r c, fun p vs H d c => c.elim⟩⟩
    have eo : ownd (Sl.fed p :: (ds.map Sl.dat ++ List.replicate (N.length - (ds.length + 1)) Sl.no)) = [] := by
      show ownd (ds.map Sl.dat ++ List.replicate (N.length - (ds.length + 1)) Sl.no) = []
      rw [ownd_dat, ownd_no]
    refine ⟨⟨fun a z => ?_, fun a z => .inl (by rw [z]; exact hp), hf, ?_, fun i o x e1 e2 => ?_⟩, fun a o _ z => z, th, fun a z => by rw [z]; exact hp, fun p hp => (by rw [eo] at hp; cases hp), (by rw [eo]; exact List.nodup_nil)⟩
    · rcases z with z | z
      · exact th a z
      · rw [eo] at z; cases z
    · unfold L2.start
      rw [List.length_append, List.length_map, List.length_replicate, List.length_cons, List.length_cons, List.length_append, List.length_map, List.length_replicate, all_len r]
      omega
    · have ehid : (fun a => F a ∨ a ∈ ownd (Sl.fed p :: (ds.map Sl.dat ++ List.replicate (N.length - (ds.length + 1)) Sl.no))) = F := by
        funext a
        rw [eo]
        exact propext ⟨fun z => z.elim id (fun z => by cases z), .inl⟩
      rw [ehid]
      cases i with
      | zero =>
        have a1 : some (V.ref p) = o := Option.some.inj e1
        have a2 : Sl.fed p = x := Option.some.inj e2
        subst a1; subst a2
        exact ⟨rfl, rfl⟩
      | succ i =>
        refine paired_get (G := H) r (n := N.length - (ws.length + 1)) (m := N.length - (ds.length + 1)) (by rw [all_len r]) i o x ?_ e2
        have z : (start N (.ref p :: ws))[i + 1]? = (ws.map some ++ List.replicate (N.length - (ws.length + 1)) none)[i]? := rfl
        rw [← z]; exact e1
end
end Dn

/-! # enumerate(z), z a text -/
namespace Dn
open PySem L2 Evl PyProof.Rows
theorem next_text_end {prog : Program} {w : World} {A : Around} {E : Value → Shared → Prop} {s : Shared} {it : Addr} {x : Str} {t : Tok} {i : Nat} {Q : Value → Shared → Prop} (hh : A.handled = none)
    (hit : s.heap.IsStrIter it (strIterType x) x t i) (hx : x.cps[i]? = none)
    (hE : ∀ h' e, Heap.ExtBut it s.heap h' → (∃ o, h'.get? e = some o ∧ o.cls = .type "StopIteration") → E (.ref e) { s with heap := h' }) : wpAny (model prog w) A (Builtin.SmallTypes.nextOf (.ref it)) Q E s := by
  cases ha : x.cps.all (· < 128)
  · simp only [strIterType, ha, Bool.false_eq_true, if_false] at hit
    exact wpAny_nextOf_wide_end hh hit hx hE
  · simp only [strIterType, ha, if_true] at hit
    exact wpAny_nextOf_ascii_end hh hit hx hE
theorem wpAny_pyNext_enum_strEnd {prog : Program} {w : World} {A : Around} {E : Value → Shared → Prop} {s : Shared} {e it : Addr} {x : Str} {t : Tok} {i : Nat} {j : Int} {old : Value} {Q : Option Value → Shared → Prop} (hh : A.handled = none)
    (he : IsEnum s.heap e it j old) (hit : s.heap.IsStrIter it (strIterType x) x t i) (hle : x.cps.size ≤ i) (hQ : ∀ h', Heap.ExtBut it s.heap h' → Q none { s with heap := h' }) : wpAny (model prog w) A (pyNext (.ref e)) Q E s := by
  have hT : s.TypeIs (.ref e) "enumerate" := ⟨_, he, rfl⟩
  unfold pyNext
  refine wpAny_bind (wpAny_attempt (wpAny_callSpecial?_slot (name := Str.ofString "__next__") hT F.slot_enumerate_next (wpAny_call_entry F.slot_enumerate_next hT F.entry_enumerate_next ?_ (F.args_enumerate_next_1 _))))
  show wpAny _ _ (field (.ref e) 2 >>= _) _ _ _
  refine wpAny_bind (wpAny_field he rfl (x := .ref it) rfl ?_)
  refine wpAny_bind (next_text_end hh hit (Array.getElem?_eq_none hle) fun h' x he' hx' => ?_)
  obtain ⟨o, ho, hc⟩ := hx'
  refine wpAny_bind (wpAny_isInstance (T := "StopIteration") (b := true) ⟨o, ho, hc⟩ isSubtype_stop ?_)
  exact wpAny_pure (hQ _ he')
def IteS (x : Str) : It :=
  ⟨fun i H => i < x.cps.size, fun i H v H' => ∃ T c, v = .ref T ∧ H T = none ∧ H' = upd H T (.tup [.int (i : Nat), .str ⟨#[c]⟩]) ∧ x.cps[i]? = some c, fun i H => x.cps.size ≤ i⟩
theorem str_obj {h : Heap} {it : Addr} {ty : String} {x : Str} {t : Tok} {i : Nat} (st : h.IsStrIter it ty x t i) : ∃ o, h.get? it = some o ∧ ∀ v, o.data ≠ .cell v := by
  obtain ⟨o, e, c, d⟩ := st
  exact ⟨o, e, fun v z => by rw [d] at z; cases z⟩
theorem turn_enumS {P : Program} {w : World} {K : Frag} {elts : List Expr} {kk : Nat} {tpos : Pos} (x : Str) (t : Tok) (e it : Addr) :
    Turn P w K (.Tuple elts kk tpos) (IteS x) [e, it] e (fun i h => (∃ old, IsEnum h e it ((i : Nat) : Int) old) ∧ h.IsStrIter it (strIterType x) x t i ∧ e ≠ it) where
  mem := by simp
  obj := fun i h st b hb => by
    obtain ⟨⟨old, he⟩, ⟨o, ho, hc, hd⟩, _⟩ := st
    rcases (by simpa using hb : b = e ∨ b = it) with z | z
    · rw [z]; exact ⟨_, he, fun v q => nomatch q⟩
    · rw [z]; exact ⟨o, ho, fun v q => by rw [hd] at q; cases q⟩
  keep := fun i h h' st k => let ⟨⟨old, he⟩, ⟨o, ho, r⟩, hne⟩ := st; ⟨⟨old, k e (by simp) _ he⟩, ⟨o, k it (by simp) o ho, r⟩, hne⟩
  item := by
    intro X hP hw hK hc i pins s σ H E I hf st hg
    subst hP hw hK
    obtain ⟨⟨old, he⟩, hit, hne⟩ := st
    have hel : e < s.heap.objs.size := Heap.lt_size he
    have hil : it < s.heap.objs.size := by obtain ⟨_, q, _⟩ := hit; exact Heap.lt_size q
    refine wpAny_pyNext_enum_itemD (Draws.text (show X.A.in1.handled = none from I.ok.hd hc) it x t) he hit hg hne (by simp [hne]) fun u h' tk hu ho hst' hT hsz hk => ?_
    obtain ⟨c, u', hcx, rfl⟩ := hu
    refine ⟨_, rfl, wpAny_letOwnedTupleGo_enum (s := { s with heap := h', toks := tk + 1 }) ho fun h'' he' sb => ?_⟩
    have hT2 : h''.get? s.heap.objs.size = some { cls := .type "tuple", data := .seq #[.int i tk, .str ⟨#[c]⟩ u'] } := (sb.2 _ (Nat.ne_of_gt hel)).trans hT
    have new : ObjOk X.prog X.w (upd H s.heap.objs.size (.tup [.int (i : Nat), .str ⟨#[c]⟩])) h'' s.heap.objs.size (.tup [.int (i : Nat), .str ⟨#[c]⟩]) :=
      ⟨by show 2 ≤ sizeLine; decide, [.int i tk, .str ⟨#[c]⟩ u'], .cons ⟨_, rfl⟩ (.cons ⟨_, rfl⟩ .nil), ⟨_, hT2, rfl, _, rfl⟩⟩
    have I1 : L2.Inv X pins σ (upd H s.heap.objs.size (.tup [.int (i : Nat), .str ⟨#[c]⟩])) { s with heap := h'', toks := tk + 1 } :=
      I.turnedNew (ch := [e, it]) (fun b ob hb q => (sb.2 b (fun z => hb (by simp [z]))).trans (hk b ob (fun z => hb (by simp [z])) (fun z => hb (by simp [z])) q)) hf (Nat.le_refl _) new
    refine ⟨.ref s.heap.objs.size, _, I1, rfl, ⟨_, c, rfl, I.hok.fresh (Nat.le_refl _), rfl, hcx⟩, ⟨⟨.str ⟨#[c]⟩ u', ?_⟩, ?_, hne⟩, fun b hb => ?_⟩
    · have e1 : ((i + 1 : Nat) : Int) = (i : Int) + 1 := by omega
      rw [e1]; exact he'
    · obtain ⟨o, ho, r⟩ := hst'
      exact ⟨o, (sb.2 it (Ne.symm hne)).trans ho, r⟩
    · have hb' : b < s.heap.objs.size := by
        rcases (by simpa using hb : b = e ∨ b = it) with z | z
        · rw [z]; exact hel
        · rw [z]; exact hil
      rw [upd_ne (Nat.ne_of_lt hb')]
      exact (hf b hb).1
  done := by
    intro X hP hw hK hc i pins s σ H E I hf st hg
    subst hP hw hK
    obtain ⟨⟨old, he⟩, hit, hne⟩ := st
    obtain ⟨f0, f1, f2, f3, f4, f5⟩ := hf it (by simp)
    refine wpAny_pyNext_enum_strEnd (I.ok.hd hc) he hit hg fun h' eb => ⟨rfl, I.turned (t' := s.toks) (fun b o hb q => eb b o hb q) f0 f1 f3 f4 f5⟩
  self := fun A i s Q E st h => let ⟨⟨_, he⟩, _⟩ := st; wpAny_pyIter_enum he h
def iEnumS (ta : TA) : TI := fun σ H R => ta σ H fun vs H1 => ∃ x, vs = [.str x] ∧ R (IteS x) H1
theorem pi_enumS {X : Cx} {e : Expr} {ta : TA} {p pos tpos : Pos} {elts : List Expr} {kk : Nat} (hg : Gl X "enumerate") (hm : X.mg "enumerate" = none) (ha : PA X [e] ta) (hs : starEach [e] X.env = [(false, eval e X.env)] := by rfl) :
    PI X (.Tuple elts kk tpos) (.Call (.Name "enumerate" p) [e] [] pos) (iEnumS ta) := by
  refine ⟨fun pins s σ H R I h => ?_⟩
  refine Call_ (ld_blt I hg hm boot_enumerate (PyProof.Rows.callWith_type1 (thn (ha.run pos pins s σ H _ I h) fun us s1 ⟨vs, H1, I1, r1, q1⟩ => ?_) hs rfl))
  obtain ⟨x, ex, q⟩ := q1
  subst ex
  obtain ⟨u, rfl, ru⟩ := r1.one
  obtain ⟨t, rfl⟩ := ru
  refine enum_call1 (begins_text x t) True.intro fun h' he hit hsz hk => wpAny_pyIter_enum he ?_
  have I2 : L2.Inv X pins σ H1 { s1 with heap := h' } := I1.kept (t' := s1.toks) hk
  refine ⟨s1.heap.objs.size + 1, [s1.heap.objs.size + 1, s1.heap.objs.size], _, _, H1, rfl, I2, turn_enumS x t (s1.heap.objs.size + 1) s1.heap.objs.size, ⟨⟨.none, he⟩, ⟨_, hit, rfl, rfl⟩, Nat.succ_ne_self _⟩, fun b hb => ?_, q⟩
  have hle : s1.heap.objs.size ≤ b := by
    rcases (by simpa using hb : b = s1.heap.objs.size + 1 ∨ b = s1.heap.objs.size) with z | z
    · rw [z]; exact Nat.le_add_right _ _
    · rw [z]; exact Nat.le_refl _
  exact I1.fpOk hle (I1.hok.fresh hle)
section
variable {K : Frag} {fd : Ad} {env : List Sl} {CL : List PyData → Prop}
theorem wpI_enumS {ta : TA} (h : wpA K fd ta env fun ds => ∃ z : Str, ds = [.str z] ∧ CL (enumD (signs z))) : wpI K fd (iEnumS ta) env CL := fun F σ H I R k =>
  h F σ H I _ fun vs H2 ds u r c => by
    obtain ⟨z, rfl, c⟩ := c
    cases r with
    | cons r b =>
      cases b
      cases r
      have hl : (signs z).length = z.cps.size := by unfold signs; simp
      refine ⟨z, rfl, k _ H2 _ u ⟨fun i H' e hi => ?_, fun i H' e hi => ?_, fun i x H' H'' e hi y => ?_⟩ c⟩
      · rw [enumD_len, hl] at hi; exact hi
      · rw [enumD_len, hl] at hi; exact hi
      · obtain ⟨T, c, rfl, hT, rfl, y⟩ := y
        have e1 : (signs z)[i]? = some (.str ⟨#[c]⟩) := by
          unfold signs
          simp [y]
        refine ⟨_, enumD_get e1, Ex.new hT, fun G g g2 => .tup (st_of (g2 _ _ hT upd_same)) (.cons (.int _) (all_one (.str _)))⟩
end
end Dn

/-! # z * n, z a text -/
namespace Dn
open PySem L2 Evl PyProof.Rows
def rMulS : R2 := fun x y H Q => ∃ (z : Str) (n : Int), x = .str z ∧ y = .int n ∧ MulOk z n ∧ Q (.str (Txt.mul z n)) H
theorem op_mulS {X : Cx} : OpR X (binaryOp .Mult) rMulS := by
  intro pins s σ H x y v u Q I rx ry h
  obtain ⟨z, n, rfl, rfl, ok, q⟩ := h
  obtain ⟨t, rfl⟩ := rx
  obtain ⟨t2, rfl⟩ := ry
  exact SB.mul ok fun t' k => ⟨.str _, H, I.tok _, ⟨_, rfl⟩, q⟩
section
variable {K : Frag} {fd : Ad} {env : List Sl} {C : PyData → Prop}
theorem opd_mulS {z : Str} {n : Int} (ok : MulOk z n) (c : C (.str (Txt.mul z n))) : OpD K rMulS (.str z) (.int n) C := fun F H x y th rx ry Q k => by
  cases rx; cases ry
  exact ⟨z, n, rfl, rfl, ok, k _ H _ (Ex.refl H) (.str _) c⟩
end
end Dn

/-! # t[:1:-1], t a tuple of two items or more -/
namespace Dn
open PySem L2 Evl PyProof.Rows HT
section
variable {prog : Program} {w : World} {A : Around} {E : Value → Shared → Prop} {s : Shared}
theorem adjust_back {n : Nat} (hn : 2 ≤ n) : Builtin.Slice.sliceAdjust none (some 1) (-1) (n : Int) = ((n : Int) - 1, 1) := by
  unfold Builtin.Slice.sliceAdjust
  simp
  omega
theorem places_back {n : Nat} (hn : 2 ≤ n) : Builtin.Slice.slicePlaces ((n : Int) - 1) 1 (-1) = n - 2 := by
  unfold Builtin.Slice.slicePlaces
  simp
  split <;> omega
theorem pick_back (xs : Array Value) (hn : 2 ≤ xs.size) : ((List.range (xs.size - 2)).filterMap fun (m : Nat) => xs[(((xs.size : Int) - 1) + (m : Int) * (-1)).toNat]?).toArray = (xs.toList.drop 2).reverse.toArray := by
  congr 1
  have e : (fun (m : Nat) => xs[(((xs.size : Int) - 1) + (m : Int) * (-1)).toNat]?) = fun m => if m < xs.size then xs[xs.size - 1 - m]? else xs[0]? := by
    funext m
    by_cases h : m < xs.size
    · rw [if_pos h]
      congr 1
      omega
    · rw [if_neg h]
      congr 1
      omega
  rw [e]
  have e2 : (List.range (xs.size - 2)).filterMap (fun m => if m < xs.size then xs[xs.size - 1 - m]? else xs[0]?) = (List.range (xs.size - 2)).map fun m => xs[xs.size - 1 - m]?.getD .none := by
    have key : ∀ l : List Nat, (∀ m, m ∈ l → m < xs.size) → l.filterMap (fun m => if m < xs.size then xs[xs.size - 1 - m]? else xs[0]?) = l.map fun m => xs[xs.size - 1 - m]?.getD .none := by
      intro l
      induction l with
      | nil => intro _; rfl
      | cons a l ih =>
        intro h
        have ha := h a (List.mem_cons_self ..)
        rw [List.filterMap_cons, if_pos ha, List.map_cons, ih fun m q => h m (List.mem_cons_of_mem _ q)]
        rw [Array.getElem?_eq_getElem (show xs.size - 1 - a < xs.size by omega)]
        rfl
    exact key _ fun m q => by have := List.mem_range.mp q; omega
  rw [e2]
  apply List.ext_getElem
  · simp
  · intro i h1 h2
    have hi : i < xs.size - 2 := by simpa using h1
    rw [List.getElem_map, List.getElem_reverse, List.getElem_drop, List.getElem_range]
    rw [Array.getElem?_eq_getElem (show xs.size - 1 - i < xs.size by omega)]
    show xs[xs.size - 1 - i] = _
    rw [Array.getElem_toList]
    congr 1
    simp
    omega
theorem getItem_tuple_back {t sl : Addr} {items : Array Value} {vs : Value} {v1 : Value} {Q : Value → Shared → Prop} (ht : IsTup s.heap t items) (hn : 2 ≤ items.size) (hs : s.heap.IsSliceOf sl .none v1 vs) (p1 : IsPart v1 (some 1)) (ps : IsPart vs (some (-1)))
    (h : Q (.ref s.heap.objs.size) { s with heap := s.heap.push { cls := .type "tuple", data := .seq (items.toList.drop 2).reverse.toArray } })
    (hsz : items.size ≤ sizeLine) : wpAny (model prog w) A (getItem (.ref t) (.ref sl)) Q E s := by
  have htake : sizeOk (.seq (items.toList.drop 2).reverse.toArray) := by
    show ((items.toList.drop 2).reverse.toArray).size ≤ sizeLine
    rw [List.size_toArray, List.length_reverse, List.length_drop, Array.length_toList]
    omega
  obtain ⟨os, hos, hcs, hds⟩ := id hs
  have hTs : s.TypeIs (.ref sl) "slice" := ⟨os, hos, hcs⟩
  unfold getItem
  try with_reducible refine wpAny_holding ?_
  first | refine wpAny_bind (wpAny_pure ?_) | skip
  refine wpAny_bind (wpAny_sequenceKey ht.typeIs (by decide) ?_)
  refine wpAny_bind (wpAny_callSpecial?_slot (name := Str.ofString "__getitem__") ht.typeIs PyProof.Rows.slot_tuple_getitem
    (wpAny_call_entry PyProof.Rows.slot_tuple_getitem ht.typeIs entry_tuple_getitem ?_ (args_tuple_getitem _ _)))
  show wpAny _ _ (Builtin.Tuple.tupleItemsOf (.ref t) >>= _) _ _ s
  refine wpAny_bind (tupleItemsOf_ ht ?_)
  refine wpAny_bind (wpAny_typeOf hTs ?_)
  rw [if_pos (by decide)]
  have app : ∀ {Q : Int × Int × Nat → Shared → Prop}, Q ((items.size : Int) - 1, -1, items.size - 2) s → wpAny (model prog w) A.in1 (Builtin.Slice.sliceApplied (.ref sl) (pure (items.size : Int))) Q (fun e s' => E e s') s := fun {Q} h => by
    unfold Builtin.Slice.sliceApplied Builtin.Slice.sliceFields
    refine wpAny_bind (wpAny_bind (wpAny_field hos hds (x := .none) rfl (wpAny_bind (wpAny_field hos hds (x := v1) rfl (wpAny_bind (wpAny_field hos hds (x := vs) rfl (wpAny_pure ?_)))))))
    refine wpAny_bind (slicePart_ ps ?_)
    show wpAny _ _ (if ((-1 : Int) == 0) = true then _ else _) _ _ s
    rw [if_neg (by decide)]
    refine wpAny_bind (slicePart_ .none (wpAny_bind (slicePart_ p1 (wpAny_bind (wpAny_pure ?_)))))
    show wpAny _ _ (match Builtin.Slice.sliceAdjust none (some 1) (-1) (items.size : Int) with | (lo, hi) => pure (lo, (-1 : Int), Builtin.Slice.slicePlaces lo hi (-1))) _ _ s
    rw [adjust_back hn]
    show wpAny _ _ (pure ((items.size : Int) - 1, (-1 : Int), Builtin.Slice.slicePlaces ((items.size : Int) - 1) 1 (-1))) _ _ s
    rw [places_back hn]
    exact wpAny_pure h
  refine wpAny_bind (app ?_)
  have hno : ¬ ((((items.size : Int) - 1) == 0 && (-1 : Int) == 1 && (items.size - 2) == items.size) = true) := by simp
  show wpAny _ _ (if (((items.size : Int) - 1) == 0 && (-1 : Int) == 1 && (items.size - 2) == items.size) = true then _ else _) _ _ s
  rw [if_neg hno, pick_back items hn]
  first
    | exact wpAny_bind (m := Builtin.Tuple.tupleExact _) (wpAny_newObj_type (wpAny_pure ⟨_, rfl, wpAny_pure h⟩) htake)
    | exact wpAny_bind (m := Builtin.Tuple.tupleExact _) (wpAny_newObj_type (wpAny_bind (wpAny_pure (wpAny_pure ⟨_, rfl, wpAny_pure h⟩))) htake)
    | exact wpAny_bind (wpAny_bind (m := Builtin.Tuple.tupleExact _) (wpAny_newObj_type (wpAny_pure (wpAny_pure ⟨_, rfl, wpAny_pure h⟩)) htake))
    | exact wpAny_bind (wpAny_bind (m := Builtin.Tuple.tupleExact _) (wpAny_newObj_type (wpAny_pure ⟨_, rfl, wpAny_pure h⟩) htake))
end
/-- t[:1:-1] -/
def tBackT (K : Frag) (te : TE) : TE := fun σ H Q => te σ H fun v H1 => ∃ (a : Addr) (xs : List V), v = .ref a ∧ SqT K H1 a xs ∧ 2 ≤ xs.length ∧ ∀ p, H1 p = none → Q (.ref p) (upd H1 p (.tup (xs.drop 2).reverse))
theorem pe_backT {X : Cx} {e : Expr} {te : TE} {k k2 : Nat} {p0 p1 p2 p3 pos : Pos} (he : PE X e te) : PE X (.Subscript e (.Slice none (some (.Constant (.int 1) k2 p0)) (some (.UnaryOp .USub (.Constant (.int 1) k p1) p2)) p3) pos) (tBackT X.K te) := by
  refine ⟨fun pins s σ H Q I h => ?_⟩
  refine Subscript_ (thn (he.run pins s σ H _ I h) fun v s1 ⟨x, H1, I1, r1, q1⟩ => ?_)
  obtain ⟨a, xs, ex, hx, hn, q⟩ := q1
  subst ex
  cases r1
  have hst : PO X (some (.UnaryOp .USub (.Constant (.int 1) k p1) p2)) (tPart (tUn (rU fun i => .int (-i)) (tC (.int 1)))) := po_some (pe_un un_neg pe_int)
  have hhi : PO X (some (.Constant (.int 1) k2 p0)) (tPart (tC (.int 1))) := po_some pe_int
  refine wpAny_Slice (thn (po_none.run pins s1 σ H1 (fun o H2 => o = none ∧ H2 = H1) I1 ⟨rfl, rfl⟩) fun vl s2 ⟨l, H2, I2, pl, el, e2⟩ => ?_)
  subst el e2
  refine thn (hhi.run pins s2 σ H2 (fun o H3 => o = some 1 ∧ H3 = H2) I2 ⟨1, rfl, rfl, rfl⟩) fun vu s3 ⟨u, H3, I3, pu, eu, e3⟩ => ?_
  subst eu e3
  refine thn (hst.run pins s3 σ H3 (fun o H4 => o = some (-1) ∧ H4 = H3) I3 ⟨1, rfl, -1, rfl, rfl, rfl⟩) fun vs s4 ⟨o, H4, I4, ps, eo, e4⟩ => ?_
  subst eo e4
  cases pl
  have I5 : Inv X pins σ H4 { s4 with heap := s4.heap.push { cls := .type "slice", data := .fields #[.none, vu, vs] } } := I4.kept (t' := s4.toks) fun b ob q => Heap.get?_push_of_some _ q
  obtain ⟨its, r, ht, hz⟩ := I5.tuple hx
  have hlen := r.length
  show wpAny (model X.prog X.w) X.A (subscriptTail e (.Slice none (some (.Constant (.int 1) k2 p0)) (some (.UnaryOp .USub (.Constant (.int 1) k p1) p2)) p3) (.ref a) (.ref s4.heap.objs.size)) (EP X pins σ Q) X.xe { s4 with heap := s4.heap.push { cls := .type "slice", data := .fields #[.none, vu, vs] } }
  refine tail_any (ops := [.ref a, .ref s4.heap.objs.size]) ht.typeIs (PyProof.Rows.slot_tuple_getitem.lookup) ?_ (by with_unfolding_all rfl)
  refine getItem_tuple_back ht (by rw [List.size_toArray]; omega) (Heap.IsSliceOf.new _ .none vu vs) pu ps ?_ (by rw [List.size_toArray]; omega)
  refine ⟨.ref _, _, I5.laid (t' := s4.toks) (o := .tup (xs.drop 2).reverse) (fun b ob q => Heap.get?_push_of_some _ q) (Nat.le_refl _) ?_, rfl, q _ (I5.hok.fresh (Nat.le_refl _))⟩
  exact ⟨by rw [List.length_reverse, List.length_drop]; omega, _, (r.drop 2).reverse, IsTup.new _ _⟩
section
variable {K : Frag} {fd : Ad} {env : List Sl} {te : TE} {C : PyData → Prop}
theorem wp_backT (h : wpE K fd te env fun d => ∃ ds, d = .tuple ds ∧ 2 ≤ ds.length ∧ C (.tuple (ds.drop 2).reverse)) : wpE K fd (tBackT K te) env C := fun F σ H I Q k =>
  h F σ H I _ fun v H1 d u r c => by
    obtain ⟨ds, rfl, hn, c⟩ := c
    cases r with
    | @tup a us _ sa ra =>
      refine ⟨a, us, rfl, ex_t off_full sa, by rw [all_len ra]; exact hn, fun p hp => k _ _ _ (u.trans (.ex u.feed (Ex.new hp))) (new_tup (I.up u).there hp (all_rev (all_drop 2 ra))) c⟩
end
end Dn

/-! # where a text is cut -/
namespace Dn
open PySem PySem.StrLaws PySem.Builtin.Str
theorem occ_cuts {s sub : Str} {hi limit : Nat} (hm : 1 ≤ sub.length) : ∀ (n a free : Nat) (found : Array Nat) (cuts : List Nat),
    (∀ i, a ≤ i → i < a + n → ((i + sub.length ≤ hi ∧ subAt s sub i = true) ↔ i ∈ cuts)) → cuts.Pairwise (fun x y => x + sub.length ≤ y) → (∀ c, c ∈ cuts → a ≤ c ∧ c < a + n ∧ free ≤ c) → found.size + cuts.length ≤ limit →
    (forIn (List.range' a n) (found, free) (occBody s sub hi limit)).run.fst.toList = found.toList ++ cuts
  | 0, a, free, found, cuts, hits, pw, hc, hl => by
    have : cuts = [] := by
      cases cuts with
      | nil => rfl
      | cons c cs => have := hc c (List.mem_cons_self ..); omega
    subst this
    simp
  | n + 1, a, free, found, cuts, hits, pw, hc, hl => by
    rw [List.range'_succ, List.forIn_cons]
    unfold occBody
    by_cases ha : a ∈ cuts
    · cases cuts with
      | nil => cases ha
      | cons c cs =>
        have hp := List.pairwise_cons.mp pw
        have ec : c = a := by
          rcases List.mem_cons.mp ha with e | m
          · exact e.symm
          · have := hp.1 a m
            have := (hc c (List.mem_cons_self ..)).1
            omega
        subst ec
        have hh := (hits c (Nat.le_refl _) (by omega)).mpr (List.mem_cons_self ..)
        have hf := (hc c (List.mem_cons_self ..)).2.2
        rw [List.length_cons] at hl
        rw [if_pos ⟨⟨⟨by show found.size < limit; omega, hf⟩, hh.1⟩, hh.2⟩]
        have hsz : (found.push c).size + cs.length ≤ limit := by rw [Array.size_push]; omega
        refine (show (forIn (List.range' (c + 1) n) (found.push c, c + sub.length) (occBody s sub hi limit)).run.fst.toList = found.toList ++ c :: cs from ?_)
        have ih := fun q1 q2 => occ_cuts (s := s) (sub := sub) (hi := hi) (limit := limit) hm n (c + 1) (c + sub.length) (found.push c) cs q1 hp.2 q2 hsz
        rw [ih (fun i h1 h2 => ?_) (fun d md => ?_)]
        · rw [Array.toList_push, List.append_assoc]; rfl
        · rw [hits i (by omega) (by omega)]
          constructor
          · intro m
            rcases List.mem_cons.mp m with e | m
            · omega
            · exact m
          · exact List.mem_cons_of_mem _
        · have h1 := hp.1 d md
          have h2 := hc d (List.mem_cons_of_mem _ md)
          exact ⟨by omega, by omega, h1⟩
    · have hno : ¬ (((found.size < limit ∧ free ≤ a) ∧ a + sub.length ≤ hi) ∧ subAt s sub a = true) := fun h => ha ((hits a (Nat.le_refl _) (by omega)).mp ⟨h.1.2, h.2⟩)
      rw [if_neg hno]
      refine occ_cuts (s := s) (sub := sub) (hi := hi) (limit := limit) hm n (a + 1) free found cuts (fun i h1 h2 => hits i (by omega) (by omega)) pw (fun d md => ?_) hl
      · have h2 := hc d md
        have : d ≠ a := fun e => ha (e ▸ md)
        exact ⟨by omega, by omega, h2.2.2⟩
/-- the cuts of x where sub stands, told as a list -/
theorem occ_is {x sub : Str} {cuts : List Nat} (hm : 1 ≤ sub.length) (hits : ∀ i, (i + sub.length ≤ x.length ∧ subAt x sub i = true) ↔ i ∈ cuts) (pw : cuts.Pairwise fun a b => a + sub.length ≤ b) (hl : cuts.length ≤ x.length + 1) : occurrences x sub 0 x.length (x.length + 1) = cuts := by
  rw [occ_eq]
  have h := fun q => occ_cuts (s := x) (sub := sub) (hi := x.length) (limit := x.length + 1) hm (x.length + 1 - 0) 0 0 #[] cuts (fun i _ _ => hits i) pw q (by show 0 + _ ≤ _; omega)
  rw [h fun c m => ?_]
  · rfl
  · have := (hits c).mpr m
    exact ⟨Nat.zero_le _, by omega, Nat.zero_le _⟩
end Dn

/-! # the parts of a text that was joined -/
namespace Dn
open PySem PySem.StrLaws PySem.Builtin.Str
def gluedL (m : List Nat) : List (List Nat) → List Nat
  | [] => []
  | [p] => p
  | p :: q :: r => p ++ (m ++ gluedL m (q :: r))
def cutsL (k : Nat) : Nat → List (List Nat) → List Nat
  | o, p :: q :: r => (o + p.length) :: cutsL k (o + p.length + k) (q :: r)
  | _, _ => []
theorem cutsL_ge {k : Nat} : ∀ (ps : List (List Nat)) (o i : Nat), i ∈ cutsL k o ps → o ≤ i
  | [], o, i, h => by rw [cutsL] at h <;> first | cases h | (intros; contradiction)
  | [p], o, i, h => by rw [cutsL] at h <;> first | cases h | (intros; contradiction)
  | p :: q :: r, o, i, h => by
    rw [cutsL] at h
    rcases List.mem_cons.mp h with e | h
    · omega
    · have := cutsL_ge (q :: r) _ i h; omega
theorem cutsL_pw {k : Nat} : ∀ (ps : List (List Nat)) (o : Nat), (cutsL k o ps).Pairwise fun a b => a + k ≤ b
  | [], o => by rw [cutsL] <;> first | exact .nil | (intros; contradiction)
  | [p], o => by
    rw [cutsL]
    · exact .nil
    · intro a b c z; cases z
  | p :: q :: r, o => by
    rw [cutsL]
    exact .cons (fun b h => cutsL_ge (q :: r) _ b h) (cutsL_pw (q :: r) _)
theorem cutsL_hit {c : Nat} : ∀ (ps : List (List Nat)), (∀ p, p ∈ ps → c ∉ p) → ∀ (o i : Nat), (gluedL [c] ps)[i]? = some c ↔ (o + i) ∈ cutsL 1 o ps
  | [], h, o, i => by
    constructor
    · intro e; rw [gluedL] at e; simp at e
    · intro e; rw [cutsL] at e <;> first | cases e | (intros; contradiction)
  | [p], h, o, i => by
    constructor
    · intro e
      rw [gluedL] at e
      exact absurd (List.mem_of_getElem? e) (h p (List.mem_cons_self ..))
    · intro e; rw [cutsL] at e <;> first | cases e | (intros; contradiction)
  | p :: q :: r, h, o, i => by
    have ih := cutsL_hit (q :: r) (fun x m => h x (List.mem_cons_of_mem _ m)) (o + p.length + 1)
    rw [gluedL, cutsL]
    rcases Nat.lt_trichotomy i p.length with hi | hi | hi
    · rw [List.getElem?_append_left hi]
      constructor
      · intro e; exact absurd (List.mem_of_getElem? e) (h p (List.mem_cons_self ..))
      · intro m
        rcases List.mem_cons.mp m with e | m
        · omega
        · have := cutsL_ge (q :: r) _ _ m; omega
    · subst hi
      rw [List.getElem?_append_right (Nat.le_refl _), Nat.sub_self]
      exact ⟨fun _ => List.mem_cons_self .., fun _ => rfl⟩
    · rw [List.getElem?_append_right (by omega)]
      obtain ⟨j, hj⟩ : ∃ j, i - p.length = j + 1 := ⟨i - p.length - 1, by omega⟩
      rw [hj]
      show (gluedL [c] (q :: r))[j]? = some c ↔ _
      rw [ih j, show o + p.length + 1 + j = o + i by omega]
      constructor
      · exact List.mem_cons_of_mem _
      · intro m
        rcases List.mem_cons.mp m with e | m
        · omega
        · exact m
theorem glued_back {s : Str} {m : List Nat} : ∀ (ps : List (List Nat)) (pre : List Nat), ps ≠ [] → s.cps.toList = pre ++ gluedL m ps →
    ((pre.length :: (cutsL m.length pre.length ps).map (· + m.length)).zip (cutsL m.length pre.length ps ++ [s.length])).map (fun (i, j) => strSub s i j) = ps.map fun p => (⟨p.toArray⟩ : Str)
  | [], pre, h, e => absurd rfl h
  | [p], pre, _, e => by
    have hc : cutsL m.length pre.length [p] = [] := rfl
    rw [hc]
    show [strSub s pre.length s.length] = [(⟨p.toArray⟩ : Str)]
    congr 1
    unfold strSub
    congr 1
    apply Array.toList_inj.mp
    rw [Array.toList_extract, e, gluedL]
    have hl : s.length = (pre ++ p).length := by rw [← (show s.cps.toList = pre ++ p by rw [e, gluedL]), Array.length_toList]; rfl
    rw [hl]
    simp [List.extract]
  | p :: q :: r, pre, _, e => by
    have ih := glued_back (s := s) (m := m) (q :: r) (pre ++ p ++ m) (by simp) (by rw [e, gluedL]; simp)
    rw [List.length_append, List.length_append] at ih
    rw [cutsL]
    show strSub s pre.length (pre.length + p.length) :: _ = (⟨p.toArray⟩ : Str) :: _
    congr 1
    unfold strSub
    congr 1
    apply Array.toList_inj.mp
    rw [Array.toList_extract, e, gluedL]
    simp [List.extract]
end Dn

/-! # a joined text is split into what was joined -/
namespace Dn
open PySem PySem.StrLaws PySem.Builtin.Str
theorem join_toList (sep : Str) : ∀ ps : List Str, (Str.join sep ps).cps.toList = gluedL sep.cps.toList (ps.map (·.cps.toList))
  | [] => rfl
  | [p] => rfl
  | p :: q :: r => by
    have ih := join_toList sep (q :: r)
    show (p.cps ++ sep.cps ++ (Str.join sep (q :: r)).cps).toList = p.cps.toList ++ (sep.cps.toList ++ gluedL sep.cps.toList ((q :: r).map (·.cps.toList)))
    rw [Array.toList_append, Array.toList_append, ih, List.append_assoc]
theorem cutsL_len {k : Nat} {m : List Nat} : ∀ (ps : List (List Nat)) (o : Nat), m.length = k → 1 ≤ k → (cutsL k o ps).length ≤ (gluedL m ps).length
  | [], o, _, _ => Nat.zero_le _
  | [p], o, _, _ => Nat.zero_le _
  | p :: q :: r, o, e, h => by
    have ih := cutsL_len (k := k) (m := m) (q :: r) (o + p.length + k) e h
    rw [cutsL, gluedL, List.length_cons, List.length_append, List.length_append]
    omega
theorem split_join {c : Nat} (hc : c < 256) {ps : List Str} (hn : ps ≠ []) (h : ∀ p, p ∈ ps → c ∉ p.cps.toList) : Txt.split (Str.join ⟨#[c]⟩ ps) ⟨#[c]⟩ = ps := by
  have hx := join_toList ⟨#[c]⟩ ps
  generalize Str.join ⟨#[c]⟩ ps = x at hx ⊢
  have hx' : x.cps.toList = gluedL [c] (ps.map (·.cps.toList)) := hx
  have hl : x.length = (gluedL [c] (ps.map (·.cps.toList))).length := by rw [← hx', Array.length_toList]; rfl
  have h' : ∀ p, p ∈ ps.map (·.cps.toList) → c ∉ p := fun p m => by
    obtain ⟨q, hq, e⟩ := List.mem_map.mp m
    exact e ▸ h q hq
  have ho : occurrences x ⟨#[c]⟩ 0 x.length (x.length + 1) = cutsL 1 0 (ps.map (·.cps.toList)) := by
    refine occ_is (Nat.le_refl 1) (fun i => ?_) (cutsL_pw _ 0) ?_
    · rw [subAt_one, hx', cutsL_hit _ h' 0 i, Nat.zero_add]
    · rw [hl]
      have := cutsL_len (k := 1) (m := [c]) (ps.map (·.cps.toList)) 0 rfl (Nat.le_refl 1)
      omega
  have hb := glued_back (s := x) (m := [c]) (ps.map (fun p => p.cps.toList)) [] (fun z => hn (List.map_eq_nil_iff.mp z)) (hx'.trans (List.nil_append _).symm)
  have hb' : partsBetween x (cutsL 1 0 (ps.map (·.cps.toList))) 1 = ps := by
    refine Eq.trans hb ?_
    rw [List.map_map]
    exact (List.map_congr_left fun p _ => rfl).trans (List.map_id ps)
  have hk : Builtin.Str.strKind (⟨#[c]⟩ : Str) = 1 := by
    unfold Builtin.Str.strKind
    rw [if_pos]
    simpa using hc
  unfold Txt.split
  rw [ho, hk]
  split
  · rename_i hs
    have h1 : ¬ Builtin.Str.strKind x < 1 := by unfold Builtin.Str.strKind; (repeat' split) <;> omega
    have h2 : x.length < 1 := by
      rcases Bool.or_eq_true _ _ ▸ hs with a | a
      · exact of_decide_eq_true a
      · exact absurd (of_decide_eq_true a) h1
    have hz : gluedL [c] (ps.map (·.cps.toList)) = [] := List.eq_nil_of_length_eq_zero (by omega)
    cases ps with
    | nil => exact absurd rfl hn
    | cons p r =>
      cases r with
      | nil =>
        have e : x = p := by
          apply Str.ext'
          apply Array.toList_inj.mp
          rw [hx']; rfl
        rw [e]
      | cons q r =>
        have := congrArg List.length hz
        rw [show (p :: q :: r).map (·.cps.toList) = p.cps.toList :: q.cps.toList :: r.map (·.cps.toList) from rfl, gluedL] at this
        simp at this
  · split
    · rename_i he
      rw [List.isEmpty_iff.mp he] at hb'
      refine Eq.trans ?_ hb'
      show [x] = [strSub x 0 x.length]
      rw [sub_whole]
    · exact hb'
end Dn

/-! # two sides with an arrow between them are split into the two -/
namespace Dn
open PySem PySem.StrLaws PySem.Builtin.Str
theorem arrow_hits {L R : List Nat} (hl : 32 ∉ L) (hr : 32 ∉ R) (i : Nat) : ((L ++ ([32, 45, 62, 32] ++ R)).drop i).take 4 = [32, 45, 62, 32] ↔ i = L.length := by
  constructor
  · intro e
    have g0 : (L ++ ([32, 45, 62, 32] ++ R))[i]? = some 32 := by
      have := congrArg (fun l => l[0]?) e
      simpa [List.getElem?_take, List.getElem?_drop] using this
    have g3 : (L ++ ([32, 45, 62, 32] ++ R))[i + 3]? = some 32 := by
      have := congrArg (fun l => l[3]?) e
      simpa [List.getElem?_take, List.getElem?_drop] using this
    rcases Nat.lt_or_ge i L.length with h | h
    · rw [List.getElem?_append_left h] at g0
      exact absurd (List.mem_of_getElem? g0) hl
    · rw [List.getElem?_append_right h] at g0
      rw [List.getElem?_append_right (by omega)] at g3
      obtain ⟨j, hj⟩ : ∃ j, i = L.length + j := ⟨i - L.length, by omega⟩
      subst hj
      rw [show L.length + j - L.length = j by omega] at g0
      rw [show L.length + j + 3 - L.length = j + 3 by omega] at g3
      match j, g0, g3 with
      | 0, _, _ => rfl
      | 1, g0, _ => cases g0
      | 2, g0, _ => cases g0
      | 3, _, g3 => exact absurd (List.mem_of_getElem? (show R[2]? = some 32 from g3)) hr
      | j + 4, g0, _ => exact absurd (List.mem_of_getElem? (show R[j]? = some 32 from g0)) hr
  · intro e
    subst e
    rw [List.drop_left]; rfl
theorem split_arrow {l r : Str} (hl : 32 ∉ l.cps.toList) (hr : 32 ∉ r.cps.toList) : Txt.split (l ++ " -> " ++ r) " -> " = [l, r] := by
  have ea : (" -> " : Str).cps.toList = [32, 45, 62, 32] := by decide +kernel
  have en : (" -> " : Str).length = 4 := by decide +kernel
  have hx : (l ++ " -> " ++ r : Str).cps.toList = l.cps.toList ++ ([32, 45, 62, 32] ++ r.cps.toList) := by
    show ((l.cps ++ (" -> " : Str).cps) ++ r.cps).toList = _
    rw [Array.toList_append, Array.toList_append, ea, List.append_assoc]
  generalize (l ++ " -> " ++ r : Str) = x at hx ⊢
  have hlen : x.length = l.cps.toList.length + (4 + r.cps.toList.length) := by
    have : x.length = x.cps.toList.length := (Array.length_toList ..).symm
    rw [this, hx, List.length_append, List.length_append]; rfl
  have hat : ∀ i, subAt x " -> " i = true ↔ i = l.cps.toList.length := fun i => by
    rw [subAt_eq, en, ea, hx, beq_iff_eq]
    exact arrow_hits hl hr i
  have ho : occurrences x " -> " 0 x.length (x.length + 1) = [l.cps.toList.length] := by
    refine occ_is (by rw [en]; omega) (fun i => ?_) (List.pairwise_singleton ..) (by show 1 ≤ _; omega)
    rw [hat, en, List.mem_singleton]
    constructor
    · exact fun z => z.2
    · intro z; exact ⟨by omega, z⟩
  have hb := glued_back (s := x) (m := [32, 45, 62, 32]) [l.cps.toList, r.cps.toList] [] (by simp) (hx.trans (List.nil_append _).symm)
  have hb' : partsBetween x [l.cps.toList.length] 4 = [l, r] := by
    refine Eq.trans ?_ hb
    unfold partsBetween cutsL cutsL
    simp
  unfold Txt.split
  rw [ho]
  have hk : ¬ Builtin.Str.strKind x < Builtin.Str.strKind (" -> " : Str) := by
    have e : Builtin.Str.strKind (" -> " : Str) = 1 := by decide +kernel
    rw [e]
    unfold Builtin.Str.strKind; (repeat' split) <;> omega
  rw [if_neg, if_neg, en]
  · exact hb'
  · exact fun z => (nomatch z)
  · intro z
    rcases Bool.or_eq_true _ _ ▸ z with a | a
    · have := of_decide_eq_true a
      rw [en] at this; omega
    · exact hk (of_decide_eq_true a)
end Dn

/-! # text.split(sep); arguments that may raise; a feed that is no variable -/
namespace Dn
open PySem L2 Evl PyProof.Rows
section
variable {K : Frag} {fd : Ad} {env : List Sl} {te ta tb tc : TE} {tas : TA} {C : PyData → Prop} {CL : List PyData → Prop} {P : Po} {W : WX} {PE' : Addr → Str → PyData → Prop}
theorem txts_all {G : Hp} : ∀ ys : List Str, DrAll K G (ys.map V.str) (ys.map PyData.str)
  | [] => .nil
  | y :: ys => .cons (.str y) (txts_all ys)
/-- a.split(b) -/
theorem wpN_split {to : TE} (h : wpE K fd to env fun d => ∃ a, d = .str a ∧ wpE K fd te env fun e => ∃ b, e = .str b ∧ (b.length == 0) = false ∧ a.length ≤ 100000 ∧ CL ((Txt.split a b).map PyData.str)) :
    wpN K fd (tM1 (fun x xs H Q => ∃ a b, x = .str a ∧ xs = [.str b] ∧ (b.length == 0) = false ∧ a.length + 2 ≤ sizeLine ∧ rNewStrs (Txt.split a b) H Q) to te) env CL := fun F σ H I Q k =>
  h F σ H I _ fun v H1 d u1 r c1 => by
    obtain ⟨a, rfl, c1⟩ := c1
    cases r
    refine ⟨⟨a, rfl⟩, c1 F σ H1 (I.up u1) _ fun y H2 e u2 re c2 => ?_⟩
    obtain ⟨b, rfl, h0, hz, c⟩ := c2
    cases re
    refine ⟨a, b, rfl, rfl, h0, (by rw [sizeLine_eq]; omega), fun p hp => k p _ _ _ (none_back I.there I.fdF (u1.trans u2) hp) ((u1.trans u2).trans (.ex u2.feed (Ex.new hp))) upd_same (txts_all _) c⟩
/-- arguments that may raise -/
def wpAX (K : Frag) (fd : Ad) (W : WX) (PX : Addr → Str → PyData → Prop) (ta : TA) (env : List Sl) (CL : List PyData → Prop) : Prop :=
  ∀ (F : Ad) (σ : L2.St) (H : Hp), EnvOk K fd F σ H env → XOe K fd F σ H PX W → ∀ Q : List V → Hp → Prop, (∀ vs H2 ds, Up fd H H2 → DrAll K (off F H2) vs ds → CL ds → Q vs H2) → ta σ H Q
theorem wpAX_nil (c : CL []) : wpAX K fd W PE' tNil env CL := fun F σ H I x Q k => k [] H [] (.refl I.feed) .nil c
theorem wpAX_cons {tr : TA} (h : wpEX K fd W PE' ta env fun a => wpAX K fd W PE' tr env fun as => CL (a :: as)) : wpAX K fd W PE' (tCons ta tr) env CL := fun F σ H I x0 Q k =>
  h F σ H I x0 _ fun x H1 a u1 ra q1 => q1 F σ H1 (I.up u1) (x0.up u1) _ fun xs H2 as u2 rs c => k (x :: xs) H2 (a :: as) (u1.trans u2) (.cons (dmono ((I.up u1).see u2) ra) rs) c
theorem wpEX_tup (h : wpAX K fd W PE' tas env fun ds => ds.length ≤ 100000 ∧ C (.tuple ds)) : wpEX K fd W PE' (tTup tas) env C := fun F σ H I x0 Q k =>
  h F σ H I x0 _ fun xs H1 ds u1 ra c => ⟨sz_of (by rw [all_len ra]; exact c.1), fun p hp => k _ _ _ (u1.trans (.ex u1.feed (Ex.new hp))) (new_tup (I.up u1).there hp ra) c.2⟩
/-- f(new list of two numbers, ..), f draws from it -/
theorem wp_callN {G : List PyData → (PyData → Prop) → Prop} {E : XK} (h : wpN K fd te env fun ds => ∃ d m : Int, ds = [.int d, .int m] ∧ 0 ≤ d ∧ 0 ≤ m ∧ m < 4294967311 ∧ wpA K fd tas env fun ds => G ds C) : wpE K fd (tCall (spF K G) [] E (tCons te tas)) env C := fun F σ H I Q k =>
  h F σ H I _ fun p vs H1 ds hp u e r c => by
    obtain ⟨d, m, rfl, hd, hm, hm2, c⟩ := c
    obtain rfl := all_ints (ns := [d, m]) r
    have nF : ¬ F p := fun z => I.there p z hp
    have hp1 : ¬ fd p := fun z => nF (I.fdF p z)
    have I2 : EnvOk K fd (fun a => F a ∨ a = p) σ H1 env := ⟨fun a z => z.elim ((I.up u).there a) fun z => by rw [z, e]; exact fun c => (nomatch c), fun a z => .inl (I.fdF a z), (I.up u).feed, I.len, fun i o x e1 e2 =>
      ((I.slot i o x e1 e2).more (G := fun a => F a ∨ a = p) (fun a z => z.imp id fun z => by rw [z]; exact hp) (fun q ds ex => by
        subst ex
        have z := I.slot i o _ e1 e2
        cases o with
        | none => exact z.elim
        | some v => exact .inl z.2.1)).up (fun a z => .inl (I.fdF a z)) u⟩
    refine c (fun a => F a ∨ a = p) σ H1 I2 _ fun ws H2 es u2 r2 g => ?_
    show spF K G ((V.ref p :: ws) ++ []) H2 Q E
    rw [List.append_nil]
    have e2 : H2 p = some (.lst [.int d, .int m]) := u2.keep p _ hp1 e
    refine ⟨p, ws, fun a => F a ∨ a = p, es, C, rfl, .inr rfl, fun a z => ⟨d, m, by rw [z]; exact e2, hd, hm, hm2⟩, (I2.up u2).there, r2, g, fun r' H' d' u3 rd cd => ?_⟩
    refine k r' H' d' ⟨fun a o n q => ?_, fun f z => ?_⟩ (dmono (off_less fun a z => .inl z) rd) cd
    · have nap : a ≠ p := fun z => by rw [z, hp] at q; cases q
      exact u3.keep a o nap (u2.keep a o n (u.keep a o n q))
    · obtain ⟨x, y, h1, h2⟩ := (I2.up u2).feed f z
      have nap : f ≠ p := fun w => hp1 (by rw [← w]; exact z)
      exact ⟨x, y, u3.keep f _ nap h1, h2⟩
theorem wp_callX {G : List PyData → (PyData → Prop) → (Addr → Str → PyData → Prop) → Prop} (h : wpA K fd tas env fun ds => G ds C fun _ _ _ => False) : wpE K fd (tCallS (spX K G) (fun _ _ _ _ => False) tas) env C :=
  of_EX (tx := fun E => tCallS (spX K G) E tas) fun W => wpEX_call h
end
end Dn

/-! # an own exception whose context is None; raised from None in an except suite -/
namespace L2
open PySem PySem.Spec PyProof.Rows
section
variable {X : Cx} {C fI : Addr} {nm qual par fld : Str}
/-- nm(e): MkP of the layer that tells of contexts, and six fields -/
theorem mk_xN {a : Expr} {ta : TA} {p pos : Pos} (T : XIX.XTxt X.prog X.K X.mg nm qual par fld C fI) (hb : ∀ u, XIX.ArgsTo X.K fI par ⟨[u], []⟩ u) (hd : X.A.depth + 1 < recursionLimit) (ha : PA X [a] ta) (hg : Gl X nm := by rfl)
    (hdb : (nm == ("__debug__" : Str)) = false := by decide)
    (he : starEach (a :: []) X.env = (false, eval a X.env) :: starEach [] X.env := by rfl) (hpl : (backTo pos (starEach [] X.env)).any (·.1) = false := by rfl) :
    L2H.PMk5 X (.Call (.Name nm p) [a] [] pos) (tMkX C fld ta) := by
  intro pins s σ H Q I h
  refine wpAny_Call_Name_kw (ld_glob I hg T.gC ?_ hdb)
  refine PySem.W.callWith_K (h₀ := X.base) I.ok.mod.kin T.kC (thn (ha.run pos pins s σ H _ I h) fun us s1 hh => ?_) he hpl
  obtain ⟨vs, H1, I1, r1, v, ev, q1⟩ := hh
  subst ev
  refine ⟨I1.kIn, ?_⟩
  cases r1 with
  | @cons _ u _ ur rv rn =>
    cases rn
    refine wpAny_call (codeAny_mono (XIX.x_made (R := fun r s' => ∃ e h' tk d, r = .ok (.ret (.ref e)) ∧ s' = { s1 with heap := h', toks := tk } ∧ XIX.OwnMade s1.heap h' e C d fld u) T (hb u) I1.ok.mod I1.bk hd fun h' tk e d M => ⟨e, h', tk, d, rfl, rfl, M⟩) fun r s' hh => ?_)
    obtain ⟨e, h', tk', d, rfl, rfl, M⟩ := hh
    show L2N.MkP X pins σ Q (.ref e) _ ∧ L2H.Six (.ref e) _
    obtain ⟨hp, g, dr, tk, os⟩ := s1
    obtain ⟨t1, hoe⟩ := M.obj
    have hns := M.ns
    obtain ⟨G', g1, g2⟩ := restrict h' fun b => decide (b ≠ e)
    have gk : ∀ b, b ≠ e → G'.get? b = h'.get? b := fun b hb => g1 b (decide_eq_true hb)
    have ge : G'.get? e = none := g2 e (by simp)
    have old : ∀ b o, hp.get? b = some o → G'.get? b = some o := fun b o q => (gk b (Nat.ne_of_lt (Nat.lt_of_lt_of_le (Heap.lt_size q) M.new))).trans (M.keep b o q)
    have ob : ObjOk X.prog X.w (upd H1 d (.xd [(fld, v)])) G' d (.xd [(fld, v)]) :=
      ⟨_, hns.at (fun o q => (gk d M.dne).trans q), fun f => relO_fld rv fld f⟩
    have J : Inv X pins σ (upd H1 d (.xd [(fld, v)])) ⟨G', g, dr, tk', os⟩ := I1.laid (t' := tk') old M.dbig ob
    refine ⟨⟨e, _, _, ⟨G', g, dr, tk', os⟩, _, .ref C, some d, rfl, J, fun b o q => ?_, ge, hoe, ⟨rfl, rfl, fun vs q => by cases q; rfl⟩, rfl, rfl, ?_, rfl, I1.bare, raises_own T.exC T.tyC, q1 d (I1.hok.fresh M.dbig)⟩, fun a oe vs ea hg2 hd2 => ?_⟩
    · by_cases hb : b = e
      · have q' : G'.get? b = some o := q
        rw [hb, ge] at q'; cases q'
      · exact (gk b hb).symm.trans q
    · rw [upd_ne (Ne.symm M.dne)]
      exact I1.hok.fresh M.new
    · cases ea
      have z : h'.get? e = some oe := hg2
      rw [hoe] at z
      cases z
      cases hd2
      show (4 : Nat) < 6
      decide
theorem ps_raiseXN {a : Expr} {ta : TA} {W : WX} {p pos pos2 : Pos} {k : Nat} (hc : X.calm = true) (T : XIX.XTxt X.prog X.K X.mg nm qual par fld C fI) (hb : ∀ u, XIX.ArgsTo X.K fI par ⟨[u], []⟩ u) (hr : Room k X.A) (hk : 1 ≤ k) (tk : L2N.Takes X W) (ha : PA X [a] ta) (hg : Gl X nm := by rfl)
    (hdb : (nm == ("__debug__" : Str)) = false := by decide)
    (he : starEach (a :: []) X.env = (false, eval a X.env) :: starEach [] X.env := by rfl) (hpl : (backTo pos (starEach [] X.env)).any (·.1) = false := by rfl) :
    PS X (.Raise (some (.Call (.Name nm p) [a] [] pos)) none pos2) (tRaiseX C fld W ta) :=
  L2N.ps_raise hc tk (L2H.PMk5.pmk (mk_xN T hb (by have := hr.dp; omega) ha hg hdb he hpl))
/-- raise nm(e) from None, in an except suite -/
theorem ps_raiseXF {a : Expr} {ta : TA} {W : WX} {p cp pos pos2 : Pos} {k j : Nat} (hc : L2H.HotC X) (T : XIX.XTxt X.prog X.K X.mg nm qual par fld C fI) (hb : ∀ u, XIX.ArgsTo X.K fI par ⟨[u], []⟩ u) (hr : L2H.RoomH k X.A) (hk : 1 ≤ k) (tk : Takes X W) (ha : PA X [a] ta) (hg : Gl X nm := by rfl)
    (hdb : (nm == ("__debug__" : Str)) = false := by decide)
    (he : starEach (a :: []) X.env = (false, eval a X.env) :: starEach [] X.env := by rfl) (hpl : (backTo pos (starEach [] X.env)).any (·.1) = false := by rfl) :
    PS X (.Raise (some (.Call (.Name nm p) [a] [] pos)) (some (.Constant .none j cp)) pos2) (tRaiseX C fld W ta) :=
  L2H.ps_raiseHN hc tk (mk_xN T hb (by have := hr.dp; omega) ha hg hdb he hpl)
end
section
variable {P : Program} {w : World} {K : PySem.W.Frag} {mg : Str → Option Value} {base : Heap}
theorem Fun.okXN {x qual : Str} {st : Stmt} {f : Addr} {fd : FuncData} {N ps : List Str} {k : Nat} {sp : Sp} (F : Fun K x qual st f fd) (S : FnScope N ps (defScope st)) (len : ∀ vs H Q E, sp vs H Q E → vs.length = ps.length)
    (hbody : ∀ (cdv : Value) (A : Around) (outer : List Env) (s : Shared) (H : Hp) (vs : List V) (Q : VK) (E : XK), Room k (A.deeper (envOfC qual (defScope st) s.heap.objs.size f cdv)) → sp vs H Q E →
      ∃ t, PSs (cxOf (L2N.CX P w) P w K mg base N qual (defScope st) f cdv A outer s H E) (defBody st) t ∧ t { nx := fun _ H' => Q .non H', rt := Q } (start N vs) H) : FnOk P w K mg base (L2N.CX P w) (k + 1) f fd ps sp := by
  obtain ⟨oc, od, kV, doc, pm, an, cdv, ct, osl, rfl, lk, hcd⟩ := F.ex
  exact fn_of lk hcd S len fun A outer s H vs Q E hr hsp => hbody cdv A outer s H vs Q E hr hsp
end
end L2
namespace Dn
open PySem L2 Evl PyProof.Rows
theorem roomH_in {k : Nat} {A : Around} {h : Option Value} (r : Room k A) : L2H.RoomH k (A.mark h) := ⟨r.dp, r.un⟩
theorem at_falseN {X : Cx} : ∀ σ : L2.St, PassesAt (L2N.CX X.prog X.w) X σ (fun _ _ _ => False) := fun σ pins H s e s' I c => by
  obtain ⟨_, _, _, _, _, _, _, _, _, _, _, _, z⟩ := c
  exact z.elim
section
variable {K : Frag} {fd : Ad} {env : List Sl} {P : Po} {PX : PXs} {W : WX}
/-- try: .. except c: a suite that raises out -/
theorem wpSX_try {c : Value} {PXb : PXs} {tb : WX → TS} {ts : Addr → Value → Option Addr → TS} (hb : ∀ W, wpSX K fd W PXb (tb W) env P)
    (hs : ∀ (A : Addr) (fld : Str) (dv : PyData) (env' : List Sl), PXb A fld dv env' → PySem.W.exmOne K (.ref A) c = some true ∧ ∀ a d, wpSX K fd W PX (ts a (.ref A) (some d)) env' P) :
    wpSX K fd W PX (fun D σ H => tb (wOnly K c ts W D) D σ H) env P := fun F0 H0 σ H I xo D k =>
  hb (wOnly K c ts W D) F0 H0 σ H I (fun A fld d v dv σ' H' env' px I' e rv => by
    obtain ⟨h1, h2⟩ := hs A fld dv env' px
    exact ⟨true, h1, fun _ a ha => h2 a d F0 H0 σ' H' I' xo D k, fun z => (nomatch z)⟩) D k
end
end Dn

namespace Dn
open PySem L2 Evl PyProof.Rows
section
variable {K : Frag} {fd : Ad} {env : List Sl} {ta tb ti : TE} {P : Po}
/-- xs[k], y = a, b: xs an own list -/
theorem wpS_sub2 {i j : Nat} {p : Addr} {ds : List PyData} (e : env[i]? = some (.own p ds)) (h : wpE K fd ta env fun a => wpE K fd tb env fun b => wpE K fd ti env fun k => ∃ n : Nat, k = .int (n : Nat) ∧ n < ds.length ∧ P.nx ((env.set i (.own p (ds.set n a))).set j (.dat b))) :
    wpS K fd (tAsg (tTup (tCons ta (tCons tb tNil))) (gTup K 2 (gCons (gSub (tVar i) ti rSetL) (gCons (gName j) gNil)))) env P := fun F0 H0 σ H I D k =>
  h _ σ H I.ev _ fun v H1 a u1 r1 c1 => c1 _ σ H1 (I.upE u1).ev _ fun w H2 b u2 r2 c2 => by
    have I2 := (I.upE u1).upE u2
    refine ⟨sz_of (by show 2 ≤ 100000; decide), fun q hq => ?_⟩
    have u3 : Up fd H2 (upd H2 q (.tup [v, w])) := .ex I2.ev.feed (Ex.new hq)
    have I3 := I2.upE u3
    refine ⟨q, [v, w], rfl, st_of upd_same, rfl, v, [w], rfl, ?_⟩
    obtain ⟨e1, _⟩ := I3.slotOwn e
    refine ⟨.ref p, e1, c2 _ σ _ I3.ev _ fun y H4 d u4 r4 c4 => ?_⟩
    obtain ⟨n, rfl, hn, c⟩ := c4
    cases r4
    have I4 := I3.upE u4
    obtain ⟨e2, ws, g4, g5⟩ := I4.slotOwn e
    have s24 := (I2.ev.see u3).trans (I3.ev.see u4)
    have ra := dmono s24 (dmono ((I.upE u1).ev.see u2) r1)
    have rb := dmono s24 r2
    have I5 := I4.mut (vs := ws) e (all_set ra n g5)
    refine ⟨p, ws, _, n, rfl, rfl, g4, ?_, w, [], rfl, ?_⟩
    · unfold ixN
      rw [if_pos (by omega), if_pos (by rw [all_len g5]; omega), Int.toNat_natCast]
    · have eo : ownd (env.set i (.own p (ds.set n a))) = ownd env := ownd_same e
      have hoff : off (fun b => F0 b ∨ b ∈ ownd (env.set i (.own p (ds.set n a)))) (upd H4 p (.lst (ws.set n v))) = off (fun b => F0 b ∨ b ∈ ownd env) H4 := by
        rw [eo]
        funext b
        by_cases z : F0 b ∨ b ∈ ownd env
        · rw [off_in (S := fun b => F0 b ∨ b ∈ ownd env) z, off_in (S := fun b => F0 b ∨ b ∈ ownd env) z]
        · rw [off_ne (S := fun b => F0 b ∨ b ∈ ownd env) z, off_ne (S := fun b => F0 b ∨ b ∈ ownd env) z, upd_ne]
          intro w
          exact z (.inr (by rw [w]; exact mem_ownd e))
      refine ⟨rfl, k.nx _ _ _ c (I5.set (x := .dat b) ?_ fun p ds e => (nomatch e))⟩
      show Dr K (off (fun b => F0 b ∨ b ∈ ownd (env.set i (.own p (ds.set n a)))) (upd H4 p (.lst (ws.set n v)))) w b
      rw [hoff]; exact rb
end
end Dn

/-! # Exceptions as values -/
namespace L2
open PySem PySem.Spec PyProof.Rows
section
variable {X : Cx} {C fI : Addr} {nm qual par fld : Str}
/-- C(e).f: the value comes back -/
def tXF (ta : TA) : TE := fun σ H Q => ta σ H fun vs H1 => ∃ v, vs = [v] ∧ Q v H1
theorem xf_read {pins : List (Addr × Obj)} {σ : St} {H1 : Hp} {s1 : Shared} {v : V} {u : Value} {Q : VK} {h' : Heap} {tk' : Nat} {e d : Addr} (T : XIX.XTxt X.prog X.K X.mg nm qual par fld C fI) (I1 : Inv X pins σ H1 s1) (rv : RelV v u) (M : XIX.OwnMade s1.heap h' e C d fld u) (q : Q v H1) :
    wpAny (model X.prog X.w) X.A (getAttr (.ref e) fld true) (EP X pins σ Q) X.xe { s1 with heap := h', toks := tk' } := by
  obtain ⟨t1, hoe⟩ := M.obj
  obtain ⟨od, ho, hl⟩ := lookIn_ns M.ns
  have I2 : Inv X pins σ H1 { s1 with heap := h', toks := tk' } := I1.kept (t' := tk') M.keep
  have J : PySem.W.InstAt h' e { cls := .ref C, dict := some d, data := .fields #[.ref t1, .none, .none, .none, .bool false, .none] } C (some od) := ⟨hoe, rfl, rfl, ho⟩
  exact HandSPX.exc_get (s := { s1 with heap := h', toks := tk' }) I2.kIn J T.ga T.gg T.exC (PySem.W.findObj_own T.hdC T.noN rfl (by rw [hl, if_pos rfl])) (handed_of rv) ⟨v, H1, I2.tok _, rv, q⟩
theorem pe_xf1 {a : Expr} {ta : TA} {p pos pos2 : Pos} {k : Nat} (T : XIX.XTxt X.prog X.K X.mg nm qual par fld C fI) (hb : ∀ u, XIX.ArgsTo X.K fI par ⟨[u], []⟩ u) (hr : Room k X.A) (hk : 1 ≤ k) (ha : PA X [a] ta) (hg : Gl X nm := by rfl)
    (hdb : (nm == ("__debug__" : Str)) = false := by decide) (hba : attributeBase (.Call (.Name nm p) [a] [] pos) fld X.env (eval (.Call (.Name nm p) [a] [] pos) X.env) = eval (.Call (.Name nm p) [a] [] pos) X.env := by rfl)
    (he : starEach (a :: []) X.env = (false, eval a X.env) :: starEach [] X.env := by rfl) (hpl : (backTo pos (starEach [] X.env)).any (·.1) = false := by rfl) :
    PE X (.Attribute (.Call (.Name nm p) [a] [] pos) fld pos2) (tXF ta) := by
  refine ⟨fun pins s σ H Q I h => ?_⟩
  refine attr_of hba ?_
  refine wpAny_Call_Name_kw (ld_glob I hg T.gC ?_ hdb)
  refine PySem.W.callWith_K (h₀ := X.base) I.ok.mod.kin T.kC (thn (ha.run pos pins s σ H _ I h) fun us s1 hh => ?_) he hpl
  obtain ⟨vs, H1, I1, r1, v, ev, q1⟩ := hh
  subst ev
  refine ⟨I1.kIn, ?_⟩
  cases r1 with
  | @cons _ u _ ur rv rn =>
    cases rn
    exact x_calls T (hb u) hr hk I1 rv fun h' tk' e d M => xf_read T I1 rv M q1
/-! ## an exception that is tracked -/
def ExD (cls : Value) (d : Option Addr) (a : Addr) : HO := .ext fun h => ∃ oe vs, h.get? a = some oe ∧ Zc cls d oe ∧ oe.data = .fields vs
theorem Inv.track {pins : List (Addr × Obj)} {σ : St} {H : Hp} {s : Shared} {a : Addr} {oe : Obj} {vs : Array Value} {cls : Value} {d : Option Addr} (I : Inv X pins σ H s) (ha : s.heap.get? a = some oe) (hz : Zc cls d oe) (hd : oe.data = .fields vs) (hn : H a = none)
    (h0 : X.s_0.heap.get? a = none) (nL : a ≠ X.env.locals) (hp : ∀ p ∈ X.pn ++ pins, p.1 ≠ a) : Inv X pins σ (upd H a (ExD cls d a)) s := by
  have ne0 : ∀ b o, X.s_0.heap.get? b = some o → b ≠ a := fun b o e z => by rw [z, h0] at e; cases e
  have neT : ∀ b o, H b = some o → b ≠ a := fun b o e z => by rw [z, hn] at e; cases e
  have neC : ∀ x c, X.env.cells.lookup x = some c → c ≠ a := fun x c e z => by
    obtain ⟨v, ob, ho, hv⟩ := I.cell x c e
    rw [z, ha] at ho
    cases ho
    rw [hd] at hv; cases hv
  refine ⟨I.ok, I.os, I.bare, ⟨I.base.keep, I.base.slot, fun b o e n hx => ?_, I.base.there, fun b xs e => ?_, fun b o u e => ?_, fun b ps e => ?_⟩, I.loc, I.cell, ?_, fun x c e => ?_, fun p hq => ?_, fun b u e => ?_, I.len⟩
  · rw [upd_ne (ne0 b o e)]; exact I.base.free b o e n hx
  · have q := I.base.tups b xs e
    rw [upd_ne (neT b _ q)]; exact q
  · have q := I.base.frzs b o u e
    rw [upd_ne (neT b _ q)]; exact q
  · obtain ⟨more, q⟩ := I.base.tbls b ps e
    exact ⟨more, by rw [upd_ne (neT b _ q)]; exact q⟩
  · rw [upd_ne (Ne.symm nL)]; exact I.free
  · rw [upd_ne (neC x c e)]; exact I.freeC x c e
  · obtain ⟨e, n, r⟩ := I.pin p hq
    exact ⟨e, by rw [upd_ne (hp p hq)]; exact n, r⟩
  · by_cases hb : b = a
    · subst hb
      rw [upd_same] at e
      cases e
      exact ⟨⟨oe, vs, ha, hz, hd⟩, ⟨oe, ha⟩, fun _ _ ⟨o, w, q, r⟩ k => ⟨o, w, k o q, r⟩⟩
    · rw [upd_ne hb] at e
      exact (I.hok b u e).stay (fun _ _ _ z => z) (fun c q => by rw [upd_ne (neT c _ q)]; exact q) fun c xs q => by rw [upd_ne (neT c _ q)]; exact q
/-- what the clause 'except x as n: return n' wishes of an exception of the body -/
def wRetX (K : PySem.W.Frag) (c : Value) (D : Ends) : WX := fun cls d σ H => PySem.W.exmOne K cls c = some true ∧ ∀ a, H a = none → D.rt (.ref a) (upd H a (ExD cls d a))
theorem ps_try_ret {x n : Str} {c : Value} {i : Nat} {body : List Stmt} {np pos pos' p1 p2 : Pos} {tb : WX → TS} (hx : X.ex = []) (hs : X.stack = X.env :: X.outer) (hf : X.env.frame = some X.env.locals) (hN : X.N.Nodup) (hi : X.N[i]? = some n) (hln : X.env.kindOf n = some .local) (hc : Names X x c)
    (hb : ∀ (W : WX) (pn : List (Addr × Obj)) (xe : Value → Shared → Prop), Takes (X.tr pn xe) W → PassesOwn (model X.prog X.w) X.A X.env xe → PSs (X.tr pn xe) body (tb W))
    (hd1 : (n == ("__debug__" : Str)) = false := by decide) (hd2 : (n == ("__classdict__" : Str)) = false := by decide) :
    PS X (.Try body [.ExceptHandler (some (.Name x np)) (some n) [.Return (some (.Name n p1)) p2] pos'] [] [] pos) (fun D σ H => tb (wRetX X.K c D) D σ H) := by
  refine ⟨fun pins s σ H D I h => ?_⟩
  have ok := I.ok
  have hfr : X.A.frames = some (X.env :: X.outer) := by rw [ok.frames, hs]
  refine wpAny_Try_except ?_
  refine wpAny_mono ((hb (wRetX X.K c D) (X.pn ++ pins) (fun e s₁ => wpAny (model X.prog X.w) X.A (noteFrame e X.env) (fun _ s₂ => wpAny (model X.prog X.w) X.A (setFlight e none) (fun _ s₃ =>
    wpAny (model X.prog X.w) X.A (handleBy e X.env [.ExceptHandler (some (.Name x np)) (some n) [.Return (some (.Name n p1)) p2] pos']) (SP X pins D) X.xe s₃) X.xe s₂) X.xe s₁) (fun u s' xx => ?_) PassesOwn.looking).run [] s σ H D (I.toTry _) h) (fun f s1 hsp => ?_) (fun e s1 he => he)
  · obtain ⟨a, B, sI, pins', σ', H', cls, d, rfl, J', nb, up, sky, na, os, ag, hb1, hyes⟩ := xx
    have J : Inv X pins σ' H' sI := J'.ofTry ok
    have sky' : Sky B (X.env :: X.outer) a (Zc cls d) X.env.locals s'.heap := by rw [← hs]; exact sky
    show wpAny (model X.prog X.w) X.A (noteFrame (.ref a) X.env) _ _ _
    refine Sky.land Zc.steady hfr hf sky' fun h3 fl3 up3 => ?_
    have J3 : Inv X pins σ' H' { s' with heap := h3 } := J.landed nb fl3.1 (up.trans up3) os ag
    obtain ⟨oe3, vs3, he3, hz3, hd3⟩ := fl3.there
    have nfr : a ∉ frs (X.env :: X.outer) := fun hm => by
      obtain ⟨_, o', e', hnf⟩ := fl3.2.2.1.mem hm
      rw [he3] at e'; cases e'
      exact hnf _ hd3
    have nL : a ≠ X.env.locals := fun z => nfr (List.mem_filterMap.mpr ⟨X.env, List.mem_cons_self, by rw [hf, z]⟩)
    have nF : a ∉ X.fs := fun hm => by
      obtain ⟨e, he, q⟩ := List.mem_filterMap.mp hm
      exact nfr (List.mem_filterMap.mpr ⟨e, List.mem_cons_of_mem _ he, q⟩)
    have hBn : B.get? a = none := fl3.2.1
    have nI : sI.heap.get? a = none := by
      cases e : sI.heap.get? a with
      | none => rfl
      | some o =>
        have z := nb a o e (by rw [hs]; exact nfr)
        rw [hBn] at z; cases z
    have h0 : X.s_0.heap.get? a = none := by
      cases e : X.s_0.heap.get? a with
      | none => rfl
      | some o =>
        obtain ⟨o', z⟩ := J.base.there a o e (by rw [hx]; exact fun z => nomatch z)
        rw [nI] at z; cases z
    have hpn : ∀ p ∈ X.pn ++ pins, p.1 ≠ a := fun p hp z => by
      obtain ⟨e, _⟩ := J.pin p hp
      rw [z, nI] at e; cases e
    have S3 := J3.suite he3 hd3 na nL nF
    refine wpAny_handleBy_cons (codeAny_handlers_test ?_) (by intro q; cases q)
    have LT : PySem.W.Looks (model X.prog X.w) h3 (typeOf (.ref a)) cls := fun A Q E s k q => wpAny_typeOf_ref (k _ _ he3) (by rw [hz3.1]; exact q)
    have LM := PySem.W.exm_one (M := model X.prog X.w) (J3.kIn) LT hb1
    have test : ∀ {Q : Value → Shared → Prop} {E : Value → Shared → Prop}, Q c { s' with heap := h3 } → wpAny (model X.prog X.w) (X.A.mark (some (.ref a))) (eval (.Name x np) X.env) Q E { s' with heap := h3 } := fun {Q E} q => by
      obtain ⟨hg, hdbg, hm | ⟨hm, hv, hnn⟩⟩ := hc
      · exact ld_glob (X := X.suite a ((a, oe3) :: (X.pn ++ pins))) S3 hg hm q hdbg
      · exact ld_blt (X := X.suite a ((a, oe3) :: (X.pn ++ pins))) S3 hg hm hv q hnn hdbg
    refine test (LM.here ?_)
    refine codeAny_handlers_suite_as ?_
    refine HandSPX.lands_againZ fl3 fun h4 fl4 up4 => ?_
    have J4 : Inv X pins σ' H' { s' with heap := h4 } := J.landed nb fl4.1 ((up.trans up3).trans up4) os ag
    obtain ⟨oe4, vs4, he4, hz4, hd4⟩ := fl4.there
    have S4 := J4.suite he4 hd4 na nL nF
    have hil : i < σ'.length := by rw [J.len]; exact (List.getElem?_eq_some_iff.mp hi).1
    refine store_ok (X := X.suite a ((a, oe4) :: (X.pn ++ pins))) (v := .ref a) S4 hN hi (.inl hln) rfl (fun s5 S5 => ?_) (.inr hln)
    have hret : PSs (X.suite a ((a, oe4) :: (X.pn ++ pins))) [.Return (some (.Name n p1)) p2] (tRet (tVar i)) := pss_one (ps_ret (pe_var hi (.inl hln) hd1 hd2))
    refine wpAny_mono (hret.run [] s5 _ H' { nx := fun _ _ => False, rt := fun v H6 => v = .ref a ∧ H6 = H' } S5 ⟨.ref a, by rw [List.getElem?_set_self hil], rfl, rfl⟩) (fun f s6 hsp => ?_) (fun _ _ z => False.elim z)
    cases f with
    | next => obtain ⟨_, _, _, q⟩ := hsp; exact q.elim
    | brk => obtain ⟨_, _, _, q⟩ := hsp; exact q.elim
    | cont => obtain ⟨_, _, _, q⟩ := hsp; exact q.elim
    | ret u =>
      obtain ⟨v6, σ6, H6, S6, r6, rfl, rfl⟩ := hsp
      obtain ⟨pa, pn', _⟩ := S6.pin (a, oe4) (List.mem_append_left _ List.mem_cons_self)
      have J6 : Inv X pins σ6 (upd H6 a (ExD cls d a)) s6 := (S6.unsuite ok).track pa hz4 hd4 pn' h0 nL hpn
      exact gone_ok J6 hN hi hln fun s7 J7 => ⟨_, _, _, J7, r6, hyes a na⟩
  · cases f with
    | next =>
      obtain ⟨σ', H', J', q⟩ := hsp
      exact wpAny_execs_nil ⟨σ', H', J'.ofTry ok, q⟩
    | brk =>
      obtain ⟨σ', H', J', q⟩ := hsp
      exact ⟨σ', H', J'.ofTry ok, q⟩
    | cont =>
      obtain ⟨σ', H', J', q⟩ := hsp
      exact ⟨σ', H', J'.ofTry ok, q⟩
    | ret u =>
      obtain ⟨v, σ', H', J', r, q⟩ := hsp
      exact ⟨v, σ', H', J'.ofTry ok, r, q⟩
end
end L2

namespace L2
open PySem PySem.Spec PyProof.Rows
section
variable {X : Cx}
/-- isinstance(e, c), e tracked -/
def rIsD (K : PySem.W.Frag) : List V → Hp → VK → Prop := fun xs H Q => ∃ (a D : Addr) (d : Option Addr) (c : V) (cv : Value) (b : Bool), xs = [.ref a, c] ∧ H a = some (ExD (.ref D) d a) ∧ (∀ dd, d = some dd → ∃ fs, H dd = some (.xd fs)) ∧ ExcC K D ∧ (∀ u, RelV c u → u = cv) ∧ PySem.W.kitOne K (.ref D) cv = some b ∧ Q (.bl b) H
theorem call_isD : CallR X (.builtin "isinstance") (rIsD X.K) := by
  intro pins s σ H xs us Q I r h
  obtain ⟨a, D, d, c, cv, b, rfl, ha, hd, C, hcv, e, q⟩ := h
  cases r with
  | cons rx rr =>
    cases rr with
    | cons rt rr =>
      cases rr
      cases rx
      have ec := hcv _ rt
      subst ec
      obtain ⟨⟨oe, vs, hget, hz, hv⟩, _, _⟩ := I.hok a _ ha
      have hcl : (PySem.W.clsIn X.K D).isSome = true := by
        obtain ⟨cd, hc, _⟩ := PySem.W.any_some C.hd
        rw [hc]; rfl
      have fin : ∀ od, PySem.W.InstAt s.heap a oe D od → wpAny (model X.prog X.w) X.A (call (.builtin "isinstance") [.ref a, _]) (EP X pins σ Q) X.xe s := fun od J =>
        PySem.W.kia_one (PySem.W.kitx_exc hcl C.hg C.hk C.hs C.ha C.hn C.ht C.hm) I.kIn J e (fun z => nomatch z) fun tk => ⟨.bl b, H, I.kept (t' := tk) fun _ _ z => z, rfl, q⟩
      have hno : PySem.W.notCls oe = true := by unfold PySem.W.notCls; rw [hv] <;> rfl
      cases d with
      | none => exact fin none ⟨hget, hz.1, hno, by rw [hz.2]; trivial⟩
      | some dd =>
        obtain ⟨fs, hf⟩ := hd dd rfl
        have hx : ObjOk X.prog X.w H s.heap dd (.xd fs) := I.hok dd _ hf
        obtain ⟨mA, hns, _⟩ := hx
        obtain ⟨od, ho, _⟩ := lookIn_ns hns
        exact fin (some od) ⟨hget, hz.1, hno, by rw [hz.2]; exact ho⟩
/-- what there is to an own class of exceptions without an __init__ of its own -/
structure Xno (K : PySem.W.Frag) (C : Addr) : Prop where
  cls : ∃ nm q N bs bm hdct sn sub ab col dd k0 k1 k2 k3 k5, K.lookup C = some (excClassObj nm q C N bs bm hdct sn sub ab col dd k0 k1 k2 k3 k5 "ValueError.__new__") ∧ HandSPX.refsVE bm = true
  ini : PySem.W.findIn K (.ref C) "__init__" = some (some (.builtin "ValueError.__init__"))
  kC : PySem.W.keepIn K (.ref C) = true
  s : PySem.W.subIn K (.ref C) (.type "BaseException") = some true
  t : PySem.W.typeIn K (.ref C) = some (.type "type")
/-- raise C() -/
theorem pmk_own0 {C : Addr} {x : Str} {p pos : Pos} (q : Xno X.K C) (gC : X.mg x = some (.ref C)) (hg : Gl X x := by rfl)
    (hdb : (x == ("__debug__" : Str)) = false := by decide) : PMk X (.Call (.Name x p) [] [] pos) (fun _ H Q => Q (.ref C) none H) := by
  intro pins s σ H Q I h
  refine wpAny_Call_Name_kw (ld_glob I hg gC ?_ hdb)
  refine PySem.W.callWith_K0 (first := []) I.kIn q.kC ?_
  obtain ⟨nm, qn, N, bs, bm, hdct, sn, sub, ab, col, dd, k0, k1, k2, k3, k5, hC, hbm⟩ := q.cls
  have kin := I.kIn
  obtain ⟨hp, g, d, tk, os⟩ := s
  refine PySem.W.call_B PySem.F.excBase_ValueError (fun T => HandSPX.refsVE_contains T bm hbm) (kin _ _ hC) (PySem.W.looks_findIn kin q.ini) (Nat.zero_le _) fun h' k he ht => ?_
  exact ⟨hp.objs.size + 1, _, _, ⟨hp, g, d, tk, os⟩, H, .ref C, none, rfl, I, k, Heap.get?_none_of_le (Nat.le_succ _), he, ⟨rfl, rfl⟩, rfl, rfl, I.hok.fresh (Nat.le_succ _), rfl, I.bare, raises_own q.s q.t, h⟩
theorem ps_raise0 {C : Addr} {x : Str} {W : WX} {p pos pos2 : Pos} (hc : X.calm = true) (tk : Takes X W) (q : Xno X.K C) (gC : X.mg x = some (.ref C)) (hg : Gl X x := by rfl)
    (hdb : (x == ("__debug__" : Str)) = false := by decide) : PS X (.Raise (some (.Call (.Name x p) [] [] pos)) none pos2) (fun _ σ H => W (.ref C) none σ H) := ps_raise hc tk (pmk_own0 q gC hg hdb)
/-- ValueError(), as a value -/
def tVE : TE := fun _ H Q => ∀ a, H a = none → Q (.ref a) (upd H a (ExD (.type "ValueError") none a))
theorem pe_VE {x : Str} {p pos : Pos} (hg : Gl X x) (hm : X.mg x = none) (hv : bootBuiltins x = some (.type "ValueError")) (hn : x ≠ "__name__" := by decide) (hdb : (x == ("__debug__" : Str)) = false := by decide) : PE X (.Call (.Name x p) [] [] pos) tVE := by
  refine ⟨fun pins s σ H Q I h => ?_⟩
  refine wpAny_Call_Name_kw (ld_blt I hg hm hv ?_ hn hdb)
  obtain ⟨hp1, g1, d1, tk1, os1⟩ := s
  refine PyProof.Rows.callWith_type0 (wpAny_call_exc exb_ValueError.call (fun h' a mk => ?_) (Nat.zero_le _))
  have hm := PySem.Heap.MadeExc.of mk
  obtain ⟨t, ht, _, _⟩ := hm.there
  have hno : H a = none := I.hok.gone hm.new
  exact ⟨.ref a, upd H a (ExD (.type "ValueError") none a), I.laidN hm.keeps hm.new hno ⟨⟨_, _, ht, ⟨rfl, rfl⟩, rfl⟩, ⟨_, ht⟩, fun _ _ ⟨o, w, q, r⟩ k => ⟨o, w, k o q, r⟩⟩, rfl, h a hno⟩
/-- isinstance(e, c), e a ValueError -/
def rIsVE (K : PySem.W.Frag) : List V → Hp → VK → Prop := fun xs H Q => ∃ (a : Addr) (d : Option Addr) (c : V) (cv : Value) (b : Bool), xs = [.ref a, c] ∧ H a = some (ExD (.type "ValueError") d a) ∧ (∀ u, RelV c u → u = cv) ∧ PySem.W.kitOne K (.type "ValueError") cv = some b ∧ Q (.bl b) H
theorem call_isVE : CallR X (.builtin "isinstance") (rIsVE X.K) := by
  intro pins s σ H xs us Q I r h
  obtain ⟨a, d, c, cv, b, rfl, ha, hcv, e, q⟩ := h
  cases r with
  | cons rx rr =>
    cases rr with
    | cons rt rr =>
      cases rr
      cases rx
      have ec := hcv _ rt
      subst ec
      obtain ⟨⟨oe, vs, hget, hz, hv⟩, _, _⟩ := I.hok a _ ha
      exact PySem.W.kia_one (PySem.W.kitx_bexc PySem.F.excAttr_ValueError PySem.F.lkClass_ValueError PySem.F.soClass_ValueError rfl) I.kIn ⟨oe, hget, hz.1⟩ e (fun z => nomatch z) fun tk => ⟨.bl b, H, I.kept (t' := tk) fun _ _ z => z, rfl, q⟩
end
end L2

/-! # C(f = v), C an own exception: nothing but keywords -/
namespace PySem
namespace HandSPX
open PySem.W PySem.Calls PyProof.Rows
section
variable {prog : Program} {w : World} {A : Around} {E : Value → Shared → Prop} {R : Result → Shared → Prop} {h : Heap} {g : Array GenState} {d : Drawn} {t : Nat} {os : OsState}
variable {nm q : Str} {C N : Addr} {bs bm bmB : List Value} {hdct : Bool} {sn : List Str} {sub : List Value} {ab : Bool} {col : Option Bool} {dd : Option Addr} {k0 k1 k2 k3 k5 : Option Value} {B newId initId : String} {kw : List (Str × Value)}
theorem kx_checkNew (F : ExcBaseFacts B newId initId bmB) (hT : ∀ X : String, bm.contains (.type X) = bmB.contains (.type X)) {Q : Unit → Shared → Prop}
    (hC : h.get? C = some (excClassObj nm q C N bs bm hdct sn sub ab col dd k0 k1 k2 k3 k5 newId)) (hq : Q () ⟨h, g, d, t, os⟩) : wpAny (model prog w) A (checkBuiltinCall newId ⟨[.ref C], kw⟩) Q E ⟨h, g, d, t, os⟩ := by
  have hcont : (Value.ref C :: bm).contains (.type B) = true := by rw [List.contains_cons, hT, F.hasB, Bool.or_true]
  have hstar := F.noStar
  simp only [checkBuiltinCall, F.newKind, F.newSplit, F.newRow]
  repeat (first | refine wpAny_loadPart_at hC ?_ | (refine wpAny_isSubtype_exc hC ?_; rw [hcont]) | refine wpAny_staticBase_exc hC ?_ | refine wpAny_madeBy_exc hC ?_ | simp only [bne_self_eq_false, Bool.false_eq_true, if_false] | wp_step)
  exact hq
theorem kx_new (F : ExcBaseFacts B newId initId bmB) (hT : ∀ X : String, bm.contains (.type X) = bmB.contains (.type X))
    (hC : h.get? C = some (excClassObj nm q C N bs bm hdct sn sub ab col dd k0 k1 k2 k3 k5 newId))
    (hq : R (.ok (.ret (.ref (h.objs.size + 1)))) ⟨(h.push (kdv_tup [])).push (excO C h.objs.size), g, d, t, os⟩) :
    codeAny (model prog w) A (.builtin newId ⟨[.ref C], kw⟩) R ⟨h, g, d, t, os⟩ := by
  have hends := F.ends
  have hcB : (Value.ref C :: bm).contains (.type B) = true := by rw [List.contains_cons, hT, F.hasB, Bool.or_true]
  have hcA : (Value.ref C :: bm).contains (.type "AttributeError") = false := by rw [List.contains_cons, hT, F.noAttr]; rfl
  have hcN : (Value.ref C :: bm).contains (.type "NameError") = false := by rw [List.contains_cons, hT, F.noName]; rfl
  refine codeAny_builtinAt F.entry ?_
  unfold Builtin.«BaseException.__new__»
  refine wpAt_bind ?_
  show wpAt _ _ _ (stack >>= _) _ _ _
  refine wpAt_bind (wpAt_stack fun p below => wpAt_of_wpAny ?_)
  wp_walk
  refine wpAt_of_wpAny ?_
  rw [F.owner]
  repeat (first | with_reducible refine wpAny_madeHere_exc F.canon hC ?_ | with_reducible refine wpAny_loadPart_at hC ?_ | (with_reducible refine wpAny_isSubtype_exc hC ?_; first | rw [hcB] | rw [hcA] | rw [hcN]) | wp_step)
  show R _ _
  rw [Heap.size_push]
  exact hq
theorem kx_call (F : ExcBaseFacts B newId initId bmB) (hT : ∀ X : String, bm.contains (.type X) = bmB.contains (.type X)) {fI : Addr}
    (hC : h.get? C = some (excClassObj nm q C N bs bm hdct sn sub ab col dd k0 k1 k2 k3 k5 newId))
    (hi : W.Looks (model prog w) h (typeLookup (.ref C) "__init__") (some (.ref fI))) (hb : ∀ self, W.Looks (model prog w) h (bindSpecial (.ref fI) self) (.ref fI, [self]))
    (hq : codeAny (model prog w) (A.under (.builtin "type.__call__" ⟨[.ref C], kw⟩)) (.call (.ref fI) ⟨[.ref (h.objs.size + 1)], kw⟩) (W.InitBack (h.objs.size + 1) R) ⟨(h.push (kdv_tup [])).push (excO C h.objs.size), g, d, t, os⟩) :
    codeAny (model prog w) A (.call (.ref C) ⟨[], kw⟩) R ⟨h, g, d, t, os⟩ := by
  have f1 := tc_lookup
  have f2 := tc_bind (.ref C)
  have hTy : (⟨h, g, d, t, os⟩ : Shared).TypeIs (.ref C) "type" := ⟨_, hC, rfl⟩
  refine codeAny_of_tree ?_
  show wpAny _ _ (callAny (.ref C) _) _ _ _
  repeat (any_goals (first | assumption | with_reducible refine wpAny_loadPart_at hC ?_ | wp_step))
  refine ⟨rfl, ?_⟩
  refine codeAny_call_builtin_at (Code.quiet_builtin _ (by decide +kernel)) entry_typeCall ?_
  have chk : ∀ {M : Model} {A : Around} {Q : Unit → Shared → Prop} {E : Value → Shared → Prop}, Q () ⟨h, g, d, t, os⟩ → wpAny M A (checkBuiltinCall "type.__call__" ⟨[.ref C], kw⟩) Q E ⟨h, g, d, t, os⟩ := fun {M A Q E} hq => by
    have f3 := tc_sub
    simp only [checkBuiltinCall, tc_kind, tc_split]
    repeat (any_goals (first | assumption | with_reducible refine wpAny_loadPart_at hC ?_ | with_reducible refine wpAny_onRaise ?_ | with_reducible refine wpAny_map ?_ | wp_step))
  refine chk ?_
  have k : ∀ b o, h.get? b = some o → ((h.push (kdv_tup [])).push (excO C h.objs.size)).get? b = some o := fun b o e => Heap.get?_push_of_some _ (Heap.get?_push_of_some _ e)
  have hC₁ := k _ _ hC
  have hget : ((h.push (kdv_tup [])).push (excO C h.objs.size)).get? (h.objs.size + 1) = some (excO C h.objs.size) := by heap_get
  have hcC : (Value.ref C :: bm).contains (.ref C) = true := by simp
  have i1 := hi.keeps k
  have b1 := (hb (.ref (h.objs.size + 1))).keeps k
  repeat (first | with_reducible refine wpAny_loadPart_at hC ?_ | with_reducible refine wpAny_madeBy_exc hC ?_ | wp_step)
  refine codeAny_call_builtin_code (Code.quiet_builtin _ F.quiet) (kx_checkNew F hT hC ?_)
  refine kx_new F hT hC ?_
  show wpAny _ _ _ _ _ _
  unfold isInstance
  repeat (first | with_reducible refine wpAny_loadPart_at hget ?_ | (with_reducible refine wpAny_isSubtype_exc hC₁ ?_; rw [hcC]) | wp_step)
  show wpAny _ _ (typeLookup (.ref C) _) _ _ _
  refine i1.at ?_
  refine wpAny_holding (wpAny_bind (b1.at ?_))
  refine wpAny_bind (wpAny_call (codeAny_mono hq fun r s' z => ?_))
  rcases r with e | (v | _ | _ | _) <;> first | exact z | exact z.elim | skip
  obtain ⟨rfl, z⟩ := z
  first
    | exact wpAny_pure (wpAny_pure z)
    | (wp_walk; exact z)
end
end HandSPX
end PySem
namespace XIX
open PySem PySem.W PySem.Calls PyProof.Rows PySem.HandSPX
section
variable {prog : Program} {w : World} {A : Around} {E : Value → Shared → Prop} {R : Result → Shared → Prop} {s : Shared} {K : Frag} {mg : Str → Option Value} {nm qual par fld : Str} {C fI : Addr} {base : Heap}
theorem x_madeK (T : XTxt prog K mg nm qual par fld C fI) {v : Value} {kw : List (Str × Value)} (hb : ArgsTo K fI par ⟨[], kw⟩ v) (Mo : L2.Mod K mg base) (bs : ∀ b o, base.get? b = some o → s.heap.get? b = some o) (hroom : A.depth + 1 < recursionLimit)
    (hq : ∀ h' tk e d, OwnMade s.heap h' e C d fld v → R (.ok (.ret (.ref e))) { s with heap := h', toks := tk }) :
    codeAny (model prog w) A (.call (.ref C) ⟨[], kw⟩) R s := by
  obtain ⟨nm', q, N, bas, bm, sn, sub, ab, col, dd, k0, k1, k2, k3, k5, hC, hbm⟩ := T.cls
  have X : K.In s.heap := Mo.kin.keeps bs
  obtain ⟨hp, g, dr, tk, os⟩ := s
  have k : ∀ b o, hp.get? b = some o → ((hp.push (kdv_tup [])).push (excO C hp.objs.size)).get? b = some o := fun b o e => Heap.get?_push_of_some _ (Heap.get?_push_of_some _ e)
  have hget : ((hp.push (kdv_tup [])).push (excO C hp.objs.size)).get? (hp.objs.size + 1) = some (excO C hp.objs.size) := by heap_get
  have hnx : K.lookup (hp.objs.size + 1) = none := by
    cases e : K.lookup (hp.objs.size + 1) with
    | none => rfl
    | some o =>
      have z : hp.get? (hp.objs.size + 1) = some o := X _ _ e
      exact absurd (Nat.lt_of_succ_lt (Heap.lt_size z)) (Nat.lt_irrefl _)
  refine kx_call F.excBase_ValueError (fun X => refsVE_contains X bm hbm) (X _ _ hC) (looks_findIn X T.iC) (fun self => bind_fn X self T.tC) ?_
  refine x_init (s := ⟨(hp.push (kdv_tup [])).push (excO C hp.objs.size), g, dr, tk, os⟩) (args := ⟨[], kw⟩) T hb Mo (fun b o e => k _ _ (bs _ _ e)) hget hnx ?_ fun h' tk' dx t1 ⟨k', hx, dn, dne, hns⟩ => ?_
  · show A.depth + 1 < recursionLimit
    exact hroom
  · have old : ∀ b o, hp.get? b = some o → h'.get? b = some o := fun b o e => k' b o (Nat.ne_of_lt (Nat.lt_succ_of_lt (Heap.lt_size e))) (k b o e)
    have z : hp.objs.size + 1 + 1 ≤ dx := by
      first
        | (simpa only [Heap.size_push] using dn)
        | exact dn
        | (have q := dn; rw [Heap.size_push, Heap.size_push] at q; exact q)
    exact ⟨rfl, hq h' tk' (hp.objs.size + 1) dx ⟨old, Nat.le_succ _, ⟨t1, hx⟩, Nat.le_trans (Nat.le_trans (Nat.le_succ _) (Nat.le_succ _)) z, dne, hns⟩⟩
theorem args_kw (T : XTxt prog K mg nm qual par fld C fI) (hbind : ∀ (qual' : Str) (body : List Stmt) (kV doc pm : Value) (an : Option Addr) (cdv ct : Value) (r1 r2 : Pos) (cl : List (Str × Addr)) (x : Addr) (u : Value),
    bindArgs (fnX "__init__" qual' (iA par r1 r2) body (iS par) cl .none kV doc pm an cdv ct) ⟨[.ref x], [(par, u)]⟩ = pure [(("self" : Str), Value.ref x), (par, u)]) (u : Value) : ArgsTo K fI par ⟨[], [(par, u)]⟩ u := fun s x fd oc od osl h => by
  obtain ⟨oc, od, kV, doc, pm, an, cda, cc, ct, osl, txt, j, r1, r2, p0, p1, p2, p3, p4, p5, q1, q2, q3, q4, ho, _⟩ := T.fn
  rw [ho] at h
  cases h
  exact BindsTo.of_eq (hbind _ _ _ _ _ _ _ _ _ _ _ _ _)
end
end XIX
namespace L2
open PySem PySem.Spec PyProof.Rows
section
variable {X : Cx} {C fI : Addr} {nm qual par fld : Str}
/-- C(p = e).f -/
theorem pe_xf2 {a : Expr} {ta : TE} {p pos pos2 kpos : Pos} {k : Nat} (T : XIX.XTxt X.prog X.K X.mg nm qual par fld C fI) (hb : ∀ u, XIX.ArgsTo X.K fI par ⟨[], [(par, u)]⟩ u) (hr : Room k X.A) (hk : 1 ≤ k) (ha : PE X a ta) (hg : Gl X nm := by rfl)
    (hdb : (nm == ("__debug__" : Str)) = false := by decide) (hba : attributeBase (.Call (.Name nm p) [] [⟨some par, a, kpos⟩] pos) fld X.env (eval (.Call (.Name nm p) [] [⟨some par, a, kpos⟩] pos) X.env) = eval (.Call (.Name nm p) [] [⟨some par, a, kpos⟩] pos) X.env := by rfl) :
    PE X (.Attribute (.Call (.Name nm p) [] [⟨some par, a, kpos⟩] pos) fld pos2) (tXF (tCons ta tNil)) := by
  refine ⟨fun pins s σ H Q I h => ?_⟩
  refine attr_of hba ?_
  refine wpAny_Call_Name_kw (ld_glob I hg T.gC ?_ hdb)
  refine PySem.W.callWith_KW0 (h₀ := X.base) I.ok.mod.kin T.kC rfl ?_ rfl
  have hkw : PK X [⟨some par, a, kpos⟩] (tCons ta tNil) := pk_cons ha pk_nil
  refine thn (hkw.run pos pins s σ H _ I h) fun us s1 hh => ?_
  obtain ⟨vs, H1, I1, r1, v, ev, q1⟩ := hh
  subst ev
  refine ⟨I1.kIn, ?_⟩
  cases r1 with
  | @cons _ u _ ur rv rn =>
    cases rn
    show wpAny (model X.prog X.w) X.A (call (.ref C) [] [(par, u)]) _ _ s1
    refine wpAny_call (codeAny_mono (XIX.x_madeK (R := fun r s' => ∃ e h' tk d, r = .ok (.ret (.ref e)) ∧ s' = { s1 with heap := h', toks := tk } ∧ XIX.OwnMade s1.heap h' e C d fld u) T (hb u) I1.ok.mod I1.bk ?_ fun h' tk e d M => ⟨e, h', tk, d, rfl, rfl, M⟩) fun r s' hh => ?_)
    · have z := hr.dp
      omega
    · obtain ⟨e, h', tk, d, rfl, rfl, M⟩ := hh
      exact xf_read T I1 rv M q1
end
end L2

/-! # {t: x}, t a tuple of texts and tuples -/
namespace Dn
open PySem L2 Evl PyProof.Rows
mutual
def keyB : PyData → Bool
  | .none | .bool _ | .int _ | .str _ => true
  | .tuple ds => keyBs ds
  | _ => false
def keyBs : List PyData → Bool
  | [] => true
  | d :: ds => keyB d && keyBs ds
end
section
variable {X : Cx} {pins : List (Addr × Obj)} {σ : L2.St} {H : Hp} {s : Shared}
theorem Dr.nest (I : Inv X pins σ H s) {v : V} {d : PyData} (h : Dr X.K H v d) : ∀ u, RelV v u → keyB d = true → ∃ k, NestedIs s.heap k u ∧ k.depth ≤ d.depth :=
  Dr.rec (motive_1 := fun v d _ => ∀ u, RelV v u → keyB d = true → ∃ k, NestedIs s.heap k u ∧ k.depth ≤ d.depth) (motive_2 := fun vs ds _ => ∀ us, Vals vs us → keyBs ds = true → ∃ ks, NestedAll s.heap ks us ∧ NestedKey.depthAll ks ≤ PyData.depthAll ds)
    (motive_3 := fun _ _ _ => True)
    (fun u r _ => by cases r; exact ⟨_, .none, Nat.zero_le _⟩) (fun b u r _ => by cases r; exact ⟨_, .bool rfl, Nat.zero_le _⟩) (fun i u r _ => by obtain ⟨t, rfl⟩ := r; exact ⟨_, .int i t, Nat.zero_le _⟩) (fun x u r _ => by obtain ⟨t, rfl⟩ := r; exact ⟨_, .text x t, Nat.zero_le _⟩)
    (fun _ _ _ u _ p => by cases p)
    (fun hs _ ih u r p => by
      cases r
      obtain ⟨its, rv, ⟨o, ho, hc, n, hd⟩, _⟩ := I.tuple hs
      obtain ⟨ks, k1, k2⟩ := ih _ rv (by rw [keyB] at p; exact p)
      refine ⟨.tup ks, .tup ho hc hd (by simpa using k1), ?_⟩
      rw [PyData.depth, NestedKey.depth]; omega)
    (fun _ _ _ u _ p => by cases p) (fun _ _ _ u _ p => by cases p) (fun _ _ _ u _ p => by cases p) (fun _ _ _ _ _ _ u _ p => by cases p)
    (fun us r _ => by cases r; exact ⟨[], .nil, Nat.zero_le _⟩) (fun _ _ a b us r p => by
      cases r with
      | cons r1 r2 =>
        rw [keyBs, Bool.and_eq_true] at p
        obtain ⟨k, a1, a2⟩ := a _ r1 p.1
        obtain ⟨ks, b1, b2⟩ := b _ r2 p.2
        refine ⟨k :: ks, .cons a1 b1, ?_⟩
        rw [PyData.depthAll, NestedKey.depthAll]; omega)
    True.intro (fun _ _ _ _ => True.intro) h
/-- the dict of one pair -/
def OneO (a : Addr) (kv vv : V) : HO := .ext fun h => One h a kv vv
theorem one_ok {P : Program} {w : World} {H : Hp} {h : Heap} {a : Addr} {kv vv : V} (q : One h a kv vv) : ObjOk P w H h a (OneO a kv vv) := by
  refine ⟨q, ?_, fun h1 h2 z k => ?_⟩
  · obtain ⟨o, _, _, e, _⟩ := q; exact ⟨o, e⟩
  · obtain ⟨o, e, n, h0, r⟩ := z; exact ⟨o, e, n, k o h0, r⟩
/-- {k: v} -/
def tOne (K : PySem.W.Frag) (tk tv : TE) : TE := fun σ H Q => ∀ a, H a = none → tk σ (upd H a (.dK [])) fun kv H1 => tv σ H1 fun vv H2 => H2 a = some (.dK []) ∧ (∃ ks, Dr K H2 kv (.tuple ks) ∧ keyBs ks = true ∧ (PyData.tuple ks).depth ≤ 8) ∧ Q (.ref a) (upd H2 a (OneO a kv vv))
theorem pe_one {k v : Expr} {tk tv : TE} {pos : Pos} (hk : PE X k tk) (hv : PE X v tv) (hu : X.A.units + 64 < cLine) : PE X (.Dict [some k] [v] pos) (tOne X.K tk tv) := by
  refine ⟨fun pins s σ H Q I h => ?_⟩
  have hn := I.hok.fresh (Nat.le_refl s.heap.objs.size)
  have I1 := I.laid (a := s.heap.objs.size) (o := .dK []) (h' := s.heap.push { cls := .type "dict", data := .dict #[] }) (t' := s.toks) (fun _ _ q => Heap.get?_push_of_some _ q) (Nat.le_refl _) (dk_empty s.heap I.big)
  have hroom : (nestedKind X.prog X.w).room X.A := by show X.A.units + 8 < cLine; omega
  rw [arm_eval_Dict, zip_pairTrees [some k] [v] X.env pos rfl rfl, dictDisplay_pairs _ (by simp [pairTrees]) (by simp [pairTrees])]
  refine wpAny_bind (wpAny_standAt (wpAny_bind (wpAny_subDictH (knd := nestedKind X.prog X.w) hroom (by simp [pairTrees]) ?_)))
  refine pairTrees_cons_walk (thn (hk.run pins _ σ _ _ I1 (h _ hn)) fun ku s1 ⟨kv, H1, I2, r1, q1⟩ => thn (hv.run pins s1 σ H1 _ I2 q1) fun vu s2 ⟨vv, H2, I3, r2, e, ⟨ks, dk, kb, kd⟩, q⟩ => pairTrees_nil_walk ?_)
  obtain ⟨nk, n1, n2⟩ := dk.nest I3 ku r1 (by rw [keyB]; exact kb)
  cases dk with
  | @tup a xs _ hs _ =>
    cases r1
    obtain ⟨z, hd, vs0, r0, dd⟩ := dk_of I3.hok e
    cases r0
    have dd0 : s2.heap.DictOfH (nestedKind X.prog X.w) s.heap.objs.size [] := by
      obtain ⟨o, es, ep, ho, hx, hdt, _, hp, _⟩ := dd
      have he : es.toList = [] := by
        generalize es.toList = l at hp
        cases hp; rfl
      exact ⟨o, es, ep, ho, hx, hdt, he, (fun x m => (nomatch m)), List.nodup_nil⟩
    refine ⟨[(nk, a, vu)], ⟨rfl, rfl, ⟨n1, Nat.le_trans n2 kd⟩, True.intro⟩, dd0, fun h' tk hD hs' => ?_⟩
    obtain ⟨o, es, ep, ho, hx, hdt, hes, _⟩ := hD
    have hone : One h' s.heap.objs.size (.ref a) vv := by
      have hea : es = #[entryOfKey (nestedKind X.prog X.w) (nk, a, vu)] := Array.ext' (by rw [hes]; rfl)
      subst hea
      exact ⟨o, _, ep, ho, hx.1, hdt, hd, rfl, r2⟩
    exact wpAny_pure ⟨.ref s.heap.objs.size, _, d_write I3 (by rw [e]; exact True.intro) hs' ⟨o, ho⟩ (one_ok hone), rfl, q⟩
end
section
variable {K : Frag} {fd : Ad} {env : List Sl} {C : PyData → Prop}
theorem wp_one {i j : Nat} {ks : List PyData} {dv : PyData} (e1 : env[i]? = some (.dat (.tuple ks))) (e2 : env[j]? = some (.dat dv)) (hk : keyBs ks = true) (hd : (PyData.tuple ks).depth ≤ 8) (q : C (.dict [(.tuple ks, dv)])) : wpE K fd (tOne K (tVar i) (tVar j)) env C := fun F σ H I Q k => fun a ha => by
  obtain ⟨o1, x1, s1⟩ := I.get e1
  obtain ⟨o2, x2, s2⟩ := I.get e2
  cases o1 with
  | none => exact s1.elim
  | some v1 =>
    cases o2 with
    | none => exact s2.elim
    | some v2 =>
      have s1 : Dr K (off F H) v1 (.tuple ks) := s1
      have s2 : Dr K (off F H) v2 dv := s2
      have ex : Ex H (upd H a (.dK [])) := Ex.new ha
      refine ⟨v1, x1, v2, x2, upd_same, ⟨ks, dmono (fun b o z => ex b o (off_full b o z)) s1, hk, hd⟩, ?_⟩
      have e3 : upd (upd H a (.dK [])) a (OneO a v1 v2) = upd H a (OneO a v1 v2) := upd_two
      rw [e3]
      refine k _ _ _ (.ex I.feed (Ex.new ha)) (.dtp (φ := fun h => One h a v1 v2) (by rw [off_ne fun z => I.there a z ha]; exact upd_same) (fun h z => z) (dmono (off_exE (Ex.new ha)) s1) (dmono (off_exE (Ex.new ha)) s2)) q
end
end Dn

/-! # repr and isinstance with such dicts among the data -/
namespace Dn
open PySem L2 Evl PyProof.Rows
mutual
def rdx : PyData → Bool
  | .list ds => rdxs ds
  | .tuple ds => rdxs ds
  | .dict kvs => rdxKv kvs
  | _ => true
def rdxs : List PyData → Bool
  | [] => true
  | d :: ds => rdx d && rdxs ds
def rdxKv : List (PyData × PyData) → Bool
  | [] => true
  | (.str _, d) :: r => rdx d && rdxKv r
  | [(.tuple ks, d)] => rdxs ks && rdx d
  | _ => false
end
section
variable {X : Cx} {pins : List (Addr × Obj)} {σ : L2.St} {H : Hp} {s : Shared}
theorem Dr.rdsX (I : Inv X pins σ H s) {v : V} {d : PyData} (h : Dr X.K H v d) : ∀ u, RelV v u → rdx d = true → RdS s.heap u d :=
  Dr.rec (motive_1 := fun v d _ => ∀ u, RelV v u → rdx d = true → RdS s.heap u d) (motive_2 := fun vs ds _ => ∀ us, Vals vs us → rdxs ds = true → RdSs s.heap us ds)
    (motive_3 := fun fs kvs _ => ∀ us, Vals (fs.map (·.2)) us → rdxKv kvs = true → kvs.map (·.1) = (fs.map (·.1)).map PyData.str ∧ RdSs s.heap us (kvs.map (·.2)))
    (fun u r _ => by cases r; exact .none) (fun b u r _ => by cases r; exact .bl b) (fun i u r _ => by obtain ⟨t, rfl⟩ := r; exact .int i t) (fun x u r _ => by obtain ⟨t, rfl⟩ := r; exact .str x t)
    (fun hs _ ih u r p => by
      cases r
      obtain ⟨its, rv, ⟨o, n, ho, hc, _, hd⟩, _⟩ := I.list (sq_of hs)
      exact .lst ho hc hd (ih _ (by simpa using rv) (by rw [rdx] at p; exact p)))
    (fun hs _ ih u r p => by
      cases r
      obtain ⟨its, rv, ⟨o, ho, hc, n, hd⟩, _⟩ := I.tuple hs
      exact .tup ho hc hd (ih _ (by simpa using rv) (by rw [rdx] at p; exact p)))
    (fun _ _ _ u r p => by rw [rdx, rdxKv] at p; cases p; all_goals (intros; contradiction))
    (fun _ _ _ u r p => by rw [rdx, rdxKv] at p; cases p; all_goals (intros; contradiction))
    (fun hs _ ih u r p => by
      cases r
      obtain ⟨_, hns, vs, rk, o, es, ep, ho, hx, hdt, _, hp, _⟩ := dk_of I.hok hs
      obtain ⟨⟨ts, h1, h2⟩, h3⟩ := pairs_keys rk hp
      obtain ⟨k1, k2⟩ := ih _ h3 (by rw [rdx] at p; exact p)
      refine .dct ho hx.1 hdt hns ?_ k2
      rw [h1, k1]
      exact strs_rd _ _ (by rw [h2, List.length_map]))
    (fun hs ho _ _ ih1 ih2 u r p => by
      cases r
      obtain ⟨q, _, _⟩ := I.hok _ _ hs
      obtain ⟨o, e, n, h0, hc, hd, hsm, rk, rv⟩ := ho _ q
      rw [rdx, rdxKv, Bool.and_eq_true] at p
      exact .dct h0 hc hd hsm (.cons (ih1 _ rk (by rw [rdx]; exact p.1)) .nil) (.cons (ih2 _ rv p.2) .nil))
    (fun us r _ => by cases r; exact .nil) (fun _ _ a b us r p => by
      cases r with
      | cons r1 r2 =>
        rw [rdxs, Bool.and_eq_true] at p
        exact .cons (a _ r1 p.1) (b _ r2 p.2))
    (fun us r _ => by cases r; exact ⟨rfl, .nil⟩) (fun _ _ a b us r p => by
      cases r with
      | cons r1 r2 =>
        rw [rdxKv, Bool.and_eq_true] at p
        obtain ⟨q1, q2⟩ := b _ r2 p.2
        exact ⟨by rw [List.map_cons, List.map_cons, List.map_cons, q1], .cons (a _ r1 p.1) q2⟩) h
end
def rReprX (K : Frag) : List V → Hp → VK → Prop := fun vs H Q => ∃ (x : V) (d : PyData), vs = [x] ∧ Dr K H x d ∧ rdx d = true ∧ d.showable = true ∧ d.shown.length ≤ 1000000 ∧ d.depth ≤ 100 ∧ Q (.str d.shown) H
theorem cr_reprX {X : Cx} (hg : X.A.guards = some []) (hu : X.A.units + 200 < cLine) : CallR X (.builtin "repr") (rReprX X.K) := by
  intro pins s σ H vs us Q I r hh
  obtain ⟨x, d, rfl, hd, hp, hs, hz, hdp, q⟩ := hh
  obtain ⟨u, rfl, ru⟩ := r.one
  have hz2 : d.shown.length ≤ sizeLine := by rw [sizeLine_eq]; omega
  have rd := Dr.rdsX I hd u ru hp
  have top : ∀ a, u = .ref a → wpAny (model X.prog X.w) X.A (call (.builtin "repr") [u]) (EP X pins σ Q) X.xe s := fun a e => by
    subst e
    obtain ⟨T, idr, S⟩ := rd.by (prog := X.prog) (w := X.w) hs hz2
    refine call_repr_slot (by omega) (S.typeIs s fun _ _ m => m) S.slotRepr (S.call X.A.in1 _ s _ hg ?_ (fun _ _ m => m) fun h2 t tk k => ⟨_, _, rfl, .str _, H, I.kept (t' := tk) k, ⟨_, rfl⟩, q⟩)
    show X.A.units + 1 + d.depth < cLine
    omega
  cases rd with
  | none => exact PySem.P.repr_of_none ⟨.str _, H, I.tok _, ⟨_, rfl⟩, q⟩
  | bl b => exact PySem.P.repr_of_bool ⟨.str _, H, I.tok _, ⟨_, rfl⟩, q⟩
  | int i t => exact PySem.P.repr_of_int (of_decide_eq_true hs) ⟨.str _, H, I.tok _, ⟨_, rfl⟩, q⟩
  | str y t => exact PySem.P.repr_of_str ⟨.str _, H, I.tok _, ⟨_, rfl⟩, q⟩ hz2
  | lst _ _ _ _ => exact top _ rfl
  | tup _ _ _ _ => exact top _ rfl
  | dct _ _ _ _ _ _ => exact top _ rfl
section
variable {K : Frag} {fd : Ad} {env : List Sl} {te ta : TE} {C : PyData → Prop}
theorem cad_reprX {d : PyData} (hp : rdx d = true) (hs : d.showable = true) (hz : d.shown.length ≤ 1000000) (hd : d.depth ≤ 100) (c : C (.str d.shown)) : CaD K (rReprX K) [d] C := fun F H vs th r Q k => by
  cases r with
  | cons a b => cases b; exact ⟨_, d, rfl, dmono off_full a, hp, hs, hz, hd, k _ H _ (Ex.refl H) (.str _) c⟩
/-- the class of any data -/
def tyXN : PyData → Option String
  | .dict ((.tuple _, _) :: _) => some "dict"
  | d => tyName d
def isX (d : PyData) (T : String) : Option Bool := (tyXN d).bind fun n => kitB n T
def rIsX (K : Frag) : List V → Hp → VK → Prop := fun xs H Q => rIsi K xs H Q ∨ ∃ (a : Addr) (φ : Heap → Prop) (kv vv : V) (T : String) (b : Bool), xs = [.ref a, .ty T] ∧ H a = some (.ext φ) ∧ (∀ h, φ h → One h a kv vv) ∧ kitB "dict" T = some b ∧ Q (.bl b) H
theorem call_isX {X : Cx} : CallR X (.builtin "isinstance") (rIsX X.K) := by
  intro pins s σ H xs us Q I r h
  rcases h with h | ⟨a, φ, kv, vv, T, b, rfl, ha, hφ, e, q⟩
  · exact call_isi pins s σ H xs us Q I r h
  · cases r with
    | cons rx rr =>
      cases rr with
      | cons rt rr =>
        cases rr
        cases rx
        cases rt
        obtain ⟨z, _, _⟩ := I.hok a _ ha
        obtain ⟨o, en, n, h0, hc, _⟩ := hφ _ z
        exact PySem.W.kia_one PySem.W.kitx_dict I.kIn ⟨o, h0, hc⟩ (kit_ty e) (fun z => nomatch z) fun tk => ⟨.bl b, H, I.kept (t' := tk) fun _ _ z => z, rfl, q⟩
theorem wp_isX {T : String} (h : wpE K fd ta env fun d => ∃ b, isX d T = some b ∧ C (.bool b)) : wpE K fd (tCB (rIsX K) (tCons ta (tCons (tC (.ty T)) tNil))) env C := fun F σ H I Q k =>
  h F σ H I _ fun x H1 d u r c => by
    obtain ⟨b, e, c⟩ := c
    have old : tyXN d = tyName d → rIsX K [x, .ty T] H1 Q := fun z => by
      unfold isX at e
      rw [z] at e
      cases en : tyName d with
      | none => rw [en] at e; cases e
      | some n =>
        rw [en] at e
        exact .inl ⟨x, .ty T, .type n, .type T, b, rfl, .ty T, tyx r en, kit_ty e, k _ H1 _ u (.bl b) c⟩
    cases r with
    | @dtp a φ kv vv ks dv hs ho _ _ => exact .inr ⟨a, φ, kv, vv, T, b, rfl, (off_some hs).2, ho, e, k _ H1 _ u (.bl b) c⟩
    | non => exact old rfl
    | bl b => exact old rfl
    | int i => exact old rfl
    | str x => exact old rfl
    | lst _ _ => exact old rfl
    | tup _ _ => exact old rfl
    | ins _ _ => exact old rfl
    | giv _ _ => exact old rfl
    | dct _ ra =>
      cases ra with
      | nil => exact old rfl
      | cons _ _ => exact old rfl
end
end Dn

/-! # x = f(feed, ..): what is handed out is a new list -/
namespace Dn
open PySem L2 Evl PyProof.Rows
theorem all_det {K : Frag} {G G' : Hp} : ∀ {es : List PyData} {us : List V} {xs : List PyData}, (∀ x, x ∈ es → flat x = true) → DrAll K G us es → DrAll K G' us xs → es = xs
  | [], us, xs, _, h1, h2 => by cases h1; cases h2; rfl
  | e :: es, us, xs, hf, h1, h2 => by
    cases h1 with
    | cons a b =>
      cases h2 with
      | cons a2 b2 =>
        rw [all_det (fun x m => hf x (List.mem_cons_of_mem _ m)) b b2]
        congr 1
        have f := hf e (List.mem_cons_self ..)
        cases a with
        | non => cases a2; rfl
        | bl b => cases a2; rfl
        | int i => cases a2; rfl
        | str x => cases a2; rfl
        | lst _ _ => cases f
        | tup _ _ => cases f
        | ins _ _ => cases f
        | giv _ _ => cases f
        | dct _ _ => cases f
        | dtp _ _ _ _ => cases f
theorem all_at2 {K : Frag} {G : Hp} {v : V} : ∀ {ds : List PyData} {vs : List V}, DrAll K G vs ds → v ∈ vs → ∃ d, d ∈ ds ∧ Dr K G v d
  | _, _, h, m => by
    cases h with
    | nil => cases m
    | cons a b =>
      rcases List.mem_cons.mp m with rfl | m
      · exact ⟨_, List.mem_cons_self .., a⟩
      · obtain ⟨d, hd, r⟩ := all_at2 b m
        exact ⟨d, List.mem_cons_of_mem _ hd, r⟩
theorem all_flat {K : Frag} {G G' : Hp} {ds : List PyData} {vs : List V} (hf : ∀ x, x ∈ ds → flat x = true) (h : DrAll K G vs ds) : DrAll K G' vs ds := by
  induction ds generalizing vs with
  | nil => cases h; exact .nil
  | cons d ds ih =>
    cases h with
    | cons a b => exact .cons (dflat (hf d (List.mem_cons_self ..)) a) (ih (fun x m => hf x (List.mem_cons_of_mem _ m)) b)
section
variable {K : Frag} {fd : Ad} {env : List Sl} {tas : TA} {P : Po}
theorem wpS_asgFN {f : Addr} {G : List PyData → (PyData → Prop) → Prop} {E : XK} {i j : Nat} (e : env[j]? = some (.fed f)) (hfd : fd = fun a => a = f)
    (h : wpA K fd tas env fun ds => (∀ d, d ∈ ds → flat d = true ∨ ∃ es, d = .list es ∧ ∀ x, x ∈ es → flat x = true) ∧ G ds fun d => P.nx (env.set i (.dat d)) ∨ ∃ xs, d = .list xs ∧ tplAll xs = true ∧ (∀ es, PyData.list es ∈ ds → es ≠ xs) ∧ ∀ p, P.nx (env.set i (.own p xs))) :
    wpS K fd (tAsg (tCall (spF K G) [] E (tCons (tVar j) tas)) (gName i)) env P := fun F0 H0 σ H I D k => by
  subst hfd
  have I0 := I.ev
  obtain ⟨o, h1, h2⟩ := I0.get e
  cases o with
  | none => exact False.elim h2
  | some v =>
    obtain ⟨rfl, _⟩ := h2
    refine ⟨_, h1, h _ σ H I0 _ fun vs H1 ds u r g => ?_⟩
    obtain ⟨ha, g⟩ := g
    show spF K G ((V.ref f :: vs) ++ []) H1 _ E
    rw [List.append_nil]
    have I1 := I0.up u
    have I1 := I0.up u
    have hrefs : ∀ a, (fun a => H1 a ≠ none ∧ ((F0 a ∨ a ∈ ownd env) ∨ V.ref a ∉ vs)) a → H1 a ≠ none := fun a z => z.1
    have conv : ∀ (ds' : List PyData) (ws : List V), (∀ d, d ∈ ds' → flat d = true ∨ ∃ es, d = .list es ∧ ∀ x, x ∈ es → flat x = true) → (∀ x, x ∈ ws → x ∈ vs) → DrAll K (off (fun a => F0 a ∨ a ∈ ownd env) H1) ws ds' → DrAll K (off (fun a => H1 a ≠ none ∧ ((F0 a ∨ a ∈ ownd env) ∨ V.ref a ∉ vs)) H1) ws ds' := by
      intro ds'
      induction ds' with
      | nil => intro ws _ _ h; cases h; exact .nil
      | cons d ds' ih =>
        intro ws hf hm h
        cases h with
        | @cons v ws' _ _ a b =>
          refine .cons ?_ (ih ws' (fun x m => hf x (List.mem_cons_of_mem _ m)) (fun x m => hm x (List.mem_cons_of_mem _ m)) b)
          rcases hf d (List.mem_cons_self ..) with z | ⟨es, rfl, z⟩
          · exact dflat z a
          · cases a with
            | @lst a us _ sa ra =>
              obtain ⟨n, e⟩ := off_some sa
              refine .lst (xs := us) ?_ (all_flat z ra)
              rw [off_ne (S := fun a => H1 a ≠ none ∧ ((F0 a ∨ a ∈ ownd env) ∨ V.ref a ∉ vs)) fun w => w.2.elim n fun w => w (hm _ (List.mem_cons_self ..))]
              exact e
    refine ⟨f, vs, fun a => H1 a ≠ none ∧ ((F0 a ∨ a ∈ ownd env) ∨ V.ref a ∉ vs), ds, _, rfl, ⟨I1.there f (I1.fdF f rfl), .inl (I1.fdF f rfl)⟩, u.feed, hrefs, conv ds vs ha (fun x m => m) r, g, fun w H' d u2 rd c => ?_⟩
    have ut := u.trans u2
    have FF : ∀ a, (F0 a ∨ a ∈ ownd env) → H1 a ≠ none ∧ ((F0 a ∨ a ∈ ownd env) ∨ V.ref a ∉ vs) := fun a z => ⟨I1.there a z, .inl z⟩
    have rd2 : Dr K (off (fun a => F0 a ∨ a ∈ ownd env) H') w d := dmono (off_less FF) rd
    rcases c with c | ⟨xs, rfl, ht, hne, c⟩
    · exact k.nx _ _ _ c ((I.upE ut).set (x := .dat d) rd2 (fun p ds e => by cases e))
    · cases rd with
      | @lst a us _ sa ra =>
        obtain ⟨n, ea⟩ := off_some sa
        have hn : H1 a = none := by
          cases q : H1 a with
          | none => rfl
          | some o =>
            have m : V.ref a ∈ vs := Classical.byContradiction fun z => n ⟨fun z => (by rw [q] at z; cases z), .inr z⟩
            obtain ⟨d, hd, rv⟩ := all_at2 r m
            rcases ha d hd with z | ⟨es, rfl, z⟩
            · cases rv <;> cases z
            · cases rv with
              | @lst _ us2 _ sa2 ra2 =>
                have q2 := (off_some sa2).2
                have nf : ¬ (a = f) := fun z => (off_some sa2).1 (I1.fdF a z)
                have q3 := u2.keep a _ nf q2
                rw [ea] at q3
                cases q3
                exact absurd (all_det z ra2 ra) (hne es hd)
        have hn0 : H a = none := none_back I0.there I0.fdF u hn
        refine k.nx _ _ _ (c a) (I.newOwn ut hn0 ea ?_)
        refine dr_hideAll (F := fun a => F0 a ∨ a ∈ ownd env) (fun b z1 z2 => ?_) xs ht (dmonoAll (off_less FF) ra)
        rcases z1 with z1 | z1
        · exact absurd z1 z2
        · subst z1; exact ⟨us, ea⟩
end
end Dn

/-! # defs that keep no list that stood -/
namespace Dn
open PySem L2 Evl PyProof.Rows
/-- a def whose answer keeps no list that stood -/
def spPY (K : Frag) (G : List PyData → (PyData → Prop) → Prop) : Sp := fun vs H Q _ => ∃ (F : Ad) (ds : List PyData) (C : PyData → Prop), (∀ a, F a → H a ≠ none) ∧ DrAll K (off F H) vs ds ∧ G ds C ∧
  ∀ r H' d, Ex H H' → Dr K (off (fun a => F a ∨ Lsts H a) H') r d → C d → Q r H'
section
variable {K : Frag} {fd : Ad} {env : List Sl} {tas : TA} {C : PyData → Prop} {G : List PyData → (PyData → Prop) → Prop} {E : XK}
theorem wp_callY (h : wpA K fd tas env fun ds => G ds C) : wpE K fd (tCall (spPY K G) [] E tas) env C := fun F σ H I Q k =>
  h F σ H I _ fun vs H1 ds u r g => by
    show spPY K G (vs ++ []) H1 Q E
    rw [List.append_nil]
    exact ⟨F, ds, C, (I.up u).there, r, g, fun r H' d e rd c => k r H' d (u.trans (.ex u.feed e)) (dmono (off_less fun a z => .inl z) rd) c⟩
/-- f(xs), xs an own list -/
theorem wp_callYO {i : Nat} {q : Addr} {es : List PyData} (e : env[i]? = some (.own q es)) (g : G [.list es] C) : wpE K fd (tCall (spPY K G) [] E (tCons (tVar i) tNil)) env C := fun F σ H I Q k => by
  obtain ⟨o, e1, h⟩ := I.get e
  cases o with
  | none => exact h.elim
  | some v =>
    obtain ⟨rfl, hF, hfd, xs, hq, r⟩ := h
    refine ⟨_, e1, ?_⟩
    refine ⟨fun a => F a ∧ a ≠ q, [.list es], C, fun a z => I.there a z.1, all_one (.lst (xs := xs) ?_ (dmonoAll (off_less fun a z => z.1) r)), g, fun w H' d ex rd c => k w H' d (.ex I.feed ex) (dmono (off_less fun a z => ?_) rd) c⟩
    · rw [off_ne (S := fun a => F a ∧ a ≠ q) fun z => z.2 rfl]; exact hq
    · by_cases w : a = q
      · exact .inr ⟨xs, by rw [w]; exact hq⟩
      · exact .inl ⟨z, w⟩
end
end Dn

namespace Gr
open PySem L2 Evl Dn
def top (i : Nat) : Stmt := PySem.Challenge.pw_graftrules_k05_values_that_are_lots.main.body.getD i (.Pass ⟨0, 0, 0, 0⟩)
abbrev s__wall : Stmt := top 0
abbrev s_BadLot___init__ : Stmt := inClass (top 3) 0
abbrev s_is_name : Stmt := top 7
abbrev s_is_node : Stmt := top 8
abbrev s_is_low_tree : Stmt := top 9
abbrev s_every_part : Stmt := top 10
abbrev s_size : Stmt := top 11
abbrev s_rank : Stmt := top 12
abbrev s_ordered : Stmt := top 13
abbrev s_parts_of : Stmt := top 14
abbrev s_is_side : Stmt := top 20
abbrev s_is_rule : Stmt := top 21
abbrev s_told_parts : Stmt := top 22
abbrev s_Lot___init__ : Stmt := inClass (top 23) 0
abbrev s_Lot_rules : Stmt := inClass (top 23) 1
abbrev s_Lot_parts : Stmt := inClass (top 23) 2
abbrev s_Lot___len__ : Stmt := inClass (top 23) 3
abbrev s_Lot___contains__ : Stmt := inClass (top 23) 4
abbrev s_Lot___eq__ : Stmt := inClass (top 23) 5
abbrev s_Lot___add__ : Stmt := inClass (top 23) 6
abbrev s_Lot_turned : Stmt := inClass (top 23) 7
abbrev s_Lot_without : Stmt := inClass (top 23) 8
abbrev s__law_feed : Stmt := top 25
abbrev s__law_take : Stmt := top 26
abbrev s__law_pick : Stmt := top 27
abbrev s__law_names : Stmt := top 28
abbrev s__law_grow : Stmt := top 29
abbrev s__law_tree : Stmt := top 30
abbrev s__law_size : Stmt := top 31
abbrev s__law_parts : Stmt := top 32
abbrev s__law_ordered : Stmt := top 33
abbrev s__law_told : Stmt := top 34
abbrev s__law_odd : Stmt := top 35
abbrev s__law_rules : Stmt := top 36
abbrev s__law_is_tree : Stmt := top 37
abbrev s__law_levels : Stmt := top 38
abbrev s__law_is_rule : Stmt := top 39
abbrev s__law_first : Stmt := top 40
abbrev s__law_made : Stmt := top 41
abbrev s__law_wide : Stmt := top 42
abbrev s__law_near : Stmt := top 43
abbrev s_law : Stmt := top 44
structure Bi (mg : Str → Option Value) : Prop where
  len : mg "len" = none
  range : mg "range" = none
  list : mg "list" = none
  tuple : mg "tuple" = none
  sum : mg "sum" = none
  max : mg "max" = none
  min : mg "min" = none
  abs : mg "abs" = none
  int : mg "int" = none
  repr : mg "repr" = none
  sorted : mg "sorted" = none
  enumerate : mg "enumerate" = none
  isinstance : mg "isinstance" = none
  reversed : mg "reversed" = none
  all : mg "all" = none
  str : mg "str" = none
  bool : mg "bool" = none
  dict : mg "dict" = none
  any : mg "any" = none
abbrev N__law_feed : List Str := ["script", "k", "seed", "digits"]
abbrev P__law_feed : List Str := ["script", "k"]
theorem sc__law_feed : FnScope N__law_feed P__law_feed (defScope s__law_feed) := ⟨rfl, rfl, rfl, by decide +kernel, rfl, by decide +kernel, by decide +kernel⟩
abbrev N__law_take : List Str := ["feed", "many", "digit"]
abbrev P__law_take : List Str := ["feed", "many"]
theorem sc__law_take : FnScope N__law_take P__law_take (defScope s__law_take) := ⟨rfl, rfl, rfl, by decide +kernel, rfl, by decide +kernel, by decide +kernel⟩
abbrev N__law_pick : List Str := ["feed", "some"]
abbrev P__law_pick : List Str := ["feed", "some"]
theorem sc__law_pick : FnScope N__law_pick P__law_pick (defScope s__law_pick) := ⟨rfl, rfl, rfl, by decide +kernel, rfl, by decide +kernel, by decide +kernel⟩
abbrev N__law_size : List Str := ["tree", "child"]
abbrev P__law_size : List Str := ["tree"]
theorem sc__law_size : FnScope N__law_size P__law_size (defScope s__law_size) := ⟨rfl, rfl, rfl, by decide +kernel, rfl, by decide +kernel, by decide +kernel⟩
abbrev N_every_part : List Str := ["tree", "found", "waiting", "part"]
abbrev P_every_part : List Str := ["tree"]
theorem sc_every_part : FnScope N_every_part P_every_part (defScope s_every_part) := ⟨rfl, rfl, rfl, by decide +kernel, rfl, by decide +kernel, by decide +kernel⟩
abbrev N_size : List Str := ["tree"]
abbrev P_size : List Str := ["tree"]
theorem sc_size : FnScope N_size P_size (defScope s_size) := ⟨rfl, rfl, rfl, by decide +kernel, rfl, by decide +kernel, by decide +kernel⟩
abbrev N_rank : List Str := ["tree"]
abbrev P_rank : List Str := ["tree"]
theorem sc_rank : FnScope N_rank P_rank (defScope s_rank) := ⟨rfl, rfl, rfl, by decide +kernel, rfl, by decide +kernel, by decide +kernel⟩
section
variable {P : Program} {w : World} {K : Frag} {mg : Str → Option Value} {base : Heap}
/-! ### the feed -/
def gTake : List PyData → (PyData → Prop) → Prop := fun ds C => ∃ many : Int, ds = [.int many] ∧ 0 < many ∧ many < 1000000000 ∧ ∀ r : Int, 0 ≤ r → r < many → C (.int r)
theorem feed_one {f : Addr} {H : Hp} {d m : Int} (hd : 0 ≤ d) (hm : 0 ≤ m) (hm2 : m < 4294967311) : Up (fun a => a = f) H (upd H f (.lst [.int d, .int m])) :=
  ⟨fun a o n e => by rw [upd_ne n]; exact e, fun g z => by subst z; exact ⟨d, m, upd_same, hd, hm, hm2⟩⟩
theorem fmod_in {a b : Int} (h : 0 < b) : 0 ≤ a.fmod b ∧ a.fmod b < b := ⟨Int.fmod_nonneg_of_pos _ h, Int.fmod_lt_of_pos _ h⟩
theorem ok_take {f : Addr} {fdt : FuncData} (D : Df K mg "_law_take" s__law_take P__law_take f fdt) (B : Bi mg) : FnOk P w K mg base CX0 1 f fdt P__law_take (spF K gTake) := by
  refine D.F.ok sc__law_take (fun vs H Q E h => ?_) (fun cdv A outer s H vs Q E hr h => ?_)
  · obtain ⟨p, ws, F, ds, C, rfl, _, _, _, r, ⟨m, rfl, _⟩, _⟩ := h
    rw [List.length_cons, all_len r]; rfl
  · obtain ⟨p, ws, F, ds, C, rfl, hp, hf, th, r, ⟨many, rfl, h1, h2, hc⟩, q⟩ := h
    cases r with
    | cons r1 r2 =>
    cases r2; cases r1
    obtain ⟨d, m, e, hd, hm, hm2⟩ := hf p rfl
    refine ⟨_, (pss_cons (ps_if (pt_cmpR op_gt (pe_ix ix_list (pv 0) pe_int (fun _ _ => rfl)) pe_int (nomark _)) (pss_cons (ps_set (i := 2) sc__law_take.nd rfl (Or.inl rfl) (pe_op op_modN (pe_callTy call_int1 rfl B.int (by decide +kernel) (pa_cons (pe_ix ix_list (pv 0) pe_int (fun _ _ => rfl)) pa_nil)) (pv 1)))
      (pss_cons (ps_asg (pe_op op_fdivN (pe_ix ix_list (pv 0) pe_int (fun _ _ => rfl)) (pv 1)) (pg_sub (pv 0) pe_int set_list))
      (pss_one (ps_ret (pv 2))))) pss_nil)
      (pss_cons (ps_asg (pe_op op_modN (pe_callTy call_int1 rfl B.int (by decide +kernel) (pa_cons (pe_op op_add (pe_op op_mul (pe_ix ix_list (pv 0) pe_int (fun _ _ => rfl)) pe_int) pe_int) pa_nil)) pe_int) (pg_sub (pv 0) pe_int set_list))
      (pss_one (ps_ret (pe_op op_modN (pe_callTy call_int1 rfl B.int (by decide +kernel) (pa_cons (pe_op op_fdivN (pe_ix ix_list (pv 0) pe_int (fun _ _ => rfl)) pe_int) pa_nil)) (pv 1)))))), ?_⟩
    have e0 : atI [V.int d, V.int m] (0 : Int) = some (.int d) := rfl
    have e1 : atI [V.int d, V.int m] (1 : Int) = some (.int m) := rfl
    refine ⟨_, rfl, p, _, _, _, rfl, rfl, sq_of e, e0, _, _, rfl, rfl, _, rfl, ?_⟩
    refine ite2 (fun c => ?_) (fun c => ?_)
    · have c' : 0 < d := of_decide_eq_true c
      refine ⟨_, rfl, p, _, _, _, rfl, rfl, sq_of e, e0, .inl ⟨_, rfl, _, rfl, _, _, rfl, rfl, Int.ne_of_gt h1, ?_⟩⟩
      refine ⟨_, rfl, p, _, _, _, rfl, rfl, sq_of e, e0, _, rfl, _, _, rfl, rfl, ⟨Int.ne_of_gt h1, by omega⟩, _, rfl, p, _, _, 0, rfl, rfl, e, rfl, _, rfl, ?_⟩
      have z : 0 ≤ d.fdiv many := by
        rw [Int.fdiv_eq_ediv_of_nonneg _ (Int.le_of_lt h1)]
        exact Int.ediv_nonneg hd (Int.le_of_lt h1)
      exact q _ _ _ (feed_one z hm hm2) (.int _) (hc _ (fmod_in h1).1 (fmod_in h1).2)
    · refine ⟨_, rfl, p, _, _, _, rfl, rfl, sq_of e, e1, _, _, rfl, rfl, .inr ⟨by decide, by decide⟩, _, _, rfl, rfl,
        .inl ⟨_, rfl, _, _, rfl, rfl, (by show (4294967311 : Int) ≠ 0; decide), ?_⟩⟩
      have z := fmod_in (a := m * 69069 + 12345) (b := 4294967311) (by decide)
      refine ⟨_, rfl, p, _, _, 1, rfl, rfl, e, rfl, ?_⟩
      refine ⟨_, rfl, p, _, _, _, rfl, rfl, sq_of upd_same, rfl, _, _, rfl, rfl, ⟨by decide, by decide⟩, .inl ⟨_, rfl, _, rfl, _, _, rfl, rfl, Int.ne_of_gt h1, ?_⟩⟩
      exact q _ _ _ (feed_one hd z.1 z.2) (.int _) (hc _ (fmod_in h1).1 (fmod_in h1).2)

/-- some[_law_take(feed, len(some))]: some item of it -/
def gPick : List PyData → (PyData → Prop) → Prop := fun ds C => ∃ xs : List PyData, ds = [.list xs] ∧ xs ≠ [] ∧ xs.length < 100000 ∧ ∀ d, d ∈ xs → C d
theorem atI_in {α : Type} {xs : List α} {r : Int} (h0 : 0 ≤ r) (h1 : r < xs.length) : ∃ d, atI xs r = some d ∧ d ∈ xs := by
  have h : r.toNat < xs.length := by omega
  refine ⟨xs[r.toNat], ?_, List.getElem_mem _⟩
  unfold atI ixN
  rw [if_pos h0, if_pos (by omega)]
  exact List.getElem?_eq_getElem h
theorem ok_pick {f f_take : Addr} {fdt fdt_take : FuncData} (D : Df K mg "_law_pick" s__law_pick P__law_pick f fdt) (B : Bi mg) (D__law_take : Df K mg "_law_take" s__law_take P__law_take f_take fdt_take) : FnOk P w K mg base CX0 2 f fdt P__law_pick (spF K gPick) := by
  have G__law_take : FnOk P w K mg base CX0 1 _ _ _ _ := ok_take D__law_take B
  refine okF D.F sc__law_pick (fun ds C h => by obtain ⟨xs, rfl, _⟩ := h; rfl) (fun cdv A outer s H E hr => ?_)
  have hr__law_take := hr
  refine ⟨_, (pss_one (ps_ret (pe_ix ix_list (pv 1) (pe_call G__law_take hr__law_take rfl D__law_take.m D__law_take.F.kp D__law_take.b .nil pass0 (pa_cons (pv 0) (pa_cons (pe_callB call_len_seq rfl B.len PySem.boot_len (pa_cons (pv 1) pa_nil)) pa_nil))) (fun _ _ => rfl)))), fun p ds C h => ?_⟩
  obtain ⟨xs, rfl, h0, h1, hc⟩ := h
  refine wpS_ret (wp_op (wp_var rfl (wp_callF rfl rfl (wpA_cons (wp_cb (wpA_cons (wp_var rfl (wpA_nil (cad_lenL (wpA_nil ?_))))))))))
  have hp : 0 < xs.length := List.length_pos_iff.mpr h0
  refine ⟨_, rfl, by omega, by omega, fun r r0 r1 => ?_⟩
  obtain ⟨d, e, m⟩ := atI_in r0 r1
  exact opd_ixL e (hc d m)
/-! ### trees -/
inductive Tr where
  | node (n : Str) (cs : List Tr)
mutual
def Tr.d : Tr → PyData
  | .node n cs => .tuple (.str n :: Tr.ds cs)
def Tr.ds : List Tr → List PyData
  | [] => []
  | t :: ts => t.d :: Tr.ds ts
end
mutual
def Tr.size : Tr → Nat
  | .node _ cs => 1 + Tr.sizes cs
def Tr.sizes : List Tr → Nat
  | [] => 0
  | t :: ts => t.size + Tr.sizes ts
end
mutual
def Tr.lev : Tr → Nat
  | .node _ cs => 1 + Tr.levs cs
def Tr.levs : List Tr → Nat
  | [] => 0
  | t :: ts => max t.lev (Tr.levs ts)
end
theorem ds_map : ∀ cs : List Tr, Tr.ds cs = cs.map Tr.d
  | [] => rfl
  | t :: ts => congrArg (List.cons t.d) (ds_map ts)
theorem sizes_map : ∀ cs : List Tr, ((Tr.sizes cs : Nat) : Int) = (cs.map fun t => ((t.size : Nat) : Int)).sum
  | [] => rfl
  | t :: ts => by
    have ih := sizes_map ts
    show ((t.size + Tr.sizes ts : Nat) : Int) = ((t.size : Nat) : Int) + (ts.map fun t => ((t.size : Nat) : Int)).sum
    omega
theorem d_node (n : Str) (cs : List Tr) : (Tr.node n cs).d = .tuple (.str n :: cs.map Tr.d) := by rw [Tr.d, ds_map]
theorem cut_tl (x : PyData) (l : List PyData) : cut (x :: l) (some 1) none = l := by
  unfold cut
  have e1 : HT.sIx (x :: l).length 0 (some 1) = 1 := (HT.sIx_nat _ _ 1).trans (by rw [List.length_cons]; omega)
  have e2 : HT.sIx (x :: l).length (x :: l).length none = (x :: l).length := rfl
  rw [e1, e2, List.length_cons]
  show l.take (l.length + 1 - 1) = l
  rw [Nat.add_sub_cancel, List.take_length]
theorem lev_child {n : Str} {cs : List Tr} {t : Tr} {k : Nat} (h : (Tr.node n cs).lev ≤ k + 1) (m : t ∈ cs) : t.lev ≤ k := by
  have key : ∀ cs : List Tr, t ∈ cs → t.lev ≤ Tr.levs cs := by
    intro cs
    induction cs with
    | nil => intro m; cases m
    | cons c cs ih =>
      intro m
      show t.lev ≤ max c.lev (Tr.levs cs)
      rcases List.mem_cons.mp m with rfl | m
      · exact Nat.le_max_left _ _
      · exact Nat.le_trans (ih m) (Nat.le_max_right _ _)
  have z := key cs m
  have e : (Tr.node n cs).lev = 1 + Tr.levs cs := rfl
  omega
theorem lev_pos (t : Tr) : 1 ≤ t.lev := by
  cases t with
  | node n cs => show 1 ≤ 1 + _; omega
def gSize (k : Nat) : List PyData → (PyData → Prop) → Prop := fun ds C => ∃ t : Tr, ds = [t.d] ∧ t.lev ≤ k ∧ t.size < 100000 ∧ C (.int (t.size : Nat))
theorem size_child {n : Str} {cs : List Tr} {t : Tr} {k : Nat} (h : (Tr.node n cs).size < k) (m : t ∈ cs) : t.size < k := by
  have key : ∀ cs : List Tr, t ∈ cs → t.size ≤ Tr.sizes cs := by
    intro cs
    induction cs with
    | nil => intro m; cases m
    | cons c cs ih =>
      intro m
      show t.size ≤ c.size + Tr.sizes cs
      rcases List.mem_cons.mp m with rfl | m
      · exact Nat.le_add_right _ _
      · exact Nat.le_trans (ih m) (Nat.le_add_left _ _)
  have z := key cs m
  have e : (Tr.node n cs).size = 1 + Tr.sizes cs := rfl
  omega
theorem no_spP {f : Addr} {fdt : FuncData} {ps : List Str} {G : List PyData → (PyData → Prop) → Prop} {k : Nat} (h : ∀ ds C, ¬ G ds C) : FnOk P w K mg base CX0 k f fdt ps (spP K G) :=
  ⟨fun vs H Q E z => by obtain ⟨F, ds, C, _, _, g, _⟩ := z; exact absurd g (h ds C), fun A outer s H args us vs Q E _ _ _ _ z => by obtain ⟨F, ds, C, _, _, g, _⟩ := z; exact absurd g (h ds C)⟩
theorem len_le_size {n : Str} {cs : List Tr} : cs.length < (Tr.node n cs).size := by
  have key : ∀ cs : List Tr, cs.length ≤ Tr.sizes cs := by
    intro cs
    induction cs with
    | nil => exact Nat.le_refl _
    | cons c cs ih =>
      show cs.length + 1 ≤ c.size + Tr.sizes cs
      have : 1 ≤ c.size := by
        cases c with
        | node n cs => show 1 ≤ 1 + _; omega
      omega
  have e : (Tr.node n cs).size = 1 + Tr.sizes cs := rfl
  have := key cs
  omega
theorem ok_size {f : Addr} {fdt : FuncData} (D__law_size : Df K mg "_law_size" s__law_size P__law_size f fdt) (B : Bi mg) : ∀ k, FnOk P w K mg base CX0 (k + 1) f fdt P__law_size (spP K (gSize k))
  | 0 => no_spP fun ds C ⟨t, _, h, _⟩ => by have := lev_pos t; omega
  | k + 1 => by
    have G__law_size := ok_size D__law_size B k
    refine okP D__law_size.F sc__law_size (fun ds C h => by obtain ⟨t, rfl, _⟩ := h; rfl) (fun cdv A outer s H E hr => ?_)
    have hr__law_size := hr
    refine ⟨_, (pss_one (ps_ret (pe_op op_add pe_int (pe_callB (cr_sum rfl) rfl B.sum (by decide +kernel) (pa_cons (pe_lc rfl sc__law_size.nd (pi_tup (pe_slice sl_tupA (pv 0) (po_some pe_int) po_none)) (blkOk_by (own := [("child", 1)]) (N := N__law_size) (sc := defScope s__law_size) (by decide +kernel)) (fun _ _ _ _ _ => (pg_name (i := 1) sc__law_size.nd rfl (Or.inl rfl))) (fun _ _ _ _ _ => pts_nil) (fun _ _ _ _ _ => (pe_call G__law_size hr__law_size rfl D__law_size.m D__law_size.F.kp D__law_size.b .nil pass0 (pa_cons (pv 1) pa_nil)))) pa_nil))))), fun ds C h => ?_⟩
    obtain ⟨t, rfl, hl, hs, hc⟩ := h
    cases t with
    | node n cs =>
    have hlen := len_le_size (n := n) (cs := cs)
    refine wpS_ret (wp_op (wp_int (wp_cb (wpA_cons (wpE_new (wpN_lc (wpI_tup (wp_slT (wp_var rfl (wpO_some (wp_int ⟨1, rfl, wpO_none ⟨_, d_node n cs, ?_⟩⟩)))))))))))
    rw [cut_tl]
    refine ⟨_, rfl, fun i acc => acc = (cs.take i).map fun t => PyData.int ((t.size : Nat) : Int), rfl, ?_, ?_⟩
    · rintro i d acc e rfl
      rw [List.getElem?_map] at e
      cases q : cs[i]? with
      | none => rw [q] at e; cases e
      | some t =>
        rw [q] at e
        have e : t.d = d := Option.some.inj e
        subst e
        refine ⟨_, gD_name, by simp, wpT_yes ⟨fun _ => ?_, fun z => by cases z⟩⟩
        have m : t ∈ cs := List.mem_of_getElem? q
        refine wp_call (wpA_cons (wp_var rfl (wpA_nil ⟨t, rfl, lev_child hl m, size_child hs m, ?_⟩)))
        refine ⟨by rw [List.length_map, List.length_take]; omega, ?_⟩
        show _ ++ _ = _
        rw [List.take_add_one, q, List.map_append]
        rfl
    · rintro acc rfl
      rw [List.length_map, List.take_length]
      refine wpA_nil ?_
      have e : (cs.map fun t => PyData.int ((t.size : Nat) : Int)) = (cs.map fun t => ((t.size : Nat) : Int)).map PyData.int := by rw [List.map_map]; rfl
      rw [e]
      refine cad_sum (opd_ii ?_)
      rw [← sizes_map]
      exact hc
/-! ### every_part, size, rank -/
mutual
def Tr.parts : Tr → List Tr
  | .node n cs => .node n cs :: Tr.partsL cs
def Tr.partsL : List Tr → List Tr
  | [] => []
  | t :: ts => t.parts ++ Tr.partsL ts
end
theorem partsL_app : ∀ a b : List Tr, Tr.partsL (a ++ b) = Tr.partsL a ++ Tr.partsL b
  | [], b => rfl
  | t :: a, b => by
    show t.parts ++ Tr.partsL (a ++ b) = (t.parts ++ Tr.partsL a) ++ Tr.partsL b
    rw [partsL_app a b, List.append_assoc]
mutual
theorem parts_len : ∀ t : Tr, t.parts.length = t.size
  | .node n cs => by
    show (Tr.partsL cs).length + 1 = 1 + Tr.sizes cs
    rw [partsL_len cs]; omega
theorem partsL_len : ∀ ts : List Tr, (Tr.partsL ts).length = Tr.sizes ts
  | [] => rfl
  | t :: ts => by
    show (t.parts ++ Tr.partsL ts).length = t.size + Tr.sizes ts
    rw [List.length_append, parts_len t, partsL_len ts]
end
theorem sizes_app : ∀ a b : List Tr, Tr.sizes (a ++ b) = Tr.sizes a + Tr.sizes b := fun a b => by
  rw [← partsL_len, ← partsL_len, ← partsL_len, partsL_app, List.length_append]
theorem size_pos (t : Tr) : 1 ≤ t.size := by
  cases t with
  | node n cs => show 1 ≤ 1 + _; omega
theorem len_le_sizes : ∀ cs : List Tr, cs.length ≤ Tr.sizes cs
  | [] => Nat.le_refl _
  | c :: cs => by
    have := len_le_sizes cs
    have := size_pos c
    show cs.length + 1 ≤ c.size + Tr.sizes cs
    omega
def dl (l : List Tr) : List PyData := l.map Tr.d
def gEvery : List PyData → (PyData → Prop) → Prop := fun ds C => ∃ t : Tr, ds = [t.d] ∧ t.size < 50000 ∧ ∀ l : List Tr, l.Perm t.parts → C (.list (dl l))
theorem snoc_cases {α : Type} (l : List α) : l = [] ∨ ∃ a b, l = a ++ [b] := by
  rcases List.eq_nil_or_concat l with h | ⟨a, b, h⟩
  · exact .inl h
  · exact .inr ⟨a, b, by simpa using h⟩
theorem ok_every {f : Addr} {fdt : FuncData} (D : Df K mg "every_part" s_every_part P_every_part f fdt) (B : Bi mg) : FnOk P w K mg base CX0 1 f fdt P_every_part (spP K gEvery) := by
  refine okP D.F sc_every_part (fun ds C h => by obtain ⟨t, rfl, _⟩ := h; rfl) (fun cdv A outer s H E hr => ?_)
  refine ⟨_, (pss_cons (ps_set (i := 1) sc_every_part.nd rfl (Or.inl rfl) (pe_lst pa_nil))
      (pss_cons (ps_set (i := 2) sc_every_part.nd rfl (Or.inl rfl) (pe_lst (pa_cons (pv 0) pa_nil)))
      (pss_cons (ps_while PassesOwn.never (pt_truth (pv 2) (by intro _; rfl)) (pss_cons (ps_set (i := 3) sc_every_part.nd rfl (Or.inl rfl) (pe_bm0 PySem.F.plainAttrs_list PySem.F.slot_list_pop PySem.F.type_list_pop mt_pop (pv 2)))
      (pss_cons (ps_expr (pe_bm PySem.F.plainAttrs_list PySem.F.slot_list_append PySem.F.type_list_append mt_append (pv 1) (pa_cons (pv 3) pa_nil)))
      (pss_one (ps_expr (pe_bm PySem.F.plainAttrs_list PySem.F.slot_list_extend PySem.F.type_list_extend mt_extendT (pv 2) (pa_cons (pe_slice sl_tupA (pv 3) (po_some pe_int) po_none) pa_nil)))))))
      (pss_one (ps_ret (pv 1)))))), fun ds C h => ?_⟩
  obtain ⟨t, rfl, hs, hc⟩ := h
  refine wpS_seq (wpS_own (wpN_lst (wpA_nil ⟨by decide, fun p => ?_⟩)))
  refine wpS_seq (wpS_own (wpN_lst (wpA_cons (wp_var (d := t.d) rfl (wpA_nil ⟨(by show 1 ≤ 100000; decide), fun q => ?_⟩)))))
  refine wpS_seq (wpS_while (fun m env => ∃ (l ws : List Tr) (x : Sl), env = [.dat t.d, .own p (dl l), .own q (dl ws), x] ∧ (∀ a b, x ≠ .own a b) ∧ m = Tr.sizes ws ∧ (l ++ Tr.partsL ws).Perm t.parts) (Tr.sizes [t]) ⟨[], [t], .no, rfl, (fun a b z => by cases z), rfl, (by show (t.parts ++ []).Perm t.parts; rw [List.append_nil])⟩ ?_)
  rintro m env ⟨l, ws, x, rfl, hx, rfl, hp⟩
  have hlen : l.length + Tr.sizes ws = t.size := by
    have z := hp.length_eq
    rw [List.length_append, partsL_len, parts_len] at z
    exact z
  refine wpT_unown (wpT_tr (wp_var (d := .list (dl ws)) rfl (.inl ⟨_, .inl rfl, fun hb => ?_, fun hb => ?_⟩)))
  · rcases snoc_cases ws with rfl | ⟨ws, t1, rfl⟩
    · cases hb
    · have hws := len_le_sizes ws
      rw [sizes_app] at hlen
      have h1 : Tr.sizes [t1] = t1.size := by show t1.size + 0 = _; omega
      rw [h1] at hlen
      cases t1 with
      | node n cs =>
      have hcs := len_le_size (n := n) (cs := cs)
      refine wpS_seq (wpS_popT (ds := dl ws) (d := (Tr.node n cs).d) (as := [(3, (Tr.node n cs).d)]) (by show some _ = some _; unfold dl; rw [List.map_append]; rfl) gD_name ?_)
      refine wpS_seq (wpS_append (p := p) (ds := dl l) rfl (by unfold dl; rw [List.length_map]; omega) (wp_var (d := (Tr.node n cs).d) rfl ?_))
      refine wpS_extendT (p := q) (ds := dl ws) rfl (wp_slT (wp_var (d := (Tr.node n cs).d) rfl (wpO_some (wp_int ⟨1, rfl, wpO_none ⟨_, d_node n cs, ?_⟩⟩))))
      rw [cut_tl]
      refine ⟨_, rfl, by unfold dl; rw [List.length_map, List.length_map]; omega, ?_⟩
      have e1 : Tr.sizes (ws ++ cs) < Tr.sizes (ws ++ [Tr.node n cs]) := by
        rw [sizes_app, sizes_app, h1]
        show _ < _ + (1 + Tr.sizes cs)
        omega
      refine ⟨_, e1, l ++ [Tr.node n cs], ws ++ cs, .dat (Tr.node n cs).d, ?_, (fun a b z => by cases z), rfl, ?_⟩
      · unfold dl
        simp only [List.map_append]
        rfl
      · refine List.Perm.trans ?_ hp
        rw [partsL_app, partsL_app, List.append_assoc]
        refine List.Perm.append_left l ?_
        show (Tr.node n cs :: (Tr.partsL ws ++ Tr.partsL cs)).Perm (Tr.partsL ws ++ ((Tr.node n cs :: Tr.partsL cs) ++ []))
        rw [List.append_nil]
        exact (List.perm_middle (l₁ := Tr.partsL ws)).symm
  · have hw : ws = [] := by
      cases ws with
      | nil => rfl
      | cons a b => cases hb
    subst hw
    refine wpS_ret (wp_var (d := .list (dl l)) rfl (hc l ?_))
    have z : (l ++ []).Perm t.parts := hp
    rw [List.append_nil] at z
    exact z
def gSz : List PyData → (PyData → Prop) → Prop := fun ds C => ∃ t : Tr, ds = [t.d] ∧ t.size < 50000 ∧ C (.int (t.size : Nat))
theorem ok_sz {f f_ev : Addr} {fdt fdt_ev : FuncData} (D : Df K mg "size" s_size P_size f fdt) (B : Bi mg) (D_every_part : Df K mg "every_part" s_every_part P_every_part f_ev fdt_ev) : FnOk P w K mg base CX0 2 f fdt P_size (spP K gSz) := by
  have G_every_part : FnOk P w K mg base CX0 1 _ _ _ _ := ok_every D_every_part B
  refine okP D.F sc_size (fun ds C h => by obtain ⟨t, rfl, _⟩ := h; rfl) (fun cdv A outer s H E hr => ?_)
  have hr_every_part := hr
  refine ⟨_, (pss_one (ps_ret (pe_callB call_len_seq rfl B.len PySem.boot_len (pa_cons (pe_call G_every_part hr_every_part rfl D_every_part.m D_every_part.F.kp D_every_part.b .nil pass0 (pa_cons (pv 0) pa_nil)) pa_nil)))), fun ds C h => ?_⟩
  obtain ⟨t, rfl, hs, hc⟩ := h
  refine wpS_ret (wp_cb (wpA_cons (wp_call (wpA_cons (wp_var (d := t.d) rfl (wpA_nil ⟨t, rfl, hs, fun l hp => wpA_nil (cad_lenL ?_)⟩))))))
  have e : (dl l).length = t.size := by unfold dl; rw [List.length_map, hp.length_eq, parts_len]
  rw [e]; exact hc
/-- (size, tree) -/
def rk (t : Tr) : PyData := .tuple [.int (t.size : Nat), t.d]
def gRank : List PyData → (PyData → Prop) → Prop := fun ds C => ∃ t : Tr, ds = [t.d] ∧ t.size < 50000 ∧ C (rk t)
theorem ok_rank {f f_ev f_sz : Addr} {fdt fdt_ev fdt_sz : FuncData} (D : Df K mg "rank" s_rank P_rank f fdt) (B : Bi mg) (D_every_part : Df K mg "every_part" s_every_part P_every_part f_ev fdt_ev) (D_size : Df K mg "size" s_size P_size f_sz fdt_sz) : FnOk P w K mg base CX0 3 f fdt P_rank (spP K gRank) := by
  have G_size : FnOk P w K mg base CX0 2 _ _ _ _ := ok_sz D_size B D_every_part
  refine okP D.F sc_rank (fun ds C h => by obtain ⟨t, rfl, _⟩ := h; rfl) (fun cdv A outer s H E hr => ?_)
  have hr_size := hr
  refine ⟨_, (pss_one (ps_ret (pe_tup (pa_cons (pe_call G_size hr_size rfl D_size.m D_size.F.kp D_size.b .nil pass0 (pa_cons (pv 0) pa_nil)) (pa_cons (pv 0) pa_nil))))), fun ds C h => ?_⟩
  obtain ⟨t, rfl, hs, hc⟩ := h
  exact wpS_ret (wp_tup (wpA_cons (wp_call (wpA_cons (wp_var (d := t.d) rfl (wpA_nil ⟨t, rfl, hs, wpA_cons (wp_var (d := t.d) rfl (wpA_nil ⟨(by show 2 ≤ 100000; decide), hc⟩))⟩))))))
end
end Gr

namespace Gr
open PySem L2 Evl Dn PySem.W
/-! ### the order of trees -/
mutual
def dsz : PyData → Nat
  | .tuple xs => dszs xs
  | .str _ => 1
  | _ => 0
def dszs : List PyData → Nat
  | [] => 0
  | x :: xs => dsz x + dszs xs
end
mutual
theorem dsz_d : ∀ t : Tr, dsz t.d = t.size
  | .node n cs => by
    show dsz (.tuple (.str n :: Tr.ds cs)) = 1 + Tr.sizes cs
    rw [dsz, dszs, dsz, dszs_ds cs]
theorem dszs_ds : ∀ cs : List Tr, dszs (Tr.ds cs) = Tr.sizes cs
  | [] => by rw [Tr.ds, dszs]; rfl
  | t :: ts => by
    rw [Tr.ds, dszs, dsz_d t, dszs_ds ts]; rfl
end
def kfD (d : PyData) : PyData := .tuple [.int (dsz d : Nat), d]
theorem kf_rk (t : Tr) : kfD t.d = rk t := by unfold kfD rk; rw [dsz_d]
mutual
theorem alike_d : ∀ t u : Tr, alike t.d u.d = true
  | .node n cs, .node m es => by
    show alike (.tuple (.str n :: Tr.ds cs)) (.tuple (.str m :: Tr.ds es)) = true
    rw [alike, alikeAll, alike, alikeAll_ds cs es]; rfl
theorem alikeAll_ds : ∀ cs es : List Tr, alikeAll (Tr.ds cs) (Tr.ds es) = true
  | [], es => by rw [Tr.ds, alikeAll]
  | t :: ts, [] => by rw [Tr.ds, Tr.ds, alikeAll]
  | t :: ts, u :: us => by rw [Tr.ds, Tr.ds, alikeAll, alike_d t u, alikeAll_ds ts us]; rfl
end
mutual
theorem eqv_d : ∀ t u : Tr, PyData.eqv t.d u.d = true → t = u
  | .node n cs, .node m es, h => by
    have h : PyData.eqv (.tuple (.str n :: Tr.ds cs)) (.tuple (.str m :: Tr.ds es)) = true := h
    rw [PyData.eqv, PyData.eqvAll, PyData.eqv, Bool.and_eq_true] at h
    have e1 : n = m := by simpa using h.1
    rw [e1, eqvAll_ds cs es h.2]
theorem eqvAll_ds : ∀ cs es : List Tr, PyData.eqvAll (Tr.ds cs) (Tr.ds es) = true → cs = es
  | [], [], _ => rfl
  | [], u :: us, h => by rw [Tr.ds, Tr.ds, PyData.eqvAll] at h; cases h
  | t :: ts, [], h => by rw [Tr.ds, Tr.ds, PyData.eqvAll] at h; cases h
  | t :: ts, u :: us, h => by
    rw [Tr.ds, Tr.ds, PyData.eqvAll, Bool.and_eq_true] at h
    rw [eqv_d t u h.1, eqvAll_ds ts us h.2]
end
mutual
theorem eqv_self : ∀ t : Tr, PyData.eqv t.d t.d = true
  | .node n cs => by
    show PyData.eqv (.tuple (.str n :: Tr.ds cs)) (.tuple (.str n :: Tr.ds cs)) = true
    rw [PyData.eqv, PyData.eqvAll, PyData.eqv, eqvAll_self cs]; simp
theorem eqvAll_self : ∀ cs : List Tr, PyData.eqvAll (Tr.ds cs) (Tr.ds cs) = true
  | [] => by rw [Tr.ds, PyData.eqvAll]
  | t :: ts => by rw [Tr.ds, PyData.eqvAll, eqv_self t, eqvAll_self ts]; rfl
end
open Classical in
theorem eqv_dec (t u : Tr) : PyData.eqv t.d u.d = decide (t = u) := by
  by_cases h : t = u
  · subst h; rw [eqv_self, decide_eq_true rfl]
  · rw [decide_eq_false h]
    cases q : PyData.eqv t.d u.d with
    | true => exact absurd (eqv_d t u q) h
    | false => rfl
theorem toks_inj {x y : PyData} (h : alike x y = true) (e : keyToks x = keyToks y) : PyData.eqv x y = true := by
  cases q : PyData.eqv x y with
  | true => rfl
  | false =>
    have z := (toks_eqv x y h).2 q [] [Sum.inl 0]
    have key : ∀ l : List (Int ⊕ List Nat), PyProof.Rows.lexLt PyProof.Rows.itemOrd (l ++ []) (l ++ [Sum.inl 0]) = true := fun l => (lex_pre l [] [Sum.inl 0]).trans rfl
    have irr : ∀ l : List (Int ⊕ List Nat), PyProof.Rows.lexLt PyProof.Rows.itemOrd l l = false := fun l => PyProof.Rows.lex_irrefl (O := PyProof.Rows.itemOrd) l
    rw [e, key, irr] at z
    cases z
def leT (t u : Tr) : Bool := dataLe false kfD t.d u.d
theorem leT_eq (t u : Tr) : leT t u = !PyProof.Rows.lexLt PyProof.Rows.itemOrd (keyToks (rk u)) (keyToks (rk t)) := by
  rw [← kf_rk, ← kf_rk]; rfl
theorem le_total : TotalLe leT := ⟨fun a b c => (sortLe_total (PyProof.Rows.listOrd PyProof.Rows.itemOrd) false fun b => keyToks (kfD b)).trans a.d b.d c.d, fun a b => (sortLe_total (PyProof.Rows.listOrd PyProof.Rows.itemOrd) false fun b => keyToks (kfD b)).total a.d b.d⟩
theorem alike_rk (t u : Tr) : alike (rk t) (rk u) = true := by
  unfold rk
  rw [alike, alikeAll, alike, alikeAll, alike_d, alikeAll]; rfl
theorem le_anti {t u : Tr} (h1 : leT t u = true) (h2 : leT u t = true) : t = u := by
  rw [leT_eq, Bool.not_eq_true'] at h1 h2
  have e : keyToks (rk t) = keyToks (rk u) := PyProof.Rows.lex_total (O := PyProof.Rows.itemOrd) _ _ h2 h1
  have z := toks_inj (alike_rk t u) e
  unfold rk at z
  rw [PyData.eqv, PyData.eqvAll, PyData.eqvAll, Bool.and_eq_true, Bool.and_eq_true] at z
  exact eqv_d t u z.2.1
/-- sorted by rank -/
def srt (l : List Tr) : List Tr := l.mergeSort leT
theorem srt_dl (l : List Tr) : (dl l).mergeSort (dataLe false kfD) = dl (srt l) := (sort_maps Tr.d fun a _ b _ => rfl).symm
theorem srt_rk (l : List Tr) : (l.map rk).mergeSort (dataLe false id) = (srt l).map rk := (sort_maps rk fun a _ b _ => by rw [leT_eq]; rfl).symm
theorem srt_perm {l m : List Tr} (h : l.Perm m) : srt l = srt m := by
  refine List.Perm.eq_of_pairwise (le := fun a b => leT a b = true) (fun a b _ _ => le_anti) (sort_pairwise le_total l) (sort_pairwise le_total m) ?_
  exact ((List.mergeSort_perm l leT).trans h).trans (List.mergeSort_perm m leT).symm
open Classical in
/-- the first i of S, each once -/
noncomputable def pref (S : List Tr) : Nat → List Tr
  | 0 => []
  | i + 1 => pref S i ++ (if i = 0 ∨ S[i]? ≠ S[i - 1]? then S[i]?.toList else [])
theorem pref_last (S : List Tr) : ∀ i, i ≤ S.length → 0 < i → (pref S i).getLast? = S[i - 1]?
  | 0, _, h => by cases h
  | i + 1, h, _ => by
    have hi : i < S.length := h
    show (pref S i ++ _).getLast? = S[i]?
    rw [List.getElem?_eq_getElem hi]
    by_cases c : i = 0 ∨ some S[i] ≠ S[i - 1]?
    · rw [if_pos c]
      show (pref S i ++ [S[i]]).getLast? = _
      rw [List.getLast?_concat]
    · rw [if_neg c, List.append_nil]
      have c1 : i ≠ 0 := fun z => c (.inl z)
      have c2 : some S[i] = S[i - 1]? := Classical.byContradiction fun z => c (.inr z)
      rw [pref_last S i (Nat.le_of_lt hi) (Nat.pos_of_ne_zero c1), c2]
theorem pref_nil (S : List Tr) {i : Nat} (h : i ≤ S.length) (h0 : 0 < i) : pref S i ≠ [] := fun z => by
  have q := pref_last S i h h0
  rw [z, List.getElem?_eq_getElem (by omega)] at q
  cases q
theorem pref_len (S : List Tr) : ∀ i, (pref S i).length ≤ i
  | 0 => Nat.le_refl _
  | i + 1 => by
    show (pref S i ++ _).length ≤ i + 1
    rw [List.length_append]
    have := pref_len S i
    split
    · have z : S[i]?.toList.length ≤ 1 := by cases S[i]? <;> simp
      omega
    · show _ + 0 ≤ _; omega
theorem pref_yes {S : List Tr} {i : Nat} {t : Tr} (e : S[i]? = some t) (h : i = 0 ∨ ¬ S[i - 1]? = some t) : pref S (i + 1) = pref S i ++ [t] := by
  show pref S i ++ _ = _
  rw [if_pos (h.imp id fun h z => h (by rw [← z, e])), e]; rfl
theorem pref_no {S : List Tr} {i : Nat} {t : Tr} (e : S[i]? = some t) (h0 : i ≠ 0) (h : S[i - 1]? = some t) : pref S (i + 1) = pref S i := by
  show pref S i ++ _ = _
  rw [if_neg (fun z => z.elim h0 fun z => z (by rw [e, h])), List.append_nil]
/-- in order, each once -/
noncomputable def ord (l : List Tr) : List Tr := pref (srt l) (srt l).length
theorem ord_perm {l m : List Tr} (h : l.Perm m) : ord l = ord m := by unfold ord; rw [srt_perm h]
theorem srt_len (l : List Tr) : (srt l).length = l.length := List.length_mergeSort ..
theorem srt_mem {l : List Tr} {t : Tr} : t ∈ srt l ↔ t ∈ l := (List.mergeSort_perm l leT).mem_iff
theorem pref_mem {S : List Tr} {t : Tr} : ∀ {i}, t ∈ pref S i → t ∈ S
  | 0, h => by cases h
  | i + 1, h => by
    rcases List.mem_append.mp (show t ∈ pref S i ++ _ from h) with h | h
    · exact pref_mem h
    · split at h
      · cases e : S[i]? with
        | none => rw [e] at h; cases h
        | some u =>
          rw [e] at h
          have : t = u := by simpa using h
          rw [this]; exact List.mem_of_getElem? e
      · cases h
theorem ord_mem {l : List Tr} {t : Tr} (h : t ∈ ord l) : t ∈ l := srt_mem.mp (pref_mem h)
theorem ord_len (l : List Tr) : (ord l).length ≤ l.length := by
  have := pref_len (srt l) (srt l).length
  have e := srt_len l
  unfold ord
  omega
/-! ### what is known of the trees at hand -/
/-- a name: one to eight letters -/
def nOk (n : Str) : Bool := decide (1 ≤ n.length) && (decide (n.length ≤ 8) && n.cps.toList.all fun c => decide (97 ≤ c) && decide (c ≤ 122))
theorem nOk_str {n : Str} (h : nOk n = true) : PyData.strOk n = true := by
  unfold nOk at h
  rw [Bool.and_eq_true, Bool.and_eq_true] at h
  unfold PyData.strOk
  rw [Array.all_eq_true]
  intro i hi
  have z := List.all_eq_true.mp h.2.2 n.cps[i] (by simp)
  rw [Bool.and_eq_true] at z
  have := of_decide_eq_true z.2
  exact decide_eq_true (by omega)
mutual
def Tr.lay : Tr → Bool
  | .node n cs => nOk n && (decide (cs.length ≤ 4) && Tr.lays cs)
def Tr.lays : List Tr → Bool
  | [] => true
  | t :: ts => t.lay && Tr.lays ts
end
mutual
theorem lay_d : ∀ t : Tr, t.lay = true → t.d.canLay0 = true
  | .node n cs, h => by
    rw [Tr.lay, Bool.and_eq_true, Bool.and_eq_true] at h
    show PyData.canLay0 (.tuple (.str n :: Tr.ds cs)) = true
    rw [PyData.canLay0, PyData.canLayAll0, PyData.canLay0, lays_ds cs h.2.2]
    have := nOk_str h.1
    simpa using this
theorem lays_ds : ∀ cs : List Tr, Tr.lays cs = true → PyData.canLayAll0 (Tr.ds cs) = true
  | [], _ => by rw [Tr.ds, PyData.canLayAll0]
  | t :: ts, h => by
    rw [Tr.lays, Bool.and_eq_true] at h
    rw [Tr.ds, PyData.canLayAll0, lay_d t h.1, lays_ds ts h.2]; rfl
end
mutual
theorem depth_d : ∀ t : Tr, t.d.depth ≤ t.lev
  | .node n cs => by
    show PyData.depth (.tuple (.str n :: Tr.ds cs)) ≤ 1 + Tr.levs cs
    have := depths_ds cs
    rw [PyData.depth, PyData.depthAll, PyData.depth]
    omega
theorem depths_ds : ∀ cs : List Tr, PyData.depthAll (Tr.ds cs) ≤ Tr.levs cs
  | [] => by rw [Tr.ds, PyData.depthAll]; exact Nat.zero_le _
  | t :: ts => by
    rw [Tr.ds, PyData.depthAll]
    have := depth_d t
    have := depths_ds ts
    show _ ≤ max t.lev (Tr.levs ts)
    omega
end
mutual
theorem plain_d : ∀ t : Tr, plain t.d = true
  | .node n cs => by
    show plain (.tuple (.str n :: Tr.ds cs)) = true
    rw [Dn.plain, plainAll, plain_ds cs, Bool.and_true]; simp [Dn.plain]
theorem plain_ds : ∀ cs : List Tr, plainAll (Tr.ds cs) = true
  | [] => by rw [Tr.ds, plainAll]
  | t :: ts => by rw [Tr.ds, plainAll, plain_d t, plain_ds ts]; rfl
end
theorem plainAll_of : ∀ {l : List PyData}, (∀ d, d ∈ l → plain d = true) → plainAll l = true
  | [], _ => by rw [plainAll]
  | d :: l, h => by rw [plainAll, h d (List.mem_cons_self ..), plainAll_of fun d m => h d (List.mem_cons_of_mem _ m)]; rfl
theorem layAll_of : ∀ {l : List PyData}, (∀ d, d ∈ l → d.canLay0 = true) → PyData.canLayAll0 l = true
  | [], _ => by rw [PyData.canLayAll0]
  | d :: l, h => by rw [PyData.canLayAll0, h d (List.mem_cons_self ..), layAll_of fun d m => h d (List.mem_cons_of_mem _ m)]; rfl
theorem depthAll_of {n : Nat} : ∀ {l : List PyData}, (∀ d, d ∈ l → d.depth ≤ n) → PyData.depthAll l ≤ n
  | [], _ => by rw [PyData.depthAll]; exact Nat.zero_le _
  | d :: l, h => by
    rw [PyData.depthAll]
    have := h d (List.mem_cons_self ..)
    have := depthAll_of fun d m => h d (List.mem_cons_of_mem _ m)
    omega
structure Gd (t : Tr) : Prop where
  lev : t.lev ≤ 20
  size : t.size < 400
  lay : t.lay = true
theorem Gd.cmp {t : Tr} (h : Gd t) : cmp t.d = true := by
  unfold Dn.cmp SeqAt.shaped
  have := depth_d t
  have := h.lev
  rw [plain_d, lay_d t h.lay, decide_eq_true (by omega)]; rfl
theorem cmp_list {l : List PyData} (h : ∀ d, d ∈ l → plain d = true ∧ d.canLay0 = true ∧ d.depth ≤ 60) : cmp (.list l) = true := by
  unfold Dn.cmp SeqAt.shaped
  have := depthAll_of fun d m => (h d m).2.2
  rw [Dn.plain, plainAll_of fun d m => (h d m).1, PyData.canLay0, layAll_of fun d m => (h d m).2.1, PyData.depth, decide_eq_true (by omega)]; rfl
theorem cmp_tup {l : List PyData} (h : ∀ d, d ∈ l → plain d = true ∧ d.canLay0 = true ∧ d.depth ≤ 60) : cmp (.tuple l) = true := by
  unfold Dn.cmp SeqAt.shaped
  have := depthAll_of fun d m => (h d m).2.2
  rw [Dn.plain, plainAll_of fun d m => (h d m).1, PyData.canLay0, layAll_of fun d m => (h d m).2.1, PyData.depth, decide_eq_true (by omega)]; rfl
theorem Gd.three {t : Tr} (h : Gd t) : plain t.d = true ∧ t.d.canLay0 = true ∧ t.d.depth ≤ 60 := ⟨plain_d t, lay_d t h.lay, by have := depth_d t; have := h.lev; omega⟩
theorem Gd.list {l : List Tr} (h : ∀ t, t ∈ l → Gd t) : Dn.cmp (PyData.list (dl l)) = true := cmp_list fun d m => by
  obtain ⟨t, ht, e⟩ := List.mem_map.mp m
  rw [← e]; exact (h t ht).three
theorem lay_child {n : Str} {cs : List Tr} {t : Tr} (h : (Tr.node n cs).lay = true) (m : t ∈ cs) : t.lay = true := by
  rw [Tr.lay, Bool.and_eq_true, Bool.and_eq_true] at h
  have key : ∀ cs : List Tr, Tr.lays cs = true → t ∈ cs → t.lay = true := by
    intro cs
    induction cs with
    | nil => intro _ m; cases m
    | cons c cs ih =>
      intro h m
      rw [Tr.lays, Bool.and_eq_true] at h
      rcases List.mem_cons.mp m with rfl | m
      · exact h.1
      · exact ih h.2 m
  exact key cs h.2.2 m
theorem Gd.child {n : Str} {cs : List Tr} {t : Tr} (h : Gd (.node n cs)) (m : t ∈ cs) : Gd t :=
  ⟨Nat.le_trans (lev_child (k := (Tr.node n cs).lev) (Nat.le_succ _) m) h.lev, size_child h.size m, lay_child h.lay m⟩
mutual
theorem part_gd : ∀ {t p : Tr}, Gd t → p ∈ t.parts → Gd p
  | .node n cs, p, h, m => by
    rcases List.mem_cons.mp (show p ∈ Tr.node n cs :: Tr.partsL cs from m) with rfl | m
    · exact h
    · exact partL_gd (fun t ht => h.child ht) m
theorem partL_gd : ∀ {ts : List Tr} {p : Tr}, (∀ t, t ∈ ts → Gd t) → p ∈ Tr.partsL ts → Gd p
  | [], p, _, m => by cases m
  | t :: ts, p, h, m => by
    rcases List.mem_append.mp (show p ∈ t.parts ++ Tr.partsL ts from m) with m | m
    · exact part_gd (h t (List.mem_cons_self ..)) m
    · exact partL_gd (fun t ht => h t (List.mem_cons_of_mem _ ht)) m
end
theorem eqvAll_dl : ∀ l m : List Tr, PyData.eqvAll (dl l) (dl m) = true ↔ l = m := fun l m => by
  refine ⟨fun h => ?_, fun h => ?_⟩
  · unfold dl at h; rw [← ds_map, ← ds_map] at h; exact eqvAll_ds l m h
  · subst h; unfold dl; rw [← ds_map]; exact eqvAll_self l
end Gr

namespace Gr
open PySem L2 Evl Dn
abbrev N_ordered : List Str := ["trees", "found", "tree"]
abbrev P_ordered : List Str := ["trees"]
theorem sc_ordered : FnScope N_ordered P_ordered (defScope s_ordered) := ⟨rfl, rfl, rfl, by decide +kernel, rfl, by decide +kernel, by decide +kernel⟩
abbrev N_parts_of : List Str := ["trees", "tree", "part"]
abbrev P_parts_of : List Str := ["trees"]
theorem sc_parts_of : FnScope N_parts_of P_parts_of (defScope s_parts_of) := ⟨rfl, rfl, rfl, by decide +kernel, rfl, by decide +kernel, by decide +kernel⟩
section
variable {P : Program} {w : World} {K : Frag} {mg : Str → Option Value} {base : Heap}
theorem rank_key {l : List Tr} (h : ∀ t, t ∈ l → Gd t) : KeyOk K gRank (dl l) kfD where
  one := fun d m => by
    obtain ⟨t, ht, e⟩ := List.mem_map.mp m
    subst e
    exact ⟨t, rfl, by have := (h t ht).size; omega, (kf_rk t).symm⟩
  pl := fun d m => by
    obtain ⟨t, ht, e⟩ := List.mem_map.mp m
    subst e
    rw [kf_rk]
    unfold rk
    rw [Dn.plain, plainAll, plainAll, plain_d, plainAll]
    simp [Dn.plain]
  al := fun d hd d' hd' => by
    obtain ⟨x, hx, e⟩ := List.mem_map.mp hd
    obtain ⟨y, hy, e'⟩ := List.mem_map.mp hd'
    obtain ⟨t, ht, e2⟩ := List.mem_map.mp hx
    obtain ⟨u, hu, e3⟩ := List.mem_map.mp hy
    subst e; subst e'; subst e2; subst e3
    rw [kf_rk, kf_rk]
    exact alike_rk t u
  so := .inl fun d hd => by
    obtain ⟨x, hx, e⟩ := List.mem_map.mp hd
    subst e
    exact ⟨_, _, rfl⟩
  dp := fun d m => by
    obtain ⟨t, ht, e⟩ := List.mem_map.mp m
    subst e
    rw [kf_rk]
    unfold rk
    have := depth_d t
    have := (h t ht).lev
    rw [PyData.depth, PyData.depthAll, PyData.depthAll, PyData.depthAll, PyData.depth]
    omega
def gOrd : List PyData → (List PyData → Prop) → Prop := fun ds C => ∃ l : List Tr, ds = [.list (dl l)] ∧ (∀ t, t ∈ l → Gd t) ∧ l.length < 50000 ∧ C (dl (ord l))
theorem dl_get {l : List Tr} {i : Nat} {d : PyData} (h : (dl l)[i]? = some d) : ∃ t, l[i]? = some t ∧ d = t.d := by
  unfold dl at h
  rw [List.getElem?_map] at h
  cases q : l[i]? with
  | none => rw [q] at h; cases h
  | some t => rw [q] at h; exact ⟨t, rfl, (Option.some.inj h).symm⟩
theorem dl_len (l : List Tr) : (dl l).length = l.length := List.length_map _
theorem atI_last {l : List PyData} {d : PyData} (h : l.getLast? = some d) : atI l (-1) = some d := by
  cases l with
  | nil => cases h
  | cons a r =>
    rw [List.getLast?_eq_getElem?] at h
    unfold atI ixN
    have e : (r.length + 1 : Nat) = (a :: r).length := rfl
    rw [if_neg (by decide), if_pos (by rw [List.length_cons]; omega)]
    show (a :: r)[_]? = _
    rw [← h]
    congr 1
    rw [List.length_cons]; omega
theorem ok_ordered {f f_ev f_sz f_rk : Addr} {fdt fdt_ev fdt_sz fdt_rk : FuncData} (D : Df K mg "ordered" s_ordered P_ordered f fdt) (B : Bi mg) (D_every_part : Df K mg "every_part" s_every_part P_every_part f_ev fdt_ev) (D_size : Df K mg "size" s_size P_size f_sz fdt_sz) (D_rank : Df K mg "rank" s_rank P_rank f_rk fdt_rk) : FnOk P w K mg base CX0 6 f fdt P_ordered (spN K gOrd) := by
  have G_rank : FnOk P w K mg base CX0 3 _ _ _ _ := ok_rank D_rank B D_every_part D_size
  refine okN D.F sc_ordered (fun ds C h => by obtain ⟨l, rfl, _⟩ := h; rfl) (fun cdv A outer s H E hr => ?_)
  have hr_rank := hr.in1.in1
  have hu := huOf hr
  have hu64 := hr.units
  refine ⟨_, (pss_cons (ps_set (i := 1) sc_ordered.nd rfl (Or.inl rfl) (pe_lst pa_nil))
      (pss_cons (ps_for PassesOwn.never rfl (pi_list (pe_callBK (cr_sortK G_rank D_rank.b hr_rank hu) rfl B.sorted (by decide +kernel) (pa_cons (pv 0) pa_nil) (pk_cons (pe_glob rfl D_rank.m (show RelV (V.ref _) (Value.ref _) from rfl)) pk_nil))) (pg_name (i := 2) sc_ordered.nd rfl (Or.inl rfl)) (pss_one (ps_if (PW.pt (pw_or (pt_not (pt_truth (pv 1) (by intro _; rfl))) (pw_or1 (pt_cmpR (op_neD hu64) (pe_ix ix_list (pv 1) (pe_un un_neg pe_int) (fun _ _ => rfl)) (pv 2) (nomark _))))) (pss_one (ps_expr (pe_bm PySem.F.plainAttrs_list PySem.F.slot_list_append PySem.F.type_list_append mt_append (pv 1) (pa_cons (pv 2) pa_nil)))) pss_nil)))
      (pss_one (ps_ret (pv 1))))), fun ds C h => ?_⟩
  obtain ⟨l, rfl, hg, hz, hc⟩ := h
  refine wpS_seq (wpS_own (wpN_lst (wpA_nil ⟨by decide, fun p => ?_⟩)))
  refine wpS_seq (wpS_for (wpI_list (wpE_new (wpN_sortK (wp_var (d := .list (dl l)) rfl ⟨dl l, kfD, rfl, rank_key hg, ?_⟩)))))
  rw [srt_dl]
  refine ⟨_, rfl, fun i env => ∃ x : Sl, env = [.dat (.list (dl l)), .own p (dl (pref (srt l) i)), x] ∧ (∀ a b, x ≠ .own a b), ⟨.no, rfl, fun a b z => nomatch z⟩, ?_, ?_⟩
  · rintro i d env e ⟨x, rfl, hx⟩
    obtain ⟨t, ht, rfl⟩ := dl_get e
    refine ⟨_, gD_name, ?_⟩
    have hi : i < (srt l).length := (List.getElem?_eq_some_iff.mp ht).1
    have hgt : Gd t := hg t (srt_mem.mp (List.mem_of_getElem? ht))
    have hSl := srt_len l
    have hpl := pref_len (srt l) i
    have yes : (i = 0 ∨ ¬ (srt l)[i - 1]? = some t) → dl (pref (srt l) (i + 1)) = dl (pref (srt l) i) ++ [t.d] := fun q => by
      rw [pref_yes ht q]; unfold dl; rw [List.map_append]; rfl
    have app : ∀ {P : Po}, P.nx [.dat (.list (dl l)), .own p (dl (pref (srt l) (i + 1))), .dat t.d] → (i = 0 ∨ ¬ (srt l)[i - 1]? = some t) → wpS K nofd (tDrop (tBM K "list" rAppend (tVar 1) (tCons (tVar 2) tNil))) [.dat (.list (dl l)), .own p (dl (pref (srt l) i)), .dat t.d] P := fun q1 q =>
      wpS_append (p := p) (ds := dl (pref (srt l) i)) rfl (by rw [dl_len]; omega) (wp_var (d := t.d) rfl (by rw [yes q] at q1; exact q1))
    refine wpS_if (wpT_unown (wpT_or (wpT_not (wpT_tr (wp_var (d := .list (dl (pref (srt l) i))) rfl (.inl ⟨_, .inl rfl, fun hb => ?_, fun hb => ?_⟩))))))
    · refine ⟨fun _ => app ⟨_, rfl, fun a b z => nomatch z⟩ (.inl ?_), fun z => nomatch z⟩
      refine Classical.byContradiction fun h0 => ?_
      have q := pref_nil (srt l) (Nat.le_of_lt hi) (Nat.pos_of_ne_zero h0)
      cases e3 : pref (srt l) i with
      | nil => exact q e3
      | cons a r => rw [e3] at hb; exact nomatch hb
    · have h0 : 0 < i := Nat.pos_of_ne_zero fun z => by
        subst z
        exact nomatch hb
      have hlast := pref_last (srt l) i (Nat.le_of_lt hi) h0
      obtain ⟨v, hv⟩ : ∃ v, (srt l)[i - 1]? = some v := ⟨_, List.getElem?_eq_getElem (by omega)⟩
      have hgv : Gd v := hg v (srt_mem.mp (List.mem_of_getElem? hv))
      refine wpT_B (wp_op (wp_op (wp_var (d := .list (dl (pref (srt l) i))) rfl (wp_un (wp_int (und_neg (opd_ixL (d := v.d) (atI_last (by unfold dl; rw [List.getLast?_map, hlast, hv]; rfl)) (wp_var (d := t.d) rfl (opd_neD hgv.cmp hgt.cmp ⟨_, rfl, fun q => ?_, fun q => ?_⟩)))))))))
      · refine app ⟨_, rfl, fun a b z => nomatch z⟩ (.inr fun z => ?_)
        rw [hv] at z
        rw [Option.some.inj z, eqv_self] at q
        cases q
      · refine wpS_next ⟨.dat t.d, ?_, fun a b z => nomatch z⟩
        have e4 : v = t := eqv_d v t (by simpa using q)
        rw [pref_no ht (by omega) (by rw [hv, e4])]
        rfl
  · rintro env ⟨x, rfl, hx⟩
    rw [dl_len]
    exact wpS_retOwn (p := p) (ds := dl (ord l)) rfl hc
theorem partsL_map (l : List Tr) : Tr.partsL l = (l.map Tr.parts).flatten := by
  induction l with
  | nil => rfl
  | cons t l ih => show t.parts ++ Tr.partsL l = _; rw [ih]; rfl
theorem partsL_one (t : Tr) : Tr.partsL [t] = t.parts := List.append_nil _
def gPartsOf : List PyData → (List PyData → Prop) → Prop := fun ds C => ∃ l : List Tr, ds = [.list (dl l)] ∧ (∀ t, t ∈ l → Gd t) ∧ Tr.sizes l < 50000 ∧ C (dl (ord (Tr.partsL l)))
theorem ok_parts_of {f f_ev f_sz f_rk f_or : Addr} {fdt fdt_ev fdt_sz fdt_rk fdt_or : FuncData} (D : Df K mg "parts_of" s_parts_of P_parts_of f fdt) (B : Bi mg) (D_every_part : Df K mg "every_part" s_every_part P_every_part f_ev fdt_ev) (D_size : Df K mg "size" s_size P_size f_sz fdt_sz) (D_rank : Df K mg "rank" s_rank P_rank f_rk fdt_rk) (D_ordered : Df K mg "ordered" s_ordered P_ordered f_or fdt_or) : FnOk P w K mg base CX0 7 f fdt P_parts_of (spN K gPartsOf) := by
  have G_every_part : FnOk P w K mg base CX0 1 _ _ _ _ := ok_every D_every_part B
  have G_ordered : FnOk P w K mg base CX0 6 _ _ _ _ := ok_ordered D_ordered B D_every_part D_size D_rank
  refine okN D.F sc_parts_of (fun ds C h => by obtain ⟨l, rfl, _⟩ := h; rfl) (fun cdv A outer s H E hr => ?_)
  have hr_ordered := hr
  have hr_every_part := hr.mono (show 1 ≤ 6 by decide)
  refine ⟨_, (pss_one (ps_ret (pe_call G_ordered hr_ordered rfl D_ordered.m D_ordered.F.kp D_ordered.b .nil pass0 (pa_cons (pe_lc2 rfl sc_parts_of.nd (vs1 := [2]) (pi_list (pv 0)) (blkOk_by (own := [("tree", 1), ("part", 2)]) (N := N_parts_of) (sc := defScope s_parts_of) (by decide +kernel)) (by decide) (fun _ _ _ _ _ => (pg_name (i := 1) sc_parts_of.nd rfl (Or.inl rfl))) (fun _ _ _ _ _ => pts_nil) (fun _ _ _ _ _ => (show PI _ _ _ (iList K _) from (pi_list (pe_call G_every_part hr_every_part rfl D_every_part.m D_every_part.F.kp D_every_part.b .nil pass0 (pa_cons (pv 1) pa_nil))))) (fun _ _ _ _ _ => (pg_name (i := 2) sc_parts_of.nd rfl (Or.inl rfl))) (fun _ _ _ _ _ => pts_nil) (fun _ _ _ _ _ => (pv 2))) pa_nil)))), fun ds C h => ?_⟩
  obtain ⟨l, rfl, hg, hz, hc⟩ := h
  refine wpS_retNew (wpN_call (wpA_cons (wpE_new (wpN_lc2 (wpI_list (wp_var (d := .list (dl l)) rfl ⟨_, rfl, fun i acc => ∃ L : List Tr, acc = dl L ∧ L.Perm (Tr.partsL (l.take i)), ⟨[], rfl, List.Perm.refl _⟩, ?_, ?_⟩))))))
  · rintro i d acc e ⟨L, rfl, hL⟩
    obtain ⟨t, ht, rfl⟩ := dl_get e
    have hgt : Gd t := hg t (List.mem_of_getElem? ht)
    have etk : Tr.partsL (l.take (i + 1)) = Tr.partsL (l.take i) ++ t.parts := by
      rw [List.take_add_one, ht, partsL_app]
      show _ ++ Tr.partsL [t] = _
      rw [partsL_one]
    have hsz : Tr.sizes (l.take (i + 1)) ≤ Tr.sizes l := by
      have z := sizes_app (l.take (i + 1)) (l.drop (i + 1))
      rw [List.take_append_drop] at z
      omega
    have hLl : L.length + t.size = Tr.sizes (l.take (i + 1)) := by
      rw [hL.length_eq, ← partsL_len (l.take (i + 1)), etk, List.length_append, parts_len]
    refine ⟨_, gD_name, by simp, wpT_yes ⟨fun _ => wpI_list (wp_call (wpA_cons (wp_var (d := t.d) rfl (wpA_nil ⟨t, rfl, by have := hgt.size; omega, fun m hm => ⟨_, rfl, fun j acc => acc = dl (L ++ m.take j), (by show dl L = dl (L ++ []); rw [List.append_nil]), ?_, ?_⟩⟩)))), fun z => nomatch z⟩⟩
    · rintro j d acc e rfl
      obtain ⟨u, hu, rfl⟩ := dl_get e
      have hml : m.length = t.size := by rw [hm.length_eq, parts_len]
      have hj : j < m.length := (List.getElem?_eq_some_iff.mp hu).1
      refine ⟨_, gD_name, by simp, wpT_yes ⟨fun _ => wp_var (d := u.d) rfl ⟨?_, ?_⟩, fun z => nomatch z⟩⟩
      · rw [dl_len, List.length_append, List.length_take]; omega
      · show _ = dl (L ++ m.take (j + 1))
        rw [List.take_add_one, hu, ← List.append_assoc]
        unfold dl
        rw [List.map_append (l₁ := L ++ m.take j)]
        rfl
    · rintro acc rfl
      rw [dl_len, List.take_length]
      exact ⟨L ++ m, rfl, by rw [etk]; exact hL.append hm⟩
  · rintro acc ⟨L, rfl, hL⟩
    rw [dl_len, List.take_length] at hL
    have hLl : L.length = Tr.sizes l := by rw [hL.length_eq, partsL_len]
    refine wpA_nil ⟨L, rfl, fun t m => partL_gd hg (hL.mem_iff.mp m), by omega, ?_⟩
    rw [ord_perm hL]
    exact hc
end
end Gr

namespace Gr
open PySem L2 Evl Dn
abbrev N__law_parts : List Str := ["tree", "found", "child"]
abbrev P__law_parts : List Str := ["tree"]
theorem sc__law_parts : FnScope N__law_parts P__law_parts (defScope s__law_parts) := ⟨rfl, rfl, rfl, by decide +kernel, rfl, by decide +kernel, by decide +kernel⟩
abbrev N__law_ordered : List Str := ["trees", "found", "k", "tree"]
abbrev P__law_ordered : List Str := ["trees"]
theorem sc__law_ordered : FnScope N__law_ordered P__law_ordered (defScope s__law_ordered) := ⟨rfl, rfl, rfl, by decide +kernel, rfl, by decide +kernel, by decide +kernel⟩
/-! ### places -/
mutual
def Tr.pl : Tr → List (List Nat × Tr)
  | .node n cs => ([], .node n cs) :: Tr.plL 0 cs
def Tr.plL : Nat → List Tr → List (List Nat × Tr)
  | _, [] => []
  | i, t :: ts => (t.pl.map fun q => (i :: q.1, q.2)) ++ Tr.plL (i + 1) ts
end
def pInts (p : List Nat) : List PyData := p.map fun n => .int (n : Nat)
def ppd (q : List Nat × Tr) : PyData := .tuple [.tuple (pInts q.1), q.2.d]
def chL (q : List Nat) : Nat → List Tr → List (List Nat × Tr)
  | _, [] => []
  | i, c :: cs => (q ++ [i], c) :: chL q (i + 1) cs
theorem chL_len {q : List Nat} : ∀ {cs : List Tr} {i : Nat}, (chL q i cs).length = cs.length
  | [], _ => rfl
  | c :: cs, i => congrArg (· + 1) (chL_len (cs := cs) (i := i + 1))
theorem chL_get {q : List Nat} : ∀ {cs : List Tr} {i k : Nat} {c : Tr}, cs[k]? = some c → (chL q i cs)[k]? = some (q ++ [i + k], c)
  | [], _, _, _, e => by simp at e
  | c :: cs, i, 0, c', e => by
    have : c = c' := Option.some.inj e
    subst this; rfl
  | c :: cs, i, k + 1, c', e => by
    have z := chL_get (q := q) (cs := cs) (i := i + 1) (k := k) (c := c') e
    show (chL q (i + 1) cs)[k]? = _
    rw [z]
    congr 4
    omega
def ex1 (q : List Nat × Tr) : List (List Nat × Tr) := q.2.pl.map fun r => (q.1 ++ r.1, r.2)
def flatW (W : List (List Nat × Tr)) : List (List Nat × Tr) := (W.reverse.map ex1).flatten
theorem chL_flat {q : List Nat} : ∀ (cs : List Tr) (i : Nat), ((chL q i cs).map ex1).flatten = (Tr.plL i cs).map fun r => (q ++ r.1, r.2)
  | [], _ => rfl
  | c :: cs, i => by
    show ex1 (q ++ [i], c) ++ ((chL q (i + 1) cs).map ex1).flatten = ((c.pl.map fun r => (i :: r.1, r.2)) ++ Tr.plL (i + 1) cs).map fun r => (q ++ r.1, r.2)
    rw [chL_flat cs (i + 1), List.map_append, List.map_map]
    congr 1
    unfold ex1
    refine List.map_congr_left fun r _ => ?_
    show ((q ++ [i]) ++ r.1, r.2) = (q ++ (i :: r.1), r.2)
    rw [List.append_assoc]; rfl
theorem flat_step (W : List (List Nat × Tr)) (q : List Nat) (n : Str) (cs : List Tr) : flatW (W ++ [(q, .node n cs)]) = (q, Tr.node n cs) :: flatW (W ++ (chL q 0 cs).reverse) := by
  unfold flatW
  rw [List.reverse_append, List.reverse_append, List.reverse_reverse, List.map_append, List.map_append, List.flatten_append, List.flatten_append, chL_flat]
  show (((q ++ [], Tr.node n cs) :: (Tr.plL 0 cs).map fun r => (q ++ r.1, r.2)) ++ []) ++ _ = _
  rw [List.append_nil, List.append_nil]
  rfl
def sumW (W : List (List Nat × Tr)) : Nat := Tr.sizes (W.map (·.2))
theorem chL_snd {q : List Nat} : ∀ (cs : List Tr) (i : Nat), (chL q i cs).map (·.2) = cs
  | [], _ => rfl
  | c :: cs, i => congrArg (List.cons c) (chL_snd cs (i + 1))
theorem sizes_rev : ∀ l : List Tr, Tr.sizes l.reverse = Tr.sizes l
  | [] => rfl
  | t :: l => by
    rw [List.reverse_cons, sizes_app, sizes_rev l]
    show _ + (t.size + 0) = t.size + _
    omega
theorem sumW_app (W V : List (List Nat × Tr)) : sumW (W ++ V) = sumW W + sumW V := by unfold sumW; rw [List.map_append, sizes_app]
theorem sumW_ch (q : List Nat) (cs : List Tr) : sumW (chL q 0 cs).reverse = Tr.sizes cs := by
  unfold sumW; rw [List.map_reverse, chL_snd, sizes_rev]
theorem len_sumW (W : List (List Nat × Tr)) : W.length ≤ sumW W := by
  have := len_le_sizes (W.map (·.2))
  rw [List.length_map] at this
  exact this
mutual
theorem pl_len : ∀ t : Tr, t.pl.length = t.size
  | .node n cs => by
    show (Tr.plL 0 cs).length + 1 = 1 + Tr.sizes cs
    rw [plL_len cs 0]; omega
theorem plL_len : ∀ (cs : List Tr) (i : Nat), (Tr.plL i cs).length = Tr.sizes cs
  | [], _ => rfl
  | t :: ts, i => by
    show ((t.pl.map _) ++ Tr.plL (i + 1) ts).length = t.size + Tr.sizes ts
    rw [List.length_append, List.length_map, pl_len t, plL_len ts (i + 1)]
end
mutual
theorem pl_lev : ∀ (t : Tr) (q : List Nat × Tr), q ∈ t.pl → q.1.length < t.lev ∧ (Gd t → Gd q.2)
  | .node n cs, q, h => by
    rcases List.mem_cons.mp (show q ∈ ([], Tr.node n cs) :: Tr.plL 0 cs from h) with rfl | h
    · exact ⟨by show 0 < 1 + _; omega, id⟩
    · obtain ⟨h1, h2⟩ := plL_lev cs 0 q h
      exact ⟨by show _ < 1 + Tr.levs cs; omega, fun g => h2 fun t ht => g.child ht⟩
theorem plL_lev : ∀ (cs : List Tr) (i : Nat) (q : List Nat × Tr), q ∈ Tr.plL i cs → q.1.length < 1 + Tr.levs cs ∧ ((∀ t, t ∈ cs → Gd t) → Gd q.2)
  | [], _, _, h => by cases h
  | t :: ts, i, q, h => by
    rcases List.mem_append.mp (show q ∈ (t.pl.map fun q => (i :: q.1, q.2)) ++ Tr.plL (i + 1) ts from h) with h | h
    · obtain ⟨r, hr, e⟩ := List.mem_map.mp h
      subst e
      obtain ⟨h1, h2⟩ := pl_lev t r hr
      refine ⟨?_, fun g => h2 (g t (List.mem_cons_self ..))⟩
      show r.1.length + 1 < 1 + max t.lev (Tr.levs ts)
      omega
    · obtain ⟨h1, h2⟩ := plL_lev ts (i + 1) q h
      refine ⟨?_, fun g => h2 fun u hu => g u (List.mem_cons_of_mem _ hu)⟩
      show _ < 1 + max t.lev (Tr.levs ts)
      omega
end
section
variable {P : Program} {w : World} {K : Frag} {mg : Str → Option Value} {base : Heap}
def gPl : List PyData → (List PyData → Prop) → Prop := fun ds C => ∃ t : Tr, ds = [t.d] ∧ Gd t ∧ C (t.pl.map ppd)
/-! ### the law's own parts, places, order -/
def gLPa (k : Nat) : List PyData → (PyData → Prop) → Prop := fun ds C => ∃ t : Tr, ds = [t.d] ∧ t.lev ≤ k ∧ Gd t ∧ C (.list (dl t.parts))
theorem ok_lparts {f : Addr} {fdt : FuncData} (D__law_parts : Df K mg "_law_parts" s__law_parts P__law_parts f fdt) (B : Bi mg) : ∀ k, FnOk P w K mg base CX0 (k + 1) f fdt P__law_parts (spP K (gLPa k))
  | 0 => no_spP fun ds C ⟨t, _, h, _⟩ => by have := lev_pos t; omega
  | k + 1 => by
    have G__law_parts := ok_lparts D__law_parts B k
    refine okP D__law_parts.F sc__law_parts (fun ds C h => by obtain ⟨t, rfl, _⟩ := h; rfl) (fun cdv A outer s H E hr => ?_)
    have hr__law_parts := hr
    refine ⟨_, (pss_cons (ps_set (i := 1) sc__law_parts.nd rfl (Or.inl rfl) (pe_lst (pa_cons (pv 0) pa_nil)))
      (pss_cons (ps_for PassesOwn.never rfl (pi_tup (pe_slice sl_tupA (pv 0) (po_some pe_int) po_none)) (pg_name (i := 2) sc__law_parts.nd rfl (Or.inl rfl)) (pss_one (ps_set (i := 1) sc__law_parts.nd rfl (Or.inl rfl) (pe_op op_cat (pv 1) (pe_call G__law_parts hr__law_parts rfl D__law_parts.m D__law_parts.F.kp D__law_parts.b .nil pass0 (pa_cons (pv 2) pa_nil))))))
      (pss_one (ps_ret (pv 1))))), fun ds C h => ?_⟩
    obtain ⟨t, rfl, hl, hg, hc⟩ := h
    cases t with
    | node n cs =>
    have hlen := len_le_size (n := n) (cs := cs)
    have hgs := hg.size
    refine wpS_seq (wpS_asg (wpE_new (wpN_lst (wpA_cons (wp_var (d := (Tr.node n cs).d) rfl (wpA_nil ⟨(by show 1 ≤ 100000; decide), ?_⟩))))))
    refine wpS_seq (wpS_for (wpI_tup (wp_slT (wp_var (d := (Tr.node n cs).d) rfl (wpO_some (wp_int ⟨1, rfl, wpO_none ⟨_, d_node n cs, ?_⟩⟩))))))
    rw [cut_tl]
    refine ⟨_, rfl, fun i env => ∃ x : Sl, env = [.dat (Tr.node n cs).d, .dat (.list (dl (.node n cs :: Tr.partsL (cs.take i)))), x], ⟨.no, rfl⟩, ?_, ?_⟩
    · rintro i d env e ⟨x, rfl⟩
      obtain ⟨c, hc', rfl⟩ := dl_get (l := cs) e
      have m : c ∈ cs := List.mem_of_getElem? hc'
      have etk : Tr.partsL (cs.take (i + 1)) = Tr.partsL (cs.take i) ++ c.parts := by
        rw [List.take_add_one, hc', partsL_app]
        show _ ++ Tr.partsL [c] = _
        rw [partsL_one]
      have hz : (Tr.partsL (cs.take i)).length + c.parts.length ≤ Tr.sizes cs := by
        have z := sizes_app (cs.take (i + 1)) (cs.drop (i + 1))
        rw [List.take_append_drop, ← partsL_len (cs.take (i + 1)), etk, List.length_append] at z
        omega
      have hs2 : (Tr.node n cs).size = 1 + Tr.sizes cs := rfl
      refine ⟨_, gD_name, wpS_asg (wpE_new (wpN_op (wp_var (d := .list (dl (.node n cs :: Tr.partsL (cs.take i)))) rfl (wp_call (wpA_cons (wp_var (d := c.d) rfl (wpA_nil ⟨c, rfl, lev_child hl m, hg.child m, opn_cat ?_ ⟨.dat c.d, ?_⟩⟩)))))))⟩
      · rw [dl_len, dl_len, List.length_cons]; omega
      · rw [etk]
        unfold dl
        rw [← List.map_append]
        rfl
    · rintro env ⟨x, rfl⟩
      rw [List.length_map, List.take_length]
      exact wpS_ret (wp_var (d := .list (dl (Tr.node n cs).parts)) rfl hc)
def gLPl (k : Nat) : List PyData → (PyData → Prop) → Prop := fun ds C => ∃ t : Tr, ds = [t.d] ∧ t.lev ≤ k ∧ Gd t ∧ C (.list (t.pl.map ppd))
theorem plL_app : ∀ (a b : List Tr) (i : Nat), Tr.plL i (a ++ b) = Tr.plL i a ++ Tr.plL (i + a.length) b
  | [], b, i => rfl
  | t :: a, b, i => by
    show (t.pl.map _) ++ Tr.plL (i + 1) (a ++ b) = ((t.pl.map _) ++ Tr.plL (i + 1) a) ++ Tr.plL (i + (a.length + 1)) b
    rw [plL_app a b (i + 1), List.append_assoc, Nat.add_assoc i 1, Nat.add_comm 1]
theorem plL_one (c : Tr) (i : Nat) : Tr.plL i [c] = c.pl.map fun q => (i :: q.1, q.2) := List.append_nil _
end
end Gr

namespace Gr
open PySem L2 Evl Dn
abbrev N__law_names : List Str := ["feed", "some"]
abbrev P__law_names : List Str := ["feed"]
theorem sc__law_names : FnScope N__law_names P__law_names (defScope s__law_names) := ⟨rfl, rfl, rfl, by decide +kernel, rfl, by decide +kernel, by decide +kernel⟩
abbrev N__law_grow : List Str := ["feed", "names", "nodes", "levels", "way", "left", "child"]
abbrev P__law_grow : List Str := ["feed", "names", "nodes", "levels"]
theorem sc__law_grow : FnScope N__law_grow P__law_grow (defScope s__law_grow) := ⟨rfl, rfl, rfl, by decide +kernel, rfl, by decide +kernel, by decide +kernel⟩
abbrev N__law_tree : List Str := ["feed", "names", "nodes"]
abbrev P__law_tree : List Str := ["feed", "names", "nodes"]
theorem sc__law_tree : FnScope N__law_tree P__law_tree (defScope s__law_tree) := ⟨rfl, rfl, rfl, by decide +kernel, rfl, by decide +kernel, by decide +kernel⟩
theorem eqv_rk (t u : Tr) (h : PyData.eqv (rk t) (rk u) = true) : t = u := by
  unfold rk at h
  rw [PyData.eqv, PyData.eqvAll, PyData.eqvAll, Bool.and_eq_true, Bool.and_eq_true] at h
  exact eqv_d t u h.2.1
theorem eqv_rk_self (t : Tr) : PyData.eqv (rk t) (rk t) = true := by
  unfold rk
  rw [PyData.eqv, PyData.eqvAll, PyData.eqvAll, PyData.eqvAll, eqv_self, PyData.eqv]
  simp
theorem Gd.cmp_rk {t : Tr} (h : Gd t) : Dn.cmp (rk t) = true := by
  unfold rk
  refine cmp_tup fun d m => ?_
  rcases List.mem_cons.mp m with e | m
  · subst e
    refine ⟨by simp [Dn.plain], by simp [PyData.canLay0], by simp [PyData.depth]⟩
  · rw [List.mem_singleton.mp m]; exact h.three
theorem Gd.three_rk {t : Tr} (h : Gd t) : Dn.plain (rk t) = true ∧ (rk t).depth ≤ 60 := by
  unfold rk
  have := depth_d t
  have := h.lev
  refine ⟨?_, ?_⟩
  · rw [Dn.plain, plainAll, plainAll, plain_d, plainAll]
    simp [Dn.plain]
  · rw [PyData.depth, PyData.depthAll, PyData.depthAll, PyData.depthAll, PyData.depth]
    omega
section
variable {P : Program} {w : World} {K : Frag} {mg : Str → Option Value} {base : Heap}
def gLO : List PyData → (PyData → Prop) → Prop := fun ds C => ∃ l : List Tr, ds = [.list (dl l)] ∧ (∀ t, t ∈ l → Gd t) ∧ l.length < 50000 ∧ C (.list (dl (ord l)))
theorem rkl_get {l : List Tr} {i : Nat} {d : PyData} (h : (l.map rk)[i]? = some d) : ∃ t, l[i]? = some t ∧ d = rk t := by
  rw [List.getElem?_map] at h
  cases q : l[i]? with
  | none => rw [q] at h; cases h
  | some t => rw [q] at h; exact ⟨t, rfl, (Option.some.inj h).symm⟩
theorem atI_nat' {l : List PyData} {i : Int} {k : Nat} {d : PyData} (e : i = (k : Int)) (h : l[k]? = some d) : atI l i = some d := by
  have hk : k < l.length := (List.getElem?_eq_some_iff.mp h).1
  unfold atI ixN
  rw [e, if_pos (by omega), if_pos (by omega)]
  show l[_]? = _
  rw [Int.toNat_natCast]; exact h
theorem ok_lordered {f f_sz : Addr} {fdt fdt_sz : FuncData} (D : Df K mg "_law_ordered" s__law_ordered P__law_ordered f fdt) (B : Bi mg) (D__law_size : Df K mg "_law_size" s__law_size P__law_size f_sz fdt_sz) : FnOk P w K mg base CX0 22 f fdt P__law_ordered (spP K gLO) := by
  have G__law_size : FnOk P w K mg base CX0 21 _ _ _ _ := ok_size D__law_size B 20
  refine okP D.F sc__law_ordered (fun ds C h => by obtain ⟨l, rfl, _⟩ := h; rfl) (fun cdv A outer s H E hr => ?_)
  have hr__law_size := hr
  have hu := huOf hr
  have hu64 := hr.units
  refine ⟨_, (pss_cons (ps_set (i := 1) sc__law_ordered.nd rfl (Or.inr rfl) (pe_callB (cr_sortD hu) rfl B.sorted (by decide +kernel) (pa_cons (pe_lc rfl sc__law_ordered.nd (pi_list (pv 0)) (blkOk_by (own := [("tree", 3)]) (N := N__law_ordered) (sc := defScope s__law_ordered) (by decide +kernel)) (fun _ _ _ _ _ => (pg_name (i := 3) sc__law_ordered.nd rfl (Or.inl rfl))) (fun _ _ _ _ _ => pts_nil) (fun _ _ _ _ _ => (pe_tup (pa_cons (pe_call G__law_size hr__law_size rfl D__law_size.m D__law_size.F.kp D__law_size.b .nil pass0 (pa_cons (pv 3) pa_nil)) (pa_cons (pv 3) pa_nil))))) pa_nil)))
      (pss_one (ps_ret (pe_lc rfl sc__law_ordered.nd (pi_range1 rfl B.range (pa_cons (pe_callB call_len_seq rfl B.len PySem.boot_len (pa_cons (pv 1) pa_nil)) pa_nil)) (blkOk_by (own := [("k", 2)]) (N := N__law_ordered) (sc := defScope s__law_ordered) (by decide +kernel)) (fun _ _ _ _ _ => (pg_name (i := 2) sc__law_ordered.nd rfl (Or.inl rfl))) (fun _ _ _ _ _ => (pts_one (PW.pt (pw_or (pt_cmpR op_eq (pv 2) pe_int (nomark _)) (pw_or1 (pt_cmpR (show OpR _ _ (rNeD K) from (op_neD hu64)) (pe_ix (show IxR _ (rIxL K) from ix_list) (pv 1) (pv 2) (fun _ _ => rfl)) (pe_ix (show IxR _ (rIxL K) from ix_list) (pv 1) (pe_op op_sub (pv 2) pe_int) (fun _ _ => rfl)) (nomark _))))))) (fun _ _ _ _ _ => (pe_ix (show IxR _ (rIxT K) from ix_tup) (pe_ix (show IxR _ (rIxL K) from ix_list) (pv 1) (pv 2) (fun _ _ => rfl)) pe_int (fun _ _ => rfl))))))), fun ds C h => ?_⟩
  obtain ⟨l, rfl, hg, hz, hc⟩ := h
  refine wpS_seq (wpS_asg (wpE_new (wpN_cb (wpA_cons (wpE_new (wpN_lc (wpI_list (wp_var (d := .list (dl l)) rfl ⟨_, rfl, fun i acc => acc = (l.take i).map rk, rfl, ?_, ?_⟩))))))))
  · rintro i d acc e rfl
    obtain ⟨t, ht, rfl⟩ := dl_get e
    have hgt := hg t (List.mem_of_getElem? ht)
    have hi : i < l.length := (List.getElem?_eq_some_iff.mp ht).1
    refine ⟨_, gD_name, by simp, wpT_yes ⟨fun _ => ?_, fun z => nomatch z⟩⟩
    refine wp_tup (wpA_cons (wp_call (wpA_cons (wp_var (d := t.d) rfl (wpA_nil ⟨t, rfl, hgt.lev, by have := hgt.size; omega, ?_⟩)))))
    refine wpA_cons (wp_var (d := t.d) rfl (wpA_nil ⟨(by show 2 ≤ 100000; decide), ?_, ?_⟩))
    · rw [List.length_map, List.length_take]; omega
    · show _ = (l.take (i + 1)).map rk
      rw [List.take_add_one, ht, List.map_append]
      rfl
  · rintro acc rfl
    rw [dl_len, List.take_length]
    have hS : (l.map rk).mergeSort (PySem.W.dataLe false id) = (srt l).map rk := srt_rk l
    refine wpA_nil (can_sortD (fun d m => ?_) (fun d m d' m' => ?_) (.inl fun d m => ?_) (fun d m => ?_) ?_)
    · obtain ⟨t, ht, rfl⟩ := List.mem_map.mp m
      exact (hg t ht).three_rk.1
    · obtain ⟨t, ht, rfl⟩ := List.mem_map.mp m
      obtain ⟨u, hu, rfl⟩ := List.mem_map.mp m'
      exact alike_rk t u
    · obtain ⟨t, ht, rfl⟩ := List.mem_map.mp m
      exact ⟨_, _, rfl⟩
    · obtain ⟨t, ht, rfl⟩ := List.mem_map.mp m
      exact (hg t ht).three_rk.2
    · rw [hS]
      have hSl := srt_len l
      refine wpS_ret (wpE_new (wpN_lc (wpI_rng1 (wpA_cons (wp_cb (wpA_cons (wp_var (d := .list ((srt l).map rk)) rfl (wpA_nil (cad_lenL (wpA_nil ⟨_, rfl, ?_, ?_, fun i acc => acc = dl (pref (srt l) i), rfl, ?_, ?_⟩))))))))))
      · omega
      · rw [List.length_map]; omega
      · rintro i d acc e rfl
        rw [List.length_map, Int.toNat_natCast] at e
        have hi : i < (srt l).length := by
          have z := (List.getElem?_eq_some_iff.mp e).1
          rw [rng_len] at z
          exact z
        rw [rng_get hi] at e
        have e := (Option.some.inj e).symm
        subst e
        obtain ⟨t, ht⟩ : ∃ t, (srt l)[i]? = some t := ⟨_, List.getElem?_eq_getElem hi⟩
        have hgt : Gd t := hg t (srt_mem.mp (List.mem_of_getElem? ht))
        have hpl := pref_len (srt l) i
        have yes : (i = 0 ∨ ¬ (srt l)[i - 1]? = some t) → dl (pref (srt l) (i + 1)) = dl (pref (srt l) i) ++ [t.d] := fun q => by
          rw [pref_yes ht q]; unfold dl; rw [List.map_append]; rfl
        have hat : atI ((srt l).map rk) (0 + (i : Int)) = some (rk t) := atI_nat' (k := i) (by omega) (by rw [List.getElem?_map, ht]; rfl)
        have elt : ∀ {C : PyData → Prop}, C t.d → wpE K nofd (tOp (rIxT K) (tOp (rIxL K) (tVar 1) (tVar 2)) (tC (.int 1))) (asgE (wipeE [.dat (.list (dl l)), .dat (.list ((srt l).map rk)), .no, .no] [2]) [(2, .int (0 + (i : Int)))]) C := fun c =>
          wp_op (wp_op (wp_var (d := .list ((srt l).map rk)) rfl (wp_var (d := .int (0 + (i : Int))) rfl (opd_ixL hat (wp_int (opd_ixT (d := t.d) rfl c))))))
        refine ⟨_, gD_name, by simp, ?_⟩
        refine wpT_or (wpT_B (wp_op (wp_var (d := .int (0 + (i : Int))) rfl (wp_int (opd_eqI ⟨_, rfl, fun q => ?_, fun q => ?_⟩)))))
        · have h0 : i = 0 := by have := of_decide_eq_true q; omega
          refine ⟨fun _ => elt ⟨?_, ?_⟩, fun z => nomatch z⟩
          · rw [dl_len]; omega
          · exact (yes (.inl h0)).symm
        · have h0 : i ≠ 0 := fun z => of_decide_eq_false q (by omega)
          obtain ⟨v, hv⟩ : ∃ v, (srt l)[i - 1]? = some v := ⟨_, List.getElem?_eq_getElem (by omega)⟩
          have hgv : Gd v := hg v (srt_mem.mp (List.mem_of_getElem? hv))
          have hat2 : atI ((srt l).map rk) (0 + (i : Int) - 1) = some (rk v) := atI_nat' (k := i - 1) (by omega) (by rw [List.getElem?_map, hv]; rfl)
          refine wpT_B (wp_op (wp_op (wp_var (d := .list ((srt l).map rk)) rfl (wp_var (d := .int (0 + (i : Int))) rfl (opd_ixL hat ?_)))))
          refine wp_op (wp_var (d := .list ((srt l).map rk)) rfl (wp_op (wp_var (d := .int (0 + (i : Int))) rfl (wp_int (opd_ii (opd_ixL hat2 (opd_neD hgt.cmp_rk hgv.cmp_rk ⟨_, rfl, fun q => ?_, fun q => ?_⟩)))))))
          · refine elt ⟨?_, ?_⟩
            · rw [dl_len]; omega
            · refine (yes (.inr fun z => ?_)).symm
              rw [hv] at z
              rw [Option.some.inj z, eqv_rk_self] at q
              cases q
          · have e4 : t = v := eqv_rk t v (by simpa using q)
            show _ = dl (pref (srt l) (i + 1))
            rw [pref_no ht h0 (by rw [hv, e4])]
      · rintro acc rfl
        rw [rng_len, List.length_map, Int.toNat_natCast]
        exact hc
end
end Gr

namespace Gr
open PySem L2 Evl Dn
section
variable {P : Program} {w : World} {K : Frag} {mg : Str → Option Value} {base : Heap}
def NM (d : PyData) : Prop := ∃ ns : List Str, d = .list (ns.map PyData.str) ∧ ns.length = 6 ∧ ∀ x, x ∈ ns → nOk x = true
def gNm : List PyData → (PyData → Prop) → Prop := fun ds C => ds = [] ∧ ∀ d, NM d → C d
theorem nm6 (a b c d e f : Str) (h : ([a, b, c, d, e, f].all nOk) = true) : NM (.list [.str a, .str b, .str c, .str d, .str e, .str f]) :=
  ⟨[a, b, c, d, e, f], rfl, rfl, fun x m => List.all_eq_true.mp h x m⟩
theorem ok_names {f f_tk f_pk : Addr} {fdt fdt_tk fdt_pk : FuncData} (D : Df K mg "_law_names" s__law_names P__law_names f fdt) (B : Bi mg) (D__law_take : Df K mg "_law_take" s__law_take P__law_take f_tk fdt_tk) (D__law_pick : Df K mg "_law_pick" s__law_pick P__law_pick f_pk fdt_pk) : FnOk P w K mg base CX0 3 f fdt P__law_names (spF K gNm) := by
  have G__law_pick : FnOk P w K mg base CX0 2 _ _ _ _ := ok_pick D__law_pick B D__law_take
  refine okF D.F sc__law_names (fun ds C h => by obtain ⟨rfl, _⟩ := h; rfl) (fun cdv A outer s H E hr => ?_)
  have hr__law_pick := hr
  refine ⟨_, (pss_cons (ps_set (i := 1) sc__law_names.nd rfl (Or.inl rfl) (pe_lst (pa_cons (pe_lst (pa_cons pe_str (pa_cons pe_str (pa_cons pe_str (pa_cons pe_str (pa_cons pe_str (pa_cons pe_str pa_nil))))))) (pa_cons (pe_lst (pa_cons pe_str (pa_cons pe_str (pa_cons pe_str (pa_cons pe_str (pa_cons pe_str (pa_cons pe_str pa_nil))))))) (pa_cons (pe_lst (pa_cons pe_str (pa_cons pe_str (pa_cons pe_str (pa_cons pe_str (pa_cons pe_str (pa_cons pe_str pa_nil))))))) pa_nil)))))
      (pss_cons (ps_set (i := 1) sc__law_names.nd rfl (Or.inl rfl) (pe_op op_cat (pv 1) (pe_lst (pa_cons (pe_lst (pa_cons pe_str (pa_cons pe_str (pa_cons pe_str (pa_cons pe_str (pa_cons pe_str (pa_cons pe_str pa_nil))))))) (pa_cons (pe_lst (pa_cons pe_str (pa_cons pe_str (pa_cons pe_str (pa_cons pe_str (pa_cons pe_str (pa_cons pe_str pa_nil))))))) pa_nil)))))
      (pss_one (ps_ret (pe_call G__law_pick hr__law_pick rfl D__law_pick.m D__law_pick.F.kp D__law_pick.b .nil pass0 (pa_cons (pv 0) (pa_cons (pe_op op_cat (pv 1) (pe_lst (pa_cons (pe_lst (pa_cons pe_str (pa_cons pe_str (pa_cons pe_str (pa_cons pe_str (pa_cons pe_str (pa_cons pe_str pa_nil))))))) pa_nil))) pa_nil))))))), fun p ds C h => ?_⟩
  obtain ⟨rfl, hc⟩ := h
  refine wpS_seq (wpS_asg (wpE_new (wpN_lst ?_)))
  repeat (first | refine wpA_cons ?_ | refine wp_str ?_ | refine wpE_new (wpN_lst ?_) | refine wpA_nil ⟨by decide, ?_⟩)
  refine wpS_seq (wpS_asg (wpE_new (wpN_op (wp_var (i := 1) rfl (wpE_new (wpN_lst ?_))))))
  repeat (first | refine wpA_cons ?_ | refine wp_str ?_ | refine wpE_new (wpN_lst ?_) | refine wpA_nil ⟨by decide, ?_⟩)
  refine opn_cat (by decide) ?_
  refine wpS_ret (wp_callF rfl rfl (wpA_cons (wpE_new (wpN_op (wp_var (i := 1) rfl (wpE_new (wpN_lst ?_)))))))
  repeat (first | refine wpA_cons ?_ | refine wp_str ?_ | refine wpE_new (wpN_lst ?_) | refine wpA_nil ⟨by decide, ?_⟩)
  refine opn_cat (by decide) (wpA_nil ⟨_, rfl, by simp, by decide, fun d m => hc d ?_⟩)
  simp only [List.cons_append, List.nil_append, List.mem_cons, List.not_mem_nil, or_false] at m
  rcases m with rfl | rfl | rfl | rfl | rfl | rfl <;> exact nm6 _ _ _ _ _ _ (by decide +kernel)
def gGrow (k : Nat) : List PyData → (PyData → Prop) → Prop := fun ds C => ∃ (ns : List Str) (nodes levels : Int), ds = [.list (ns.map PyData.str), .int nodes, .int levels] ∧ ns.length = 6 ∧ (∀ x, x ∈ ns → nOk x = true) ∧ 1 ≤ nodes ∧ nodes ≤ 40 ∧ 1 ≤ levels ∧ levels ≤ k ∧
  ∀ t : Tr, ((t.size : Nat) : Int) ≤ nodes → ((t.lev : Nat) : Int) ≤ levels → t.lay = true → C t.d
theorem no_spF {f : Addr} {fdt : FuncData} {ps : List Str} {G : List PyData → (PyData → Prop) → Prop} {k : Nat} (h : ∀ ds C, ¬ G ds C) : FnOk P w K mg base CX0 k f fdt ps (spF K G) :=
  ⟨fun vs H Q E z => by obtain ⟨p, ws, F, ds, C, _, _, _, _, _, g, _⟩ := z; exact absurd g (h ds C), fun A outer s H args us vs Q E _ _ _ _ z => by obtain ⟨p, ws, F, ds, C, _, _, _, _, _, g, _⟩ := z; exact absurd g (h ds C)⟩
theorem nm_get {ns : List Str} (hl : ns.length = 6) {r : Int} (h0 : 0 ≤ r) (h1 : r < 6) : ∃ n, n ∈ ns ∧ atI (ns.map PyData.str) r = some (.str n) := by
  have hr : r.toNat < ns.length := by omega
  refine ⟨ns[r.toNat], List.getElem_mem _, atI_nat' (k := r.toNat) (by omega) ?_⟩
  rw [List.getElem?_map, List.getElem?_eq_getElem hr]; rfl
theorem levs_snoc : ∀ (fs : List Tr) (t : Tr), Tr.levs (fs ++ [t]) = max (Tr.levs fs) t.lev
  | [], t => by show max t.lev 0 = max 0 t.lev; omega
  | f :: fs, t => by
    show max f.lev (Tr.levs (fs ++ [t])) = max (max f.lev (Tr.levs fs)) t.lev
    rw [levs_snoc fs t]; omega
theorem lays_snoc : ∀ (fs : List Tr) (t : Tr), Tr.lays fs = true → t.lay = true → Tr.lays (fs ++ [t]) = true
  | [], t, _, h => by show Tr.lays [t] = true; rw [Tr.lays, Tr.lays, h]; rfl
  | f :: fs, t, h, q => by
    rw [Tr.lays, Bool.and_eq_true] at h
    show Tr.lays (f :: (fs ++ [t])) = true
    rw [Tr.lays, h.1, lays_snoc fs t h.2 q]; rfl
theorem ok_grow {f f_tk f_pk : Addr} {fdt fdt_tk fdt_pk : FuncData} (D__law_grow : Df K mg "_law_grow" s__law_grow P__law_grow f fdt) (B : Bi mg) (D__law_take : Df K mg "_law_take" s__law_take P__law_take f_tk fdt_tk) (D__law_pick : Df K mg "_law_pick" s__law_pick P__law_pick f_pk fdt_pk) : ∀ k, FnOk P w K mg base CX0 (k + 3) f fdt P__law_grow (spF K (gGrow k))
  | 0 => no_spF fun ds C ⟨ns, nodes, levels, _, _, _, _, _, h1, h2, _⟩ => by omega
  | k + 1 => by
    have G__law_grow := ok_grow D__law_grow B D__law_take D__law_pick k
    have G__law_take : FnOk P w K mg base CX0 1 _ _ _ _ := ok_take D__law_take B
    have G__law_pick : FnOk P w K mg base CX0 2 _ _ _ _ := ok_pick D__law_pick B D__law_take
    refine okF D__law_grow.F sc__law_grow (fun ds C h => by obtain ⟨ns, nodes, levels, rfl, _⟩ := h; rfl) (fun cdv A outer s H E hr => ?_)
    have hr__law_grow := hr
    have hr__law_take := hr.mono (show 1 ≤ k + 3 by omega)
    have hr__law_pick := hr.mono (show 2 ≤ k + 3 by omega)
    refine ⟨_, (pss_cons (ps_set (i := 4) sc__law_grow.nd rfl (Or.inl rfl) (pe_call G__law_take hr__law_take rfl D__law_take.m D__law_take.F.kp D__law_take.b .nil pass0 (pa_cons (pv 0) (pa_cons pe_int pa_nil))))
      (pss_cons (ps_if (PW.pt (pw_or (pt_cmpR op_eq (pv 2) pe_int (nomark _)) (pw_or (pt_cmpR op_eq (pv 3) pe_int (nomark _)) (pw_or1 (pt_cmpR op_eq (pv 4) pe_int (nomark _)))))) (pss_one (ps_ret (pe_tup (pa_cons (pe_ix ix_list (pv 1) (pe_call G__law_take hr__law_take rfl D__law_take.m D__law_take.F.kp D__law_take.b .nil pass0 (pa_cons (pv 0) (pa_cons pe_int pa_nil))) (fun _ _ => rfl)) pa_nil)))) pss_nil)
      (pss_cons (ps_if (PW.pt (pw_or (pt_cmpR op_eq (pv 2) pe_int (nomark _)) (pw_or1 (pt_cmpR op_eq (pv 4) pe_int (nomark _))))) (pss_one (ps_ret (pe_tup (pa_cons (pe_ix ix_list (pv 1) (pe_op op_add pe_int (pe_call G__law_take hr__law_take rfl D__law_take.m D__law_take.F.kp D__law_take.b .nil pass0 (pa_cons (pv 0) (pa_cons pe_int pa_nil)))) (fun _ _ => rfl)) (pa_cons (pe_call G__law_grow hr__law_grow rfl D__law_grow.m D__law_grow.F.kp D__law_grow.b .nil pass0 (pa_cons (pv 0) (pa_cons (pv 1) (pa_cons (pe_op op_sub (pv 2) pe_int) (pa_cons (pe_op op_sub (pv 3) pe_int) pa_nil))))) pa_nil))))) pss_nil)
      (pss_cons (ps_set (i := 5) sc__law_grow.nd rfl (Or.inl rfl) (pe_op op_add pe_int (pe_call G__law_take hr__law_take rfl D__law_take.m D__law_take.F.kp D__law_take.b .nil pass0 (pa_cons (pv 0) (pa_cons (pe_op op_sub (pv 2) pe_int) pa_nil)))))
      (pss_cons (ps_set (i := 6) sc__law_grow.nd rfl (Or.inl rfl) (pe_call G__law_grow hr__law_grow rfl D__law_grow.m D__law_grow.F.kp D__law_grow.b .nil pass0 (pa_cons (pv 0) (pa_cons (pv 1) (pa_cons (pv 5) (pa_cons (pe_op op_sub (pv 3) pe_int) pa_nil))))))
      (pss_one (ps_ret (pe_tup (pa_cons (pe_ix ix_list (pv 1) pe_int (fun _ _ => rfl)) (pa_cons (pv 6) (pa_cons (pe_call G__law_grow hr__law_grow rfl D__law_grow.m D__law_grow.F.kp D__law_grow.b .nil pass0 (pa_cons (pv 0) (pa_cons (pv 1) (pa_cons (pe_op op_sub (pe_op op_sub (pv 2) pe_int) (pv 5)) (pa_cons (pe_op op_sub (pv 3) pe_int) pa_nil))))) pa_nil))))))))))), fun p ds C h => ?_⟩
    obtain ⟨ns, nodes, levels, rfl, hn, hs, h1, h2, h3, h4, hc⟩ := h
    refine wpS_seq (wpS_asg (wp_callF rfl rfl (wpA_cons (wp_int (wpA_nil ⟨4, rfl, by decide, by decide, fun way w0 w1 => ?_⟩)))))
    have leaf : ∀ {P : Po}, (∀ d, C d → P.rt d) → wpS K (fun a => a = p) (tRet (tTup (tCons (tOp (rIxL K) (tVar 1) (tCall (spF K gTake) [] E0 (tCons (tVar 0) (tCons (tC (.int 3)) tNil)))) tNil))) [.fed p, .dat (.list (ns.map PyData.str)), .dat (.int nodes), .dat (.int levels), .dat (.int way), .no, .no] P := fun hp => by
      refine wpS_ret (wp_tup (wpA_cons (wp_op (wp_var (d := .list (ns.map PyData.str)) rfl (wp_callF rfl rfl (wpA_cons (wp_int (wpA_nil ⟨3, rfl, by decide, by decide, fun r r0 r1 => ?_⟩))))))))
      obtain ⟨n, hm, e⟩ := nm_get hn r0 (show r < 6 by omega)
      refine opd_ixL e (wpA_nil ⟨(by show 1 ≤ 100000; decide), hp _ (hc (.node n []) ?_ ?_ ?_)⟩)
      · show ((1 + 0 : Nat) : Int) ≤ nodes; omega
      · show ((1 + 0 : Nat) : Int) ≤ levels; omega
      · rw [Tr.lay, Tr.lays, hs n hm]; rfl
    refine wpS_seq (wpS_if ?_)
    refine wpT_or (wpT_test (wp_op (wp_var (d := .int nodes) rfl (wp_int (opd_eqI ⟨_, rfl, fun q => ⟨fun _ => leaf fun d c => c, fun z => nomatch z⟩, fun q1 => ?_⟩)))))
    refine wpT_or (wpT_test (wp_op (wp_var (d := .int levels) rfl (wp_int (opd_eqI ⟨_, rfl, fun q => ⟨fun _ => leaf fun d c => c, fun z => nomatch z⟩, fun q2 => ?_⟩)))))
    refine wpT_test (wp_op (wp_var (d := .int way) rfl (wp_int (opd_eqI ⟨_, rfl, fun q => leaf fun d c => c, fun q3 => ?_⟩))))
    have n1 : nodes ≠ 1 := of_decide_eq_false q1
    have n2 : levels ≠ 1 := of_decide_eq_false q2
    refine wpS_next ?_
    have twig : ∀ {P : Po}, (∀ d, C d → P.rt d) → wpS K (fun a => a = p) (tRet (tTup (tCons (tOp (rIxL K) (tVar 1) (tOp (rI0 fun i j => .int (i + j)) (tC (.int 3)) (tCall (spF K gTake) [] E0 (tCons (tVar 0) (tCons (tC (.int 2)) tNil))))) (tCons (tCall (spF K (gGrow k)) [] E0 (tCons (tVar 0) (tCons (tVar 1) (tCons (tOp (rI0 fun i j => .int (i - j)) (tVar 2) (tC (.int 1))) (tCons (tOp (rI0 fun i j => .int (i - j)) (tVar 3) (tC (.int 1))) tNil))))) tNil)))) [.fed p, .dat (.list (ns.map PyData.str)), .dat (.int nodes), .dat (.int levels), .dat (.int way), .no, .no] P := fun hp => by
      refine wpS_ret (wp_tup (wpA_cons (wp_op (wp_var (d := .list (ns.map PyData.str)) rfl (wp_op (wp_int (wp_callF rfl rfl (wpA_cons (wp_int (wpA_nil ⟨2, rfl, by decide, by decide, fun r r0 r1 => opd_ii ?_⟩))))))))))
      obtain ⟨n, hm, e⟩ := nm_get hn (show 0 ≤ 3 + r by omega) (show 3 + r < 6 by omega)
      refine opd_ixL e (wpA_cons (wp_callF rfl rfl (wpA_cons (wp_var (d := .list (ns.map PyData.str)) rfl (wpA_cons (wp_op (wp_var (d := .int nodes) rfl (wp_int (opd_ii (wpA_cons (wp_op (wp_var (d := .int levels) rfl (wp_int (opd_ii (wpA_nil ⟨ns, nodes - 1, levels - 1, rfl, hn, hs, by omega, by omega, by omega, by omega, fun t t1 t2 t3 => ?_⟩)))))))))))))))
      refine wpA_nil ⟨(by show 2 ≤ 100000; decide), hp _ (hc (.node n [t]) ?_ ?_ ?_)⟩
      · show ((1 + (t.size + 0) : Nat) : Int) ≤ nodes; omega
      · show ((1 + max t.lev 0 : Nat) : Int) ≤ levels; omega
      · rw [Tr.lay, Tr.lays, Tr.lays, hs n hm, t3]; rfl
    refine wpS_seq (wpS_if ?_)
    refine wpT_or (wpT_test (wp_op (wp_var (d := .int nodes) rfl (wp_int (opd_eqI ⟨_, rfl, fun q => ⟨fun _ => twig fun d c => c, fun z => nomatch z⟩, fun q4 => ?_⟩)))))
    refine wpT_test (wp_op (wp_var (d := .int way) rfl (wp_int (opd_eqI ⟨_, rfl, fun q => twig fun d c => c, fun q5 => ?_⟩))))
    have n3 : nodes ≠ 2 := of_decide_eq_false q4
    refine wpS_next ?_
    refine wpS_seq (wpS_asg (wp_op (wp_int (wp_callF rfl rfl (wpA_cons (wp_op (wp_var (d := .int nodes) rfl (wp_int (opd_ii (wpA_nil ⟨nodes - 2, rfl, by omega, by omega, fun r r0 r1 => opd_ii ?_⟩))))))))))
    refine wpS_seq (wpS_asg (wp_callF rfl rfl (wpA_cons (wp_var (d := .list (ns.map PyData.str)) rfl (wpA_cons (wp_var (d := .int (1 + r)) rfl (wpA_cons (wp_op (wp_var (d := .int levels) rfl (wp_int (opd_ii (wpA_nil ⟨ns, 1 + r, levels - 1, rfl, hn, hs, by omega, by omega, by omega, by omega, fun t t1 t2 t3 => ?_⟩))))))))))))
    obtain ⟨n, hm, e⟩ := nm_get hn (show (0 : Int) ≤ 5 by decide) (by decide)
    refine wpS_ret (wp_tup (wpA_cons (wp_op (wp_var (d := .list (ns.map PyData.str)) rfl (wp_int (opd_ixL e (wpA_cons (wp_var (d := t.d) rfl (wpA_cons ?_)))))))))
    refine wp_callF rfl rfl (wpA_cons (wp_var (d := .list (ns.map PyData.str)) rfl (wpA_cons (wp_op (wp_op (wp_var (d := .int nodes) rfl (wp_int (opd_ii (wp_var (d := .int (1 + r)) rfl (opd_ii (wpA_cons (wp_op (wp_var (d := .int levels) rfl (wp_int (opd_ii ?_)))))))))))))))
    refine wpA_nil ⟨ns, nodes - 1 - (1 + r), levels - 1, rfl, hn, hs, by omega, by omega, by omega, by omega, fun u u1 u2 u3 => ?_⟩
    refine wpA_nil ⟨(by show 3 ≤ 100000; decide), ?_⟩
    have z := hc (.node n [t, u]) ?_ ?_ ?_
    · rw [d_node] at z; exact z
    · show ((1 + (t.size + (u.size + 0)) : Nat) : Int) ≤ nodes; omega
    · show ((1 + max t.lev (max u.lev 0) : Nat) : Int) ≤ levels; omega
    · rw [Tr.lay, Tr.lays, Tr.lays, Tr.lays, hs n hm, t3, u3]; rfl
end
end Gr

namespace Gr
open PySem L2 Evl Dn
abbrev N_law : List Str := ["script", "k", "feed", "names", "turn", "value", "shown", "due", "found"]
abbrev P_law : List Str := ["script"]
theorem sc_law : FnScope N_law P_law (defScope s_law) := ⟨rfl, rfl, rfl, by decide +kernel, rfl, by decide +kernel, by decide +kernel⟩
theorem cut_none (l : List PyData) (b : Option Int) : ∀ d, d ∈ cut l none b → d ∈ l := fun d m => List.mem_of_mem_drop (List.mem_of_mem_take m)
theorem cut_dl (l : List Tr) (a b : Option Int) : cut (dl l) a b = dl (cut l a b) := by
  unfold cut dl
  rw [List.length_map, List.map_take, List.map_drop]
theorem cut_mem {l : List Tr} {a b : Option Int} {t : Tr} (m : t ∈ cut l a b) : t ∈ l := List.mem_of_mem_drop (List.mem_of_mem_take m)
theorem cut_le {α : Type} (l : List α) (a b : Option Int) : (cut l a b).length ≤ l.length := by
  unfold cut
  rw [List.length_take, List.length_drop]
  omega
theorem cut_m1 (l : List PyData) (d : PyData) : cut (l ++ [d]) none (some (-1)) = l := by
  unfold cut
  have e1 : HT.sIx (l ++ [d]).length 0 none = 0 := rfl
  have e2 : HT.sIx (l ++ [d]).length (l ++ [d]).length (some (-1)) = l.length := by
    show (if (-1 : Int) < 0 then ((-1 : Int) + ((l ++ [d]).length : Int)).toNat else min (-1 : Int).toNat (l ++ [d]).length) = _
    rw [if_pos (by decide), List.length_append, List.length_singleton]
    omega
  rw [e1, e2, List.drop_zero, Nat.sub_zero, List.take_left' rfl]
section
variable {P : Program} {w : World} {K : Frag} {mg : Str → Option Value} {base : Heap}
def gFeed : List PyData → (List PyData → Prop) → Prop := fun ds C => ∃ (ns : List Int) (k : Int), ds = [given (ns.map PyData.int), .int k] ∧ ns.length ≤ 63 ∧ 0 ≤ k ∧ k ≤ 1000 ∧ ∀ d m : Int, 0 ≤ d → 0 ≤ m → m < 4294967311 → C [.int d, .int m]
theorem cut_map (ns : List Int) (a b : Option Int) : cut (ns.map PyData.int) a b = (cut ns a b).map PyData.int := by
  unfold cut
  rw [List.length_map, List.map_take, List.map_drop]
theorem cut_len (ns : List Int) (a b : Option Int) : (cut ns a b).length ≤ ns.length := by
  unfold cut
  rw [List.length_take, List.length_drop]
  omega
theorem ok_feed {f : Addr} {fdt : FuncData} (D : Df K mg "_law_feed" s__law_feed P__law_feed f fdt) (B : Bi mg) : FnOk P w K mg base CX0 1 f fdt P__law_feed (spN K gFeed) := by
  refine okN D.F sc__law_feed (fun ds C h => by obtain ⟨ns, k, rfl, _⟩ := h; rfl) (fun cdv A outer s H E hr => ?_)
  refine ⟨_, (pss_cons (ps_set (i := 2) sc__law_feed.nd rfl (Or.inl rfl) (pe_ix ix_list (pe_op op_cat (pe_callTy call_list_of rfl B.list (by decide +kernel) (pa_cons (pe_slice sl_list (pv 0) (po_some (pv 1)) (po_some (pe_op op_add (pv 1) pe_int))) pa_nil)) (pe_lst (pa_cons (pe_op op_add (pe_op op_mul pe_int (pv 1)) pe_int) pa_nil))) pe_int (fun _ _ => rfl)))
      (pss_cons (ps_set (i := 3) sc__law_feed.nd rfl (Or.inl rfl) (pe_callB (call_max2 rfl) rfl B.max (by decide +kernel) (pa_cons pe_int (pa_cons (pe_op op_sub (pe_callB call_abs rfl B.abs (by decide +kernel) (pa_cons (pv 2) pa_nil)) (pe_op op_pow pe_int pe_int)) pa_nil))))
      (pss_one (ps_ret (pe_lst (pa_cons (pv 3) (pa_cons (pe_op op_modN (pe_callTy call_int1 rfl B.int (by decide +kernel) (pa_cons (pe_op op_add (pe_op op_add (pe_op op_mul (pe_op op_modN (pe_callTy call_int1 rfl B.int (by decide +kernel) (pa_cons (pe_callB call_abs rfl B.abs (by decide +kernel) (pa_cons (pv 2) pa_nil)) pa_nil)) pe_int) pe_int) (pe_op op_mul pe_int (pv 1))) pe_int) pa_nil)) pe_int) pa_nil))))))), fun ds C h => ?_⟩
  obtain ⟨ns, k, rfl, hn, h0, h1, hc⟩ := h
  refine wpS_seq (wpS_asg (wp_op (wpE_new (wpN_op (wpE_new (wpN_cb (wpA_cons (wpE_new (wpN_slG (wp_var (d := given (ns.map PyData.int)) rfl ?_))))))))))
  refine wpO_some (wp_var (d := .int k) rfl ⟨_, rfl, wpO_some (wp_op (wp_var (d := .int k) rfl (wp_int (opd_ii ⟨_, rfl, _, rfl, ?_⟩))))⟩)
  refine wpA_nil (can_listL (wpE_new (wpN_lst (wpA_cons (wp_op (wp_op (wp_int (wp_var (d := .int k) rfl (opd_I ?_ (wp_int (opd_ii ?_)))))))))))
  · exact .inl (by decide)
  refine wpA_nil ⟨(by show 1 ≤ 100000; decide), opn_cat ?_ (wp_int ?_)⟩
  · rw [cut_map, List.length_map]
    have := cut_len ns (some k) (some (k + 1))
    show _ + 1 ≤ _
    omega
  obtain ⟨s, hs⟩ : ∃ s : Int, atI (cut (ns.map PyData.int) (some k) (some (k + 1)) ++ [PyData.int (71 * k + 23)]) 0 = some (.int s) := by
    rw [cut_map]
    cases cut ns (some k) (some (k + 1)) with
    | nil => exact ⟨_, rfl⟩
    | cons a r => exact ⟨a, atI_nat' (k := 0) rfl rfl⟩
  refine opd_ixL hs ?_
  refine wpS_seq (wpS_asg (wp_cb (wpA_cons (wp_int (wpA_cons (wp_op (wp_cb (wpA_cons (wp_var (d := .int s) rfl (wpA_nil (cad_abs (wp_op (wp_int (wp_int (opd_I ?_ (opd_ii (wpA_nil (cad_max2 ?_))))))))))))))))))
  · exact ⟨by decide, by decide, by decide⟩
  generalize hD : (if (if s < 0 then -s else s) - 10 ^ (18 : Int).toNat > 0 then (if s < 0 then -s else s) - 10 ^ (18 : Int).toNat else 0) = dg
  have hdg : 0 ≤ dg := by split at hD <;> omega
  refine wpS_retNew (wpN_lst (wpA_cons (wp_var (d := .int dg) rfl (wpA_cons (wp_op (wp_cb (wpA_cons (wp_op (wp_op (wp_op (wp_op (wp_cb (wpA_cons (wp_cb (wpA_cons (wp_var (d := .int s) rfl (wpA_nil (cad_abs (wpA_nil (cad_int (wp_int (opd_I (by decide) (wp_int (opd_I ?_ (wp_op (wp_int (wp_var (d := .int k) rfl (opd_I ?_ (opd_ii (wp_int (opd_ii (wpA_nil (cad_int (wp_int (opd_I (by decide) (wpA_nil ⟨(by show 2 ≤ 100000; decide), hc _ _ hdg ?_ ?_⟩))))))))))))))))))))))))))))))))))))
  · exact .inr (by decide)
  · exact .inl (by decide)
  · exact (fmod_in (by decide)).1
  · have := (fmod_in (a := (if s < 0 then -s else s).fmod 1000003 * 7919 + 31 * k + 17) (b := 1000033) (by decide)).2
    omega
def gTree : List PyData → (PyData → Prop) → Prop := fun ds C => ∃ (ns : List Str) (nodes : Int), ds = [.list (ns.map PyData.str), .int nodes] ∧ ns.length = 6 ∧ (∀ x, x ∈ ns → nOk x = true) ∧ 1 ≤ nodes ∧ nodes ≤ 40 ∧ ∀ t : Tr, ((t.size : Nat) : Int) ≤ nodes → t.lev ≤ 6 → t.lay = true → C t.d
theorem ok_tree {f f_gr f_tk f_pk : Addr} {fdt fdt_gr fdt_tk fdt_pk : FuncData} (D : Df K mg "_law_tree" s__law_tree P__law_tree f fdt) (B : Bi mg) (D__law_grow : Df K mg "_law_grow" s__law_grow P__law_grow f_gr fdt_gr) (D__law_take : Df K mg "_law_take" s__law_take P__law_take f_tk fdt_tk) (D__law_pick : Df K mg "_law_pick" s__law_pick P__law_pick f_pk fdt_pk) : FnOk P w K mg base CX0 10 f fdt P__law_tree (spF K gTree) := by
  have G__law_grow : FnOk P w K mg base CX0 9 _ _ _ _ := ok_grow D__law_grow B D__law_take D__law_pick 6
  refine okF D.F sc__law_tree (fun ds C h => by obtain ⟨ns, nodes, rfl, _⟩ := h; rfl) (fun cdv A outer s H E hr => ?_)
  have hr__law_grow := hr
  refine ⟨_, (pss_one (ps_ret (pe_call G__law_grow hr__law_grow rfl D__law_grow.m D__law_grow.F.kp D__law_grow.b .nil pass0 (pa_cons (pv 0) (pa_cons (pv 1) (pa_cons (pv 2) (pa_cons pe_int pa_nil))))))), fun p ds C h => ?_⟩
  obtain ⟨ns, nodes, rfl, hn, hs, h1, h2, hc⟩ := h
  refine wpS_ret (wp_callF rfl rfl (wpA_cons (wp_var (d := .list (ns.map PyData.str)) rfl (wpA_cons (wp_var (d := .int nodes) rfl (wpA_cons (wp_int (wpA_nil ⟨ns, nodes, 6, rfl, hn, hs, h1, h2, by decide, by decide, fun t t1 t2 t3 => hc t (by omega) (by omega) t3⟩))))))))
end
end Gr

namespace Gr
open PySem L2 Evl Dn
structure Mc (mg : Str → Option Value) : Prop where
  MOST_LETTERS : ∃ t, mg "MOST_LETTERS" = some (.int 8 t)
  MOST_CHILDREN : ∃ t, mg "MOST_CHILDREN" = some (.int 4 t)
  MOST_RULES : ∃ t, mg "MOST_RULES" = some (.int 8 t)
  MOST_TOLD_PARTS : ∃ t, mg "MOST_TOLD_PARTS" = some (.int 24 t)
  MOST_NODES_OF_SIDE : ∃ t, mg "MOST_NODES_OF_SIDE" = some (.int 6 t)
  MOST_LEVELS_OF_SIDE : ∃ t, mg "MOST_LEVELS_OF_SIDE" = some (.int 4 t)
abbrev N_is_name : List Str := ["value", "letter"]
abbrev P_is_name : List Str := ["value"]
theorem sc_is_name : FnScope N_is_name P_is_name (defScope s_is_name) := ⟨rfl, rfl, rfl, by decide +kernel, rfl, by decide +kernel, by decide +kernel⟩
abbrev N_is_node : List Str := ["value"]
abbrev P_is_node : List Str := ["value"]
theorem sc_is_node : FnScope N_is_node P_is_node (defScope s_is_node) := ⟨rfl, rfl, rfl, by decide +kernel, rfl, by decide +kernel, by decide +kernel⟩
abbrev N_is_low_tree : List Str := ["value", "levels", "child"]
abbrev P_is_low_tree : List Str := ["value", "levels"]
theorem sc_is_low_tree : FnScope N_is_low_tree P_is_low_tree (defScope s_is_low_tree) := ⟨rfl, rfl, rfl, by decide +kernel, rfl, by decide +kernel, by decide +kernel⟩
abbrev N_is_side : List Str := ["value"]
abbrev P_is_side : List Str := ["value"]
theorem sc_is_side : FnScope N_is_side P_is_side (defScope s_is_side) := ⟨rfl, rfl, rfl, by decide +kernel, rfl, by decide +kernel, by decide +kernel⟩
abbrev N_is_rule : List Str := ["value", "left", "right"]
abbrev P_is_rule : List Str := ["value"]
theorem sc_is_rule : FnScope N_is_rule P_is_rule (defScope s_is_rule) := ⟨rfl, rfl, rfl, by decide +kernel, rfl, by decide +kernel, by decide +kernel⟩
abbrev N_told_parts : List Str := ["rules", "rule", "side"]
abbrev P_told_parts : List Str := ["rules"]
theorem sc_told_parts : FnScope N_told_parts P_told_parts (defScope s_told_parts) := ⟨rfl, rfl, rfl, by decide +kernel, rfl, by decide +kernel, by decide +kernel⟩
section
variable {P : Program} {w : World} {K : Frag} {mg : Str → Option Value} {base : Heap}
theorem isB_ii {v : Int} : isB (.int v) "int" = some true := by show kitB "int" "int" = _; decide +kernel
theorem isB_ib {v : Int} : isB (.int v) "bool" = some false := by show kitB "int" "bool" = _; decide +kernel
theorem isB_ss {v : Str} : isB (.str v) "str" = some true := by show kitB "str" "str" = _; decide +kernel
theorem isB_tt {v : List PyData} : isB (.tuple v) "tuple" = some true := by show kitB "tuple" "tuple" = _; decide +kernel
theorem isB_ll {v : List PyData} : isB (.list v) "list" = some true := by show kitB "list" "list" = _; decide +kernel
theorem one_lt (a b : Nat) : ([a] < [b]) ↔ a < b := by rw [List.cons_lt_cons_iff]; simp
theorem sign_a {ch : Nat} (h : 97 ≤ ch) : (!decide ((⟨#[ch]⟩ : Str).cps.toList < ("a" : Str).cps.toList)) = true := by
  have e : ("a" : Str).cps.toList = [97] := by decide +kernel
  rw [e]
  show (!decide ([ch] < [97])) = true
  rw [decide_eq_false (fun z => absurd ((one_lt ch 97).mp z) (by omega))]; rfl
theorem sign_z {ch : Nat} (h : ch ≤ 122) : (!decide (("z" : Str).cps.toList < (⟨#[ch]⟩ : Str).cps.toList)) = true := by
  have e : ("z" : Str).cps.toList = [122] := by decide +kernel
  rw [e]
  show (!decide ([122] < [ch])) = true
  rw [decide_eq_false (fun z => absurd ((one_lt 122 ch).mp z) (by omega))]; rfl
theorem nOk_len {n : Str} (h : nOk n = true) : 1 ≤ n.length ∧ n.length ≤ 8 ∧ ∀ c, c ∈ n.cps.toList → 97 ≤ c ∧ c ≤ 122 := by
  unfold nOk at h
  rw [Bool.and_eq_true, Bool.and_eq_true] at h
  refine ⟨of_decide_eq_true h.1, of_decide_eq_true h.2.1, fun c m => ?_⟩
  have z := List.all_eq_true.mp h.2.2 c m
  rw [Bool.and_eq_true] at z
  exact ⟨of_decide_eq_true z.1, of_decide_eq_true z.2⟩
theorem all_rep : ∀ n : Nat, (List.replicate n true).all id = true
  | 0 => rfl
  | n + 1 => by rw [List.replicate_succ, List.all_cons, all_rep n]; rfl
theorem ok_name {f : Addr} {fdt : FuncData} (D : Df K mg "is_name" s_is_name P_is_name f fdt) (B : Bi mg) (M : Mc mg) : FnOk P w K mg base CX0 1 f fdt P_is_name (spP K fun ds C => ∃ n : Str, ds = [.str n] ∧ nOk n = true ∧ C (.bool true)) := by
  refine okP D.F sc_is_name (fun ds C h => by obtain ⟨v, rfl, _⟩ := h; rfl) (fun cdv A outer s H E hr => ?_)
  refine ⟨_, (pss_cons (ps_if (PW.pt (pw_or (pt_not (pt_val (pe_callB call_isi rfl B.isinstance (by decide +kernel) (pa_cons (pv 0) (pa_cons (pe_bltn (v := .ty "str") rfl B.str (by decide +kernel) rfl) pa_nil))))) (pw_or1 (pt_not (pt_chain op_le op_le pe_int (pe_callB call_len_str rfl B.len PySem.boot_len (pa_cons (pv 0) pa_nil)) (pe_glob (v := .int 8) rfl M.MOST_LETTERS.choose_spec ⟨_, rfl⟩)))))) (pss_one (ps_ret pe_bl)) pss_nil)
      (pss_one (ps_ret (pe_callB (cr_all rfl) rfl B.all (by decide +kernel) (pa_cons (pe_lc rfl sc_is_name.nd (pi_str (pv 0)) (blkOk_by (own := [("letter", 1)]) (N := N_is_name) (sc := defScope s_is_name) (by decide +kernel)) (fun _ _ _ _ _ => (pg_name (i := 1) sc_is_name.nd rfl (Or.inl rfl))) (fun _ _ _ _ _ => pts_nil) (fun _ _ _ _ _ => (pe_chain op_le_str op_le_str pe_str (pv 1) pe_str))) pa_nil))))), fun ds C h => ?_⟩
  obtain ⟨n, rfl, hn, hc⟩ := h
  obtain ⟨l1, l2, l3⟩ := nOk_len hn
  refine wpS_seq (wpS_if (wpT_or (wpT_not (wpT_B (wp_isi (wp_var (d := .str n) rfl ⟨true, isB_ss, true, rfl, fun z => absurd z (by decide), fun _ => ?_⟩))))))
  refine wpT_not (wpT_test (wp_chain (wp_int (wp_cb (wpA_cons (wp_var (d := .str n) rfl (wpA_nil (cad_lenS (by omega) (opd_ib ⟨_, rfl, fun q => ?_, fun q => ?_⟩)))))))))
  rotate_left
  · exact absurd (of_decide_eq_false q) (by omega)
  refine wp_int (opd_ib ⟨_, rfl, fun z => ?_, fun _ => ?_⟩)
  · rw [decide_eq_true (show ((n.length : Nat) : Int) ≤ 8 by omega)] at z
    exact nomatch z
  refine wpS_next (wpS_ret (wp_cb (wpA_cons (wpE_new (wpN_lc (wpI_str (wp_var (d := .str n) rfl ⟨n, rfl, fun i acc => acc = (List.replicate i true).map PyData.bool, rfl, ?_, ?_⟩)))))))
  · rintro i d acc e rfl
    unfold signs at e
    rw [List.getElem?_map] at e
    cases hc2 : n.cps.toList[i]? with
    | none => rw [hc2] at e; cases e
    | some ch =>
      rw [hc2] at e
      have e := (Option.some.inj e).symm
      subst e
      obtain ⟨c1, c2⟩ := l3 ch (List.mem_of_getElem? hc2)
      have hi : i < n.length := by
        have z := (List.getElem?_eq_some_iff.mp hc2).1
        rwa [Array.length_toList] at z
      refine ⟨_, gD_name, by simp, wpT_yes ⟨fun _ => ?_, fun z => nomatch z⟩⟩
      refine wp_chain (wp_str (wp_var (d := .str ⟨#[ch]⟩) rfl (opd_leS ⟨_, rfl, fun _ => wp_str (opd_leS ⟨?_, ?_⟩), fun q => ?_⟩)))
      · rw [List.length_map, List.length_replicate]; omega
      · rw [sign_z c2]
        show _ = (List.replicate (i + 1) true).map PyData.bool
        rw [List.replicate_succ', List.map_append]; rfl
      · rw [sign_a c1] at q; exact nomatch q
  · rintro acc rfl
    refine wpA_nil (cad_all ?_)
    rw [all_rep]
    exact hc
theorem lay_node {n : Str} {cs : List Tr} (h : (Tr.node n cs).lay = true) : nOk n = true ∧ cs.length ≤ 4 := by
  rw [Tr.lay, Bool.and_eq_true, Bool.and_eq_true] at h
  exact ⟨h.1, of_decide_eq_true h.2.1⟩
def gNode : List PyData → (PyData → Prop) → Prop := fun ds C => ∃ t : Tr, ds = [t.d] ∧ t.lay = true ∧ C (.bool true)
theorem ok_node {f f_nm : Addr} {fdt fdt_nm : FuncData} (D : Df K mg "is_node" s_is_node P_is_node f fdt) (B : Bi mg) (M : Mc mg) (D_is_name : Df K mg "is_name" s_is_name P_is_name f_nm fdt_nm) : FnOk P w K mg base CX0 2 f fdt P_is_node (spP K gNode) := by
  have G_is_name : FnOk P w K mg base CX0 1 _ _ _ _ := ok_name D_is_name B M
  refine okP D.F sc_is_node (fun ds C h => by obtain ⟨v, rfl, _⟩ := h; rfl) (fun cdv A outer s H E hr => ?_)
  have hr_is_name := hr
  refine ⟨_, (pss_cons (ps_if (PW.pt (pw_or (pt_not (pt_val (pe_callB call_isi rfl B.isinstance (by decide +kernel) (pa_cons (pv 0) (pa_cons (pe_bltn (v := .ty "tuple") rfl B.tuple (by decide +kernel) rfl) pa_nil))))) (pw_or1 (pt_not (pt_chain op_le op_le pe_int (pe_callB call_len_seq rfl B.len PySem.boot_len (pa_cons (pv 0) pa_nil)) (pe_op op_add (pe_glob (v := .int 4) rfl M.MOST_CHILDREN.choose_spec ⟨_, rfl⟩) pe_int)))))) (pss_one (ps_ret pe_bl)) pss_nil)
      (pss_one (ps_ret (pe_call G_is_name hr_is_name rfl D_is_name.m D_is_name.F.kp D_is_name.b .nil pass0 (pa_cons (pe_ix ix_tup (pv 0) pe_int (fun _ _ => rfl)) pa_nil))))), fun ds C h => ?_⟩
  obtain ⟨t, rfl, hl, hc⟩ := h
  cases t with
  | node n cs =>
  obtain ⟨hn, h4⟩ := lay_node hl
  rw [d_node]
  refine wpS_seq (wpS_if (wpT_or (wpT_not (wpT_B (wp_isi (wp_var (d := .tuple (.str n :: cs.map Tr.d)) rfl ⟨true, isB_tt, true, rfl, fun z => absurd z (by decide), fun _ => ?_⟩))))))
  refine wpT_not (wpT_test (wp_chain (wp_int (wp_cb (wpA_cons (wp_var (d := .tuple (.str n :: cs.map Tr.d)) rfl (wpA_nil (cad_lenT (opd_ib ⟨_, rfl, fun q => ?_, fun q => ?_⟩)))))))))
  rotate_left
  · rw [List.length_cons, List.length_map] at q
    exact absurd (of_decide_eq_false q) (by omega)
  refine wp_op (wp_int (wp_int (opd_ii (opd_ib ⟨_, rfl, fun z => ?_, fun _ => ?_⟩))))
  · rw [List.length_cons, List.length_map, decide_eq_true (show ((cs.length + 1 : Nat) : Int) ≤ 4 + 1 by omega)] at z
    exact nomatch z
  exact wpS_next (wpS_ret (wp_call (wpA_cons (wp_op (wp_var (d := .tuple (.str n :: cs.map Tr.d)) rfl (wp_int (opd_ixT (d := .str n) (atI_nat' (k := 0) rfl rfl) (wpA_nil ⟨n, rfl, hn, hc⟩))))))))
def gLow (k : Nat) : List PyData → (PyData → Prop) → Prop := fun ds C => ∃ (t : Tr) (lv : Int), ds = [t.d, .int lv] ∧ t.lay = true ∧ t.lev ≤ k ∧ ((t.lev : Nat) : Int) ≤ lv ∧ C (.bool true)
theorem ok_low {f f_nm f_nd : Addr} {fdt fdt_nm fdt_nd : FuncData} (D_is_low_tree : Df K mg "is_low_tree" s_is_low_tree P_is_low_tree f fdt) (B : Bi mg) (M : Mc mg) (D_is_name : Df K mg "is_name" s_is_name P_is_name f_nm fdt_nm) (D_is_node : Df K mg "is_node" s_is_node P_is_node f_nd fdt_nd) : ∀ k, FnOk P w K mg base CX0 (k + 3) f fdt P_is_low_tree (spP K (gLow k))
  | 0 => no_spP fun ds C ⟨t, _, _, _, h, _⟩ => by have := lev_pos t; omega
  | k + 1 => by
    have G_is_low_tree := ok_low D_is_low_tree B M D_is_name D_is_node k
    have G_is_node : FnOk P w K mg base CX0 2 _ _ _ _ := ok_node D_is_node B M D_is_name
    refine okP D_is_low_tree.F sc_is_low_tree (fun ds C h => by obtain ⟨t, lv, rfl, _⟩ := h; rfl) (fun cdv A outer s H E hr => ?_)
    have hr_is_low_tree := hr
    have hr_is_node := hr.mono (show 2 ≤ k + 3 by omega)
    refine ⟨_, (pss_cons (ps_if (PW.pt (pw_or (pt_cmpR op_lt (pv 1) pe_int (nomark _)) (pw_or1 (pt_not (pt_val (pe_call G_is_node hr_is_node rfl D_is_node.m D_is_node.F.kp D_is_node.b .nil pass0 (pa_cons (pv 0) pa_nil))))))) (pss_one (ps_ret pe_bl)) pss_nil)
      (pss_one (ps_ret (pe_callB (cr_all rfl) rfl B.all (by decide +kernel) (pa_cons (pe_lc rfl sc_is_low_tree.nd (pi_tup (pe_slice sl_tupA (pv 0) (po_some pe_int) po_none)) (blkOk_by (own := [("child", 2)]) (N := N_is_low_tree) (sc := defScope s_is_low_tree) (by decide +kernel)) (fun _ _ _ _ _ => (pg_name (i := 2) sc_is_low_tree.nd rfl (Or.inl rfl))) (fun _ _ _ _ _ => pts_nil) (fun _ _ _ _ _ => (pe_call G_is_low_tree hr_is_low_tree rfl D_is_low_tree.m D_is_low_tree.F.kp D_is_low_tree.b .nil pass0 (pa_cons (pv 2) (pa_cons (pe_op op_sub (pv 1) pe_int) pa_nil))))) pa_nil))))), fun ds C h => ?_⟩
    obtain ⟨t, lv, rfl, hl, hk, hv, hc⟩ := h
    have hp := lev_pos t
    refine wpS_seq (wpS_if (wpT_or (wpT_test (wp_op (wp_var (d := .int lv) rfl (wp_int (opd_ib ⟨_, rfl, fun z => absurd (of_decide_eq_true z) (by omega), fun _ => ?_⟩)))))))
    refine wpT_not (wpT_B (wp_call (wpA_cons (wp_var (d := t.d) rfl (wpA_nil ⟨t, rfl, hl, true, rfl, fun z => absurd z (by decide), fun _ => ?_⟩)))))
    cases t with
    | node n cs =>
    obtain ⟨hn, h4⟩ := lay_node hl
    refine wpS_next (wpS_ret (wp_cb (wpA_cons (wpE_new (wpN_lc (wpI_tup (wp_slT (wp_var (d := (Tr.node n cs).d) rfl (wpO_some (wp_int ⟨1, rfl, wpO_none ⟨_, d_node n cs, ?_⟩⟩))))))))))
    rw [cut_tl]
    refine ⟨_, rfl, fun i acc => acc = (List.replicate i true).map PyData.bool, rfl, ?_, ?_⟩
    · rintro i d acc e rfl
      obtain ⟨c, hc2, rfl⟩ := dl_get (l := cs) e
      have m : c ∈ cs := List.mem_of_getElem? hc2
      have hi : i < cs.length := (List.getElem?_eq_some_iff.mp hc2).1
      have hcv := lev_child (k := lv.toNat - 1) (n := n) (cs := cs) (by omega) m
      refine ⟨_, gD_name, by simp, wpT_yes ⟨fun _ => wp_call (wpA_cons (wp_var (d := c.d) rfl (wpA_cons (wp_op (wp_var (d := .int lv) rfl (wp_int (opd_ii (wpA_nil ⟨c, lv - 1, rfl, lay_child hl m, lev_child hk m, by omega, ?_, ?_⟩)))))))), fun z => nomatch z⟩⟩
      · rw [List.length_map, List.length_replicate]; omega
      · show _ = (List.replicate (i + 1) true).map PyData.bool
        rw [List.replicate_succ', List.map_append]; rfl
    · rintro acc rfl
      refine wpA_nil (cad_all ?_)
      rw [all_rep]
      exact hc
def gSide : List PyData → (PyData → Prop) → Prop := fun ds C => ∃ t : Tr, ds = [t.d] ∧ t.lay = true ∧ t.lev ≤ 4 ∧ t.size ≤ 6 ∧ C (.bool true)
theorem ok_side {f f_nm f_nd f_lo f_sz f_ev : Addr} {fdt fdt_nm fdt_nd fdt_lo fdt_sz fdt_ev : FuncData} (D : Df K mg "is_side" s_is_side P_is_side f fdt) (B : Bi mg) (M : Mc mg) (D_is_name : Df K mg "is_name" s_is_name P_is_name f_nm fdt_nm) (D_is_node : Df K mg "is_node" s_is_node P_is_node f_nd fdt_nd) (D_is_low_tree : Df K mg "is_low_tree" s_is_low_tree P_is_low_tree f_lo fdt_lo) (D_size : Df K mg "size" s_size P_size f_sz fdt_sz) (D_every_part : Df K mg "every_part" s_every_part P_every_part f_ev fdt_ev) : FnOk P w K mg base CX0 8 f fdt P_is_side (spP K gSide) := by
  have G_is_low_tree : FnOk P w K mg base CX0 7 _ _ _ _ := ok_low D_is_low_tree B M D_is_name D_is_node 4
  have G_size : FnOk P w K mg base CX0 2 _ _ _ _ := ok_sz D_size B D_every_part
  refine okP D.F sc_is_side (fun ds C h => by obtain ⟨v, rfl, _⟩ := h; rfl) (fun cdv A outer s H E hr => ?_)
  have hr_is_low_tree := hr
  have hr_size := hr.mono (show 2 ≤ 7 by decide)
  refine ⟨_, (pss_one (ps_ret (pe_and (pe_call G_is_low_tree hr_is_low_tree rfl D_is_low_tree.m D_is_low_tree.F.kp D_is_low_tree.b .nil pass0 (pa_cons (pv 0) (pa_cons (pe_glob (v := .int 4) rfl M.MOST_LEVELS_OF_SIDE.choose_spec ⟨_, rfl⟩) pa_nil))) (pe_one (pe_cmpR op_le (pe_call G_size hr_size rfl D_size.m D_size.F.kp D_size.b .nil pass0 (pa_cons (pv 0) pa_nil)) (pe_glob (v := .int 6) rfl M.MOST_NODES_OF_SIDE.choose_spec ⟨_, rfl⟩) (nomark _)))))), fun ds C h => ?_⟩
  obtain ⟨t, rfl, hl, h4, h6, hc⟩ := h
  refine wpS_ret (wp_andV (wp_call (wpA_cons (wp_var (d := t.d) rfl (wpA_cons (wp_int (wpA_nil ⟨t, 4, rfl, hl, h4, by omega, true, rfl, fun _ => ?_, fun z => nomatch z⟩)))))))
  refine wp_op (wp_call (wpA_cons (wp_var (d := t.d) rfl (wpA_nil ⟨t, rfl, by omega, wp_int (opd_ib ?_)⟩))))
  rw [decide_eq_true (show ((t.size : Nat) : Int) ≤ 6 by omega)]
  exact hc
def rd (q : Tr × Tr) : PyData := .tuple [q.1.d, q.2.d]
structure Sd (t : Tr) : Prop where
  lay : t.lay = true
  lev : t.lev ≤ 4
  size : t.size ≤ 6
theorem Sd.gd {t : Tr} (h : Sd t) : Gd t := ⟨by have := h.lev; omega, by have := h.size; omega, h.lay⟩
def gRule : List PyData → (PyData → Prop) → Prop := fun ds C => ∃ q : Tr × Tr, ds = [rd q] ∧ Sd q.1 ∧ Sd q.2 ∧ q.1 ≠ q.2 ∧ C (.bool true)
theorem ok_rule {f f_sd f_nm f_nd f_lo f_sz f_ev : Addr} {fdt fdt_sd fdt_nm fdt_nd fdt_lo fdt_sz fdt_ev : FuncData} (D : Df K mg "is_rule" s_is_rule P_is_rule f fdt) (B : Bi mg) (M : Mc mg) (D_is_side : Df K mg "is_side" s_is_side P_is_side f_sd fdt_sd) (D_is_name : Df K mg "is_name" s_is_name P_is_name f_nm fdt_nm) (D_is_node : Df K mg "is_node" s_is_node P_is_node f_nd fdt_nd) (D_is_low_tree : Df K mg "is_low_tree" s_is_low_tree P_is_low_tree f_lo fdt_lo) (D_size : Df K mg "size" s_size P_size f_sz fdt_sz) (D_every_part : Df K mg "every_part" s_every_part P_every_part f_ev fdt_ev) : FnOk P w K mg base CX0 9 f fdt P_is_rule (spP K gRule) := by
  have G_is_side : FnOk P w K mg base CX0 8 _ _ _ _ := ok_side D_is_side B M D_is_name D_is_node D_is_low_tree D_size D_every_part
  refine okP D.F sc_is_rule (fun ds C h => by obtain ⟨v, rfl, _⟩ := h; rfl) (fun cdv A outer s H E hr => ?_)
  have hr_is_side := hr
  have hu64 := hr.units
  refine ⟨_, (pss_cons (ps_if (PW.pt (pw_or (pt_not (pt_val (pe_callB call_isi rfl B.isinstance (by decide +kernel) (pa_cons (pv 0) (pa_cons (pe_bltn (v := .ty "tuple") rfl B.tuple (by decide +kernel) rfl) pa_nil))))) (pw_or1 (pt_cmpR op_ne (pe_callB call_len_seq rfl B.len PySem.boot_len (pa_cons (pv 0) pa_nil)) pe_int (nomark _))))) (pss_one (ps_ret pe_bl)) pss_nil)
      (pss_cons (ps_asg (pv 0) (pg_tup rfl (pgs_cons (pg_name (i := 1) sc_is_rule.nd rfl (Or.inl rfl)) (pgs_cons (pg_name (i := 2) sc_is_rule.nd rfl (Or.inl rfl)) pgs_nil))))
      (pss_one (ps_ret (pe_and (pe_call G_is_side hr_is_side rfl D_is_side.m D_is_side.F.kp D_is_side.b .nil pass0 (pa_cons (pv 1) pa_nil)) (pe_and (pe_call G_is_side hr_is_side rfl D_is_side.m D_is_side.F.kp D_is_side.b .nil pass0 (pa_cons (pv 2) pa_nil)) (pe_one (pe_cmpR (op_neD hu64) (pv 1) (pv 2) (nomark _))))))))), fun ds C h => ?_⟩
  obtain ⟨⟨l, r⟩, rfl, hl, hrr, hne, hc⟩ := h
  refine wpS_seq (wpS_if (wpT_or (wpT_not (wpT_B (wp_isi (wp_var (d := .tuple [l.d, r.d]) rfl ⟨true, isB_tt, true, rfl, fun z => absurd z (by decide), fun _ => ?_⟩))))))
  refine wpT_test (wp_op (wp_cb (wpA_cons (wp_var (d := .tuple [l.d, r.d]) rfl (wpA_nil (cad_lenT (wp_int (opd_neI ⟨_, rfl, fun q => ?_, fun _ => ?_⟩))))))))
  · have z : (!decide ((([l.d, r.d] : List PyData).length : Int) = 2)) = false := rfl
    rw [z] at q; cases q
  refine wpS_next (wpS_seq (wpS_asgT (wp_var (d := .tuple [l.d, r.d]) rfl ⟨_, gD_tup (gsD_cons gD_name (gsD_cons gD_name gsD_nil)) rfl, ?_⟩)))
  refine wpS_ret (wp_andV (wp_call (wpA_cons (wp_var (d := l.d) rfl (wpA_nil ⟨l, rfl, hl.lay, hl.lev, hl.size, true, rfl, fun _ => ?_, fun z => nomatch z⟩)))))
  refine wp_andV (wp_call (wpA_cons (wp_var (d := r.d) rfl (wpA_nil ⟨r, rfl, hrr.lay, hrr.lev, hrr.size, true, rfl, fun _ => ?_, fun z => nomatch z⟩))))
  refine wp_op (wp_var (d := l.d) rfl (wp_var (d := r.d) rfl (opd_neD hl.gd.cmp hrr.gd.cmp ?_)))
  cases e : PyData.eqv l.d r.d with
  | true => exact absurd (eqv_d l r e) hne
  | false => exact hc
def sides (rs : List (Tr × Tr)) : List Tr := (rs.map fun q => [q.1, q.2]).flatten
def gTold : List PyData → (List PyData → Prop) → Prop := fun ds C => ∃ rs : List (Tr × Tr), ds = [.list (rs.map rd)] ∧ (∀ q, q ∈ rs → Gd q.1 ∧ Gd q.2) ∧ Tr.sizes (sides rs) < 50000 ∧ C (dl (ord (Tr.partsL (sides rs))))
theorem sides_snoc (rs : List (Tr × Tr)) (q : Tr × Tr) : sides (rs ++ [q]) = sides rs ++ [q.1, q.2] := by
  unfold sides; rw [List.map_append, List.flatten_append]; rfl
theorem sides_len (rs : List (Tr × Tr)) : (sides rs).length = 2 * rs.length := by
  unfold sides
  induction rs with
  | nil => rfl
  | cons q rs ih => rw [List.map_cons, List.flatten_cons, List.length_append, ih]; show 2 + 2 * rs.length = 2 * (rs.length + 1); omega
theorem sides_mem {rs : List (Tr × Tr)} {t : Tr} (h : t ∈ sides rs) : ∃ q, q ∈ rs ∧ (t = q.1 ∨ t = q.2) := by
  unfold sides at h
  obtain ⟨l, hl, ht⟩ := List.mem_flatten.mp h
  obtain ⟨q, hq, rfl⟩ := List.mem_map.mp hl
  refine ⟨q, hq, ?_⟩
  rcases List.mem_cons.mp ht with e | e
  · exact .inl e
  · exact .inr (List.mem_singleton.mp e)
theorem ok_told {f f_ev f_sz f_rk f_or f_po : Addr} {fdt fdt_ev fdt_sz fdt_rk fdt_or fdt_po : FuncData} (D : Df K mg "told_parts" s_told_parts P_told_parts f fdt) (B : Bi mg) (D_every_part : Df K mg "every_part" s_every_part P_every_part f_ev fdt_ev) (D_size : Df K mg "size" s_size P_size f_sz fdt_sz) (D_rank : Df K mg "rank" s_rank P_rank f_rk fdt_rk) (D_ordered : Df K mg "ordered" s_ordered P_ordered f_or fdt_or) (D_parts_of : Df K mg "parts_of" s_parts_of P_parts_of f_po fdt_po) : FnOk P w K mg base CX0 8 f fdt P_told_parts (spN K gTold) := by
  have G_parts_of : FnOk P w K mg base CX0 7 _ _ _ _ := ok_parts_of D_parts_of B D_every_part D_size D_rank D_ordered
  refine okN D.F sc_told_parts (fun ds C h => by obtain ⟨l, rfl, _⟩ := h; rfl) (fun cdv A outer s H E hr => ?_)
  have hr_parts_of := hr
  refine ⟨_, (pss_one (ps_ret (pe_call G_parts_of hr_parts_of rfl D_parts_of.m D_parts_of.F.kp D_parts_of.b .nil pass0 (pa_cons (pe_lc2 rfl sc_told_parts.nd (vs1 := [2]) (pi_list (pv 0)) (blkOk_by (own := [("rule", 1), ("side", 2)]) (N := N_told_parts) (sc := defScope s_told_parts) (by decide +kernel)) (by decide) (fun _ _ _ _ _ => (pg_name (i := 1) sc_told_parts.nd rfl (Or.inl rfl))) (fun _ _ _ _ _ => pts_nil) (fun _ _ _ _ _ => (show PI _ _ _ (iTup K _) from (pi_tup (pv 1)))) (fun _ _ _ _ _ => (pg_name (i := 2) sc_told_parts.nd rfl (Or.inl rfl))) (fun _ _ _ _ _ => pts_nil) (fun _ _ _ _ _ => (pv 2))) pa_nil)))), fun ds C h => ?_⟩
  obtain ⟨rs, rfl, hg, hz, hc⟩ := h
  have hzl : (sides rs).length < 50000 := by
    have := len_le_sizes (sides rs)
    omega
  refine wpS_retNew (wpN_call (wpA_cons (wpE_new (wpN_lc2 (wpI_list (wp_var (d := .list (rs.map rd)) rfl ⟨_, rfl, fun i acc => acc = dl (sides (rs.take i)), rfl, ?_, ?_⟩))))))
  · rintro i d acc e rfl
    rw [List.getElem?_map] at e
    cases hq : rs[i]? with
    | none => rw [hq] at e; cases e
    | some q =>
      rw [hq] at e
      have e := (Option.some.inj e).symm
      subst e
      have hi : i < rs.length := (List.getElem?_eq_some_iff.mp hq).1
      have hsl := sides_len rs
      have hs1 := sides_len (rs.take i)
      rw [List.length_take] at hs1
      refine ⟨_, gD_name, by simp, wpT_yes ⟨fun _ => wpI_tup (wp_var (d := rd q) rfl ⟨_, rfl, fun j acc => acc = dl (sides (rs.take i) ++ [q.1, q.2].take j), (by show _ = dl (_ ++ []); rw [List.append_nil]), ?_, ?_⟩), fun z => nomatch z⟩⟩
      · rintro j d acc e rfl
        obtain ⟨u, hu, rfl⟩ := dl_get (l := [q.1, q.2]) e
        have hj : j < 2 := (List.getElem?_eq_some_iff.mp hu).1
        refine ⟨_, gD_name, by simp, wpT_yes ⟨fun _ => wp_var (d := u.d) rfl ⟨?_, ?_⟩, fun z => nomatch z⟩⟩
        · rw [dl_len, List.length_append, List.length_take]
          show _ + min j 2 < _
          omega
        · show _ = dl (sides (rs.take i) ++ [q.1, q.2].take (j + 1))
          rw [List.take_add_one, hu, ← List.append_assoc]
          unfold dl
          rw [List.map_append (l₁ := sides (rs.take i) ++ _)]
          rfl
      · rintro acc rfl
        show _ = dl (sides (rs.take (i + 1)))
        rw [List.take_add_one, hq]
        show _ = dl (sides (rs.take i ++ [q]))
        rw [sides_snoc]
        rfl
  · rintro acc rfl
    rw [List.length_map, List.take_length]
    refine wpA_nil ⟨sides rs, rfl, fun t m => ?_, hz, hc⟩
    obtain ⟨q, hq, e⟩ := sides_mem m
    rcases e with rfl | rfl
    · exact (hg q hq).1
    · exact (hg q hq).2
end
end Gr

namespace Gr
open PySem L2 Evl Dn

def subT : Tr → Nat → Option Tr
  | .node _ cs, i => cs[i]?
def IsPath (t : Tr) (q : List Nat) (L : List Tr) : Prop := L.length = q.length + 1 ∧ L[0]? = some t ∧ ∀ i k, q[i]? = some k → ∃ u c, L[i]? = some u ∧ subT u k = some c ∧ L[i + 1]? = some c
theorem IsPath.nil (t : Tr) : IsPath t [] [t] := ⟨rfl, rfl, fun i k e => by simp at e⟩
theorem IsPath.cons {t c : Tr} {k : Nat} {q : List Nat} {L : List Tr} (h : subT t k = some c) (p : IsPath c q L) : IsPath t (k :: q) (t :: L) := by
  obtain ⟨p1, p2, p3⟩ := p
  refine ⟨by rw [List.length_cons, List.length_cons, p1], rfl, fun i j e => ?_⟩
  cases i with
  | zero =>
    have e : k = j := Option.some.inj e
    subst e
    exact ⟨t, c, rfl, h, p2⟩
  | succ i => exact p3 i j e
mutual
theorem pl_path : ∀ (t : Tr) (q : List Nat × Tr), q ∈ t.pl → ∃ L, IsPath t q.1 L ∧ L[q.1.length]? = some q.2
  | .node n cs, q, h => by
    rcases List.mem_cons.mp (show q ∈ ([], Tr.node n cs) :: Tr.plL 0 cs from h) with rfl | h
    · exact ⟨[.node n cs], .nil _, rfl⟩
    · obtain ⟨k, r, c, hc, e, L, h1, h2⟩ := plL_path cs 0 q h
      rw [e]
      exact ⟨_, .cons (t := .node n cs) (by show cs[0 + k]? = _; rw [Nat.zero_add]; exact hc) h1, h2⟩
theorem plL_path : ∀ (cs : List Tr) (i : Nat) (q : List Nat × Tr), q ∈ Tr.plL i cs → ∃ (k : Nat) (r : List Nat) (c : Tr), cs[k]? = some c ∧ q.1 = (i + k) :: r ∧ ∃ L, IsPath c r L ∧ L[r.length]? = some q.2
  | [], _, _, h => by cases h
  | t :: ts, i, q, h => by
    rcases List.mem_append.mp (show q ∈ (t.pl.map fun q => (i :: q.1, q.2)) ++ Tr.plL (i + 1) ts from h) with h | h
    · obtain ⟨r, hr, e⟩ := List.mem_map.mp h
      subst e
      obtain ⟨L, h1, h2⟩ := pl_path t r hr
      exact ⟨0, r.1, t, rfl, rfl, L, h1, h2⟩
    · obtain ⟨k, r, c, h1, h2, h3⟩ := plL_path ts (i + 1) q h
      exact ⟨k + 1, r, c, h1, by rw [h2]; congr 1; omega, h3⟩
end
theorem d_cases (t : Tr) : ∃ (n : Str) (cs : List Tr), t = .node n cs := by
  cases t with
  | node n cs => exact ⟨n, cs, rfl⟩
theorem atI_m1 {l : List PyData} {d : PyData} {k : Nat} (hk : l.length = k + 1) (h : l[k]? = some d) : atI l (-1) = some d := by
  refine atI_last ?_
  rw [List.getLast?_eq_getElem?, hk]
  exact h
section
variable {P : Program} {w : World} {K : Frag} {mg : Str → Option Value} {base : Heap}
def gPath : List PyData → (List PyData → Prop) → Prop := fun ds C => ∃ (t : Tr) (q : List Nat) (L : List Tr), ds = [t.d, .tuple (pInts q)] ∧ IsPath t q L ∧ q.length < 1000 ∧ C (dl L)
end
end Gr

namespace Gr
open PySem L2 Evl Dn
def putT : Tr → List Nat → Tr → Tr
  | _, [], p => p
  | .node n cs, i :: q, p => .node n (cs.set i (match cs[i]? with | some c => putT c q p | none => p))
theorem putT_nil (t p : Tr) : putT t [] p = p := by cases t; rfl
theorem putT_cons {n : Str} {cs : List Tr} {i : Nat} {q : List Nat} {p c : Tr} (h : cs[i]? = some c) : putT (.node n cs) (i :: q) p = .node n (cs.set i (putT c q p)) := by
  show Tr.node n (cs.set i (match cs[i]? with | some c => putT c q p | none => p)) = _
  rw [h]
theorem set_cut {ds : List PyData} {k : Nat} {g x : PyData} (hk : k < ds.length) : cut (x :: ds) none (some ((k : Int) + 1)) ++ [g] ++ cut (x :: ds) (some ((k : Int) + 1 + 1)) none = x :: ds.set k g := by
  unfold cut
  have e1 : HT.sIx (x :: ds).length (x :: ds).length (some ((k : Int) + 1)) = k + 1 := (HT.sIx_nat _ _ (k + 1)).trans (by rw [List.length_cons]; omega)
  have e2 : HT.sIx (x :: ds).length 0 (some ((k : Int) + 1 + 1)) = k + 2 := (HT.sIx_nat _ _ (k + 2)).trans (by rw [List.length_cons]; omega)
  have e3 : HT.sIx (x :: ds).length 0 none = 0 := rfl
  have e4 : HT.sIx (x :: ds).length (x :: ds).length none = (x :: ds).length := rfl
  rw [e1, e2, e3, e4, List.drop_zero, Nat.sub_zero]
  have e5 : (ds.drop (k + 1)).take ((x :: ds).length - (k + 2)) = ds.drop (k + 1) := List.take_of_length_le (by rw [List.length_drop, List.length_cons]; omega)
  rw [List.take_succ_cons, List.drop_succ_cons, e5, List.cons_append, List.cons_append, List.set_eq_take_append_cons_drop, if_pos hk, List.append_assoc]
  rfl
section
variable {P : Program} {w : World} {K : Frag} {mg : Str → Option Value} {base : Heap}
end
end Gr

namespace Gr
open PySem L2 Evl Dn
abbrev N_Lot___init__ : List Str := ["self", "rules", "number", "rule"]
abbrev P_Lot___init__ : List Str := ["self", "rules"]
theorem sc_Lot___init__ : FnScope N_Lot___init__ P_Lot___init__ (defScope s_Lot___init__) := ⟨rfl, rfl, rfl, by decide +kernel, rfl, by decide +kernel, by decide +kernel⟩
abbrev N_Lot_rules : List Str := ["self"]
abbrev P_Lot_rules : List Str := ["self"]
theorem sc_Lot_rules : FnScope N_Lot_rules P_Lot_rules (defScope s_Lot_rules) := ⟨rfl, rfl, rfl, by decide +kernel, rfl, by decide +kernel, by decide +kernel⟩
structure Txt (K : Frag) (mg : Str → Option Value) (A : Addr) : Prop where
  cl : Cls K A
  nR : NoAttr K A "_rules"
  nP : NoAttr K A "_parts"
  mg : mg "Lot" = some (.ref A)
section
variable {P : Program} {w : World} {K : Frag} {mg : Str → Option Value} {base : Heap}
/-- a lot of these rules -/
noncomputable def lotD (A : Addr) (rs : List (Tr × Tr)) : PyData := insD A [(.str "_rules", .list (rs.map rd)), (.str "_parts", .list (dl (ord (Tr.partsL (sides rs)))))]
def gRules (A : Addr) : List PyData → (List PyData → Prop) → Prop := fun ds C => ∃ rs, ds = [lotD A rs] ∧ C (rs.map rd)
theorem ok_lrules {A f : Addr} {fdt : FuncData} (F : Fun K "rules" "Lot.rules" s_Lot_rules f fdt) (B : Bi mg) (T : Txt K mg A) : FnOk P w K mg base CX0 1 f fdt P_Lot_rules (spN K (gRules A)) := by
  refine okN F sc_Lot_rules (fun ds C h => by obtain ⟨rs, rfl, _⟩ := h; rfl) (fun cdv A' outer s H E hr => ?_)
  refine ⟨_, (pss_one (ps_ret (pe_callTy call_list_of rfl B.list (by decide +kernel) (pa_cons (pe_fld (pv 0) rfl) pa_nil)))), fun ds C h => ?_⟩
  obtain ⟨rs, rfl, hc⟩ := h
  refine wpS_retNew (wpN_cb (wpA_cons (wp_fld T.cl T.nR (wp_var (d := lotD A rs) rfl ⟨_, _, rfl, ?_, wpA_nil (can_listL hc)⟩))))
  rw [fldOf, if_pos rfl]
theorem eqv_rd (q r : Tr × Tr) (h : PyData.eqv (rd q) (rd r) = true) : q = r := by
  unfold rd at h
  rw [PyData.eqv, PyData.eqvAll, PyData.eqvAll, Bool.and_eq_true, Bool.and_eq_true] at h
  exact Prod.ext (eqv_d _ _ h.1) (eqv_d _ _ h.2.1)
theorem rd_three {q : Tr × Tr} (h1 : Gd q.1) (h2 : Gd q.2) : Dn.plain (rd q) = true ∧ (rd q).canLay0 = true ∧ (rd q).depth ≤ 60 := by
  have a := h1.three
  have b := h2.three
  have c := depth_d q.1
  have d := depth_d q.2
  have e := h1.lev
  have f := h2.lev
  unfold rd
  refine ⟨?_, ?_, ?_⟩
  · rw [Dn.plain, plainAll, plainAll, plainAll, a.1, b.1]; rfl
  · rw [PyData.canLay0, PyData.canLayAll0, PyData.canLayAll0, PyData.canLayAll0, a.2.1, b.2.1]; rfl
  · rw [PyData.depth, PyData.depthAll, PyData.depthAll, PyData.depthAll]
    omega
theorem rd_cmp {q : Tr × Tr} (h1 : Gd q.1) (h2 : Gd q.2) : Dn.cmp (rd q) = true := by
  have z := rd_three h1 h2
  unfold Dn.cmp SeqAt.shaped
  rw [z.1, z.2.1, decide_eq_true (by have := z.2.2; omega)]; rfl
theorem rds_cmp {rs : List (Tr × Tr)} (h : ∀ q, q ∈ rs → Gd q.1 ∧ Gd q.2) : Dn.cmp (PyData.list (rs.map rd)) = true := cmp_list fun d m => by
  obtain ⟨q, hq, rfl⟩ := List.mem_map.mp m
  exact rd_three (h q hq).1 (h q hq).2
/-- rules that are a lot -/
structure Rl (rs : List (Tr × Tr)) : Prop where
  len : rs.length ≤ 8
  sd : ∀ q, q ∈ rs → Sd q.1 ∧ Sd q.2 ∧ q.1 ≠ q.2
  nd : rs.Nodup
  sz : Tr.sizes (sides rs) ≤ 24
theorem cut_take {α : Type} (l : List α) (k : Nat) : cut l none (some (k : Int)) = l.take k := by
  unfold cut
  have e1 : HT.sIx l.length l.length (some (k : Int)) = min k l.length := HT.sIx_nat _ _ k
  have e3 : HT.sIx l.length 0 none = 0 := rfl
  rw [e1, e3, List.drop_zero, Nat.sub_zero]
  rcases Nat.le_total k l.length with h | h
  · rw [Nat.min_eq_left h]
  · rw [Nat.min_eq_right h, List.take_length, List.take_of_length_le h]
theorem sides_app (a b : List (Tr × Tr)) : sides (a ++ b) = sides a ++ sides b := by unfold sides; rw [List.map_append, List.flatten_append]
theorem sides_take (rs : List (Tr × Tr)) (k : Nat) : Tr.sizes (sides (rs.take k)) ≤ Tr.sizes (sides rs) := by
  have e : sides rs = sides (rs.take k) ++ sides (rs.drop k) := by rw [← sides_app, List.take_append_drop]
  rw [e, sizes_app]; omega
def gInit : List PyData → (List (PyData × PyData) → Prop) → Prop := fun ds Cf => ∃ rs, ds = [.list (rs.map rd)] ∧ Rl rs ∧ Cf [(.str "_rules", .list (rs.map rd)), (.str "_parts", .list (dl (ord (Tr.partsL (sides rs)))))]
theorem run_tail {t u : TS} {env : List Sl} {F0 : Ad} {H0 H : Hp} {σ : L2.St} {D : Ends} {R : List Sl → Prop} (h : wpS K nofd t env { nx := R, rt := fun _ => False }) (S : StOk K nofd F0 H0 σ H env) (k : ∀ σ2 H2 env2, R env2 → StOk K nofd F0 H0 σ2 H2 env2 → u D σ2 H2) : tSeq t u D σ H :=
  h F0 H0 σ H S _ ⟨k, fun σ H e c => c.elim, fun σ H e c => c.elim, fun v H d c => c.elim, fun p vs H d c => c.elim⟩
theorem ok_init {A f f_ru f_sd f_nm f_nd f_lo f_sz f_ev f_rk f_or f_po f_to : Addr} {fdt fdt_ru fdt_sd fdt_nm fdt_nd fdt_lo fdt_sz fdt_ev fdt_rk fdt_or fdt_po fdt_to : FuncData} (D : Fun K "__init__" "Lot.__init__" s_Lot___init__ f fdt) (B : Bi mg) (M : Mc mg) (T : Txt K mg A) (D_is_rule : Df K mg "is_rule" s_is_rule P_is_rule f_ru fdt_ru) (D_is_side : Df K mg "is_side" s_is_side P_is_side f_sd fdt_sd) (D_is_name : Df K mg "is_name" s_is_name P_is_name f_nm fdt_nm) (D_is_node : Df K mg "is_node" s_is_node P_is_node f_nd fdt_nd) (D_is_low_tree : Df K mg "is_low_tree" s_is_low_tree P_is_low_tree f_lo fdt_lo) (D_size : Df K mg "size" s_size P_size f_sz fdt_sz) (D_every_part : Df K mg "every_part" s_every_part P_every_part f_ev fdt_ev)
    (D_rank : Df K mg "rank" s_rank P_rank f_rk fdt_rk) (D_ordered : Df K mg "ordered" s_ordered P_ordered f_or fdt_or) (D_parts_of : Df K mg "parts_of" s_parts_of P_parts_of f_po fdt_po) (D_told_parts : Df K mg "told_parts" s_told_parts P_told_parts f_to fdt_to) : FnOk P w K mg base CX0 10 f fdt P_Lot___init__ (spI K A gInit) := by
  have G_is_rule : FnOk P w K mg base CX0 9 _ _ _ _ := ok_rule D_is_rule B M D_is_side D_is_name D_is_node D_is_low_tree D_size D_every_part
  have G_told_parts : FnOk P w K mg base CX0 8 _ _ _ _ := ok_told D_told_parts B D_every_part D_size D_rank D_ordered D_parts_of
  refine D.ok sc_Lot___init__ (fun vs H Q E h => ?_) (fun cdv A' outer s H vs Q E hr h => ?_)
  · obtain ⟨p, dx, ws, F, ds, Cf, rfl, _, _, _, r, ⟨rs, rfl, _⟩, _⟩ := h
    rw [List.length_cons, all_len r]; rfl
  have hr_is_rule := hr
  have hr_told_parts := hr.mono (show 8 ≤ 9 by decide)
  have hu65 := hu65Of hr
  obtain ⟨p, dx, ws, F, ds, Cf, rfl, hp, hF, th, r, ⟨rs, rfl, hR, hc⟩, q⟩ := h
  refine ⟨_, (pss_cons (ps_if (PW.pt (pw_or (pt_not (pt_val (pe_callB call_isi rfl B.isinstance (by decide +kernel) (pa_cons (pv 1) (pa_cons (pe_bltn (v := .ty "list") rfl B.list (by decide +kernel) rfl) pa_nil))))) (pw_or1 (pt_cmpR op_gt (pe_callB call_len_seq rfl B.len PySem.boot_len (pa_cons (pv 1) pa_nil)) (pe_glob (v := .int 8) rfl M.MOST_RULES.choose_spec ⟨_, rfl⟩) (nomark _))))) (pss_one ps_dead) pss_nil)
      (pss_cons (ps_for PassesOwn.never rfl (pi_enum rfl B.enumerate (pa_cons (pv 1) pa_nil)) (pg_tup rfl (pgs_cons (pg_name (i := 2) sc_Lot___init__.nd rfl (Or.inl rfl)) (pgs_cons (pg_name (i := 3) sc_Lot___init__.nd rfl (Or.inl rfl)) pgs_nil))) (pss_cons (ps_if (PW.pt (pw_or (pt_not (pt_val (pe_call G_is_rule hr_is_rule rfl D_is_rule.m D_is_rule.F.kp D_is_rule.b .nil pass0 (pa_cons (pv 3) pa_nil)))) (pw_or1 (pt_cmpR (op_inD hu65) (pv 3) (pe_slice sl_list (pv 1) po_none (po_some (pv 2))) (by rfl))))) (pss_one ps_dead) pss_nil)
      (pss_one (ps_if (pt_cmpR op_gt (pe_callB call_len_seq rfl B.len PySem.boot_len (pa_cons (pe_call G_told_parts hr_told_parts rfl D_told_parts.m D_told_parts.F.kp D_told_parts.b .nil pass0 (pa_cons (pe_slice sl_list (pv 1) po_none (po_some (pe_op op_add (pv 2) pe_int))) pa_nil)) pa_nil)) (pe_glob (v := .int 24) rfl M.MOST_TOLD_PARTS.choose_spec ⟨_, rfl⟩) (nomark _)) (pss_one ps_dead) pss_nil))))
      (pss_cons (ps_fld (pv 0) (pe_callTy call_list_of rfl B.list (by decide +kernel) (pa_cons (pv 1) pa_nil)) rfl)
      (pss_one (ps_fld (pv 0) (pe_call G_told_parts hr_told_parts rfl D_told_parts.m D_told_parts.F.kp D_told_parts.b .nil pass0 (pa_cons (pv 1) pa_nil)) rfl))))), ?_⟩
  have hgd : ∀ q, q ∈ rs → Gd q.1 ∧ Gd q.2 := fun q m => ⟨(hR.sd q m).1.gd, (hR.sd q m).2.1.gd⟩
  have hl8 := hR.len
  obtain ⟨v1, ev1⟩ : ∃ v1, ws = [v1] := by
    cases r with
    | cons a b => cases b; exact ⟨_, rfl⟩
  subst ev1
  have rv1 : Dr K (off F H) v1 (.list (rs.map rd)) := by
    cases r with
    | cons a b => exact a
  have S : StOk K nofd F H (start N_Lot___init__ [.ref p, v1]) H [.raw (.ref p), .dat (.list (rs.map rd)), .no, .no] := by
    refine ⟨⟨fun a z => ?_, fun a z => z.elim, fun f z => z.elim, rfl, fun i o x e1 e2 => ?_⟩, fun a o _ z => z, th, fun a z => z.elim, fun p hp => (nomatch hp), List.nodup_nil⟩
    · rcases z with z | z
      · exact th a z
      · cases z
    · match i, e1, e2 with
      | 0, e1, e2 => cases (show some (V.ref p) = o from Option.some.inj e1); cases (show Sl.raw (.ref p) = x from Option.some.inj e2); rfl
      | 1, e1, e2 =>
        cases (show some v1 = o from Option.some.inj e1); cases (show Sl.dat _ = x from Option.some.inj e2)
        exact dmono (off_less fun a z => z.elim id fun z => nomatch z) rv1
      | 2, e1, e2 => cases (show (none : Option V) = o from Option.some.inj e1); cases (show Sl.no = x from Option.some.inj e2); exact True.intro
      | 3, e1, e2 => cases (show (none : Option V) = o from Option.some.inj e1); cases (show Sl.no = x from Option.some.inj e2); exact True.intro
      | i + 4, e1, e2 => exact absurd e2 (by simp)
  refine run_tail (R := fun e => e = [.raw (.ref p), .dat (.list (rs.map rd)), .no, .no]) ?_ S ?_
  · refine wpS_if (wpT_or (wpT_not (wpT_B (wp_isi (wp_var (d := .list (rs.map rd)) rfl ⟨true, isB_ll, true, rfl, fun z => absurd z (by decide), fun _ => ?_⟩)))))
    refine wpT_test (wp_op (wp_cb (wpA_cons (wp_var (d := .list (rs.map rd)) rfl (wpA_nil (cad_lenL (wp_int (opd_ib ⟨_, rfl, fun z => absurd (of_decide_eq_true z) (by rw [List.length_map]; omega), fun _ => wpS_next rfl⟩))))))))
  rintro σ1 H1 env1 rfl S1
  refine run_tail (R := fun e => ∃ x y : Sl, e = [.raw (.ref p), .dat (.list (rs.map rd)), x, y] ∧ (∀ a b, x ≠ .own a b) ∧ ∀ a b, y ≠ .own a b) ?_ S1 ?_
  · refine wpS_for (wpI_enum (wpA_cons (wp_var (d := .list (rs.map rd)) rfl (wpA_nil ⟨_, rfl, fun i env => ∃ x y : Sl, env = [.raw (.ref p), .dat (.list (rs.map rd)), x, y] ∧ (∀ a b, x ≠ .own a b) ∧ ∀ a b, y ≠ .own a b, ⟨.no, .no, rfl, (fun a b z => nomatch z), fun a b z => nomatch z⟩, ?_, fun e z => z⟩))))
    rintro i d env e ⟨x, y, rfl, hx, hy⟩
    have hi : i < rs.length := by
      have z := (List.getElem?_eq_some_iff.mp e).1
      rw [enumD_len, List.length_map] at z
      exact z
    obtain ⟨ru, hru⟩ : ∃ ru, rs[i]? = some ru := ⟨_, List.getElem?_eq_getElem hi⟩
    rw [enumD_get (d := rd ru) (by rw [List.getElem?_map, hru]; rfl)] at e
    have e := (Option.some.inj e).symm
    subst e
    have hm := List.mem_of_getElem? hru
    obtain ⟨s1, s2, s3⟩ := hR.sd ru hm
    refine ⟨_, gD_tup (gsD_cons gD_name (gsD_cons gD_name gsD_nil)) rfl, ?_⟩
    have hcut : cut (rs.map rd) none (some (i : Int)) = (rs.take i).map rd := by rw [cut_take, List.map_take]
    have hcut1 : cut (rs.map rd) none (some ((i : Int) + 1)) = (rs.take (i + 1)).map rd := (cut_take (rs.map rd) (i + 1)).trans List.map_take.symm
    refine wpS_seq (wpS_if (wpT_or (wpT_not (wpT_B (wp_call (wpA_cons (wp_var (d := rd ru) rfl (wpA_nil ⟨ru, rfl, s1, s2, s3, true, rfl, fun z => absurd z (by decide), fun _ => ?_⟩))))))))
    refine wpT_test (wp_op (wp_var (d := rd ru) rfl (wpE_new (wpN_sl (wp_var (d := .list (rs.map rd)) rfl (wpO_none (wpO_some (wp_var (d := .int (i : Nat)) rfl ⟨_, rfl, _, rfl, ?_⟩))))))))
    rw [hcut]
    refine opd_inD (rd_cmp s1.gd s2.gd) (rds_cmp fun q m => hgd q (List.mem_of_mem_take m)) ⟨_, rfl, fun z => ?_, fun _ => ?_⟩
    · obtain ⟨d, hd, he⟩ := List.any_eq_true.mp z
      obtain ⟨q2, hq2, rfl⟩ := List.mem_map.mp hd
      have e := eqv_rd q2 ru he
      subst e
      obtain ⟨j, hj⟩ := List.mem_iff_getElem?.mp hq2
      have hj2 : j < i := by
        have z := (List.getElem?_eq_some_iff.mp hj).1
        rw [List.length_take] at z
        omega
      rw [List.getElem?_take_of_lt hj2] at hj
      exact absurd ((List.getElem?_inj (by omega) hR.nd).mp (hj.trans hru.symm)) (by omega)
    refine wpS_next (wpS_if (wpT_test (wp_op (wp_cb (wpA_cons (wpE_new (wpN_call (wpA_cons (wpE_new (wpN_sl (wp_var (d := .list (rs.map rd)) rfl (wpO_none (wpO_some (wp_op (wp_var (d := .int (i : Nat)) rfl (wp_int (opd_ii ⟨_, rfl, _, rfl, ?_⟩)))))))))))))))))
    rw [hcut1]
    have ht := sides_take rs (i + 1)
    have h24 := hR.sz
    refine wpA_nil ⟨rs.take (i + 1), rfl, fun q m => hgd q (List.mem_of_mem_take m), by omega, wpA_nil (cad_lenL (wp_int (opd_ib ⟨_, rfl, fun z => ?_, fun _ => wpS_next ⟨_, _, rfl, (fun a b z => nomatch z), fun a b z => nomatch z⟩⟩)))⟩
    have z := of_decide_eq_true z
    have hl := ord_len (Tr.partsL (sides (rs.take (i + 1))))
    rw [partsL_len] at hl
    rw [dl_len] at z
    omega
  rintro σ2 H2 env2 ⟨x, y, rfl, hx, hy⟩ S2
  have hp2 : H2 p = some (.ins A dx []) := S2.old p _ (fun z => z) hp
  have hown : ∀ (i : Nat) (q : Addr) (ds : List PyData), ([.raw (.ref p), .dat (.list (rs.map rd)), x, y] : List Sl)[i]? = some (.own q ds) → q ≠ p := fun i q ds e => by
    match i, e with
    | 0, e => cases (show Sl.raw _ = Sl.own _ _ from Option.some.inj e)
    | 1, e => cases (show Sl.dat _ = Sl.own _ _ from Option.some.inj e)
    | 2, e => exact absurd (show x = Sl.own _ _ from Option.some.inj e) (hx _ _)
    | 3, e => exact absurd (show y = Sl.own _ _ from Option.some.inj e) (hy _ _)
    | i + 4, e => exact absurd e (by simp)
  have h24 := hR.sz
  refine fld_set (A := A) (fs := []) (kvs := []) (CL := fun ds => ds = rs.map rd) S2.ev rfl (.inl hF) hown hp2 .nil T.cl T.nR (by show 0 < 1000; decide) (wpN_cb (wpA_cons (wp_var (d := .list (rs.map rd)) rfl (wpA_nil (can_listL rfl))))) fun H3 v3 ds3 e3 I3 hp3 r3 _ k3 => ?_
  subst e3
  refine fld_set (A := A) (fs := putF "_rules" v3 []) (kvs := [(.str "_rules", .list (rs.map rd))]) (CL := fun ds => ds = dl (ord (Tr.partsL (sides rs)))) I3 rfl (.inl hF) hown hp3 (.cons r3 .nil) T.cl T.nP (by show 1 < 1000; decide) (wpN_call (wpA_cons (wp_var (d := .list (rs.map rd)) rfl (wpA_nil ⟨rs, rfl, hgd, by omega, rfl⟩)))) fun H4 v4 ds4 e4 I4 hp4 r4 rf4 k4 => ?_
  subst e4
  have e5 : putF "_parts" v4 (putF "_rules" v3 []) = ([("_rules", v3), ("_parts", v4)] : List (Str × V)) := by
    show (if ("_rules" : Str) = "_parts" then _ else (("_rules" : Str), v3) :: [(("_parts" : Str), v4)]) = _
    rw [if_neg (by decide +kernel)]
  rw [e5] at hp4
  refine q H4 _ _ (fun a o n e => k4 a o n (k3 a o n (S2.old a o (fun z => z) e))) hp4 ?_ hc
  cases (show DrFs K _ [(("_rules" : Str), v3)] _ from rf4) with
  | cons a b => exact dmonoFs (off_less fun a z => Or.inl z) (DrFs.cons a (DrFs.cons r4 DrFs.nil))
end
end Gr

namespace Gr
open PySem L2 Evl Dn
abbrev N__law_levels : List Str := ["tree", "child"]
abbrev P__law_levels : List Str := ["tree"]
theorem sc__law_levels : FnScope N__law_levels P__law_levels (defScope s__law_levels) := ⟨rfl, rfl, rfl, by decide +kernel, rfl, by decide +kernel, by decide +kernel⟩
abbrev N__law_rules : List Str := ["feed", "names", "many", "nodes", "is_down", "found", "turn", "left", "right"]
abbrev P__law_rules : List Str := ["feed", "names", "many", "nodes", "is_down"]
theorem sc__law_rules : FnScope N__law_rules P__law_rules (defScope s__law_rules) := ⟨rfl, rfl, rfl, by decide +kernel, rfl, by decide +kernel, by decide +kernel⟩
section
variable {P : Program} {w : World} {K : Frag} {mg : Str → Option Value} {base : Heap}
def gLev (k : Nat) : List PyData → (PyData → Prop) → Prop := fun ds C => ∃ t : Tr, ds = [t.d] ∧ t.lev ≤ k ∧ t.size < 50000 ∧ C (.int (t.lev : Nat))
theorem levs_max : ∀ (cs : List Tr) (m : Int), m ∈ (0 :: cs.map fun t => ((t.lev : Nat) : Int)) → (∀ y, y ∈ (0 :: cs.map fun t => ((t.lev : Nat) : Int)) → y ≤ m) → m = ((Tr.levs cs : Nat) : Int) := fun cs m hm hy => by
  have up : ∀ cs : List Tr, ∀ y, y ∈ (cs.map fun t => ((t.lev : Nat) : Int)) → y ≤ ((Tr.levs cs : Nat) : Int) := by
    intro cs
    induction cs with
    | nil => intro y h; cases h
    | cons c cs ih =>
      intro y h
      show y ≤ ((max c.lev (Tr.levs cs) : Nat) : Int)
      rcases List.mem_cons.mp h with e | h
      · have e : y = ((c.lev : Nat) : Int) := e
        omega
      · have := ih y h; omega
  have low : ∀ cs : List Tr, ((Tr.levs cs : Nat) : Int) = 0 ∨ ((Tr.levs cs : Nat) : Int) ∈ cs.map fun t => ((t.lev : Nat) : Int) := by
    intro cs
    induction cs with
    | nil => exact .inl rfl
    | cons c cs ih =>
      have e : Tr.levs (c :: cs) = max c.lev (Tr.levs cs) := rfl
      have hp := lev_pos c
      rcases Nat.le_total c.lev (Tr.levs cs) with h | h
      · rw [e, Nat.max_eq_right h]
        rcases ih with z | z
        · omega
        · exact .inr (List.mem_cons_of_mem _ z)
      · rw [e, Nat.max_eq_left h]; exact .inr (List.mem_cons_self ..)
  have a : m ≤ ((Tr.levs cs : Nat) : Int) := by
    rcases List.mem_cons.mp hm with e | h
    · omega
    · exact up cs m h
  have b : ((Tr.levs cs : Nat) : Int) ≤ m := by
    rcases low cs with z | z
    · rw [z]; exact hy 0 (List.mem_cons_self ..)
    · exact hy _ (List.mem_cons_of_mem _ z)
  omega
theorem ok_llev {f : Addr} {fdt : FuncData} (D__law_levels : Df K mg "_law_levels" s__law_levels P__law_levels f fdt) (B : Bi mg) : ∀ k, FnOk P w K mg base CX0 (k + 1) f fdt P__law_levels (spP K (gLev k))
  | 0 => no_spP fun ds C ⟨t, _, h, _⟩ => by have := lev_pos t; omega
  | k + 1 => by
    have G__law_levels := ok_llev D__law_levels B k
    refine okP D__law_levels.F sc__law_levels (fun ds C h => by obtain ⟨t, rfl, _⟩ := h; rfl) (fun cdv A outer s H E hr => ?_)
    have hr__law_levels := hr
    refine ⟨_, (pss_one (ps_ret (pe_op op_add pe_int (pe_callB (cr_max rfl) rfl B.max (by decide +kernel) (pa_cons (pe_op op_cat (pe_lst (pa_cons pe_int pa_nil)) (pe_lc rfl sc__law_levels.nd (pi_tup (pe_slice sl_tupA (pv 0) (po_some pe_int) po_none)) (blkOk_by (own := [("child", 1)]) (N := N__law_levels) (sc := defScope s__law_levels) (by decide +kernel)) (fun _ _ _ _ _ => (pg_name (i := 1) sc__law_levels.nd rfl (Or.inl rfl))) (fun _ _ _ _ _ => pts_nil) (fun _ _ _ _ _ => (pe_call G__law_levels hr__law_levels rfl D__law_levels.m D__law_levels.F.kp D__law_levels.b .nil pass0 (pa_cons (pv 1) pa_nil))))) pa_nil))))), fun ds C h => ?_⟩
    obtain ⟨t, rfl, hl, hs, hc⟩ := h
    cases t with
    | node n cs =>
    have hlen := len_le_size (n := n) (cs := cs)
    refine wpS_ret (wp_op (wp_int (wp_cb (wpA_cons (wpE_new (wpN_op (wpE_new (wpN_lst (wpA_cons (wp_int (wpA_nil ⟨(by show 1 ≤ 100000; decide), ?_⟩)))))))))))
    refine wpE_new (wpN_lc (wpI_tup (wp_slT (wp_var (d := (Tr.node n cs).d) rfl (wpO_some (wp_int ⟨1, rfl, wpO_none ⟨_, d_node n cs, ?_⟩⟩))))))
    rw [cut_tl]
    refine ⟨_, rfl, fun i acc => acc = (cs.take i).map fun t => PyData.int ((t.lev : Nat) : Int), rfl, ?_, ?_⟩
    · rintro i d acc e rfl
      obtain ⟨c, hc2, rfl⟩ := dl_get (l := cs) e
      have m : c ∈ cs := List.mem_of_getElem? hc2
      refine ⟨_, gD_name, by simp, wpT_yes ⟨fun _ => wp_call (wpA_cons (wp_var (d := c.d) rfl (wpA_nil ⟨c, rfl, lev_child hl m, size_child hs m, ?_, ?_⟩))), fun z => nomatch z⟩⟩
      · rw [List.length_map, List.length_take]; omega
      · show _ = (cs.take (i + 1)).map fun t => PyData.int ((t.lev : Nat) : Int)
        rw [List.take_add_one, hc2, List.map_append]; rfl
    · rintro acc rfl
      rw [List.length_map, List.take_length]
      refine opn_cat (by rw [List.length_map]; show 1 + _ ≤ _; omega) (wpA_nil ?_)
      have e : ([PyData.int 0] ++ cs.map fun t => PyData.int ((t.lev : Nat) : Int)) = (0 :: cs.map fun t => ((t.lev : Nat) : Int)).map PyData.int := by
        rw [List.map_cons, List.map_map]; rfl
      rw [e]
      refine cad_max (by rw [List.length_cons]; omega) fun m hm hy => opd_ii ?_
      rw [levs_max cs m hm hy]
      have e2 : (1 : Int) + ((Tr.levs cs : Nat) : Int) = (((Tr.node n cs).lev : Nat) : Int) := by
        show _ = ((1 + Tr.levs cs : Nat) : Int)
        omega
      rw [e2]
      exact hc
mutual
theorem lev_size : ∀ t : Tr, t.lev ≤ t.size
  | .node n cs => by
    show 1 + Tr.levs cs ≤ 1 + Tr.sizes cs
    have := levs_sizes cs
    omega
theorem levs_sizes : ∀ cs : List Tr, Tr.levs cs ≤ Tr.sizes cs
  | [] => Nat.le_refl _
  | c :: cs => by
    have := lev_size c
    have := levs_sizes cs
    show max c.lev (Tr.levs cs) ≤ c.size + Tr.sizes cs
    omega
end
def gLRules : List PyData → (PyData → Prop) → Prop := fun ds C => ∃ (nm : List Str) (many nodes : Nat), ds = [.list (nm.map PyData.str), .int (many : Nat), .int (nodes : Nat), .bool false] ∧ nm.length = 6 ∧ (∀ x, x ∈ nm → nOk x = true) ∧ many ≤ 40 ∧ 1 ≤ nodes ∧ nodes ≤ 40 ∧
  ∀ rs : List (Tr × Tr), rs.length ≤ many → rs.Nodup → (∀ q, q ∈ rs → q.1 ≠ q.2 ∧ Gd q.1 ∧ Gd q.2 ∧ q.1.size ≤ nodes ∧ q.2.size ≤ nodes) → C (.list (rs.map rd))
theorem ok_lrules2 {f f_tr f_gr f_tk f_pk f_sz : Addr} {fdt fdt_tr fdt_gr fdt_tk fdt_pk fdt_sz : FuncData} (D : Df K mg "_law_rules" s__law_rules P__law_rules f fdt) (B : Bi mg) (D__law_tree : Df K mg "_law_tree" s__law_tree P__law_tree f_tr fdt_tr) (D__law_grow : Df K mg "_law_grow" s__law_grow P__law_grow f_gr fdt_gr) (D__law_take : Df K mg "_law_take" s__law_take P__law_take f_tk fdt_tk) (D__law_pick : Df K mg "_law_pick" s__law_pick P__law_pick f_pk fdt_pk) (D__law_size : Df K mg "_law_size" s__law_size P__law_size f_sz fdt_sz) : FnOk P w K mg base CX0 22 f fdt P__law_rules (spF K gLRules) := by
  have G__law_tree : FnOk P w K mg base CX0 10 _ _ _ _ := ok_tree D__law_tree B D__law_grow D__law_take D__law_pick
  have G__law_size : FnOk P w K mg base CX0 21 _ _ _ _ := ok_size D__law_size B 20
  refine okF D.F sc__law_rules (fun ds C h => by obtain ⟨nm, many, nodes, rfl, _⟩ := h; rfl) (fun cdv A outer s H E hr => ?_)
  have hr__law_tree := hr.mono (show 10 ≤ 21 by decide)
  have hr__law_size := hr
  have hu64 := hr.units
  have hu65 := hu65Of hr
  refine ⟨_, (pss_cons (ps_set (i := 5) sc__law_rules.nd rfl (Or.inl rfl) (pe_lst pa_nil))
      (pss_cons (ps_for PassesOwn.never rfl (pi_range1 rfl B.range (pa_cons (pv 2) pa_nil)) (pg_name (i := 6) sc__law_rules.nd rfl (Or.inl rfl)) (pss_cons (ps_par (i := 7) (j := 8) (by rfl) sc__law_rules.nd rfl rfl (by decide) rfl rfl (pa_cons (pe_call G__law_tree hr__law_tree rfl D__law_tree.m D__law_tree.F.kp D__law_tree.b .nil pass0 (pa_cons (pv 0) (pa_cons (pv 1) (pa_cons (pv 3) pa_nil)))) (pa_cons (pe_call G__law_tree hr__law_tree rfl D__law_tree.m D__law_tree.F.kp D__law_tree.b .nil pass0 (pa_cons (pv 0) (pa_cons (pv 1) (pa_cons (pv 3) pa_nil)))) pa_nil)) (by rfl))
      (pss_cons (ps_if (PW.pt (pw_and (pt_val (pv 4)) (pw_and1 (pt_cmpR op_dead (pe_tup (pa_cons (pe_call G__law_size hr__law_size rfl D__law_size.m D__law_size.F.kp D__law_size.b .nil pass0 (pa_cons (pv 7) pa_nil)) (pa_cons (pv 7) pa_nil))) (pe_tup (pa_cons (pe_call G__law_size hr__law_size rfl D__law_size.m D__law_size.F.kp D__law_size.b .nil pass0 (pa_cons (pv 8) pa_nil)) (pa_cons (pv 8) pa_nil))) (nomark _))))) (pss_one (ps_par (i := 7) (j := 8) (by rfl) sc__law_rules.nd rfl rfl (by decide) rfl rfl (pa_cons (pv 8) (pa_cons (pv 7) pa_nil)) (by rfl))) pss_nil)
      (pss_one (ps_if (PW.pt (pw_and (pt_cmpR (op_neD hu64) (pv 7) (pv 8) (nomark _)) (pw_and1 (pt_cmpR (op_notInD hu65) (pe_tup (pa_cons (pv 7) (pa_cons (pv 8) pa_nil))) (pv 5) (by rfl))))) (pss_one (ps_expr (pe_bm PySem.F.plainAttrs_list PySem.F.slot_list_append PySem.F.type_list_append mt_append (pv 5) (pa_cons (pe_tup (pa_cons (pv 7) (pa_cons (pv 8) pa_nil))) pa_nil)))) pss_nil)))))
      (pss_one (ps_ret (pv 5))))), fun p ds C h => ?_⟩
  obtain ⟨nm, many, nodes, rfl, hnl, hno, h1, h2, h3, hc⟩ := h
  refine wpS_seq (wpS_own (wpN_lst (wpA_nil ⟨by decide, fun q => ?_⟩)))
  refine wpS_seq (wpS_for (wpI_rng1 (wpA_cons (wp_var (d := .int (many : Nat)) rfl (wpA_nil ⟨_, rfl, by omega, by omega, fun i env => ∃ (rs : List (Tr × Tr)) (x y z : Sl), env = [.fed p, .dat (.list (nm.map PyData.str)), .dat (.int (many : Nat)), .dat (.int (nodes : Nat)), .dat (.bool false), .own q (rs.map rd), x, y, z] ∧ rs.length ≤ i ∧ rs.Nodup ∧ ∀ q, q ∈ rs → q.1 ≠ q.2 ∧ Gd q.1 ∧ Gd q.2 ∧ q.1.size ≤ nodes ∧ q.2.size ≤ nodes, ⟨[], .no, .no, .no, rfl, Nat.zero_le _, List.nodup_nil, fun q m => nomatch m⟩, ?_, ?_⟩)))))
  · rintro i d env e ⟨rs, x, y, z, rfl, hl, hnd, hq⟩
    have hi : i < many := by
      have z := (List.getElem?_eq_some_iff.mp e).1
      rw [rng_len, Int.toNat_natCast] at z
      exact z
    refine ⟨_, gD_name, ?_⟩
    refine wpS_seq (wpS_par (wp_callF rfl rfl (wpA_cons (wp_var (d := .list (nm.map PyData.str)) rfl (wpA_cons (wp_var (d := .int (nodes : Nat)) rfl (wpA_nil ⟨nm, (nodes : Nat), rfl, hnl, hno, by omega, by omega, fun l a1 a2 a3 => ?_⟩)))))))
    refine wp_callF rfl rfl (wpA_cons (wp_var (d := .list (nm.map PyData.str)) rfl (wpA_cons (wp_var (d := .int (nodes : Nat)) rfl (wpA_nil ⟨nm, (nodes : Nat), rfl, hnl, hno, by omega, by omega, fun r b1 b2 b3 => ?_⟩)))))
    have gl : Gd l := ⟨by omega, by omega, a3⟩
    have gr : Gd r := ⟨by omega, by omega, b3⟩
    refine wpS_seq (wpS_if (wpT_and (wpT_B (wp_var (d := .bool false) rfl ⟨false, rfl, fun z => (nomatch z), fun _ => ⟨fun z => (nomatch z), fun _ => wpS_next ?_⟩⟩))))
    have keep : ∃ (rs2 : List (Tr × Tr)) (x2 y2 z2 : Sl), ([.fed p, .dat (.list (nm.map PyData.str)), .dat (.int (many : Nat)), .dat (.int (nodes : Nat)), .dat (.bool false), .own q (rs.map rd), .dat d, .dat l.d, .dat r.d] : List Sl) = [.fed p, .dat (.list (nm.map PyData.str)), .dat (.int (many : Nat)), .dat (.int (nodes : Nat)), .dat (.bool false), .own q (rs2.map rd), x2, y2, z2] ∧ rs2.length ≤ i + 1 ∧ rs2.Nodup ∧ ∀ q, q ∈ rs2 → q.1 ≠ q.2 ∧ Gd q.1 ∧ Gd q.2 ∧ q.1.size ≤ nodes ∧ q.2.size ≤ nodes := ⟨rs, _, _, _, rfl, by omega, hnd, hq⟩
    have hrc : Dn.cmp (PyData.list (rs.map rd)) = true := rds_cmp fun q m => ⟨(hq q m).2.1, (hq q m).2.2.1⟩
    have hdc : Dn.cmp (PyData.tuple [l.d, r.d]) = true := rd_cmp (q := (l, r)) gl gr
    refine wpS_if (wpT_unown (wpT_and (wpT_test (wp_op (wp_var (d := l.d) rfl (wp_var (d := r.d) rfl (opd_neD gl.cmp gr.cmp ⟨_, rfl, fun z => ?_, fun z => ⟨fun z => (nomatch z), fun _ => wpS_next keep⟩⟩)))))))
    have hne : l ≠ r := fun e => by rw [e, eqv_self] at z; cases z
    refine wpT_test (wp_op (wp_tup (wpA_cons (wp_var (d := l.d) rfl (wpA_cons (wp_var (d := r.d) rfl (wpA_nil ⟨(by show 2 ≤ 100000; decide), wp_var (d := .list (rs.map rd)) rfl (opd_ninD hdc hrc ⟨_, rfl, fun z2 => ?_, fun _ => wpS_next keep⟩)⟩)))))))
    have hnm : ¬ (l, r) ∈ rs := fun m => by
      have e : ((rs.map rd).any fun z => PyData.eqv z (.tuple [l.d, r.d])) = true := List.any_eq_true.mpr ⟨rd (l, r), List.mem_map.mpr ⟨_, m, rfl⟩, by
        show PyData.eqv (.tuple [l.d, r.d]) (.tuple [l.d, r.d]) = true
        rw [PyData.eqv, PyData.eqvAll, PyData.eqvAll, PyData.eqvAll, eqv_self, eqv_self]; rfl⟩
      rw [e] at z2; cases z2
    refine wpS_append (p := q) (ds := rs.map rd) rfl (by rw [List.length_map]; omega) (wp_tup (wpA_cons (wp_var (d := l.d) rfl (wpA_cons (wp_var (d := r.d) rfl (wpA_nil ⟨(by show 2 ≤ 100000; decide), ?_⟩))))))
    refine ⟨rs ++ [(l, r)], .dat d, .dat l.d, .dat r.d, ?_, ?_, ?_, fun q m => ?_⟩
    · rw [List.map_append]; rfl
    · rw [List.length_append]; show _ + 1 ≤ _; omega
    · refine List.nodup_append.mpr ⟨hnd, by simp, fun a ha b hb e => ?_⟩
      rw [List.mem_singleton.mp hb] at e
      rw [e] at ha
      exact hnm ha
    · rcases List.mem_append.mp m with m | m
      · exact hq q m
      · rw [List.mem_singleton.mp m]; exact ⟨hne, gl, gr, by show l.size ≤ _; omega, by show r.size ≤ _; omega⟩
  · rintro env ⟨rs, x, y, z, rfl, hl, hnd, hq⟩
    rw [rng_len, Int.toNat_natCast] at hl
    exact wpS_ret (wp_var (d := .list (rs.map rd)) rfl (hc rs hl hnd hq))
end
end Gr

namespace Gr
open PySem L2 Evl Dn

/-! ## places that are none -/
def kn (d : PyData) : Bool := (tyName d).isSome
def numB : PyData → Int → Bool
  | .int v, m => decide (0 ≤ v) && decide (v < m)
  | _, _ => false
def numAt : Tr → PyData → Option Tr
  | .node _ cs, .int v => if 0 ≤ v then cs[v.toNat]? else none
  | _, _ => none
def pathP : Tr → List PyData → Option (List Tr)
  | t, [] => some [t]
  | t, d :: ds => match numAt t d with
    | some c => (pathP c ds).map (t :: ·)
    | none => none
def pathD (t : Tr) : PyData → Option (List Tr)
  | .tuple ds => pathP t ds
  | _ => none
theorem pathP_cons {t c : Tr} {d : PyData} {ds : List PyData} (h : numAt t d = some c) : pathP t (d :: ds) = (pathP c ds).map (t :: ·) := by rw [pathP, h]
theorem isB_ni {d : PyData} (h : kn d = true) : (∃ v, d = .int v) ∨ (∃ b, d = .bool b) ∨ (isB d "int" = some false ∧ ∀ m, numB d m = false) := by
  cases d with
  | int v => exact .inl ⟨v, rfl⟩
  | bool b => exact .inr (.inl ⟨b, rfl⟩)
  | none => exact .inr (.inr ⟨by show kitB "NoneType" "int" = _; decide +kernel, fun m => rfl⟩)
  | str x => exact .inr (.inr ⟨by show kitB "str" "int" = _; decide +kernel, fun m => rfl⟩)
  | list x => exact .inr (.inr ⟨by show kitB "list" "int" = _; decide +kernel, fun m => rfl⟩)
  | tuple x => exact .inr (.inr ⟨by show kitB "tuple" "int" = _; decide +kernel, fun m => rfl⟩)
  | dict kvs =>
    refine .inr (.inr ⟨?_, fun m => rfl⟩)
    unfold kn at h
    unfold isB
    match kvs, h with
    | [], _ => show kitB "dict" "int" = _; decide +kernel
    | (.str x, y) :: r, _ => show kitB "dict" "int" = _; decide +kernel
theorem isB_tu {d : PyData} (h : kn d = true) : (∃ ds, d = .tuple ds) ∨ isB d "tuple" = some false := by
  cases d with
  | int v => exact .inr (by show kitB "int" "tuple" = _; decide +kernel)
  | bool b => exact .inr (by show kitB "bool" "tuple" = _; decide +kernel)
  | none => exact .inr (by show kitB "NoneType" "tuple" = _; decide +kernel)
  | str x => exact .inr (by show kitB "str" "tuple" = _; decide +kernel)
  | list x => exact .inr (by show kitB "list" "tuple" = _; decide +kernel)
  | tuple x => exact .inl ⟨x, rfl⟩
  | dict kvs =>
    refine .inr ?_
    unfold kn at h
    unfold isB
    match kvs, h with
    | [], _ => show kitB "dict" "tuple" = _; decide +kernel
    | (.str x, y) :: r, _ => show kitB "dict" "tuple" = _; decide +kernel
theorem isB_bb {b : Bool} : isB (.bool b) "bool" = some true := by show kitB "bool" "bool" = _; decide +kernel
theorem isB_bi {b : Bool} : isB (.bool b) "int" = some true := by show kitB "bool" "int" = _; decide +kernel
theorem fn_lift {P : Program} {w : World} {K : Frag} {mg : Str → Option Value} {base : Heap} {k : Nat} {f : Addr} {fd : FuncData} {ps : List Str} {sp : Sp} (F : FnOk P w K mg base CX0 k f fd ps sp) : FnOk P w K mg base (L2.CX P w) k f fd ps sp :=
  ⟨F.len, fun A outer s H args us vs Q E hr e0 hb r h => PySem.codeAny_mono (F.run A outer s H args us vs Q E hr e0 hb r h) fun res s' q => by
    cases res with
    | error e => exact (show False from q).elim
    | ok fl => cases fl <;> exact q⟩
section
variable {P : Program} {w : World} {K : Frag} {mg : Str → Option Value} {base : Heap}
def gNumX : List PyData → (PyData → Prop) → Prop := fun ds C => ∃ (v : PyData) (many : Int), ds = [v, .int many] ∧ kn v = true ∧ C (.bool (numB v many))
/-- a place that is none, of data that are known -/
structure BadP (t : Tr) (pl : PyData) : Prop where
  no : pathD t pl = none
  kn : kn pl = true
  kns : ∀ ds, pl = .tuple ds → ds.length < 1000 ∧ ∀ d, d ∈ ds → Gr.kn d = true
theorem numAt_of {n : Str} {cs : List Tr} {d : PyData} {m : Int} (hm : m = (cs.length : Nat)) : (numB d m = true → ∃ (k : Nat) (c : Tr), d = .int (k : Nat) ∧ cs[k]? = some c ∧ numAt (.node n cs) d = some c) ∧ (numB d m = false → numAt (.node n cs) d = none) := by
  subst hm
  cases d with
  | int v =>
    refine ⟨fun h => ?_, fun h => ?_⟩
    · have h : (decide (0 ≤ v) && decide (v < (cs.length : Nat))) = true := h
      rw [Bool.and_eq_true, decide_eq_true_iff, decide_eq_true_iff] at h
      obtain ⟨h0, h1⟩ := h
      have hl : v.toNat < cs.length := by omega
      refine ⟨v.toNat, cs[v.toNat], by congr 1; omega, List.getElem?_eq_getElem hl, ?_⟩
      show (if 0 ≤ v then cs[v.toNat]? else none) = _
      rw [if_pos h0, List.getElem?_eq_getElem hl]
    · have h : (decide (0 ≤ v) && decide (v < (cs.length : Nat))) = false := h
      show (if 0 ≤ v then cs[v.toNat]? else none) = _
      by_cases h0 : 0 ≤ v
      · rw [if_pos h0]
        refine List.getElem?_eq_none ?_
        rw [decide_eq_true h0, Bool.true_and] at h
        have := of_decide_eq_false h
        omega
      · rw [if_neg h0]
  | none => exact ⟨(fun h => (nomatch h)), fun _ => rfl⟩
  | bool _ => exact ⟨(fun h => (nomatch h)), fun _ => rfl⟩
  | str _ => exact ⟨(fun h => (nomatch h)), fun _ => rfl⟩
  | list _ => exact ⟨(fun h => (nomatch h)), fun _ => rfl⟩
  | tuple _ => exact ⟨(fun h => (nomatch h)), fun _ => rfl⟩
  | dict _ => exact ⟨(fun h => (nomatch h)), fun _ => rfl⟩
def gPathX : List PyData → (List PyData → Prop) → Prop := fun ds C => ∃ (t : Tr) (pl : PyData), ds = [t.d, pl] ∧ BadP t pl ∧ C []
def gPartX (A : Addr) : List PyData → (PyData → Prop) → (Addr → Str → PyData → Prop) → Prop := fun ds C X => ∃ (t : Tr) (pl : PyData), ds = [t.d, pl] ∧ BadP t pl ∧ X A "place" pl
def gPutX (A : Addr) : List PyData → (PyData → Prop) → (Addr → Str → PyData → Prop) → Prop := fun ds C X => ∃ (t : Tr) (pl p : PyData), ds = [t.d, pl, p] ∧ BadP t pl ∧ X A "place" pl
end
end Gr

namespace Gr
open PySem L2 Evl Dn

/-! ## data whose repr is short -/
structure Rb (n k : Nat) (d : PyData) : Prop where
  pl : Dn.plain d = true
  sh : d.showable = true
  len : d.shown.length ≤ n
  dep : d.depth ≤ k
  ok : PyData.strOk d.shown = true
theorem Rb.mono {n k m j : Nat} {d : PyData} (h : Rb n k d) (a : n ≤ m) (b : k ≤ j) : Rb m j d := ⟨h.pl, h.sh, Nat.le_trans h.len a, Nat.le_trans h.dep b, h.ok⟩
theorem ok_iff {x : Str} : PyData.strOk x = true ↔ ∀ c, c ∈ x.cps.toList → c < 1114112 := by
  unfold PyData.strOk
  rw [← Array.all_toList, List.all_eq_true]
  exact ⟨fun h c m => of_decide_eq_true (h c m), fun h c m => decide_eq_true (h c m)⟩
theorem ok_app {x y : Str} (a : PyData.strOk x = true) (b : PyData.strOk y = true) : PyData.strOk (x ++ y) = true := by
  rw [ok_iff] at a b ⊢
  intro c m
  have e : (x ++ y).cps.toList = x.cps.toList ++ y.cps.toList := by
    show (x.cps ++ y.cps).toList = _
    rw [Array.toList_append]
  rw [e] at m
  rcases List.mem_append.mp m with m | m
  · exact a c m
  · exact b c m
theorem ok_from : ∀ (ts : List Str) (k : Nat) (acc : Str), PyData.strOk acc = true → (∀ t, t ∈ ts → PyData.strOk t = true) → PyData.strOk (PySem.textFrom k acc ts) = true
  | [], k, acc, h, _ => h
  | t :: ts, k, acc, h, q => by
    rw [PySem.textFrom]
    refine ok_from ts (k + 1) _ (ok_app (ok_app h ?_) (q t (List.mem_cons_self ..))) fun u m => q u (List.mem_cons_of_mem _ m)
    split <;> decide +kernel
theorem ok_join : ∀ (ts : List Str), (∀ t, t ∈ ts → PyData.strOk t = true) → PyData.strOk (Str.join ", " ts) = true
  | [], _ => by decide +kernel
  | [x], q => q x (List.mem_cons_self ..)
  | x :: y :: r, q => by
    show PyData.strOk (x ++ ", " ++ Str.join ", " (y :: r)) = true
    exact ok_app (ok_app (q x (List.mem_cons_self ..)) (by decide +kernel)) (ok_join (y :: r) fun u m => q u (List.mem_cons_of_mem _ m))
theorem shownAll_ok {ds : List PyData} (h : ∀ d, d ∈ ds → PyData.strOk d.shown = true) : ∀ t, t ∈ PyData.shownAll ds → PyData.strOk t = true := by
  induction ds with
  | nil => intro t m; cases m
  | cons d ds ih =>
    intro t m
    rw [PyData.shownAll] at m
    rcases List.mem_cons.mp m with rfl | m
    · exact h d (List.mem_cons_self ..)
    · exact ih (fun e m => h e (List.mem_cons_of_mem _ m)) t m
theorem showAll_of {ds : List PyData} (h : ∀ d, d ∈ ds → d.showable = true) : PyData.showableAll ds = true := by
  induction ds with
  | nil => rfl
  | cons d ds ih => rw [PyData.showableAll, h d (List.mem_cons_self ..), ih fun e m => h e (List.mem_cons_of_mem _ m)]; rfl
theorem shownAll_len (ds : List PyData) : (PyData.shownAll ds).length = ds.length := by
  induction ds with
  | nil => rfl
  | cons d ds ih => rw [PyData.shownAll, List.length_cons, ih]; rfl
theorem shownAll_sum {n : Nat} {ds : List PyData} (h : ∀ d, d ∈ ds → d.shown.length ≤ n) : ((PyData.shownAll ds).map (·.length)).sum ≤ n * ds.length := by
  induction ds with
  | nil => exact Nat.zero_le _
  | cons d ds ih =>
    rw [PyData.shownAll, List.map_cons, List.sum_cons, List.length_cons, Nat.mul_succ]
    have := h d (List.mem_cons_self ..)
    have := ih fun e m => h e (List.mem_cons_of_mem _ m)
    omega
theorem Rb.tup {n k m : Nat} {ds : List PyData} (h : ∀ d, d ∈ ds → Rb n k d) (hl : ds.length ≤ m) : Rb (n * m + 2 * m + 3) (k + 1) (.tuple ds) := by
  refine ⟨by rw [Dn.plain]; exact plainAll_of fun d m => (h d m).pl, by rw [PyData.showable]; exact showAll_of fun d m => (h d m).sh, ?_, ?_, ?_⟩
  · rw [PyData.shown]
    have a := PySem.tupleText_len_le (PyData.shownAll ds)
    have b := shownAll_sum (n := n) fun d m => (h d m).len
    rw [shownAll_len] at a
    have c : n * ds.length ≤ n * m := Nat.mul_le_mul_left _ hl
    omega
  · rw [PyData.depth]
    have := depthAll_of (n := k) (l := ds) fun d m => (h d m).dep
    omega
  · rw [PyData.shown]
    unfold PySem.tupleText
    refine ok_app (ok_app (by decide +kernel) (ok_join _ (shownAll_ok fun d m => (h d m).ok))) ?_
    split <;> decide +kernel
theorem Rb.list {n k m : Nat} {ds : List PyData} (h : ∀ d, d ∈ ds → Rb n k d) (hl : ds.length ≤ m) : Rb (n * m + 2 * m + 3) (k + 1) (.list ds) := by
  refine ⟨by rw [Dn.plain]; exact plainAll_of fun d m => (h d m).pl, by rw [PyData.showable]; exact showAll_of fun d m => (h d m).sh, ?_, ?_, ?_⟩
  · rw [PyData.shown]
    have a := PySem.listText_len_le (PyData.shownAll ds)
    have b := shownAll_sum (n := n) fun d m => (h d m).len
    rw [shownAll_len] at a
    have c : n * ds.length ≤ n * m := Nat.mul_le_mul_left _ hl
    omega
  · rw [PyData.depth]
    have := depthAll_of (n := k) (l := ds) fun d m => (h d m).dep
    omega
  · rw [PyData.shown]
    exact ok_app (ok_from _ _ _ (by decide +kernel) (shownAll_ok fun d m => (h d m).ok)) (by decide +kernel)
theorem Rb.int {i : Int} (h0 : -64 ≤ i) (h1 : i ≤ 64) : Rb 4 1 (.int i) := by
  have key : ∀ k : Fin 129, (PyData.int ((k.1 : Int) - 64)).showable = true ∧ (PyData.int ((k.1 : Int) - 64)).shown.length ≤ 4 ∧ (PyData.int ((k.1 : Int) - 64)).depth ≤ 1 ∧ PyData.strOk (PyData.int ((k.1 : Int) - 64)).shown = true := by decide +kernel
  have z := key ⟨(i + 64).toNat, by omega⟩
  have e : (((i + 64).toNat : Nat) : Int) - 64 = i := by omega
  rw [show (((⟨(i + 64).toNat, by omega⟩ : Fin 129).1 : Nat) : Int) - 64 = i from e] at z
  exact ⟨rfl, z.1, z.2.1, z.2.2.1, z.2.2.2⟩
theorem Rb.of {n k : Nat} {d : PyData} (h : (Dn.plain d && (d.showable && (decide (d.shown.length ≤ n) && (decide (d.depth ≤ k) && PyData.strOk d.shown)))) = true) : Rb n k d := by
  rw [Bool.and_eq_true, Bool.and_eq_true, Bool.and_eq_true, Bool.and_eq_true, decide_eq_true_iff, decide_eq_true_iff] at h
  exact ⟨h.1, h.2.1, h.2.2.1, h.2.2.2.1, h.2.2.2.2⟩
theorem rpl_plain {d : PyData} (h : Dn.plain d = true) : rpl d = true := by
  unfold rpl
  split
  · rfl
  · exact h
/-- .. or {} -/
structure Rp (d : PyData) : Prop where
  pl : rpl d = true
  sh : d.showable = true
  len : d.shown.length ≤ 90000
  dep : d.depth ≤ 100
  ok : PyData.strOk d.shown = true
theorem Rb.rp {n k : Nat} {d : PyData} (h : Rb n k d) (a : n ≤ 90000) (b : k ≤ 100) : Rp d := ⟨rpl_plain h.pl, h.sh, Nat.le_trans h.len a, Nat.le_trans h.dep b, h.ok⟩
theorem Rp.emp : Rp (.dict []) := ⟨rfl, rfl, by decide +kernel, by decide +kernel, by decide +kernel⟩
theorem Rp.cad {K : Frag} {d : PyData} {C : PyData → Prop} (h : Rp d) (c : C (.str d.shown)) : CaD K (rReprE K) [d] C := cad_reprE h.pl h.sh (Nat.le_trans h.len (by decide)) h.dep c
end Gr

namespace Gr
open PySem L2 Evl Dn
abbrev N__law_is_tree : List Str := ["value", "child", "sign"]
abbrev P__law_is_tree : List Str := ["value"]
theorem sc__law_is_tree : FnScope N__law_is_tree P__law_is_tree (defScope s__law_is_tree) := ⟨rfl, rfl, rfl, by decide +kernel, rfl, by decide +kernel, by decide +kernel⟩
/-! ## the look at any value -/
def lowB (c : Nat) : Bool := decide (97 ≤ c) && decide (c ≤ 122)
def nameB : PyData → Bool
  | .str n => decide (1 ≤ n.length) && (decide (n.length ≤ 8) && n.cps.toList.all lowB)
  | _ => false
def nodeB : PyData → Bool
  | .tuple (x :: cs) => decide (cs.length ≤ 4) && nameB x
  | _ => false
theorem sg_a (c : Nat) : (!decide (([c] : List Nat) < [97])) = decide (97 ≤ c) := by
  have e : (([c] : List Nat) < [97]) ↔ c < 97 := by rw [List.cons_lt_cons_iff]; simp
  by_cases h : c < 97
  · rw [decide_eq_true (e.mpr h), decide_eq_false (by omega : ¬ 97 ≤ c)]; rfl
  · rw [decide_eq_false (fun z => h (e.mp z)), decide_eq_true (by omega : 97 ≤ c)]; rfl
theorem sg_z (c : Nat) : (!decide (([122] : List Nat) < [c])) = decide (c ≤ 122) := by
  have e : (([122] : List Nat) < [c]) ↔ 122 < c := by rw [List.cons_lt_cons_iff]; simp
  by_cases h : 122 < c
  · rw [decide_eq_true (e.mpr h), decide_eq_false (by omega : ¬ c ≤ 122)]; rfl
  · rw [decide_eq_false (fun z => h (e.mp z)), decide_eq_true (by omega : c ≤ 122)]; rfl
theorem isB_st {d : PyData} (h : kn d = true) : (∃ n, d = .str n) ∨ (isB d "str" = some false ∧ nameB d = false) := by
  cases d with
  | str n => exact .inl ⟨n, rfl⟩
  | dict kvs =>
    match kvs, h with
    | [], _ => exact .inr ⟨rfl, rfl⟩
    | (.str _, _) :: _, _ => exact .inr ⟨rfl, rfl⟩
  | int v => exact .inr ⟨rfl, rfl⟩
  | bool v => exact .inr ⟨rfl, rfl⟩
  | none => exact .inr ⟨rfl, rfl⟩
  | list v => exact .inr ⟨rfl, rfl⟩
  | tuple v => exact .inr ⟨rfl, rfl⟩
section
variable {P : Program} {w : World} {K : Frag} {mg : Str → Option Value} {base : Heap}
def gNameX : List PyData → (PyData → Prop) → Prop := fun ds C => ∃ d : PyData, ds = [d] ∧ kn d = true ∧ (∀ n, d = .str n → n.length ≤ 1000) ∧ C (.bool (nameB d))
theorem ok_nameX {f : Addr} {fdt : FuncData} (D : Df K mg "is_name" s_is_name P_is_name f fdt) (B : Bi mg) (M : Mc mg) : FnOk P w K mg base CX0 1 f fdt P_is_name (spP K gNameX) := by
  refine okP D.F sc_is_name (fun ds C h => by obtain ⟨v, rfl, _⟩ := h; rfl) (fun cdv A outer s H E hr => ?_)
  refine ⟨_, (pss_cons (ps_if (PW.pt (pw_or (pt_not (pt_val (pe_callB call_isi rfl B.isinstance (by decide +kernel) (pa_cons (pv 0) (pa_cons (pe_bltn (v := .ty "str") rfl B.str (by decide +kernel) rfl) pa_nil))))) (pw_or1 (pt_not (pt_chain op_le op_le pe_int (pe_callB call_len_str rfl B.len PySem.boot_len (pa_cons (pv 0) pa_nil)) (pe_glob (v := .int 8) rfl M.MOST_LETTERS.choose_spec ⟨_, rfl⟩)))))) (pss_one (ps_ret pe_bl)) pss_nil)
      (pss_one (ps_ret (pe_callB (cr_all rfl) rfl B.all (by decide +kernel) (pa_cons (pe_lc rfl sc_is_name.nd (pi_str (pv 0)) (blkOk_by (own := [("letter", 1)]) (N := N_is_name) (sc := defScope s_is_name) (by decide +kernel)) (fun _ _ _ _ _ => (pg_name (i := 1) sc_is_name.nd rfl (Or.inl rfl))) (fun _ _ _ _ _ => pts_nil) (fun _ _ _ _ _ => (pe_chain op_le_str op_le_str pe_str (pv 1) pe_str))) pa_nil))))), fun ds C h => ?_⟩
  obtain ⟨d, rfl, hk, hl, hc⟩ := h
  rcases isB_st hk with ⟨n, rfl⟩ | ⟨e0, e1⟩
  · have hn := hl n rfl
    have hc : C (.bool (decide (1 ≤ n.length) && (decide (n.length ≤ 8) && n.cps.toList.all lowB))) := hc
    refine wpS_seq (wpS_if (wpT_or (wpT_not (wpT_B (wp_isi (wp_var (d := .str n) rfl ⟨true, isB_ss, true, rfl, fun z => absurd z (by decide), fun _ => ?_⟩))))))
    refine wpT_not (wpT_test (wp_chain (wp_int (wp_cb (wpA_cons (wp_var (d := .str n) rfl (wpA_nil (cad_lenS (by omega) (opd_ib ⟨_, rfl, fun q => ?_, fun q => ?_⟩)))))))))
    rotate_left
    · have q := of_decide_eq_false q
      rw [decide_eq_false (show ¬ 1 ≤ n.length by omega)] at hc
      exact ⟨_, rfl, fun _ => wpS_ret (wp_bl hc), fun z => (nomatch z)⟩
    have q := of_decide_eq_true q
    rw [decide_eq_true (show 1 ≤ n.length by omega)] at hc
    refine wp_int (opd_ib ⟨_, rfl, fun z => ?_, fun z => ?_⟩)
    · have z : (!decide (((n.length : Nat) : Int) ≤ 8)) = true := z
      have z : ¬ ((n.length : Nat) : Int) ≤ 8 := by
        intro y
        rw [decide_eq_true y] at z
        cases z
      rw [decide_eq_false (show ¬ n.length ≤ 8 by omega)] at hc
      exact wpS_ret (wp_bl hc)
    have z : (!decide (((n.length : Nat) : Int) ≤ 8)) = false := z
    have z : ((n.length : Nat) : Int) ≤ 8 := by
      by_cases y : ((n.length : Nat) : Int) ≤ 8
      · exact y
      · rw [decide_eq_false y] at z
        cases z
    rw [decide_eq_true (show n.length ≤ 8 by omega)] at hc
    have hc : C (.bool (n.cps.toList.all lowB)) := hc
    refine wpS_next (wpS_ret (wp_cb (wpA_cons (wpE_new (wpN_lc (wpI_str (wp_var (d := .str n) rfl ⟨n, rfl, fun i acc => acc = ((n.cps.toList.take i).map lowB).map PyData.bool, rfl, ?_, ?_⟩)))))))
    · rintro i d acc e rfl
      unfold signs at e
      rw [List.getElem?_map] at e
      cases hc2 : n.cps.toList[i]? with
      | none => rw [hc2] at e; cases e
      | some ch =>
        rw [hc2] at e
        have e := (Option.some.inj e).symm
        subst e
        have hi : i < n.length := by
          have z := (List.getElem?_eq_some_iff.mp hc2).1
          rwa [Array.length_toList] at z
        have fin : ∀ b : Bool, b = lowB ch → ((n.cps.toList.take i).map lowB).map PyData.bool ++ [PyData.bool b] = ((n.cps.toList.take (i + 1)).map lowB).map PyData.bool := fun b e => by
          rw [List.take_add_one, hc2, e, List.map_append, List.map_append]; rfl
        have hlen : (((n.cps.toList.take i).map lowB).map PyData.bool).length < 100000 := by
          rw [List.length_map, List.length_map, List.length_take]; omega
        refine ⟨_, gD_name, by simp, wpT_yes ⟨fun _ => ?_, fun z => nomatch z⟩⟩
        refine wp_chain (wp_str (wp_var (d := .str ⟨#[ch]⟩) rfl (opd_leS ⟨_, rfl, fun q => wp_str (opd_leS ⟨hlen, fin _ ?_⟩), fun q => ⟨hlen, fin _ ?_⟩⟩)))
        · have q : (!decide (([ch] : List Nat) < [97])) = true := q
          rw [sg_a] at q
          show (!decide (([122] : List Nat) < [ch])) = lowB ch
          unfold lowB
          rw [sg_z, q]; rfl
        · have q : (!decide (([ch] : List Nat) < [97])) = false := q
          rw [sg_a] at q
          unfold lowB
          rw [q]; rfl
    · rintro acc rfl
      refine wpA_nil (cad_all ?_)
      have hs : (signs n).length = n.cps.toList.length := by unfold signs; rw [List.length_map]
      rw [hs, List.take_length, List.all_map]
      exact hc
  · rw [e1] at hc
    refine wpS_seq (wpS_if (wpT_or (wpT_not (wpT_B (wp_isi (wp_var (d := d) rfl ⟨false, e0, false, rfl, fun _ => ⟨fun _ => wpS_ret (wp_bl hc), fun z => (nomatch z)⟩, fun z => absurd z (by decide)⟩))))))
def gNodeX : List PyData → (PyData → Prop) → Prop := fun ds C => ∃ d : PyData, ds = [d] ∧ kn d = true ∧ (∀ es, d = .tuple es → es.length ≤ 1000 ∧ ∀ x, x ∈ es → kn x = true ∧ ∀ n, x = .str n → n.length ≤ 1000) ∧ C (.bool (nodeB d))
theorem ok_nodeX {f f_nm : Addr} {fdt fdt_nm : FuncData} (D : Df K mg "is_node" s_is_node P_is_node f fdt) (B : Bi mg) (M : Mc mg) (D_is_name : Df K mg "is_name" s_is_name P_is_name f_nm fdt_nm) : FnOk P w K mg base CX0 2 f fdt P_is_node (spP K gNodeX) := by
  have G_is_name : FnOk P w K mg base CX0 1 _ _ _ _ := ok_nameX D_is_name B M
  refine okP D.F sc_is_node (fun ds C h => by obtain ⟨v, rfl, _⟩ := h; rfl) (fun cdv A outer s H E hr => ?_)
  have hr_is_name := hr
  refine ⟨_, (pss_cons (ps_if (PW.pt (pw_or (pt_not (pt_val (pe_callB call_isi rfl B.isinstance (by decide +kernel) (pa_cons (pv 0) (pa_cons (pe_bltn (v := .ty "tuple") rfl B.tuple (by decide +kernel) rfl) pa_nil))))) (pw_or1 (pt_not (pt_chain op_le op_le pe_int (pe_callB call_len_seq rfl B.len PySem.boot_len (pa_cons (pv 0) pa_nil)) (pe_op op_add (pe_glob (v := .int 4) rfl M.MOST_CHILDREN.choose_spec ⟨_, rfl⟩) pe_int)))))) (pss_one (ps_ret pe_bl)) pss_nil)
      (pss_one (ps_ret (pe_call G_is_name hr_is_name rfl D_is_name.m D_is_name.F.kp D_is_name.b .nil pass0 (pa_cons (pe_ix ix_tup (pv 0) pe_int (fun _ _ => rfl)) pa_nil))))), fun ds C h => ?_⟩
  obtain ⟨d, rfl, hk, hl, hc⟩ := h
  rcases isB_tu hk with ⟨es, rfl⟩ | e0
  · obtain ⟨h1000, hx⟩ := hl es rfl
    refine wpS_seq (wpS_if (wpT_or (wpT_not (wpT_B (wp_isi (wp_var (d := .tuple es) rfl ⟨true, isB_tt, true, rfl, fun z => absurd z (by decide), fun _ => ?_⟩))))))
    refine wpT_not (wpT_test (wp_chain (wp_int (wp_cb (wpA_cons (wp_var (d := .tuple es) rfl (wpA_nil (cad_lenT (opd_ib ⟨_, rfl, fun q => ?_, fun q => ?_⟩)))))))))
    rotate_left
    · have q := of_decide_eq_false q
      have he : es = [] := by
        cases es with
        | nil => rfl
        | cons a r => rw [List.length_cons] at q; omega
      subst he
      exact ⟨_, rfl, fun _ => wpS_ret (wp_bl hc), fun z => (nomatch z)⟩
    have q := of_decide_eq_true q
    obtain ⟨x, cs, rfl⟩ : ∃ x cs, es = x :: cs := by
      cases es with
      | nil => have q : (1 : Int) ≤ 0 := q
               omega
      | cons a r => exact ⟨a, r, rfl⟩
    have hc : C (.bool (decide (cs.length ≤ 4) && nameB x)) := hc
    obtain ⟨k1, k2⟩ := hx x (List.mem_cons_self ..)
    refine wp_op (wp_int (wp_int (opd_ii (opd_ib ⟨_, rfl, fun z => ?_, fun z => ?_⟩))))
    · have z : (!decide ((((x :: cs).length : Nat) : Int) ≤ 4 + 1)) = true := z
      have z : ¬ ((((x :: cs).length : Nat) : Int) ≤ 4 + 1) := by
        intro y
        rw [decide_eq_true y] at z
        cases z
      rw [List.length_cons] at z
      rw [decide_eq_false (show ¬ cs.length ≤ 4 by omega)] at hc
      exact wpS_ret (wp_bl hc)
    have z : (!decide ((((x :: cs).length : Nat) : Int) ≤ 4 + 1)) = false := z
    have z : (((x :: cs).length : Nat) : Int) ≤ 4 + 1 := by
      by_cases y : (((x :: cs).length : Nat) : Int) ≤ 4 + 1
      · exact y
      · rw [decide_eq_false y] at z
        cases z
    rw [List.length_cons] at z
    rw [decide_eq_true (show cs.length ≤ 4 by omega)] at hc
    exact wpS_next (wpS_ret (wp_call (wpA_cons (wp_op (wp_var (d := .tuple (x :: cs)) rfl (wp_int (opd_ixT (d := x) (atI_nat' (k := 0) rfl rfl) (wpA_nil ⟨x, rfl, k1, k2, hc⟩))))))))
  · have hb : nodeB d = false := by
      cases d with
      | tuple es => exact absurd e0 (by rw [isB_tt]; decide)
      | _ => rfl
    rw [hb] at hc
    refine wpS_seq (wpS_if (wpT_or (wpT_not (wpT_B (wp_isi (wp_var (d := d) rfl ⟨false, e0, false, rfl, fun _ => ⟨fun _ => wpS_ret (wp_bl hc), fun z => (nomatch z)⟩, fun z => absurd z (by decide)⟩))))))
end
end Gr

namespace Gr
open PySem L2 Evl Dn

theorem rdb_kn' {d : PyData} (h : rdb d = true) : kn d = true := by
  cases d with
  | dict kvs =>
    match kvs, h with
    | [], _ => rfl
    | (.str _, _) :: _, _ => rfl
  | _ => rfl
theorem rdb_mem' {d : PyData} : ∀ {ds : List PyData}, rdbAll ds = true → d ∈ ds → rdb d = true
  | a :: ds, h, m => by
    rw [rdbAll, Bool.and_eq_true] at h
    rcases List.mem_cons.mp m with rfl | m
    · exact h.1
    · exact rdb_mem' h.2 m
theorem filt_nil {α : Type} (p : α → Bool) : ∀ l : List α, (l.filter fun c => !p c).isEmpty = l.all p
  | [] => rfl
  | a :: l => by
    rw [List.filter_cons, List.all_cons, ← filt_nil p l]
    cases p a <;> rfl
theorem eqv_nil' {l : List PyData} : PyData.eqv (.list l) (.list []) = l.isEmpty := by
  cases l with
  | nil => rfl
  | cons a r => rfl
theorem map_nil' {α β : Type} (g : α → β) (l : List α) : (l.map g).isEmpty = l.isEmpty := by cases l <;> rfl
theorem rdbAll_of {ds : List PyData} (h : ∀ d, d ∈ ds → rdb d = true) : rdbAll ds = true := by
  induction ds with
  | nil => rfl
  | cons d ds ih => rw [rdbAll, h d (List.mem_cons_self ..), ih fun x m => h x (List.mem_cons_of_mem _ m)]; rfl
mutual
def treeB : PyData → Bool
  | .tuple (x :: cs) => decide (cs.length ≤ 4) && (nameB x && treesB cs)
  | _ => false
def treesB : List PyData → Bool
  | [] => true
  | d :: ds => treeB d && treesB ds
end
theorem treesB_all : ∀ ds : List PyData, treesB ds = ds.all treeB
  | [] => rfl
  | d :: ds => by rw [treesB, List.all_cons, treesB_all ds]
mutual
/-- no list, tuple or text is long -/
def lnB : PyData → Bool
  | .str n => decide (n.length ≤ 1000) && PyData.strOk n
  | .list ds => decide (ds.length ≤ 1000) && lnBs ds
  | .tuple ds => decide (ds.length ≤ 1000) && lnBs ds
  | _ => true
def lnBs : List PyData → Bool
  | [] => true
  | d :: ds => lnB d && lnBs ds
end
theorem lnBs_mem : ∀ {ds : List PyData}, lnBs ds = true → ∀ d, d ∈ ds → lnB d = true
  | a :: ds, h, d, m => by
    rw [lnBs, Bool.and_eq_true] at h
    rcases List.mem_cons.mp m with rfl | m
    · exact h.1
    · exact lnBs_mem h.2 d m
theorem depth_mem : ∀ {ds : List PyData} {d : PyData}, d ∈ ds → d.depth ≤ PyData.depthAll ds
  | a :: ds, d, m => by
    rw [PyData.depthAll]
    rcases List.mem_cons.mp m with rfl | m
    · omega
    · have := depth_mem m; omega
/-- any value that is looked at -/
structure Vl (k : Nat) (d : PyData) : Prop where
  rd : rdb d = true
  dep : d.depth < k
  ln : lnB d = true
theorem Vl.tup {k : Nat} {ds : List PyData} (h : Vl (k + 1) (.tuple ds)) : ds.length ≤ 1000 ∧ ∀ d, d ∈ ds → Vl k d := by
  obtain ⟨a, b, c⟩ := h
  rw [PyData.depth] at b
  rw [lnB, Bool.and_eq_true] at c
  have a : rdbAll ds = true := a
  exact ⟨of_decide_eq_true c.1, fun d m => ⟨rdb_mem' a m, by have := depth_mem m; omega, lnBs_mem c.2 d m⟩⟩
theorem abc_mem (c : Nat) : decide (c ∈ ("abcdefghijklmnopqrstuvwxyz" : Str).cps.toList) = lowB c := by
  have e : ("abcdefghijklmnopqrstuvwxyz" : Str).cps.toList = List.range' 97 26 := by decide +kernel
  rw [e]
  unfold lowB
  by_cases h : 97 ≤ c ∧ c ≤ 122
  · rw [decide_eq_true h.1, decide_eq_true h.2, decide_eq_true (List.mem_range'_1.mpr (by omega))]; rfl
  · rw [decide_eq_false (fun z => h (by have := List.mem_range'_1.mp z; omega))]
    by_cases g : 97 ≤ c
    · rw [decide_eq_false (fun z => h ⟨g, z⟩), Bool.and_false]
    · rw [decide_eq_false g, Bool.false_and]
section
variable {P : Program} {w : World} {K : Frag} {mg : Str → Option Value} {base : Heap}
def gIsT (k : Nat) : List PyData → (PyData → Prop) → Prop := fun ds C => ∃ d : PyData, ds = [d] ∧ Vl k d ∧ C (.bool (treeB d))
theorem ok_ist {f : Addr} {fdt : FuncData} (D__law_is_tree : Df K mg "_law_is_tree" s__law_is_tree P__law_is_tree f fdt) (B : Bi mg) : ∀ k, FnOk P w K mg base CX0 (k + 1) f fdt P__law_is_tree (spP K (gIsT k))
  | 0 => no_spP fun ds C ⟨d, _, h, _⟩ => absurd h.dep (Nat.not_lt_zero _)
  | k + 1 => by
    have G__law_is_tree := ok_ist D__law_is_tree B k
    refine okP D__law_is_tree.F sc__law_is_tree (fun ds C h => by obtain ⟨d, rfl, _⟩ := h; rfl) (fun cdv A outer s H E hr => ?_)
    have hr__law_is_tree := hr
    have hu64 := hr.units
    have hu65 := hu65Of hr
    refine ⟨_, (pss_cons (ps_if (PW.pt (pw_or (pt_not (pt_val (pe_callB call_isi rfl B.isinstance (by decide +kernel) (pa_cons (pv 0) (pa_cons (pe_bltn (v := .ty "tuple") rfl B.tuple (by decide +kernel) rfl) pa_nil))))) (pw_or (pt_not (pt_chain op_le op_le pe_int (pe_callB call_len_seq rfl B.len PySem.boot_len (pa_cons (pv 0) pa_nil)) pe_int)) (pw_or1 (pt_not (pt_val (pe_callB call_isi rfl B.isinstance (by decide +kernel) (pa_cons (pe_ix ix_tup (pv 0) pe_int (fun _ _ => rfl)) (pa_cons (pe_bltn (v := .ty "str") rfl B.str (by decide +kernel) rfl) pa_nil))))))))) (pss_one (ps_ret pe_bl)) pss_nil)
      (pss_cons (ps_if (PW.pt (pw_or (pt_not (pt_chain op_le op_le pe_int (pe_callB call_len_str rfl B.len PySem.boot_len (pa_cons (pe_ix ix_tup (pv 0) pe_int (fun _ _ => rfl)) pa_nil)) pe_int)) (pw_or1 (pt_cmpR (op_neD hu64) (pe_lc rfl sc__law_is_tree.nd (pi_str (pe_ix ix_tup (pv 0) pe_int (fun _ _ => rfl))) (blkOk_by (own := [("sign", 2)]) (N := N__law_is_tree) (sc := defScope s__law_is_tree) (by decide +kernel)) (fun _ _ _ _ _ => (pg_name (i := 2) sc__law_is_tree.nd rfl (Or.inl rfl))) (fun _ _ _ _ _ => (pts_one (pt_cmpR op_notIn_sign (pv 2) pe_str (by rfl)))) (fun _ _ _ _ _ => (pv 2))) (pe_lst pa_nil) (nomark _))))) (pss_one (ps_ret pe_bl)) pss_nil)
      (pss_one (ps_ret (pe_cmpR (op_eqNil hu65) (pe_lc rfl sc__law_is_tree.nd (pi_tup (pe_slice sl_tupA (pv 0) (po_some pe_int) po_none)) (blkOk_by (own := [("child", 1)]) (N := N__law_is_tree) (sc := defScope s__law_is_tree) (by decide +kernel)) (fun _ _ _ _ _ => (pg_name (i := 1) sc__law_is_tree.nd rfl (Or.inl rfl))) (fun _ _ _ _ _ => (pts_one (pt_not (pt_val (pe_call G__law_is_tree hr__law_is_tree rfl D__law_is_tree.m D__law_is_tree.F.kp D__law_is_tree.b .nil pass0 (pa_cons (pv 1) pa_nil)))))) (fun _ _ _ _ _ => (pv 1))) (pe_lst pa_nil) (nomark _)))))), fun ds C h => ?_⟩
    obtain ⟨d, rfl, hv, hc⟩ := h
    rcases isB_tu (rdb_kn' hv.rd) with ⟨es, rfl⟩ | e0
    · obtain ⟨h1000, hx⟩ := hv.tup
      refine wpS_seq (wpS_if (wpT_or (wpT_not (wpT_B (wp_isi (wp_var (d := .tuple es) rfl ⟨true, isB_tt, true, rfl, fun z => absurd z (by decide), fun _ => ?_⟩))))))
      refine wpT_or (wpT_not (wpT_test (wp_chain (wp_int (wp_cb (wpA_cons (wp_var (d := .tuple es) rfl (wpA_nil (cad_lenT (opd_ib ⟨_, rfl, fun q => ?_, fun q => ?_⟩))))))))))
      rotate_left
      · have q := of_decide_eq_false q
        have he : es = [] := by
          cases es with
          | nil => rfl
          | cons a r => rw [List.length_cons] at q; omega
        subst he
        exact ⟨_, rfl, fun _ => ⟨fun _ => wpS_ret (wp_bl hc), fun z => (nomatch z)⟩, fun z => (nomatch z)⟩
      have q := of_decide_eq_true q
      obtain ⟨x, cs, rfl⟩ : ∃ x cs, es = x :: cs := by
        cases es with
        | nil => have q : (1 : Int) ≤ 0 := q
                 omega
        | cons a r => exact ⟨a, r, rfl⟩
      have hc : C (.bool (decide (cs.length ≤ 4) && (nameB x && treesB cs))) := by
        rw [treeB] at hc; exact hc
      have vx := hx x (List.mem_cons_self ..)
      refine wp_int (opd_ib ⟨_, rfl, fun z => ?_, fun z => ?_⟩)
      · have z : (!decide ((((x :: cs).length : Nat) : Int) ≤ 5)) = true := z
        have z : ¬ ((((x :: cs).length : Nat) : Int) ≤ 5) := by
          intro y
          rw [decide_eq_true y] at z
          cases z
        rw [List.length_cons] at z
        rw [decide_eq_false (show ¬ cs.length ≤ 4 by omega), Bool.false_and] at hc
        exact ⟨fun _ => wpS_ret (wp_bl hc), fun z => (nomatch z)⟩
      have z : (!decide ((((x :: cs).length : Nat) : Int) ≤ 5)) = false := z
      have z : (((x :: cs).length : Nat) : Int) ≤ 5 := by
        by_cases y : (((x :: cs).length : Nat) : Int) ≤ 5
        · exact y
        · rw [decide_eq_false y] at z
          cases z
      rw [List.length_cons] at z
      rw [decide_eq_true (show cs.length ≤ 4 by omega), Bool.true_and] at hc
      have hat0 : ∀ r : List PyData, atI (x :: r) 0 = some x := fun r => atI_nat' (k := 0) rfl rfl
      rcases isB_st (rdb_kn' vx.rd) with ⟨n, rfl⟩ | ⟨e0, e1⟩
      rotate_left
      · rw [e1, Bool.false_and] at hc
        refine wpT_not (wpT_B (wp_isi (wp_op (wp_var (d := .tuple (x :: cs)) rfl (wp_int (opd_ixT (d := x) (hat0 _) ⟨false, e0, false, rfl, fun _ => wpS_ret (wp_bl hc), fun z => absurd z (by decide)⟩))))))
      refine wpT_not (wpT_B (wp_isi (wp_op (wp_var (d := .tuple (.str n :: cs)) rfl (wp_int (opd_ixT (d := .str n) (hat0 _) ⟨true, isB_ss, true, rfl, fun z => absurd z (by decide), fun _ => wpS_next ?_⟩))))))
      have hln : n.length ≤ 1000 ∧ PyData.strOk n = true := by
        have z := vx.ln
        rw [lnB, Bool.and_eq_true] at z
        exact ⟨of_decide_eq_true z.1, z.2⟩
      have hc : C (.bool ((decide (1 ≤ n.length) && (decide (n.length ≤ 8) && n.cps.toList.all lowB)) && treesB cs)) := hc
      refine wpS_seq (wpS_if (wpT_or (wpT_not (wpT_test (wp_chain (wp_int (wp_cb (wpA_cons (wp_op (wp_var (d := .tuple (.str n :: cs)) rfl (wp_int (opd_ixT (d := .str n) (hat0 _) (wpA_nil (cad_lenS (by omega) (opd_ib ⟨_, rfl, fun q => ?_, fun q => ?_⟩)))))))))))))))
      rotate_left
      · have q := of_decide_eq_false q
        rw [decide_eq_false (show ¬ 1 ≤ n.length by omega)] at hc
        exact ⟨_, rfl, fun _ => ⟨fun _ => wpS_ret (wp_bl hc), fun z => (nomatch z)⟩, fun z => (nomatch z)⟩
      have q := of_decide_eq_true q
      rw [decide_eq_true (show 1 ≤ n.length by omega), Bool.true_and] at hc
      refine wp_int (opd_ib ⟨_, rfl, fun z => ?_, fun z => ?_⟩)
      · have z : (!decide (((n.length : Nat) : Int) ≤ 8)) = true := z
        have z : ¬ ((n.length : Nat) : Int) ≤ 8 := by
          intro y
          rw [decide_eq_true y] at z
          cases z
        rw [decide_eq_false (show ¬ n.length ≤ 8 by omega)] at hc
        exact ⟨fun _ => wpS_ret (wp_bl hc), fun z => (nomatch z)⟩
      have z : (!decide (((n.length : Nat) : Int) ≤ 8)) = false := z
      have z : ((n.length : Nat) : Int) ≤ 8 := by
        by_cases y : ((n.length : Nat) : Int) ≤ 8
        · exact y
        · rw [decide_eq_false y] at z
          cases z
      rw [decide_eq_true (show n.length ≤ 8 by omega), Bool.true_and] at hc
      refine wpT_test (wp_op (wpE_new (wpN_lc (wpI_str (wp_op (wp_var (d := .tuple (.str n :: cs)) rfl (wp_int (opd_ixT (d := .str n) (hat0 _) ⟨n, rfl, fun i acc => acc = ((n.cps.toList.take i).filter fun c => !lowB c).map fun c => PyData.str ⟨#[c]⟩, rfl, ?_, ?_⟩))))))))
      · rintro i d acc e rfl
        unfold signs at e
        rw [List.getElem?_map] at e
        cases hc2 : n.cps.toList[i]? with
        | none => rw [hc2] at e; cases e
        | some ch =>
          rw [hc2] at e
          have e := (Option.some.inj e).symm
          subst e
          have hlen : (((n.cps.toList.take i).filter fun c => !lowB c).map fun c => PyData.str ⟨#[c]⟩).length < 100000 := by
            rw [List.length_map]
            have := List.length_filter_le (fun c => !lowB c) (n.cps.toList.take i)
            rw [List.length_take] at this
            have hi := (List.getElem?_eq_some_iff.mp hc2).1
            rw [Array.length_toList] at hi
            have hi : i < n.length := hi
            omega
          have fin : (n.cps.toList.take (i + 1)).filter (fun c => !lowB c) = (n.cps.toList.take i).filter (fun c => !lowB c) ++ (if (!lowB ch) = true then [ch] else []) := by
            rw [List.take_add_one, hc2, List.filter_append]
            congr 1
            show List.filter _ [ch] = _
            rw [List.filter_cons]
            rfl
          refine ⟨_, gD_name, by simp, wpT_test (wp_op (wp_var (d := .str ⟨#[ch]⟩) rfl (wp_str (opd_ninSign ⟨_, rfl, fun z => ?_, fun z => ?_⟩))))⟩
          · have z : (!decide (ch ∈ ("abcdefghijklmnopqrstuvwxyz" : Str).cps.toList)) = true := z
            rw [abc_mem] at z
            refine wp_var (d := .str ⟨#[ch]⟩) rfl ⟨hlen, ?_⟩
            show _ = List.map _ ((n.cps.toList.take (i + 1)).filter fun c => !lowB c)
            rw [fin, if_pos z, List.map_append]
            rfl
          · have z : (!decide (ch ∈ ("abcdefghijklmnopqrstuvwxyz" : Str).cps.toList)) = false := z
            rw [abc_mem] at z
            show _ = List.map _ ((n.cps.toList.take (i + 1)).filter fun c => !lowB c)
            rw [fin, if_neg (by rw [z]; decide), List.append_nil]
      rintro acc rfl
      have hs : (signs n).length = n.cps.toList.length := by unfold signs; rw [List.length_map]
      rw [hs, List.take_length]
      have hcm : Dn.cmp (PyData.list ((n.cps.toList.filter fun c => !lowB c).map fun c => PyData.str ⟨#[c]⟩)) = true := cmp_list fun d m => by
        obtain ⟨c, hcm, rfl⟩ := List.mem_map.mp m
        have h1 := ok_iff.mp hln.2 c ((List.mem_filter.mp hcm).1)
        refine ⟨rfl, ?_, by rw [PyData.depth]; decide⟩
        show PyData.strOk ⟨#[c]⟩ = true
        rw [ok_iff]
        intro c2 m2
        have m2 : c2 ∈ [c] := m2
        rw [List.mem_singleton.mp m2]
        exact h1
      refine wpE_new (wpN_lst (wpA_nil ⟨by decide, opd_neD hcm (by decide +kernel) ⟨_, rfl, fun z => ?_, fun z => ?_⟩⟩))
      · rw [eqv_nil', map_nil', filt_nil] at z
        have z : n.cps.toList.all lowB = false := by
          cases y : n.cps.toList.all lowB with
          | false => rfl
          | true => rw [y] at z; cases z
        rw [z, Bool.false_and] at hc
        exact wpS_ret (wp_bl hc)
      rw [eqv_nil', map_nil', filt_nil] at z
      have z : n.cps.toList.all lowB = true := by
        cases y : n.cps.toList.all lowB with
        | false => rw [y] at z; cases z
        | true => rfl
      rw [z, Bool.true_and, treesB_all, ← filt_nil] at hc
      refine wpS_next (wpS_ret (wp_op (wpE_new (wpN_lc (wpI_tup (wp_slT (wp_var (d := .tuple (.str n :: cs)) rfl (wpO_some (wp_int ⟨1, rfl, wpO_none ⟨_, rfl, ?_⟩⟩)))))))))
      rw [cut_tl]
      have hcs : ∀ d, d ∈ cs → Vl k d := fun d m => hx d (List.mem_cons_of_mem _ m)
      refine ⟨_, rfl, fun i acc => acc = (cs.take i).filter fun d => !treeB d, rfl, ?_, ?_⟩
      · rintro i d acc e rfl
        have hi := (List.getElem?_eq_some_iff.mp e).1
        have fin : (cs.take (i + 1)).filter (fun d => !treeB d) = (cs.take i).filter (fun d => !treeB d) ++ (if (!treeB d) = true then [d] else []) := by
          rw [List.take_add_one, e, List.filter_append]
          congr 1
          show List.filter _ [d] = _
          rw [List.filter_cons]
          rfl
        refine ⟨_, gD_name, by simp, wpT_not (wpT_B (wp_call (wpA_cons (wp_var (d := d) rfl (wpA_nil ⟨d, rfl, hcs d (List.mem_of_getElem? e), _, rfl, fun y => ?_, fun y => ?_⟩)))))⟩
        · refine wp_var (d := d) rfl ⟨?_, ?_⟩
          · have := List.length_filter_le (fun d => !treeB d) (cs.take i)
            rw [List.length_take] at this
            rw [List.length_cons] at h1000
            omega
          · show _ = (cs.take (i + 1)).filter fun d => !treeB d
            rw [fin, if_pos y]
        · show _ = (cs.take (i + 1)).filter fun d => !treeB d
          rw [fin, if_neg (by rw [y]; decide), List.append_nil]
      · rintro acc rfl
        rw [List.take_length]
        refine wpE_new (wpN_lst (wpA_nil ⟨by decide, opd_eqNil (rdbAll_of fun d m => (hcs d ((List.mem_filter.mp m).1)).rd) hc⟩))
    · have hb : treeB d = false := by
        cases d with
        | tuple es => exact absurd e0 (by rw [isB_tt]; decide)
        | _ => rfl
      rw [hb] at hc
      refine wpS_seq (wpS_if (wpT_or (wpT_not (wpT_B (wp_isi (wp_var (d := d) rfl ⟨false, e0, false, rfl, fun _ => ⟨fun _ => wpS_ret (wp_bl hc), fun z => (nomatch z)⟩, fun z => absurd z (by decide)⟩))))))
end
end Gr

namespace Gr
open PySem L2 Evl Dn

/-! ## values with at most one dict on a level -/
inductive Th : PyData → Prop
  | pl {d : PyData} : d.plain = true → Th d
  | di (kvs : List (PyData × PyData)) : Th (.dict kvs)
  | one {l r : List PyData} {y : PyData} : (∀ x, x ∈ l → x.plain = true) → (∀ x, x ∈ r → x.plain = true) → Th y → Th (.tuple (l ++ y :: r))
  | dk {xs : List PyData} {kvs : List (PyData × PyData)} : .dict kvs ∈ xs → Th (.tuple xs)
/-- a level: one that may hold a dict, the others plain; or a dict stands in it -/
def Lv (ds : List PyData) : Prop := (∀ x, x ∈ ds → x.plain = true) ∨ (∃ l y r, ds = l ++ y :: r ∧ (∀ x, x ∈ l → x.plain = true) ∧ (∀ x, x ∈ r → x.plain = true) ∧ Th y) ∨ ∃ kvs, PyData.dict kvs ∈ ds
mutual
theorem eqv_tree : ∀ a b : PyData, PyData.eqv a b = true → treeB a = treeB b
  | .tuple xs, b, h => by
    cases b with
    | tuple ys =>
      have h : PyData.eqvAll xs ys = true := h
      exact eqv_treeT xs ys h
    | _ => cases h
  | .none, b, h => by cases b <;> first | rfl | cases h
  | .bool _, b, h => by cases b <;> first | rfl | cases h
  | .int _, b, h => by cases b <;> first | rfl | cases h
  | .str _, b, h => by cases b <;> first | rfl | cases h
  | .list _, b, h => by cases b <;> first | rfl | cases h
  | .dict _, b, h => by cases b <;> first | rfl | cases h
theorem eqv_treeT : ∀ xs ys : List PyData, PyData.eqvAll xs ys = true → treeB (.tuple xs) = treeB (.tuple ys)
  | [], [], _ => rfl
  | [], _ :: _, h => by cases h
  | _ :: _, [], h => by cases h
  | x :: xs, y :: ys, h => by
    rw [PyData.eqvAll, Bool.and_eq_true] at h
    obtain ⟨a, b⟩ := eqv_trees xs ys h.2
    rw [treeB, treeB, a, b, eqv_name x y h.1]
theorem eqv_trees : ∀ xs ys : List PyData, PyData.eqvAll xs ys = true → xs.length = ys.length ∧ treesB xs = treesB ys
  | [], [], _ => ⟨rfl, rfl⟩
  | [], _ :: _, h => by cases h
  | _ :: _, [], h => by cases h
  | x :: xs, y :: ys, h => by
    rw [PyData.eqvAll, Bool.and_eq_true] at h
    obtain ⟨a, b⟩ := eqv_trees xs ys h.2
    rw [List.length_cons, List.length_cons, a, treesB, treesB, b, eqv_tree x y h.1]
    exact ⟨rfl, rfl⟩
theorem eqv_name : ∀ a b : PyData, PyData.eqv a b = true → nameB a = nameB b
  | .str x, b, h => by
    cases b with
    | str y =>
      have h : (x == y) = true := h
      rw [eq_of_beq h]
    | _ => cases h
  | .none, b, h => by cases b <;> first | rfl | cases h
  | .bool _, b, h => by cases b <;> first | rfl | cases h
  | .int _, b, h => by cases b <;> first | rfl | cases h
  | .list _, b, h => by cases b <;> first | rfl | cases h
  | .tuple _, b, h => by cases b <;> first | rfl | cases h
  | .dict _, b, h => by cases b <;> first | rfl | cases h
end
/-- each value once -/
def difL : List PyData → List PyData → List PyData
  | acc, [] => acc
  | acc, d :: ds => difL (if (acc.any fun z => PyData.eqv z d) = true then acc else acc ++ [d]) ds
theorem difL_snoc : ∀ (ds acc : List PyData) (d : PyData), difL acc (ds ++ [d]) = (if ((difL acc ds).any fun z => PyData.eqv z d) = true then difL acc ds else difL acc ds ++ [d])
  | [], acc, d => rfl
  | e :: ds, acc, d => by rw [List.cons_append, difL, difL, difL_snoc ds]
theorem difL_sub : ∀ (ds acc : List PyData), ∃ t, difL acc ds = acc ++ t ∧ t.Sublist ds
  | [], acc => ⟨[], by rw [List.append_nil]; rfl, List.Sublist.refl _⟩
  | d :: ds, acc => by
    rw [difL]
    split
    · obtain ⟨t, e, s⟩ := difL_sub ds acc
      exact ⟨t, e, s.cons d⟩
    · obtain ⟨t, e, s⟩ := difL_sub ds (acc ++ [d])
      exact ⟨d :: t, by rw [e, List.append_assoc]; rfl, s.cons₂ d⟩
theorem difL_keep {ds acc : List PyData} {e : PyData} (h : e ∈ acc) : e ∈ difL acc ds := by
  obtain ⟨t, q, _⟩ := difL_sub ds acc
  rw [q]
  exact List.mem_append_left _ h
theorem difL_mem : ∀ (ds acc : List PyData) (d : PyData), d ∈ ds → d ∈ difL acc ds ∨ ∃ e, e ∈ difL acc ds ∧ PyData.eqv e d = true
  | a :: ds, acc, d, m => by
    rw [difL]
    rcases List.mem_cons.mp m with rfl | m
    · split
      · rename_i h
        obtain ⟨z, hz, hq⟩ := List.any_eq_true.mp h
        exact .inr ⟨z, difL_keep hz, hq⟩
      · exact .inl (difL_keep (List.mem_append_right _ (List.mem_singleton.mpr rfl)))
    · exact difL_mem ds _ d m
theorem difL_in {xs : List PyData} {d : PyData} (h : d ∈ difL [] xs) : d ∈ xs := by
  obtain ⟨t, q, s⟩ := difL_sub xs []
  rw [q, List.nil_append] at h
  exact s.subset h
theorem difL_all {p : PyData → Bool} (hp : ∀ a b, PyData.eqv a b = true → p a = p b) (xs : List PyData) : (difL [] xs).all p = xs.all p := by
  rw [Bool.eq_iff_iff, List.all_eq_true, List.all_eq_true]
  constructor
  · intro h d m
    rcases difL_mem xs [] d m with z | ⟨e, z, q⟩
    · exact h d z
    · rw [← hp e d q]; exact h e z
  · intro h d m
    exact h d (difL_in m)
section
variable {P : Program} {w : World} {K : Frag} {mg : Str → Option Value} {base : Heap}
def gDif : List PyData → (List PyData → Prop) → Prop := fun ds C => ∃ xs : List PyData, ds = [.list xs] ∧ xs.length ≤ 50000 ∧ (∀ d, d ∈ xs → rdb d = true ∧ d.depth ≤ 60) ∧ ((∀ x, x ∈ xs → x.plain = true) ∨ ∃ l y r, xs = l ++ y :: r ∧ (∀ x, x ∈ l → x.plain = true) ∧ (∀ x, x ∈ r → x.plain = true)) ∧ C (difL [] xs)
theorem one_of {xs : List PyData} {i : Nat} {d e : PyData} (h : (∀ x, x ∈ xs → x.plain = true) ∨ ∃ l y r, xs = l ++ y :: r ∧ (∀ x, x ∈ l → x.plain = true) ∧ (∀ x, x ∈ r → x.plain = true)) (hd : xs[i]? = some d) (he : e ∈ xs.take i) : e.plain = true ∨ d.plain = true := by
  rcases h with h | ⟨l, y, r, rfl, h1, h2⟩
  · exact .inl (h e (List.mem_of_mem_take he))
  · by_cases hi : i ≤ l.length
    · rw [List.take_append_of_le_length hi] at he
      exact .inl (h1 e (List.mem_of_mem_take he))
    · refine .inr (h2 d ?_)
      rw [List.getElem?_append_right (by omega)] at hd
      obtain ⟨j, hj⟩ : ∃ j, i - l.length = j + 1 := ⟨i - l.length - 1, by omega⟩
      rw [hj, List.getElem?_cons_succ] at hd
      exact List.mem_of_getElem? hd
end
end Gr

namespace Gr
open PySem L2 Evl Dn
mutual
def wt : PyData → Nat
  | .tuple ds => 1 + wts ds
  | .list ds => 1 + wts ds
  | _ => 1
def wts : List PyData → Nat
  | [] => 0
  | d :: ds => wt d + wts ds
end
def chl : PyData → List PyData
  | .tuple (_ :: cs) => cs
  | _ => []
theorem wt_pos (d : PyData) : 1 ≤ wt d := by
  cases d with
  | tuple ds => rw [wt]; omega
  | list ds => rw [wt]; omega
  | _ => exact Nat.le_refl 1
theorem dep_tup (ds : List PyData) : PyData.depthAll ds < (PyData.tuple ds).depth := by rw [PyData.depth]; omega
theorem wts_len : ∀ ds : List PyData, ds.length ≤ wts ds
  | [] => Nat.le_refl _
  | d :: ds => by
    have := wts_len ds
    have := wt_pos d
    rw [List.length_cons, wts]; omega
theorem wts_app : ∀ a b : List PyData, wts (a ++ b) = wts a + wts b
  | [], b => by rw [List.nil_append, wts]; omega
  | d :: a, b => by rw [List.cons_append, wts, wts, wts_app a b]; omega
theorem wts_sub {a b : List PyData} (h : a.Sublist b) : wts a ≤ wts b := by
  induction h with
  | slnil => exact Nat.le_refl _
  | cons d _ ih => rw [wts]; omega
  | cons_cons d _ ih => rw [wts, wts]; omega
theorem wts_chl (d : PyData) : wts (chl d) ≤ wt d := by
  cases d with
  | tuple es =>
    cases es with
    | nil => exact Nat.zero_le _
    | cons x cs =>
      show wts cs ≤ wt (.tuple (x :: cs))
      rw [wt, wts]; omega
  | _ => exact Nat.zero_le _
theorem wts_flat : ∀ ds : List PyData, wts (ds.flatMap chl) ≤ wts ds
  | [] => Nat.le_refl _
  | d :: ds => by
    rw [List.flatMap_cons, wts_app, wts]
    have := wts_chl d
    have := wts_flat ds
    omega
theorem node_tree {d : PyData} (h : nodeB d = true) : treeB d = (chl d).all treeB := by
  cases d with
  | tuple es =>
    cases es with
    | nil => cases h
    | cons x cs =>
      have h : (decide (cs.length ≤ 4) && nameB x) = true := h
      rw [Bool.and_eq_true] at h
      rw [treeB, h.1, h.2, ← treesB_all]
      rfl
  | _ => cases h
theorem not_node {d : PyData} (h : nodeB d = false) : treeB d = false := by
  cases d with
  | tuple es =>
    cases es with
    | nil => rw [treeB]; intro a b c; cases c
    | cons x cs =>
      have h : (decide (cs.length ≤ 4) && nameB x) = false := h
      rw [treeB, ← Bool.and_assoc, h]; rfl
  | _ => rw [treeB]; intro a b c; cases c
theorem all_flat {p : PyData → Bool} : ∀ ds : List PyData, (ds.flatMap chl).all p = ds.all fun d => (chl d).all p
  | [] => rfl
  | d :: ds => by rw [List.flatMap_cons, List.all_append, List.all_cons, all_flat ds]
theorem depths_lt {m : Nat} (hm : 0 < m) : ∀ {ds : List PyData}, (∀ d, d ∈ ds → d.depth < m) → PyData.depthAll ds < m
  | [], _ => by rw [PyData.depthAll]; exact hm
  | d :: ds, h => by
    rw [PyData.depthAll]
    have := h d (List.mem_cons_self ..)
    have := depths_lt hm fun x q => h x (List.mem_cons_of_mem _ q)
    omega
theorem chl_depth {d c : PyData} (h : c ∈ chl d) : c.depth < d.depth := by
  cases d with
  | tuple es =>
    cases es with
    | nil => cases h
    | cons x cs =>
      have := depth_mem (List.mem_cons_of_mem x (show c ∈ cs from h))
      have := dep_tup (x :: cs)
      omega
  | _ => cases h
theorem plain_chl {d c : PyData} (hd : d.plain = true) (h : c ∈ chl d) : c.plain = true := by
  cases d with
  | tuple es =>
    cases es with
    | nil => cases h
    | cons x cs =>
      have hd : (x.plain && PyData.plainAll cs) = true := hd
      rw [Bool.and_eq_true] at hd
      have key : ∀ {cs : List PyData}, PyData.plainAll cs = true → ∀ c, c ∈ cs → c.plain = true := by
        intro cs
        induction cs with
        | nil => intro _ c m; cases m
        | cons a r ih =>
          intro q c m
          have q : (a.plain && PyData.plainAll r) = true := q
          rw [Bool.and_eq_true] at q
          rcases List.mem_cons.mp m with rfl | m
          · exact q.1
          · exact ih q.2 c m
      exact key hd.2 c h
  | _ => cases h
theorem flat_plain {ds : List PyData} (h : ∀ d, d ∈ ds → d.plain = true) : ∀ c, c ∈ ds.flatMap chl → c.plain = true := fun c m => by
  obtain ⟨d, hd, hc⟩ := List.mem_flatMap.mp m
  exact plain_chl (h d hd) hc
/-- the next level -/
theorem Lv.next {lv t : List PyData} (h : Lv lv) (hn : ∀ d, d ∈ lv → nodeB d = true) (hs : t.Sublist lv) : Lv (t.flatMap chl) := by
  rcases h with h | ⟨l, y, r, rfl, h1, h2, hy⟩ | ⟨kvs, h⟩
  · exact .inl (flat_plain fun d m => h d (hs.subset m))
  · obtain ⟨a, b, rfl, sa, sb⟩ := List.sublist_append_iff.mp hs
    have pa : ∀ c, c ∈ a.flatMap chl → c.plain = true := flat_plain fun d m => h1 d (sa.subset m)
    cases sb with
    | cons _ sb =>
      refine .inl fun c m => ?_
      rw [List.flatMap_append] at m
      rcases List.mem_append.mp m with m | m
      · exact pa c m
      · exact flat_plain (fun d m => h2 d (sb.subset m)) c m
    | @cons_cons b2 _ _ sb =>
      have pb : ∀ c, c ∈ b2.flatMap chl → c.plain = true := flat_plain fun d m => h2 d (sb.subset m)
      rw [List.flatMap_append, List.flatMap_cons]
      have ny := hn y (List.mem_append_right _ (List.mem_cons_self ..))
      cases hy with
      | pl hp =>
        refine .inl fun c m => ?_
        rcases List.mem_append.mp m with m | m
        · exact pa c m
        rcases List.mem_append.mp m with m | m
        · exact plain_chl hp m
        · exact pb c m
      | di kvs => cases ny
      | @one l2 r2 z q1 q2 qz =>
        cases l2 with
        | nil =>
          refine .inl fun c m => ?_
          rcases List.mem_append.mp m with m | m
          · exact pa c m
          rcases List.mem_append.mp m with m | m
          · exact q2 c m
          · exact pb c m
        | cons x0 l2 =>
          refine .inr (.inl ⟨a.flatMap chl ++ l2, z, r2 ++ b2.flatMap chl, ?_, fun c m => ?_, fun c m => ?_, qz⟩)
          · show _ ++ ((l2 ++ z :: r2) ++ _) = _
            simp
          · rcases List.mem_append.mp m with m | m
            · exact pa c m
            · exact q1 c (List.mem_cons_of_mem _ m)
          · rcases List.mem_append.mp m with m | m
            · exact q2 c m
            · exact pb c m
      | @dk xs kvs hk =>
        cases xs with
        | nil => cases hk
        | cons x cs =>
          rcases List.mem_cons.mp hk with e | hk
          · subst e
            have ny : (decide (cs.length ≤ 4) && false) = true := ny
            rw [Bool.and_false] at ny
            cases ny
          · exact .inr (.inr ⟨kvs, List.mem_append_right _ (List.mem_append_left _ hk)⟩)
  · have := hn _ h
    cases this
section
variable {P : Program} {w : World} {K : Frag} {mg : Str → Option Value} {base : Heap}
def gIsTree : List PyData → (PyData → Prop) → Prop := fun ds C => ∃ d : PyData, ds = [d] ∧ Vl 60 d ∧ wt d ≤ 40000 ∧ Th d ∧ C (.bool (treeB d))
end
end Gr

namespace Gr
open PySem L2 Evl Dn
/-! ## any value put into a tree -/
def putD : Tr → List Nat → PyData → PyData
  | _, [], p => p
  | .node n cs, i :: q, p => .tuple (.str n :: (cs.map Tr.d).set i (match cs[i]? with | some c => putD c q p | none => p))
theorem putD_nil (t : Tr) (p : PyData) : putD t [] p = p := by cases t; rfl
theorem putD_cons {n : Str} {cs : List Tr} {i : Nat} {q : List Nat} {p : PyData} {c : Tr} (h : cs[i]? = some c) : putD (.node n cs) (i :: q) p = .tuple (.str n :: (cs.map Tr.d).set i (putD c q p)) := by
  rw [putD, h]
section
variable {P : Program} {w : World} {K : Frag} {mg : Str → Option Value} {base : Heap}
def gLPutX (k : Nat) : List PyData → (PyData → Prop) → Prop := fun ds C => ∃ (t : Tr) (q : List Nat) (L : List Tr) (p : PyData), ds = [t.d, .tuple (pInts q), p] ∧ IsPath t q L ∧ q.length < k ∧ (∀ u, u ∈ L → u.size < 400) ∧ q.length < 1000 ∧ C (putD t q p)
end
end Gr

namespace Gr
open PySem L2 Evl Dn

structure Wd (k : Nat) (z : Str) : Prop where
  len : z.length ≤ k
  ok : PyData.strOk z = true
theorem Wd.mono {k m : Nat} {z : Str} (h : Wd k z) (a : k ≤ m) : Wd m z := ⟨Nat.le_trans h.len a, h.ok⟩
theorem Wd.app {k m : Nat} {x y : Str} (a : Wd k x) (b : Wd m y) : Wd (k + m) (x ++ y) := ⟨by have := a.len; have := b.len; rw [PySem.strLen_append]; omega, ok_app a.ok b.ok⟩
theorem Wd.cut {k : Nat} {z : Str} (h : Wd k z) (lo hi : Option Int) : Wd k (cutS z lo hi) := by
  have sub : ∀ c, c ∈ (cutS z lo hi).cps.toList → c ∈ z.cps.toList := fun c m => by
    unfold cutS at m
    rw [List.toList_toArray] at m
    exact List.mem_of_mem_drop (List.mem_of_mem_take m)
  refine ⟨?_, ok_iff.mpr fun c m => ok_iff.mp h.ok c (sub c m)⟩
  have e : (cutS z lo hi).length = (cutS z lo hi).cps.toList.length := (Array.length_toList ..).symm
  have e2 : z.length = z.cps.toList.length := (Array.length_toList ..).symm
  have := h.len
  rw [e]
  unfold cutS
  rw [List.toList_toArray, List.length_take, List.length_drop]
  omega
theorem glue_wd : ∀ (ys : List Str) (acc : Array Nat) (k : Nat), Wd k ⟨acc⟩ → (∀ y, y ∈ ys → Wd 1 y) → Wd (k + ys.length) ⟨ys.foldl (fun acc p => acc ++ (Str.ofString "").cps ++ p.cps) acc⟩
  | [], acc, k, h, _ => h
  | y :: ys, acc, k, h, q => by
    rw [List.foldl_cons, List.length_cons, show k + (ys.length + 1) = (k + 1) + ys.length by omega]
    refine glue_wd ys _ (k + 1) ?_ fun z m => q z (List.mem_cons_of_mem _ m)
    have e : acc ++ (Str.ofString "").cps ++ y.cps = acc ++ y.cps := by
      have : (Str.ofString "").cps = #[] := by decide +kernel
      rw [this, Array.append_empty]
    rw [e]
    exact Wd.app (x := ⟨acc⟩) h (q y (List.mem_cons_self ..))
theorem join_wd {ys : List Str} (h : ∀ y, y ∈ ys → Wd 1 y) : Wd (ys.length + 1) (Txt.join "" ys) := by
  cases ys with
  | nil => exact ⟨by decide +kernel, by decide +kernel⟩
  | cons y r =>
    have z := glue_wd r y.cps 1 (h y (List.mem_cons_self ..)) fun x m => h x (List.mem_cons_of_mem _ m)
    exact z.mono (by rw [List.length_cons]; omega)
section
variable {P : Program} {w : World} {K : Frag} {mg : Str → Option Value} {base : Heap}
def gPickS : List PyData → (PyData → Prop) → Prop := fun ds C => ∃ z : Str, ds = [.str z] ∧ 0 < z.length ∧ Wd 1000 z ∧ ∀ y, Wd 1 y → C (.str y)
theorem ok_pickS {f f_take : Addr} {fdt fdt_take : FuncData} (D : Df K mg "_law_pick" s__law_pick P__law_pick f fdt) (B : Bi mg) (D__law_take : Df K mg "_law_take" s__law_take P__law_take f_take fdt_take) : FnOk P w K mg base CX0 2 f fdt P__law_pick (spF K gPickS) := by
  have G__law_take : FnOk P w K mg base CX0 1 _ _ _ _ := ok_take D__law_take B
  refine okF D.F sc__law_pick (fun ds C h => by obtain ⟨z, rfl, _⟩ := h; rfl) (fun cdv A outer s H E hr => ?_)
  have hr__law_take := hr
  refine ⟨_, (pss_one (ps_ret (pe_ix ix_str (pv 1) (pe_call G__law_take hr__law_take rfl D__law_take.m D__law_take.F.kp D__law_take.b .nil pass0 (pa_cons (pv 0) (pa_cons (pe_callB call_len_str rfl B.len PySem.boot_len (pa_cons (pv 1) pa_nil)) pa_nil))) (fun _ _ => rfl)))), fun p ds C h => ?_⟩
  obtain ⟨z, rfl, h0, hw, hc⟩ := h
  have hl := hw.len
  refine wpS_ret (wp_op (wp_var (d := .str z) rfl (wp_callF rfl rfl (wpA_cons (wp_cb (wpA_cons (wp_var (d := .str z) rfl (wpA_nil (cad_lenS (by omega) (wpA_nil ⟨_, rfl, by omega, by omega, fun r r0 r1 => ?_⟩))))))))))
  obtain ⟨c, e, m⟩ := atI_in (xs := z.cps.toList) r0 (by rw [Array.length_toList]; exact r1)
  refine opd_ixS (by omega) e (hc _ ⟨Nat.le_refl 1, ?_⟩)
  rw [ok_iff]
  intro c2 m2
  have m2 : c2 ∈ [c] := m2
  rw [List.mem_singleton.mp m2]
  exact ok_iff.mp hw.ok c m
def gWord : List PyData → (PyData → Prop) → Prop := fun ds C => ds = [] ∧ ∀ z, Wd 40 z → C (.str z)
end
end Gr

namespace Gr
open PySem L2 Evl Dn
/-! ## values without dicts, and how much they show -/
structure Pv (a b c : Nat) (d : PyData) : Prop where
  pl : d.plain = true
  rd : rdb d = true
  dep : d.depth ≤ a
  ln : lnB d = true
  wt : wt d ≤ b
  sw : d.showable = true
  sl : d.shown.length ≤ c
theorem Pv.mono {a b c a2 b2 c2 : Nat} {d : PyData} (h : Pv a b c d) (x : a ≤ a2) (y : b ≤ b2) (z : c ≤ c2) : Pv a2 b2 c2 d := ⟨h.pl, h.rd, Nat.le_trans h.dep x, h.ln, Nat.le_trans h.wt y, h.sw, Nat.le_trans h.sl z⟩
theorem plains_of : ∀ {ds : List PyData}, (∀ d, d ∈ ds → d.plain = true) → PyData.plainAll ds = true
  | [], _ => rfl
  | d :: ds, h => by
    show (d.plain && PyData.plainAll ds) = true
    rw [h d (List.mem_cons_self ..), plains_of fun x m => h x (List.mem_cons_of_mem _ m)]; rfl
theorem lnBs_of : ∀ {ds : List PyData}, (∀ d, d ∈ ds → lnB d = true) → lnBs ds = true
  | [], _ => rfl
  | d :: ds, h => by rw [lnBs, h d (List.mem_cons_self ..), lnBs_of fun x m => h x (List.mem_cons_of_mem _ m)]; rfl
theorem wts_le {b : Nat} : ∀ {ds : List PyData}, (∀ d, d ∈ ds → Gr.wt d ≤ b) → wts ds ≤ b * ds.length
  | [], _ => Nat.zero_le _
  | d :: ds, h => by
    rw [wts, List.length_cons, Nat.mul_succ]
    have := h d (List.mem_cons_self ..)
    have := wts_le fun x m => h x (List.mem_cons_of_mem _ m)
    omega
theorem Pv.tup {a b c m : Nat} {ds : List PyData} (h : ∀ d, d ∈ ds → Pv a b c d) (hl : ds.length ≤ m) (hm : m ≤ 1000) : Pv (a + 1) (b * m + 1) (c * m + 2 * m + 3) (.tuple ds) := by
  refine ⟨?_, ?_, ?_, ?_, ?_, ?_, ?_⟩
  · show PyData.plainAll ds = true
    exact plains_of fun d m => (h d m).pl
  · show rdbAll ds = true
    exact rdbAll_of fun d m => (h d m).rd
  · rw [PyData.depth]
    have := depthAll_of (n := a) (l := ds) fun d m => (h d m).dep
    omega
  · rw [lnB, decide_eq_true (show ds.length ≤ 1000 by omega), lnBs_of fun d m => (h d m).ln]; rfl
  · rw [Gr.wt]
    have := wts_le (b := b) fun d m => (h d m).wt
    have : b * ds.length ≤ b * m := Nat.mul_le_mul_left _ hl
    omega
  · rw [PyData.showable]; exact showAll_of fun d m => (h d m).sw
  · rw [PyData.shown]
    have x := PySem.tupleText_len_le (PyData.shownAll ds)
    have y := shownAll_sum (n := c) fun d m => (h d m).sl
    rw [shownAll_len] at x
    have : c * ds.length ≤ c * m := Nat.mul_le_mul_left _ hl
    omega
theorem Pv.list {a b c m : Nat} {ds : List PyData} (h : ∀ d, d ∈ ds → Pv a b c d) (hl : ds.length ≤ m) (hm : m ≤ 1000) : Pv (a + 1) (b * m + 1) (c * m + 2 * m + 3) (.list ds) := by
  refine ⟨?_, ?_, ?_, ?_, ?_, ?_, ?_⟩
  · show PyData.plainAll ds = true
    exact plains_of fun d m => (h d m).pl
  · show rdbAll ds = true
    exact rdbAll_of fun d m => (h d m).rd
  · rw [PyData.depth]
    have := depthAll_of (n := a) (l := ds) fun d m => (h d m).dep
    omega
  · rw [lnB, decide_eq_true (show ds.length ≤ 1000 by omega), lnBs_of fun d m => (h d m).ln]; rfl
  · rw [Gr.wt]
    have := wts_le (b := b) fun d m => (h d m).wt
    have : b * ds.length ≤ b * m := Nat.mul_le_mul_left _ hl
    omega
  · rw [PyData.showable]; exact showAll_of fun d m => (h d m).sw
  · rw [PyData.shown]
    have x := PySem.listText_len_le (PyData.shownAll ds)
    have y := shownAll_sum (n := c) fun d m => (h d m).sl
    rw [shownAll_len] at x
    have : c * ds.length ≤ c * m := Nat.mul_le_mul_left _ hl
    omega
theorem Pv.str {k : Nat} {z : Str} (h : Wd k z) (hk : k ≤ 1000) : Pv 0 1 (10 * k + 2) (.str z) := by
  refine ⟨rfl, rfl, Nat.le_refl 0, ?_, Nat.le_refl 1, rfl, ?_⟩
  · rw [lnB, decide_eq_true (show z.length ≤ 1000 by have := h.len; omega), h.ok]; rfl
  · rw [PyData.shown]
    have := PySem.StrLaws.reprText_len z fun c m => Nat.lt_trans (ok_iff.mp h.ok c m) (by decide)
    have := h.len
    omega
theorem Pv.of {a b c : Nat} {d : PyData} (h : (d.plain && (rdb d && (decide (d.depth ≤ a) && (lnB d && (decide (Gr.wt d ≤ b) && (d.showable && decide (d.shown.length ≤ c))))))) = true) : Pv a b c d := by
  rw [Bool.and_eq_true, Bool.and_eq_true, Bool.and_eq_true, Bool.and_eq_true, Bool.and_eq_true, Bool.and_eq_true, decide_eq_true_iff, decide_eq_true_iff, decide_eq_true_iff] at h
  exact ⟨h.1, h.2.1, h.2.2.1, h.2.2.2.1, h.2.2.2.2.1, h.2.2.2.2.2.1, h.2.2.2.2.2.2⟩
theorem nm_wd {n : Str} (h : nOk n = true) : Wd 8 n := ⟨(nOk_len h).2.1, nOk_str h⟩
mutual
theorem tr_pv : ∀ t : Tr, t.lay = true → Pv t.lev (2 * t.size) (100 * t.size) t.d
  | .node n cs, h => by
    have z := lay_node h
    have zs : Tr.lays cs = true := by
      rw [Tr.lay, Bool.and_eq_true, Bool.and_eq_true] at h
      exact h.2.2
    obtain ⟨p1, p2, p3, p4, p5, p6, p7⟩ := trs_pv cs zs
    have pn := Pv.str (nm_wd z.1) (by decide)
    have hl := z.2
    have s1 := pn.sl
    rw [show (Tr.node n cs).d = .tuple (.str n :: dl cs) from d_node n cs]
    refine ⟨?_, ?_, ?_, ?_, ?_, ?_, ?_⟩
    · exact p1
    · show (true && rdbAll (dl cs)) = true
      rw [p2]; rfl
    · rw [PyData.depth, PyData.depthAll, PyData.depth]
      show _ ≤ 1 + Tr.levs cs
      omega
    · rw [lnB, lnBs, pn.ln, p4, List.length_cons, dl_len, decide_eq_true (show cs.length + 1 ≤ 1000 by omega)]; rfl
    · rw [Gr.wt, wts, show Gr.wt (PyData.str n) = 1 from rfl]
      show _ ≤ 2 * (1 + Tr.sizes cs)
      omega
    · rw [PyData.showable, PyData.showableAll, p6]; rfl
    · rw [PyData.shown]
      have x := PySem.tupleText_len_le (PyData.shownAll (.str n :: dl cs))
      rw [shownAll_len, PyData.shownAll, List.map_cons, List.sum_cons, List.length_cons, dl_len] at x
      rw [PyData.shownAll]
      show _ ≤ 100 * (1 + Tr.sizes cs)
      omega
theorem trs_pv : ∀ cs : List Tr, Tr.lays cs = true → PyData.plainAll (dl cs) = true ∧ rdbAll (dl cs) = true ∧ PyData.depthAll (dl cs) ≤ Tr.levs cs ∧ lnBs (dl cs) = true ∧ wts (dl cs) ≤ 2 * Tr.sizes cs ∧ PyData.showableAll (dl cs) = true ∧ ((PyData.shownAll (dl cs)).map (·.length)).sum ≤ 100 * Tr.sizes cs
  | [], _ => ⟨rfl, rfl, by show PyData.depthAll [] ≤ 0; rw [PyData.depthAll]; exact Nat.le_refl 0, rfl, Nat.zero_le _, rfl, Nat.zero_le _⟩
  | t :: ts, h => by
    rw [Tr.lays, Bool.and_eq_true] at h
    have a := tr_pv t h.1
    obtain ⟨p1, p2, p3, p4, p5, p6, p7⟩ := trs_pv ts h.2
    have a3 := a.dep
    have a5 := a.wt
    have a7 := a.sl
    rw [show dl (t :: ts) = t.d :: dl ts from rfl]
    refine ⟨?_, ?_, ?_, ?_, ?_, ?_, ?_⟩
    · show (t.d.plain && PyData.plainAll (dl ts)) = true
      rw [a.pl, p1]; rfl
    · rw [rdbAll, a.rd, p2]; rfl
    · rw [PyData.depthAll]
      show _ ≤ max t.lev (Tr.levs ts)
      omega
    · rw [lnBs, a.ln, p4]; rfl
    · rw [wts]
      show _ ≤ 2 * (t.size + Tr.sizes ts)
      omega
    · rw [PyData.showableAll, a.sw, p6]; rfl
    · rw [PyData.shownAll, List.map_cons, List.sum_cons]
      show _ ≤ 100 * (t.size + Tr.sizes ts)
      omega
end
end Gr

namespace Gr
open PySem L2 Evl Dn
abbrev N__law_odd : List Str := ["feed", "tree", "some"]
abbrev P__law_odd : List Str := ["feed", "tree"]
theorem sc__law_odd : FnScope N__law_odd P__law_odd (defScope s__law_odd) := ⟨rfl, rfl, rfl, by decide +kernel, rfl, by decide +kernel, by decide +kernel⟩
structure Vx (a b c : Nat) (d : PyData) : Prop where
  rd : rdb d = true
  dep : d.depth ≤ a
  ln : lnB d = true
  wt : wt d ≤ b
  sw : d.showable = true
  sl : d.shown.length ≤ c
  th : Th d
theorem Pv.vx {a b c : Nat} {d : PyData} (h : Pv a b c d) : Vx a b c d := ⟨h.rd, h.dep, h.ln, h.wt, h.sw, h.sl, .pl h.pl⟩
theorem Vx.mono {a b c a2 b2 c2 : Nat} {d : PyData} (h : Vx a b c d) (x : a ≤ a2) (y : b ≤ b2) (z : c ≤ c2) : Vx a2 b2 c2 d := ⟨h.rd, Nat.le_trans h.dep x, h.ln, Nat.le_trans h.wt y, h.sw, Nat.le_trans h.sl z, h.th⟩
theorem Vx.dict1 {a b c k : Nat} {d : PyData} {z : Str} (h : Pv a b c d) (hz : Wd k z) (hk : k ≤ 1000) : Vx (a + 1) 1 (10 * k + c + 10) (.dict [(.str z, d)]) := by
  have ps := Pv.str hz hk
  refine ⟨?_, ?_, rfl, Nat.le_refl 1, ?_, ?_, .di _⟩
  · show (rdb d && rdbKv []) = true
    rw [h.rd]; rfl
  · rw [PyData.depth, PyData.depthKv, PyData.depthKv]
    have := ps.dep
    have := h.dep
    omega
  · rw [PyData.showable, PyData.showableKv, PyData.showableKv, ps.sw, h.sw]; rfl
  · rw [PyData.shown, PyData.shownKv, PyData.shownKv]
    have x := PySem.dictText_len_le [(PyData.str z).shown ++ (Str.ofString ": ") ++ d.shown]
    rw [List.map_cons, List.map_nil, List.sum_cons, List.sum_nil, List.length_cons, List.length_nil, PySem.strLen_append, PySem.strLen_append, show (Str.ofString ": ").length = 2 from by decide +kernel] at x
    have := ps.sl
    have := h.sl
    omega
/-- what the odd values are: without dicts, or a dict -/
structure Ov (a b c : Nat) (d : PyData) : Prop where
  vx : Vx a b c d
  od : d.plain = true ∨ ∃ kvs, d = .dict kvs
theorem Pv.ov {a b c : Nat} {d : PyData} (h : Pv a b c d) : Ov a b c d := ⟨h.vx, .inl h.pl⟩
theorem lays_in : ∀ {cs : List Tr}, Tr.lays cs = true → ∀ c, c ∈ cs → c.lay = true
  | a :: cs, h, c, m => by
    rw [Tr.lays, Bool.and_eq_true] at h
    rcases List.mem_cons.mp m with rfl | m
    · exact h.1
    · exact lays_in h.2 c m
/-- a tree of the law and its parts -/
structure Tq (t : Tr) : Prop where
  lay : t.lay = true
  lev : t.lev ≤ 8
  size : t.size ≤ 20
theorem Tq.pv {t : Tr} (h : Tq t) : Pv 8 40 2000 t.d := (tr_pv t h.lay).mono h.lev (by have := h.size; omega) (by have := h.size; omega)
theorem Tq.kids {n : Str} {cs : List Tr} (h : Tq (.node n cs)) : ∀ d, d ∈ PyData.str n :: cs.map Tr.d → Pv 8 40 2000 d := fun d m => by
  rcases List.mem_cons.mp m with rfl | m
  · exact (Pv.str (nm_wd (lay_node h.lay).1) (by decide)).mono (by decide) (by decide) (by decide)
  · obtain ⟨t, ht, rfl⟩ := List.mem_map.mp m
    have zs : Tr.lays cs = true := by
      have := h.lay
      rw [Tr.lay, Bool.and_eq_true, Bool.and_eq_true] at this
      exact this.2.2
    have h1 : t.lev ≤ 8 := lev_child (k := 8) (Nat.le_succ_of_le h.lev) ht
    have h2 : t.size ≤ 20 := Nat.le_of_lt_succ (size_child (n := n) (k := 21) (by have := h.size; omega) ht)
    exact Tq.pv ⟨lays_in zs t ht, h1, h2⟩
section
variable {P : Program} {w : World} {K : Frag} {mg : Str → Option Value} {base : Heap}
def gOdd : List PyData → (PyData → Prop) → Prop := fun ds C => ∃ t : Tr, ds = [t.d] ∧ Tq t ∧ ∀ d, Ov 12 2000 60000 d → C d
theorem ok_oddV {f f_tk f_pk : Addr} {fdt fdt_tk fdt_pk : FuncData} (D : Df K mg "_law_odd" s__law_odd P__law_odd f fdt) (B : Bi mg) (D__law_take : Df K mg "_law_take" s__law_take P__law_take f_tk fdt_tk) (D__law_pick : Df K mg "_law_pick" s__law_pick P__law_pick f_pk fdt_pk) : FnOk P w K mg base CX0 3 f fdt P__law_odd (spF K gOdd) := by
  have G__law_pick : FnOk P w K mg base CX0 2 _ _ _ _ := ok_pick D__law_pick B D__law_take
  refine okF D.F sc__law_odd (fun ds C h => by obtain ⟨t, rfl, _⟩ := h; rfl) (fun cdv A outer s H E hr => ?_)
  have hr__law_pick := hr
  refine ⟨_, (pss_cons (ps_set (i := 2) sc__law_odd.nd rfl (Or.inl rfl) (pe_lst (pa_cons pe_non (pa_cons pe_int (pa_cons pe_bl (pa_cons pe_str (pa_cons pe_str (pa_cons (pe_tup pa_nil) (pa_cons (pe_lst pa_nil) (pa_cons pe_dnewK (pa_cons (pe_tup (pa_cons pe_str (pa_cons pe_int pa_nil))) (pa_cons (pe_tup (pa_cons pe_str pa_nil)) (pa_cons (pe_tup (pa_cons pe_str pa_nil)) (pa_cons (pe_tup (pa_cons pe_str pa_nil)) (pa_cons (pe_tup (pa_cons (pe_tup (pa_cons pe_str pa_nil)) pa_nil)) (pa_cons (pe_tup (pa_cons pe_str pa_nil)) (pa_cons (pe_tup (pa_cons pe_int pa_nil)) pa_nil)))))))))))))))))
      (pss_cons (ps_set (i := 2) sc__law_odd.nd rfl (Or.inl rfl) (pe_op op_cat (pv 2) (pe_lst (pa_cons (pe_callTy call_list_of rfl B.list (by decide +kernel) (pa_cons (pv 1) pa_nil)) (pa_cons (pe_op op_catA (pv 1) (pe_op op_repU (pe_tup (pa_cons (pe_tup (pa_cons pe_str pa_nil)) pa_nil)) pe_int)) (pa_cons (pe_op op_catA (pv 1) (pe_tup (pa_cons pe_non pa_nil))) (pa_cons (pe_op op_catA (pv 1) (pe_tup (pa_cons pe_str pa_nil))) (pa_cons (pe_tup (pa_cons (pv 1) pa_nil)) (pa_cons (pe_tup (pa_cons (pe_ix ix_tup (pv 1) pe_int (fun _ _ => rfl)) (pa_cons (pe_lst (pa_cons (pv 1) pa_nil)) pa_nil))) pa_nil)))))))))
      (pss_cons (ps_expr (pe_bm PySem.F.plainAttrs_list PySem.F.slot_list_append PySem.F.type_list_append mt_append (pv 2) (pa_cons (pe_disp (pps_cons pe_str (pv 1) pps_nil) rfl rfl (by simp) (by decide)) pa_nil)))
      (pss_one (ps_ret (pe_call G__law_pick hr__law_pick rfl D__law_pick.m D__law_pick.F.kp D__law_pick.b .nil pass0 (pa_cons (pv 0) (pa_cons (pe_op op_cat (pv 2) (pe_lst (pa_cons (pe_tup (pa_cons pe_str (pa_cons (pe_tup (pa_cons pe_str (pa_cons (pe_tup (pa_cons pe_str pa_nil)) pa_nil))) pa_nil))) (pa_cons (pe_tup (pa_cons pe_str (pa_cons (pe_tup (pa_cons pe_str (pa_cons (pe_lst (pa_cons pe_str pa_nil)) pa_nil))) pa_nil))) (pa_cons (pe_op op_catA (pe_tup (pa_cons pe_non pa_nil)) (pe_slice sl_tupA (pv 1) (po_some pe_int) po_none)) (pa_cons (pe_op op_pow pe_int pe_int) pa_nil)))))) pa_nil)))))))), fun p ds C h => ?_⟩
  obtain ⟨t, rfl, hq, hc⟩ := h
  obtain ⟨n, cs, rfl⟩ := d_cases t
  have hpv := hq.pv
  have hkd := hq.kids
  have hcl : cs.length ≤ 4 := (lay_node hq.lay).2
  rw [d_node] at hpv ⊢
  have hkl : (cs.map Tr.d).length ≤ 4 := by rw [List.length_map]; exact hcl
  generalize hks : cs.map Tr.d = ks at hpv hkd hkl ⊢
  refine wpS_seq (wpS_own (wpN_lst ?_))
  repeat (first | refine wpA_cons ?_ | refine wp_int ?_ | refine wp_tup ?_ | refine wp_non ?_ | refine wp_str ?_ | refine wp_bl ?_ | refine wp_dnew ?_ | refine wpE_new (wpN_lst ?_) | refine wpA_nil ⟨by simp, ?_⟩)
  intro r
  refine wpS_seq (wpS_own (wpN_catOwn (p := r) (ds := [.none, .int 5, .bool true, .str "", .str "a", .tuple [], .list [], .dict [], .tuple [.str "a", .int 5], .tuple [.str "A"], .tuple [.str "a1"], .tuple [.str "abcdefghi"], .tuple [.tuple [.str "a"]], .tuple [.str ""], .tuple [.int 5]]) rfl (wpE_new (wpN_lst (wpA_cons ?_)))))
  refine wpE_new (wpN_cb (wpA_cons (wp_var (d := .tuple (.str n :: ks)) rfl (wpA_nil (can_listT ?_)))))
  refine wpA_cons (wp_op (wp_var (d := .tuple (.str n :: ks)) rfl (wp_op (wp_tup (wpA_cons (wp_tup (wpA_cons (wp_str (wpA_nil ⟨by simp, wpA_nil ⟨by simp, wp_int (opd_repU (by simp) (by decide) (by decide) (by simp) (opd_catA (by simp; omega) ?_))⟩⟩)))))))))
  refine wpA_cons (wp_op (wp_var (d := .tuple (.str n :: ks)) rfl (wp_tup (wpA_cons (wp_non (wpA_nil ⟨by simp, opd_catA (by simp; omega) ?_⟩))))))
  refine wpA_cons (wp_op (wp_var (d := .tuple (.str n :: ks)) rfl (wp_tup (wpA_cons (wp_str (wpA_nil ⟨by simp, opd_catA (by simp; omega) ?_⟩))))))
  refine wpA_cons (wp_tup (wpA_cons (wp_var (d := .tuple (.str n :: ks)) rfl (wpA_nil ⟨by simp, ?_⟩))))
  refine wpA_cons (wp_tup (wpA_cons (wp_op (wp_var (d := .tuple (.str n :: ks)) rfl (wp_int (opd_ixT (d := .str n) (atI_nat' (k := 0) rfl rfl) ?_))))))
  refine wpA_cons (wpE_new (wpN_lst (wpA_cons (wp_var (d := .tuple (.str n :: ks)) rfl (wpA_nil ⟨by simp, wpA_nil ⟨by simp, wpA_nil ⟨by simp, _, rfl, by simp, fun r2 => ?_⟩⟩⟩)))))
  refine wpS_seq (wpS_append (p := r2) rfl (by simp) (wp_disp1 rfl ?_))
  refine wpS_ret (wp_callF rfl rfl (wpA_cons (wpE_new (wpN_op (wp_var rfl (wpE_new (wpN_lst ?_)))))))
  repeat (first | refine wpA_cons ?_ | refine wp_tup ?_ | refine wp_str ?_ | refine wpE_new (wpN_lst ?_) | refine wpA_nil ⟨by simp, ?_⟩)
  refine wp_op (wp_tup (wpA_cons (wp_non (wpA_nil ⟨by simp, ?_⟩))))
  refine wp_slT (wp_var (d := .tuple (.str n :: ks)) rfl (wpO_some (wp_int ⟨1, rfl, wpO_none ⟨_, rfl, ?_⟩⟩)))
  rw [cut_tl]
  refine opd_catA (by simp; omega) (wpA_cons (wp_op (wp_int (wp_int (opd_I (Cc := CPow) ⟨by decide, by decide, by decide⟩ ?_)))))
  refine wpA_nil ⟨by simp, opn_cat (by simp) (wpA_nil ⟨_, rfl, by simp, by simp, fun d m => ?_⟩)⟩
  have up : ∀ {a b c : Nat} {d : PyData}, Pv a b c d → a ≤ 12 → b ≤ 2000 → c ≤ 60000 → C d := fun h x y z => hc _ (h.mono x y z).ov
  have cl : ∀ d : PyData, (d.plain && (rdb d && (decide (d.depth ≤ 12) && (lnB d && (decide (Gr.wt d ≤ 2000) && (d.showable && decide (d.shown.length ≤ 60000))))))) = true → C d := fun d h => hc _ (Pv.of h).ov
  have small : ∀ d : PyData, (d.plain && (rdb d && (decide (d.depth ≤ 8) && (lnB d && (decide (Gr.wt d ≤ 40) && (d.showable && decide (d.shown.length ≤ 2000))))))) = true → Pv 8 40 2000 d := fun d h => Pv.of h
  have kk : ∀ d, d ∈ ks → Pv 8 40 2000 d := fun d m => hkd d (List.mem_cons_of_mem _ m)
  have kn := hkd _ (List.mem_cons_self ..)
  simp only [List.mem_append, List.mem_cons, List.not_mem_nil, or_false] at m
  rcases m with (((rfl | rfl | rfl | rfl | rfl | rfl | rfl | rfl | rfl | rfl | rfl | rfl | rfl | rfl | rfl) | (rfl | rfl | rfl | rfl | rfl | rfl)) | rfl) | (rfl | rfl | rfl | rfl)
  · exact cl _ (by decide +kernel)
  · exact cl _ (by decide +kernel)
  · exact cl _ (by decide +kernel)
  · exact cl _ (by decide +kernel)
  · exact cl _ (by decide +kernel)
  · exact cl _ (by decide +kernel)
  · exact cl _ (by decide +kernel)
  · exact hc _ ⟨⟨rfl, by decide +kernel, rfl, by decide +kernel, rfl, by decide +kernel, .di _⟩, .inr ⟨_, rfl⟩⟩
  · exact cl _ (by decide +kernel)
  · exact cl _ (by decide +kernel)
  · exact cl _ (by decide +kernel)
  · exact cl _ (by decide +kernel)
  · exact cl _ (by decide +kernel)
  · exact cl _ (by decide +kernel)
  · exact cl _ (by decide +kernel)
  · exact up (Pv.list (m := 5) hkd (by simp; omega) (by decide)) (by decide) (by decide) (by decide)
  · refine up (Pv.tup (a := 8) (b := 40) (c := 2000) (m := 10) (fun d m => ?_) (by simp; omega) (by decide)) (by decide) (by decide) (by decide)
    rcases List.mem_append.mp m with m | m
    · exact hkd d m
    · have e : (List.replicate (Int.toNat 5) [PyData.tuple [.str "b"]]).flatten = List.replicate 5 (PyData.tuple [.str "b"]) := rfl
      rw [e] at m
      rw [List.eq_of_mem_replicate m]
      exact small _ (by decide +kernel)
  · refine up (Pv.tup (a := 8) (b := 40) (c := 2000) (m := 10) (fun d m => ?_) (by simp; omega) (by decide)) (by decide) (by decide) (by decide)
    rcases List.mem_append.mp m with m | m
    · exact hkd d m
    · rw [List.mem_singleton.mp m]
      exact small _ (by decide +kernel)
  · refine up (Pv.tup (a := 8) (b := 40) (c := 2000) (m := 10) (fun d m => ?_) (by simp; omega) (by decide)) (by decide) (by decide) (by decide)
    rcases List.mem_append.mp m with m | m
    · exact hkd d m
    · rw [List.mem_singleton.mp m]
      exact small _ (by decide +kernel)
  · refine up (Pv.tup (a := 8) (b := 40) (c := 2000) (m := 1) (fun d m => ?_) (by simp) (by decide)) (by decide) (by decide) (by decide)
    rw [List.mem_singleton.mp m]
    exact hpv
  · have hl : Pv 9 41 2005 (.list [.tuple (.str n :: ks)]) := Pv.list (a := 8) (b := 40) (c := 2000) (m := 1) (fun d m => by rw [List.mem_singleton.mp m]; exact hpv) (by simp) (by decide)
    refine up (Pv.tup (a := 9) (b := 41) (c := 2005) (m := 2) (fun d m => ?_) (by simp) (by decide)) (by decide) (by decide) (by decide)
    rcases List.mem_cons.mp m with rfl | m
    · exact kn.mono (by decide) (by decide) (by decide)
    · rw [List.mem_singleton.mp m]; exact hl
  · exact hc _ ⟨(Vx.dict1 hpv (show Wd 1 "a" from ⟨by decide +kernel, by decide +kernel⟩) (by decide)).mono (by decide) (by decide) (by decide), .inr ⟨_, rfl⟩⟩
  · exact cl _ (by decide +kernel)
  · exact cl _ (by decide +kernel)
  · refine up (Pv.tup (a := 8) (b := 40) (c := 2000) (m := 10) (fun d m => ?_) (by simp; omega) (by decide)) (by decide) (by decide) (by decide)
    rcases List.mem_append.mp m with m | m
    · rw [List.mem_singleton.mp m]
      exact small _ (by decide +kernel)
    · exact kk d m
  · exact cl _ (by decide +kernel)
end
end Gr

namespace Gr
open PySem L2 Evl Dn
/-! ord holds each once -/
theorem pref_all {S : List Tr} : ∀ {i : Nat}, i ≤ S.length → ∀ j t, j < i → S[j]? = some t → t ∈ pref S i
  | 0, _, j, t, h, _ => by omega
  | i + 1, hl, j, t, h, e => by
    by_cases q : j = i
    · subst q
      by_cases z : j = 0 ∨ ¬ S[j - 1]? = some t
      · rw [pref_yes e z]; exact List.mem_append_right _ (List.mem_singleton.mpr rfl)
      · have z0 : j ≠ 0 := fun h => z (.inl h)
        have z1 : S[j - 1]? = some t := Classical.byContradiction fun h => z (.inr h)
        rw [pref_no e z0 z1]
        exact pref_all (by omega) (j - 1) t (by omega) z1
    · have := pref_all (i := i) (by omega) j t (by omega) e
      exact List.mem_append_left _ this
theorem pref_at {S : List Tr} {t : Tr} : ∀ {i : Nat}, t ∈ pref S i → ∃ j, j < i ∧ S[j]? = some t
  | 0, h => by cases h
  | i + 1, h => by
    rcases List.mem_append.mp h with h | h
    · obtain ⟨j, a, b⟩ := pref_at h
      exact ⟨j, by omega, b⟩
    · split at h
      · cases e : S[i]? with
        | none => rw [e] at h; cases h
        | some u =>
          rw [e] at h
          have := List.mem_singleton.mp h
          subst this
          exact ⟨i, by omega, e⟩
      · cases h
theorem pref_nd {S : List Tr} (hS : S.Pairwise fun a b => leT a b = true) : ∀ {i : Nat}, i ≤ S.length → (pref S i).Nodup
  | 0, _ => List.nodup_nil
  | i + 1, h => by
    have ih := pref_nd hS (i := i) (by omega)
    obtain ⟨t, e⟩ : ∃ t, S[i]? = some t := ⟨_, List.getElem?_eq_getElem (by omega)⟩
    by_cases z : i = 0 ∨ ¬ S[i - 1]? = some t
    · rw [pref_yes e z]
      refine List.nodup_append.mpr ⟨ih, by simp, fun a ha b hb q => ?_⟩
      rw [List.mem_singleton.mp hb] at q
      subst q
      obtain ⟨j, j1, j2⟩ := pref_at ha
      have le : ∀ m n x y, m < n → S[m]? = some x → S[n]? = some y → leT x y = true := fun m n x y hmn h1 h2 => by
        have a1 := (List.getElem?_eq_some_iff.mp h1)
        have a2 := (List.getElem?_eq_some_iff.mp h2)
        obtain ⟨l1, e1⟩ := a1
        obtain ⟨l2, e2⟩ := a2
        have := List.pairwise_iff_getElem.mp hS m n l1 l2 hmn
        rw [e1, e2] at this; exact this
      rcases z with z | z
      · omega
      · obtain ⟨u, hu⟩ : ∃ u, S[i - 1]? = some u := ⟨_, List.getElem?_eq_getElem (by omega)⟩
        have h1 := le (i - 1) i u a (by omega) hu e
        by_cases q : j = i - 1
        · subst q; exact z j2
        · have h2 := le j (i - 1) a u (by omega) j2 hu
          exact z (by rw [hu, le_anti h1 h2])
    · have z0 : i ≠ 0 := fun h => z (.inl h)
      have z1 : S[i - 1]? = some t := Classical.byContradiction fun h => z (.inr h)
      rw [pref_no e z0 z1]; exact ih
theorem srt_pw (l : List Tr) : (srt l).Pairwise fun a b => leT a b = true := List.pairwise_mergeSort (fun a b c => le_total.trans a b c) (fun a b => by
  rcases le_total.total a b with h | h
  · rw [h]; rfl
  · rw [h]; exact Bool.or_true _) l
theorem ord_nd (l : List Tr) : (ord l).Nodup := pref_nd (srt_pw l) (Nat.le_refl _)
theorem mem_ord {l : List Tr} {t : Tr} : t ∈ ord l ↔ t ∈ l := by
  constructor
  · intro m; exact ord_mem m
  · intro m
    obtain ⟨j, hj⟩ := List.mem_iff_getElem?.mp (srt_mem.mpr m)
    have z := pref_all (Nat.le_refl _) j t (List.getElem?_eq_some_iff.mp hj).1 hj
    exact z
/-! ## the parts told, as sets -/
theorem len_sub : ∀ {a b : List Tr}, a.Nodup → (∀ t, t ∈ a → t ∈ b) → a.length ≤ b.length
  | [], _, _, _ => Nat.zero_le _
  | t :: a, b, h, q => by
    classical
    have h1 := List.nodup_cons.mp h
    have m := q t (List.mem_cons_self ..)
    have ih := len_sub (a := a) (b := b.erase t) h1.2 fun u hu => (List.mem_erase_of_ne fun z => h1.1 (by rw [← z]; exact hu)).mpr (q u (List.mem_cons_of_mem _ hu))
    rw [List.length_erase_of_mem m] at ih
    have := List.length_pos_of_mem m
    rw [List.length_cons]; omega
theorem mem_partsL {l : List Tr} {t : Tr} : t ∈ Tr.partsL l ↔ ∃ u, u ∈ l ∧ t ∈ u.parts := by
  rw [partsL_map]
  constructor
  · intro m
    obtain ⟨x, hx, ht⟩ := List.mem_flatten.mp m
    obtain ⟨u, hu, rfl⟩ := List.mem_map.mp hx
    exact ⟨u, hu, ht⟩
  · rintro ⟨u, hu, ht⟩
    exact List.mem_flatten.mpr ⟨_, List.mem_map.mpr ⟨u, hu, rfl⟩, ht⟩
theorem mem_sides {rs : List (Tr × Tr)} {t : Tr} : t ∈ sides rs ↔ ∃ q, q ∈ rs ∧ (t = q.1 ∨ t = q.2) := by
  constructor
  · exact sides_mem
  · rintro ⟨q, hq, h⟩
    unfold sides
    refine List.mem_flatten.mpr ⟨_, List.mem_map.mpr ⟨q, hq, rfl⟩, ?_⟩
    rcases h with rfl | rfl
    · exact List.mem_cons_self ..
    · exact List.mem_cons_of_mem _ (List.mem_cons_self ..)
/-- how many parts rules tell -/
noncomputable def told (rs : List (Tr × Tr)) : List Tr := ord (Tr.partsL (sides rs))
theorem told_sub {a b : List (Tr × Tr)} (h : ∀ t, t ∈ sides a → t ∈ sides b) : (told a).length ≤ (told b).length :=
  len_sub (ord_nd _) fun t m => by
    obtain ⟨u, hu, ht⟩ := mem_partsL.mp (mem_ord.mp m)
    exact mem_ord.mpr (mem_partsL.mpr ⟨u, h u hu, ht⟩)
noncomputable def dueGo (rs : List (Tr × Tr)) : Nat → Nat → Option Nat
  | 0, _ => none
  | k + 1, i => if 24 < (told (rs.take (i + 1))).length then some i else dueGo rs k (i + 1)
/-- what is wrong with rules: the number told, if they are no lot -/
noncomputable def dueN (rs : List (Tr × Tr)) : Option Nat := if 8 < rs.length then some 0 else dueGo rs rs.length 0
theorem dueGo_none {rs : List (Tr × Tr)} (h : (told rs).length ≤ 24) : ∀ k i, dueGo rs k i = none
  | 0, _ => rfl
  | k + 1, i => by
    have z := told_sub (a := rs.take (i + 1)) (b := rs) fun t m => by
      obtain ⟨q, hq, e⟩ := mem_sides.mp m
      exact mem_sides.mpr ⟨q, List.mem_of_mem_take hq, e⟩
    rw [dueGo, if_neg (by omega)]
    exact dueGo_none h k (i + 1)
theorem due_none {rs : List (Tr × Tr)} (h1 : rs.length ≤ 8) (h2 : (told rs).length ≤ 24) : dueN rs = none := by
  unfold dueN
  rw [if_neg (by omega)]
  exact dueGo_none h2 _ _
theorem dueGo_last {rs : List (Tr × Tr)} : ∀ {k i}, i + k = rs.length → 0 < k → dueGo rs k i = none → (told rs).length ≤ 24
  | 0, _, _, h, _ => by cases h
  | k + 1, i, h, _, e => by
    rw [dueGo] at e
    by_cases c : 24 < (told (rs.take (i + 1))).length
    · rw [if_pos c] at e; cases e
    · rw [if_neg c] at e
      cases k with
      | zero => rw [List.take_of_length_le (by omega)] at c; omega
      | succ k => exact dueGo_last (by omega) (by omega) e
theorem none_due {rs : List (Tr × Tr)} (h : dueN rs = none) : rs.length ≤ 8 ∧ (told rs).length ≤ 24 := by
  unfold dueN at h
  by_cases c : 8 < rs.length
  · rw [if_pos c] at h; cases h
  · rw [if_neg c] at h
    refine ⟨by omega, ?_⟩
    cases rs with
    | nil =>
      have := ord_len (Tr.partsL (sides []))
      have e : (Tr.partsL (sides [])).length = 0 := rfl
      unfold told; omega
    | cons q rs => exact dueGo_last (by rw [Nat.zero_add]) (by rw [List.length_cons]; omega) h
theorem none_sub {a b : List (Tr × Tr)} (h : dueN b = none) (l : a.length ≤ b.length) (s : ∀ t, t ∈ sides a → t ∈ sides b) : dueN a = none := by
  obtain ⟨h1, h2⟩ := none_due h
  have := told_sub s
  exact due_none (by omega) (by omega)
/-- rules that are well made -/
structure Rw (rs : List (Tr × Tr)) : Prop where
  len : rs.length ≤ 40
  sd : ∀ q, q ∈ rs → Sd q.1 ∧ Sd q.2 ∧ q.1 ≠ q.2
  nd : rs.Nodup
theorem Rw.sub {a b : List (Tr × Tr)} (h : Rw b) (s : a.Sublist b) : Rw a := ⟨Nat.le_trans s.length_le h.len, fun q m => h.sd q (s.subset m), h.nd.sublist s⟩
theorem Rw.gd {rs : List (Tr × Tr)} (h : Rw rs) : ∀ q, q ∈ rs → Gd q.1 ∧ Gd q.2 := fun q m => ⟨(h.sd q m).1.gd, (h.sd q m).2.1.gd⟩
theorem Rw.sizes {rs : List (Tr × Tr)} (h : Rw rs) : Tr.sizes (sides rs) ≤ 480 := by
  have z : ∀ {l : List (Tr × Tr)}, (∀ q, q ∈ l → Sd q.1 ∧ Sd q.2 ∧ q.1 ≠ q.2) → Tr.sizes (sides l) ≤ 12 * l.length := by
    intro l
    induction l with
    | nil => intro _; exact Nat.le_refl _
    | cons q l ih =>
      intro h
      have := ih fun p m => h p (List.mem_cons_of_mem _ m)
      obtain ⟨a, b, _⟩ := h q (List.mem_cons_self ..)
      have a := a.size
      have b := b.size
      show (q.1.size + (q.2.size + Tr.sizes (sides l))) ≤ _
      rw [List.length_cons]; omega
  have := z h.sd
  have := h.len
  omega
section
variable {P : Program} {w : World} {K : Frag} {mg : Str → Option Value} {base : Heap}
def gInitX (N : Addr) : List PyData → (List (PyData × PyData) → Prop) → (Addr → Str → PyData → Prop) → Prop := fun ds Cf PX => ∃ rs, ds = [.list (rs.map rd)] ∧ Rw rs ∧
  (dueN rs = none → Cf [(.str "_rules", .list (rs.map rd)), (.str "_parts", .list (dl (told rs)))]) ∧ ∀ n, dueN rs = some n → PX N "number" (.int (n : Nat))
mutual
theorem tpl_d6 : ∀ t : Tr, tpl t.d = true
  | .node n cs => by
    show tplAll (.str n :: Tr.ds cs) = true
    rw [tplAll, tpls_d6 cs]; rfl
theorem tpls_d6 : ∀ cs : List Tr, tplAll (Tr.ds cs) = true
  | [] => by rw [Tr.ds, tplAll]
  | c :: cs => by rw [Tr.ds, tplAll, tpl_d6 c, tpls_d6 cs]; rfl
end
theorem tpl_rd (q : Tr × Tr) : tpl (rd q) = true := by
  show tplAll [q.1.d, q.2.d] = true
  rw [tplAll, tplAll, tplAll, tpl_d6, tpl_d6]; rfl
theorem ok_initY {A N f f_ru f_sd f_nm f_nd f_lo f_sz f_ev f_rk f_or f_po f_to fI : Addr} {fdt fdt_ru fdt_sd fdt_nm fdt_nd fdt_lo fdt_sz fdt_ev fdt_rk fdt_or fdt_po fdt_to : FuncData} (D : Fun K "__init__" "Lot.__init__" s_Lot___init__ f fdt) (B : Bi mg) (M : Mc mg) (T : Txt K mg A) (D_is_rule : Df K mg "is_rule" s_is_rule P_is_rule f_ru fdt_ru) (D_is_side : Df K mg "is_side" s_is_side P_is_side f_sd fdt_sd) (D_is_name : Df K mg "is_name" s_is_name P_is_name f_nm fdt_nm) (D_is_node : Df K mg "is_node" s_is_node P_is_node f_nd fdt_nd) (D_is_low_tree : Df K mg "is_low_tree" s_is_low_tree P_is_low_tree f_lo fdt_lo) (D_size : Df K mg "size" s_size P_size f_sz fdt_sz) (D_every_part : Df K mg "every_part" s_every_part P_every_part f_ev fdt_ev)
    (D_rank : Df K mg "rank" s_rank P_rank f_rk fdt_rk) (D_ordered : Df K mg "ordered" s_ordered P_ordered f_or fdt_or) (D_parts_of : Df K mg "parts_of" s_parts_of P_parts_of f_po fdt_po) (D_told_parts : Df K mg "told_parts" s_told_parts P_told_parts f_to fdt_to)
    (X_BadLot : XIX.XTxt P K mg "BadLot" "BadLot.__init__" "number" "number" N fI) (A_BadLot : ∀ u, XIX.ArgsTo K fI "number" ⟨[u], []⟩ u) : FnOk P w K mg base (L2.CX P w) 10 f fdt P_Lot___init__ (spIY K A (gInitX N)) := by
  have G_is_rule : FnOk P w K mg base CX0 9 _ _ _ _ := ok_rule D_is_rule B M D_is_side D_is_name D_is_node D_is_low_tree D_size D_every_part
  have G_told_parts : FnOk P w K mg base CX0 8 _ _ _ _ := ok_told D_told_parts B D_every_part D_size D_rank D_ordered D_parts_of
  refine D.okX sc_Lot___init__ (fun vs H Q E h => ?_) (fun cdv A' outer s H vs Q E hr h => ?_)
  · obtain ⟨p, dx, ws, F, ds, Cf, PX, rfl, _, _, _, r, ⟨rs, rfl, _⟩, _⟩ := h
    rw [List.length_cons, all_len r]; rfl
  have hr_is_rule := hr
  have hr_told_parts := hr.mono (show 8 ≤ 9 by decide)
  have hrX := hr.mono (show 2 ≤ 9 by decide)
  have hu65 := hu65Of hr
  obtain ⟨p, dx, ws, F, ds, Cf, PX, rfl, hp, hF, th, r, ⟨rs, rfl, hR, hc, hx⟩, q, qx⟩ := h
  refine ⟨_, (pss_cons (ps_if (PW.pt (pw_or (pt_not (pt_val (pe_callB call_isi rfl B.isinstance (by decide +kernel) (pa_cons (pv 1) (pa_cons (pe_bltn (v := .ty "list") rfl B.list (by decide +kernel) rfl) pa_nil))))) (pw_or1 (pt_cmpR op_gt (pe_callB call_len_seq rfl B.len PySem.boot_len (pa_cons (pv 1) pa_nil)) (pe_glob (v := .int 8) rfl M.MOST_RULES.choose_spec ⟨_, rfl⟩) (nomark _))))) (pss_one (ps_raiseX rfl X_BadLot A_BadLot hrX (by decide) (takes_of rfl rfl rfl rfl) (pa_cons pe_int pa_nil))) pss_nil)
      (pss_cons (ps_for (passes_of rfl) rfl (pi_enum rfl B.enumerate (pa_cons (pv 1) pa_nil)) (pg_tup rfl (pgs_cons (pg_name (i := 2) sc_Lot___init__.nd rfl (Or.inl rfl)) (pgs_cons (pg_name (i := 3) sc_Lot___init__.nd rfl (Or.inl rfl)) pgs_nil))) (pss_cons (ps_if (PW.pt (pw_or (pt_not (pt_val (pe_call G_is_rule hr_is_rule rfl D_is_rule.m D_is_rule.F.kp D_is_rule.b .nil pass0 (pa_cons (pv 3) pa_nil)))) (pw_or1 (pt_cmpR (op_inD hu65) (pv 3) (pe_slice sl_list (pv 1) po_none (po_some (pv 2))) (by rfl))))) (pss_one (ps_raiseX rfl X_BadLot A_BadLot hrX (by decide) (takes_of rfl rfl rfl rfl) (pa_cons (pv 2) pa_nil))) pss_nil)
      (pss_one (ps_if (pt_cmpR op_gt (pe_callB call_len_seq rfl B.len PySem.boot_len (pa_cons (pe_call G_told_parts hr_told_parts rfl D_told_parts.m D_told_parts.F.kp D_told_parts.b .nil pass0 (pa_cons (pe_slice sl_list (pv 1) po_none (po_some (pe_op op_add (pv 2) pe_int))) pa_nil)) pa_nil)) (pe_glob (v := .int 24) rfl M.MOST_TOLD_PARTS.choose_spec ⟨_, rfl⟩) (nomark _)) (pss_one (ps_raiseX rfl X_BadLot A_BadLot hrX (by decide) (takes_of rfl rfl rfl rfl) (pa_cons (pv 2) pa_nil))) pss_nil))))
      (pss_cons (ps_fld (pv 0) (pe_callTy call_list_of rfl B.list (by decide +kernel) (pa_cons (pv 1) pa_nil)) rfl)
      (pss_one (ps_fld (pv 0) (pe_call G_told_parts hr_told_parts rfl D_told_parts.m D_told_parts.F.kp D_told_parts.b .nil pass0 (pa_cons (pv 1) pa_nil)) rfl))))), ?_⟩
  have hgd := hR.gd
  have hl40 := hR.len
  obtain ⟨v1, ev1⟩ : ∃ v1, ws = [v1] := by
    cases r with
    | cons a b => cases b; exact ⟨_, rfl⟩
  subst ev1
  have rv1 : Dr K (off F H) v1 (.list (rs.map rd)) := by
    cases r with
    | cons a b => exact a
  have S : StOk K nofd F H (start N_Lot___init__ [.ref p, v1]) H [.raw (.ref p), .dat (.list (rs.map rd)), .no, .no] := by
    refine ⟨⟨fun a z => ?_, fun a z => z.elim, fun f z => z.elim, rfl, fun i o x e1 e2 => ?_⟩, fun a o _ z => z, th, fun a z => z.elim, fun p hp => (nomatch hp), List.nodup_nil⟩
    · rcases z with z | z
      · exact th a z
      · cases z
    · match i, e1, e2 with
      | 0, e1, e2 => cases (show some (V.ref p) = o from Option.some.inj e1); cases (show Sl.raw (.ref p) = x from Option.some.inj e2); rfl
      | 1, e1, e2 =>
        cases (show some v1 = o from Option.some.inj e1); cases (show Sl.dat _ = x from Option.some.inj e2)
        exact dmono (off_less fun a z => z.elim id fun z => nomatch z) rv1
      | 2, e1, e2 => cases (show (none : Option V) = o from Option.some.inj e1); cases (show Sl.no = x from Option.some.inj e2); exact True.intro
      | 3, e1, e2 => cases (show (none : Option V) = o from Option.some.inj e1); cases (show Sl.no = x from Option.some.inj e2); exact True.intro
      | i + 4, e1, e2 => exact absurd e2 (by simp)
  have xok : XOk K nofd F H (fun a b c _ => PX a b c) (fun cls d _ H' => E cls d H') := fun a b d v dv σ H' env px I e rv => qx a b d v dv H' px (fun c o _ z => I.old c o (fun z => z) z) e rv
  refine run_tailX (W := fun cls d _ H' => E cls d H') (PX := fun a b c _ => PX a b c) (R := fun e => e = [.raw (.ref p), .dat (.list (rs.map rd)), .no, .no] ∧ dueN rs = dueGo rs rs.length 0) ?_ S xok ?_
  · refine wpSX_if (wpT_or (wpT_not (wpT_B (wp_isi (wp_var (d := .list (rs.map rd)) rfl ⟨true, isB_ll, true, rfl, fun z => absurd z (by decide), fun _ => ?_⟩)))))
    refine wpT_test (wp_op (wp_cb (wpA_cons (wp_var (d := .list (rs.map rd)) rfl (wpA_nil (cad_lenL (wp_int (opd_ib ⟨_, rfl, fun z => ?_, fun z => ?_⟩))))))))
    · have z := of_decide_eq_true z
      rw [List.length_map] at z
      refine wpSX_raise (wp_int (hx 0 ?_))
      unfold dueN; rw [if_pos (by omega)]
    · have z := of_decide_eq_false z
      rw [List.length_map] at z
      refine wpSX_of (wpS_next ⟨rfl, ?_⟩)
      unfold dueN; rw [if_neg (by omega)]
  rintro σ1 H1 env1 ⟨rfl, hdue⟩ S1
  refine run_tailX (W := fun cls d _ H' => E cls d H') (PX := fun a b c _ => PX a b c) (R := fun e => dueN rs = none ∧ ∃ x y : Sl, e = [.raw (.ref p), .dat (.list (rs.map rd)), x, y] ∧ (∀ a b, x ≠ .own a b) ∧ ∀ a b, y ≠ .own a b) ?_ S1 xok ?_
  · refine wpSX_for (wpI_enum (wpA_cons (wp_var (d := .list (rs.map rd)) rfl (wpA_nil ⟨_, rfl, fun i env => dueN rs = dueGo rs (rs.length - i) i ∧ ∃ x y : Sl, env = [.raw (.ref p), .dat (.list (rs.map rd)), x, y] ∧ (∀ a b, x ≠ .own a b) ∧ ∀ a b, y ≠ .own a b, ⟨hdue, .no, .no, rfl, (fun a b z => nomatch z), fun a b z => nomatch z⟩, ?_, fun e z => ⟨?_, z.2⟩⟩))))
    rotate_left
    · have z := z.1
      rw [enumD_len, List.length_map, Nat.sub_self] at z
      exact z
    rintro i d env e ⟨hd, x, y, rfl, hx', hy⟩
    have hi : i < rs.length := by
      have z := (List.getElem?_eq_some_iff.mp e).1
      rw [enumD_len, List.length_map] at z
      exact z
    obtain ⟨ru, hru⟩ : ∃ ru, rs[i]? = some ru := ⟨_, List.getElem?_eq_getElem hi⟩
    rw [enumD_get (d := rd ru) (by rw [List.getElem?_map, hru]; rfl)] at e
    have e := (Option.some.inj e).symm
    subst e
    have hm := List.mem_of_getElem? hru
    obtain ⟨s1, s2, s3⟩ := hR.sd ru hm
    refine ⟨_, gD_tup (gsD_cons gD_name (gsD_cons gD_name gsD_nil)) rfl, ?_⟩
    have hcut : cut (rs.map rd) none (some (i : Int)) = (rs.take i).map rd := by rw [cut_take, List.map_take]
    have hcut1 : cut (rs.map rd) none (some ((i : Int) + 1)) = (rs.take (i + 1)).map rd := (cut_take (rs.map rd) (i + 1)).trans List.map_take.symm
    refine wpSX_seqS (wpS_if (wpT_or (wpT_not (wpT_B (wp_call (wpA_cons (wp_var (d := rd ru) rfl (wpA_nil ⟨ru, rfl, s1, s2, s3, true, rfl, fun z => absurd z (by decide), fun _ => ?_⟩))))))))
    refine wpT_test (wp_op (wp_var (d := rd ru) rfl (wpE_new (wpN_sl (wp_var (d := .list (rs.map rd)) rfl (wpO_none (wpO_some (wp_var (d := .int (i : Nat)) rfl ⟨_, rfl, _, rfl, ?_⟩))))))))
    rw [hcut]
    refine opd_inD (rd_cmp s1.gd s2.gd) (rds_cmp fun q m => hgd q (List.mem_of_mem_take m)) ⟨_, rfl, fun z => ?_, fun _ => ?_⟩
    · obtain ⟨d, hd, he⟩ := List.any_eq_true.mp z
      obtain ⟨q2, hq2, rfl⟩ := List.mem_map.mp hd
      have e := eqv_rd q2 ru he
      subst e
      obtain ⟨j, hj⟩ := List.mem_iff_getElem?.mp hq2
      have hj2 : j < i := by
        have z := (List.getElem?_eq_some_iff.mp hj).1
        rw [List.length_take] at z
        omega
      rw [List.getElem?_take_of_lt hj2] at hj
      exact absurd ((List.getElem?_inj (by omega) hR.nd).mp (hj.trans hru.symm)) (by omega)
    refine wpS_next (wpSX_if (wpT_test (wp_op (wp_cb (wpA_cons (wpE_new (wpN_call (wpA_cons (wpE_new (wpN_sl (wp_var (d := .list (rs.map rd)) rfl (wpO_none (wpO_some (wp_op (wp_var (d := .int (i : Nat)) rfl (wp_int (opd_ii ⟨_, rfl, _, rfl, ?_⟩)))))))))))))))))
    rw [hcut1]
    have ht := (hR.sub (List.take_sublist (i + 1) rs)).sizes
    have hstep : rs.length - i = (rs.length - (i + 1)) + 1 := by omega
    refine wpA_nil ⟨rs.take (i + 1), rfl, fun q m => hgd q (List.mem_of_mem_take m), by omega, wpA_nil (cad_lenL (wp_int (opd_ib ⟨_, rfl, fun z => ?_, fun z => ?_⟩)))⟩
    · have z := of_decide_eq_true z
      rw [dl_len] at z
      refine wpSX_raise (wp_var (d := .int (i : Nat)) rfl (hx i ?_))
      rw [hd, hstep, dueGo, if_pos (by unfold told; omega)]
    · have z := of_decide_eq_false z
      rw [dl_len] at z
      refine wpSX_of (wpS_next ⟨?_, _, _, rfl, (fun a b z => nomatch z), fun a b z => nomatch z⟩)
      rw [hd, hstep, dueGo, if_neg (by unfold told; omega)]
  rintro σ2 H2 env2 ⟨hnone, x, y, rfl, hx', hy⟩ S2
  have hc := hc hnone
  have hp2 : H2 p = some (.ins A dx []) := S2.old p _ (fun z => z) hp
  have hown : ∀ (i : Nat) (q : Addr) (ds : List PyData), ([.raw (.ref p), .dat (.list (rs.map rd)), x, y] : List Sl)[i]? = some (.own q ds) → q ≠ p := fun i q ds e => by
    match i, e with
    | 0, e => cases (show Sl.raw _ = Sl.own _ _ from Option.some.inj e)
    | 1, e => cases (show Sl.dat _ = Sl.own _ _ from Option.some.inj e)
    | 2, e => exact absurd (show x = Sl.own _ _ from Option.some.inj e) (hx' _ _)
    | 3, e => exact absurd (show y = Sl.own _ _ from Option.some.inj e) (hy _ _)
    | i + 4, e => exact absurd e (by simp)
  have hsz := hR.sizes
  refine fld_setF (A := A) (fs := []) (CL := fun ds => ds = rs.map rd) S2.ev rfl (.inl hF) hown hp2 T.cl T.nR (by show 0 < 1000; decide) (wpN_cb (wpA_cons (wp_var (d := .list (rs.map rd)) rfl (wpA_nil (can_listL rfl))))) fun H3 q1 vs1 ds3 e3 I3 hq1 hp3 hv1 r1 k3 => ?_
  subst e3
  refine fld_setF (A := A) (fs := putF "_rules" (.ref q1) []) (CL := fun ds => ds = dl (told rs)) I3 rfl (.inl hF) hown hp3 T.cl T.nP (by show 1 < 1000; decide) (wpN_call (wpA_cons (wp_var (d := .list (rs.map rd)) rfl (wpA_nil ⟨rs, rfl, hgd, by omega, rfl⟩)))) fun H4 q2 vs2 ds4 e4 I4 hq2 hp4 hv2 r2 k4 => ?_
  subst e4
  have e5 : putF "_parts" (.ref q2) (putF "_rules" (.ref q1) []) = ([("_rules", .ref q1), ("_parts", .ref q2)] : List (Str × V)) := by
    show (if ("_rules" : Str) = "_parts" then _ else (("_rules" : Str), V.ref q1) :: [(("_parts" : Str), V.ref q2)]) = _
    rw [if_neg (by decide +kernel)]
  rw [e5] at hp4
  have keep2 : ∀ a o, H a = some o → H2 a = some o := fun a o e => S2.old a o (fun z => z) e
  have nq : ∀ {a : Addr}, H2 a = none → H a = none := fun {a} z => by
    cases e : H a with
    | none => rfl
    | some o => rw [keep2 a o e] at z; cases z
  have n1 : q1 ≠ p := fun z => by rw [z, hp2] at hq1; cases hq1
  have n2 : q2 ≠ p := fun z => by rw [z, hp3] at hq2; cases hq2
  have hq2' : H2 q2 = none := by
    cases e : H2 q2 with
    | none => rfl
    | some o => rw [k3 q2 o n2 e] at hq2; cases hq2
  have old4 : ∀ a o, a ≠ p → H a = some o → H4 a = some o := fun a o n e => k4 a o n (k3 a o n (keep2 a o e))
  have not1 : ∀ {a : Addr}, H2 a = none → ¬ (F a ∨ Lsts H a) := fun {a} z w => by
    rcases w with w | ⟨xs, w⟩
    · exact th a w (nq z)
    · rw [nq z] at w; cases w
  have hide : ∀ {ds : List PyData} {vs : List V}, tplAll ds = true → DrAll K (off (fun a => F a ∨ a ∈ ownd [.raw (.ref p), .dat (.list (rs.map rd)), x, y]) H4) vs ds → DrAll K (off (fun a => F a ∨ Lsts H a) H4) vs ds := fun ht r => dr_hideAll (fun a z1 z2 => by
    rcases z1 with z1 | ⟨xs, z1⟩
    · exact (z2 (.inl z1)).elim
    · exact ⟨xs, old4 a _ (fun w => by rw [w, hp] at z1; cases z1) z1⟩) _ ht r
  have ex34 : Ex (off (fun a => F a ∨ a ∈ ownd [.raw (.ref p), .dat (.list (rs.map rd)), x, y]) H3) (off (fun a => F a ∨ a ∈ ownd [.raw (.ref p), .dat (.list (rs.map rd)), x, y]) H4) := fun a o e => by
    obtain ⟨n, e⟩ := off_some e
    rw [off_ne (S := fun a => F a ∨ a ∈ ownd [.raw (.ref p), .dat (.list (rs.map rd)), x, y]) n]
    exact k4 a o (fun w => n (.inl (by rw [w]; exact hF))) e
  refine q H4 _ _ old4 hp4 (.cons (.lst (xs := vs1) ?_ (hide ?_ (dmonoAll ex34 r1))) (.cons (.lst (xs := vs2) ?_ (hide ?_ r2)) .nil)) hc
  · rw [off_ne (S := fun a => F a ∨ Lsts H a) (not1 hq1)]
    exact k4 q1 _ n1 hv1
  · exact tplAll_of fun d m => by
      obtain ⟨q, _, rfl⟩ := List.mem_map.mp m
      exact tpl_rd q
  · rw [off_ne (S := fun a => F a ∨ Lsts H a) (not1 hq2')]
    exact hv2
  · exact tplAll_of fun d m => by
      obtain ⟨t, _, rfl⟩ := List.mem_map.mp m
      exact tpl_d6 t
end
end Gr

namespace Gr
open PySem L2 Evl Dn
abbrev N_Lot_parts : List Str := ["self"]
abbrev P_Lot_parts : List Str := ["self"]
theorem sc_Lot_parts : FnScope N_Lot_parts P_Lot_parts (defScope s_Lot_parts) := ⟨rfl, rfl, rfl, by decide +kernel, rfl, by decide +kernel, by decide +kernel⟩
abbrev N_Lot___len__ : List Str := ["self"]
abbrev P_Lot___len__ : List Str := ["self"]
theorem sc_Lot___len__ : FnScope N_Lot___len__ P_Lot___len__ (defScope s_Lot___len__) := ⟨rfl, rfl, rfl, by decide +kernel, rfl, by decide +kernel, by decide +kernel⟩
abbrev N_Lot___contains__ : List Str := ["self", "value"]
abbrev P_Lot___contains__ : List Str := ["self", "value"]
theorem sc_Lot___contains__ : FnScope N_Lot___contains__ P_Lot___contains__ (defScope s_Lot___contains__) := ⟨rfl, rfl, rfl, by decide +kernel, rfl, by decide +kernel, by decide +kernel⟩
abbrev N_Lot___eq__ : List Str := ["self", "other"]
abbrev P_Lot___eq__ : List Str := ["self", "other"]
theorem sc_Lot___eq__ : FnScope N_Lot___eq__ P_Lot___eq__ (defScope s_Lot___eq__) := ⟨rfl, rfl, rfl, by decide +kernel, rfl, by decide +kernel, by decide +kernel⟩
abbrev N_Lot___add__ : List Str := ["self", "other", "rule"]
abbrev P_Lot___add__ : List Str := ["self", "other"]
theorem sc_Lot___add__ : FnScope N_Lot___add__ P_Lot___add__ (defScope s_Lot___add__) := ⟨rfl, rfl, rfl, by decide +kernel, rfl, by decide +kernel, by decide +kernel⟩
abbrev N_Lot_turned : List Str := ["self"]
abbrev P_Lot_turned : List Str := ["self"]
theorem sc_Lot_turned : FnScope N_Lot_turned P_Lot_turned (defScope s_Lot_turned) := ⟨rfl, rfl, rfl, by decide +kernel, rfl, by decide +kernel, by decide +kernel⟩
abbrev N_Lot_without : List Str := ["self", "number"]
abbrev P_Lot_without : List Str := ["self", "number"]
theorem sc_Lot_without : FnScope N_Lot_without P_Lot_without (defScope s_Lot_without) := ⟨rfl, rfl, rfl, by decide +kernel, rfl, by decide +kernel, by decide +kernel⟩
section
variable {P : Program} {w : World} {K : Frag} {mg : Str → Option Value} {base : Heap}
local macro_rules | `(tactic| decreasing_trivial) => `(tactic| with_reducible first
  | refine wp_var (d := ?d) ?e ?_; (case e => with_unfolding_all exact rfl)
  | refine wp_int ?_
  | refine wp_str ?_
  | refine wp_bl ?_
  | refine wp_non ?_
  | refine wpA_cons ?_
  | refine wpA_nil ?_
  | refine wp_cb ?_
  | refine wp_op ?_
  | refine wp_tup ?_
  | refine wp_call ?_
  | refine wp_un ?_
  | refine opd_ii ?_)
mutual
theorem plain_kit : ∀ d : PyData, Dn.plain d = true → d.plain = true ∧ rdb d = true
  | .list ds, h => plains_kit ds h
  | .tuple ds, h => plains_kit ds h
  | .dict _, h => by cases h
  | .none, _ => ⟨rfl, rfl⟩
  | .bool _, _ => ⟨rfl, rfl⟩
  | .int _, _ => ⟨rfl, rfl⟩
  | .str _, _ => ⟨rfl, rfl⟩
theorem plains_kit : ∀ ds : List PyData, Dn.plainAll ds = true → PyData.plainAll ds = true ∧ rdbAll ds = true
  | [], _ => ⟨rfl, rfl⟩
  | d :: ds, h => by
    rw [Dn.plainAll, Bool.and_eq_true] at h
    obtain ⟨a, b⟩ := plain_kit d h.1
    obtain ⟨a2, b2⟩ := plains_kit ds h.2
    exact ⟨by rw [PyData.plainAll, a, a2]; rfl, by rw [rdbAll, b, b2]; rfl⟩
end
theorem fld_rules {rs : List (Tr × Tr)} : fldOf [(.str "_rules", .list (rs.map rd)), (.str "_parts", .list (dl (ord (Tr.partsL (sides rs)))))] "_rules" = some (.list (rs.map rd)) := by rw [fldOf, if_pos rfl]
theorem fld_parts {rs : List (Tr × Tr)} : fldOf [(.str "_rules", .list (rs.map rd)), (.str "_parts", .list (dl (ord (Tr.partsL (sides rs)))))] "_parts" = some (.list (dl (told rs))) := by
  rw [fldOf, if_neg (by decide +kernel), fldOf, if_pos rfl]; rfl
theorem lot_no {m : Str} (h1 : ("_rules" : Str) ≠ m) (h2 : ("_parts" : Str) ≠ m) {rs : List (Tr × Tr)} : ∀ k d, (k, d) ∈ ([(.str "_rules", .list (rs.map rd)), (.str "_parts", .list (dl (ord (Tr.partsL (sides rs)))))] : List (PyData × PyData)) → k ≠ .str m := fun k d q z => by
  subst z
  simp only [List.mem_cons, List.not_mem_nil, or_false, Prod.mk.injEq] at q
  rcases q with ⟨q, _⟩ | ⟨q, _⟩
  · exact h1 (PyData.str.inj q).symm
  · exact h2 (PyData.str.inj q).symm
theorem wp_rules {A : Addr} (T : Txt K mg A) {fd : Ad} {env : List Sl} {i : Nat} {C : PyData → Prop} {rs : List (Tr × Tr)} (e : env[i]? = some (.dat (lotD A rs))) (c : C (.list (rs.map rd))) : wpE K fd (tFld K (tVar i) "_rules") env C :=
  wp_fld T.cl T.nR (wp_var e ⟨_, _, rfl, fld_rules, c⟩)
theorem eqv_rd_self (q : Tr × Tr) : PyData.eqv (rd q) (rd q) = true := by
  show PyData.eqv (.tuple [q.1.d, q.2.d]) (.tuple [q.1.d, q.2.d]) = true
  rw [PyData.eqv, PyData.eqvAll, PyData.eqvAll, PyData.eqvAll, eqv_self, eqv_self]; rfl
theorem eqvAll_rds : ∀ a b : List (Tr × Tr), PyData.eqvAll (a.map rd) (b.map rd) = true ↔ a = b
  | [], [] => by simp [PyData.eqvAll]
  | [], q :: b => by simp [PyData.eqvAll]
  | q :: a, [] => by simp [PyData.eqvAll]
  | q :: a, r :: b => by
    rw [List.map_cons, List.map_cons, PyData.eqvAll, Bool.and_eq_true, eqvAll_rds a b]
    constructor
    · rintro ⟨h1, rfl⟩; rw [eqv_rd q r h1]
    · intro h; cases h; exact ⟨eqv_rd_self q, rfl⟩
open Classical in
theorem eqv_rules (a b : List (Tr × Tr)) : PyData.eqv (.list (a.map rd)) (.list (b.map rd)) = decide (a = b) := by
  rw [PyData.eqv, Bool.eq_iff_iff, eqvAll_rds, decide_eq_true_iff]
open Classical in
theorem any_rd (rs : List (Tr × Tr)) (q : Tr × Tr) : ((rs.map rd).any fun z => PyData.eqv z (rd q)) = decide (q ∈ rs) := by
  rw [Bool.eq_iff_iff, List.any_eq_true, decide_eq_true_iff]
  constructor
  · rintro ⟨d, m, e⟩
    obtain ⟨r, hr, rfl⟩ := List.mem_map.mp m
    exact eqv_rd r q e ▸ hr
  · intro m; exact ⟨rd q, List.mem_map.mpr ⟨q, m, rfl⟩, eqv_rd_self q⟩
theorem Rw.cmp {rs : List (Tr × Tr)} (h : Rw rs) : Dn.cmp (PyData.list (rs.map rd)) = true := rds_cmp h.gd
/-! parts, len, in, == -/
def gLParts (A : Addr) : List PyData → (List PyData → Prop) → Prop := fun ds C => ∃ rs, ds = [lotD A rs] ∧ C (dl (told rs))
theorem ok_Lparts {A f : Addr} {fdt : FuncData} (F : Fun K "parts" "Lot.parts" s_Lot_parts f fdt) (B : Bi mg) (T : Txt K mg A) : FnOk P w K mg base CX0 1 f fdt P_Lot_parts (spN K (gLParts A)) := by
  refine okN F sc_Lot_parts (fun ds C h => by obtain ⟨rs, rfl, _⟩ := h; rfl) (fun cdv A' outer s H E hr => ?_)
  refine ⟨_, (pss_one (ps_ret (pe_callTy call_list_of rfl B.list (by decide +kernel) (pa_cons (pe_fld (pv 0) rfl) pa_nil)))), fun ds C h => ?_⟩
  obtain ⟨rs, rfl, hc⟩ := h
  exact wpS_retNew (wpN_cb (wpA_cons (wp_fld T.cl T.nP (wp_var (d := lotD A rs) rfl ⟨_, _, rfl, fld_parts, wpA_nil (can_listL hc)⟩))))
def gLLen (A : Addr) : List PyData → (PyData → Prop) → Prop := fun ds C => ∃ rs : List (Tr × Tr), ds = [lotD A rs] ∧ C (.int (rs.length : Nat))
theorem ok_Llen {A f : Addr} {fdt : FuncData} (F : Fun K "__len__" "Lot.__len__" s_Lot___len__ f fdt) (B : Bi mg) (T : Txt K mg A) : FnOk P w K mg base CX0 1 f fdt P_Lot___len__ (spP K (gLLen A)) := by
  refine okP F sc_Lot___len__ (fun ds C h => by obtain ⟨rs, rfl, _⟩ := h; rfl) (fun cdv A' outer s H E hr => ?_)
  refine ⟨_, (pss_one (ps_ret (pe_callB call_len_seq rfl B.len PySem.boot_len (pa_cons (pe_fld (pv 0) rfl) pa_nil)))), fun ds C h => ?_⟩
  obtain ⟨rs, rfl, hc⟩ := h
  refine wpS_ret (wp_cb (wpA_cons (wp_rules T (rs := rs) rfl (wpA_nil (cad_lenL ?_)))))
  rw [List.length_map]; exact hc
/-- what is asked of a lot: is it in -/
def inB (rs : List (Tr × Tr)) (v : PyData) : Bool := (rs.map rd).any fun z => PyData.eqv z v
theorem rds_in {rs : List (Tr × Tr)} {v : PyData} (h : Rw rs) : rdbAll (rs.map rd) = true ∧ ∀ e, e ∈ rs.map rd → (e.plain = true ∨ v.plain = true) ∧ e.depth ≤ 60 := by
  have z : ∀ q, q ∈ rs → (rd q).plain = true ∧ rdb (rd q) = true ∧ (rd q).depth ≤ 60 := fun q m => by
    obtain ⟨g1, g2⟩ := h.gd q m
    have t := rd_three g1 g2
    have k := plain_kit _ t.1
    exact ⟨k.1, k.2, t.2.2⟩
  refine ⟨?_, fun e m => ?_⟩
  · clear h
    induction rs with
    | nil => rfl
    | cons q rs ih =>
      rw [List.map_cons, rdbAll, (z q (List.mem_cons_self ..)).2.1, ih fun p m => z p (List.mem_cons_of_mem _ m)]; rfl
  · obtain ⟨q, hq, rfl⟩ := List.mem_map.mp m
    exact ⟨.inl (z q hq).1, (z q hq).2.2⟩
def gLIn (A : Addr) : List PyData → (PyData → Prop) → Prop := fun ds C => ∃ rs v, ds = [lotD A rs, v] ∧ Rw rs ∧ rdb v = true ∧ v.depth ≤ 60 ∧ C (.bool (inB rs v))
theorem ok_Lin {A f : Addr} {fdt : FuncData} (F : Fun K "__contains__" "Lot.__contains__" s_Lot___contains__ f fdt) (B : Bi mg) (T : Txt K mg A) : FnOk P w K mg base CX0 2 f fdt P_Lot___contains__ (spP K (gLIn A)) := by
  refine okP F sc_Lot___contains__ (fun ds C h => by obtain ⟨rs, v, rfl, _⟩ := h; rfl) (fun cdv A' outer s H E hr => ?_)
  have hu65 := hu65Of hr
  refine ⟨_, (pss_one (ps_ret (pe_cmpR (op_inH hu65) (pv 1) (pe_fld (pv 0) rfl) (by rfl)))), fun ds C h => ?_⟩
  obtain ⟨rs, v, rfl, hR, h1, h2, hc⟩ := h
  obtain ⟨z1, z2⟩ := rds_in (v := v) hR
  exact wpS_ret (wp_op (wp_var (d := v) rfl (wp_rules T (rs := rs) rfl (opd_inH h1 z1 h2 z2 hc))))
open Classical in
def gLEq (A : Addr) : List PyData → (PyData → Prop) → Prop := fun ds C => ∃ rs v, ds = [lotD A rs, v] ∧ Rw rs ∧ Beside A v ∧ ((∃ rs2, v = lotD A rs2 ∧ Rw rs2 ∧ C (.bool (decide (rs = rs2)))) ∨ ((∃ n, tyName v = some n) ∧ C (.bool false)))
theorem ty_ins {A : Addr} {kvs : List (PyData × PyData)} : tyName (insD A kvs) = none := rfl
theorem ok_Leq {A f : Addr} {fdt : FuncData} (F : Fun K "__eq__" "Lot.__eq__" s_Lot___eq__ f fdt) (B : Bi mg) (T : Txt K mg A) (O_Lot : Ops K A) : FnOk P w K mg base CX0 2 f fdt P_Lot___eq__ (spP K (gLEq A)) := by
  have mg_Lot := T.mg
  refine okP F sc_Lot___eq__ (fun ds C h => by obtain ⟨rs, v, rfl, _⟩ := h; rfl) (fun cdv A' outer s H E hr => ?_)
  have hu64 := hr.units
  refine ⟨_, (pss_one (ps_ret (pe_and (pe_callB call_isi rfl B.isinstance (by decide +kernel) (pa_cons (pv 1) (pa_cons (pe_glob rfl mg_Lot (show RelV (V.ref _) (Value.ref _) from rfl)) pa_nil))) (pe_one (pe_cmpR (op_eqD hu64) (pe_fld (pv 0) rfl) (pe_fld (pv 1) rfl) (nomark _)))))), fun ds C h => ?_⟩
  obtain ⟨rs, v, rfl, hR, hb, h⟩ := h
  refine wpS_ret (wp_andV (wp_isiO T.cl O_Lot (wp_var (d := v) rfl ⟨hb, ?_, ?_⟩)))
  · rintro ⟨kvs, rfl⟩
    rcases h with ⟨rs2, e, hR2, hc⟩ | ⟨⟨n, e⟩, _⟩
    · rw [e]
      refine ⟨true, rfl, fun _ => wp_op (wp_rules T (rs := rs) rfl (wp_rules T (rs := rs2) ?_ (opd_eqD hR.cmp hR2.cmp ?_))), fun z => nomatch z⟩
      · rw [← e]; rfl
      · rw [eqv_rules]; exact hc
    · cases e
  · rintro ⟨n, e⟩
    rcases h with ⟨rs2, rfl, _⟩ | ⟨_, hc⟩
    · cases e
    · exact ⟨false, rfl, (fun z => (nomatch z)), fun _ => hc⟩
/-! +, turned, without -/
open Classical in
noncomputable def catR (rs rs2 : List (Tr × Tr)) : List (Tr × Tr) := rs ++ rs2.filter fun q => !decide (q ∈ rs)
theorem Rw.cat {a b : List (Tr × Tr)} (h : Rw a) (k : Rw b) (l : a.length + b.length ≤ 40) : Rw (catR a b) := by
  classical
  refine ⟨?_, fun q m => ?_, ?_⟩
  · unfold catR
    rw [List.length_append]
    have := List.length_filter_le (fun q => !decide (q ∈ a)) b
    omega
  · rcases List.mem_append.mp m with m | m
    · exact h.sd q m
    · exact k.sd q (List.mem_filter.mp m).1
  · refine List.nodup_append.mpr ⟨h.nd, k.nd.sublist List.filter_sublist, fun x hx y hy e => ?_⟩
    subst e
    have z := (List.mem_filter.mp hy).2
    rw [decide_eq_true hx] at z
    cases z
def gLAdd (A N : Addr) : List PyData → (PyData → Prop) → (Addr → Str → PyData → Prop) → Prop := fun ds C X => ∃ a b, ds = [lotD A a, lotD A b] ∧ Rw a ∧ Rw b ∧ a.length + b.length ≤ 40 ∧ (dueN (catR a b) = none → C (lotD A (catR a b))) ∧ ∀ n, dueN (catR a b) = some n → X N "number" (.int (n : Nat))
theorem ok_Ladd {A N f f_in fI : Addr} {fdt fdt_in : FuncData} (F : Fun K "__add__" "Lot.__add__" s_Lot___add__ f fdt) (B : Bi mg) (T : Txt K mg A) (O_Lot : Ops K A) (M_Lot : Mk K A f_in) (G_Lot___init__ : FnOk P w K mg base (L2.CX P w) 10 f_in fdt_in P_Lot___init__ (spIX K A (gInitX N))) (b_Lot___init__ : L2.Binds K fdt_in P_Lot___init__ []) : FnOk P w K mg base (L2.CX P w) 12 f fdt P_Lot___add__ (spX K (gLAdd A N)) := by
  have mg_Lot := T.mg
  refine okX F sc_Lot___add__ (fun ds C X h => by obtain ⟨a, b, rfl, _⟩ := h; rfl) (fun cdv A' outer s H E hr => ?_)
  have hr_Lot___init__ := hr
  have hu65 := hu65Of hr
  refine ⟨_, (pss_cons (ps_if (pt_not (pt_val (pe_callB call_isi rfl B.isinstance (by decide +kernel) (pa_cons (pv 1) (pa_cons (pe_glob rfl mg_Lot (show RelV (V.ref _) (Value.ref _) from rfl)) pa_nil))))) (pss_one ps_dead) pss_nil)
      (pss_one (ps_ret (by exact (pe_makeS M_Lot G_Lot___init__ hr_Lot___init__ rfl mg_Lot b_Lot___init__ (fun σ => passAt (takes_of rfl rfl rfl rfl) σ) (pa_cons (pe_op op_cat (pe_fld (pv 0) rfl) (pe_lc rfl sc_Lot___add__.nd (pi_list (pe_fld (pv 1) rfl)) (blkOk_by (own := [("rule", 2)]) (N := N_Lot___add__) (sc := defScope s_Lot___add__) (by decide +kernel)) (fun _ _ _ _ _ => (pg_name (i := 2) sc_Lot___add__.nd rfl (Or.inl rfl))) (fun _ _ _ _ _ => (pts_one (pt_cmpR (show OpR _ _ (rNotInD K) from (op_notInD hu65)) (pv 2) (show PE _ _ (tFld K _ _) from pe_fld (pv 0) rfl) (by rfl)))) (fun _ _ _ _ _ => (pv 2)))) pa_nil)))))), fun ds C X h => ?_⟩
  obtain ⟨a, b, rfl, ha, hb, hl, hc, hx⟩ := h
  refine wpSX_seqS (wpS_if (wpT_not (wpT_B (wp_isiO T.cl O_Lot (wp_var (d := lotD A b) rfl ⟨.own _, fun _ => ⟨true, rfl, (fun z => (nomatch z)), fun _ => wpS_next ?_⟩, fun ⟨n, e⟩ => (nomatch e)⟩)))))
  have haL := ha.len
  have hbL := hb.len
  refine wpSX_ret (wpEX_make (wpA_cons (wpE_new (wpN_op (wp_rules T (rs := a) rfl (wpE_new (wpN_filt (α := Tr × Tr) (wpI_list (wp_rules T (rs := b) rfl ⟨_, rfl, b, (fun q => !inB a (rd q)), rd, rd, rfl, by omega, fun q m => ⟨_, gD_name, by simp, ?_⟩, ?_⟩)))))))))
  · refine wpT_test (wp_op (wp_var (d := rd q) rfl (wp_rules T (rs := a) rfl (opd_ninD (rd_cmp (hb.gd q m).1 (hb.gd q m).2) ha.cmp ⟨_, rfl, rfl, fun _ => wp_var (d := rd q) rfl rfl⟩))))
  · have e : (a.map rd ++ (b.filter fun q => !inB a (rd q)).map rd) = (catR a b).map rd := by
      unfold catR
      rw [List.map_append]
      congr 2
      congr 1
      funext q
      unfold inB
      rw [any_rd]
    have hz := List.length_filter_le (fun q => !inB a (rd q)) b
    refine opn_cat (by rw [List.length_map, List.length_map]; omega) (wpA_nil ?_)
    rw [e]
    exact ⟨catR a b, rfl, ha.cat hb hl, hc, hx⟩
def swp (rs : List (Tr × Tr)) : List (Tr × Tr) := rs.map fun q => (q.2, q.1)
theorem swp_sides {rs : List (Tr × Tr)} : ∀ t, t ∈ sides (swp rs) → t ∈ sides rs := fun t m => by
  obtain ⟨q, hq, e⟩ := mem_sides.mp m
  obtain ⟨p, hp, rfl⟩ := List.mem_map.mp hq
  exact mem_sides.mpr ⟨p, hp, e.elim .inr .inl⟩
theorem Rw.swp {rs : List (Tr × Tr)} (h : Rw rs) : Rw (swp rs) := by
  refine ⟨by unfold Gr.swp; rw [List.length_map]; exact h.len, fun q m => ?_, ?_⟩
  · obtain ⟨p, hp, rfl⟩ := List.mem_map.mp m
    obtain ⟨a, b, c⟩ := h.sd p hp
    exact ⟨b, a, fun e => c e.symm⟩
  · exact List.pairwise_map.mpr (h.nd.imp fun n e => n (Prod.ext (congrArg (·.2) e) (congrArg (·.1) e)))
theorem none_swp {rs : List (Tr × Tr)} (h : dueN rs = none) : dueN (swp rs) = none := none_sub h (by unfold swp; rw [List.length_map]; exact Nat.le_refl _) swp_sides
def gLTurn (A : Addr) : List PyData → (PyData → Prop) → Prop := fun ds C => ∃ a, ds = [lotD A a] ∧ Rw a ∧ dueN a = none ∧ C (lotD A (swp a))
def del (rs : List (Tr × Tr)) (k : Nat) : List (Tr × Tr) := rs.take k ++ rs.drop (k + 1)
theorem del_sub (rs : List (Tr × Tr)) (k : Nat) : (del rs k).Sublist rs := by
  have := (List.Sublist.refl (rs.take k)).append (List.drop_sublist 1 (rs.drop k))
  rw [List.take_append_drop, List.drop_drop] at this
  exact this
theorem none_del {rs : List (Tr × Tr)} (h : dueN rs = none) (k : Nat) : dueN (del rs k) = none := none_sub h (del_sub rs k).length_le fun t m => by
  obtain ⟨q, hq, e⟩ := mem_sides.mp m
  exact mem_sides.mpr ⟨q, (del_sub rs k).subset hq, e⟩
theorem cut_drop {α : Type} (l : List α) (k : Nat) : cut l (some (k : Int)) none = l.drop k := by
  unfold cut
  have e1 : HT.sIx l.length 0 (some (k : Int)) = min k l.length := HT.sIx_nat _ _ k
  have e3 : HT.sIx l.length l.length none = l.length := rfl
  rw [e1, e3]
  rcases Nat.le_total k l.length with h | h
  · rw [Nat.min_eq_left h, List.take_of_length_le]
    rw [List.length_drop]; exact Nat.le_refl _
  · rw [Nat.min_eq_right h, List.drop_of_length_le (Nat.le_refl _), List.drop_of_length_le h, List.take_nil]
def gLWith (A R : Addr) : List PyData → (PyData → Prop) → (Addr → Str → PyData → Prop) → Prop := fun ds C X => ∃ a v, ds = [lotD A a, v] ∧ Rw a ∧ dueN a = none ∧ kn v = true ∧ (∀ k : Nat, v = .int (k : Nat) → k < a.length → C (lotD A (del a k))) ∧ (numB v (a.length : Nat) = false → X R "number" v)
end
end Gr

namespace Gr
open PySem L2 Evl Dn
def lvB : Nat → PyData → Bool
  | 0, _ => false
  | k + 1, d => nodeB d && (chl d).all (lvB k)
theorem name_ok (n : Str) : nameB (.str n) = nOk n := rfl
theorem lays_all : ∀ cs : List Tr, Tr.lays cs = cs.all Tr.lay
  | [] => rfl
  | c :: cs => by rw [Tr.lays, lays_all cs]; rfl
theorem lv_tree : ∀ (k : Nat) (d : PyData), lvB k d = true → ∃ t : Tr, d = t.d ∧ t.lay = true ∧ t.lev ≤ k
  | 0, _, h => by cases h
  | k + 1, d, h => by
    rw [lvB, Bool.and_eq_true] at h
    obtain ⟨h1, h2⟩ := h
    have key : ∀ cs : List PyData, cs.all (lvB k) = true → ∃ ts : List Tr, cs = dl ts ∧ Tr.lays ts = true ∧ Tr.levs ts ≤ k := by
      intro cs
      induction cs with
      | nil => intro _; exact ⟨[], rfl, rfl, Nat.zero_le _⟩
      | cons c cs ih =>
        intro h
        rw [List.all_cons, Bool.and_eq_true] at h
        obtain ⟨t, rfl, a, b⟩ := lv_tree k c h.1
        obtain ⟨ts, rfl, e, f⟩ := ih h.2
        refine ⟨t :: ts, rfl, by rw [Tr.lays, a, e]; rfl, ?_⟩
        show max t.lev (Tr.levs ts) ≤ k
        omega
    cases d with
    | tuple es =>
      cases es with
      | nil => cases h1
      | cons x cs =>
        have h1 : (decide (cs.length ≤ 4) && nameB x) = true := h1
        rw [Bool.and_eq_true, decide_eq_true_iff] at h1
        cases x with
        | str n =>
          obtain ⟨ts, rfl, e, f⟩ := key cs h2
          refine ⟨.node n ts, (d_node n ts).symm, ?_, ?_⟩
          · have a := h1.1
            rw [dl_len] at a
            rw [Tr.lay, e, ← name_ok, h1.2, decide_eq_true a]; rfl
          · show 1 + Tr.levs ts ≤ k + 1
            omega
        | _ => exact absurd h1.2 (by simp [nameB])
    | _ => cases h1
theorem tree_lv : ∀ (k : Nat) (t : Tr), t.lay = true → t.lev ≤ k → lvB k t.d = true
  | 0, t, _, h => by have := lev_pos t; omega
  | k + 1, .node n cs, hl, h => by
    have z := lay_node hl
    rw [lvB, d_node, Bool.and_eq_true]
    refine ⟨?_, ?_⟩
    · show (decide ((cs.map Tr.d).length ≤ 4) && nameB (.str n)) = true
      rw [name_ok, z.1, List.length_map, decide_eq_true z.2]; rfl
    · show (cs.map Tr.d).all (lvB k) = true
      rw [List.all_eq_true]
      intro d m
      obtain ⟨c, hc, rfl⟩ := List.mem_map.mp m
      exact tree_lv k c (lay_child hl hc) (lev_child h hc)
section
variable {P : Program} {w : World} {K : Frag} {mg : Str → Option Value} {base : Heap}
theorem vl_kids {k : Nat} {d c : PyData} (h : Vl (k + 1) d) (m : c ∈ chl d) : Vl k c := by
  cases d with
  | tuple es =>
    cases es with
    | nil => cases m
    | cons x cs => exact (h.tup).2 c (List.mem_cons_of_mem _ m)
  | _ => cases m
theorem Vl.mono {k m : Nat} {d : PyData} (h : Vl k d) (a : k ≤ m) : Vl m d := ⟨h.rd, Nat.lt_of_lt_of_le h.dep a, h.ln⟩
theorem vl_node {k : Nat} {d : PyData} (h : Vl k d) : kn d = true ∧ ∀ es, d = .tuple es → es.length ≤ 1000 ∧ ∀ x, x ∈ es → kn x = true ∧ ∀ n, x = .str n → n.length ≤ 1000 := by
  refine ⟨rdb_kn' h.rd, fun es e => ?_⟩
  subst e
  have h2 := (h.mono (Nat.le_succ k)).tup
  refine ⟨h2.1, fun x m => ⟨rdb_kn' (h2.2 x m).rd, fun n e => ?_⟩⟩
  subst e
  have z := (h2.2 _ m).ln
  rw [lnB, Bool.and_eq_true] at z
  exact of_decide_eq_true z.1
def gLowX (k : Nat) : List PyData → (PyData → Prop) → Prop := fun ds C => ∃ (d : PyData) (lv : Nat), ds = [d, .int (lv : Nat)] ∧ Vl 60 d ∧ lv < k ∧ C (.bool (lvB lv d))
theorem ok_lowX {f f_nm f_nd : Addr} {fdt fdt_nm fdt_nd : FuncData} (D_is_low_tree : Df K mg "is_low_tree" s_is_low_tree P_is_low_tree f fdt) (B : Bi mg) (M : Mc mg) (D_is_name : Df K mg "is_name" s_is_name P_is_name f_nm fdt_nm) (D_is_node : Df K mg "is_node" s_is_node P_is_node f_nd fdt_nd) : ∀ k, FnOk P w K mg base CX0 (k + 3) f fdt P_is_low_tree (spP K (gLowX k))
  | 0 => no_spP fun ds C ⟨t, _, _, _, h, _⟩ => by omega
  | k + 1 => by
    have G_is_low_tree := ok_lowX D_is_low_tree B M D_is_name D_is_node k
    have G_is_node : FnOk P w K mg base CX0 2 _ _ _ _ := ok_nodeX D_is_node B M D_is_name
    refine okP D_is_low_tree.F sc_is_low_tree (fun ds C h => by obtain ⟨t, lv, rfl, _⟩ := h; rfl) (fun cdv A outer s H E hr => ?_)
    have hr_is_low_tree := hr
    have hr_is_node := hr.mono (show 2 ≤ k + 3 by omega)
    refine ⟨_, (pss_cons (ps_if (PW.pt (pw_or (pt_cmpR op_lt (pv 1) pe_int (nomark _)) (pw_or1 (pt_not (pt_val (pe_call G_is_node hr_is_node rfl D_is_node.m D_is_node.F.kp D_is_node.b .nil pass0 (pa_cons (pv 0) pa_nil))))))) (pss_one (ps_ret pe_bl)) pss_nil)
      (pss_one (ps_ret (pe_callB (cr_all rfl) rfl B.all (by decide +kernel) (pa_cons (pe_lc rfl sc_is_low_tree.nd (pi_tup (pe_slice sl_tupA (pv 0) (po_some pe_int) po_none)) (blkOk_by (own := [("child", 2)]) (N := N_is_low_tree) (sc := defScope s_is_low_tree) (by decide +kernel)) (fun _ _ _ _ _ => (pg_name (i := 2) sc_is_low_tree.nd rfl (Or.inl rfl))) (fun _ _ _ _ _ => pts_nil) (fun _ _ _ _ _ => (pe_call G_is_low_tree hr_is_low_tree rfl D_is_low_tree.m D_is_low_tree.F.kp D_is_low_tree.b .nil pass0 (pa_cons (pv 2) (pa_cons (pe_op op_sub (pv 1) pe_int) pa_nil))))) pa_nil))))), fun ds C h => ?_⟩
    obtain ⟨d, lv, rfl, hv, hk, hc⟩ := h
    obtain ⟨v1, v2⟩ := vl_node hv
    refine wpS_seq (wpS_if (wpT_or (wpT_test (wp_op (wp_var (d := .int (lv : Nat)) rfl (wp_int (opd_ib ⟨_, rfl, fun z => ⟨fun _ => ?_, fun z => (nomatch z)⟩, fun z => ?_⟩)))))))
    · have z := of_decide_eq_true z
      obtain rfl : lv = 0 := by omega
      exact wpS_ret (wp_bl hc)
    have z := of_decide_eq_false z
    obtain ⟨m, rfl⟩ : ∃ m, lv = m + 1 := ⟨lv - 1, by omega⟩
    rw [lvB] at hc
    refine wpT_not (wpT_B (wp_call (wpA_cons (wp_var (d := d) rfl (wpA_nil ⟨d, rfl, v1, v2, nodeB d, rfl, fun z => ?_, fun z => ?_⟩)))))
    · have z : nodeB d = false := by
        cases e : nodeB d with
        | true => rw [e] at z; cases z
        | false => rfl
      rw [z, Bool.false_and] at hc
      exact wpS_ret (wp_bl hc)
    have z : nodeB d = true := by
      cases e : nodeB d with
      | true => rfl
      | false => rw [e] at z; cases z
    rw [z, Bool.true_and] at hc
    obtain ⟨x, cs, rfl⟩ : ∃ x cs, d = .tuple (x :: cs) := by
      cases d with
      | tuple es =>
        cases es with
        | nil => cases z
        | cons x cs => exact ⟨x, cs, rfl⟩
      | _ => cases z
    have hc : C (.bool (cs.all (lvB m))) := hc
    have hcs : cs.length ≤ 1000 := by have := (v2 _ rfl).1; rw [List.length_cons] at this; omega
    refine wpS_next (wpS_ret (wp_cb (wpA_cons (wpE_new (wpN_lc (wpI_tup (wp_slT (wp_var (d := .tuple (x :: cs)) rfl (wpO_some (wp_int ⟨1, rfl, wpO_none ⟨_, rfl, ?_⟩⟩))))))))))
    rw [cut_tl]
    refine ⟨_, rfl, fun i acc => acc = ((cs.take i).map (lvB m)).map PyData.bool, rfl, ?_, ?_⟩
    · rintro i c acc e rfl
      have mc : c ∈ cs := List.mem_of_getElem? e
      have hi : i < cs.length := (List.getElem?_eq_some_iff.mp e).1
      have vc : Vl 60 c := (vl_kids (k := 59) hv mc).mono (by decide)
      refine ⟨_, gD_name, by simp, wpT_yes ⟨fun _ => wp_call (wpA_cons (wp_var (d := c) rfl (wpA_cons (wp_op (wp_var (d := .int ((m + 1 : Nat) : Int)) rfl (wp_int (opd_ii (wpA_nil ⟨c, m, ?_, vc, by omega, ?_, ?_⟩)))))))), fun z => nomatch z⟩⟩
      · have e : (((m + 1 : Nat) : Int) - 1) = (m : Int) := by omega
        rw [e]
      · rw [List.length_map, List.length_map, List.length_take]; omega
      · show _ = ((cs.take (i + 1)).map (lvB m)).map PyData.bool
        rw [List.take_add_one, e, List.map_append, List.map_append]; rfl
    · rintro acc rfl
      rw [List.take_length]
      refine wpA_nil (cad_all ?_)
      rw [List.all_map]
      exact hc
end
end Gr

namespace Gr
open PySem L2 Evl Dn
-- isx: is_rule
theorem rd_parts {l r : PyData} {q : Tr × Tr} (e : PyData.tuple [l, r] = rd q) : l = q.1.d ∧ r = q.2.d := by
  unfold rd at e
  injection e with e
  injection e with a b
  injection b with b c
  exact ⟨a, b⟩
def Sz : Nat → Nat
  | 0 => 0
  | k + 1 => 1 + 4 * Sz k
theorem lev_sz : ∀ (k : Nat) (t : Tr), t.lay = true → t.lev ≤ k → t.size ≤ Sz k
  | 0, t, _, h => by have := lev_pos t; omega
  | k + 1, .node n cs, hl, h => by
    have z := lay_node hl
    have key : ∀ cs : List Tr, (∀ c, c ∈ cs → c.size ≤ Sz k) → Tr.sizes cs ≤ cs.length * Sz k := by
      intro cs
      induction cs with
      | nil => intro _; exact Nat.zero_le _
      | cons c cs ih =>
        intro h
        have a := h c (List.mem_cons_self ..)
        have b := ih fun x m => h x (List.mem_cons_of_mem _ m)
        show c.size + Tr.sizes cs ≤ (cs.length + 1) * Sz k
        rw [Nat.succ_mul]; omega
    have s := key cs fun c hc => lev_sz k c (lay_child hl hc) (lev_child h hc)
    have m : cs.length * Sz k ≤ 4 * Sz k := Nat.mul_le_mul_right _ z.2
    show 1 + Tr.sizes cs ≤ 1 + 4 * Sz k
    omega
theorem d_inj {t u : Tr} (h : t.d = u.d) : t = u := eqv_d t u (by rw [h]; exact eqv_self u)
theorem rd_inj {q r : Tr × Tr} (h : rd q = rd r) : q = r := eqv_rd q r (by
  rw [h]
  show PyData.eqv (.tuple [r.1.d, r.2.d]) (.tuple [r.1.d, r.2.d]) = true
  rw [PyData.eqv, PyData.eqvAll, PyData.eqvAll, eqv_self, eqv_self]; rfl)
section
variable {P : Program} {w : World} {K : Frag} {mg : Str → Option Value} {base : Heap}
def gSideX : List PyData → (PyData → Prop) → Prop := fun ds C => ∃ d : PyData, ds = [d] ∧ Vl 60 d ∧ ∀ b : Bool, (b = true ↔ ∃ t : Tr, d = t.d ∧ Sd t) → C (.bool b)
theorem ok_sideX {f f_nm f_nd f_lo f_sz f_ev : Addr} {fdt fdt_nm fdt_nd fdt_lo fdt_sz fdt_ev : FuncData} (D : Df K mg "is_side" s_is_side P_is_side f fdt) (B : Bi mg) (M : Mc mg) (D_is_name : Df K mg "is_name" s_is_name P_is_name f_nm fdt_nm) (D_is_node : Df K mg "is_node" s_is_node P_is_node f_nd fdt_nd) (D_is_low_tree : Df K mg "is_low_tree" s_is_low_tree P_is_low_tree f_lo fdt_lo) (D_size : Df K mg "size" s_size P_size f_sz fdt_sz) (D_every_part : Df K mg "every_part" s_every_part P_every_part f_ev fdt_ev) : FnOk P w K mg base CX0 9 f fdt P_is_side (spP K gSideX) := by
  have G_is_low_tree : FnOk P w K mg base CX0 8 _ _ _ _ := ok_lowX D_is_low_tree B M D_is_name D_is_node 5
  have G_size : FnOk P w K mg base CX0 2 _ _ _ _ := ok_sz D_size B D_every_part
  refine okP D.F sc_is_side (fun ds C h => by obtain ⟨v, rfl, _⟩ := h; rfl) (fun cdv A outer s H E hr => ?_)
  have hr_is_low_tree := hr
  have hr_size := hr.mono (show 2 ≤ 8 by decide)
  refine ⟨_, (pss_one (ps_ret (pe_and (pe_call G_is_low_tree hr_is_low_tree rfl D_is_low_tree.m D_is_low_tree.F.kp D_is_low_tree.b .nil pass0 (pa_cons (pv 0) (pa_cons (pe_glob (v := .int 4) rfl M.MOST_LEVELS_OF_SIDE.choose_spec ⟨_, rfl⟩) pa_nil))) (pe_one (pe_cmpR op_le (pe_call G_size hr_size rfl D_size.m D_size.F.kp D_size.b .nil pass0 (pa_cons (pv 0) pa_nil)) (pe_glob (v := .int 6) rfl M.MOST_NODES_OF_SIDE.choose_spec ⟨_, rfl⟩) (nomark _)))))), fun ds C h => ?_⟩
  obtain ⟨d, rfl, hv, hc⟩ := h
  refine wpS_ret (wp_andV (wp_call (wpA_cons (wp_var (d := d) rfl (wpA_cons (wp_int (wpA_nil ⟨d, 4, rfl, hv, by decide, lvB 4 d, rfl, fun z => ?_, fun z => ?_⟩)))))))
  · obtain ⟨t, rfl, a, b⟩ := lv_tree 4 d z
    have hs := lev_sz 4 t a b
    have h4 : Sz 4 = 85 := rfl
    refine wp_op (wp_call (wpA_cons (wp_var (d := t.d) rfl (wpA_nil ⟨t, rfl, by omega, wp_int (opd_ib ?_)⟩))))
    refine hc _ ⟨fun e => ⟨t, rfl, a, b, ?_⟩, fun ⟨u, e, s⟩ => ?_⟩
    · have e := of_decide_eq_true e
      omega
    · have := d_inj e
      subst this
      exact decide_eq_true (by have := s.size; omega)
  · refine hc _ ⟨fun e => (nomatch e), fun ⟨u, e, s⟩ => ?_⟩
    subst e
    rw [tree_lv 4 u s.lay s.lev] at z
    cases z
/-- what stands in a list that may be a list of rules -/
def Rv (d : PyData) : Prop := (∃ es, d = .tuple es ∧ es.length ≤ 1000 ∧ ∀ e, e ∈ es → Vl 60 e ∧ wt e ≤ 20000) ∨ ((∀ es, d ≠ .tuple es) ∧ isX d "tuple" = some false)
def IsR (d : PyData) (q : Tr × Tr) : Prop := d = rd q ∧ Sd q.1 ∧ Sd q.2 ∧ q.1 ≠ q.2
theorem isX_tt {es : List PyData} : isX (.tuple es) "tuple" = some true := by show kitB "tuple" "tuple" = _; decide +kernel
def gRuleX : List PyData → (PyData → Prop) → Prop := fun ds C => ∃ d : PyData, ds = [d] ∧ Rv d ∧ ∀ b : Bool, (b = true ↔ ∃ q, IsR d q) → C (.bool b)
theorem ok_ruleX {f f_sd f_nm f_nd f_lo f_sz f_ev : Addr} {fdt fdt_sd fdt_nm fdt_nd fdt_lo fdt_sz fdt_ev : FuncData} (D : Df K mg "is_rule" s_is_rule P_is_rule f fdt) (B : Bi mg) (M : Mc mg) (D_is_side : Df K mg "is_side" s_is_side P_is_side f_sd fdt_sd) (D_is_name : Df K mg "is_name" s_is_name P_is_name f_nm fdt_nm) (D_is_node : Df K mg "is_node" s_is_node P_is_node f_nd fdt_nd) (D_is_low_tree : Df K mg "is_low_tree" s_is_low_tree P_is_low_tree f_lo fdt_lo) (D_size : Df K mg "size" s_size P_size f_sz fdt_sz) (D_every_part : Df K mg "every_part" s_every_part P_every_part f_ev fdt_ev) : FnOk P w K mg base CX0 10 f fdt P_is_rule (spP K gRuleX) := by
  have G_is_side : FnOk P w K mg base CX0 9 _ _ _ _ := ok_sideX D_is_side B M D_is_name D_is_node D_is_low_tree D_size D_every_part
  refine okP D.F sc_is_rule (fun ds C h => by obtain ⟨v, rfl, _⟩ := h; rfl) (fun cdv A outer s H E hr => ?_)
  have hr_is_side := hr
  have hu64 := hr.units
  refine ⟨_, (pss_cons (ps_if (PW.pt (pw_or (pt_not (pt_val (pe_callB call_isX rfl B.isinstance (by decide +kernel) (pa_cons (pv 0) (pa_cons (pe_bltn (v := .ty "tuple") rfl B.tuple (by decide +kernel) rfl) pa_nil))))) (pw_or1 (pt_cmpR op_ne (pe_callB call_len_seq rfl B.len PySem.boot_len (pa_cons (pv 0) pa_nil)) pe_int (nomark _))))) (pss_one (ps_ret pe_bl)) pss_nil)
      (pss_cons (ps_asg (pv 0) (pg_tup rfl (pgs_cons (pg_name (i := 1) sc_is_rule.nd rfl (Or.inl rfl)) (pgs_cons (pg_name (i := 2) sc_is_rule.nd rfl (Or.inl rfl)) pgs_nil))))
      (pss_one (ps_ret (pe_and (pe_call G_is_side hr_is_side rfl D_is_side.m D_is_side.F.kp D_is_side.b .nil pass0 (pa_cons (pv 1) pa_nil)) (pe_and (pe_call G_is_side hr_is_side rfl D_is_side.m D_is_side.F.kp D_is_side.b .nil pass0 (pa_cons (pv 2) pa_nil)) (pe_one (pe_cmpR (op_neD hu64) (pv 1) (pv 2) (nomark _))))))))), fun ds C h => ?_⟩
  obtain ⟨d, rfl, hv, hc⟩ := h
  rcases hv with ⟨es, rfl, h1, h2⟩ | ⟨h1, h2⟩
  rotate_left
  · have hc := hc false ⟨fun z => (nomatch z), fun ⟨q, e, _⟩ => absurd e (h1 _)⟩
    exact wpS_seq (wpS_if (wpT_or (wpT_not (wpT_B (wp_isX (wp_var (d := d) rfl ⟨false, h2, false, rfl, (fun _ => ⟨fun _ => wpS_ret (wp_bl hc), fun z => (nomatch z)⟩), fun z => absurd z (by decide)⟩))))))
  refine wpS_seq (wpS_if (wpT_or (wpT_not (wpT_B (wp_isX (wp_var (d := .tuple es) rfl ⟨true, isX_tt, true, rfl, fun z => absurd z (by decide), fun _ => ?_⟩))))))
  refine wpT_test (wp_op (wp_cb (wpA_cons (wp_var (d := .tuple es) rfl (wpA_nil (cad_lenT (wp_int (opd_neI ⟨_, rfl, fun q => ?_, fun q => ?_⟩))))))))
  · have hne : es.length ≠ 2 := fun z => by rw [z] at q; cases q
    exact wpS_ret (wp_bl (hc false ⟨fun z => (nomatch z), fun ⟨r, e, _⟩ => absurd (by cases e; rfl) hne⟩))
  · have he : es.length = 2 := by
      by_cases z : ((es.length : Nat) : Int) = 2
      · omega
      · rw [decide_eq_false z] at q; cases q
    obtain ⟨l, r, rfl⟩ : ∃ l r, es = [l, r] := by
      match es, he with
      | [l, r], _ => exact ⟨l, r, rfl⟩
    have vl := (h2 l (List.mem_cons_self ..)).1
    have vr := (h2 r (List.mem_cons_of_mem _ (List.mem_cons_self ..))).1
    refine wpS_next (wpS_seq (wpS_asgT (wp_var (d := .tuple [l, r]) rfl ⟨_, gD_tup (gsD_cons gD_name (gsD_cons gD_name gsD_nil)) rfl, ?_⟩)))
    refine wpS_ret (wp_andV (wp_call (wpA_cons (wp_var (d := l) rfl (wpA_nil ⟨l, rfl, vl, fun b hb => ⟨b, rfl, fun z => ?_, fun z => ?_⟩⟩)))))
    · obtain ⟨t, rfl, st⟩ := hb.mp z
      refine wp_andV (wp_call (wpA_cons (wp_var (d := r) rfl (wpA_nil ⟨r, rfl, vr, fun b2 hb2 => ⟨b2, rfl, fun z => ?_, fun z => ?_⟩⟩))))
      · obtain ⟨u, rfl, su⟩ := hb2.mp z
        refine wp_op (wp_var (d := t.d) rfl (wp_var (d := u.d) rfl (opd_neD st.gd.cmp su.gd.cmp (hc _ ⟨fun e => ⟨(t, u), rfl, st, su, fun z => ?_⟩, fun ⟨q, e, s1, s2, ne⟩ => ?_⟩))))
        · have z : t = u := z
          rw [z, eqv_self] at e; cases e
        · have e := rd_inj (q := (t, u)) e
          subst e
          cases w : PyData.eqv t.d u.d with
          | true => exact absurd (eqv_d _ _ w) ne
          | false => rfl
      · refine hc _ ⟨fun e => (nomatch e), fun ⟨q, e, s1, s2, ne⟩ => ?_⟩
        rw [hb2.mpr ⟨_, (rd_parts e).2, s2⟩] at z; cases z
    · refine hc _ ⟨fun e => (nomatch e), fun ⟨q, e, s1, s2, ne⟩ => ?_⟩
      rw [hb.mpr ⟨_, (rd_parts e).1, s1⟩] at z; cases z
end
end Gr

namespace Gr
open PySem L2 Evl Dn
/-- d may be added to rules as the rule q -/
def Add (rs : List (Tr × Tr)) (d : PyData) (q : Tr × Tr) : Prop := IsR d q ∧ q ∉ rs ∧ dueN (rs ++ [q]) = none
open Classical in
noncomputable def addX (rs : List (Tr × Tr)) (d : PyData) : Option (List (Tr × Tr)) := if h : ∃ q, Add rs d q then some (rs ++ [Classical.choose h]) else none
theorem addX_no {rs : List (Tr × Tr)} {d : PyData} (h : ¬ ∃ q, Add rs d q) : addX rs d = none := by unfold addX; rw [dif_neg h]
theorem addX_yes {rs : List (Tr × Tr)} {d : PyData} {q : Tr × Tr} (h : Add rs d q) : addX rs d = some (rs ++ [q]) := by
  have hx : ∃ q, Add rs d q := ⟨q, h⟩
  unfold addX
  rw [dif_pos hx]
  have z := Classical.choose_spec hx
  rw [rd_inj (z.1.1.symm.trans h.1.1)]
/-- the rules of a list, or the number of the first that is none -/
noncomputable def goD : List (Tr × Tr) → List PyData → Nat → List (Tr × Tr) ⊕ Nat
  | rs, [], _ => .inl rs
  | rs, d :: ds, i => match addX rs d with
    | none => .inr i
    | some r => goD r ds (i + 1)
noncomputable def dueD (xs : List PyData) : List (Tr × Tr) ⊕ Nat := if xs.length > 8 then .inr 0 else goD [] xs 0
theorem rw_snoc {rs : List (Tr × Tr)} {q : Tr × Tr} (h : Rw rs) (s : Sd q.1 ∧ Sd q.2 ∧ q.1 ≠ q.2) (hn : q ∉ rs) (hl : rs.length ≤ 39) : Rw (rs ++ [q]) := by
  have ra : ∀ x, x ∈ rs ++ [q] → Sd x.1 ∧ Sd x.2 ∧ x.1 ≠ x.2 := by
    intro x m
    rcases List.mem_append.mp m with m | m
    · exact h.sd x m
    · rw [List.mem_singleton.mp m]; exact s
  have rb : (rs ++ [q]).Nodup := by
    refine List.nodup_append.mpr ⟨h.nd, by simp, ?_⟩
    intro x hx y hy e
    rw [e, List.mem_singleton.mp hy] at hx
    exact hn hx
  have rc : (rs ++ [q]).length ≤ 40 := by rw [List.length_append]; show _ + 1 ≤ _; omega
  exact ⟨rc, ra, rb⟩
section
variable {P : Program} {w : World} {K : Frag} {mg : Str → Option Value} {base : Heap}
def gInitD (N : Addr) : List PyData → (List (PyData × PyData) → Prop) → (Addr → Str → PyData → Prop) → Prop := fun ds Cf PX =>
  (∃ d, ds = [d] ∧ isB d "list" = some false ∧ PX N "number" (.int 0)) ∨
  ∃ xs, ds = [.list xs] ∧ (∀ x, x ∈ xs → Rv x) ∧ xs.length ≤ 40 ∧
  (∀ rs, dueD xs = .inl rs → Cf [(.str "_rules", .list (rs.map rd)), (.str "_parts", .list (dl (told rs)))]) ∧ ∀ n, dueD xs = .inr n → PX N "number" (.int (n : Nat))
theorem ok_initD {A N f f_ru f_sd f_nm f_nd f_lo f_sz f_ev f_rk f_or f_po f_to fI : Addr} {fdt fdt_ru fdt_sd fdt_nm fdt_nd fdt_lo fdt_sz fdt_ev fdt_rk fdt_or fdt_po fdt_to : FuncData} (D : Fun K "__init__" "Lot.__init__" s_Lot___init__ f fdt) (B : Bi mg) (M : Mc mg) (T : Txt K mg A) (D_is_rule : Df K mg "is_rule" s_is_rule P_is_rule f_ru fdt_ru) (D_is_side : Df K mg "is_side" s_is_side P_is_side f_sd fdt_sd) (D_is_name : Df K mg "is_name" s_is_name P_is_name f_nm fdt_nm) (D_is_node : Df K mg "is_node" s_is_node P_is_node f_nd fdt_nd) (D_is_low_tree : Df K mg "is_low_tree" s_is_low_tree P_is_low_tree f_lo fdt_lo) (D_size : Df K mg "size" s_size P_size f_sz fdt_sz) (D_every_part : Df K mg "every_part" s_every_part P_every_part f_ev fdt_ev)
    (D_rank : Df K mg "rank" s_rank P_rank f_rk fdt_rk) (D_ordered : Df K mg "ordered" s_ordered P_ordered f_or fdt_or) (D_parts_of : Df K mg "parts_of" s_parts_of P_parts_of f_po fdt_po) (D_told_parts : Df K mg "told_parts" s_told_parts P_told_parts f_to fdt_to)
    (X_BadLot : XIX.XTxt P K mg "BadLot" "BadLot.__init__" "number" "number" N fI) (A_BadLot : ∀ u, XIX.ArgsTo K fI "number" ⟨[u], []⟩ u) : FnOk P w K mg base (L2.CX P w) 11 f fdt P_Lot___init__ (spIY K A (gInitD N)) := by
  have G_is_rule : FnOk P w K mg base CX0 10 _ _ _ _ := ok_ruleX D_is_rule B M D_is_side D_is_name D_is_node D_is_low_tree D_size D_every_part
  have G_told_parts : FnOk P w K mg base CX0 8 _ _ _ _ := ok_told D_told_parts B D_every_part D_size D_rank D_ordered D_parts_of
  refine D.okX sc_Lot___init__ (fun vs H Q E h => ?_) (fun cdv A' outer s H vs Q E hr h => ?_)
  · obtain ⟨p, dx, ws, F, ds, Cf, PX, rfl, _, _, _, r, g, _⟩ := h
    rcases g with ⟨d, rfl, _⟩ | ⟨xs, rfl, _⟩ <;> (rw [List.length_cons, all_len r]; rfl)
  have hr_is_rule := hr
  have hr_told_parts := hr.mono (show 8 ≤ 10 by decide)
  have hrX := hr.mono (show 2 ≤ 10 by decide)
  have hu65 := hu65Of hr
  obtain ⟨p, dx, ws, F, ds, Cf, PX, rfl, hp, hF, th, r, g, q, qx⟩ := h
  obtain ⟨hs, rfl⟩ : ∃ hs, ds = [hs] := by rcases g with ⟨d, rfl, _⟩ | ⟨xs, rfl, _⟩ <;> exact ⟨_, rfl⟩
  refine ⟨_, (pss_cons (ps_if (PW.pt (pw_or (pt_not (pt_val (pe_callB call_isi rfl B.isinstance (by decide +kernel) (pa_cons (pv 1) (pa_cons (pe_bltn (v := .ty "list") rfl B.list (by decide +kernel) rfl) pa_nil))))) (pw_or1 (pt_cmpR op_gt (pe_callB call_len_seq rfl B.len PySem.boot_len (pa_cons (pv 1) pa_nil)) (pe_glob (v := .int 8) rfl M.MOST_RULES.choose_spec ⟨_, rfl⟩) (nomark _))))) (pss_one (ps_raiseX rfl X_BadLot A_BadLot hrX (by decide) (takes_of rfl rfl rfl rfl) (pa_cons pe_int pa_nil))) pss_nil)
      (pss_cons (ps_for (passes_of rfl) rfl (pi_enum rfl B.enumerate (pa_cons (pv 1) pa_nil)) (pg_tup rfl (pgs_cons (pg_name (i := 2) sc_Lot___init__.nd rfl (Or.inl rfl)) (pgs_cons (pg_name (i := 3) sc_Lot___init__.nd rfl (Or.inl rfl)) pgs_nil))) (pss_cons (ps_if (PW.pt (pw_or (pt_not (pt_val (pe_call G_is_rule hr_is_rule rfl D_is_rule.m D_is_rule.F.kp D_is_rule.b .nil pass0 (pa_cons (pv 3) pa_nil)))) (pw_or1 (pt_cmpR (op_inD hu65) (pv 3) (pe_slice sl_list (pv 1) po_none (po_some (pv 2))) (by rfl))))) (pss_one (ps_raiseX rfl X_BadLot A_BadLot hrX (by decide) (takes_of rfl rfl rfl rfl) (pa_cons (pv 2) pa_nil))) pss_nil)
      (pss_one (ps_if (pt_cmpR op_gt (pe_callB call_len_seq rfl B.len PySem.boot_len (pa_cons (pe_call G_told_parts hr_told_parts rfl D_told_parts.m D_told_parts.F.kp D_told_parts.b .nil pass0 (pa_cons (pe_slice sl_list (pv 1) po_none (po_some (pe_op op_add (pv 2) pe_int))) pa_nil)) pa_nil)) (pe_glob (v := .int 24) rfl M.MOST_TOLD_PARTS.choose_spec ⟨_, rfl⟩) (nomark _)) (pss_one (ps_raiseX rfl X_BadLot A_BadLot hrX (by decide) (takes_of rfl rfl rfl rfl) (pa_cons (pv 2) pa_nil))) pss_nil))))
      (pss_cons (ps_fld (pv 0) (pe_callTy call_list_of rfl B.list (by decide +kernel) (pa_cons (pv 1) pa_nil)) rfl)
      (pss_one (ps_fld (pv 0) (pe_call G_told_parts hr_told_parts rfl D_told_parts.m D_told_parts.F.kp D_told_parts.b .nil pass0 (pa_cons (pv 1) pa_nil)) rfl))))), ?_⟩
  obtain ⟨v1, ev1⟩ : ∃ v1, ws = [v1] := by
    cases r with
    | cons a b => cases b; exact ⟨_, rfl⟩
  subst ev1
  have rv1 : Dr K (off F H) v1 hs := by
    cases r with
    | cons a b => exact a
  have S : StOk K nofd F H (start N_Lot___init__ [.ref p, v1]) H [.raw (.ref p), .dat hs, .no, .no] := by
    refine ⟨⟨fun a z => ?_, fun a z => z.elim, fun f z => z.elim, rfl, fun i o x e1 e2 => ?_⟩, fun a o _ z => z, th, fun a z => z.elim, fun p hp => (nomatch hp), List.nodup_nil⟩
    · rcases z with z | z
      · exact th a z
      · cases z
    · match i, e1, e2 with
      | 0, e1, e2 => cases (show some (V.ref p) = o from Option.some.inj e1); cases (show Sl.raw (.ref p) = x from Option.some.inj e2); rfl
      | 1, e1, e2 =>
        cases (show some v1 = o from Option.some.inj e1); cases (show Sl.dat _ = x from Option.some.inj e2)
        exact dmono (off_less fun a z => z.elim id fun z => nomatch z) rv1
      | 2, e1, e2 => cases (show (none : Option V) = o from Option.some.inj e1); cases (show Sl.no = x from Option.some.inj e2); exact True.intro
      | 3, e1, e2 => cases (show (none : Option V) = o from Option.some.inj e1); cases (show Sl.no = x from Option.some.inj e2); exact True.intro
      | i + 4, e1, e2 => exact absurd e2 (by simp)
  have xok : XOk K nofd F H (fun a b c _ => PX a b c) (fun cls d _ H' => E cls d H') := fun a b d v dv σ H' env px I e rv => qx a b d v dv H' px (fun c o _ z => I.old c o (fun z => z) z) e rv
  refine run_tailX (W := fun cls d _ H' => E cls d H') (PX := fun a b c _ => PX a b c) (R := fun e => ∃ xs, hs = .list xs ∧ e = [.raw (.ref p), .dat hs, .no, .no] ∧ (∀ x, x ∈ xs → Rv x) ∧ xs.length ≤ 8 ∧ (∀ rs, goD [] xs 0 = .inl rs → Cf [(.str "_rules", .list (rs.map rd)), (.str "_parts", .list (dl (told rs)))]) ∧ ∀ n, goD [] xs 0 = .inr n → PX N "number" (.int (n : Nat))) ?_ S xok ?_
  · rcases g with ⟨d, e, hd, hx⟩ | ⟨xs, e, hv, hl, hc, hx⟩
    · cases e
      exact wpSX_if (wpT_or (wpT_not (wpT_B (wp_isi (wp_var (d := hs) rfl ⟨false, hd, false, rfl, (fun _ => ⟨fun _ => wpSX_raise (wp_int hx), fun z => (nomatch z)⟩), fun z => absurd z (by decide)⟩)))))
    cases e
    refine wpSX_if (wpT_or (wpT_not (wpT_B (wp_isi (wp_var (d := .list xs) rfl ⟨true, isB_ll, true, rfl, fun z => absurd z (by decide), fun _ => ?_⟩)))))
    refine wpT_test (wp_op (wp_cb (wpA_cons (wp_var (d := .list xs) rfl (wpA_nil (cad_lenL (wp_int (opd_ib ⟨_, rfl, fun z => ?_, fun z => ?_⟩))))))))
    · have z := of_decide_eq_true z
      exact wpSX_raise (wp_int (hx 0 (by unfold dueD; rw [if_pos (by omega)])))
    · have z := of_decide_eq_false z
      have e : dueD xs = goD [] xs 0 := by unfold dueD; rw [if_neg (by omega)]
      rw [e] at hc hx
      exact wpSX_of (wpS_next ⟨xs, rfl, rfl, hv, by omega, hc, hx⟩)
  rintro σ1 H1 env1 ⟨xs, rfl, rfl, hv, h8, hc, hx⟩ S1
  refine run_tailX (W := fun cls d _ H' => E cls d H') (PX := fun a b c _ => PX a b c) (R := fun e => ∃ ra, xs = ra.map rd ∧ Rw ra ∧ Cf [(.str "_rules", .list (ra.map rd)), (.str "_parts", .list (dl (told ra)))] ∧ ∃ x y : Sl, e = [.raw (.ref p), .dat (.list xs), x, y] ∧ (∀ a b, x ≠ .own a b) ∧ ∀ a b, y ≠ .own a b) ?_ S1 xok ?_
  · refine wpSX_for (wpI_enum (wpA_cons (wp_var (d := .list xs) rfl (wpA_nil ⟨_, rfl, fun i env => ∃ (rs : List (Tr × Tr)) (x y : Sl), xs.take i = rs.map rd ∧ Rw rs ∧ dueN rs = none ∧ goD rs (xs.drop i) i = goD [] xs 0 ∧ env = [.raw (.ref p), .dat (.list xs), x, y] ∧ (∀ a b, x ≠ .own a b) ∧ ∀ a b, y ≠ .own a b, ⟨[], .no, .no, rfl, ⟨by decide, (fun q m => (nomatch m)), List.nodup_nil⟩, rfl, rfl, rfl, (fun a b z => nomatch z), fun a b z => nomatch z⟩, ?_, fun e z => ?_⟩))))
    rotate_left
    · obtain ⟨rs, x, y, e1, hR, hdue, hgo, rfl, hx', hy⟩ := z
      rw [enumD_len, List.take_length] at e1
      rw [enumD_len, List.drop_length, goD] at hgo
      exact ⟨rs, e1, hR, hc rs hgo.symm, x, y, rfl, hx', hy⟩
    rintro i dd env e ⟨rs, x, y, e1, hR, hdue, hgo, rfl, hx', hy⟩
    have hi : i < xs.length := by
      have z := (List.getElem?_eq_some_iff.mp e).1
      rw [enumD_len] at z
      exact z
    obtain ⟨d, hd⟩ : ∃ d, xs[i]? = some d := ⟨_, List.getElem?_eq_getElem hi⟩
    rw [enumD_get hd] at e
    have e := (Option.some.inj e).symm
    subst e
    have hl : rs.length = i := by
      have z := congrArg List.length e1
      rw [List.length_take, List.length_map] at z
      omega
    have edr : xs.drop i = d :: xs.drop (i + 1) := by
      rw [List.drop_eq_getElem_cons hi]
      congr 1
      exact Option.some.inj (by rw [← List.getElem?_eq_getElem hi, hd])
    have etk : xs.take (i + 1) = rs.map rd ++ [d] := by rw [List.take_add_one, hd, e1]; rfl
    rw [edr, goD] at hgo
    have hgd := hR.gd
    have bad : (¬ ∃ q, Add rs d q) → PX N "number" (.int (i : Nat)) := fun z => by
      rw [addX_no z] at hgo
      exact hx i hgo.symm
    refine ⟨_, gD_tup (gsD_cons gD_name (gsD_cons gD_name gsD_nil)) rfl, ?_⟩
    have hcut : cut xs none (some (i : Int)) = rs.map rd := by rw [cut_take, e1]
    have hcut1 : cut xs none (some ((i : Int) + 1)) = rs.map rd ++ [d] := by
      rw [show ((i : Int) + 1) = ((i + 1 : Nat) : Int) from rfl, cut_take, etk]
    refine wpSX_seq (wpSX_if (wpT_or (wpT_not (wpT_B (wp_call (wpA_cons (wp_var (d := d) rfl (wpA_nil ⟨d, rfl, hv d (List.mem_of_getElem? hd), fun b hb => ⟨b, rfl, fun z => ⟨fun _ => ?_, fun z => (nomatch z)⟩, fun z => ?_⟩⟩))))))))
    · have z : b = false := by simpa using z
      exact wpSX_raise (wp_var (d := .int (i : Nat)) rfl (bad fun ⟨q, hq⟩ => by rw [hb.mpr ⟨q, hq.1⟩] at z; cases z))
    have z : b = true := by simpa using z
    obtain ⟨ru, rfl, s1, s2, s3⟩ := hb.mp z
    refine wpT_test (wp_op (wp_var (d := rd ru) rfl (wpE_new (wpN_sl (wp_var (d := .list xs) rfl (wpO_none (wpO_some (wp_var (d := .int (i : Nat)) rfl ⟨_, rfl, _, rfl, ?_⟩))))))))
    rw [hcut]
    refine opd_inD (rd_cmp s1.gd s2.gd) (rds_cmp hgd) ⟨_, rfl, fun z => ?_, fun z => ?_⟩
    · obtain ⟨d2, hd2, he⟩ := List.any_eq_true.mp z
      obtain ⟨q2, hq2, rfl⟩ := List.mem_map.mp hd2
      have e := eqv_rd q2 ru he
      subst e
      have nb : ¬ ∃ q, Add rs (rd q2) q := fun ⟨q, hq⟩ => hq.2.1 (by rw [← rd_inj hq.1.1]; exact hq2)
      exact wpSX_raise (wp_var (d := .int (i : Nat)) rfl (bad nb))
    have hnm : ru ∉ rs := fun m => by
      have z2 : ((rs.map rd).any fun e => PyData.eqv e (rd ru)) = true := List.any_eq_true.mpr ⟨rd ru, List.mem_map.mpr ⟨ru, m, rfl⟩, by
        show PyData.eqv (.tuple [ru.1.d, ru.2.d]) (.tuple [ru.1.d, ru.2.d]) = true
        rw [PyData.eqv, PyData.eqvAll, PyData.eqvAll, eqv_self, eqv_self]; rfl⟩
      rw [z2] at z; cases z
    have hR2 := rw_snoc hR ⟨s1, s2, s3⟩ hnm (by omega)
    refine wpSX_of (wpS_next (wpSX_if (wpT_test (wp_op (wp_cb (wpA_cons (wpE_new (wpN_call (wpA_cons (wpE_new (wpN_sl (wp_var (d := .list xs) rfl (wpO_none (wpO_some (wp_op (wp_var (d := .int (i : Nat)) rfl (wp_int (opd_ii ⟨_, rfl, _, rfl, ?_⟩))))))))))))))))))
    rw [hcut1, show rs.map rd ++ [rd ru] = (rs ++ [ru]).map rd by rw [List.map_append]; rfl]
    have ht := hR2.sizes
    refine wpA_nil ⟨rs ++ [ru], rfl, hR2.gd, by omega, wpA_nil (cad_lenL (wp_int (opd_ib ⟨_, rfl, fun z => ?_, fun z => ?_⟩)))⟩
    · have z := of_decide_eq_true z
      rw [dl_len] at z
      refine wpSX_raise (wp_var (d := .int (i : Nat)) rfl (bad fun ⟨q, hq⟩ => ?_))
      have := rd_inj hq.1.1
      subst this
      have := (none_due hq.2.2).2
      unfold told at this
      omega
    · have z := of_decide_eq_false z
      rw [dl_len] at z
      have hadd : Add rs (rd ru) ru := ⟨⟨rfl, s1, s2, s3⟩, hnm, due_none (by rw [List.length_append]; show rs.length + 1 ≤ 8; omega) (by unfold told; omega)⟩
      rw [addX_yes hadd] at hgo
      refine wpSX_of (wpS_next ⟨rs ++ [ru], _, _, by rw [etk, List.map_append]; rfl, hR2, hadd.2.2, hgo, rfl, (fun a b z => nomatch z), fun a b z => nomatch z⟩)
  rintro σ2 H2 env2 ⟨ra, rfl, hR, hc, x, y, rfl, hx', hy⟩ S2
  have hgd := hR.gd
  have hp2 : H2 p = some (.ins A dx []) := S2.old p _ (fun z => z) hp
  have hown : ∀ (i : Nat) (q : Addr) (ds : List PyData), ([.raw (.ref p), .dat (.list (ra.map rd)), x, y] : List Sl)[i]? = some (.own q ds) → q ≠ p := fun i q ds e => by
    match i, e with
    | 0, e => cases (show Sl.raw _ = Sl.own _ _ from Option.some.inj e)
    | 1, e => cases (show Sl.dat _ = Sl.own _ _ from Option.some.inj e)
    | 2, e => exact absurd (show x = Sl.own _ _ from Option.some.inj e) (hx' _ _)
    | 3, e => exact absurd (show y = Sl.own _ _ from Option.some.inj e) (hy _ _)
    | i + 4, e => exact absurd e (by simp)
  have hsz := hR.sizes
  refine fld_setF (A := A) (fs := []) (CL := fun ds => ds = ra.map rd) S2.ev rfl (.inl hF) hown hp2 T.cl T.nR (by show 0 < 1000; decide) (wpN_cb (wpA_cons (wp_var (d := .list (ra.map rd)) rfl (wpA_nil (can_listL rfl))))) fun H3 q1 vs1 ds3 e3 I3 hq1 hp3 hv1 r1 k3 => ?_
  subst e3
  refine fld_setF (A := A) (fs := putF "_rules" (.ref q1) []) (CL := fun ds => ds = dl (told ra)) I3 rfl (.inl hF) hown hp3 T.cl T.nP (by show 1 < 1000; decide) (wpN_call (wpA_cons (wp_var (d := .list (ra.map rd)) rfl (wpA_nil ⟨ra, rfl, hgd, by omega, rfl⟩)))) fun H4 q2 vs2 ds4 e4 I4 hq2 hp4 hv2 r2 k4 => ?_
  subst e4
  have e5 : putF "_parts" (.ref q2) (putF "_rules" (.ref q1) []) = ([("_rules", .ref q1), ("_parts", .ref q2)] : List (Str × V)) := by
    show (if ("_rules" : Str) = "_parts" then _ else (("_rules" : Str), V.ref q1) :: [(("_parts" : Str), V.ref q2)]) = _
    rw [if_neg (by decide +kernel)]
  rw [e5] at hp4
  have keep2 : ∀ a o, H a = some o → H2 a = some o := fun a o e => S2.old a o (fun z => z) e
  have nq : ∀ {a : Addr}, H2 a = none → H a = none := fun {a} z => by
    cases e : H a with
    | none => rfl
    | some o => rw [keep2 a o e] at z; cases z
  have n1 : q1 ≠ p := fun z => by rw [z, hp2] at hq1; cases hq1
  have n2 : q2 ≠ p := fun z => by rw [z, hp3] at hq2; cases hq2
  have hq2' : H2 q2 = none := by
    cases e : H2 q2 with
    | none => rfl
    | some o => rw [k3 q2 o n2 e] at hq2; cases hq2
  have old4 : ∀ a o, a ≠ p → H a = some o → H4 a = some o := fun a o n e => k4 a o n (k3 a o n (keep2 a o e))
  have not1 : ∀ {a : Addr}, H2 a = none → ¬ (F a ∨ Lsts H a) := fun {a} z w => by
    rcases w with w | ⟨xs, w⟩
    · exact th a w (nq z)
    · rw [nq z] at w; cases w
  have hide : ∀ {ds : List PyData} {vs : List V}, tplAll ds = true → DrAll K (off (fun a => F a ∨ a ∈ ownd [.raw (.ref p), .dat (.list (ra.map rd)), x, y]) H4) vs ds → DrAll K (off (fun a => F a ∨ Lsts H a) H4) vs ds := fun ht r => dr_hideAll (fun a z1 z2 => by
    rcases z1 with z1 | ⟨xs, z1⟩
    · exact (z2 (.inl z1)).elim
    · exact ⟨xs, old4 a _ (fun w => by rw [w, hp] at z1; cases z1) z1⟩) _ ht r
  have ex34 : Ex (off (fun a => F a ∨ a ∈ ownd [.raw (.ref p), .dat (.list (ra.map rd)), x, y]) H3) (off (fun a => F a ∨ a ∈ ownd [.raw (.ref p), .dat (.list (ra.map rd)), x, y]) H4) := fun a o e => by
    obtain ⟨n, e⟩ := off_some e
    rw [off_ne (S := fun a => F a ∨ a ∈ ownd [.raw (.ref p), .dat (.list (ra.map rd)), x, y]) n]
    exact k4 a o (fun w => n (.inl (by rw [w]; exact hF))) e
  refine q H4 _ _ old4 hp4 (.cons (.lst (xs := vs1) ?_ (hide ?_ (dmonoAll ex34 r1))) (.cons (.lst (xs := vs2) ?_ (hide ?_ r2)) .nil)) hc
  · rw [off_ne (S := fun a => F a ∨ Lsts H a) (not1 hq1)]
    exact k4 q1 _ n1 hv1
  · exact tplAll_of fun d m => by
      obtain ⟨q, _, rfl⟩ := List.mem_map.mp m
      exact tpl_rd q
  · rw [off_ne (S := fun a => F a ∨ Lsts H a) (not1 hq2')]
    exact hv2
  · exact tplAll_of fun d m => by
      obtain ⟨t, _, rfl⟩ := List.mem_map.mp m
      exact tpl_d6 t
end
end Gr

namespace Gr
open PySem L2 Evl Dn
-- isx: _law_is_rule
abbrev N__law_is_rule : List Str := ["value"]
abbrev P__law_is_rule : List Str := ["value"]
theorem sc__law_is_rule : FnScope N__law_is_rule P__law_is_rule (defScope s__law_is_rule) := ⟨rfl, rfl, rfl, by decide +kernel, rfl, by decide +kernel, by decide +kernel⟩
abbrev N__law_first : List Str := ["value", "number", "rule"]
abbrev P__law_first : List Str := ["value"]
theorem sc__law_first : FnScope N__law_first P__law_first (defScope s__law_first) := ⟨rfl, rfl, rfl, by decide +kernel, rfl, by decide +kernel, by decide +kernel⟩
abbrev N__law_made : List Str := ["value", "error"]
abbrev P__law_made : List Str := ["value"]
theorem sc__law_made : FnScope N__law_made P__law_made (defScope s__law_made) := ⟨rfl, rfl, rfl, by decide +kernel, rfl, by decide +kernel, by decide +kernel⟩
abbrev N__law_wide : List Str := ["feed", "letters", "found", "deep", "wide", "some", "every", "less", "at"]
abbrev P__law_wide : List Str := ["feed"]
theorem sc__law_wide : FnScope N__law_wide P__law_wide (defScope s__law_wide) := ⟨rfl, rfl, rfl, by decide +kernel, rfl, by decide +kernel, by decide +kernel⟩
abbrev N__law_near : List Str := ["feed", "names", "way", "rules", "at", "left", "right", "some"]
abbrev P__law_near : List Str := ["feed", "names"]
theorem sc__law_near : FnScope N__law_near P__law_near (defScope s__law_near) := ⟨rfl, rfl, rfl, by decide +kernel, rfl, by decide +kernel, by decide +kernel⟩
theorem tree_lvB : ∀ (k : Nat) (d : PyData), treeB d = true → d.depth ≤ k → lvB k d = true
  | 0, d, h, hd => by
    cases d with
    | tuple es => rw [PyData.depth] at hd; omega
    | _ => cases h
  | k + 1, d, h, hd => by
    cases d with
    | tuple es =>
      cases es with
      | nil => cases h
      | cons x cs =>
        rw [treeB, Bool.and_eq_true, Bool.and_eq_true] at h
        rw [PyData.depth, PyData.depthAll] at hd
        rw [lvB, Bool.and_eq_true]
        refine ⟨?_, ?_⟩
        · show (decide (cs.length ≤ 4) && nameB x) = true
          rw [h.1, h.2.1]; rfl
        · show cs.all (lvB k) = true
          rw [List.all_eq_true]
          intro c m
          have z := h.2.2
          rw [treesB_all, List.all_eq_true] at z
          have := depth_mem m
          exact tree_lvB k c (z c m) (by omega)
    | _ => cases h
theorem lv_treeB : ∀ (k : Nat) (d : PyData), lvB k d = true → treeB d = true
  | 0, _, h => by cases h
  | k + 1, d, h => by
    rw [lvB, Bool.and_eq_true] at h
    cases d with
    | tuple es =>
      cases es with
      | nil => cases h.1
      | cons x cs =>
        have h1 : (decide (cs.length ≤ 4) && nameB x) = true := h.1
        rw [Bool.and_eq_true] at h1
        rw [treeB, h1.1, h1.2, treesB_all]
        show cs.all treeB = true
        have h2 : cs.all (lvB k) = true := h.2
        rw [List.all_eq_true] at h2 ⊢
        exact fun c m => lv_treeB k c (h2 c m)
    | _ => cases h.1
theorem lay_treeB {t : Tr} (h : t.lay = true) : treeB t.d = true := lv_treeB _ _ (tree_lv _ t h (Nat.le_refl _))
theorem treeB_tr {d : PyData} (h : treeB d = true) : ∃ t : Tr, d = t.d ∧ t.lay = true ∧ t.lev ≤ d.depth := lv_tree _ d (tree_lvB _ d h (Nat.le_refl _))
mutual
theorem size_wt : ∀ t : Tr, t.size ≤ wt t.d
  | .node n cs => by
    rw [show (Tr.node n cs).d = .tuple (.str n :: dl cs) from d_node n cs, wt, wts]
    have := sizes_wt cs
    show 1 + Tr.sizes cs ≤ _
    omega
theorem sizes_wt : ∀ cs : List Tr, Tr.sizes cs ≤ wts (dl cs)
  | [] => Nat.zero_le _
  | t :: ts => by
    have a := size_wt t
    have b := sizes_wt ts
    show t.size + Tr.sizes ts ≤ wts (t.d :: dl ts)
    rw [wts]; omega
end
section
variable {P : Program} {w : World} {K : Frag} {mg : Str → Option Value} {base : Heap}
theorem ok_lruleX {f f_it f_lv f_sz : Addr} {fdt fdt_it fdt_lv fdt_sz : FuncData} (D : Df K mg "_law_is_rule" s__law_is_rule P__law_is_rule f fdt) (B : Bi mg) (D__law_is_tree : Df K mg "_law_is_tree" s__law_is_tree P__law_is_tree f_it fdt_it) (D__law_levels : Df K mg "_law_levels" s__law_levels P__law_levels f_lv fdt_lv) (D__law_size : Df K mg "_law_size" s__law_size P__law_size f_sz fdt_sz) : FnOk P w K mg base CX0 62 f fdt P__law_is_rule (spP K gRuleX) := by
  have G__law_is_tree : FnOk P w K mg base CX0 61 _ _ _ _ := ok_ist D__law_is_tree B 60
  have G__law_levels : FnOk P w K mg base CX0 61 _ _ _ _ := ok_llev D__law_levels B 60
  have G__law_size : FnOk P w K mg base CX0 61 _ _ _ _ := ok_size D__law_size B 60
  refine okP D.F sc__law_is_rule (fun ds C h => by obtain ⟨v, rfl, _⟩ := h; rfl) (fun cdv A outer s H E hr => ?_)
  have hr__law_is_tree := hr
  have hr__law_levels := hr
  have hr__law_size := hr
  have hu64 := hr.units
  refine ⟨_, (pss_cons (ps_if (PW.pt (pw_or (pt_not (pt_val (pe_callB call_isX rfl B.isinstance (by decide +kernel) (pa_cons (pv 0) (pa_cons (pe_bltn (v := .ty "tuple") rfl B.tuple (by decide +kernel) rfl) pa_nil))))) (pw_or (pt_cmpR op_ne (pe_callB call_len_seq rfl B.len PySem.boot_len (pa_cons (pv 0) pa_nil)) pe_int (nomark _)) (pw_or (pt_not (pt_val (pe_call G__law_is_tree hr__law_is_tree rfl D__law_is_tree.m D__law_is_tree.F.kp D__law_is_tree.b .nil pass0 (pa_cons (pe_ix ix_tup (pv 0) pe_int (fun _ _ => rfl)) pa_nil)))) (pw_or1 (pt_not (pt_val (pe_call G__law_is_tree hr__law_is_tree rfl D__law_is_tree.m D__law_is_tree.F.kp D__law_is_tree.b .nil pass0 (pa_cons (pe_ix ix_tup (pv 0) pe_int (fun _ _ => rfl)) pa_nil))))))))) (pss_one (ps_ret pe_bl)) pss_nil)
      (pss_cons (ps_if (pt_cmpR op_gt (pe_callB (call_max2 rfl) rfl B.max (by decide +kernel) (pa_cons (pe_call G__law_levels hr__law_levels rfl D__law_levels.m D__law_levels.F.kp D__law_levels.b .nil pass0 (pa_cons (pe_ix ix_tup (pv 0) pe_int (fun _ _ => rfl)) pa_nil)) (pa_cons (pe_call G__law_levels hr__law_levels rfl D__law_levels.m D__law_levels.F.kp D__law_levels.b .nil pass0 (pa_cons (pe_ix ix_tup (pv 0) pe_int (fun _ _ => rfl)) pa_nil)) pa_nil))) pe_int (nomark _)) (pss_one (ps_ret pe_bl)) pss_nil)
      (pss_one (ps_ret (pe_and (pe_cmpR (op_neD hu64) (pe_ix ix_tup (pv 0) pe_int (fun _ _ => rfl)) (pe_ix ix_tup (pv 0) pe_int (fun _ _ => rfl)) (nomark _)) (pe_and (pe_cmpR op_lt (pe_call G__law_size hr__law_size rfl D__law_size.m D__law_size.F.kp D__law_size.b .nil pass0 (pa_cons (pe_ix ix_tup (pv 0) pe_int (fun _ _ => rfl)) pa_nil)) pe_int (nomark _)) (pe_one (pe_cmpR op_lt (pe_call G__law_size hr__law_size rfl D__law_size.m D__law_size.F.kp D__law_size.b .nil pass0 (pa_cons (pe_ix ix_tup (pv 0) pe_int (fun _ _ => rfl)) pa_nil)) pe_int (nomark _))))))))), fun ds C h => ?_⟩
  obtain ⟨d, rfl, hv, hc⟩ := h
  rcases hv with ⟨es, rfl, h1, h2⟩ | ⟨h1, h2⟩
  rotate_left
  · have hc := hc false ⟨fun z => (nomatch z), fun ⟨q, e, _⟩ => absurd e (h1 _)⟩
    exact wpS_seq (wpS_if (wpT_or (wpT_not (wpT_B (wp_isX (wp_var (d := d) rfl ⟨false, h2, false, rfl, (fun _ => ⟨fun _ => wpS_ret (wp_bl hc), fun z => (nomatch z)⟩), fun z => absurd z (by decide)⟩))))))
  refine wpS_seq (wpS_if (wpT_or (wpT_not (wpT_B (wp_isX (wp_var (d := .tuple es) rfl ⟨true, isX_tt, true, rfl, fun z => absurd z (by decide), fun _ => ?_⟩))))))
  refine wpT_or (wpT_test (wp_op (wp_cb (wpA_cons (wp_var (d := .tuple es) rfl (wpA_nil (cad_lenT (wp_int (opd_neI ⟨_, rfl, fun q => ?_, fun q => ?_⟩)))))))))
  · have hne : es.length ≠ 2 := fun z => by rw [z] at q; cases q
    exact ⟨fun _ => wpS_ret (wp_bl (hc false ⟨fun z => (nomatch z), fun ⟨r, e, _⟩ => absurd (by cases e; rfl) hne⟩)), fun z => (nomatch z)⟩
  have he : es.length = 2 := by
    by_cases z : ((es.length : Nat) : Int) = 2
    · omega
    · rw [decide_eq_false z] at q; cases q
  obtain ⟨l, r, rfl⟩ : ∃ l r, es = [l, r] := by
    match es, he with
    | [l, r], _ => exact ⟨l, r, rfl⟩
  obtain ⟨vl, wl⟩ := h2 l (List.mem_cons_self ..)
  obtain ⟨vr, wr⟩ := h2 r (List.mem_cons_of_mem _ (List.mem_cons_self ..))
  have a0 : atI [l, r] 0 = some l := atI_nat' (k := 0) rfl rfl
  have a1 : atI [l, r] 1 = some r := atI_nat' (k := 1) rfl rfl
  have no1 : treeB l = false → C (.bool false) := fun z => hc false ⟨fun y => (nomatch y), fun ⟨q, e, s1, _⟩ => by
    rw [(rd_parts e).1, lay_treeB s1.lay] at z; cases z⟩
  have no2 : treeB r = false → C (.bool false) := fun z => hc false ⟨fun y => (nomatch y), fun ⟨q, e, _, s2, _⟩ => by
    rw [(rd_parts e).2, lay_treeB s2.lay] at z; cases z⟩
  refine wpT_or (wpT_not (wpT_B (wp_call (wpA_cons (wp_op (wp_var (d := .tuple [l, r]) rfl (wp_int (opd_ixT (d := l) a0 (wpA_nil ⟨l, rfl, vl, treeB l, rfl, fun z => ?_, fun z => ?_⟩)))))))))
  · exact ⟨fun _ => wpS_ret (wp_bl (no1 (by simpa using z))), fun z => (nomatch z)⟩
  have tl : treeB l = true := by simpa using z
  refine wpT_not (wpT_B (wp_call (wpA_cons (wp_op (wp_var (d := .tuple [l, r]) rfl (wp_int (opd_ixT (d := r) a1 (wpA_nil ⟨r, rfl, vr, treeB r, rfl, fun z => ?_, fun z => ?_⟩))))))))
  · exact wpS_ret (wp_bl (no2 (by simpa using z)))
  have tr : treeB r = true := by simpa using z
  obtain ⟨t, rfl, tlay, tlev⟩ := treeB_tr tl
  obtain ⟨u, rfl, ulay, ulev⟩ := treeB_tr tr
  have st := size_wt t
  have su := size_wt u
  have dl := vl.dep
  have dr := vr.dep
  refine wpS_next (wpS_seq (wpS_if (wpT_test (wp_op (wp_cb (wpA_cons (wp_call (wpA_cons (wp_op (wp_var (d := .tuple [t.d, u.d]) rfl (wp_int (opd_ixT (d := t.d) a0 (wpA_nil ⟨t, rfl, by omega, by omega, ?_⟩)))))))))))))
  refine wpA_cons (wp_call (wpA_cons (wp_op (wp_var (d := .tuple [t.d, u.d]) rfl (wp_int (opd_ixT (d := u.d) a1 (wpA_nil ⟨u, rfl, by omega, by omega, wpA_nil (cad_max2 (wp_int (opd_ib ⟨_, rfl, fun z => ?_, fun z => ?_⟩)))⟩)))))))
  · have z := of_decide_eq_true z
    refine wpS_ret (wp_bl (hc false ⟨fun y => (nomatch y), fun ⟨q, e, s1, s2, _⟩ => ?_⟩))
    have e1 := d_inj (rd_parts e).1
    have e2 := d_inj (rd_parts e).2
    have := s1.lev
    have := s2.lev
    rw [← e1] at *
    rw [← e2] at *
    split at z <;> omega
  · have z := of_decide_eq_false z
    have l4 : t.lev ≤ 4 ∧ u.lev ≤ 4 := by split at z <;> omega
    have h4 : Sz 4 = 85 := rfl
    have z1 := lev_sz 4 t tlay l4.1
    have z2 := lev_sz 4 u ulay l4.2
    have gt : Gd t := ⟨by omega, by omega, tlay⟩
    have gu : Gd u := ⟨by omega, by omega, ulay⟩
    have fin : ∀ b : Bool, (b = true ↔ t ≠ u ∧ t.size < 7 ∧ u.size < 7) → C (.bool b) := by
      intro b hb
      refine hc b (hb.trans ⟨fun ⟨x, y, z⟩ => ?_, fun ⟨q, e, s1, s2, ne⟩ => ?_⟩)
      · exact ⟨(t, u), rfl, ⟨tlay, l4.1, Nat.le_of_lt_succ y⟩, ⟨ulay, l4.2, Nat.le_of_lt_succ z⟩, x⟩
      · have e1 := d_inj (rd_parts e).1
        have e2 := d_inj (rd_parts e).2
        have := s1.size
        have := s2.size
        rw [e1, e2]
        exact ⟨ne, by omega, by omega⟩
    refine wpS_next (wpS_ret (wp_andV (wp_op (wp_op (wp_var (d := .tuple [t.d, u.d]) rfl (wp_int (opd_ixT (d := t.d) a0 (wp_op (wp_var (d := .tuple [t.d, u.d]) rfl (wp_int (opd_ixT (d := u.d) a1 (opd_neD gt.cmp gu.cmp ⟨_, rfl, fun e => ?_, fun e => ?_⟩))))))))))))
    · have hne : t ≠ u := fun z => by rw [z, eqv_self] at e; cases e
      refine wp_andV (wp_op (wp_call (wpA_cons (wp_op (wp_var (d := .tuple [t.d, u.d]) rfl (wp_int (opd_ixT (d := t.d) a0 (wpA_nil ⟨t, rfl, by omega, by omega, wp_int (opd_ib ⟨_, rfl, fun e => ?_, fun e => ?_⟩)⟩))))))))
      · have e := of_decide_eq_true e
        refine wp_op (wp_call (wpA_cons (wp_op (wp_var (d := .tuple [t.d, u.d]) rfl (wp_int (opd_ixT (d := u.d) a1 (wpA_nil ⟨u, rfl, by omega, by omega, wp_int (opd_ib (fin _ ⟨fun e2 => ?_, fun e2 => ?_⟩))⟩)))))))
        · have e2 := of_decide_eq_true e2
          exact ⟨hne, by omega, by omega⟩
        · exact decide_eq_true (by have := e2.2.2; omega)
      · have e := of_decide_eq_false e
        exact fin _ ⟨fun e2 => (nomatch e2), fun e2 => by have := e2.2.1; omega⟩
    · have heq : t = u := eqv_d t u (by cases w : PyData.eqv t.d u.d with
        | true => rfl
        | false => rw [w] at e; cases e)
      exact fin _ ⟨fun e2 => (nomatch e2), fun e2 => absurd heq e2.1⟩
end
end Gr

namespace Gr
open PySem L2 Evl Dn
abbrev N__law_told : List Str := ["rules", "trees", "found", "left", "right", "tree"]
abbrev P__law_told : List Str := ["rules", "trees"]
theorem sc__law_told : FnScope N__law_told P__law_told (defScope s__law_told) := ⟨rfl, rfl, rfl, by decide +kernel, rfl, by decide +kernel, by decide +kernel⟩
section
variable {P : Program} {w : World} {K : Frag} {mg : Str → Option Value} {base : Heap}
def gLTold : List PyData → (PyData → Prop) → Prop := fun ds C => ∃ rs, ds = [.list (rs.map rd), .list []] ∧ Rw rs ∧ C (.list (dl (told rs)))
theorem ok_Ltold {f f_pa f_or f_sz : Addr} {fdt fdt_pa fdt_or fdt_sz : FuncData} (D : Df K mg "_law_told" s__law_told P__law_told f fdt) (B : Bi mg) (D__law_parts : Df K mg "_law_parts" s__law_parts P__law_parts f_pa fdt_pa) (D__law_ordered : Df K mg "_law_ordered" s__law_ordered P__law_ordered f_or fdt_or) (D__law_size : Df K mg "_law_size" s__law_size P__law_size f_sz fdt_sz) : FnOk P w K mg base CX0 23 f fdt P__law_told (spP K gLTold) := by
  have G__law_parts : FnOk P w K mg base CX0 21 _ _ _ _ := ok_lparts D__law_parts B 20
  have G__law_ordered : FnOk P w K mg base CX0 22 _ _ _ _ := ok_lordered D__law_ordered B D__law_size
  refine okP D.F sc__law_told (fun ds C h => by obtain ⟨rs, rfl, _⟩ := h; rfl) (fun cdv A' outer s H E hr => ?_)
  have hr__law_parts := hr.mono (show 21 ≤ 22 by decide)
  have hr__law_ordered := hr
  refine ⟨_, (pss_cons (ps_set (i := 2) sc__law_told.nd rfl (Or.inl rfl) (pe_lst pa_nil))
      (pss_cons (ps_for PassesOwn.never rfl (pi_list (pv 0)) (pg_tup rfl (pgs_cons (pg_name (i := 3) sc__law_told.nd rfl (Or.inl rfl)) (pgs_cons (pg_name (i := 4) sc__law_told.nd rfl (Or.inl rfl)) pgs_nil))) (pss_one (ps_set (i := 2) sc__law_told.nd rfl (Or.inl rfl) (pe_op op_cat (pe_op op_cat (pv 2) (pe_call G__law_parts hr__law_parts rfl D__law_parts.m D__law_parts.F.kp D__law_parts.b .nil pass0 (pa_cons (pv 3) pa_nil))) (pe_call G__law_parts hr__law_parts rfl D__law_parts.m D__law_parts.F.kp D__law_parts.b .nil pass0 (pa_cons (pv 4) pa_nil))))))
      (pss_cons (ps_for PassesOwn.never rfl (pi_list (pv 1)) (pg_name (i := 5) sc__law_told.nd rfl (Or.inl rfl)) (pss_one (ps_set (i := 2) sc__law_told.nd rfl (Or.inl rfl) (pe_op op_cat (pv 2) (pe_call G__law_parts hr__law_parts rfl D__law_parts.m D__law_parts.F.kp D__law_parts.b .nil pass0 (pa_cons (pv 5) pa_nil))))))
      (pss_one (ps_ret (pe_call G__law_ordered hr__law_ordered rfl D__law_ordered.m D__law_ordered.F.kp D__law_ordered.b .nil pass0 (pa_cons (pv 2) pa_nil))))))), fun ds C h => ?_⟩
  obtain ⟨rs, rfl, hR, hc⟩ := h
  have hz := hR.sizes
  refine wpS_seq (wpS_asg (wpE_new (wpN_lst (wpA_nil ⟨by decide, ?_⟩))))
  refine wpS_seq (wpS_for (wpI_list (wp_var (d := .list (rs.map rd)) rfl ⟨_, rfl, fun i env => ∃ x y : Sl, env = [.dat (.list (rs.map rd)), .dat (.list []), .dat (.list (dl (Tr.partsL (sides (rs.take i))))), x, y, .no], ⟨.no, .no, rfl⟩, ?_, ?_⟩)))
  · rintro i d env e ⟨x, y, rfl⟩
    rw [List.getElem?_map] at e
    cases hq : rs[i]? with
    | none => rw [hq] at e; cases e
    | some q =>
      rw [hq] at e
      have e := (Option.some.inj e).symm
      subst e
      have hm := List.mem_of_getElem? hq
      obtain ⟨g1, g2⟩ := hR.gd q hm
      obtain ⟨s1, s2, _⟩ := hR.sd q hm
      have s1 := s1.lev
      have s2 := s2.lev
      have etk : Tr.partsL (sides (rs.take (i + 1))) = Tr.partsL (sides (rs.take i)) ++ q.1.parts ++ q.2.parts := by
        rw [List.take_add_one, hq]
        show Tr.partsL (sides (rs.take i ++ [q])) = _
        rw [sides_snoc, partsL_app]
        show _ ++ (q.1.parts ++ (q.2.parts ++ [])) = _
        rw [List.append_nil, List.append_assoc]
      have hzt := (hR.sub (List.take_sublist (i + 1) rs)).sizes
      rw [← partsL_len, etk, List.length_append, List.length_append] at hzt
      refine ⟨_, gD_tup (gsD_cons gD_name (gsD_cons gD_name gsD_nil)) rfl, ?_⟩
      refine wpS_asg (wpE_new (wpN_op (wpE_new (wpN_op (wp_var (d := .list (dl (Tr.partsL (sides (rs.take i))))) rfl (wp_call (wpA_cons (wp_var (d := q.1.d) rfl (wpA_nil ⟨q.1, rfl, by omega, g1, ?_⟩)))))))))
      refine opn_cat (by rw [dl_len, dl_len]; omega) (wp_call (wpA_cons (wp_var (d := q.2.d) rfl (wpA_nil ⟨q.2, rfl, by omega, g2, ?_⟩))))
      refine opn_cat (by rw [List.length_append, dl_len, dl_len, dl_len]; omega) ⟨.dat q.1.d, .dat q.2.d, ?_⟩
      rw [etk]
      unfold dl
      rw [List.map_append, List.map_append]
      rfl
  · rintro env ⟨x, y, rfl⟩
    rw [List.length_map, List.take_length]
    refine wpS_seq (wpS_for (wpI_list (wp_var (d := .list []) rfl ⟨_, rfl, fun i env => env = [.dat (.list (rs.map rd)), .dat (.list []), .dat (.list (dl (Tr.partsL (sides rs)))), x, y, .no], rfl, ?_, ?_⟩)))
    · rintro i d env e _
      cases e
    · rintro env rfl
      refine wpS_ret (wp_call (wpA_cons (wp_var (d := .list (dl (Tr.partsL (sides rs)))) rfl (wpA_nil ⟨_, rfl, fun t m => ?_, ?_, hc⟩))))
      · exact partL_gd (fun u hu => by
          obtain ⟨q, hq, e⟩ := mem_sides.mp hu
          rcases e with rfl | rfl
          · exact (hR.gd q hq).1
          · exact (hR.gd q hq).2) m
      · rw [partsL_len]; omega
noncomputable def dueR (xs : List PyData) : PyData := match dueD xs with
  | .inl _ => .none
  | .inr n => .int (n : Nat)
def gFirst : List PyData → (PyData → Prop) → Prop := fun ds C => (∃ d, ds = [d] ∧ isB d "list" = some false ∧ C (.int 0)) ∨ ∃ xs, ds = [.list xs] ∧ (∀ x, x ∈ xs → Rv x) ∧ xs.length ≤ 40 ∧ C (dueR xs)
theorem ok_first5 {f f_ir f_it f_lv f_sz f_to f_pa f_or : Addr} {fdt fdt_ir fdt_it fdt_lv fdt_sz fdt_to fdt_pa fdt_or : FuncData} (D : Df K mg "_law_first" s__law_first P__law_first f fdt) (B : Bi mg) (D__law_is_rule : Df K mg "_law_is_rule" s__law_is_rule P__law_is_rule f_ir fdt_ir) (D__law_is_tree : Df K mg "_law_is_tree" s__law_is_tree P__law_is_tree f_it fdt_it) (D__law_levels : Df K mg "_law_levels" s__law_levels P__law_levels f_lv fdt_lv) (D__law_size : Df K mg "_law_size" s__law_size P__law_size f_sz fdt_sz) (D__law_told : Df K mg "_law_told" s__law_told P__law_told f_to fdt_to) (D__law_parts : Df K mg "_law_parts" s__law_parts P__law_parts f_pa fdt_pa) (D__law_ordered : Df K mg "_law_ordered" s__law_ordered P__law_ordered f_or fdt_or) : FnOk P w K mg base CX0 63 f fdt P__law_first (spP K gFirst) := by
  have G__law_is_rule : FnOk P w K mg base CX0 62 _ _ _ _ := ok_lruleX D__law_is_rule B D__law_is_tree D__law_levels D__law_size
  have G__law_told : FnOk P w K mg base CX0 23 _ _ _ _ := ok_Ltold D__law_told B D__law_parts D__law_ordered D__law_size
  refine okP D.F sc__law_first (fun ds C h => by rcases h with ⟨v, rfl, _⟩ | ⟨v, rfl, _⟩ <;> rfl) (fun cdv A outer s H E hr => ?_)
  have hr__law_is_rule := hr
  have hr__law_told := hr.mono (show 23 ≤ 62 by decide)
  have hu64 := hr.units
  have hu65 := hu65Of hr
  refine ⟨_, (pss_cons (ps_if (PW.pt (pw_or (pt_not (pt_val (pe_callB call_isi rfl B.isinstance (by decide +kernel) (pa_cons (pv 0) (pa_cons (pe_bltn (v := .ty "list") rfl B.list (by decide +kernel) rfl) pa_nil))))) (pw_or1 (pt_cmpR op_gt (pe_callB call_len_seq rfl B.len PySem.boot_len (pa_cons (pv 0) pa_nil)) pe_int (nomark _))))) (pss_one (ps_ret pe_int)) pss_nil)
      (pss_cons (ps_for PassesOwn.never rfl (pi_enum rfl B.enumerate (pa_cons (pv 0) pa_nil)) (pg_tup rfl (pgs_cons (pg_name (i := 1) sc__law_first.nd rfl (Or.inl rfl)) (pgs_cons (pg_name (i := 2) sc__law_first.nd rfl (Or.inl rfl)) pgs_nil))) (pss_one (ps_if (PW.pt (pw_or (pt_not (pt_val (pe_call G__law_is_rule hr__law_is_rule rfl D__law_is_rule.m D__law_is_rule.F.kp D__law_is_rule.b .nil pass0 (pa_cons (pv 2) pa_nil)))) (pw_or (pt_cmpR (op_inD hu65) (pv 2) (pe_slice sl_list (pv 0) po_none (po_some (pv 1))) (by rfl)) (pw_or1 (pt_cmpR op_gt (pe_callB call_len_seq rfl B.len PySem.boot_len (pa_cons (pe_call G__law_told hr__law_told rfl D__law_told.m D__law_told.F.kp D__law_told.b .nil pass0 (pa_cons (pe_slice sl_list (pv 0) po_none (po_some (pe_op op_add (pv 1) pe_int))) (pa_cons (pe_lst pa_nil) pa_nil))) pa_nil)) pe_int (nomark _)))))) (pss_one (ps_ret (pv 1))) pss_nil)))
      (pss_one (ps_ret pe_non)))), fun ds C h => ?_⟩
  rcases h with ⟨d, rfl, hd, hc⟩ | ⟨xs, rfl, hv, hl, hc⟩
  · exact wpS_seq (wpS_if (wpT_or (wpT_not (wpT_B (wp_isi (wp_var (d := d) rfl ⟨false, hd, false, rfl, (fun _ => ⟨fun _ => wpS_ret (wp_int hc), fun z => (nomatch z)⟩), fun z => absurd z (by decide)⟩))))))
  refine wpS_seq (wpS_if (wpT_or (wpT_not (wpT_B (wp_isi (wp_var (d := .list xs) rfl ⟨true, isB_ll, true, rfl, fun z => absurd z (by decide), fun _ => ?_⟩))))))
  refine wpT_test (wp_op (wp_cb (wpA_cons (wp_var (d := .list xs) rfl (wpA_nil (cad_lenL (wp_int (opd_ib ⟨_, rfl, fun z => ?_, fun z => ?_⟩))))))))
  · have z := of_decide_eq_true z
    have e : dueR xs = .int 0 := by unfold dueR dueD; rw [if_pos (by omega)]; rfl
    rw [e] at hc
    exact wpS_ret (wp_int hc)
  have z := of_decide_eq_false z
  have h8 : xs.length ≤ 8 := by omega
  have edue : dueD xs = goD [] xs 0 := by unfold dueD; rw [if_neg (by omega)]
  refine wpS_next (wpS_seq (wpS_for (wpI_enum (wpA_cons (wp_var (d := .list xs) rfl (wpA_nil ⟨_, rfl, fun i env => ∃ (rs : List (Tr × Tr)) (x y : Sl), xs.take i = rs.map rd ∧ Rw rs ∧ dueN rs = none ∧ goD rs (xs.drop i) i = goD [] xs 0 ∧ env = [.dat (.list xs), x, y], ⟨[], .no, .no, rfl, ⟨by decide, (fun q m => (nomatch m)), List.nodup_nil⟩, rfl, rfl, rfl⟩, ?_, fun e z => ?_⟩))))))
  rotate_left
  · obtain ⟨rs, x, y, e1, hR, hdue, hgo, rfl⟩ := z
    rw [enumD_len, List.drop_length, goD] at hgo
    have e : dueR xs = .none := by unfold dueR; rw [edue, ← hgo]
    rw [e] at hc
    exact wpS_ret (wp_non hc)
  rintro i dd env e ⟨rs, x, y, e1, hR, hdue, hgo, rfl⟩
  have hi : i < xs.length := by
    have z := (List.getElem?_eq_some_iff.mp e).1
    rw [enumD_len] at z
    exact z
  obtain ⟨d, hd⟩ : ∃ d, xs[i]? = some d := ⟨_, List.getElem?_eq_getElem hi⟩
  rw [enumD_get hd] at e
  have e := (Option.some.inj e).symm
  subst e
  have hlr : rs.length = i := by
    have z := congrArg List.length e1
    rw [List.length_take, List.length_map] at z
    omega
  have edr : xs.drop i = d :: xs.drop (i + 1) := by
    rw [List.drop_eq_getElem_cons hi]
    congr 1
    exact Option.some.inj (by rw [← List.getElem?_eq_getElem hi, hd])
  have etk : xs.take (i + 1) = rs.map rd ++ [d] := by rw [List.take_add_one, hd, e1]; rfl
  rw [edr, goD] at hgo
  have hgd := hR.gd
  have bad : (¬ ∃ q, Add rs d q) → C (.int (i : Nat)) := fun z => by
    rw [addX_no z] at hgo
    have e : dueR xs = .int (i : Nat) := by unfold dueR; rw [edue, ← hgo]
    rw [e] at hc; exact hc
  have hcut : cut xs none (some (i : Int)) = rs.map rd := by rw [cut_take, e1]
  have hcut1 : cut xs none (some ((i : Int) + 1)) = rs.map rd ++ [d] := by
    rw [show ((i : Int) + 1) = ((i + 1 : Nat) : Int) from rfl, cut_take, etk]
  refine ⟨_, gD_tup (gsD_cons gD_name (gsD_cons gD_name gsD_nil)) rfl, ?_⟩
  refine wpS_if (wpT_or (wpT_not (wpT_B (wp_call (wpA_cons (wp_var (d := d) rfl (wpA_nil ⟨d, rfl, hv d (List.mem_of_getElem? hd), fun b hb => ⟨b, rfl, fun z => ⟨fun _ => ?_, fun z => (nomatch z)⟩, fun z => ?_⟩⟩)))))))
  · have z : b = false := by simpa using z
    exact wpS_ret (wp_var (d := .int (i : Nat)) rfl (bad fun ⟨q, hq⟩ => by rw [hb.mpr ⟨q, hq.1⟩] at z; cases z))
  have z : b = true := by simpa using z
  obtain ⟨ru, rfl, s1, s2, s3⟩ := hb.mp z
  refine wpT_or (wpT_test (wp_op (wp_var (d := rd ru) rfl (wpE_new (wpN_sl (wp_var (d := .list xs) rfl (wpO_none (wpO_some (wp_var (d := .int (i : Nat)) rfl ⟨_, rfl, _, rfl, ?_⟩)))))))))
  rw [hcut]
  refine opd_inD (rd_cmp s1.gd s2.gd) (rds_cmp hgd) ⟨_, rfl, fun z => ⟨fun _ => ?_, fun z => (nomatch z)⟩, fun z => ?_⟩
  · obtain ⟨d2, hd2, he⟩ := List.any_eq_true.mp z
    obtain ⟨q2, hq2, rfl⟩ := List.mem_map.mp hd2
    have e := eqv_rd q2 ru he
    subst e
    have nb : ¬ ∃ q, Add rs (rd q2) q := fun ⟨q, hq⟩ => hq.2.1 (by rw [← rd_inj hq.1.1]; exact hq2)
    exact wpS_ret (wp_var (d := .int (i : Nat)) rfl (bad nb))
  have hnm : ru ∉ rs := fun m => by
    have z2 : ((rs.map rd).any fun e => PyData.eqv e (rd ru)) = true := List.any_eq_true.mpr ⟨rd ru, List.mem_map.mpr ⟨ru, m, rfl⟩, by
      show PyData.eqv (.tuple [ru.1.d, ru.2.d]) (.tuple [ru.1.d, ru.2.d]) = true
      rw [PyData.eqv, PyData.eqvAll, PyData.eqvAll, eqv_self, eqv_self]; rfl⟩
    rw [z2] at z; cases z
  have hR2 := rw_snoc hR ⟨s1, s2, s3⟩ hnm (by omega)
  refine wpT_test (wp_op (wp_cb (wpA_cons (wp_call (wpA_cons (wpE_new (wpN_sl (wp_var (d := .list xs) rfl (wpO_none (wpO_some (wp_op (wp_var (d := .int (i : Nat)) rfl (wp_int (opd_ii ⟨_, rfl, _, rfl, ?_⟩))))))))))))))
  rw [hcut1, show rs.map rd ++ [rd ru] = (rs ++ [ru]).map rd by rw [List.map_append]; rfl]
  refine wpA_cons (wpE_new (wpN_lst (wpA_nil ⟨by decide, wpA_nil ⟨rs ++ [ru], rfl, hR2, wpA_nil (cad_lenL (wp_int (opd_ib ⟨_, rfl, fun z => ?_, fun z => ?_⟩)))⟩⟩)))
  · have z := of_decide_eq_true z
    rw [dl_len] at z
    refine wpS_ret (wp_var (d := .int (i : Nat)) rfl (bad fun ⟨q, hq⟩ => ?_))
    have := rd_inj hq.1.1
    subst this
    have := (none_due hq.2.2).2
    omega
  · have z := of_decide_eq_false z
    rw [dl_len] at z
    have hadd : Add rs (rd ru) ru := ⟨⟨rfl, s1, s2, s3⟩, hnm, due_none (by rw [List.length_append]; show rs.length + 1 ≤ 8; omega) (by omega)⟩
    rw [addX_yes hadd] at hgo
    exact wpS_next ⟨rs ++ [ru], _, _, by rw [etk, List.map_append]; rfl, hR2, hadd.2.2, hgo, rfl⟩
end
end Gr

namespace Gr
open PySem L2 Evl Dn
def tbMade (K : Frag) (A N : Addr) : WX → TS := fun W => tRet (tMakeS A (spIY K A (gInitD N)) (WE W) (tCons (tVar 0) tNil))
def tsMade (N : Addr) : Addr → Value → Option Addr → TS := fun a cls d => tRet (tByX N "number" a cls d (tVar 1))
section
variable {P : Program} {w : World} {K : Frag} {mg : Str → Option Value} {base : Heap} {A N f_in : Addr} {d_in : FuncData}
def gMade (A : Addr) : List PyData → (PyData → Prop) → Prop := fun ds C => (∃ d, ds = [d] ∧ isB d "list" = some false ∧ C (.int 0)) ∨
  ∃ xs, ds = [.list xs] ∧ (∀ x, x ∈ xs → Rv x) ∧ xs.length ≤ 40 ∧ (∀ rs, dueD xs = .inl rs → C (lotD A rs)) ∧ ∀ n, dueD xs = .inr n → C (.int (n : Nat))
theorem ok_made {f fI : Addr} {fdt : FuncData} (D : Df K mg "_law_made" s__law_made P__law_made f fdt) (T : Txt K mg A) (M_Lot : Mk K A f_in) (G_Lot___init__ : FnOk P w K mg base (L2.CX P w) 11 f_in d_in P_Lot___init__ (spIY K A (gInitD N))) (b_Lot___init__ : L2.Binds K d_in P_Lot___init__ [])
    (X_BadLot : XIX.XTxt P K mg "BadLot" "BadLot.__init__" "number" "number" N fI) (hex : PySem.W.exmOne K (.ref N) (.ref N) = some true) : FnOk P w K mg base CX0 13 f fdt P__law_made (spPY K (gMade A)) := by
  have C_Lot := T.cl
  have mg_Lot := T.mg
  refine D.F.ok sc__law_made (fun vs H Q E h => ?_) (fun cdv A' outer s H vs Q E hr h => ?_)
  · obtain ⟨F, ds, C, _, r, g, _⟩ := h
    rw [all_len r]
    rcases g with ⟨d, rfl, _⟩ | ⟨xs, rfl, _⟩ <;> rfl
  have hr_Lot___init__ := hr
  obtain ⟨F, ds, C, th, r, g, q⟩ := h
  obtain ⟨d, rfl⟩ : ∃ d, ds = [d] := by rcases g with ⟨d, rfl, _⟩ | ⟨xs, rfl, _⟩ <;> exact ⟨_, rfl⟩
  obtain ⟨v, rfl⟩ : ∃ v, vs = [v] := by
    cases r with
    | cons a b => cases b; exact ⟨_, rfl⟩
  refine ⟨_, (pss_one (by exact ps_try_as (tb := tbMade K A N) (ts := tsMade N) (Wout := fun _ _ _ _ => False) (i := 1) rfl rfl sc__law_made.nd rfl rfl ⟨rfl, by decide, .inl X_BadLot.gC⟩ takes0 (fun W pn xe tk po => (pss_one (ps_ret (by exact (by exact (by exact (pe_makeS M_Lot G_Lot___init__ hr_Lot___init__ rfl mg_Lot b_Lot___init__ (fun σ => passAt tk σ) (by exact (pa_cons (by exact (pv 0)) pa_nil))))))))) (fun a oe cls d pn hz hf => (pss_one (ps_ret (by exact (by exact (pe_byX X_BadLot hz hf (by exact (pv 1)))))))))), ?_⟩
  refine ⟨v, rfl, fun p dp np ndp ne => ?_⟩
  have st : ∀ a o, H a = some o → (upd (upd H dp (.own p)) p (.ins A dp [])) a = some o := fun a o e => by
    rw [upd_ne (ne_of_none e np), upd_ne (ne_of_none e ndp)]; exact e
  have keep : ∀ H' : Hp, (∀ a o, a ≠ p → (upd (upd H dp (.own p)) p (.ins A dp [])) a = some o → H' a = some o) → ∀ a o, H a = some o → H' a = some o := fun H' kp a o e => kp a o (ne_of_none e np) (st a o e)
  have nf : ¬ (F p ∨ Lsts H p) := fun z => z.elim (fun z => th p z np) fun ⟨xs, z⟩ => by rw [np] at z; cases z
  refine ⟨p, dp, [v], fun a => F a ∨ a = p, [d], fun kvs => C (insD A kvs), fun B fld dv => B = N ∧ fld = "number" ∧ flat dv = true ∧ C dv, rfl, upd_same, .inr rfl, fun a z => ?_, dmonoAll (fun a o e => ?_) r, ?_, fun H' fs kvs kp e rf c => ⟨rfl, ?_⟩, ?_⟩
  · rcases z with z | z
    · cases e : H a with
      | none => exact absurd e (th a z)
      | some o => rw [st a o e]; exact fun c => nomatch c
    · subst z; rw [upd_same]; exact fun c => nomatch c
  · obtain ⟨n, e⟩ := off_some e
    rw [off_ne (S := fun a => F a ∨ a = p) fun z => z.elim n fun z => by rw [z, np] at e; cases e]
    exact st a o e
  · rcases g with ⟨d2, e, hd, hc⟩ | ⟨xs, e, hv, hl, hc, hx⟩
    · exact .inl ⟨d2, e, hd, rfl, rfl, rfl, hc⟩
    · exact .inr ⟨xs, e, hv, hl, hc, fun n z => ⟨rfl, rfl, rfl, hx n z⟩⟩
  · refine q _ H' _ (keep H' kp) (.ins (dx := dp) (fs := fs) ?_ (dmonoFs (off_less fun a z => ?_) rf)) c
    · rw [off_ne (S := fun a => F a ∨ Lsts H a) nf]; exact e
    · rcases z with z | ⟨xs, z⟩
      · exact .inl (.inl z)
      · exact .inr ⟨xs, st a _ z⟩
  · rintro B fld d2 v2 dv H' ⟨rfl, rfl, hf, hc⟩ kp ed rv
    refine ⟨true, hex, fun _ a ha => ?_, fun z => (nomatch z)⟩
    exact ⟨.ref a, rfl, rfl, rfl, d2, v2, rfl, ed, q v2 H' dv (keep H' kp) (dflat hf rv) hc⟩
end
end Gr

namespace Gr
open PySem L2 Evl Dn
mutual
theorem rdb_rdx : ∀ d : PyData, rdb d = true → rdx d = true
  | .none, _ => rfl
  | .bool _, _ => rfl
  | .int _, _ => rfl
  | .str _, _ => rfl
  | .list ds, h => by rw [rdx]; exact rdb_rdxs ds h
  | .tuple ds, h => by rw [rdx]; exact rdb_rdxs ds h
  | .dict kvs, h => by rw [rdx]; exact rdb_rdxKv kvs h
theorem rdb_rdxs : ∀ ds : List PyData, rdbAll ds = true → rdxs ds = true
  | [], _ => rfl
  | d :: ds, h => by
    rw [rdbAll, Bool.and_eq_true] at h
    rw [rdxs, rdb_rdx d h.1, rdb_rdxs ds h.2]; rfl
theorem rdb_rdxKv : ∀ ds : List (PyData × PyData), rdbKv ds = true → rdxKv ds = true
  | [], _ => rfl
  | (.str _, d) :: r, h => by
    rw [rdbKv, Bool.and_eq_true] at h
    rw [rdxKv, rdb_rdx d h.1, rdb_rdxKv r h.2]; rfl
  | (.none, _) :: _, h => by cases h
  | (.bool _, _) :: _, h => by cases h
  | (.int _, _) :: _, h => by cases h
  | (.list _, _) :: _, h => by cases h
  | (.tuple _, _) :: _, h => by cases h
  | (.dict _, _) :: _, h => by cases h
end
/-- what stands in a list that the law may make a lot of -/
structure Nv (d : PyData) : Prop where
  rv : Rv d
  rx : rdx d = true
  sw : d.showable = true
  sl : d.shown.length ≤ 65000
  dep : d.depth ≤ 20
theorem wt_mem : ∀ {ds : List PyData} {d : PyData}, d ∈ ds → Gr.wt d ≤ wts ds
  | a :: ds, d, m => by
    rw [wts]
    rcases List.mem_cons.mp m with rfl | m
    · omega
    · have := wt_mem m; omega
theorem Vx.kids {a b c : Nat} {es : List PyData} (h : Vx a b c (.tuple es)) (ha : a ≤ 50) (hb : b ≤ 20000) : es.length ≤ 1000 ∧ ∀ e, e ∈ es → Vl 60 e ∧ Gr.wt e ≤ 20000 := by
  have hd := h.dep
  have hv : Vl (60 + 1) (.tuple es) := ⟨h.rd, by omega, h.ln⟩
  obtain ⟨h1, h2⟩ := hv.tup
  refine ⟨h1, fun e m => ⟨h2 e m, ?_⟩⟩
  have z := h.wt
  rw [Gr.wt] at z
  have := wt_mem m
  omega
theorem isX_old {d : PyData} (h : rdb d = true) : isX d "tuple" = (tyName d).bind fun n => kitB n "tuple" := by
  unfold isX
  congr 1
  cases d with
  | dict kvs =>
    match kvs, h with
    | [], _ => rfl
    | (.str _, _) :: _, _ => rfl
    | (.none, _) :: _, h => cases h
    | (.bool _, _) :: _, h => cases h
    | (.int _, _) :: _, h => cases h
    | (.list _, _) :: _, h => cases h
    | (.tuple _, _) :: _, h => cases h
    | (.dict _, _) :: _, h => cases h
  | _ => rfl
theorem isX_no {d : PyData} (h : rdb d = true) (hn : ∀ es, d ≠ .tuple es) : isX d "tuple" = some false := by
  rw [isX_old h]
  cases d with
  | tuple es => exact absurd rfl (hn es)
  | none => show kitB "NoneType" "tuple" = _; decide +kernel
  | bool _ => show kitB "bool" "tuple" = _; decide +kernel
  | int _ => show kitB "int" "tuple" = _; decide +kernel
  | str _ => show kitB "str" "tuple" = _; decide +kernel
  | list _ => show kitB "list" "tuple" = _; decide +kernel
  | dict kvs =>
    match kvs, h with
    | [], _ => show kitB "dict" "tuple" = _; decide +kernel
    | (.str _, _) :: _, _ => show kitB "dict" "tuple" = _; decide +kernel
    | (.none, _) :: _, h => cases h
    | (.bool _, _) :: _, h => cases h
    | (.int _, _) :: _, h => cases h
    | (.list _, _) :: _, h => cases h
    | (.tuple _, _) :: _, h => cases h
    | (.dict _, _) :: _, h => cases h
theorem Vx.nv {a b c : Nat} {d : PyData} (h : Vx a b c d) (ha : a ≤ 20) (hb : b ≤ 20000) (hc : c ≤ 65000) : Nv d := by
  refine ⟨?_, rdb_rdx d h.rd, h.sw, Nat.le_trans h.sl hc, Nat.le_trans h.dep ha⟩
  by_cases z : ∃ es, d = .tuple es
  · obtain ⟨es, rfl⟩ := z
    have k := h.kids (by omega) hb
    exact .inl ⟨es, rfl, k.1, k.2⟩
  · exact .inr ⟨fun es e => z ⟨es, e⟩, isX_no h.rd fun es e => z ⟨es, e⟩⟩
theorem nv_pair {c1 c2 : Nat} {x y : PyData} (h1 : Vx 12 2000 c1 x) (h2 : Vx 12 2000 c2 y) (hs : c1 + c2 ≤ 62000) : Nv (.tuple [x, y]) := by
  have hr : rdb (.tuple [x, y]) = true := by
    show (rdb x && (rdb y && true)) = true
    rw [h1.rd, h2.rd]; rfl
  have d1 := h1.dep
  have d2 := h2.dep
  have w1 := h1.wt
  have w2 := h2.wt
  refine ⟨.inl ⟨_, rfl, by simp, fun e m => ?_⟩, rdb_rdx _ hr, ?_, ?_, ?_⟩
  · simp only [List.mem_cons, List.not_mem_nil, or_false] at m
    rcases m with rfl | rfl
    · exact ⟨⟨h1.rd, by omega, h1.ln⟩, by omega⟩
    · exact ⟨⟨h2.rd, by omega, h2.ln⟩, by omega⟩
  · rw [PyData.showable, PyData.showableAll, PyData.showableAll, h1.sw, h2.sw]; rfl
  · rw [PyData.shown]
    have z := PySem.tupleText_len_le (PyData.shownAll [x, y])
    rw [shownAll_len, PyData.shownAll, PyData.shownAll, PyData.shownAll, List.map_cons, List.map_cons, List.map_nil, List.sum_cons, List.sum_cons, List.sum_nil, List.length_cons, List.length_cons, List.length_nil] at z
    rw [PyData.shownAll, PyData.shownAll, PyData.shownAll]
    have := h1.sl
    have := h2.sl
    omega
  · rw [PyData.depth, PyData.depthAll, PyData.depthAll, PyData.depthAll]; omega
theorem nv_of {d : PyData} (h : (d.plain && (rdb d && (decide (d.depth ≤ 12) && (lnB d && (decide (Gr.wt d ≤ 2000) && (d.showable && decide (d.shown.length ≤ 60000))))))) = true) : Nv d := (Pv.of h).vx.nv (by decide) (by decide) (by decide)
/-- a list that the law may make a lot of -/
structure NearOk (xs : List PyData) : Prop where
  len : xs.length ≤ 12
  nv : ∀ x, x ∈ xs → Nv x
  no : xs = [] ∨ ∃ x, x ∈ xs ∧ ∀ z, x ≠ .str z
theorem NearOk.text {xs : List PyData} (h : NearOk xs) {nm : List Str} (hn : nm ≠ []) : nm.map PyData.str ≠ xs := fun e => by
  rcases h.no with z | ⟨x, m, z⟩
  · rw [z] at e
    exact hn (List.map_eq_nil_iff.mp e)
  · rw [← e] at m
    obtain ⟨y, _, rfl⟩ := List.mem_map.mp m
    exact z y rfl
abbrev deepP : PyData := .tuple [.str "y", .tuple [.str "y", .tuple [.str "y", .tuple [.str "z"]], .tuple [.str "s"]], .tuple [.str "r"]]
abbrev wideP : PyData := .tuple [.str "x", .tuple [.str "w"], .tuple [.str "v", .tuple [.str "u"]], .tuple [.str "t"]]
abbrev lessP : PyData := .tuple [.str "y", .tuple [.str "y", .tuple [.str "y", .tuple [.str "z"]]], .tuple [.str "r"]]
def smP : List PyData := [.tuple [deepP, .tuple [.str "a"]], .tuple [wideP, .tuple [.str "b"]], .tuple [.tuple [.str "a"], wideP], .tuple [wideP, deepP], .tuple [.tuple [.str "q", deepP], .tuple [.str "a"]], .tuple [deepP, .tuple [.str "y", .tuple [.str "y", .tuple [.str "z"]], .tuple [.str "s"]]]]
structure Nw (x : PyData) : Prop where
  nv : Nv x
  ns : ∀ z, x ≠ .str z
theorem near_of {xs : List PyData} (hl : xs.length ≤ 12) (h : ∀ x, x ∈ xs → Nw x) : NearOk xs := by
  refine ⟨hl, fun x m => (h x m).nv, ?_⟩
  cases xs with
  | nil => exact .inl rfl
  | cons x xs => exact .inr ⟨x, List.mem_cons_self .., (h x (List.mem_cons_self ..)).ns⟩
theorem cut_sub5 {α : Type} (l : List α) (a b : Option Int) : ∀ x, x ∈ cut l a b → x ∈ l := fun x m => List.mem_of_mem_drop (List.mem_of_mem_take m)
theorem cut_le5 {α : Type} (l : List α) (a b : Option Int) : (cut l a b).length ≤ l.length := by
  unfold cut
  rw [List.length_take, List.length_drop]; omega
theorem sm_nv : ∀ x, x ∈ smP → Nw x := fun x m => by
  unfold smP at m
  simp only [List.mem_cons, List.not_mem_nil, or_false] at m
  rcases m with rfl | rfl | rfl | rfl | rfl | rfl <;> exact ⟨nv_of (by decide +kernel), fun z e => (nomatch e)⟩
abbrev azW : Str := "abcdefghijklmnopqrstuvwxyz"
theorem azw_at {k : Nat} (h : k < 26) : atI azW.cps.toList (k : Int) = some (97 + k) := by
  have key : ∀ k : Fin 26, atI azW.cps.toList ((k.1 : Nat) : Int) = some (97 + k.1) := by decide +kernel
  exact key ⟨k, h⟩
def wE (k : Nat) : PyData := .tuple [.tuple [.str ⟨#[97 + 2 * k]⟩], .tuple [.str ⟨#[98 + 2 * k]⟩]]
def wEs : List PyData := (List.range 8).map wE
theorem we_nv : ∀ x, x ∈ wEs → Nw x := fun x m => by
  unfold wEs at m
  rw [show List.range 8 = [0, 1, 2, 3, 4, 5, 6, 7] from rfl] at m
  simp only [List.map_cons, List.map_nil, List.mem_cons, List.not_mem_nil, or_false] at m
  rcases m with rfl | rfl | rfl | rfl | rfl | rfl | rfl | rfl <;> exact ⟨nv_of (by decide +kernel), fun z e => (nomatch e)⟩
section
variable {P : Program} {w : World} {K : Frag} {mg : Str → Option Value} {base : Heap}
local macro_rules | `(tactic| decreasing_trivial) => `(tactic| with_reducible first
  | refine wpA_cons ?_
  | refine (wpA_nil ⟨by (first | decide | simp), ?_⟩)
  | refine wp_str ?_
  | refine wp_int ?_
  | refine wp_non ?_
  | refine wp_tup ?_
  | refine wpE_new (wpN_lst ?_))
def gWide5 : List PyData → (PyData → Prop) → Prop := fun ds C => ds = [] ∧ ∀ xs, NearOk xs → C (.list xs)
theorem ok_wide5 {f f_tk f_pk : Addr} {fdt fdt_tk fdt_pk : FuncData} (D : Df K mg "_law_wide" s__law_wide P__law_wide f fdt) (B : Bi mg) (D__law_take : Df K mg "_law_take" s__law_take P__law_take f_tk fdt_tk) (D__law_pick : Df K mg "_law_pick" s__law_pick P__law_pick f_pk fdt_pk) : FnOk P w K mg base CX0 3 f fdt P__law_wide (spF K gWide5) := by
  have G__law_pick : FnOk P w K mg base CX0 2 _ _ _ _ := ok_pick D__law_pick B D__law_take
  refine okF D.F sc__law_wide (fun ds C h => by obtain ⟨rfl, _⟩ := h; rfl) (fun cdv A outer s H E hr => ?_)
  have hr__law_pick := hr
  refine ⟨_, (pss_cons (ps_set (i := 1) sc__law_wide.nd rfl (Or.inr rfl) pe_str)
      (pss_cons (ps_setLc (i := 2) rfl sc__law_wide.nd rfl rfl (sw_true rfl rfl rfl (by decide +kernel)) (pi_range1 rfl B.range (pa_cons pe_int pa_nil)) (blkOk_by (own := [("at", 8)]) (N := N__law_wide) (sc := defScope s__law_wide) (by decide +kernel)) (fun _ _ _ _ _ => (pg_name (i := 8) sc__law_wide.nd rfl (Or.inl rfl))) (fun _ _ _ _ _ => pts_nil) (fun _ _ _ _ _ => (pe_tup (pa_cons (pe_tup (pa_cons (pe_ix ix_str (pv 1) (pe_op op_mul pe_int (pv 8)) (fun _ _ => rfl)) pa_nil)) (pa_cons (pe_tup (pa_cons (pe_ix ix_str (pv 1) (pe_op op_add (pe_op op_mul pe_int (pv 8)) pe_int) (fun _ _ => rfl)) pa_nil)) pa_nil)))))
      (pss_cons (ps_asg (pe_tup (pa_cons (pe_tup (pa_cons pe_str (pa_cons (pe_tup (pa_cons pe_str (pa_cons (pe_tup (pa_cons pe_str (pa_cons (pe_tup (pa_cons pe_str pa_nil)) pa_nil))) (pa_cons (pe_tup (pa_cons pe_str pa_nil)) pa_nil)))) (pa_cons (pe_tup (pa_cons pe_str pa_nil)) pa_nil)))) (pa_cons (pe_tup (pa_cons pe_str (pa_cons (pe_tup (pa_cons pe_str pa_nil)) (pa_cons (pe_tup (pa_cons pe_str (pa_cons (pe_tup (pa_cons pe_str pa_nil)) pa_nil))) (pa_cons (pe_tup (pa_cons pe_str pa_nil)) pa_nil))))) pa_nil))) (pg_tup rfl (pgs_cons (pg_name (i := 3) sc__law_wide.nd rfl (Or.inl rfl)) (pgs_cons (pg_name (i := 4) sc__law_wide.nd rfl (Or.inl rfl)) pgs_nil))))
      (pss_cons (ps_set (i := 5) sc__law_wide.nd rfl (Or.inl rfl) (pe_lst (pa_cons (pe_tup (pa_cons (pv 3) (pa_cons (pe_tup (pa_cons pe_str pa_nil)) pa_nil))) (pa_cons (pe_tup (pa_cons (pv 4) (pa_cons (pe_tup (pa_cons pe_str pa_nil)) pa_nil))) (pa_cons (pe_tup (pa_cons (pe_tup (pa_cons pe_str pa_nil)) (pa_cons (pv 4) pa_nil))) (pa_cons (pe_tup (pa_cons (pv 4) (pa_cons (pv 3) pa_nil))) (pa_cons (pe_tup (pa_cons (pe_tup (pa_cons pe_str (pa_cons (pv 3) pa_nil))) (pa_cons (pe_tup (pa_cons pe_str pa_nil)) pa_nil))) (pa_cons (pe_tup (pa_cons (pv 3) (pa_cons (pe_ix ix_tup (pv 3) pe_int (fun _ _ => rfl)) pa_nil))) pa_nil))))))))
      (pss_cons (ps_set (i := 6) sc__law_wide.nd rfl (Or.inl rfl) (pe_lst (pa_cons (pv 2) (pa_cons (pe_op op_cat (pe_slice sl_list (pv 2) po_none (po_some pe_int)) (pe_slice sl_list (pv 5) po_none (po_some pe_int))) (pa_cons (pe_op op_cat (pe_slice sl_list (pv 2) po_none (po_some pe_int)) (pe_slice sl_list (pv 5) (po_some pe_int) (po_some pe_int))) (pa_cons (pv 5) (pa_cons (pe_op op_cat (pv 2) (pe_slice sl_list (pv 5) po_none (po_some pe_int))) (pa_cons (pe_op op_cat (pe_slice sl_list (pv 2) po_none (po_some pe_int)) (pe_slice sl_list (pv 5) (po_some pe_int) po_none)) pa_nil))))))))
      (pss_cons (ps_set (i := 7) sc__law_wide.nd rfl (Or.inl rfl) (pe_tup (pa_cons pe_str (pa_cons (pe_tup (pa_cons pe_str (pa_cons (pe_tup (pa_cons pe_str (pa_cons (pe_tup (pa_cons pe_str pa_nil)) pa_nil))) pa_nil))) (pa_cons (pe_tup (pa_cons pe_str pa_nil)) pa_nil)))))
      (pss_cons (ps_set (i := 6) sc__law_wide.nd rfl (Or.inl rfl) (pe_op op_cat (pv 6) (pe_op op_rep (pe_lst (pa_cons (pe_op op_cat (pe_slice sl_list (pv 2) po_none (po_some pe_int)) (pe_lst (pa_cons (pe_tup (pa_cons (pv 4) (pa_cons (pv 3) pa_nil))) pa_nil))) (pa_cons (pe_op op_cat (pe_slice sl_list (pv 2) po_none (po_some pe_int)) (pe_lst (pa_cons (pe_tup (pa_cons (pv 4) (pa_cons (pv 7) pa_nil))) pa_nil))) (pa_cons (pe_op op_cat (pe_slice sl_list (pv 2) po_none (po_some pe_int)) (pe_lst (pa_cons (pe_tup (pa_cons (pv 4) (pa_cons (pe_tup (pa_cons pe_str (pa_cons (pv 7) pa_nil))) pa_nil))) pa_nil))) pa_nil)))) pe_int)))
      (pss_one (ps_ret (pe_call G__law_pick hr__law_pick rfl D__law_pick.m D__law_pick.F.kp D__law_pick.b .nil pass0 (pa_cons (pv 0) (pa_cons (pv 6) pa_nil)))))))))))), fun p ds C h => ?_⟩
  obtain ⟨rfl, hc⟩ := h
  refine wpS_seq (wpS_asg (wp_str ?_))
  refine wpS_cut (R := fun e => e = [.fed p, .dat (.str azW), .dat (.list wEs), .no, .no, .no, .no, .no, .no]) ?_ ?_
  · refine wpS_asg (wpE_new (wpN_lc (wpI_rng1 (wpA_cons (wp_int (wpA_nil ⟨8, rfl, by decide, by decide, fun i acc => acc = wEs.take i, rfl, ?_, ?_⟩))))))
    · rintro i d acc e rfl
      have hi : i < 8 := by
        have z := (List.getElem?_eq_some_iff.mp e).1
        rw [rng_len] at z
        exact z
      rw [rng_get (by show i < 8; exact hi)] at e
      have e := (Option.some.inj e).symm
      subst e
      have e1 := azw_at (k := 2 * i) (by omega)
      have e2 := azw_at (k := 2 * i + 1) (by omega)
      have c1 : (2 : Int) * (0 + (i : Int)) = ((2 * i : Nat) : Int) := by omega
      have c2 : (2 : Int) * (0 + (i : Int)) + 1 = ((2 * i + 1 : Nat) : Int) := by omega
      refine ⟨_, gD_name, by simp, wpT_yes ⟨fun _ => ?_, fun z => (nomatch z)⟩⟩
      refine wp_tup (wpA_cons (wp_tup (wpA_cons (wp_op (wp_var (d := .str azW) rfl (wp_op (wp_int (wp_var (d := .int (0 + (i : Int))) rfl (opd_I (.inl (by decide)) ?_)))))))))
      rw [c1]
      refine opd_ixS (by decide +kernel) e1 (wpA_nil ⟨(by show 1 ≤ 100000; decide), ?_⟩)
      refine wpA_cons (wp_tup (wpA_cons (wp_op (wp_var (d := .str azW) rfl (wp_op (wp_op (wp_int (wp_var (d := .int (0 + (i : Int))) rfl (opd_I (.inl (by decide)) (wp_int (opd_ii ?_)))))))))))
      rw [c2]
      refine opd_ixS (by decide +kernel) e2 (wpA_nil ⟨(by show 1 ≤ 100000; decide), wpA_nil ⟨(by show 2 ≤ 100000; decide), ?_, ?_⟩⟩)
      · rw [List.length_take]; omega
      · have eg : wEs[i]? = some (wE i) := by
          unfold wEs
          rw [List.getElem?_map, List.getElem?_range hi]; rfl
        show _ = wEs.take (i + 1)
        rw [List.take_add_one, eg]
        show _ = _ ++ [wE i]
        unfold wE
        rw [show 98 + 2 * i = 97 + (2 * i + 1) by omega]
        first | done | rfl
    · rintro acc rfl
      rfl
  rintro env rfl
  refine wpS_seq (wpS_asgT (wp_tup ?_))
  repeat decreasing_trivial
  refine ⟨_, gD_tup (gsD_cons gD_name (gsD_cons gD_name gsD_nil)) rfl, ?_⟩
  refine wpS_cut (R := fun e => e = [.fed p, .dat (.str azW), .dat (.list wEs), .dat deepP, .dat wideP, .dat (.list smP), .no, .no, .no]) ?_ ?_
  · refine wpS_asg (wpE_new (wpN_lst ?_))
    refine wpA_cons (wp_tup (wpA_cons (wp_var (d := deepP) rfl ?_)))
    repeat decreasing_trivial
    refine wp_var (d := wideP) rfl ?_
    repeat decreasing_trivial
    refine wp_var (d := wideP) rfl ?_
    repeat decreasing_trivial
    refine wp_var (d := wideP) rfl (wpA_cons (wp_var (d := deepP) rfl ?_))
    repeat decreasing_trivial
    refine wp_var (d := deepP) rfl ?_
    repeat decreasing_trivial
    refine wp_var (d := deepP) rfl (wpA_cons (wp_op (wp_var (d := deepP) rfl (wp_int (opd_ixT (d := .tuple [.str "y", .tuple [.str "y", .tuple [.str "z"]], .tuple [.str "s"]]) (atI_nat' (k := 1) rfl rfl) ?_)))))
    repeat decreasing_trivial
    rfl
  rintro env rfl
  have w6 : wEs.length = 8 := rfl
  have s6 : smP.length = 6 := rfl
  have two : ∀ {a b c d : Option Int}, (cut wEs a b).length + (cut smP c d).length ≤ 12 → NearOk (cut wEs a b ++ cut smP c d) := fun {a b c d} hl => near_of (by rw [List.length_append]; exact hl) fun x m => (List.mem_append.mp m).elim (fun m => we_nv x (cut_sub5 _ _ _ x m)) fun m => sm_nv x (cut_sub5 _ _ _ x m)
  refine wpS_cut (R := fun e => ∃ L : List PyData, L.length = 6 ∧ (∀ d, d ∈ L → ∃ xs, d = .list xs ∧ NearOk xs) ∧ e = [.fed p, .dat (.str azW), .dat (.list wEs), .dat deepP, .dat wideP, .dat (.list smP), .dat (.list L), .no, .no]) ?_ ?_
  · refine wpS_asg (wpE_new (wpN_lst (wpA_cons (wp_var (d := .list wEs) rfl (wpA_cons (wpE_new (wpN_op (wpE_new (wpN_sl (wp_var (d := .list wEs) rfl (wpO_none (wpO_some (wp_int ⟨_, rfl, _, rfl, wpE_new (wpN_sl (wp_var (d := .list smP) rfl (wpO_none (wpO_some (wp_int ⟨_, rfl, _, rfl, opn_cat (by decide) ?_⟩)))))⟩)))))))))))))
    refine wpA_cons (wpE_new (wpN_op (wpE_new (wpN_sl (wp_var (d := .list wEs) rfl (wpO_none (wpO_some (wp_int ⟨_, rfl, _, rfl, wpE_new (wpN_sl (wp_var (d := .list smP) rfl (wpO_some (wp_int ⟨_, rfl, wpO_some (wp_int ⟨_, rfl, _, rfl, opn_cat (by decide) ?_⟩)⟩))))⟩))))))))
    refine wpA_cons (wp_var (d := .list smP) rfl (wpA_cons (wpE_new (wpN_op (wp_var (d := .list wEs) rfl (wpE_new (wpN_sl (wp_var (d := .list smP) rfl (wpO_none (wpO_some (wp_int ⟨_, rfl, _, rfl, opn_cat (by decide) ?_⟩)))))))))))
    refine wpA_cons (wpE_new (wpN_op (wpE_new (wpN_sl (wp_var (d := .list wEs) rfl (wpO_none (wpO_some (wp_int ⟨_, rfl, _, rfl, wpE_new (wpN_sl (wp_var (d := .list smP) rfl (wpO_some (wp_int ⟨_, rfl, wpO_none ⟨_, rfl, opn_cat (by decide) ?_⟩⟩))))⟩))))))))
    refine wpA_nil ⟨by decide, _, rfl, fun d m => ?_, rfl⟩
    simp only [List.mem_cons, List.not_mem_nil, or_false] at m
    rcases m with rfl | rfl | rfl | rfl | rfl | rfl
    · exact ⟨_, rfl, near_of (by decide) we_nv⟩
    · exact ⟨_, rfl, two (by decide)⟩
    · exact ⟨_, rfl, two (by decide)⟩
    · exact ⟨_, rfl, near_of (by decide) sm_nv⟩
    · exact ⟨_, rfl, near_of (by decide) fun x m => (List.mem_append.mp m).elim (we_nv x) fun m => sm_nv x (cut_sub5 _ _ _ x m)⟩
    · exact ⟨_, rfl, two (by decide)⟩
  rintro env ⟨L, hL, hLk, rfl⟩
  refine wpS_seq (wpS_asg (wp_tup ?_))
  repeat decreasing_trivial
  have w7 : cut wEs none (some 7) = wEs.take 7 := cut_take wEs 7
  have hk : (cut wEs none (some 7)).length = 7 := by rw [w7]; rfl
  have nt : ∀ {d : PyData}, Nw d → NearOk (cut wEs none (some 7) ++ [d]) := fun {d} hd => near_of (by rw [List.length_append, hk]; show 7 + 1 ≤ 12; decide) fun x m => (List.mem_append.mp m).elim (fun m => we_nv x (cut_sub5 _ _ _ x m)) fun m => by rw [List.mem_singleton.mp m]; exact hd
  refine wpS_seq (wpS_asg (wpE_new (wpN_op (wp_var (d := .list L) rfl (wpE_new (wpN_op (wpE_new (wpN_lst ?_))))))))
  refine wpA_cons (wpE_new (wpN_op (wpE_new (wpN_sl (wp_var (d := .list wEs) rfl (wpO_none (wpO_some (wp_int ⟨_, rfl, _, rfl, ?_⟩))))))))
  refine wpE_new (wpN_lst (wpA_cons (wp_tup (wpA_cons (wp_var (d := wideP) rfl (wpA_cons (wp_var (d := deepP) rfl (wpA_nil ⟨by decide, wpA_nil ⟨by decide, opn_cat (by rw [hk]; decide) ?_⟩⟩))))))))
  refine wpA_cons (wpE_new (wpN_op (wpE_new (wpN_sl (wp_var (d := .list wEs) rfl (wpO_none (wpO_some (wp_int ⟨_, rfl, _, rfl, ?_⟩))))))))
  refine wpE_new (wpN_lst (wpA_cons (wp_tup (wpA_cons (wp_var (d := wideP) rfl (wpA_cons (wp_var (d := lessP) rfl (wpA_nil ⟨by decide, wpA_nil ⟨by decide, opn_cat (by rw [hk]; decide) ?_⟩⟩))))))))
  refine wpA_cons (wpE_new (wpN_op (wpE_new (wpN_sl (wp_var (d := .list wEs) rfl (wpO_none (wpO_some (wp_int ⟨_, rfl, _, rfl, ?_⟩))))))))
  refine wpE_new (wpN_lst (wpA_cons (wp_tup (wpA_cons (wp_var (d := wideP) rfl (wpA_cons (wp_tup (wpA_cons (wp_str (wpA_cons (wp_var (d := lessP) rfl (wpA_nil ⟨by decide, wpA_nil ⟨by decide, wpA_nil ⟨by decide, opn_cat (by rw [hk]; decide) ?_⟩⟩⟩))))))))))))
  refine wpA_nil ⟨by decide, wp_int (opn_repL2 (by decide) (by decide) (by simp) ?_)⟩
  generalize hM : (List.replicate (Int.toNat 2) _).flatten = M
  have hMk : M.length = 6 ∧ ∀ d, d ∈ M → ∃ xs, d = .list xs ∧ NearOk xs := by
    subst hM
    refine ⟨rfl, fun d m => ?_⟩
    obtain ⟨l, ml, m⟩ := List.mem_flatten.mp m
    rw [List.eq_of_mem_replicate ml] at m
    simp only [List.mem_cons, List.not_mem_nil, or_false] at m
    rcases m with rfl | rfl | rfl
    · exact ⟨_, rfl, nt ⟨nv_of (by decide +kernel), fun z e => (nomatch e)⟩⟩
    · exact ⟨_, rfl, nt ⟨nv_of (by decide +kernel), fun z e => (nomatch e)⟩⟩
    · exact ⟨_, rfl, nt ⟨nv_of (by decide +kernel), fun z e => (nomatch e)⟩⟩
  refine opn_cat (by rw [hL, hMk.1]; decide) ?_
  refine wpS_ret (wp_callF rfl rfl (wpA_cons (wp_var (d := .list (L ++ M)) rfl (wpA_nil ⟨_, rfl, fun z => ?_, by rw [List.length_append, hL, hMk.1]; decide, fun d m => ?_⟩))))
  · have e := congrArg List.length z
    rw [List.length_append, hL, hMk.1] at e
    cases e
  · obtain ⟨xs, rfl, hx⟩ := (List.mem_append.mp m).elim (hLk d) (hMk.2 d)
    exact hc xs hx
end
end Gr

namespace Gr
open PySem L2 Evl Dn
theorem tpl_d : ∀ t : Tr, tpl t.d = true
  | .node n cs => by
    have key : ∀ cs : List Tr, (∀ c, c ∈ cs → tpl c.d = true) → tplAll (cs.map Tr.d) = true := fun cs h => tplAll_of fun d m => by
      obtain ⟨c, hc, rfl⟩ := List.mem_map.mp m
      exact h c hc
    rw [d_node, tpl, tplAll, key cs fun c hc => tpl_d c]; rfl
mutual
theorem key_d : ∀ t : Tr, keyB t.d = true
  | .node n cs => by
    rw [d_node, keyB, keyBs, keyBs_d cs]; rfl
theorem keyBs_d : ∀ cs : List Tr, keyBs (cs.map Tr.d) = true
  | [] => rfl
  | c :: cs => by rw [List.map_cons, keyBs, key_d c, keyBs_d cs]; rfl
end
/-- a rule as drawn -/
def Nr (x : PyData) : Prop := ∃ q : Tr × Tr, x = rd q ∧ Gd q.1 ∧ Gd q.2 ∧ q.1.size ≤ 7 ∧ q.2.size ≤ 7
theorem tr_vx {t : Tr} (h : Gd t) (hs : t.size ≤ 7) : Vx 12 2000 1000 t.d := by
  have l := lev_size t
  exact ((tr_pv t h.lay).mono (by omega) (by omega) (by omega)).vx
theorem Nr.nw {x : PyData} (h : Nr x) : Nw x := by
  obtain ⟨q, rfl, g1, g2, s1, s2⟩ := h
  exact ⟨nv_pair (tr_vx g1 s1) (tr_vx g2 s2) (by decide), fun z e => (nomatch e)⟩
theorem Nr.tp {x : PyData} (h : Nr x) : tpl x = true := by
  obtain ⟨q, rfl, _⟩ := h
  show tpl (.tuple [q.1.d, q.2.d]) = true
  rw [tpl, tplAll, tplAll, tpl_d, tpl_d]; rfl
theorem Nr.cm {x : PyData} (h : Nr x) : Dn.plain x = true ∧ x.canLay0 = true ∧ x.depth ≤ 60 := by
  obtain ⟨q, rfl, g1, g2, _⟩ := h
  exact rd_three g1 g2
theorem nw_one {l r : PyData} (h1 : Vx 12 2000 1000 l) (h2 : Vx 12 2000 1000 r) {ks : List PyData} (e : l = .tuple ks) : Nw (.dict [(.tuple ks, r)]) := by
  subst e
  have d1 := h1.dep
  have d2 := h2.dep
  refine ⟨⟨.inr ⟨fun es e => (nomatch e), ?_⟩, ?_, ?_, ?_, ?_⟩, fun z e => (nomatch e)⟩
  · show kitB "dict" "tuple" = _; decide +kernel
  · have a := rdb_rdx _ h1.rd
    rw [rdx] at a
    rw [rdx, rdxKv, a, rdb_rdx _ h2.rd]; rfl
  · rw [PyData.showable, PyData.showableKv, PyData.showableKv, h1.sw, h2.sw]; rfl
  · rw [PyData.shown, PyData.shownKv, PyData.shownKv]
    have x := PySem.dictText_len_le [(PyData.tuple ks).shown ++ (Str.ofString ": ") ++ r.shown]
    rw [List.map_cons, List.map_nil, List.sum_cons, List.sum_nil, List.length_cons, List.length_nil, PySem.strLen_append, PySem.strLen_append, show (Str.ofString ": ").length = 2 from by decide +kernel] at x
    have := h1.sl
    have := h2.sl
    omega
  · rw [PyData.depth, PyData.depthKv, PyData.depthKv]; omega
theorem flat1' {α : Type} (d : α) (n : Nat) : (List.replicate n [d]).flatten = List.replicate n d := by
  induction n with
  | zero => rfl
  | succ n ih => rw [List.replicate_succ, List.flatten_cons, ih, List.replicate_succ]; rfl
def gNear : List PyData → (PyData → Prop) → Prop := fun ds C => ∃ nm : List Str, ds = [.list (nm.map PyData.str)] ∧ nm.length = 6 ∧ (∀ x, x ∈ nm → nOk x = true) ∧ ∀ xs, NearOk xs → C (.list xs)
section
variable {P : Program} {w : World} {K : Frag} {mg : Str → Option Value} {base : Heap}
theorem ok_near {f f_wi f_od f_ru f_tr f_gr f_tk f_pk f_sz : Addr} {fdt fdt_wi fdt_od fdt_ru fdt_tr fdt_gr fdt_tk fdt_pk fdt_sz : FuncData} (D : Df K mg "_law_near" s__law_near P__law_near f fdt) (B : Bi mg) (D__law_wide : Df K mg "_law_wide" s__law_wide P__law_wide f_wi fdt_wi) (D__law_odd : Df K mg "_law_odd" s__law_odd P__law_odd f_od fdt_od) (D__law_rules : Df K mg "_law_rules" s__law_rules P__law_rules f_ru fdt_ru) (D__law_tree : Df K mg "_law_tree" s__law_tree P__law_tree f_tr fdt_tr) (D__law_grow : Df K mg "_law_grow" s__law_grow P__law_grow f_gr fdt_gr) (D__law_take : Df K mg "_law_take" s__law_take P__law_take f_tk fdt_tk) (D__law_pick : Df K mg "_law_pick" s__law_pick P__law_pick f_pk fdt_pk) (D__law_size : Df K mg "_law_size" s__law_size P__law_size f_sz fdt_sz) : FnOk P w K mg base CX0 23 f fdt P__law_near (spF K gNear) := by
  have G__law_take : FnOk P w K mg base CX0 1 _ _ _ _ := ok_take D__law_take B
  have G__law_pick : FnOk P w K mg base CX0 2 _ _ _ _ := ok_pick D__law_pick B D__law_take
  have G__law_wide : FnOk P w K mg base CX0 3 _ _ _ _ := ok_wide5 D__law_wide B D__law_take D__law_pick
  have G__law_odd : FnOk P w K mg base CX0 3 _ _ _ _ := ok_oddV D__law_odd B D__law_take D__law_pick
  have G__law_tree : FnOk P w K mg base CX0 10 _ _ _ _ := ok_tree D__law_tree B D__law_grow D__law_take D__law_pick
  have G__law_rules : FnOk P w K mg base CX0 22 _ _ _ _ := ok_lrules2 D__law_rules B D__law_tree D__law_grow D__law_take D__law_pick D__law_size
  refine okF D.F sc__law_near (fun ds C h => by obtain ⟨nm, rfl, _⟩ := h; rfl) (fun cdv A outer s H E hr => ?_)
  have hr__law_take := hr.mono (show 1 ≤ 22 by decide)
  have hr__law_pick := hr.mono (show 2 ≤ 22 by decide)
  have hr__law_wide := hr.mono (show 3 ≤ 22 by decide)
  have hr__law_odd := hr.mono (show 3 ≤ 22 by decide)
  have hr__law_tree := hr.mono (show 10 ≤ 22 by decide)
  have hr__law_rules := hr
  have hu64 := hr.units
  refine ⟨_, (pss_cons (ps_set (i := 2) sc__law_near.nd rfl (Or.inl rfl) (pe_call G__law_take hr__law_take rfl D__law_take.m D__law_take.F.kp D__law_take.b .nil pass0 (pa_cons (pv 0) (pa_cons pe_int pa_nil))))
      (pss_cons (ps_if (pt_cmpR op_eq (pv 2) pe_int (nomark _)) (pss_one (ps_ret (pe_call G__law_wide hr__law_wide rfl D__law_wide.m D__law_wide.F.kp D__law_wide.b .nil pass0 (pa_cons (pv 0) pa_nil)))) pss_nil)
      (pss_cons (ps_set (i := 3) sc__law_near.nd rfl (Or.inl rfl) (pe_call G__law_rules hr__law_rules rfl D__law_rules.m D__law_rules.F.kp D__law_rules.b .nil pass0 (pa_cons (pv 0) (pa_cons (pv 1) (pa_cons (pe_op op_add pe_int (pe_call G__law_take hr__law_take rfl D__law_take.m D__law_take.F.kp D__law_take.b .nil pass0 (pa_cons (pv 0) (pa_cons pe_int pa_nil)))) (pa_cons (pe_call G__law_pick hr__law_pick rfl D__law_pick.m D__law_pick.F.kp D__law_pick.b .nil pass0 (pa_cons (pv 0) (pa_cons (pe_lst (pa_cons pe_int (pa_cons pe_int (pa_cons pe_int (pa_cons pe_int pa_nil))))) pa_nil))) (pa_cons pe_bl pa_nil)))))))
      (pss_cons (ps_if (PW.pt (pw_and (pt_cmpR (op_neD hu64) (pv 3) (pe_lst pa_nil) (nomark _)) (pw_and1 (pt_cmpR op_eq (pe_call G__law_take hr__law_take rfl D__law_take.m D__law_take.F.kp D__law_take.b .nil pass0 (pa_cons (pv 0) (pa_cons pe_int pa_nil))) pe_int (nomark _))))) (pss_one (ps_expr (pe_bm PySem.F.plainAttrs_list PySem.F.slot_list_insert PySem.F.type_list_insert mt_insert (pv 3) (pa_cons (pe_call G__law_take hr__law_take rfl D__law_take.m D__law_take.F.kp D__law_take.b .nil pass0 (pa_cons (pv 0) (pa_cons (pe_op op_add (pe_callB call_len_seq rfl B.len PySem.boot_len (pa_cons (pv 3) pa_nil)) pe_int) pa_nil))) (pa_cons (pe_call G__law_pick hr__law_pick rfl D__law_pick.m D__law_pick.F.kp D__law_pick.b .nil pass0 (pa_cons (pv 0) (pa_cons (pv 3) pa_nil))) pa_nil))))) pss_nil)
      (pss_cons (ps_set (i := 4) sc__law_near.nd rfl (Or.inl rfl) (pe_call G__law_take hr__law_take rfl D__law_take.m D__law_take.F.kp D__law_take.b .nil pass0 (pa_cons (pv 0) (pa_cons (pe_op op_add (pe_callB call_len_seq rfl B.len PySem.boot_len (pa_cons (pv 3) pa_nil)) pe_int) pa_nil))))
      (pss_cons (ps_par (i := 5) (j := 6) (by rfl) sc__law_near.nd rfl rfl (by decide) rfl rfl (pa_cons (pe_call G__law_tree hr__law_tree rfl D__law_tree.m D__law_tree.F.kp D__law_tree.b .nil pass0 (pa_cons (pv 0) (pa_cons (pv 1) (pa_cons pe_int pa_nil)))) (pa_cons (pe_call G__law_tree hr__law_tree rfl D__law_tree.m D__law_tree.F.kp D__law_tree.b .nil pass0 (pa_cons (pv 0) (pa_cons (pv 1) (pa_cons pe_int pa_nil)))) pa_nil)) (by rfl))
      (pss_cons (ps_set (i := 7) sc__law_near.nd rfl (Or.inl rfl) (pe_lst (pa_cons (pe_tup (pa_cons (pv 5) pa_nil)) (pa_cons (pe_tup (pa_cons (pv 5) (pa_cons (pv 6) (pa_cons (pv 6) pa_nil)))) (pa_cons (pe_lst (pa_cons (pv 5) (pa_cons (pv 6) pa_nil))) (pa_cons (pe_tup (pa_cons (pv 5) (pa_cons (pv 5) pa_nil))) (pa_cons (pv 5) (pa_cons pe_non (pa_cons (pe_tup (pa_cons (pe_call G__law_odd hr__law_odd rfl D__law_odd.m D__law_odd.F.kp D__law_odd.b .nil pass0 (pa_cons (pv 0) (pa_cons (pv 5) pa_nil))) (pa_cons (pv 6) pa_nil))) pa_nil)))))))))
      (pss_cons (ps_set (i := 7) sc__law_near.nd rfl (Or.inl rfl) (pe_op op_cat (pv 7) (pe_lst (pa_cons (pe_tup (pa_cons (pv 5) (pa_cons (pe_call G__law_odd hr__law_odd rfl D__law_odd.m D__law_odd.F.kp D__law_odd.b .nil pass0 (pa_cons (pv 0) (pa_cons (pv 6) pa_nil))) pa_nil))) (pa_cons (pe_one (pv 5) (pv 6) hu64) (pa_cons (pe_tup (pa_cons (pv 5) (pa_cons (pe_callTy call_list_of rfl B.list (by decide +kernel) (pa_cons (pv 6) pa_nil)) pa_nil))) pa_nil))))))
      (pss_cons (ps_if (pt_cmpR op_lt (pv 2) pe_int (nomark _)) (pss_cons (ps_expr (pe_bm PySem.F.plainAttrs_list PySem.F.slot_list_insert PySem.F.type_list_insert mt_insert (pv 3) (pa_cons (pv 4) (pa_cons (pe_call G__law_pick hr__law_pick rfl D__law_pick.m D__law_pick.F.kp D__law_pick.b .nil pass0 (pa_cons (pv 0) (pa_cons (pv 7) pa_nil))) pa_nil))))
      (pss_one (ps_ret (pe_op op_cat (pv 3) (pe_op op_rep (pe_lst (pa_cons (pe_call G__law_odd hr__law_odd rfl D__law_odd.m D__law_odd.F.kp D__law_odd.b .nil pass0 (pa_cons (pv 0) (pa_cons (pv 5) pa_nil))) pa_nil)) (pe_call G__law_take hr__law_take rfl D__law_take.m D__law_take.F.kp D__law_take.b .nil pass0 (pa_cons (pv 0) (pa_cons pe_int pa_nil)))))))) pss_nil)
      (pss_one (ps_ret (pe_op op_cat (pv 3) (pe_slice sl_list (pv 3) po_none (po_some (pe_call G__law_take hr__law_take rfl D__law_take.m D__law_take.F.kp D__law_take.b .nil pass0 (pa_cons (pv 0) (pa_cons pe_int pa_nil))))))))))))))))), fun p ds C h => ?_⟩
  obtain ⟨nm, rfl, hnl, hno, hc⟩ := h
  refine wpS_seq (wpS_asg (wp_callF rfl rfl (wpA_cons (wp_int (wpA_nil ⟨6, rfl, by decide, by decide, fun way y0 y1 => ?_⟩)))))
  refine wpS_seq (wpS_if (wpT_test (wp_op (wp_var (d := .int way) rfl (wp_int (opd_eqI ⟨_, rfl, fun _ => wpS_ret (wp_callF rfl rfl (wpA_nil ⟨rfl, fun xs hx => hc xs hx⟩)), fun _ => wpS_next ?_⟩))))))
  refine wpS_seq (wpS_asgFN (f := p) rfl rfl (wpA_cons (wp_var (d := .list (nm.map PyData.str)) rfl (wpA_cons (wp_op (wp_int (wp_callF rfl rfl (wpA_cons (wp_int (wpA_nil ⟨6, rfl, by decide, by decide, fun m m0 m1 => opd_ii (wpA_cons (wp_callF rfl rfl (wpA_cons (wpE_new (wpN_lst (wpA_cons (wp_int (wpA_cons (wp_int (wpA_cons (wp_int (wpA_cons (wp_int (wpA_nil ⟨by decide, wpA_nil ⟨_, rfl, (fun z => nomatch z), (by show 4 < 100000; decide), fun nd mnd => wpA_cons (wp_bl (wpA_nil ?_))⟩⟩))))))))))))))⟩))))))))))
  obtain ⟨mm, rfl⟩ : ∃ k : Nat, m = k := ⟨m.toNat, by omega⟩
  obtain ⟨nn, rfl, hn1, hn7⟩ : ∃ k : Nat, nd = .int (k : Nat) ∧ 1 ≤ k ∧ k ≤ 7 := by
    simp only [List.mem_cons, List.not_mem_nil, or_false] at mnd
    rcases mnd with rfl | rfl | rfl | rfl
    · exact ⟨2, rfl, by decide, by decide⟩
    · exact ⟨3, rfl, by decide, by decide⟩
    · exact ⟨6, rfl, by decide, by decide⟩
    · exact ⟨7, rfl, by decide, by decide⟩
  refine ⟨fun d m => ?_, nm, mm + 1, nn, by rw [show ((1 : Int) + (mm : Nat)) = ((mm + 1 : Nat) : Int) by omega], hnl, hno, by omega, hn1, by omega, fun rs hr1 hr2 hr3 => .inr ⟨_, rfl, tplAll_of fun d m => ?_, ?_, fun q0 => ?_⟩⟩
  · simp only [List.mem_cons, List.not_mem_nil, or_false] at m
    rcases m with rfl | rfl | rfl | rfl
    · refine .inr ⟨_, rfl, fun x m => ?_⟩
      obtain ⟨z, _, rfl⟩ := List.mem_map.mp m
      rfl
    · exact .inl rfl
    · exact .inl rfl
    · exact .inl rfl
  · obtain ⟨q, hq, rfl⟩ := List.mem_map.mp m
    obtain ⟨_, g1, g2, s1, s2⟩ := hr3 q hq
    exact Nr.tp ⟨q, rfl, g1, g2, by omega, by omega⟩
  · intro es m e
    simp only [List.mem_cons, List.not_mem_nil, or_false, reduceCtorEq, PyData.list.injEq] at m
    subst m
    cases nm with
    | nil => cases hnl
    | cons x nm =>
      cases rs with
      | nil => cases e
      | cons q rs => cases e
  have hL0 : ∀ x, x ∈ rs.map rd → Nr x := fun x m => by
    obtain ⟨q, hq, rfl⟩ := List.mem_map.mp m
    obtain ⟨_, g1, g2, s1, s2⟩ := hr3 q hq
    exact ⟨q, rfl, g1, g2, by omega, by omega⟩
  have hl0 : (rs.map rd).length ≤ 6 := by rw [List.length_map]; omega
  generalize hLe : rs.map rd = L0
  rw [hLe] at hL0 hl0
  refine wpS_cut (R := fun e => ∃ L : List PyData, L.length ≤ 7 ∧ (∀ x, x ∈ L → Nr x) ∧ e = [.fed p, .dat (.list (nm.map PyData.str)), .dat (.int way), .own q0 L, .no, .no, .no, .no]) ?_ ?_
  · refine wpS_if (wpT_unown (wpT_and (wpT_test (wp_op (wp_var (d := .list L0) rfl (wpE_new (wpN_lst (wpA_nil ⟨by decide, opd_neD (cmp_list fun d m => (hL0 d m).cm) (cmp_list fun d m => (nomatch m)) ⟨_, rfl, fun z => ?_, fun z => ⟨fun z => (nomatch z), fun _ => wpS_next ⟨L0, by omega, hL0, rfl⟩⟩⟩⟩))))))))
    have hne : L0 ≠ [] := fun e => by rw [e, show PyData.eqv (.list []) (.list []) = true from by decide +kernel] at z; cases z
    refine wpT_test (wp_op (wp_callF rfl rfl (wpA_cons (wp_int (wpA_nil ⟨4, rfl, by decide, by decide, fun r r0 r1 => wp_int (opd_eqI ⟨_, rfl, fun _ => ?_, fun _ => wpS_next ⟨L0, by omega, hL0, rfl⟩⟩)⟩)))))
    refine wpS_insert (p := q0) (ds := L0) rfl (by omega) (wpA_cons (wpE_unown (wp_callF rfl rfl (wpA_cons (wp_op (wp_cb (wpA_cons (wp_var (d := .list L0) rfl (wpA_nil (cad_lenL (wp_int (opd_ii (wpA_nil ⟨_, rfl, by omega, by omega, fun k k0 k1 => ⟨rfl, ?_⟩⟩)))))))))))))
    refine wpA_cons (wpE_unownT (wp_callF rfl rfl (wpA_cons (wp_var (d := .list L0) rfl (wpA_nil ⟨L0, rfl, hne, by omega, fun d m => ⟨(hL0 d m).tp, wpA_nil ⟨k.toNat, d, ?_, by omega, ?_⟩⟩⟩)))))
    · rw [Int.toNat_of_nonneg k0]
    · refine ⟨_, ?_, fun x mx => ?_, rfl⟩
      · simp only [List.length_append, List.length_take, List.length_drop, List.length_cons, List.length_nil]
        omega
      · rcases List.mem_append.mp mx with mx | mx
        · rcases List.mem_append.mp mx with mx | mx
          · exact hL0 x (List.mem_of_mem_take mx)
          · rw [List.mem_singleton.mp mx]; exact hL0 d m
        · exact hL0 x (List.mem_of_mem_drop mx)
  clear hL0 hl0 hLe
  rintro env ⟨L, hl, hL, rfl⟩
  have hLw : ∀ x, x ∈ L → Nw x := fun x m => (hL x m).nw
  refine wpS_seq (wpS_asg (wpE_unown (wp_callF rfl rfl (wpA_cons (wp_op (wp_cb (wpA_cons (wp_var (d := .list L) rfl (wpA_nil (cad_lenL (wp_int (opd_ii (wpA_nil ⟨_, rfl, by omega, by omega, fun a a0 a1 => ⟨rfl, ?_⟩⟩)))))))))))))
  obtain ⟨at_, rfl⟩ : ∃ k : Nat, a = k := ⟨a.toNat, by omega⟩
  refine wpS_seq (wpS_par (wp_callF rfl rfl (wpA_cons (wp_var (d := .list (nm.map PyData.str)) rfl (wpA_cons (wp_int (wpA_nil ⟨nm, 3, rfl, hnl, hno, by decide, by decide, fun l u1 u2 u3 => ?_⟩)))))))
  refine wp_callF rfl rfl (wpA_cons (wp_var (d := .list (nm.map PyData.str)) rfl (wpA_cons (wp_int (wpA_nil ⟨nm, 3, rfl, hnl, hno, by decide, by decide, fun r v1 v2 v3 => ?_⟩)))))
  have gl : Gd l := ⟨by omega, by omega, u3⟩
  have gr : Gd r := ⟨by omega, by omega, v3⟩
  have ql : Tq l := ⟨u3, by omega, by omega⟩
  have qr : Tq r := ⟨v3, by omega, by omega⟩
  have xl := tr_vx gl (by omega)
  have xr := tr_vx gr (by omega)
  obtain ⟨kl, el, hkl, hkb⟩ : ∃ ks, l.d = .tuple ks ∧ (∀ d, d ∈ ks → Pv 8 40 2000 d) ∧ ks.length ≤ 5 := by
    obtain ⟨n, cs, rfl⟩ := d_cases l
    exact ⟨_, d_node n cs, ql.kids, by have := (lay_node u3).2; rw [List.length_cons, List.length_map]; omega⟩
  obtain ⟨kr, er, hkr, hrb⟩ : ∃ ks, r.d = .tuple ks ∧ (∀ d, d ∈ ks → Pv 8 40 2000 d) ∧ ks.length ≤ 5 := by
    obtain ⟨n, cs, rfl⟩ := d_cases r
    exact ⟨_, d_node n cs, qr.kids, by have := (lay_node v3).2; rw [List.length_cons, List.length_map]; omega⟩
  have pl := ql.pv
  have pr := qr.pv
  have hdl : (PyData.tuple kl).depth ≤ 8 := by rw [← el]; exact pl.dep
  have hkey : keyBs kl = true := by
    have z := key_d l
    rw [el, keyB] at z; exact z
  refine wpS_cut (R := fun e => ∃ S1 : List PyData, S1.length = 7 ∧ (∀ x, x ∈ S1 → Nw x) ∧ e = [.fed p, .dat (.list (nm.map PyData.str)), .dat (.int way), .own q0 L, .dat (.int (at_ : Nat)), .dat l.d, .dat r.d, .dat (.list S1)]) ?_ ?_
  · refine wpS_asg (wpE_new (wpN_lst ?_))
    refine wpA_cons (wp_tup (wpA_cons (wp_var (d := l.d) rfl (wpA_nil ⟨by simp, ?_⟩))))
    refine wpA_cons (wp_tup (wpA_cons (wp_var (d := l.d) rfl (wpA_cons (wp_var (d := r.d) rfl (wpA_cons (wp_var (d := r.d) rfl (wpA_nil ⟨by simp, ?_⟩))))))))
    refine wpA_cons (wpE_new (wpN_lst (wpA_cons (wp_var (d := l.d) rfl (wpA_cons (wp_var (d := r.d) rfl (wpA_nil ⟨by simp, ?_⟩)))))))
    refine wpA_cons (wp_tup (wpA_cons (wp_var (d := l.d) rfl (wpA_cons (wp_var (d := l.d) rfl (wpA_nil ⟨by simp, ?_⟩))))))
    refine wpA_cons (wp_var (d := l.d) rfl (wpA_cons (wp_non (wpA_cons (wp_tup (wpA_cons (wp_callF rfl rfl (wpA_cons (wp_var (d := l.d) rfl (wpA_nil ⟨l, rfl, ql, fun o1 ho1 => ?_⟩))))))))))
    refine wpA_cons (wp_var (d := r.d) rfl (wpA_nil ⟨by simp, wpA_nil ⟨by simp, ?_⟩⟩))
    generalize hS1 : [PyData.tuple [l.d], .tuple [l.d, r.d, r.d], .list [l.d, r.d], .tuple [l.d, l.d], l.d, .none, .tuple [o1, r.d]] = S1
    have hS1k : S1.length = 7 ∧ ∀ x, x ∈ S1 → Nw x := by
      subst hS1
      have two : ∀ d, d ∈ [l.d, r.d, r.d] → Pv 8 40 2000 d := fun d m => by
        simp only [List.mem_cons, List.not_mem_nil, or_false] at m
        rcases m with rfl | rfl | rfl
        · exact pl
        · exact pr
        · exact pr
      refine ⟨rfl, fun x m => ?_⟩
      simp only [List.mem_cons, List.not_mem_nil, or_false] at m
      rcases m with rfl | rfl | rfl | rfl | rfl | rfl | rfl
      · exact ⟨(Pv.tup (m := 3) (fun d m => two d (by simp at m; simp [m])) (by simp) (by decide)).vx.nv (by decide) (by decide) (by decide), fun z e => (nomatch e)⟩
      · exact ⟨(Pv.tup (m := 3) two (by simp) (by decide)).vx.nv (by decide) (by decide) (by decide), fun z e => (nomatch e)⟩
      · exact ⟨(Pv.list (m := 3) (fun d m => two d (by simp at m; simp [m])) (by simp) (by decide)).vx.nv (by decide) (by decide) (by decide), fun z e => (nomatch e)⟩
      · exact ⟨(Pv.tup (m := 3) (fun d m => two d (by simp at m; simp [m])) (by simp) (by decide)).vx.nv (by decide) (by decide) (by decide), fun z e => (nomatch e)⟩
      · exact ⟨xl.nv (by decide) (by decide) (by decide), fun z e => by rw [el] at e; cases e⟩
      · exact ⟨nv_of (by decide +kernel), fun z e => (nomatch e)⟩
      · exact ⟨nv_pair ho1.vx xr (by decide), fun z e => (nomatch e)⟩
    exact ⟨S1, hS1k.1, hS1k.2, rfl⟩
  rintro env ⟨S1, hS1a, hS1b, rfl⟩
  have hS1k := And.intro hS1a hS1b
  refine wpS_cut (R := fun e => ∃ S : List PyData, S ≠ [] ∧ S.length ≤ 100 ∧ (∀ x, x ∈ S → Nw x) ∧ e = [.fed p, .dat (.list (nm.map PyData.str)), .dat (.int way), .own q0 L, .dat (.int (at_ : Nat)), .dat l.d, .dat r.d, .dat (.list S)]) ?_ ?_
  · refine wpS_asg (wpE_new (wpN_op (wp_var (d := .list S1) rfl (wpE_new (wpN_lst ?_)))))
    refine wpA_cons (wp_tup (wpA_cons (wp_var (d := l.d) rfl (wpA_cons (wp_callF rfl rfl (wpA_cons (wp_var (d := r.d) rfl (wpA_nil ⟨r, rfl, qr, fun o2 ho2 => wpA_nil ⟨by simp, ?_⟩⟩))))))))
    refine wpA_cons (wp_one (ks := kl) (dv := r.d) (by rw [← el]; rfl) rfl hkey hdl ?_)
    refine wpA_cons (wp_tup (wpA_cons (wp_var (d := l.d) rfl (wpA_cons (wpE_new (wpN_cb (wpA_cons (wp_var (d := r.d) rfl (wpA_nil ?_)))))))))
    rw [er]
    refine can_listT (wpA_nil ⟨by simp, wpA_nil ⟨by simp, opn_cat (by rw [hS1k.1]; show 7 + 3 ≤ 100000; decide) ⟨_, ?_, ?_, ?_, rfl⟩⟩⟩)
    · intro e
      have e := congrArg List.length e
      rw [List.length_append, hS1k.1] at e
      cases e
    · rw [List.length_append, hS1k.1]; show 7 + 3 ≤ 100; decide
    · intro x m
      rcases List.mem_append.mp m with m | m
      · exact hS1k.2 x m
      · simp only [List.mem_cons, List.not_mem_nil, or_false] at m
        rcases m with rfl | rfl | rfl
        · exact ⟨nv_pair xl ho2.vx (by decide), fun z e => (nomatch e)⟩
        · have z := nw_one xl xr el
          rw [er] at z
          exact z
        · exact ⟨nv_pair xl ((Pv.list (m := 5) hkr hrb (by decide)).mono (by decide) (by decide) (by decide)).vx (c2 := 20000) (by decide), fun z e => (nomatch e)⟩
  rintro env ⟨S, hS0, hSl, hS, rfl⟩
  refine wpS_seq (wpS_if (wpT_test (wp_op (wp_var (d := .int way) rfl (wp_int (opd_ib ⟨_, rfl, fun _ => ?_, fun _ => wpS_next ?_⟩))))))
  · refine wpS_seq (wpS_insert (p := q0) (ds := L) rfl (by omega) (wpA_cons (wp_var (d := .int (at_ : Nat)) rfl (wpA_cons (wp_callF rfl rfl (wpA_cons (wp_var (d := .list S) rfl (wpA_nil ⟨S, rfl, hS0, by omega, fun d m => wpA_nil ⟨at_, d, rfl, by omega, ?_⟩⟩))))))))
    have hM : ∀ x, x ∈ L.take at_ ++ [d] ++ L.drop at_ → Nw x := fun x mx => by
      rcases List.mem_append.mp mx with mx | mx
      · rcases List.mem_append.mp mx with mx | mx
        · exact hLw x (List.mem_of_mem_take mx)
        · rw [List.mem_singleton.mp mx]; exact hS d m
      · exact hLw x (List.mem_of_mem_drop mx)
    have hMl : (L.take at_ ++ [d] ++ L.drop at_).length ≤ 8 := by
      simp only [List.length_append, List.length_take, List.length_drop, List.length_cons, List.length_nil]
      omega
    have hMd : d ∈ L.take at_ ++ [d] ++ L.drop at_ := by simp
    generalize L.take at_ ++ [d] ++ L.drop at_ = M at hM hMl hMd
    refine wpS_ret (wpE_new (wpN_op (wp_var (d := .list M) rfl (wpE_new (wpN_op (wpE_new (wpN_lst (wpA_cons (wp_callF rfl rfl (wpA_cons (wp_var (d := l.d) rfl (wpA_nil ⟨l, rfl, ql, fun o ho => wpA_nil ⟨by simp, ?_⟩⟩))))))))))))
    refine wp_callF rfl rfl (wpA_cons (wp_int (wpA_nil ⟨2, rfl, by decide, by decide, fun c c0 c1 => opn_repL2 c0 (by omega) (by show 1 ≤ 1000; decide) (opn_cat ?_ (hc _ ⟨?_, fun x mx => ?_, .inr ⟨d, List.mem_append_left _ hMd, (hM d hMd).ns⟩⟩))⟩)))
    · rw [flat1', List.length_replicate]; omega
    · rw [List.length_append, flat1', List.length_replicate]; omega
    · rcases List.mem_append.mp mx with mx | mx
      · exact (hM x mx).nv
      · rw [flat1'] at mx
        rw [List.eq_of_mem_replicate mx]
        exact ho.vx.nv (by decide) (by decide) (by decide)
  · refine wpS_ret (wpE_new (wpN_op (wp_var (d := .list L) rfl (wpE_new (wpN_sl (wp_var (d := .list L) rfl (wpO_none (wpO_some (wp_callF rfl rfl (wpA_cons (wp_int (wpA_nil ⟨2, rfl, by decide, by decide, fun c c0 c1 => ⟨_, rfl, _, rfl, ?_⟩⟩))))))))))))
    obtain ⟨cc, rfl⟩ : ∃ k : Nat, c = k := ⟨c.toNat, by omega⟩
    rw [cut_take]
    refine opn_cat (by rw [List.length_take]; omega) (hc _ (near_of ?_ fun x m => ?_))
    · rw [List.length_append, List.length_take]; omega
    · rcases List.mem_append.mp m with m | m
      · exact hLw x m
      · exact hLw x (List.mem_of_mem_take m)
end
end Gr

set_option maxHeartbeats 8000000
namespace Gr
open PySem L2 Evl Dn
-- reprX
theorem rdxs_of : ∀ {ds : List PyData}, (∀ d, d ∈ ds → rdx d = true) → rdxs ds = true
  | [], _ => rfl
  | d :: ds, h => by rw [rdxs, h d (List.mem_cons_self ..), rdxs_of fun x m => h x (List.mem_cons_of_mem _ m)]; rfl
/-- what the law tells -/
structure Tl (d : PyData) : Prop where
  rx : rdx d = true
  sw : d.showable = true
  sl : d.shown.length ≤ 1000000
  dp : d.depth ≤ 100
theorem NearOk.tl {xs : List PyData} (h : NearOk xs) : Tl (.list xs) ∧ (PyData.list xs).shown.length ≤ 800000 ∧ (PyData.list xs).depth ≤ 30 := by
  have hl := h.len
  have s : (PyData.list xs).shown.length ≤ 800000 := by
    rw [PyData.shown]
    have x := PySem.listText_len_le (PyData.shownAll xs)
    have y := shownAll_sum (n := 65000) fun d m => (h.nv d m).sl
    rw [shownAll_len] at x
    omega
  have d : (PyData.list xs).depth ≤ 30 := by
    rw [PyData.depth]
    have := depthAll_of (n := 20) (l := xs) fun d m => (h.nv d m).dep
    omega
  exact ⟨⟨by rw [rdx]; exact rdxs_of fun d m => (h.nv d m).rx, by rw [PyData.showable]; exact showAll_of fun d m => (h.nv d m).sw, by omega, by omega⟩, s, d⟩
/-- a value that is no lot -/
structure Vd (d : PyData) (n : Nat) : Prop where
  tl : Tl d
  le : n ≤ 8
  cs : (isB d "list" = some false ∧ n = 0) ∨ ∃ xs, d = .list xs ∧ (∀ x, x ∈ xs → Rv x) ∧ xs.length ≤ 40 ∧ dueD xs = .inr n
theorem vd_tup {xs : List PyData} (h : NearOk xs) : Vd (.tuple xs) 0 := by
  have hl := h.len
  refine ⟨⟨by rw [rdx]; exact rdxs_of fun d m => (h.nv d m).rx, by rw [PyData.showable]; exact showAll_of fun d m => (h.nv d m).sw, ?_, ?_⟩, by decide, .inl ⟨by show kitB "tuple" "list" = _; decide +kernel, rfl⟩⟩
  · rw [PyData.shown]
    have x := PySem.tupleText_len_le (PyData.shownAll xs)
    have y := shownAll_sum (n := 65000) fun d m => (h.nv d m).sl
    rw [shownAll_len] at x
    omega
  · rw [PyData.depth]
    have := depthAll_of (n := 20) (l := xs) fun d m => (h.nv d m).dep
    omega
theorem vd_one {xs : List PyData} (h : NearOk xs) : Vd (.list [.list xs]) 0 := by
  obtain ⟨t, s, d⟩ := h.tl
  refine ⟨⟨?_, ?_, ?_, ?_⟩, by decide, .inr ⟨_, rfl, fun x m => ?_, by simp, ?_⟩⟩
  · rw [rdx, rdxs, t.rx]; rfl
  · rw [PyData.showable, PyData.showableAll, t.sw]; rfl
  · rw [PyData.shown]
    have x := PySem.listText_len_le (PyData.shownAll [.list xs])
    rw [shownAll_len, PyData.shownAll, PyData.shownAll, List.map_cons, List.map_nil, List.sum_cons, List.sum_nil, List.length_cons, List.length_nil] at x
    rw [PyData.shownAll, PyData.shownAll]
    omega
  · rw [PyData.depth, PyData.depthAll, PyData.depthAll]; omega
  · rw [List.mem_singleton.mp m]
    exact .inr ⟨fun es e => (nomatch e), by show kitB "list" "tuple" = _; decide +kernel⟩
  · unfold dueD
    rw [if_neg (by simp), goD, addX_no fun ⟨q, hq⟩ => by have e := hq.1.1; cases e]
theorem go_map : ∀ (ds : List PyData) (rs r2 : List (Tr × Tr)) (i : Nat), goD rs ds i = .inl r2 → rs.map rd ++ ds = r2.map rd
  | [], rs, r2, i, h => by
    rw [goD] at h
    cases h
    rw [List.append_nil]
  | d :: ds, rs, r2, i, h => by
    by_cases z : ∃ q, Add rs d q
    · obtain ⟨q, hq⟩ := z
      rw [goD, addX_yes hq] at h
      have e := go_map ds _ r2 _ h
      rw [List.map_append, List.append_assoc] at e
      rw [hq.1.1]
      exact e
    · rw [goD, addX_no z] at h; cases h
theorem go_rw : ∀ (ds : List PyData) (rs r2 : List (Tr × Tr)) (i : Nat), Rw rs → rs.length + ds.length ≤ 8 → goD rs ds i = .inl r2 → Rw r2
  | [], rs, r2, i, hr, _, h => by
    rw [goD] at h
    cases h
    exact hr
  | d :: ds, rs, r2, i, hr, hl, h => by
    rw [List.length_cons] at hl
    by_cases z : ∃ q, Add rs d q
    · obtain ⟨q, hq⟩ := z
      rw [goD, addX_yes hq] at h
      exact go_rw ds _ r2 _ (rw_snoc hr hq.1.2 hq.2.1 (by omega)) (by rw [List.length_append]; show rs.length + 1 + _ ≤ _; omega) h
    · rw [goD, addX_no z] at h; cases h
theorem due_inl {xs : List PyData} {rs : List (Tr × Tr)} (h : dueD xs = .inl rs) : xs = rs.map rd ∧ Rw rs := by
  unfold dueD at h
  split at h
  · cases h
  · exact ⟨by have z := go_map xs [] rs 0 h; exact z, go_rw xs [] rs 0 ⟨by decide, (fun q m => (nomatch m)), List.nodup_nil⟩ (by show 0 + _ ≤ 8; omega) h⟩
theorem go_num : ∀ (ds : List PyData) (rs : List (Tr × Tr)) (i n : Nat), goD rs ds i = .inr n → n < i + ds.length
  | [], rs, i, n, h => by rw [goD] at h; cases h
  | d :: ds, rs, i, n, h => by
    rw [goD] at h
    rw [List.length_cons]
    cases e : addX rs d with
    | none => rw [e] at h; cases h; omega
    | some r =>
      rw [e] at h
      have := go_num ds r (i + 1) n h
      omega
theorem due_inr {xs : List PyData} {n : Nat} (h : dueD xs = .inr n) : n ≤ 8 := by
  unfold dueD at h
  split at h
  · cases h; decide
  · have := go_num xs [] 0 n h
    omega
theorem tl_int {n : Nat} (h : n ≤ 8) : Tl (.int (n : Nat)) := by
  have key : ∀ k : Fin 9, (PyData.int ((k.1 : Nat) : Int)).showable = true ∧ (PyData.int ((k.1 : Nat) : Int)).shown.length ≤ 1000000 := by decide +kernel
  obtain ⟨a, b⟩ := key ⟨n, by omega⟩
  exact ⟨rfl, a, b, by rw [PyData.depth]; decide⟩
theorem eqv_sameC {d : PyData} (h : Dn.cmp d = true) : PyData.eqv d d = true := by
  unfold Dn.cmp at h
  rw [Bool.and_eq_true] at h
  exact SeqAt.eqv_refl d (SeqAt.canLay_of_shaped h.2)
def un1 : Sl → Sl
  | .own p ds => .dat (.list ds)
  | x => x
theorem un_eq (a b c d e : Sl) (q : Addr) (xs : List PyData) (x y z : Sl) (ha : un1 a = a) (hb : un1 b = b) (hc : un1 c = c) (hd : un1 d = d) (he : un1 e = e) : unown [a, b, c, d, e, .own q xs, x, y, z] = [a, b, c, d, e, .dat (.list xs), un1 x, un1 y, un1 z] := by
  have key : ∀ (x : Sl) (l : List Sl), unown (x :: l) = un1 x :: unown l := fun x l => by cases x <;> rfl
  rw [key, key, key, key, key, key, key, key, key, ha, hb, hc, hd, he]
  rfl
section
variable {P : Program} {w : World} {K : Frag} {mg : Str → Option Value} {base : Heap}
variable {A N f_in f_ru f_le : Addr} {d_in d_ru d_le : FuncData}
def gLaw : List PyData → (PyData → Prop) → Prop := fun ds C => ∃ ns : List Int, ds = [given (ns.map PyData.int)] ∧ ns.length ≤ 63 ∧ C (.bool true)
theorem ok_law {f f_feed f_names f_take f_pick f_near f_first f_made : Addr} {fdt d_feed d_names d_take d_pick d_near d_first d_made : FuncData} (D : Df K mg "law" s_law P_law f fdt) (B : Bi mg)
    (D__law_feed : Df K mg "_law_feed" s__law_feed P__law_feed f_feed d_feed) (D__law_names : Df K mg "_law_names" s__law_names P__law_names f_names d_names) (D__law_take : Df K mg "_law_take" s__law_take P__law_take f_take d_take) (D__law_pick : Df K mg "_law_pick" s__law_pick P__law_pick f_pick d_pick)
    (D__law_near : Df K mg "_law_near" s__law_near P__law_near f_near d_near) (D__law_first : Df K mg "_law_first" s__law_first P__law_first f_first d_first) (D__law_made : Df K mg "_law_made" s__law_made P__law_made f_made d_made)
    (G__law_near : FnOk P w K mg base CX0 23 f_near d_near P__law_near (spF K gNear)) (G__law_first : FnOk P w K mg base CX0 63 f_first d_first P__law_first (spP K gFirst)) (G__law_made : FnOk P w K mg base CX0 13 f_made d_made P__law_made (spPY K (gMade A)))
    (T : Txt K mg A) (O_Lot : Ops K A) (G_Lot_rules : FnOk P w K mg base CX0 1 f_ru d_ru P_Lot_rules (spN K (gRules A))) (m_Lot_rules : Meth K A "rules" f_ru) (b_Lot_rules : L2.Binds K d_ru P_Lot_rules [])
    (G_Lot___len__ : FnOk P w K mg base CX0 1 f_le d_le P_Lot___len__ (spP K (gLLen A))) (m_Lot___len__ : Meth K A "__len__" f_le) (b_Lot___len__ : L2.Binds K d_le P_Lot___len__ []) : FnG P w K mg base 65 f fdt P_law (spP K gLaw) := by
  have C_Lot := T.cl
  have mg_Lot := T.mg
  have G__law_feed : FnOk P w K mg base CX0 1 _ _ _ _ := ok_feed D__law_feed B
  have G__law_names : FnOk P w K mg base CX0 3 _ _ _ _ := ok_names D__law_names B D__law_take D__law_pick
  have G__law_take : FnOk P w K mg base CX0 1 _ _ _ _ := ok_take D__law_take B
  have G__law_pick : FnOk P w K mg base CX0 2 _ _ _ _ := ok_pick D__law_pick B D__law_take
  refine okPG D.F sc_law (fun ds C h => by obtain ⟨ns, rfl, _⟩ := h; rfl) (fun cdv A' outer s H E hg hr => ?_)
  have hr__law_feed := hr.mono (show 1 ≤ 64 by decide)
  have hr__law_names := hr.mono (show 3 ≤ 64 by decide)
  have hr__law_take := hr.mono (show 1 ≤ 64 by decide)
  have hr__law_pick := hr.mono (show 2 ≤ 64 by decide)
  have hr__law_near := hr.mono (show 23 ≤ 64 by decide)
  have hr__law_first := hr.mono (show 63 ≤ 64 by decide)
  have hr__law_made := hr.mono (show 13 ≤ 64 by decide)
  have hr_Lot_rules := hr.mono (show 1 ≤ 64 by decide)
  have hrl := (hr.mono (show 2 ≤ 64 by decide)).in1
  have hu64 := hr.units
  have hu65 := hu65Of hr
  have hu := huOf hr
  refine ⟨_, (pss_cons (ps_for PassesOwn.never rfl (pi_range1 rfl B.range (pa_cons (pe_callB (call_max2 rfl) rfl B.max (by decide +kernel) (pa_cons pe_int (pa_cons (pe_callB (call_min2 rfl) rfl B.min (by decide +kernel) (pa_cons pe_int (pa_cons (pe_callB call_len_seq rfl B.len PySem.boot_len (pa_cons (pv 0) pa_nil)) pa_nil))) pa_nil))) pa_nil)) (pg_name (i := 1) sc_law.nd rfl (Or.inl rfl)) (pss_cons (ps_set (i := 2) sc_law.nd rfl (Or.inl rfl) (pe_call G__law_feed hr__law_feed rfl D__law_feed.m D__law_feed.F.kp D__law_feed.b .nil pass0 (pa_cons (pv 0) (pa_cons (pv 1) pa_nil))))
      (pss_cons (ps_set (i := 3) sc_law.nd rfl (Or.inl rfl) (pe_call G__law_names hr__law_names rfl D__law_names.m D__law_names.F.kp D__law_names.b .nil pass0 (pa_cons (pv 2) pa_nil)))
      (pss_one (ps_for PassesOwn.never rfl (pi_range1 rfl B.range (pa_cons pe_int pa_nil)) (pg_name (i := 4) sc_law.nd rfl (Or.inl rfl)) (pss_cons (ps_set (i := 5) sc_law.nd rfl (Or.inl rfl) (pe_call G__law_near hr__law_near rfl D__law_near.m D__law_near.F.kp D__law_near.b .nil pass0 (pa_cons (pv 2) (pa_cons (pv 3) pa_nil))))
      (pss_cons (ps_if (pt_cmpR op_eq (pe_call G__law_take hr__law_take rfl D__law_take.m D__law_take.F.kp D__law_take.b .nil pass0 (pa_cons (pv 2) (pa_cons pe_int pa_nil))) pe_int (nomark _)) (pss_one (ps_set (i := 5) sc_law.nd rfl (Or.inl rfl) (pe_call G__law_pick hr__law_pick rfl D__law_pick.m D__law_pick.F.kp D__law_pick.b .nil pass0 (pa_cons (pv 2) (pa_cons (pe_lst (pa_cons (pe_callTy call_tuple_of rfl B.tuple (by decide +kernel) (pa_cons (pv 5) pa_nil)) (pa_cons pe_non (pa_cons pe_str (pa_cons pe_dnewK (pa_cons pe_int (pa_cons (pe_lst (pa_cons (pv 5) pa_nil)) pa_nil))))))) pa_nil))))) pss_nil)
      (pss_cons (ps_par3 (i := 6) (j := 7) (l := 8) (by rfl) sc_law.nd rfl rfl rfl (by decide) (by decide) (by decide) rfl rfl rfl (pa_cons (pe_callB (cr_reprX hg hu) rfl B.repr (by decide +kernel) (pa_cons (pv 5) pa_nil)) (pa_cons (pe_call G__law_first hr__law_first rfl D__law_first.m D__law_first.F.kp D__law_first.b .nil pass0 (pa_cons (pv 5) pa_nil)) (pa_cons (pe_call G__law_made hr__law_made rfl D__law_made.m D__law_made.F.kp D__law_made.b .nil pass0 (pa_cons (pv 5) pa_nil)) pa_nil))) (by rfl))
      (pss_cons (ps_if (PW.pt (pw_or (pt_cmpR op_ne (pe_callB (cr_reprX hg hu) rfl B.repr (by decide +kernel) (pa_cons (pv 5) pa_nil)) (pv 6) (nomark _)) (pw_or1 (PW.pt (pw_and (pt_cmpR op_notN (pv 7) pe_non (nomark _)) (pw_and1 (pt_cmpR op_ne (pe_callB (cr_reprX hg hu) rfl B.repr (by decide +kernel) (pa_cons (pv 8) pa_nil)) (pe_callB (cr_reprX hg hu) rfl B.repr (by decide +kernel) (pa_cons (pv 7) pa_nil)) (nomark _)))))))) (pss_one (ps_ret pe_bl)) pss_nil)
      (pss_one (ps_if (pt_cmpR op_isN (pv 7) pe_non (nomark _)) (pss_cons (ps_if (PW.pt (pw_or (pt_not (pt_val (pe_callB call_isi rfl B.isinstance (by decide +kernel) (pa_cons (pv 8) (pa_cons (pe_glob rfl mg_Lot (show RelV (V.ref _) (Value.ref _) from rfl)) pa_nil))))) (pw_or1 (pt_cmpR (op_neD hu64) (pe_meth0 (pv 8) C_Lot m_Lot_rules G_Lot_rules hr_Lot_rules b_Lot_rules .nil pass0) (pv 5) (nomark _))))) (pss_one (ps_ret pe_bl)) pss_nil)
      (pss_cons (ps_expr (pe_bm PySem.F.plainAttrs_list PySem.F.slot_list_append PySem.F.type_list_append mt_append (pv 5) (pa_cons pe_non pa_nil)))
      (pss_one (ps_if (pt_cmpR op_ne (pe_callB (call_lenO C_Lot m_Lot___len__ G_Lot___len__ b_Lot___len__ hrl) rfl B.len PySem.boot_len (pa_cons (pv 8) pa_nil)) (pe_op op_sub (pe_callB call_len_seq rfl B.len PySem.boot_len (pa_cons (pv 5) pa_nil)) pe_int) (nomark _)) (pss_one (ps_ret pe_bl)) pss_nil)))) pss_nil)))))))))))
      (pss_one (ps_ret pe_bl))), fun ds C h => ?_⟩
  obtain ⟨ns, rfl, hn, hc⟩ := h
  have same : ∀ z : Str, (!decide (z = z)) = true → False := fun z q => by rw [decide_eq_true rfl] at q; cases q
  refine wpS_seq (wpS_for (wpI_rng1 (wpA_cons (wp_cb (wpA_cons (wp_int (wpA_cons (wp_cb (wpA_cons (wp_int (wpA_cons (wp_cb (wpA_cons (wp_var (d := given (ns.map PyData.int)) rfl (wpA_nil (cad_lenG (wpA_nil (cad_min2 (wpA_nil (cad_max2 (wpA_nil ?_)))))))))))))))))))))
  rw [List.length_map]
  generalize hJ : (if (if ((ns.length : Nat) : Int) < 3 then ((ns.length : Nat) : Int) else 3) > 1 then (if ((ns.length : Nat) : Int) < 3 then ((ns.length : Nat) : Int) else 3) else 1) = jj
  have hjj : 1 ≤ jj ∧ jj ≤ 3 := by
    split at hJ
    · split at hJ <;> omega
    · omega
  refine ⟨jj, rfl, by omega, by omega, fun i env => env = [.dat (given (ns.map PyData.int)), .no, .no, .no, .no, .no, .no, .no, .no], rfl, ?_, ?_⟩
  rotate_left
  · rintro env rfl
    exact wpS_ret (wp_bl hc)
  rintro i d env e rfl
  have hlt : i < jj.toNat := by
    have z := (List.getElem?_eq_some_iff.mp e).1
    rw [rng_len] at z
    exact z
  rw [rng_get hlt] at e
  have e := (Option.some.inj e).symm
  subst e
  refine ⟨_, gD_name, ?_⟩
  refine wpS_feed (wpN_call (wpA_cons (wp_var (d := given (ns.map PyData.int)) rfl (wpA_cons (wp_var (d := .int (0 + (i : Int))) rfl (wpA_nil ⟨ns, 0 + (i : Int), rfl, hn, by omega, by omega, fun dd m hd hm hm2 => ⟨dd, m, rfl, hd, hm, hm2, fun p => ?_⟩⟩))))))
  refine wpS_seq (wpS_asg (wp_callF rfl rfl (wpA_nil ⟨rfl, fun nd hnd => ?_⟩)))
  obtain ⟨nm, rfl, hnl, hno⟩ := hnd
  have hnn : nm ≠ [] := fun e => by rw [e] at hnl; cases hnl
  refine wpS_for (wpI_rng1 (wpA_cons (wp_int (wpA_nil ⟨8, rfl, by decide, by decide, fun i2 e => ∃ x0 x1 x2 x3 x4 : Sl, e = [.dat (given (ns.map PyData.int)), .dat (.int (0 + (i : Int))), .fed p, .dat (.list (nm.map PyData.str)), x0, x1, x2, x3, x4], ⟨.no, .no, .no, .no, .no, rfl⟩, ?_, ?_⟩))))
  rotate_left
  · rintro e ⟨x0, x1, x2, x3, x4, rfl⟩
    rfl
  rintro i2 t e hd ⟨x0, x1, x2, x3, x4, rfl⟩
  refine ⟨_, gD_name, ?_⟩
  refine wpS_cut (R := fun e => ∃ xs, NearOk xs ∧ ((∃ n, dueD xs = .inr n ∧ e = [.dat (given (ns.map PyData.int)), .dat (.int (0 + (i : Int))), .fed p, .dat (.list (nm.map PyData.str)), .dat t, .dat (.list xs), x2, x3, x4]) ∨ ∃ q rs, dueD xs = .inl rs ∧ e = [.dat (given (ns.map PyData.int)), .dat (.int (0 + (i : Int))), .fed p, .dat (.list (nm.map PyData.str)), .dat t, .own q xs, x2, x3, x4])) ?_ ?_
  · refine wpS_asgFN (f := p) rfl rfl (wpA_cons (wp_var (d := .list (nm.map PyData.str)) rfl (wpA_nil ?_)))
    refine ⟨fun d m => ?_, nm, rfl, hnl, hno, fun xs hx => ?_⟩
    · simp only [List.mem_cons, List.not_mem_nil, or_false] at m
      subst m
      refine .inr ⟨_, rfl, fun x m => ?_⟩
      obtain ⟨z, _, rfl⟩ := List.mem_map.mp m
      rfl
    · cases hdue : dueD xs with
      | inr n => exact .inl ⟨xs, hx, .inl ⟨n, hdue, rfl⟩⟩
      | inl rs =>
        refine .inr ⟨xs, rfl, ?_, fun es m e => ?_, fun q => ⟨xs, hx, .inr ⟨q, rs, hdue, rfl⟩⟩⟩
        · rw [(due_inl hdue).1]
          refine tplAll_of fun d m => ?_
          obtain ⟨q, _, rfl⟩ := List.mem_map.mp m
          show tpl (.tuple [q.1.d, q.2.d]) = true
          rw [tpl, tplAll, tplAll, tpl_d, tpl_d]; rfl
        · simp only [List.mem_cons, List.not_mem_nil, or_false, PyData.list.injEq] at m
          exact hx.text hnn (m.symm.trans e)
  rintro env ⟨xs, hx, hcase⟩
  have hrv : ∀ x, x ∈ xs → Rv x := fun x m => (hx.nv x m).rv
  have hlen := hx.len
  obtain ⟨tl, _, _⟩ := hx.tl
  have picks : ∀ d, d ∈ [PyData.tuple xs, .none, .str "", .dict [], .int 5, .list [.list xs]] → Vd d 0 := fun d m => by
    simp only [List.mem_cons, List.not_mem_nil, or_false] at m
    rcases m with rfl | rfl | rfl | rfl | rfl | rfl
    · exact vd_tup hx
    · exact ⟨⟨rfl, rfl, by decide +kernel, by decide +kernel⟩, by decide, .inl ⟨by show kitB "NoneType" "list" = _; decide +kernel, rfl⟩⟩
    · exact ⟨⟨rfl, rfl, by decide +kernel, by decide +kernel⟩, by decide, .inl ⟨by show kitB "str" "list" = _; decide +kernel, rfl⟩⟩
    · exact ⟨⟨rfl, rfl, by decide +kernel, by decide +kernel⟩, by decide, .inl ⟨by show kitB "dict" "list" = _; decide +kernel, rfl⟩⟩
    · exact ⟨⟨rfl, rfl, by decide +kernel, by decide +kernel⟩, by decide, .inl ⟨by show kitB "int" "list" = _; decide +kernel, rfl⟩⟩
    · exact vd_one hx
  refine wpS_cut (R := fun e => (∃ v n y2 y3 y4, Vd v n ∧ e = [.dat (given (ns.map PyData.int)), .dat (.int (0 + (i : Int))), .fed p, .dat (.list (nm.map PyData.str)), .dat t, .dat v, y2, y3, y4]) ∨ ∃ q rs, dueD xs = .inl rs ∧ e = [.dat (given (ns.map PyData.int)), .dat (.int (0 + (i : Int))), .fed p, .dat (.list (nm.map PyData.str)), .dat t, .own q xs, x2, x3, x4]) ?_ ?_
  · rcases hcase with ⟨n, hdue, rfl⟩ | ⟨q, rs, hdue, rfl⟩
    · have stay : Vd (.list xs) n := ⟨tl, due_inr hdue, .inr ⟨xs, rfl, hrv, by omega, hdue⟩⟩
      refine wpS_if (wpT_test (wp_op (wp_callF rfl rfl (wpA_cons (wp_int (wpA_nil ⟨9, rfl, by decide, by decide, fun r r0 r1 => wp_int (opd_eqI ⟨_, rfl, fun _ => ?_, fun _ => wpS_next (.inl ⟨_, n, _, _, _, stay, rfl⟩)⟩)⟩))))))
      refine wpS_asg (wp_callF rfl rfl (wpA_cons (wpE_new (wpN_lst (wpA_cons (wp_cb (wpA_cons (wp_var (d := .list xs) rfl (wpA_nil (cad_tupL ?_))))))))))
      refine wpA_cons (wp_non (wpA_cons (wp_str (wpA_cons (wp_dnew (wpA_cons (wp_int (wpA_cons (wpE_new (wpN_lst (wpA_cons (wp_var (d := .list xs) rfl (wpA_nil ⟨by simp, wpA_nil ⟨by simp, wpA_nil ⟨_, rfl, by simp, by simp, fun d m => ?_⟩⟩⟩)))))))))))))
      exact .inl ⟨_, 0, _, _, _, picks d m, rfl⟩
    · refine wpS_if (wpT_test (wp_op (wp_callF rfl rfl (wpA_cons (wp_int (wpA_nil ⟨9, rfl, by decide, by decide, fun r r0 r1 => wp_int (opd_eqI ⟨_, rfl, fun _ => ?_, fun _ => wpS_next (.inr ⟨q, rs, hdue, rfl⟩)⟩)⟩))))))
      refine wpS_forget ?_
      rw [un_eq _ _ _ _ _ q xs x2 x3 x4 rfl rfl rfl rfl rfl]
      refine wpS_asg (wp_callF rfl rfl (wpA_cons (wpE_new (wpN_lst (wpA_cons (wp_cb (wpA_cons (wp_var (d := .list xs) rfl (wpA_nil (cad_tupL ?_))))))))))
      refine wpA_cons (wp_non (wpA_cons (wp_str (wpA_cons (wp_dnew (wpA_cons (wp_int (wpA_cons (wpE_new (wpN_lst (wpA_cons (wp_var (d := .list xs) rfl (wpA_nil ⟨by simp, wpA_nil ⟨by simp, wpA_nil ⟨_, rfl, by simp, by simp, fun d m => ?_⟩⟩⟩)))))))))))))
      exact .inl ⟨_, 0, _, _, _, picks d m, rfl⟩
  rintro env (⟨v, n, y2, y3, y4, hv, rfl⟩ | ⟨q, rs, hdue, rfl⟩)
  · have isn := tl_int hv.le
    have vt := hv.tl
    have first : ∀ C : PyData → Prop, C (.int (n : Nat)) → gFirst [v] C := fun C c => by
      rcases hv.cs with ⟨h1, rfl⟩ | ⟨xs, rfl, h1, h2, h3⟩
      · exact .inl ⟨v, rfl, h1, c⟩
      · refine .inr ⟨xs, rfl, h1, h2, ?_⟩
        unfold dueR
        rw [h3]; exact c
    have made : ∀ C : PyData → Prop, C (.int (n : Nat)) → gMade A [v] C := fun C c => by
      rcases hv.cs with ⟨h1, rfl⟩ | ⟨xs, rfl, h1, h2, h3⟩
      · exact .inl ⟨v, rfl, h1, c⟩
      · exact .inr ⟨xs, rfl, h1, h2, (fun rs e => by rw [h3] at e; cases e), fun m e => by rw [h3] at e; cases e; exact c⟩
    refine wpS_seq (wpS_par3 (wp_cb (wpA_cons (wp_var (d := v) rfl (wpA_nil (cad_reprX vt.rx vt.sw vt.sl vt.dp ?_))))))
    refine wp_call (wpA_cons (wp_var (d := v) rfl (wpA_nil (first _ ?_))))
    refine wp_callY (wpA_cons (wp_var (d := v) rfl (wpA_nil (made _ ?_))))
    refine wpS_seq (wpS_if (wpT_or (wpT_test (wp_op (wp_cb (wpA_cons (wp_var (d := v) rfl (wpA_nil (cad_reprX vt.rx vt.sw vt.sl vt.dp (wp_var (d := .str v.shown) rfl (opd_neS ⟨_, rfl, fun z => (same _ z).elim, fun _ => ?_⟩)))))))))))
    refine wpT_and (wpT_test (wp_op (wp_var (d := .int (n : Nat)) rfl (wp_non (opd_notN ⟨_, rfl, fun _ => ?_, fun z => (nomatch z)⟩)))))
    refine wpT_test (wp_op (wp_cb (wpA_cons (wp_var (d := .int (n : Nat)) rfl (wpA_nil (cad_reprX isn.rx isn.sw isn.sl isn.dp ?_))))))
    refine wp_cb (wpA_cons (wp_var (d := .int (n : Nat)) rfl (wpA_nil (cad_reprX isn.rx isn.sw isn.sl isn.dp (opd_neS ⟨_, rfl, fun z => (same _ z).elim, fun _ => wpS_next ?_⟩)))))
    exact wpS_if (wpT_test (wp_op (wp_var (d := .int (n : Nat)) rfl (wp_non (opd_isN ⟨_, rfl, (fun z => (nomatch z)), fun _ => wpS_next ⟨_, _, _, _, _, rfl⟩⟩)))))
  · obtain ⟨exs, hR⟩ := due_inl hdue
    have edr : dueR xs = .none := by unfold dueR; rw [hdue]
    refine wpS_seq (wpS_par3 (wpE_unown ?_))
    rw [un_eq _ _ _ _ _ q xs x2 x3 x4 rfl rfl rfl rfl rfl]
    refine wp_cb (wpA_cons (wp_var (d := .list xs) rfl (wpA_nil (cad_reprX tl.rx tl.sw tl.sl tl.dp ⟨rfl, wpE_unown ?_⟩))))
    rw [un_eq _ _ _ _ _ q xs x2 x3 x4 rfl rfl rfl rfl rfl]
    refine wp_call (wpA_cons (wp_var (d := .list xs) rfl (wpA_nil (.inr ⟨xs, rfl, hrv, by omega, ?_⟩))))
    rw [edr]
    refine ⟨rfl, wp_callYO (i := 5) (q := q) rfl (.inr ⟨xs, rfl, hrv, by omega, fun r2 e => ?_, fun n e => by rw [hdue] at e; cases e⟩)⟩
    obtain rfl : rs = r2 := by rw [hdue] at e; cases e; rfl
    refine wpS_seq (wpS_if (wpT_unown (wpT_or (wpT_test (wp_op (wp_cb (wpA_cons (wp_var (d := .list xs) rfl (wpA_nil (cad_reprX tl.rx tl.sw tl.sl tl.dp (wp_var (d := .str (PyData.list xs).shown) rfl (opd_neS ⟨_, rfl, fun z => (same _ z).elim, fun _ => ?_⟩))))))))))))
    refine wpT_and (wpT_test (wp_op (wp_var (d := .none) rfl (wp_non (opd_notN ⟨_, rfl, (fun z => (nomatch z)), fun _ => ⟨(fun z => (nomatch z)), fun _ => wpS_next ?_⟩⟩)))))
    refine wpS_if (wpT_test (wp_op (wp_var (d := .none) rfl (wp_non (opd_isN ⟨_, rfl, fun _ => ?_, fun z => (nomatch z)⟩)))))
    refine wpS_seq (wpS_if (wpT_unown (wpT_or (wpT_not (wpT_B (wp_isiO T.cl O_Lot (wp_var (d := lotD A rs) rfl ⟨.own _, fun _ => ⟨true, rfl, (fun z => absurd z (by decide)), fun _ => ?_⟩, fun ⟨n, e⟩ => by cases e⟩)))))))
    refine wpT_test (wp_op (wpE_new (wpN_meth (wp_var (d := lotD A rs) rfl ⟨_, rfl, lot_no (by decide +kernel) (by decide +kernel), wpA_nil ⟨rs, rfl, wp_var (d := .list xs) rfl ?_⟩⟩))))
    rw [← exs]
    have cmx : Dn.cmp (.list xs) = true := by rw [exs]; exact rds_cmp hR.gd
    refine opd_neD cmx cmx ⟨_, rfl, fun z => ?_, fun _ => wpS_next ?_⟩
    · rw [eqv_sameC cmx] at z; cases z
    have hlr : xs.length = rs.length := by rw [exs, List.length_map]
    refine wpS_seq (wpS_append (i := 5) (p := q) (ds := xs) rfl (by omega) (wp_non ?_))
    refine wpS_if (wpT_unown (wpT_test (wp_op (wp_lenO (wp_var (d := lotD A rs) rfl ⟨_, rfl, rs, rfl, _, rfl, ⟨by omega, by omega⟩, ?_⟩)))))
    refine wp_op (wp_cb (wpA_cons (wp_var (d := .list (xs ++ [.none])) rfl (wpA_nil (cad_lenL (wp_int (opd_ii (opd_neI ⟨_, rfl, fun z => ?_, fun _ => wpS_next ⟨_, _, _, _, _, rfl⟩⟩))))))))
    rw [List.length_append, hlr] at z
    have e : ((rs.length : Nat) : Int) = (((rs.length + [PyData.none].length : Nat)) : Int) - 1 := by show _ = ((rs.length + 1 : Nat) : Int) - 1; omega
    rw [e] at z
    simp at z
end
end Gr

set_option maxHeartbeats 8000000
namespace Gr
open PySem L2 Evl Dn
theorem all_mk {l : PySem.W.OpenLaw} {w : World} {K : PySem.W.Frag} {h : Heap} {mg : Str → Option Value} {fa f0 f1 f2 f3 f4 f5 f6 f7 f8 f9 f10 f11 f12 f13 f14 f15 f16 f17 f18 f19 f20 f21 f22 f23 f24 f25 f26 f27 f28 f29 f30 : Addr} (X : K.In h) (G : h.Ns mainGlobals mg) (hfa : mg "law" = some (.ref fa))
    {od0 an0 od1 an1 od2 an2 od3 an3 od4 an4 od5 an5 od6 an6 od7 an7 od8 an8 od9 an9 od10 an10 od11 an11 od12 an12 od13 an13 od14 an14 od15 an15 od16 an16 od17 an17 od18 an18 od19 an19 od20 an20 od21 an21 od22 an22 od23 an23 od24 an24 od25 an25 od26 an26 od27 an27 od28 an28 od29 an29 od30 an30 : Option Addr} {sl0 sl1 sl2 sl3 sl4 sl5 sl6 sl7 sl8 sl9 sl10 sl11 sl12 sl13 sl14 sl15 sl16 sl17 sl18 sl19 sl20 sl21 sl22 sl23 sl24 sl25 sl26 sl27 sl28 sl29 sl30 : Array (Option Value)} {oc0 kV0 dc0 pm0 cd0 ct0 oc1 kV1 dc1 pm1 cd1 ct1 oc2 kV2 dc2 pm2 cd2 ct2 oc3 kV3 dc3 pm3 cd3 ct3 oc4 kV4 dc4 pm4 cd4 ct4 oc5 kV5 dc5 pm5 cd5 ct5 oc6 kV6 dc6 pm6 cd6 ct6 oc7 kV7 dc7 pm7 cd7 ct7 oc8 kV8 dc8 pm8 cd8 ct8 oc9 kV9 dc9 pm9 cd9 ct9 oc10 kV10 dc10 pm10 cd10 ct10 oc11 kV11 dc11 pm11 cd11 ct11 oc12 kV12 dc12 pm12 cd12 ct12 oc13 kV13 dc13 pm13 cd13 ct13 oc14 kV14 dc14 pm14 cd14 ct14 oc15 kV15 dc15 pm15 cd15 ct15 oc16 kV16 dc16 pm16 cd16 ct16 oc17 kV17 dc17 pm17 cd17 ct17 oc18 kV18 dc18 pm18 cd18 ct18 oc19 kV19 dc19 pm19 cd19 ct19 oc20 kV20 dc20 pm20 cd20 ct20 oc21 kV21 dc21 pm21 cd21 ct21 oc22 kV22 dc22 pm22 cd22 ct22 oc23 kV23 dc23 pm23 cd23 ct23 oc24 kV24 dc24 pm24 cd24 ct24 oc25 kV25 dc25 pm25 cd25 ct25 oc26 kV26 dc26 pm26 cd26 ct26 oc27 kV27 dc27 pm27 cd27 ct27 oc28 kV28 dc28 pm28 cd28 ct28 oc29 kV29 dc29 pm29 cd29 ct29 oc30 kV30 dc30 pm30 cd30 ct30 : Value}
    (a0 : PySem.W.nsIn K mainGlobals "is_name" = some (some (.ref f0))) (l0 : K.lookup f0 = some ⟨oc0, od0, .func (PySem.W.fnOf "is_name" "is_name" (defArgs s_is_name) (defBody s_is_name) (defScope s_is_name) .none kV0 dc0 pm0 an0 cd0 ct0), sl0⟩) (c0 : PySem.W.codeIn K cd0 "is_name" = true) (k0 : PySem.W.keepIn K (.ref f0) = true)
    (a1 : PySem.W.nsIn K mainGlobals "is_node" = some (some (.ref f1))) (l1 : K.lookup f1 = some ⟨oc1, od1, .func (PySem.W.fnOf "is_node" "is_node" (defArgs s_is_node) (defBody s_is_node) (defScope s_is_node) .none kV1 dc1 pm1 an1 cd1 ct1), sl1⟩) (c1 : PySem.W.codeIn K cd1 "is_node" = true) (k1 : PySem.W.keepIn K (.ref f1) = true)
    (a2 : PySem.W.nsIn K mainGlobals "is_low_tree" = some (some (.ref f2))) (l2 : K.lookup f2 = some ⟨oc2, od2, .func (PySem.W.fnOf "is_low_tree" "is_low_tree" (defArgs s_is_low_tree) (defBody s_is_low_tree) (defScope s_is_low_tree) .none kV2 dc2 pm2 an2 cd2 ct2), sl2⟩) (c2 : PySem.W.codeIn K cd2 "is_low_tree" = true) (k2 : PySem.W.keepIn K (.ref f2) = true)
    (a3 : PySem.W.nsIn K mainGlobals "every_part" = some (some (.ref f3))) (l3 : K.lookup f3 = some ⟨oc3, od3, .func (PySem.W.fnOf "every_part" "every_part" (defArgs s_every_part) (defBody s_every_part) (defScope s_every_part) .none kV3 dc3 pm3 an3 cd3 ct3), sl3⟩) (c3 : PySem.W.codeIn K cd3 "every_part" = true) (k3 : PySem.W.keepIn K (.ref f3) = true)
    (a4 : PySem.W.nsIn K mainGlobals "size" = some (some (.ref f4))) (l4 : K.lookup f4 = some ⟨oc4, od4, .func (PySem.W.fnOf "size" "size" (defArgs s_size) (defBody s_size) (defScope s_size) .none kV4 dc4 pm4 an4 cd4 ct4), sl4⟩) (c4 : PySem.W.codeIn K cd4 "size" = true) (k4 : PySem.W.keepIn K (.ref f4) = true)
    (a5 : PySem.W.nsIn K mainGlobals "rank" = some (some (.ref f5))) (l5 : K.lookup f5 = some ⟨oc5, od5, .func (PySem.W.fnOf "rank" "rank" (defArgs s_rank) (defBody s_rank) (defScope s_rank) .none kV5 dc5 pm5 an5 cd5 ct5), sl5⟩) (c5 : PySem.W.codeIn K cd5 "rank" = true) (k5 : PySem.W.keepIn K (.ref f5) = true)
    (a6 : PySem.W.nsIn K mainGlobals "ordered" = some (some (.ref f6))) (l6 : K.lookup f6 = some ⟨oc6, od6, .func (PySem.W.fnOf "ordered" "ordered" (defArgs s_ordered) (defBody s_ordered) (defScope s_ordered) .none kV6 dc6 pm6 an6 cd6 ct6), sl6⟩) (c6 : PySem.W.codeIn K cd6 "ordered" = true) (k6 : PySem.W.keepIn K (.ref f6) = true)
    (a7 : PySem.W.nsIn K mainGlobals "parts_of" = some (some (.ref f7))) (l7 : K.lookup f7 = some ⟨oc7, od7, .func (PySem.W.fnOf "parts_of" "parts_of" (defArgs s_parts_of) (defBody s_parts_of) (defScope s_parts_of) .none kV7 dc7 pm7 an7 cd7 ct7), sl7⟩) (c7 : PySem.W.codeIn K cd7 "parts_of" = true) (k7 : PySem.W.keepIn K (.ref f7) = true)
    (a8 : PySem.W.nsIn K mainGlobals "is_side" = some (some (.ref f8))) (l8 : K.lookup f8 = some ⟨oc8, od8, .func (PySem.W.fnOf "is_side" "is_side" (defArgs s_is_side) (defBody s_is_side) (defScope s_is_side) .none kV8 dc8 pm8 an8 cd8 ct8), sl8⟩) (c8 : PySem.W.codeIn K cd8 "is_side" = true) (k8 : PySem.W.keepIn K (.ref f8) = true)
    (a9 : PySem.W.nsIn K mainGlobals "is_rule" = some (some (.ref f9))) (l9 : K.lookup f9 = some ⟨oc9, od9, .func (PySem.W.fnOf "is_rule" "is_rule" (defArgs s_is_rule) (defBody s_is_rule) (defScope s_is_rule) .none kV9 dc9 pm9 an9 cd9 ct9), sl9⟩) (c9 : PySem.W.codeIn K cd9 "is_rule" = true) (k9 : PySem.W.keepIn K (.ref f9) = true)
    (a10 : PySem.W.nsIn K mainGlobals "told_parts" = some (some (.ref f10))) (l10 : K.lookup f10 = some ⟨oc10, od10, .func (PySem.W.fnOf "told_parts" "told_parts" (defArgs s_told_parts) (defBody s_told_parts) (defScope s_told_parts) .none kV10 dc10 pm10 an10 cd10 ct10), sl10⟩) (c10 : PySem.W.codeIn K cd10 "told_parts" = true) (k10 : PySem.W.keepIn K (.ref f10) = true)
    (a11 : PySem.W.nsIn K mainGlobals "_law_feed" = some (some (.ref f11))) (l11 : K.lookup f11 = some ⟨oc11, od11, .func (PySem.W.fnOf "_law_feed" "_law_feed" (defArgs s__law_feed) (defBody s__law_feed) (defScope s__law_feed) .none kV11 dc11 pm11 an11 cd11 ct11), sl11⟩) (c11 : PySem.W.codeIn K cd11 "_law_feed" = true) (k11 : PySem.W.keepIn K (.ref f11) = true)
    (a12 : PySem.W.nsIn K mainGlobals "_law_take" = some (some (.ref f12))) (l12 : K.lookup f12 = some ⟨oc12, od12, .func (PySem.W.fnOf "_law_take" "_law_take" (defArgs s__law_take) (defBody s__law_take) (defScope s__law_take) .none kV12 dc12 pm12 an12 cd12 ct12), sl12⟩) (c12 : PySem.W.codeIn K cd12 "_law_take" = true) (k12 : PySem.W.keepIn K (.ref f12) = true)
    (a13 : PySem.W.nsIn K mainGlobals "_law_pick" = some (some (.ref f13))) (l13 : K.lookup f13 = some ⟨oc13, od13, .func (PySem.W.fnOf "_law_pick" "_law_pick" (defArgs s__law_pick) (defBody s__law_pick) (defScope s__law_pick) .none kV13 dc13 pm13 an13 cd13 ct13), sl13⟩) (c13 : PySem.W.codeIn K cd13 "_law_pick" = true) (k13 : PySem.W.keepIn K (.ref f13) = true)
    (a14 : PySem.W.nsIn K mainGlobals "_law_names" = some (some (.ref f14))) (l14 : K.lookup f14 = some ⟨oc14, od14, .func (PySem.W.fnOf "_law_names" "_law_names" (defArgs s__law_names) (defBody s__law_names) (defScope s__law_names) .none kV14 dc14 pm14 an14 cd14 ct14), sl14⟩) (c14 : PySem.W.codeIn K cd14 "_law_names" = true) (k14 : PySem.W.keepIn K (.ref f14) = true)
    (a15 : PySem.W.nsIn K mainGlobals "_law_grow" = some (some (.ref f15))) (l15 : K.lookup f15 = some ⟨oc15, od15, .func (PySem.W.fnOf "_law_grow" "_law_grow" (defArgs s__law_grow) (defBody s__law_grow) (defScope s__law_grow) .none kV15 dc15 pm15 an15 cd15 ct15), sl15⟩) (c15 : PySem.W.codeIn K cd15 "_law_grow" = true) (k15 : PySem.W.keepIn K (.ref f15) = true)
    (a16 : PySem.W.nsIn K mainGlobals "_law_tree" = some (some (.ref f16))) (l16 : K.lookup f16 = some ⟨oc16, od16, .func (PySem.W.fnOf "_law_tree" "_law_tree" (defArgs s__law_tree) (defBody s__law_tree) (defScope s__law_tree) .none kV16 dc16 pm16 an16 cd16 ct16), sl16⟩) (c16 : PySem.W.codeIn K cd16 "_law_tree" = true) (k16 : PySem.W.keepIn K (.ref f16) = true)
    (a17 : PySem.W.nsIn K mainGlobals "_law_size" = some (some (.ref f17))) (l17 : K.lookup f17 = some ⟨oc17, od17, .func (PySem.W.fnOf "_law_size" "_law_size" (defArgs s__law_size) (defBody s__law_size) (defScope s__law_size) .none kV17 dc17 pm17 an17 cd17 ct17), sl17⟩) (c17 : PySem.W.codeIn K cd17 "_law_size" = true) (k17 : PySem.W.keepIn K (.ref f17) = true)
    (a18 : PySem.W.nsIn K mainGlobals "_law_parts" = some (some (.ref f18))) (l18 : K.lookup f18 = some ⟨oc18, od18, .func (PySem.W.fnOf "_law_parts" "_law_parts" (defArgs s__law_parts) (defBody s__law_parts) (defScope s__law_parts) .none kV18 dc18 pm18 an18 cd18 ct18), sl18⟩) (c18 : PySem.W.codeIn K cd18 "_law_parts" = true) (k18 : PySem.W.keepIn K (.ref f18) = true)
    (a19 : PySem.W.nsIn K mainGlobals "_law_ordered" = some (some (.ref f19))) (l19 : K.lookup f19 = some ⟨oc19, od19, .func (PySem.W.fnOf "_law_ordered" "_law_ordered" (defArgs s__law_ordered) (defBody s__law_ordered) (defScope s__law_ordered) .none kV19 dc19 pm19 an19 cd19 ct19), sl19⟩) (c19 : PySem.W.codeIn K cd19 "_law_ordered" = true) (k19 : PySem.W.keepIn K (.ref f19) = true)
    (a20 : PySem.W.nsIn K mainGlobals "_law_told" = some (some (.ref f20))) (l20 : K.lookup f20 = some ⟨oc20, od20, .func (PySem.W.fnOf "_law_told" "_law_told" (defArgs s__law_told) (defBody s__law_told) (defScope s__law_told) .none kV20 dc20 pm20 an20 cd20 ct20), sl20⟩) (c20 : PySem.W.codeIn K cd20 "_law_told" = true) (k20 : PySem.W.keepIn K (.ref f20) = true)
    (a21 : PySem.W.nsIn K mainGlobals "_law_odd" = some (some (.ref f21))) (l21 : K.lookup f21 = some ⟨oc21, od21, .func (PySem.W.fnOf "_law_odd" "_law_odd" (defArgs s__law_odd) (defBody s__law_odd) (defScope s__law_odd) .none kV21 dc21 pm21 an21 cd21 ct21), sl21⟩) (c21 : PySem.W.codeIn K cd21 "_law_odd" = true) (k21 : PySem.W.keepIn K (.ref f21) = true)
    (a22 : PySem.W.nsIn K mainGlobals "_law_rules" = some (some (.ref f22))) (l22 : K.lookup f22 = some ⟨oc22, od22, .func (PySem.W.fnOf "_law_rules" "_law_rules" (defArgs s__law_rules) (defBody s__law_rules) (defScope s__law_rules) .none kV22 dc22 pm22 an22 cd22 ct22), sl22⟩) (c22 : PySem.W.codeIn K cd22 "_law_rules" = true) (k22 : PySem.W.keepIn K (.ref f22) = true)
    (a23 : PySem.W.nsIn K mainGlobals "_law_is_tree" = some (some (.ref f23))) (l23 : K.lookup f23 = some ⟨oc23, od23, .func (PySem.W.fnOf "_law_is_tree" "_law_is_tree" (defArgs s__law_is_tree) (defBody s__law_is_tree) (defScope s__law_is_tree) .none kV23 dc23 pm23 an23 cd23 ct23), sl23⟩) (c23 : PySem.W.codeIn K cd23 "_law_is_tree" = true) (k23 : PySem.W.keepIn K (.ref f23) = true)
    (a24 : PySem.W.nsIn K mainGlobals "_law_levels" = some (some (.ref f24))) (l24 : K.lookup f24 = some ⟨oc24, od24, .func (PySem.W.fnOf "_law_levels" "_law_levels" (defArgs s__law_levels) (defBody s__law_levels) (defScope s__law_levels) .none kV24 dc24 pm24 an24 cd24 ct24), sl24⟩) (c24 : PySem.W.codeIn K cd24 "_law_levels" = true) (k24 : PySem.W.keepIn K (.ref f24) = true)
    (a25 : PySem.W.nsIn K mainGlobals "_law_is_rule" = some (some (.ref f25))) (l25 : K.lookup f25 = some ⟨oc25, od25, .func (PySem.W.fnOf "_law_is_rule" "_law_is_rule" (defArgs s__law_is_rule) (defBody s__law_is_rule) (defScope s__law_is_rule) .none kV25 dc25 pm25 an25 cd25 ct25), sl25⟩) (c25 : PySem.W.codeIn K cd25 "_law_is_rule" = true) (k25 : PySem.W.keepIn K (.ref f25) = true)
    (a26 : PySem.W.nsIn K mainGlobals "_law_first" = some (some (.ref f26))) (l26 : K.lookup f26 = some ⟨oc26, od26, .func (PySem.W.fnOf "_law_first" "_law_first" (defArgs s__law_first) (defBody s__law_first) (defScope s__law_first) .none kV26 dc26 pm26 an26 cd26 ct26), sl26⟩) (c26 : PySem.W.codeIn K cd26 "_law_first" = true) (k26 : PySem.W.keepIn K (.ref f26) = true)
    (a27 : PySem.W.nsIn K mainGlobals "_law_made" = some (some (.ref f27))) (l27 : K.lookup f27 = some ⟨oc27, od27, .func (PySem.W.fnOf "_law_made" "_law_made" (defArgs s__law_made) (defBody s__law_made) (defScope s__law_made) .none kV27 dc27 pm27 an27 cd27 ct27), sl27⟩) (c27 : PySem.W.codeIn K cd27 "_law_made" = true) (k27 : PySem.W.keepIn K (.ref f27) = true)
    (a28 : PySem.W.nsIn K mainGlobals "_law_wide" = some (some (.ref f28))) (l28 : K.lookup f28 = some ⟨oc28, od28, .func (PySem.W.fnOf "_law_wide" "_law_wide" (defArgs s__law_wide) (defBody s__law_wide) (defScope s__law_wide) .none kV28 dc28 pm28 an28 cd28 ct28), sl28⟩) (c28 : PySem.W.codeIn K cd28 "_law_wide" = true) (k28 : PySem.W.keepIn K (.ref f28) = true)
    (a29 : PySem.W.nsIn K mainGlobals "_law_near" = some (some (.ref f29))) (l29 : K.lookup f29 = some ⟨oc29, od29, .func (PySem.W.fnOf "_law_near" "_law_near" (defArgs s__law_near) (defBody s__law_near) (defScope s__law_near) .none kV29 dc29 pm29 an29 cd29 ct29), sl29⟩) (c29 : PySem.W.codeIn K cd29 "_law_near" = true) (k29 : PySem.W.keepIn K (.ref f29) = true)
    (a30 : PySem.W.nsIn K mainGlobals "law" = some (some (.ref f30))) (l30 : K.lookup f30 = some ⟨oc30, od30, .func (PySem.W.fnOf "law" "law" (defArgs s_law) (defBody s_law) (defScope s_law) .none kV30 dc30 pm30 an30 cd30 ct30), sl30⟩) (c30 : PySem.W.codeIn K cd30 "law" = true) (k30 : PySem.W.keepIn K (.ref f30) = true)
    (zS : PySem.W.nsIn K mainGlobals "super" = some none) (zT : PySem.W.nsIn K PySem.cStatics "thirdparty.any" = some none) (zM : (l.prog.main.scope.names.lookup ("super" : Str)).isSome = false)
    {CBadLot fIBadLot NBadLot cdaBadLot ccBadLot : Addr} {nmBadLot qBadLot fileBadLot : Str} {bsBadLot bmBadLot subBadLot : List Value} {snBadLot : List Str} {abBadLot : Bool} {colBadLot : Option Bool} {ddBadLot odBadLot anBadLot cddBadLot cldBadLot : Option Addr} {maBadLot mbBadLot mcBadLot mdBadLot meBadLot : Option Value} {ocBadLot kVBadLot dcBadLot pmBadLot ctBadLot cclBadLot clBadLot : Value} {slBadLot ccsBadLot cslBadLot : Array (Option Value)} {vsBadLot : Array Value} {tfBadLot : Tok}
    (xaBadLot : PySem.W.nsIn K mainGlobals "BadLot" = some (some (.ref CBadLot))) (xbBadLot : K.lookup CBadLot = some (excClassObj nmBadLot qBadLot CBadLot NBadLot bsBadLot bmBadLot true snBadLot subBadLot abBadLot colBadLot ddBadLot maBadLot mbBadLot mcBadLot mdBadLot meBadLot "ValueError.__new__")) (xcBadLot : PySem.HandSPX.refsVE bmBadLot = true)
    (xdBadLot : PySem.W.findIn K (.ref CBadLot) "__setattr__" = some (some (.builtin "object.__setattr__"))) (xeBadLot : PySem.W.findIn K (.ref CBadLot) "__getattribute__" = some (some (.builtin "BaseException.__getattribute__"))) (xfBadLot : PySem.W.findIn K (.ref CBadLot) "__getattr__" = some none) (xgBadLot : PySem.W.findIn K (.ref CBadLot) "number" = some none)
    (xhBadLot : PySem.W.findIn K (.ref CBadLot) "__init__" = some (some (.ref fIBadLot))) (xiBadLot : PySem.W.typeIn K (.ref fIBadLot) = some (.type "function"))
    (xjBadLot : K.lookup fIBadLot = some ⟨ocBadLot, odBadLot, .func (PySem.W.fnX "__init__" "BadLot.__init__" (XIX.iA "number" ⟨9, 17, 9, 21⟩ ⟨9, 23, 9, 29⟩) (XIX.iB "these rules are no lot" "number" "number" 0 ⟨10, 8, 10, 13⟩ ⟨10, 8, 10, 15⟩ ⟨10, 8, 10, 24⟩ ⟨10, 25, 10, 49⟩ ⟨10, 8, 10, 50⟩ ⟨10, 8, 10, 50⟩ ⟨11, 8, 11, 12⟩ ⟨11, 8, 11, 19⟩ ⟨11, 22, 11, 28⟩ ⟨11, 8, 11, 28⟩) (XIX.iS "number") [("__class__", ccBadLot)] .none kVBadLot dcBadLot pmBadLot anBadLot (.ref cdaBadLot) ctBadLot), slBadLot⟩) (xkBadLot : PySem.W.codeIn K (.ref cdaBadLot) "BadLot.__init__" = true)
    (xlBadLot : K.lookup cdaBadLot = some ⟨cclBadLot, cddBadLot, .fields vsBadLot, ccsBadLot⟩) (xmBadLot : vsBadLot[2]? = some (.str fileBadLot tfBadLot)) (xnBadLot : ((l.prog.main.file : Str) == fileBadLot) = true) (xoBadLot : K.lookup ccBadLot = some ⟨clBadLot, cldBadLot, .cell (some (.ref CBadLot)), cslBadLot⟩)
    (xpBadLot : PySem.W.keepIn K (.ref CBadLot) = true) (xqBadLot : PySem.W.subIn K (.ref CBadLot) (.type "BaseException") = some true) (xrBadLot : PySem.W.typeIn K (.ref CBadLot) = some (.type "type")) (xsBadLot : PySem.W.hasDictIn K CBadLot = true) (xtBadLot : PySem.W.isClsIn K CBadLot = true) (xuBadLot : PySem.W.subIn K (.ref CBadLot) (.ref CBadLot) = some true)
    (xvBadLot : PySem.W.ks_superIn K CBadLot CBadLot "__init__" = some (some (.builtin "ValueError.__init__"))) (xwBadLot : PySem.W.subIn K (.ref CBadLot) (.type "ValueError") = some true) (xxBadLot : PySem.W.mroIn K CBadLot (.ref CBadLot) = some true)
    {tk_MOST_LETTERS : Tok} (m_MOST_LETTERS : PySem.W.nsIn K mainGlobals "MOST_LETTERS" = some (some (.int 8 tk_MOST_LETTERS)))
    {tk_MOST_CHILDREN : Tok} (m_MOST_CHILDREN : PySem.W.nsIn K mainGlobals "MOST_CHILDREN" = some (some (.int 4 tk_MOST_CHILDREN)))
    {tk_MOST_RULES : Tok} (m_MOST_RULES : PySem.W.nsIn K mainGlobals "MOST_RULES" = some (some (.int 8 tk_MOST_RULES)))
    {tk_MOST_TOLD_PARTS : Tok} (m_MOST_TOLD_PARTS : PySem.W.nsIn K mainGlobals "MOST_TOLD_PARTS" = some (some (.int 24 tk_MOST_TOLD_PARTS)))
    {tk_MOST_NODES_OF_SIDE : Tok} (m_MOST_NODES_OF_SIDE : PySem.W.nsIn K mainGlobals "MOST_NODES_OF_SIDE" = some (some (.int 6 tk_MOST_NODES_OF_SIDE)))
    {tk_MOST_LEVELS_OF_SIDE : Tok} (m_MOST_LEVELS_OF_SIDE : PySem.W.nsIn K mainGlobals "MOST_LEVELS_OF_SIDE" = some (some (.int 4 tk_MOST_LEVELS_OF_SIDE)))
    {DLot : Addr} (yaLot : PySem.W.nsIn K mainGlobals "Lot" = some (some (.ref DLot))) (ybLot : PySem.W.makesIn K DLot = true) (ycLot : PySem.W.keepIn K (.ref DLot) = true) (ydLot : PySem.W.plainGet K DLot Str.empty = true) (yeLot : PySem.W.hasDictIn K DLot = true) (yfLot : PySem.W.plainOver K DLot = true) (ygLot : PySem.W.findIn K (.ref DLot) "__setattr__" = some (some (.builtin "object.__setattr__")))
    (yo1Lot : PySem.W.selfFirst K DLot = true) (yo2Lot : PySem.W.findIn K (.ref DLot) "__ne__" = some (some (.builtin "object.__ne__"))) (yo3Lot : PySem.W.subIn K (.ref DLot) (.type "object") = some true) (yo4Lot : PySem.W.findIn K (.ref DLot) "__class__" = some (some (.builtin "object.__class__"))) (yo5Lot : PySem.W.specialIn K (.builtin "object.__class__") "__get__" = some (some (.builtin "getset_descriptor.__get__"))) (yo6Lot : PySem.W.takesIn K (.builtin "object.__class__") = some true) (yo7Lot : PySem.W.mroIn K DLot (.type "object") = some true) (yo8Lot : (PySem.W.clsIn K DLot).isSome = true) (yo9Lot : PySem.W.typeIn K (.ref DLot) = some (.type "type"))
    (ynLot_rules : PySem.W.findIn K (.ref DLot) "_rules" = some none)
    (ynLot_parts : PySem.W.findIn K (.ref DLot) "_parts" = some none)
    {gLot___init__ : Addr} {odLot___init__ anLot___init__ : Option Addr} {slLot___init__ : Array (Option Value)} {ocLot___init__ kVLot___init__ dcLot___init__ pmLot___init__ cdLot___init__ ctLot___init__ : Value}
    (yhLot___init__ : PySem.W.findIn K (.ref DLot) "__init__" = some (some (.ref gLot___init__))) (ylLot___init__ : K.lookup gLot___init__ = some ⟨ocLot___init__, odLot___init__, .func (PySem.W.fnOf "__init__" "Lot.__init__" (defArgs s_Lot___init__) (defBody s_Lot___init__) (defScope s_Lot___init__) .none kVLot___init__ dcLot___init__ pmLot___init__ anLot___init__ cdLot___init__ ctLot___init__), slLot___init__⟩) (ycLot___init__ : PySem.W.codeIn K cdLot___init__ "Lot.__init__" = true) (ykLot___init__ : PySem.W.keepIn K (.ref gLot___init__) = true) (yiLot___init__ : PySem.W.isFn K (.ref gLot___init__) = true)
    {gLot_rules : Addr} {odLot_rules anLot_rules : Option Addr} {slLot_rules : Array (Option Value)} {ocLot_rules kVLot_rules dcLot_rules pmLot_rules cdLot_rules ctLot_rules : Value}
    (yhLot_rules : PySem.W.findIn K (.ref DLot) "rules" = some (some (.ref gLot_rules))) (ylLot_rules : K.lookup gLot_rules = some ⟨ocLot_rules, odLot_rules, .func (PySem.W.fnOf "rules" "Lot.rules" (defArgs s_Lot_rules) (defBody s_Lot_rules) (defScope s_Lot_rules) .none kVLot_rules dcLot_rules pmLot_rules anLot_rules cdLot_rules ctLot_rules), slLot_rules⟩) (ycLot_rules : PySem.W.codeIn K cdLot_rules "Lot.rules" = true) (ykLot_rules : PySem.W.keepIn K (.ref gLot_rules) = true) (yiLot_rules : PySem.W.isFn K (.ref gLot_rules) = true)
    {gLot___len__ : Addr} {odLot___len__ anLot___len__ : Option Addr} {slLot___len__ : Array (Option Value)} {ocLot___len__ kVLot___len__ dcLot___len__ pmLot___len__ cdLot___len__ ctLot___len__ : Value}
    (yhLot___len__ : PySem.W.findIn K (.ref DLot) "__len__" = some (some (.ref gLot___len__))) (ylLot___len__ : K.lookup gLot___len__ = some ⟨ocLot___len__, odLot___len__, .func (PySem.W.fnOf "__len__" "Lot.__len__" (defArgs s_Lot___len__) (defBody s_Lot___len__) (defScope s_Lot___len__) .none kVLot___len__ dcLot___len__ pmLot___len__ anLot___len__ cdLot___len__ ctLot___len__), slLot___len__⟩) (ycLot___len__ : PySem.W.codeIn K cdLot___len__ "Lot.__len__" = true) (ykLot___len__ : PySem.W.keepIn K (.ref gLot___len__) = true) (yiLot___len__ : PySem.W.isFn K (.ref gLot___len__) = true)
    {gLot___eq__ : Addr} {odLot___eq__ anLot___eq__ : Option Addr} {slLot___eq__ : Array (Option Value)} {ocLot___eq__ kVLot___eq__ dcLot___eq__ pmLot___eq__ cdLot___eq__ ctLot___eq__ : Value}
    (yhLot___eq__ : PySem.W.findIn K (.ref DLot) "__eq__" = some (some (.ref gLot___eq__))) (ylLot___eq__ : K.lookup gLot___eq__ = some ⟨ocLot___eq__, odLot___eq__, .func (PySem.W.fnOf "__eq__" "Lot.__eq__" (defArgs s_Lot___eq__) (defBody s_Lot___eq__) (defScope s_Lot___eq__) .none kVLot___eq__ dcLot___eq__ pmLot___eq__ anLot___eq__ cdLot___eq__ ctLot___eq__), slLot___eq__⟩) (ycLot___eq__ : PySem.W.codeIn K cdLot___eq__ "Lot.__eq__" = true) (ykLot___eq__ : PySem.W.keepIn K (.ref gLot___eq__) = true) (yiLot___eq__ : PySem.W.isFn K (.ref gLot___eq__) = true)
    (z_len : PySem.W.nsIn K mainGlobals "len" = some none)
    (z_range : PySem.W.nsIn K mainGlobals "range" = some none)
    (z_list : PySem.W.nsIn K mainGlobals "list" = some none)
    (z_tuple : PySem.W.nsIn K mainGlobals "tuple" = some none)
    (z_sum : PySem.W.nsIn K mainGlobals "sum" = some none)
    (z_max : PySem.W.nsIn K mainGlobals "max" = some none)
    (z_min : PySem.W.nsIn K mainGlobals "min" = some none)
    (z_abs : PySem.W.nsIn K mainGlobals "abs" = some none)
    (z_int : PySem.W.nsIn K mainGlobals "int" = some none)
    (z_repr : PySem.W.nsIn K mainGlobals "repr" = some none)
    (z_sorted : PySem.W.nsIn K mainGlobals "sorted" = some none)
    (z_enumerate : PySem.W.nsIn K mainGlobals "enumerate" = some none)
    (z_isinstance : PySem.W.nsIn K mainGlobals "isinstance" = some none)
    (z_reversed : PySem.W.nsIn K mainGlobals "reversed" = some none)
    (z_all : PySem.W.nsIn K mainGlobals "all" = some none)
    (z_str : PySem.W.nsIn K mainGlobals "str" = some none)
    (z_bool : PySem.W.nsIn K mainGlobals "bool" = some none)
    (z_dict : PySem.W.nsIn K mainGlobals "dict" = some none)
    (z_any : PySem.W.nsIn K mainGlobals "any" = some none) :
    ∃ fd : FuncData, (∀ (s : Shared) (v : Value), BindsTo s fd ⟨[v], []⟩ [("script", v)]) ∧ ∀ base : Heap, K.In base → base.Ns mainGlobals mg → FnG l.prog w K mg base 65 fa fd ["script"] (spP K gLaw) := by
  have e := hfa.symm.trans (PySem.W.mg_of X G a30)
  cases e
  have F0 := fun_mk (st := s_is_name) l0 c0 k0
  have D_is_name : Df K mg "is_name" s_is_name P_is_name _ _ := ⟨F0, PySem.W.mg_of X G a0, F0.binds (ps := P_is_name) fun _ _ _ _ _ _ us hl => match us, hl with | [_], _ => rfl⟩
  have F1 := fun_mk (st := s_is_node) l1 c1 k1
  have D_is_node : Df K mg "is_node" s_is_node P_is_node _ _ := ⟨F1, PySem.W.mg_of X G a1, F1.binds (ps := P_is_node) fun _ _ _ _ _ _ us hl => match us, hl with | [_], _ => rfl⟩
  have F2 := fun_mk (st := s_is_low_tree) l2 c2 k2
  have D_is_low_tree : Df K mg "is_low_tree" s_is_low_tree P_is_low_tree _ _ := ⟨F2, PySem.W.mg_of X G a2, F2.binds (ps := P_is_low_tree) fun _ _ _ _ _ _ us hl => match us, hl with | [_, _], _ => rfl⟩
  have F3 := fun_mk (st := s_every_part) l3 c3 k3
  have D_every_part : Df K mg "every_part" s_every_part P_every_part _ _ := ⟨F3, PySem.W.mg_of X G a3, F3.binds (ps := P_every_part) fun _ _ _ _ _ _ us hl => match us, hl with | [_], _ => rfl⟩
  have F4 := fun_mk (st := s_size) l4 c4 k4
  have D_size : Df K mg "size" s_size P_size _ _ := ⟨F4, PySem.W.mg_of X G a4, F4.binds (ps := P_size) fun _ _ _ _ _ _ us hl => match us, hl with | [_], _ => rfl⟩
  have F5 := fun_mk (st := s_rank) l5 c5 k5
  have D_rank : Df K mg "rank" s_rank P_rank _ _ := ⟨F5, PySem.W.mg_of X G a5, F5.binds (ps := P_rank) fun _ _ _ _ _ _ us hl => match us, hl with | [_], _ => rfl⟩
  have F6 := fun_mk (st := s_ordered) l6 c6 k6
  have D_ordered : Df K mg "ordered" s_ordered P_ordered _ _ := ⟨F6, PySem.W.mg_of X G a6, F6.binds (ps := P_ordered) fun _ _ _ _ _ _ us hl => match us, hl with | [_], _ => rfl⟩
  have F7 := fun_mk (st := s_parts_of) l7 c7 k7
  have D_parts_of : Df K mg "parts_of" s_parts_of P_parts_of _ _ := ⟨F7, PySem.W.mg_of X G a7, F7.binds (ps := P_parts_of) fun _ _ _ _ _ _ us hl => match us, hl with | [_], _ => rfl⟩
  have F8 := fun_mk (st := s_is_side) l8 c8 k8
  have D_is_side : Df K mg "is_side" s_is_side P_is_side _ _ := ⟨F8, PySem.W.mg_of X G a8, F8.binds (ps := P_is_side) fun _ _ _ _ _ _ us hl => match us, hl with | [_], _ => rfl⟩
  have F9 := fun_mk (st := s_is_rule) l9 c9 k9
  have D_is_rule : Df K mg "is_rule" s_is_rule P_is_rule _ _ := ⟨F9, PySem.W.mg_of X G a9, F9.binds (ps := P_is_rule) fun _ _ _ _ _ _ us hl => match us, hl with | [_], _ => rfl⟩
  have F10 := fun_mk (st := s_told_parts) l10 c10 k10
  have D_told_parts : Df K mg "told_parts" s_told_parts P_told_parts _ _ := ⟨F10, PySem.W.mg_of X G a10, F10.binds (ps := P_told_parts) fun _ _ _ _ _ _ us hl => match us, hl with | [_], _ => rfl⟩
  have F11 := fun_mk (st := s__law_feed) l11 c11 k11
  have D__law_feed : Df K mg "_law_feed" s__law_feed P__law_feed _ _ := ⟨F11, PySem.W.mg_of X G a11, F11.binds (ps := P__law_feed) fun _ _ _ _ _ _ us hl => match us, hl with | [_, _], _ => rfl⟩
  have F12 := fun_mk (st := s__law_take) l12 c12 k12
  have D__law_take : Df K mg "_law_take" s__law_take P__law_take _ _ := ⟨F12, PySem.W.mg_of X G a12, F12.binds (ps := P__law_take) fun _ _ _ _ _ _ us hl => match us, hl with | [_, _], _ => rfl⟩
  have F13 := fun_mk (st := s__law_pick) l13 c13 k13
  have D__law_pick : Df K mg "_law_pick" s__law_pick P__law_pick _ _ := ⟨F13, PySem.W.mg_of X G a13, F13.binds (ps := P__law_pick) fun _ _ _ _ _ _ us hl => match us, hl with | [_, _], _ => rfl⟩
  have F14 := fun_mk (st := s__law_names) l14 c14 k14
  have D__law_names : Df K mg "_law_names" s__law_names P__law_names _ _ := ⟨F14, PySem.W.mg_of X G a14, F14.binds (ps := P__law_names) fun _ _ _ _ _ _ us hl => match us, hl with | [_], _ => rfl⟩
  have F15 := fun_mk (st := s__law_grow) l15 c15 k15
  have D__law_grow : Df K mg "_law_grow" s__law_grow P__law_grow _ _ := ⟨F15, PySem.W.mg_of X G a15, F15.binds (ps := P__law_grow) fun _ _ _ _ _ _ us hl => match us, hl with | [_, _, _, _], _ => rfl⟩
  have F16 := fun_mk (st := s__law_tree) l16 c16 k16
  have D__law_tree : Df K mg "_law_tree" s__law_tree P__law_tree _ _ := ⟨F16, PySem.W.mg_of X G a16, F16.binds (ps := P__law_tree) fun _ _ _ _ _ _ us hl => match us, hl with | [_, _, _], _ => rfl⟩
  have F17 := fun_mk (st := s__law_size) l17 c17 k17
  have D__law_size : Df K mg "_law_size" s__law_size P__law_size _ _ := ⟨F17, PySem.W.mg_of X G a17, F17.binds (ps := P__law_size) fun _ _ _ _ _ _ us hl => match us, hl with | [_], _ => rfl⟩
  have F18 := fun_mk (st := s__law_parts) l18 c18 k18
  have D__law_parts : Df K mg "_law_parts" s__law_parts P__law_parts _ _ := ⟨F18, PySem.W.mg_of X G a18, F18.binds (ps := P__law_parts) fun _ _ _ _ _ _ us hl => match us, hl with | [_], _ => rfl⟩
  have F19 := fun_mk (st := s__law_ordered) l19 c19 k19
  have D__law_ordered : Df K mg "_law_ordered" s__law_ordered P__law_ordered _ _ := ⟨F19, PySem.W.mg_of X G a19, F19.binds (ps := P__law_ordered) fun _ _ _ _ _ _ us hl => match us, hl with | [_], _ => rfl⟩
  have F20 := fun_mk (st := s__law_told) l20 c20 k20
  have D__law_told : Df K mg "_law_told" s__law_told P__law_told _ _ := ⟨F20, PySem.W.mg_of X G a20, F20.binds (ps := P__law_told) fun _ _ _ _ _ _ us hl => match us, hl with | [_, _], _ => rfl⟩
  have F21 := fun_mk (st := s__law_odd) l21 c21 k21
  have D__law_odd : Df K mg "_law_odd" s__law_odd P__law_odd _ _ := ⟨F21, PySem.W.mg_of X G a21, F21.binds (ps := P__law_odd) fun _ _ _ _ _ _ us hl => match us, hl with | [_, _], _ => rfl⟩
  have F22 := fun_mk (st := s__law_rules) l22 c22 k22
  have D__law_rules : Df K mg "_law_rules" s__law_rules P__law_rules _ _ := ⟨F22, PySem.W.mg_of X G a22, F22.binds (ps := P__law_rules) fun _ _ _ _ _ _ us hl => match us, hl with | [_, _, _, _, _], _ => rfl⟩
  have F23 := fun_mk (st := s__law_is_tree) l23 c23 k23
  have D__law_is_tree : Df K mg "_law_is_tree" s__law_is_tree P__law_is_tree _ _ := ⟨F23, PySem.W.mg_of X G a23, F23.binds (ps := P__law_is_tree) fun _ _ _ _ _ _ us hl => match us, hl with | [_], _ => rfl⟩
  have F24 := fun_mk (st := s__law_levels) l24 c24 k24
  have D__law_levels : Df K mg "_law_levels" s__law_levels P__law_levels _ _ := ⟨F24, PySem.W.mg_of X G a24, F24.binds (ps := P__law_levels) fun _ _ _ _ _ _ us hl => match us, hl with | [_], _ => rfl⟩
  have F25 := fun_mk (st := s__law_is_rule) l25 c25 k25
  have D__law_is_rule : Df K mg "_law_is_rule" s__law_is_rule P__law_is_rule _ _ := ⟨F25, PySem.W.mg_of X G a25, F25.binds (ps := P__law_is_rule) fun _ _ _ _ _ _ us hl => match us, hl with | [_], _ => rfl⟩
  have F26 := fun_mk (st := s__law_first) l26 c26 k26
  have D__law_first : Df K mg "_law_first" s__law_first P__law_first _ _ := ⟨F26, PySem.W.mg_of X G a26, F26.binds (ps := P__law_first) fun _ _ _ _ _ _ us hl => match us, hl with | [_], _ => rfl⟩
  have F27 := fun_mk (st := s__law_made) l27 c27 k27
  have D__law_made : Df K mg "_law_made" s__law_made P__law_made _ _ := ⟨F27, PySem.W.mg_of X G a27, F27.binds (ps := P__law_made) fun _ _ _ _ _ _ us hl => match us, hl with | [_], _ => rfl⟩
  have F28 := fun_mk (st := s__law_wide) l28 c28 k28
  have D__law_wide : Df K mg "_law_wide" s__law_wide P__law_wide _ _ := ⟨F28, PySem.W.mg_of X G a28, F28.binds (ps := P__law_wide) fun _ _ _ _ _ _ us hl => match us, hl with | [_], _ => rfl⟩
  have F29 := fun_mk (st := s__law_near) l29 c29 k29
  have D__law_near : Df K mg "_law_near" s__law_near P__law_near _ _ := ⟨F29, PySem.W.mg_of X G a29, F29.binds (ps := P__law_near) fun _ _ _ _ _ _ us hl => match us, hl with | [_, _], _ => rfl⟩
  have F30 := fun_mk (st := s_law) l30 c30 k30
  have D_law : Df K mg "law" s_law P_law _ _ := ⟨F30, PySem.W.mg_of X G a30, F30.binds (ps := P_law) fun _ _ _ _ _ _ us hl => match us, hl with | [_], _ => rfl⟩
  have B : Bi mg := ⟨PySem.W.mg_none_of X G z_len, PySem.W.mg_none_of X G z_range, PySem.W.mg_none_of X G z_list, PySem.W.mg_none_of X G z_tuple, PySem.W.mg_none_of X G z_sum, PySem.W.mg_none_of X G z_max, PySem.W.mg_none_of X G z_min, PySem.W.mg_none_of X G z_abs, PySem.W.mg_none_of X G z_int, PySem.W.mg_none_of X G z_repr, PySem.W.mg_none_of X G z_sorted, PySem.W.mg_none_of X G z_enumerate, PySem.W.mg_none_of X G z_isinstance, PySem.W.mg_none_of X G z_reversed, PySem.W.mg_none_of X G z_all, PySem.W.mg_none_of X G z_str, PySem.W.mg_none_of X G z_bool, PySem.W.mg_none_of X G z_dict, PySem.W.mg_none_of X G z_any⟩
  have X_BadLot : XIX.XTxt l.prog K mg "BadLot" "BadLot.__init__" "number" "number" CBadLot fIBadLot := { gC := PySem.W.mg_of X G xaBadLot, cls := ⟨nmBadLot, qBadLot, NBadLot, bsBadLot, bmBadLot, snBadLot, subBadLot, abBadLot, colBadLot, ddBadLot, maBadLot, mbBadLot, mcBadLot, mdBadLot, meBadLot, xbBadLot, xcBadLot⟩, sa := xdBadLot, ga := xeBadLot, gg := xfBadLot, noN := xgBadLot, iC := xhBadLot, tC := xiBadLot, kC := xpBadLot, exC := xqBadLot, tyC := xrBadLot, hdC := xsBadLot, fn := ⟨ocBadLot, odBadLot, kVBadLot, dcBadLot, pmBadLot, anBadLot, cdaBadLot, ccBadLot, ctBadLot, slBadLot, _, 0, _, _, _, _, _, _, _, _, _, _, _, _, xjBadLot, xkBadLot, ⟨_, fun env => rfl⟩, ⟨cclBadLot, cddBadLot, vsBadLot, ccsBadLot, fileBadLot, tfBadLot, xlBadLot, xmBadLot, xnBadLot⟩, clBadLot, cldBadLot, cslBadLot, xoBadLot⟩, sup := xvBadLot, sVE := xwBadLot, mC := xxBadLot, noT := zT, noS := PySem.W.mg_none_of X G zS, top := zM, par1 := by decide +kernel, par2 := by decide +kernel, par3 := by decide +kernel, par4 := by decide +kernel }
  have A_BadLot : ∀ u, XIX.ArgsTo K fIBadLot "number" ⟨[u], []⟩ u := XIX.args_pos X_BadLot (by intros; rfl)
  have hex_BadLot : PySem.W.exmOne K (.ref CBadLot) (.ref CBadLot) = some true := XIX.exm_self xqBadLot xtBadLot xrBadLot xuBadLot
  have M : Mc mg := ⟨⟨_, PySem.W.mg_of X G m_MOST_LETTERS⟩, ⟨_, PySem.W.mg_of X G m_MOST_CHILDREN⟩, ⟨_, PySem.W.mg_of X G m_MOST_RULES⟩, ⟨_, PySem.W.mg_of X G m_MOST_TOLD_PARTS⟩, ⟨_, PySem.W.mg_of X G m_MOST_NODES_OF_SIDE⟩, ⟨_, PySem.W.mg_of X G m_MOST_LEVELS_OF_SIDE⟩⟩
  have cls_Lot : Cls K DLot := ⟨ydLot, yeLot, yfLot, ygLot⟩
  have mg_Lot : mg "Lot" = some (.ref DLot) := PySem.W.mg_of X G yaLot
  have T : Txt K mg DLot := ⟨cls_Lot, ynLot_rules, ynLot_parts, mg_Lot⟩
  have O_Lot : Ops K DLot := ⟨yo1Lot, yo2Lot, yo3Lot, yo4Lot, yo5Lot, yo6Lot, yo7Lot, yo8Lot, yo9Lot⟩
  have F_Lot___init__ := fun_mk (st := s_Lot___init__) ylLot___init__ ycLot___init__ ykLot___init__
  have b_Lot___init__ := F_Lot___init__.binds (ps := P_Lot___init__) fun _ _ _ _ _ _ us hl => match us, hl with | [_, _], _ => rfl
  have M_Lot : Mk K DLot gLot___init__ := ⟨ybLot, yhLot___init__, yiLot___init__, ycLot⟩
  have F_Lot_rules := fun_mk (st := s_Lot_rules) ylLot_rules ycLot_rules ykLot_rules
  have b_Lot_rules := F_Lot_rules.binds (ps := P_Lot_rules) fun _ _ _ _ _ _ us hl => match us, hl with | [_], _ => rfl
  have m_Lot_rules : Meth K DLot "rules" gLot_rules := ⟨yhLot_rules, yiLot_rules, ykLot_rules⟩
  have F_Lot___len__ := fun_mk (st := s_Lot___len__) ylLot___len__ ycLot___len__ ykLot___len__
  have b_Lot___len__ := F_Lot___len__.binds (ps := P_Lot___len__) fun _ _ _ _ _ _ us hl => match us, hl with | [_], _ => rfl
  have m_Lot___len__ : Meth K DLot "__len__" gLot___len__ := ⟨yhLot___len__, yiLot___len__, ykLot___len__⟩
  have F_Lot___eq__ := fun_mk (st := s_Lot___eq__) ylLot___eq__ ycLot___eq__ ykLot___eq__
  have b_Lot___eq__ := F_Lot___eq__.binds (ps := P_Lot___eq__) fun _ _ _ _ _ _ us hl => match us, hl with | [_, _], _ => rfl
  have m_Lot___eq__ : Meth K DLot "__eq__" gLot___eq__ := ⟨yhLot___eq__, yiLot___eq__, ykLot___eq__⟩
  refine ⟨PySem.W.fnOf "law" "law" (defArgs s_law) (defBody s_law) (defScope s_law) .none kV30 dc30 pm30 an30 cd30 ct30, fun s v => .of_eq rfl, fun base _ _ => ?_⟩
  have gin : FnOk l.prog w K mg base (L2.CX l.prog w) 11 _ _ P_Lot___init__ (spIY K DLot (gInitD CBadLot)) := ok_initD F_Lot___init__ B M T D_is_rule D_is_side D_is_name D_is_node D_is_low_tree D_size D_every_part D_rank D_ordered D_parts_of D_told_parts X_BadLot A_BadLot
  have gne : FnOk l.prog w K mg base CX0 23 _ _ P__law_near (spF K gNear) := ok_near D__law_near B D__law_wide D__law_odd D__law_rules D__law_tree D__law_grow D__law_take D__law_pick D__law_size
  have gfi : FnOk l.prog w K mg base CX0 63 _ _ P__law_first (spP K gFirst) := ok_first5 D__law_first B D__law_is_rule D__law_is_tree D__law_levels D__law_size D__law_told D__law_parts D__law_ordered
  have gma : FnOk l.prog w K mg base CX0 13 _ _ P__law_made (spPY K (gMade DLot)) := ok_made D__law_made T M_Lot gin b_Lot___init__ X_BadLot hex_BadLot
  exact ok_law D_law B D__law_feed D__law_names D__law_take D__law_pick D__law_near D__law_first D__law_made gne gfi gma T O_Lot (ok_lrules F_Lot_rules B T) m_Lot_rules b_Lot_rules (ok_Llen F_Lot___len__ B T) m_Lot___len__ b_Lot___len__
theorem law_holds {K : Frag} {H : Hp} {a : Addr} {ns : List Int} (hl : ns.length ≤ 63) (hS : SqL K H a (ns.map V.int)) : spP K gLaw [.ref a] H (fun v _ => v = .bl true) fun _ _ _ => False :=
  ⟨fun _ => False, [given (ns.map PyData.int)], fun d => d = .bool true, fun a z => z.elim, .cons (.giv (ex_l (fun b o e => by rw [off_ne (S := fun _ => False) id]; exact e) hS) (ints_all ns)) .nil, ⟨ns, rfl, hl, rfl⟩, fun r H' d _ rd e => by subst e; cases rd; rfl⟩
theorem walk {l : PySem.W.OpenLaw} {q : Program} {loose : List Str} {XP : (Str → Option Value) → Heap → Prop} {YP : World → Heap → Prop} {d : DefRec} {K : Params → PySem.W.Frag} (hn : l.most = some 63) (hdf : d.params.defaults = [])
    (hY : ∀ (w : World) (h : Heap), YP w h → (K w.params).In h)
    (F : ∀ (w : World) (mg : Str → Option Value) (fa : Addr) (h : Heap), (K w.params).In h → h.Ns mainGlobals mg → mg d.name = some (.ref fa) →
      ∃ fd : FuncData, (∀ (s : Shared) (u : Value), BindsTo s fd ⟨[u], []⟩ [("script", u)]) ∧ ∀ base : Heap, (K w.params).In base → base.Ns mainGlobals mg → FnG l.prog w (K w.params) mg base 65 fa fd ["script"] (spP (K w.params) gLaw)) :
    PySem.W.WalkO q loose XP YP l.row.toRowW d [] (fun f vs => PySem.call f vs) :=
  walkG (n := 63) (k := 65) (x := "script") (sp := fun w => spP (K w.params) gLaw) hn (by decide) hdf ⟨rfl, by decide, by decide⟩ hY F (fun _ _ a ns hl hS => law_holds hl hS)
end Gr
open PySem PySem.W PyProof.Rows
set_option maxRecDepth 100000 in
set_option maxHeartbeats 0 in
theorem PySem.Challenge.cw_graftrules_k05_values_that_are_lots_holds : PySem.Challenge.rw_graftrules_k05_values_that_are_lots.Holds := by
  w_on; o_law; k_head; (case hw => w_witness2)
  k_fill
  refine Gr.walk (l := PySem.Challenge.rw_graftrules_k05_values_that_are_lots) rfl rfl (fun w h Y => PySem.W.kIn_of Y) ?F
  case F =>
    intro w mg fa h KX G hmg
    refine' Gr.all_mk KX G hmg ?a0 ?l0 ?c0 ?k0 ?a1 ?l1 ?c1 ?k1 ?a2 ?l2 ?c2 ?k2 ?a3 ?l3 ?c3 ?k3 ?a4 ?l4 ?c4 ?k4 ?a5 ?l5 ?c5 ?k5 ?a6 ?l6 ?c6 ?k6 ?a7 ?l7 ?c7 ?k7 ?a8 ?l8 ?c8 ?k8 ?a9 ?l9 ?c9 ?k9 ?a10 ?l10 ?c10 ?k10 ?a11 ?l11 ?c11 ?k11 ?a12 ?l12 ?c12 ?k12 ?a13 ?l13 ?c13 ?k13 ?a14 ?l14 ?c14 ?k14 ?a15 ?l15 ?c15 ?k15 ?a16 ?l16 ?c16 ?k16 ?a17 ?l17 ?c17 ?k17 ?a18 ?l18 ?c18 ?k18 ?a19 ?l19 ?c19 ?k19 ?a20 ?l20 ?c20 ?k20 ?a21 ?l21 ?c21 ?k21 ?a22 ?l22 ?c22 ?k22 ?a23 ?l23 ?c23 ?k23 ?a24 ?l24 ?c24 ?k24 ?a25 ?l25 ?c25 ?k25 ?a26 ?l26 ?c26 ?k26 ?a27 ?l27 ?c27 ?k27 ?a28 ?l28 ?c28 ?k28 ?a29 ?l29 ?c29 ?k29 ?a30 ?l30 ?c30 ?k30 ?zS ?zT ?zM ?xaBadLot ?xbBadLot ?xcBadLot ?xdBadLot ?xeBadLot ?xfBadLot ?xgBadLot ?xhBadLot ?xiBadLot ?xjBadLot ?xkBadLot ?xlBadLot ?xmBadLot ?xnBadLot ?xoBadLot ?xpBadLot ?xqBadLot ?xrBadLot ?xsBadLot ?xtBadLot ?xuBadLot ?xvBadLot ?xwBadLot ?xxBadLot ?m_MOST_LETTERS ?m_MOST_CHILDREN ?m_MOST_RULES ?m_MOST_TOLD_PARTS ?m_MOST_NODES_OF_SIDE ?m_MOST_LEVELS_OF_SIDE ?yaLot ?ybLot ?ycLot ?ydLot ?yeLot ?yfLot ?ygLot ?yo1Lot ?yo2Lot ?yo3Lot ?yo4Lot ?yo5Lot ?yo6Lot ?yo7Lot ?yo8Lot ?yo9Lot ?ynLot_rules ?ynLot_parts ?yhLot___init__ ?ylLot___init__ ?ycLot___init__ ?ykLot___init__ ?yiLot___init__ ?yhLot_rules ?ylLot_rules ?ycLot_rules ?ykLot_rules ?yiLot_rules ?yhLot___len__ ?ylLot___len__ ?ycLot___len__ ?ykLot___len__ ?yiLot___len__ ?yhLot___eq__ ?ylLot___eq__ ?ycLot___eq__ ?ykLot___eq__ ?yiLot___eq__ ?z_len ?z_range ?z_list ?z_tuple ?z_sum ?z_max ?z_min ?z_abs ?z_int ?z_repr ?z_sorted ?z_enumerate ?z_isinstance ?z_reversed ?z_all ?z_str ?z_bool ?z_dict ?z_any
    (case a0 => k_is)
    (case l0 => k_is)
    (case c0 => k_is)
    (case k0 => k_is)
    (case a1 => k_is)
    (case l1 => k_is)
    (case c1 => k_is)
    (case k1 => k_is)
    (case a2 => k_is)
    (case l2 => k_is)
    (case c2 => k_is)
    (case k2 => k_is)
    (case a3 => k_is)
    (case l3 => k_is)
    (case c3 => k_is)
    (case k3 => k_is)
    (case a4 => k_is)
    (case l4 => k_is)
    (case c4 => k_is)
    (case k4 => k_is)
    (case a5 => k_is)
    (case l5 => k_is)
    (case c5 => k_is)
    (case k5 => k_is)
    (case a6 => k_is)
    (case l6 => k_is)
    (case c6 => k_is)
    (case k6 => k_is)
    (case a7 => k_is)
    (case l7 => k_is)
    (case c7 => k_is)
    (case k7 => k_is)
    (case a8 => k_is)
    (case l8 => k_is)
    (case c8 => k_is)
    (case k8 => k_is)
    (case a9 => k_is)
    (case l9 => k_is)
    (case c9 => k_is)
    (case k9 => k_is)
    (case a10 => k_is)
    (case l10 => k_is)
    (case c10 => k_is)
    (case k10 => k_is)
    (case a11 => k_is)
    (case l11 => k_is)
    (case c11 => k_is)
    (case k11 => k_is)
    (case a12 => k_is)
    (case l12 => k_is)
    (case c12 => k_is)
    (case k12 => k_is)
    (case a13 => k_is)
    (case l13 => k_is)
    (case c13 => k_is)
    (case k13 => k_is)
    (case a14 => k_is)
    (case l14 => k_is)
    (case c14 => k_is)
    (case k14 => k_is)
    (case a15 => k_is)
    (case l15 => k_is)
    (case c15 => k_is)
    (case k15 => k_is)
    (case a16 => k_is)
    (case l16 => k_is)
    (case c16 => k_is)
    (case k16 => k_is)
    (case a17 => k_is)
    (case l17 => k_is)
    (case c17 => k_is)
    (case k17 => k_is)
    (case a18 => k_is)
    (case l18 => k_is)
    (case c18 => k_is)
    (case k18 => k_is)
    (case a19 => k_is)
    (case l19 => k_is)
    (case c19 => k_is)
    (case k19 => k_is)
    (case a20 => k_is)
    (case l20 => k_is)
    (case c20 => k_is)
    (case k20 => k_is)
    (case a21 => k_is)
    (case l21 => k_is)
    (case c21 => k_is)
    (case k21 => k_is)
    (case a22 => k_is)
    (case l22 => k_is)
    (case c22 => k_is)
    (case k22 => k_is)
    (case a23 => k_is)
    (case l23 => k_is)
    (case c23 => k_is)
    (case k23 => k_is)
    (case a24 => k_is)
    (case l24 => k_is)
    (case c24 => k_is)
    (case k24 => k_is)
    (case a25 => k_is)
    (case l25 => k_is)
    (case c25 => k_is)
    (case k25 => k_is)
    (case a26 => k_is)
    (case l26 => k_is)
    (case c26 => k_is)
    (case k26 => k_is)
    (case a27 => k_is)
    (case l27 => k_is)
    (case c27 => k_is)
    (case k27 => k_is)
    (case a28 => k_is)
    (case l28 => k_is)
    (case c28 => k_is)
    (case k28 => k_is)
    (case a29 => k_is)
    (case l29 => k_is)
    (case c29 => k_is)
    (case k29 => k_is)
    (case a30 => k_is)
    (case l30 => k_is)
    (case c30 => k_is)
    (case k30 => k_is)
    (case zS => k_is)
    (case zT => k_is)
    (case zM => first | k_is | rfl | decide +kernel)
    (case xaBadLot => first | k_is | rfl | decide +kernel)
    (case xbBadLot => first | k_is | rfl | decide +kernel)
    (case xcBadLot => first | k_is | rfl | decide +kernel)
    (case xdBadLot => first | k_is | rfl | decide +kernel)
    (case xeBadLot => first | k_is | rfl | decide +kernel)
    (case xfBadLot => first | k_is | rfl | decide +kernel)
    (case xgBadLot => first | k_is | rfl | decide +kernel)
    (case xhBadLot => first | k_is | rfl | decide +kernel)
    (case xiBadLot => first | k_is | rfl | decide +kernel)
    (case xjBadLot => first | k_is | rfl | decide +kernel)
    (case xkBadLot => first | k_is | rfl | decide +kernel)
    (case xlBadLot => first | k_is | rfl | decide +kernel)
    (case xmBadLot => first | k_is | rfl | decide +kernel)
    (case xnBadLot => first | k_is | rfl | decide +kernel)
    (case xoBadLot => first | k_is | rfl | decide +kernel)
    (case xpBadLot => first | k_is | rfl | decide +kernel)
    (case xqBadLot => first | k_is | rfl | decide +kernel)
    (case xrBadLot => first | k_is | rfl | decide +kernel)
    (case xsBadLot => first | k_is | rfl | decide +kernel)
    (case xtBadLot => first | k_is | rfl | decide +kernel)
    (case xuBadLot => first | k_is | rfl | decide +kernel)
    (case xvBadLot => first | k_is | rfl | decide +kernel)
    (case xwBadLot => first | k_is | rfl | decide +kernel)
    (case xxBadLot => first | k_is | rfl | decide +kernel)
    (case m_MOST_LETTERS => k_is)
    (case m_MOST_CHILDREN => k_is)
    (case m_MOST_RULES => k_is)
    (case m_MOST_TOLD_PARTS => k_is)
    (case m_MOST_NODES_OF_SIDE => k_is)
    (case m_MOST_LEVELS_OF_SIDE => k_is)
    (case yaLot => first | k_is | rfl | decide +kernel)
    (case ybLot => first | k_is | rfl | decide +kernel)
    (case ycLot => first | k_is | rfl | decide +kernel)
    (case ydLot => first | k_is | rfl | decide +kernel)
    (case yeLot => first | k_is | rfl | decide +kernel)
    (case yfLot => first | k_is | rfl | decide +kernel)
    (case ygLot => first | k_is | rfl | decide +kernel)
    (case yo1Lot => first | k_is | rfl | decide +kernel)
    (case yo2Lot => first | k_is | rfl | decide +kernel)
    (case yo3Lot => first | k_is | rfl | decide +kernel)
    (case yo4Lot => first | k_is | rfl | decide +kernel)
    (case yo5Lot => first | k_is | rfl | decide +kernel)
    (case yo6Lot => first | k_is | rfl | decide +kernel)
    (case yo7Lot => first | k_is | rfl | decide +kernel)
    (case yo8Lot => first | k_is | rfl | decide +kernel)
    (case yo9Lot => first | k_is | rfl | decide +kernel)
    (case ynLot_rules => first | k_is | rfl | decide +kernel)
    (case ynLot_parts => first | k_is | rfl | decide +kernel)
    (case yhLot___init__ => first | k_is | rfl | decide +kernel)
    (case ylLot___init__ => first | k_is | rfl | decide +kernel)
    (case ycLot___init__ => first | k_is | rfl | decide +kernel)
    (case ykLot___init__ => first | k_is | rfl | decide +kernel)
    (case yiLot___init__ => first | k_is | rfl | decide +kernel)
    (case yhLot_rules => first | k_is | rfl | decide +kernel)
    (case ylLot_rules => first | k_is | rfl | decide +kernel)
    (case ycLot_rules => first | k_is | rfl | decide +kernel)
    (case ykLot_rules => first | k_is | rfl | decide +kernel)
    (case yiLot_rules => first | k_is | rfl | decide +kernel)
    (case yhLot___len__ => first | k_is | rfl | decide +kernel)
    (case ylLot___len__ => first | k_is | rfl | decide +kernel)
    (case ycLot___len__ => first | k_is | rfl | decide +kernel)
    (case ykLot___len__ => first | k_is | rfl | decide +kernel)
    (case yiLot___len__ => first | k_is | rfl | decide +kernel)
    (case yhLot___eq__ => first | k_is | rfl | decide +kernel)
    (case ylLot___eq__ => first | k_is | rfl | decide +kernel)
    (case ycLot___eq__ => first | k_is | rfl | decide +kernel)
    (case ykLot___eq__ => first | k_is | rfl | decide +kernel)
    (case yiLot___eq__ => first | k_is | rfl | decide +kernel)
    (case z_len => k_is)
    (case z_range => k_is)
    (case z_list => k_is)
    (case z_tuple => k_is)
    (case z_sum => k_is)
    (case z_max => k_is)
    (case z_min => k_is)
    (case z_abs => k_is)
    (case z_int => k_is)
    (case z_repr => k_is)
    (case z_sorted => k_is)
    (case z_enumerate => k_is)
    (case z_isinstance => k_is)
    (case z_reversed => k_is)
    (case z_all => k_is)
    (case z_str => k_is)
    (case z_bool => k_is)
    (case z_dict => k_is)
    (case z_any => k_is)
#print axioms PySem.Challenge.cw_graftrules_k05_values_that_are_lots_holds
