import PyProof.Rows.All
import Wide.All
import OpenK.AllK
import Wide.FinOn
import Open.SpecLaws
import KE.OsGo
import HandS.ForSpec
import HandS.ForMost
import HandS.Walk
import HandS.Codes
import HandS.Conv
import HandS.Deep
import KE.KDictList
import HandS.Rev
import HandS.Zip
import HandS.Evl
import KE.DataMinMax
import HandS.More
import HandS.SortKw
import PySem.Challenge.RW_clayrings_s01_answers
set_option Elab.async false
set_option linter.all false
set_option maxRecDepth 100000
set_option maxHeartbeats 4000000
/-! The layer of this proof: what stands still (I), what is tracked (H), how both grow; what lies in them. -/
namespace CR
open PySem PySem.Spec PyProof.Rows L2

/-! ### lists in pairs -/
inductive All2 {A B : Type} (R : A → B → Prop) : List A → List B → Prop
  | nil : All2 R [] []
  | cons {a b l r} : R a b → All2 R l r → All2 R (a :: l) (b :: r)
section
variable {A B C : Type} {R : A → B → Prop}
theorem All2.length : ∀ {l : List A} {r : List B}, All2 R l r → l.length = r.length
  | _, _, .nil => rfl
  | _, _, .cons _ h => congrArg (· + 1) h.length
theorem All2.mono {S : A → B → Prop} (f : ∀ a b, R a b → S a b) : ∀ {l : List A} {r : List B}, All2 R l r → All2 S l r
  | _, _, .nil => .nil
  | _, _, .cons h t => .cons (f _ _ h) (t.mono f)
theorem All2.append : ∀ {l : List A} {r : List B} {l2 : List A} {r2 : List B}, All2 R l r → All2 R l2 r2 → All2 R (l ++ l2) (r ++ r2)
  | _, _, _, _, .nil, h => h
  | _, _, _, _, .cons h t, h2 => .cons h (t.append h2)
theorem All2.snoc {l : List A} {r : List B} {a : A} {b : B} (h : All2 R l r) (k : R a b) : All2 R (l ++ [a]) (r ++ [b]) := h.append (.cons k .nil)
theorem All2.get : ∀ {l : List A} {r : List B}, All2 R l r → ∀ {i : Nat} {a : A}, l[i]? = some a → ∃ b, r[i]? = some b ∧ R a b
  | _, _, .cons h _, 0, a, e => ⟨_, rfl, by
    have e : _ = a := Option.some.inj e
    exact e ▸ h⟩
  | _, _, .cons _ t, i + 1, a, e => t.get (i := i) e
theorem All2.getR : ∀ {l : List A} {r : List B}, All2 R l r → ∀ {i : Nat} {b : B}, r[i]? = some b → ∃ a, l[i]? = some a ∧ R a b
  | _, _, .cons h _, 0, b, e => ⟨_, rfl, by
    have e : _ = b := Option.some.inj e
    exact e ▸ h⟩
  | _, _, .cons _ t, i + 1, b, e => t.getR (i := i) e
theorem All2.drop : ∀ {l : List A} {r : List B}, All2 R l r → ∀ n, All2 R (l.drop n) (r.drop n)
  | _, _, h, 0 => by simpa using h
  | _, _, .nil, n + 1 => by simpa using All2.nil
  | _, _, .cons _ t, n + 1 => by simpa using t.drop n
theorem All2.take : ∀ {l : List A} {r : List B}, All2 R l r → ∀ n, All2 R (l.take n) (r.take n)
  | _, _, h, 0 => by simpa using All2.nil
  | _, _, .nil, n + 1 => by simpa using All2.nil
  | _, _, .cons h t, n + 1 => by simpa using All2.cons h (t.take n)
theorem All2.set : ∀ {l : List A} {r : List B}, All2 R l r → ∀ {n : Nat} {a : A} {b : B}, R a b → All2 R (l.set n a) (r.set n b)
  | _, _, .nil, _, _, _, _ => .nil
  | _, _, .cons _ t, 0, _, _, k => .cons k t
  | _, _, .cons h t, _ + 1, _, _, k => .cons h (t.set k)
theorem All2.map {D : Type} {S : C → D → Prop} {f : A → C} {g : B → D} (h : ∀ a b, R a b → S (f a) (g b)) : ∀ {l : List A} {r : List B}, All2 R l r → All2 S (l.map f) (r.map g)
  | _, _, .nil => .nil
  | _, _, .cons k t => .cons (h _ _ k) (t.map h)
theorem All2.of_fn {f : B → A} (h : ∀ b, R (f b) b) : ∀ r : List B, All2 R (r.map f) r
  | [] => .nil
  | b :: r => .cons (h b) (All2.of_fn h r)
theorem All2.of_eq {f : B → A} : ∀ {l : List A} {r : List B}, All2 (fun a b => a = f b) l r → l = r.map f
  | _, _, .nil => rfl
  | _, _, .cons h t => by rw [List.map_cons, ← h, ← t.of_eq]
theorem All2.replicate {a : A} {b : B} (h : R a b) : ∀ n, All2 R (List.replicate n a) (List.replicate n b)
  | 0 => .nil
  | n + 1 => .cons h (All2.replicate h n)
end

/-! ### what stands still, what is tracked, how both grow -/
structure G (I H I' H' : Hp) : Prop where
  s : Same H H'
  u : Same I I'
  b : Same I' H'
  n : ∀ a, I a = none → H a ≠ none → I' a = none
section
variable {I H I1 H1 I2 H2 : Hp} {p : Addr} {o : HO}
theorem same_new (h : H p = none) : Same H (upd H p o) := fun a u e => by
  rw [upd_ne (ne_of_none e h)]
  exact e
theorem none_of (h : Same I H) (e : H p = none) : I p = none := h.free e
theorem G.refl (h : Same I H) : G I H I H := ⟨Same.refl H, Same.refl I, h, fun _ e _ => e⟩
theorem G.trans (a : G I H I1 H1) (b : G I1 H1 I2 H2) : G I H I2 H2 := ⟨a.s.trans b.s, a.u.trans b.u, b.b, fun x e f => b.n x (a.n x e f) (by
  cases h : H x with
  | none => exact absurd h f
  | some y =>
    rw [a.s x y h]
    intro z
    cases z)⟩
/-- a new thing that stands still from now on -/
theorem G.new (h : Same I H) (e : H p = none) : G I H (upd I p o) (upd H p o) := ⟨same_new e, same_new (none_of h e), fun a u q => by
  by_cases c : a = p
  · subst c
    rw [upd_same] at q ⊢
    exact q
  · rw [upd_ne c] at q ⊢
    exact h a u q, fun a ea na => by
  have c : a ≠ p := fun c => na (c ▸ e)
  rw [upd_ne c]
  exact ea⟩
/-- a new thing that may change -/
theorem G.newH (h : Same I H) (e : H p = none) : G I H I (upd H p o) := ⟨same_new e, Same.refl I, h.trans (same_new e), fun _ q _ => q⟩
/-- a thing of one's own changes -/
theorem G.mut (g : G I H I1 H1) (e : H p = none) (f : I1 p = none) : G I H I1 (upd H1 p o) := ⟨fun a u q => by
  rw [upd_ne (ne_of_none q e)]
  exact g.s a u q, g.u, fun a u q => by
  rw [upd_ne (ne_of_none q f)]
  exact g.b a u q, g.n⟩
/-- a thing of one's own stands still from now on -/
theorem G.pub (g : G I H I1 H1) (e : H p = none) (k : H1 p = some o) (hI : Same I H) : G I H (upd I1 p o) H1 := ⟨g.s, fun a u q => by
  rw [upd_ne (ne_of_none q (none_of hI e))]
  exact g.u a u q, fun a u q => by
  by_cases c : a = p
  · subst c
    rw [upd_same] at q
    rw [k]
    exact q
  · rw [upd_ne c] at q
    exact g.b a u q, fun a ea na => by
  have c : a ≠ p := fun c => na (c ▸ e)
  rw [upd_ne c]
  exact g.n a ea na⟩
theorem G.still (g : G I H I1 H1) (e : I p = none) (k : H p = some o) : I1 p = none := g.n p e (by
  rw [k]
  intro z
  cases z)
end

/-! ### what lies there -/
/-- kept by what stands still -/
def Mo {B : Type} (S : Hp → V → B → Prop) : Prop := ∀ I I' v x, Same I I' → S I v x → S I' v x
abbrev vN (n : Nat) : V := .int (n : Int)
/-- numbers in a list -/
def ColR (I : Hp) (v : V) (c : List Nat) : Prop := ∃ a, v = .ref a ∧ I a = some (.lst (c.map vN))
/-- a list of such and such things -/
def LR {B : Type} (S : Hp → V → B → Prop) (I : Hp) (v : V) (xs : List B) : Prop := ∃ a vs, v = .ref a ∧ I a = some (.lst vs) ∧ All2 (S I) vs xs
abbrev PicR : Hp → V → List (List Nat) → Prop := LR ColR
abbrev PicsR : Hp → V → List (List (List Nat)) → Prop := LR PicR
theorem ColR.mo : Mo ColR := fun _ _ _ _ s ⟨a, e, h⟩ => ⟨a, e, s a _ h⟩
theorem All2.mo {B : Type} {S : Hp → V → B → Prop} (m : Mo S) {I I' : Hp} {vs : List V} {xs : List B} (s : Same I I') (h : All2 (S I) vs xs) : All2 (S I') vs xs := h.mono fun _ _ k => m _ _ _ _ s k
theorem LR.mo {B : Type} {S : Hp → V → B → Prop} (m : Mo S) : Mo (LR S) := fun _ _ _ _ s ⟨a, vs, e, h, k⟩ => ⟨a, vs, e, s a _ h, All2.mo m s k⟩
theorem PicR.mo : Mo PicR := LR.mo ColR.mo
theorem PicsR.mo : Mo PicsR := LR.mo PicR.mo
theorem VR.mo {B : Type} (f : B → V) : Mo (fun (_ : Hp) (v : V) (x : B) => v = f x) := fun _ _ _ _ _ h => h

/-- what a def that changes nothing hands back -/
def Ret (I H : Hp) (S : Hp → V → Prop) (Q : VK) : Prop := ∀ I' H' v, G I H I' H' → S I' v → Q v H'
theorem Ret.go {I H I1 H1 : Hp} {S : Hp → V → Prop} {Q : VK} (k : Ret I H S Q) (g : G I H I1 H1) : Ret I1 H1 S Q := fun I' H' v g' s => k I' H' v (g.trans g') s

/-! ### sizes -/
theorem sz_le {n : Nat} (h : n ≤ 100000) : n ≤ sizeLine := Nat.le_trans h (by decide)
theorem sz_lt {n : Nat} (h : n < 100000) : n < sizeLine := sz_le h

theorem walk_rg {n : Nat} : Walk (Itr 0 n) n (fun _ => True) (fun i H x H' => H' = H ∧ x = vN i) :=
  walk_range.mono (fun _ h => h) fun i _ _ _ _ _ y => ⟨y.1, by
    rw [y.2]
    show V.int (0 + (i : Int)) = V.int (i : Int)
    rw [Int.zero_add]⟩
/-! ### a comprehension -/
theorem fm_take {B : Type} {zs : List (Option B)} {i : Nat} {z : Option B} (h : zs[i]? = some z) : (zs.take (i + 1)).filterMap id = (zs.take i).filterMap id ++ z.toList := by
  rw [List.take_add_one, h, List.filterMap_append]
  cases z <;> rfl
/-- what a comprehension asks behind its iterable: as if that stood there already -/
def LcK (g : TG) (tt : TT) (te : TE) (ws : List Nat) (σ : L2.St) (Q : VK) : It → Hp → Prop := fun J H1 => tLc (fun _ _ R => R J H1) g tt te ws σ H1 Q
theorem xRet {te : TE} {D : Ends} {σ : L2.St} {H : Hp} (h : te σ H D.rt) : tRet te D σ H := h
theorem xCB {r : List V → Hp → VK → Prop} {t : TA} {σ : L2.St} {H : Hp} {Q : VK} (h : t σ H fun vs H1 => r vs H1 Q) : tCB r t σ H Q := h
theorem xCons {ta : TE} {tr : TA} {σ : L2.St} {H : Hp} {Q : List V → Hp → Prop} (h : ta σ H fun x H1 => tr σ H1 fun xs H2 => Q (x :: xs) H2) : tCons ta tr σ H Q := h
theorem xSeq {t u : TS} {D : Ends} {σ : L2.St} {H : Hp} (h : t { D with nx := u D } σ H) : tSeq t u D σ H := h
theorem xAsg {te : TE} {i : Nat} {D : Ends} {σ : L2.St} {H : Hp} (h : te σ H fun x H1 => D.nx (σ.set i (some x)) H1) : tAsg te (gName i) D σ H := h
theorem xSet {te : TE} {i : Nat} {u : TS} {D : Ends} {σ : L2.St} {H : Hp} (h : te σ H fun x H1 => u D (σ.set i (some x)) H1) : tSeq (tAsg te (gName i)) u D σ H := h
theorem xYes {te : TE} {σ : L2.St} {H : Hp} {Nx : VK} {Nn : Hp → Prop} (h : te σ H Nx) : tYes σ H (fun b H3 => if b = true then te σ H3 Nx else Nn H3) := by
  show if true = true then te σ H Nx else Nn H
  rw [if_pos rfl]
  exact h
theorem tLc_of {wi : TI} {g : TG} {tt : TT} {te : TE} {ws : List Nat} {σ : L2.St} {H : Hp} {Q : VK} (h : wi σ H (LcK g tt te ws σ Q)) : tLc wi g tt te ws σ H Q := h
theorem lc_all {J : It} {n : Nat} {Gd : Hp → Prop} {Y : Nat → Hp → V → Hp → Prop} (w : Walk J n Gd Y) {g : TG} {tt : TT} {te : TE} {ws : List Nat} {σ : L2.St} {I H : Hp} {Q : VK} {B : Type} {S : Hp → V → B → Prop} (hS : Mo S)
    (zs : List (Option B)) (hn : zs.length = n) (hz : n ≤ 1000) (hI : Same I H) (hG : ∀ H', Same H H' → Gd H')
    (hs : ∀ (i : Nat) (x : V) (I1 H1 H1' : Hp) (Nx : VK) (Nn : Hp → Prop), i < n → G I H I1 H1 → Y i H1 x H1' →
      (∀ I4 H4 y z, zs[i]? = some (some z) → G I1 H1 I4 H4 → S I4 y z → Nx y H4) → (zs[i]? = some none → ∀ I4 H4, G I1 H1 I4 H4 → Nn H4) →
      g x (wipe σ ws) H1' fun σ2 H2 => wipe σ2 ws = wipe σ ws ∧ tt σ2 H2 fun b H3 => if b = true then te σ2 H3 Nx else Nn H3)
    (hd : ∀ D I' H' ys, G I H I' H' → I' D = some (.lst ys) → All2 (S I') ys (zs.filterMap id) → Q (.ref D) H') : LcK g tt te ws σ Q J H := by
  intro D hD
  refine lc_it (Qd := Q (.ref D)) w (fun i H' => ∃ I' ys, G I H I' H' ∧ I' D = none ∧ H' D = some (.lst ys) ∧ All2 (S I') ys ((zs.take i).filterMap id)) ?_ ?_ ?_ ?_
  · exact ⟨I, [], G.newH hI hD, none_of hI hD, upd_same, by simpa using All2.nil⟩
  · rintro i H' _ ⟨I', ys, g1, _⟩
    exact hG H' g1.s
  · rintro i x H1 H1' hi ⟨I1, ys, g1, e1, e2, a1⟩ y1
    refine hs i x I1 H1 H1' _ _ hi g1 y1 (fun I4 H4 y z ez g4 sz => ?_) (fun ez I4 H4 g4 => ?_)
    · have ed : H4 D = some (.lst ys) := g4.s D _ e2
      have i4 : I4 D = none := g4.still e1 e2
      refine ⟨ys, ed, ?_, I4, ys ++ [y], (g1.trans g4).mut hD i4, i4, upd_same, ?_⟩
      · have l1 := a1.length
        have l2 : ((zs.take i).filterMap id).length ≤ (zs.take i).length := List.length_filterMap_le _ _
        rw [List.length_take] at l2
        exact sz_lt (by omega)
      · rw [fm_take ez]
        exact (All2.mo hS g4.u a1).snoc sz
    · refine ⟨I4, ys, g1.trans g4, g4.still e1 e2, g4.s D _ e2, ?_⟩
      rw [fm_take ez, Option.toList, List.append_nil]
      exact All2.mo hS g4.u a1
  · rintro H' ⟨I', ys, g1, e1, e2, a1⟩
    rw [← hn, List.take_length] at a1
    have iD : I' D = none := e1
    refine hd D (upd I' D (.lst ys)) H' ys (g1.pub hD e2 hI) upd_same (All2.mo hS (same_new iD) a1)
end CR

/-! Two rules that the layer lacks: list(reversed(a list)); len(set(a list of whole numbers)), whatever they are. -/
namespace CR
open PySem PySem.Spec PyProof.Rows L2
section
variable {w : World} {prog : Program} {A : Around} {s : Shared} {E : Value → Shared → Prop}
/-- what is left of a list that is walked from its end -/
abbrev BackTo (xs : Array Value) : Nat → Value → Prop := fun i v => xs[xs.size - 1 - i]? = some v
theorem back_size (xs : Array Value) : (xs.size : Int) - 1 - (0 : Nat) = (xs.size : Int) - 1 := by omega
/-- an empty list grows by all that a walk from the end brings -/
theorem ext_rev {at_ of_ to_ : Addr} {xs : Array Value} {R : Result → Shared → Prop} {c0 : Nat} (hh : A.handled = none) (i1 : s.heap.IsRevIter at_ of_ ((xs.size : Int) - 1)) (i2 : s.heap.IsList of_ xs) (n1 : of_ ≠ at_) (n2 : to_ ≠ at_) (n3 : to_ ≠ of_) (hz : xs.size ≤ sizeLine)
    (e0 : s.heap.get? to_ = some { cls := .type "list", data := .seq #[] c0 })
    (k : ∀ h1 t1 got c1, (∀ b o, b ≠ to_ → b ≠ at_ → s.heap.get? b = some o → h1.get? b = some o) → h1.get? to_ = some { cls := .type "list", dict := none, data := .seq got c1, slots := #[] } → ItemsOf (BackTo xs) got xs.size → R (.ok (.ret .none)) { s with heap := h1, toks := t1 }) :
    wpAny (model prog w) A.in1 (Builtin.List.listExtendWith (.ref to_) (.ref at_) .none) (fun f s1 => match f with
      | .done z => R (.ok z) s1
      | .again z => z.quiet = true ∧ codeAny (model prog w) A z R s1) (fun z s1 => R (.error z) s1) s := by
  have ty : s.TypeIs (.ref at_) "list_reverseiterator" := i1.typeIs
  have other : Builtin.List.listSameRef (.ref to_) (.ref at_) = false := by simp [Builtin.List.listSameRef, n2]
  unfold Builtin.List.listExtendWith Builtin.List.listLengthHint
  refine wpAny_bind <| wpAny_typeOf ty ?_
  rw [other, if_neg (by decide)]
  refine wpAny_bind <| wpAny_pyIter_revIter i1 <| wpAny_bind <| wpAny_holding <| wpAny_bind <| wpAny_specialOf ty RT.nolen_lri ?_
  show wpAny _ A.in1 (specialOf (.ref at_) "__length_hint__" >>= _) _ _ s
  refine wpAny_bind <| wpAny_specialOf ty RT.hint_lri ?_
  have sp : splitId "list_reverseiterator.__length_hint__" = some ("list_reverseiterator", "__length_hint__") := by decide +kernel
  generalize hnm : "list_reverseiterator.__length_hint__" = nm at sp ⊢
  wp_delta
  rw [sp]
  subst hnm
  refine wpAny_bind <| wpAny_isInstance (b := true) ty (by rw [isSubtype_type]; kernel_rfl) <| wpAny_pure ?_
  rw [if_neg (by decide)]
  refine wpAny_pure ⟨plainId_quiet PySem.F.plain_extend_loop _, ?_⟩
  refine codeAny_extend_loopS (Walks.listRev (A := A.in1) hh at_ of_ n1 xs).toS hz to_ (by simp [n2, n3]) .none xs.size 0 _ #[] c0 rfl (Nat.zero_le _) ⟨Nat.zero_le _, by rw [back_size]; exact i1, i2⟩ e0 (ItemsOf.nil _) fun s1 got c1 mv e1 ok => ?_
  rw [mv.eq_with]
  exact k _ _ got c1 (fun b o x y e => mv.heap b o (by simp [x, y]) e) e1 ok
theorem init_rev {at_ of_ to_ : Addr} {xs : Array Value} {R : Result → Shared → Prop} (hh : A.handled = none) (i1 : s.heap.IsRevIter at_ of_ ((xs.size : Int) - 1)) (i2 : s.heap.IsList of_ xs) (n1 : of_ ≠ at_) (n2 : to_ ≠ at_) (n3 : to_ ≠ of_) (hz : xs.size ≤ sizeLine)
    (e0 : s.heap.get? to_ = some { cls := .type "list", data := .seq #[] })
    (k : ∀ h1 t1 got c1, (∀ b o, b ≠ to_ → b ≠ at_ → s.heap.get? b = some o → h1.get? b = some o) → h1.get? to_ = some { cls := .type "list", dict := none, data := .seq got c1, slots := #[] } → ItemsOf (BackTo xs) got xs.size → R (.ok (.ret .none)) { s with heap := h1, toks := t1 }) :
    wpAny (model prog w) A.in1 (Builtin.«list.__init__» { pos := [.ref to_, .ref at_], kw := [] }) (fun f s1 => match f with
      | .done z => R (.ok z) s1
      | .again z => z.quiet = true ∧ codeAny (model prog w) A z R s1) (fun z s1 => R (.error z) s1) s := by
  have keep : ∀ b o, b ≠ to_ → s.heap.get? b = some o → (s.heap.update to_ (Obj.mapSeq fun _ => #[])).get? b = some o := fun b o x e => (Heap.get?_update_other _ _ x.symm).trans e
  obtain ⟨u, e2, r2⟩ := id i2
  refine wpAny_bind <| wpAny_bind <| wpAny_seqItems e0 rfl <| wpAny_pure <| wpAny_bind <| wpAny_updateSeq e0 rfl <| wpAny_bind <| wpAny_letGo ?_
  exact ext_rev hh (i1.at fun o e => keep _ o n2.symm e) ⟨u, keep _ u n3.symm e2, r2⟩ n1 n2 n3 hz (Heap.get?_update_self _ e0 rfl) fun h1 t1 got c1 kp e1 ok => k h1 t1 got c1 (fun b o x y e => kp b o x y (keep b o x e)) e1 ok
theorem call_list_rev {at_ of_ : Addr} {xs : Array Value} {Q : Value → Shared → Prop} (hh : A.handled = none) (i1 : s.heap.IsRevIter at_ of_ ((xs.size : Int) - 1)) (i2 : s.heap.IsList of_ xs) (n1 : of_ ≠ at_) (hz : xs.size ≤ sizeLine)
    (k : ∀ h1 t1 got c1, (∀ b o, b ≠ at_ → s.heap.get? b = some o → h1.get? b = some o) → h1.get? s.heap.objs.size = some { cls := .type "list", dict := none, data := .seq got c1, slots := #[] } → ItemsOf (BackTo xs) got xs.size → Q (.ref s.heap.objs.size) { s with heap := h1, toks := t1 }) :
    wpAny (model prog w) A (call (.type "list") [Value.ref at_]) Q E s := by
  obtain ⟨u1, e1, r1⟩ := id i1
  obtain ⟨u2, e2, r2⟩ := id i2
  have up : ∀ {b o}, s.heap.get? b = some o → (s.heap.push { cls := .type "list", data := .seq #[] }).get? b = some o := fun e => Heap.get?_push_of_some _ e
  refine callType_codes (Q₁ := fun z s1 => z = .ref s.heap.objs.size ∧ s1 = { s with heap := s.heap.push { cls := .type "list", data := .seq #[] } }) PySem.F.called_list (PySem.F.typeCall_list_1 _) PySem.F.entry_list_init (code_list_new _ ⟨rfl, rfl⟩) ?_
  rintro _ _ ⟨rfl, rfl⟩
  have fresh : (s.heap.push { cls := .type "list", data := .seq #[] }).get? s.heap.objs.size = some ({ cls := .type "list", data := .seq #[] } : Obj) := Heap.get?_push_size _ rfl
  exact ⟨⟨_, fresh, rfl⟩, PySem.F.args_list_init_2 _ _, init_rev (A := A.in1) hh ⟨u1, up e1, r1⟩ ⟨u2, up e2, r2⟩ n1 (Nat.ne_of_gt (Heap.lt_size e1)) (Nat.ne_of_gt (Heap.lt_size e2)) hz fresh fun h1 t1 got c1 kp e3 ok => ⟨rfl, k h1 t1 got c1 (fun b o x e => kp b o (Nat.ne_of_lt (Heap.lt_size e)) x (up e)) e3 ok⟩⟩
end
/-- list(reversed(x)), x a list: a new list -/
def tListRev (K : PySem.W.Frag) (te : TE) : TE := fun σ H Q => te σ H fun v H1 => ∃ (a : Addr) (xs : List V), v = .ref a ∧ SqL K H1 a xs ∧ ∀ q, H1 q = none → Q (.ref q) (upd H1 q (.lst xs.reverse))
theorem pe_listRev {X : Cx} {e : Expr} {te : TE} {p p2 pos pos2 : Pos} (hc : X.calm = true) (hg : Gl X "list") (hm : X.mg "list" = none) (hg2 : Gl X "reversed") (hm2 : X.mg "reversed" = none) (he : PE X e te)
    (sa : starEach [e] X.env = (false, eval e X.env) :: starEach [] X.env := by rfl) (sb : starEach [.Call (.Name "reversed" p2) [e] [] pos2] X.env = (false, eval (.Call (.Name "reversed" p2) [e] [] pos2) X.env) :: starEach [] X.env := by rfl) :
    PE X (.Call (.Name "list" p) [.Call (.Name "reversed" p2) [e] [] pos2] [] pos) (tListRev X.K te) where
  run pins s σ H Q I h := by
    refine Call_ <| ld_blt I hg hm boot_list <| PyProof.Rows.callWith_type1 (args_cons (Call_ <| ld_blt I hg2 hm2 PyProof.Rows.boot_reversed <| PyProof.Rows.callWith_type1 (args_cons (thn (he.run pins s σ H _ I h) fun u s1 ⟨v, H1, I1, r1, q1⟩ => args_nil ?_) sa) sa rfl) sb) sb rfl
    obtain ⟨l, xs, rfl, sq, q⟩ := q1
    cases r1
    obtain ⟨its, rv, pl, hz⟩ := I1.list sq
    have isl := pl.isList
    obtain ⟨ol, el, _⟩ := id isl
    refine call_reversed_list isl <| args_nil <| call_list_rev (s := { s1 with heap := s1.heap.push (revObj l ((its.toArray.size : Int) - 1)) }) (I1.ok.hd hc) ⟨_, Heap.get?_push_size _ rfl, rfl, rfl⟩ (isl.push _) (Nat.ne_of_lt (Heap.lt_size el)) (by rw [List.size_toArray, ← rv.length]; exact hz) fun h1 t1 got c1 kp eS ok => ?_
    have big : s1.heap.objs.size ≤ (s1.heap.push (revObj l ((its.toArray.size : Int) - 1))).objs.size := by rw [Heap.size_push]; exact Nat.le_succ _
    refine ⟨.ref _, upd H1 _ (.lst xs.reverse), I1.laid (t' := t1) (fun b o z => kp b o (Nat.ne_of_lt (Heap.lt_size z)) (Heap.get?_push_of_some _ z)) big ?_, rfl, q _ (I1.hok.fresh big)⟩
    refine (⟨by rw [List.length_reverse]; exact hz, got.toList, c1, RT.vals_rev rv ok, by rw [Array.toArray_toList]; exact eS⟩ : ObjOk X.prog X.w _ _ _ (.lst xs.reverse))
/-! ### len(set(xs)) -/
def met (ns : List Int) : List Int := PyProof.Rows.firstMet (fun i => ns.getD i 0) ns.length
def tLenSetAny (K : PySem.W.Frag) (ta : TE) : TE := fun σ H Q => ta σ H fun x H1 => ∃ (l : Addr) (ns : List Int), x = .ref l ∧ SqL K H1 l (ns.map V.int) ∧ ns.length ≤ 4000 ∧ Q (.int ((met ns).length : Nat)) H1
theorem pe_lenSetAny {X : Cx} {a : Expr} {ta : TE} {p p2 q pos : Pos} (hg : Gl X "len") (hm : X.mg "len" = none) (hg2 : Gl X "set") (hm2 : X.mg "set" = none) (ha : PE X a ta) (hc : X.calm = true := by rfl)
    (na : starEach [a] X.env = (false, eval a X.env) :: starEach [] X.env := by rfl) : PE X (.Call (.Name "len" p) [.Call (.Name "set" p2) [a] [] q] [] pos) (tLenSetAny X.K ta) where
  run pins s σ H Q I h := by
    refine Call_ <| ld_blt I hg hm PySem.boot_len <| PyProof.Rows.callWith_builtin1 (PyProof.Rows.args_cons (Call_ <| ld_blt I hg2 hm2 boot_set <| PyProof.Rows.callWith_type1 (PyProof.Rows.args_cons (thn (ha.run pins s σ H _ I h) fun v s1 ⟨x, H1, I1, r1, q1⟩ => PyProof.Rows.args_nil ?_) na) na rfl) rfl) rfl rfl
    obtain ⟨l, ns, rfl, sq, small, q1⟩ := q1
    cases r1
    obtain ⟨its, rv, pl, _⟩ := I1.list sq
    have size : its.toArray.size = ns.length := by rw [List.size_toArray, ← rv.length, List.length_map]
    have few := PyProof.Rows.firstMet_length_le (fun i => ns.getD i 0) ns.length
    refine call_set_list (I1.ok.hd hc) pl.isList (by simpa using RZ.intsAre_vals rv) (by rw [size]; unfold scanBound; omega) fun h1 t1 isSet kp => PyProof.Rows.args_nil ?_
    rw [size] at isSet
    obtain ⟨o, es, ep, t, x1, x2, x3, _, _, _, x4, x5⟩ := isSet
    refine call_len_set x1 x2 x3 x4 (by rw [x5] <;> omega) ⟨.int ((met ns).length : Nat), H1, ?_, ⟨_, by rw [x5]; rfl⟩, q1⟩
    exact (I1.kept (t' := t1) fun b o z => kp b o (Heap.lt_size z) z).tok _
/-- how many are left is the same as how many there were just where none comes twice -/
theorem met_snoc (ns : List Int) (x : Int) : met (ns ++ [x]) = if (met ns).any (· == x) then met ns else met ns ++ [x] := by
  have e : ∀ i, i ≤ ns.length → PyProof.Rows.firstMet (fun i => (ns ++ [x]).getD i 0) i = PyProof.Rows.firstMet (fun i => ns.getD i 0) i := by
    intro i
    induction i with
    | zero => intro _; rfl
    | succ i ih =>
      intro h
      rw [PyProof.Rows.firstMet_succ, PyProof.Rows.firstMet_succ, ih (by omega)]
      congr 1
      rw [List.getD_eq_getElem?_getD, List.getD_eq_getElem?_getD, List.getElem?_append_left (by omega)]
  unfold met
  rw [List.length_append, List.length_singleton, PyProof.Rows.firstMet_succ, e _ (Nat.le_refl _)]
  have x1 : (ns ++ [x]).getD ns.length 0 = x := by
    rw [List.getD_eq_getElem?_getD, List.getElem?_append_right (Nat.le_refl _), Nat.sub_self]
    rfl
  show (if _ then _ else _) = _
  rw [x1]
end CR

namespace CR
open PySem PySem.Spec PyProof.Rows L2
/-! ### the text and what its top has written -/
def top (i : Nat) : Stmt := PySem.Challenge.pw_clayrings_s01_answers.main.body.getD i (.Pass ⟨0, 0, 0, 0⟩)
def Cst (mg : Str → Option Value) (x : Str) (v : V) : Prop := ∃ u, mg x = some u ∧ RelV v u
structure Top (K : PySem.W.Frag) (mg : Str → Option Value) (aW : Addr) : Prop where
  b_len : mg "len" = none
  b_all : mg "all" = none
  b_any : mg "any" = none
  b_list : mg "list" = none
  b_range : mg "range" = none
  b_reversed : mg "reversed" = none
  b_zip : mg "zip" = none
  b_enumerate : mg "enumerate" = none
  b_max : mg "max" = none
  b_set : mg "set" = none
  WORN : Cst mg "WORN" (.int 9)
  AS_IT_IS : Cst mg "AS_IT_IS" (.int 0)
  LONGEST_RING : Cst mg "LONGEST_RING" (.int 8)
  LONGEST_PIECE : Cst mg "LONGEST_PIECE" (.int 12)
  WAYS : Cst mg "WAYS" (.ref aW)
  ways : ∀ H, SqT K H aW [.int 0, .int 1]
/-- a def of the text under its name -/
def Dn (K : PySem.W.Frag) (mg : Str → Option Value) (x : Str) (st : Stmt) (ps : List Str) : Prop := ∃ f fd, Fun K x x st f fd ∧ mg x = some (.ref f) ∧ Binds K fd ps []
theorem Dn.cal {P : Program} {w : World} {K : PySem.W.Frag} {mg : Str → Option Value} {base : Heap} {x : Str} {st : Stmt} {N ps : List Str} {k : Nat} {sp : Sp} (D : Dn K mg x st ps) (S : FnScope N ps (defScope st)) (len : ∀ vs H Q E, sp vs H Q E → vs.length = ps.length)
    (body : ∀ (f : Addr) (cdv : Value) (A : Around) (outer : List Env) (s : Shared) (H : Hp) (vs : List V) (Q : VK) (E : XK), Room k (A.deeper (envOfC x (defScope st) s.heap.objs.size f cdv)) → sp vs H Q E →
      ∃ t, PSs (cxOf CX0 P w K mg base N x (defScope st) f cdv A outer s H E).nox (defBody st) t ∧ t { nx := fun _ H' => Q .non H', rt := Q } (start N vs) H) : C8.Cal P w K mg base (k + 1) x sp [] := by
  obtain ⟨f, fd, F, m, b⟩ := D
  exact ⟨⟨f, fd, ps, [], F.ok S len (body f), m, F.kp, b, .nil⟩⟩
section
variable {P : Program} {w : World} {K : PySem.W.Frag} {mg : Str → Option Value} {base : Heap} {aW : Addr}
theorem map_get {A B : Type} {f : A → B} {l : List A} {i : Nat} {y : B} (h : (l.map f)[i]? = some y) : ∃ x, l[i]? = some x ∧ y = f x := by
  rw [List.getElem?_map] at h
  cases e : l[i]? with
  | none =>
    rw [e] at h
    cases h
  | some x =>
    rw [e] at h
    exact ⟨x, rfl, (Option.some.inj h).symm⟩
theorem zip_get {A B : Type} {l : List A} {r : List B} {i : Nat} {x : A} {y : B} (h : l[i]? = some x) (k : r[i]? = some y) : (List.zip l r)[i]? = some (x, y) := List.getElem?_zip_eq_some.mpr ⟨h, k⟩
theorem ne_int {a b : Nat} : (!decide (vN a = vN b)) = (a != b) := by
  by_cases h : a = b
  · subst h
    simp
  · have : ¬ vN a = vN b := fun e => h (Int.ofNat.inj (V.int.inj e))
    simp [h, this]
theorem eq_int {a b : Nat} : (decide (vN a = vN b)) = (a == b) := by
  by_cases h : a = b
  · subst h
    simp
  · have : ¬ vN a = vN b := fun e => h (Int.ofNat.inj (V.int.inj e))
    simp [h, this]

/-! ### cells_differ -/
abbrev s_cells_differ : Stmt := top 26
abbrev N_cells_differ : List Str := ["cell", "other"]
theorem sc_cells_differ : FnScope N_cells_differ ["cell", "other"] (defScope s_cells_differ) := ⟨rfl, rfl, rfl, by decide +kernel, rfl, by decide +kernel, by decide +kernel⟩
def diff (a b : Nat) : Bool := a != 9 && (b != 9 && a != b)
def spCellsDiffer : Sp := fun vs H Q _ => ∃ (a b : Nat), vs = [vN a, vN b] ∧ Q (.bl (diff a b)) H
theorem ok_cells_differ (T : Top K mg aW) (D : Dn K mg "cells_differ" s_cells_differ ["cell", "other"]) : C8.Cal P w K mg base 1 "cells_differ" spCellsDiffer [] := by
  refine D.cal sc_cells_differ (fun vs H Q E h => ?_) (fun f cdv A outer s H vs Q E hr h => ?_)
  · obtain ⟨a, b, rfl, _⟩ := h
    rfl
  · obtain ⟨a, b, rfl, q⟩ := h
    refine ⟨_, (pss_one (ps_ret (pe_and (pe_cmpR op_ne (pv 0) (C8.pe_gc rfl T.WORN) (nomark _)) (pe_and (pe_cmpR op_ne (pv 1) (C8.pe_gc rfl T.WORN) (nomark _)) (pe_one (pe_cmpR op_ne (pv 0) (pv 1) (nomark _))))))), ?_⟩
    refine ⟨_, rfl, rfl, _, rfl, ite2 (fun e => ⟨_, rfl, rfl, _, rfl, ite2 (fun e2 => ⟨_, rfl, _, rfl, rfl, ?_⟩) (fun e2 => ?_)⟩) (fun e => ?_)⟩
    · have e1 : (a != 9) = true := ne_int.symm.trans e
      have e3 : (b != 9) = true := ne_int.symm.trans e2
      have : diff a b = !decide (vN a = vN b) := by
        rw [ne_int, diff, e1, e3]
        simp
      rw [← this]
      exact q
    · have e1 : (a != 9) = true := ne_int.symm.trans e
      have e3 : (b != 9) = false := by
        cases z : (b != 9) with
        | false => rfl
        | true => exact absurd (ne_int.trans z) e2
      rw [show diff a b = false by simp only [diff, e3, Bool.false_and, Bool.and_false]] at q
      exact q
    · have e1 : (a != 9) = false := by
        cases z : (a != 9) with
        | false => rfl
        | true => exact absurd (ne_int.trans z) e
      rw [show diff a b = false by simp only [diff, e1, Bool.false_and]] at q
      exact q

/-! ### columns_differ -/
abbrev s_columns_differ : Stmt := top 27
abbrev N_columns_differ : List Str := ["column", "other", "cell", "beside"]
theorem sc_columns_differ : FnScope N_columns_differ ["column", "other"] (defScope s_columns_differ) := ⟨rfl, rfl, rfl, by decide +kernel, rfl, by decide +kernel, by decide +kernel⟩
def cdiff (c d : List Nat) : Bool := (List.zip c d).any fun z => diff z.1 z.2
def spColumnsDiffer : Sp := fun vs H Q _ => ∃ (I : Hp) (u v : V) (c d : List Nat), vs = [u, v] ∧ Same I H ∧ ColR I u c ∧ ColR I v d ∧ c.length ≤ 1000 ∧ Ret I H (fun _ x => x = .bl (cdiff c d)) Q
theorem ok_columns_differ (T : Top K mg aW) (D : Dn K mg "columns_differ" s_columns_differ ["column", "other"]) (c_cells_differ : C8.Cal P w K mg base 1 "cells_differ" spCellsDiffer []) : C8.Cal P w K mg base 2 "columns_differ" spColumnsDiffer [] := by
  refine D.cal sc_columns_differ (fun vs H Q E h => ?_) (fun f cdv A outer s H vs Q E hr h => ?_)
  · obtain ⟨I, u, v, c, d, rfl, _⟩ := h
    rfl
  · obtain ⟨I, u, v, c, d, rfl, hI, ⟨a, rfl, ha⟩, ⟨b, rfl, hb⟩, hl, q⟩ := h
    refine ⟨_, (pss_one (ps_ret (pe_callB (cr_any rfl) (by rfl) T.b_any (by decide +kernel) (pa_cons (pe_lc (own := [("cell", 2), ("beside", 3)]) (g := (gTup K 2 (gCons (gName 2) (gCons (gName 3) gNil)))) (tt := tYes) (te := (tCall _ _ _ (tCons (tVar 2) (tCons (tVar 3) tNil)))) rfl sc_columns_differ.nd (pi_zip (by rfl) T.b_zip (pa_cons (pv 0) (pa_cons (pv 1) pa_nil))) (blkOk_by (own := [("cell", 2), ("beside", 3)]) (N := N_columns_differ) (sc := defScope s_columns_differ) (by decide +kernel)) (fun _ _ _ _ _ => (pg_tup rfl (pgs_cons (pg_name (i := 2) sc_columns_differ.nd rfl (Or.inl rfl)) (pgs_cons (pg_name (i := 3) sc_columns_differ.nd rfl (Or.inl rfl)) pgs_nil)))) (fun _ _ _ _ _ => pts_nil) (fun _ _ _ _ _ => (C8.pe_c c_cells_differ hr (by decide) rfl (pa_cons (pv 2) (pa_cons (pv 3) pa_nil))))) pa_nil)))), ?_⟩
    refine xRet (xCB (xCons (tLc_of ?_)))
    refine ⟨_, rfl, _, rfl, a, b, _, _, rfl, SqL.of (hI _ _ ha), SqL.of (hI _ _ hb), ?_⟩
    refine lc_all (I := I) (walk_zip rfl) (VR.mo V.bl) ((List.zip c d).map fun z => some (diff z.1 z.2)) (by simp) (by simp; omega) hI (fun H' s => ⟨SqL.of (s _ _ (hI _ _ ha)), SqL.of (s _ _ (hI _ _ hb))⟩) ?_ ?_
    · rintro i v I1 H1 H1' Nx Nn hi g1 ⟨t, x, y, rfl, nt, rfl, ex, ey⟩ kx kn
      obtain ⟨m, em, rfl⟩ := map_get ex
      obtain ⟨n, en, rfl⟩ := map_get ey
      refine ⟨t, _, rfl, SqT.of upd_same, rfl, _, _, rfl, _, _, rfl, rfl, rfl, xYes ?_⟩
      refine ⟨_, rfl, _, rfl, m, n, rfl, ?_⟩
      exact kx I1 _ _ (diff m n) (by rw [List.getElem?_map, zip_get em en]; rfl) (G.newH g1.b nt) rfl
    · intro D I' H' ys g1 hD ha
      refine ⟨D, (List.zip c d).map fun z => diff z.1 z.2, rfl, SqL.of ?_, q I' H' _ g1 ?_⟩
      · have e := ha.of_eq
        rw [g1.b _ _ hD, e]
        congr 3
        simp [List.filterMap_map]
      · unfold cdiff
        rw [List.any_map]
        rfl

/-! ### columns_together -/
abbrev s_columns_together : Stmt := top 28
abbrev N_columns_together : List Str := ["column", "other", "cell", "beside"]
theorem sc_columns_together : FnScope N_columns_together ["column", "other"] (defScope s_columns_together) := ⟨rfl, rfl, rfl, by decide +kernel, rfl, by decide +kernel, by decide +kernel⟩
def ctog (c d : List Nat) : List Nat := (List.zip c d).map fun z => if z.1 = 9 then z.2 else z.1
theorem fm_some {A B : Type} (f : A → B) (l : List A) : (l.map fun z => some (f z)).filterMap id = l.map f := by
  induction l with
  | nil => rfl
  | cons a l ih => simp [ih]
def spColumnsTogether : Sp := fun vs H Q _ => ∃ (I : Hp) (u v : V) (c d : List Nat), vs = [u, v] ∧ Same I H ∧ ColR I u c ∧ ColR I v d ∧ c.length ≤ 1000 ∧ Ret I H (fun J x => ColR J x (ctog c d)) Q
theorem ok_columns_together (T : Top K mg aW) (D : Dn K mg "columns_together" s_columns_together ["column", "other"]) : C8.Cal P w K mg base 1 "columns_together" spColumnsTogether [] := by
  refine D.cal sc_columns_together (fun vs H Q E h => ?_) (fun f cdv A outer s H vs Q E hr h => ?_)
  · obtain ⟨I, u, v, c, d, rfl, _⟩ := h
    rfl
  · obtain ⟨I, u, v, c, d, rfl, hI, ⟨a, rfl, ha⟩, ⟨b, rfl, hb⟩, hl, q⟩ := h
    refine ⟨_, (pss_one (ps_ret (pe_lc (own := [("cell", 2), ("beside", 3)]) (g := (gTup K 2 (gCons (gName 2) (gCons (gName 3) gNil)))) (tt := tYes) rfl sc_columns_together.nd (pi_zip (by rfl) T.b_zip (pa_cons (pv 0) (pa_cons (pv 1) pa_nil))) (blkOk_by (own := [("cell", 2), ("beside", 3)]) (N := N_columns_together) (sc := defScope s_columns_together) (by decide +kernel)) (fun _ _ _ _ _ => (pg_tup rfl (pgs_cons (pg_name (i := 2) sc_columns_together.nd rfl (Or.inl rfl)) (pgs_cons (pg_name (i := 3) sc_columns_together.nd rfl (Or.inl rfl)) pgs_nil)))) (fun _ _ _ _ _ => pts_nil) (fun _ _ _ _ _ => (pe_ifExp (pt_cmpR op_eq (pv 2) (C8.pe_gc rfl T.WORN) (nomark _)) (pv 3) (pv 2)))))), ?_⟩
    refine xRet (tLc_of ?_)
    refine ⟨_, rfl, _, rfl, a, b, _, _, rfl, SqL.of (hI _ _ ha), SqL.of (hI _ _ hb), ?_⟩
    refine lc_all (I := I) (walk_zip rfl) (VR.mo vN) ((List.zip c d).map fun z => some (if z.1 = 9 then z.2 else z.1)) (by simp) (by simp; omega) hI (fun H' s => ⟨SqL.of (s _ _ (hI _ _ ha)), SqL.of (s _ _ (hI _ _ hb))⟩) ?_ ?_
    · rintro i v I1 H1 H1' Nx Nn hi g1 ⟨t, x, y, rfl, nt, rfl, ex, ey⟩ kx kn
      obtain ⟨m, em, rfl⟩ := map_get ex
      obtain ⟨n, en, rfl⟩ := map_get ey
      refine ⟨t, _, rfl, SqT.of upd_same, rfl, _, _, rfl, _, _, rfl, rfl, rfl, xYes ?_⟩
      refine ⟨_, rfl, rfl, _, rfl, ?_⟩
      have kz : ∀ z, (if m = 9 then n else m) = z → Nx (vN z) (upd H1 t (.tup [vN m, vN n])) := fun z e => kx I1 _ _ z (by rw [List.getElem?_map, zip_get em en, ← e]; rfl) (G.newH g1.b nt) rfl
      refine ite2 (fun e => ⟨_, rfl, ?_⟩) (fun e => ⟨_, rfl, ?_⟩)
      · have e1 : (m == 9) = true := eq_int.symm.trans e
        exact kz n (if_pos (eq_of_beq e1))
      · refine kz m (if_neg fun z => e ?_)
        subst z
        exact decide_eq_true rfl
    · intro D I' H' ys g1 hD ha
      refine q I' H' _ g1 ⟨D, rfl, ?_⟩
      rw [hD, ha.of_eq, fm_some]
      rfl

theorem fm_id {A : Type} (l : List A) : (l.map some).filterMap id = l := by
  have e := fm_some (fun x : A => x) l
  rw [List.map_id'] at e
  exact e
theorem rep1 {A : Type} (k : Nat) (x : A) : (List.replicate k [x]).flatten = List.replicate k x := by
  induction k with
  | zero => rfl
  | succ k ih => rw [List.replicate_succ, List.replicate_succ, List.flatten_cons, ih]; rfl
/-! ### worn_picture -/
abbrev s_worn_picture : Stmt := top 29
abbrev N_worn_picture : List Str := ["width", "high", "column"]
theorem sc_worn_picture : FnScope N_worn_picture ["width", "high"] (defScope s_worn_picture) := ⟨rfl, rfl, rfl, by decide +kernel, rfl, by decide +kernel, by decide +kernel⟩
def worn (n h : Nat) : List (List Nat) := List.replicate n (List.replicate h 9)
def spWorn : Sp := fun vs H Q _ => ∃ (I : Hp) (n h : Nat), vs = [vN n, vN h] ∧ Same I H ∧ n ≤ 1000 ∧ h ≤ 1000 ∧ Ret I H (fun J x => PicR J x (worn n h)) Q
theorem ok_worn_picture (T : Top K mg aW) (D : Dn K mg "worn_picture" s_worn_picture ["width", "high"]) : C8.Cal P w K mg base 1 "worn_picture" spWorn [] := by
  refine D.cal sc_worn_picture (fun vs H Q E h => ?_) (fun f cdv A outer s H vs Q E hr h => ?_)
  · obtain ⟨I, n, h, rfl, _⟩ := h
    rfl
  · obtain ⟨I, n, h, rfl, hI, hn, hh, q⟩ := h
    refine ⟨_, (pss_one (ps_ret (pe_lc (own := [("column", 2)]) (g := (gName 2)) (tt := tYes) rfl sc_worn_picture.nd (pi_range1 (by rfl) T.b_range (pa_cons (pv 0) pa_nil)) (blkOk_by (own := [("column", 2)]) (N := N_worn_picture) (sc := defScope s_worn_picture) (by decide +kernel)) (fun _ _ _ _ _ => (pg_name (i := 2) sc_worn_picture.nd rfl (Or.inl rfl))) (fun _ _ _ _ _ => pts_nil) (fun _ _ _ _ _ => (pe_op op_rep (pe_lst (pa_cons (C8.pe_gc rfl T.WORN) pa_nil)) (pv 1)))))), ?_⟩
    refine xRet (tLc_of ?_)
    refine ⟨_, rfl, n, rfl, by omega, by omega, ?_⟩
    refine lc_all (I := I) walk_rg ColR.mo ((worn n h).map some) (by simp [worn]) (by simp; omega) hI (fun H' s => trivial) ?_ ?_
    · rintro i v I1 H1 H1' Nx Nn hi g1 ⟨rfl, rfl⟩ kx kn
      refine ⟨rfl, xYes ?_⟩
      refine ⟨by decide, fun p np => ⟨_, rfl, p, h, _, rfl, rfl, upd_same, by omega, by omega, ?_, fun l nl => ?_⟩⟩
      · simp
        exact sz_le (by omega)
      · have e : ((worn n h).map some)[i]? = some (some (List.replicate h 9)) := by
          have hi' : i < n := by simpa using hi
          rw [List.getElem?_map, worn, List.getElem?_replicate, if_pos hi']
          rfl
        have g2 : G I1 H1' I1 (upd H1' p (.lst [V.int 9])) := G.newH g1.b np
        exact kx _ _ _ _ e (g2.trans (G.new g2.b nl)) ⟨l, rfl, by rw [upd_same, rep1]; simp⟩
    · intro D I' H' ys g1 hD ha
      rw [fm_id] at ha
      exact q I' H' _ g1 ⟨D, ys, rfl, hD, ha⟩
end
end CR

namespace CR
open PySem PySem.Spec PyProof.Rows L2
section
variable {P : Program} {w : World} {K : PySem.W.Frag} {mg : Str → Option Value} {base : Heap} {aW : Addr}
theorem xFall {u : TS} {D : Ends} {σ : L2.St} {H : Hp} (h : u D σ H) : tNext { D with nx := u D } σ H := h
theorem flat_take {A : Type} {p : List (List A)} {i : Nat} {c : List A} (h : p[i]? = some c) : (p.take (i + 1)).flatten = (p.take i).flatten ++ c := by
  rw [List.take_add_one, h, List.flatten_append]
  simp
theorem flat_le {A : Type} : ∀ (p : List (List A)) (i : Nat), (p.take i).flatten.length ≤ p.flatten.length
  | [], i => by simp
  | c :: p, 0 => by simp
  | c :: p, i + 1 => by
    have := flat_le p i
    simp only [List.take_succ_cons, List.flatten_cons, List.length_append]
    omega
theorem cut_from (xs : List V) (j : Nat) : cutV xs (some (j : Int)) none = xs.drop j := by
  unfold cutV
  rw [HT.sIx_nat xs.length 0 j, HT.sIx_none]
  by_cases h : j ≤ xs.length
  · rw [Nat.min_eq_left h]
    exact List.take_of_length_le (by rw [List.length_drop]; omega)
  · rw [Nat.min_eq_right (by omega), Nat.sub_self, List.take_zero, List.drop_eq_nil_of_le (by omega)]
theorem cut_to (xs : List V) (j : Nat) : cutV xs none (some (j : Int)) = xs.take j := by
  unfold cutV
  rw [HT.sIx_nat xs.length xs.length j, HT.sIx_none, List.drop_zero, Nat.sub_zero]
  by_cases h : j ≤ xs.length
  · rw [Nat.min_eq_left h]
  · rw [Nat.min_eq_right (by omega), List.take_length, List.take_of_length_le (by omega)]

/-! ### cells_of -/
abbrev s_cells_of : Stmt := top 30
abbrev N_cells_of : List Str := ["picture", "cells", "column"]
theorem sc_cells_of : FnScope N_cells_of ["picture"] (defScope s_cells_of) := ⟨rfl, rfl, rfl, by decide +kernel, rfl, by decide +kernel, by decide +kernel⟩
def spCellsOf : Sp := fun vs H Q _ => ∃ (I : Hp) (u : V) (p : List (List Nat)), vs = [u] ∧ Same I H ∧ PicR I u p ∧ p.flatten.length ≤ 1000 ∧ Ret I H (fun J x => ColR J x p.flatten) Q
theorem ok_cells_of (D : Dn K mg "cells_of" s_cells_of ["picture"]) : C8.Cal P w K mg base 1 "cells_of" spCellsOf [] := by
  refine D.cal sc_cells_of (fun vs H Q E h => ?_) (fun f cdv A outer s H vs Q E hr h => ?_)
  · obtain ⟨I, u, p, rfl, _⟩ := h
    rfl
  · obtain ⟨I, u, p, rfl, hI, ⟨a, vs, rfl, ha, hv⟩, hl, q⟩ := h
    refine ⟨_, (pss_cons (ps_set (i := 1) sc_cells_of.nd rfl (Or.inl rfl) (pe_lst pa_nil))
        (pss_cons (ps_for PassesOwn.never rfl (pi_list (pv 0)) (pg_name (i := 2) sc_cells_of.nd rfl (Or.inl rfl)) (pss_one (ps_expr (pe_bm PySem.F.plainAttrs_list PySem.F.slot_list_extend PySem.F.type_list_extend mt_extend (pv 1) (pa_cons (pv 2) pa_nil)))))
        (pss_one (ps_ret (pv 1))))), ?_⟩
    refine ⟨Nat.zero_le _, fun o no => ?_⟩
    have g0 : G I H I (upd H o (.lst [])) := G.newH hI no
    refine ⟨_, rfl, a, rfl, ⟨_, SqL.of (g0.b _ _ ha)⟩, for_it (walk_list (xs := vs)) (fun i σ H' => ∃ y, σ = [some (.ref a), some (.ref o), y] ∧ G I H I H' ∧ H' o = some (.lst ((p.take i).flatten.map vN))) ?_ ?_ ?_ ?_⟩
    · exact ⟨none, rfl, g0, by rw [upd_same]; rfl⟩
    · rintro i σ H' _ ⟨y, _, g1, _⟩
      exact SqL.of (g1.b _ _ ha)
    · rintro i x σ H1 H1' hi ⟨y, rfl, g1, ho⟩ ⟨rfl, hx⟩
      obtain ⟨c, ec, b, rfl, hb⟩ := hv.get hx
      have hb' := g1.b _ _ hb
      have l1 := flat_le p (i + 1)
      rw [flat_take ec, List.length_append] at l1
      refine ⟨_, rfl, .inl ⟨rfl, _, SqL.of ho⟩, _, rfl, o, b, _, _, rfl, rfl, ho, hb', sz_le ?_, ⟨_, rfl, g1.mut no (none_of hI no), ?_⟩⟩
      · simp only [List.length_map]
        omega
      · rw [upd_same, flat_take ec, List.map_append]
    · rintro σ H1 ⟨y, rfl, g1, ho⟩
      rw [hv.length, List.take_length] at ho
      exact ⟨_, rfl, q _ _ _ (g1.pub no ho hI) ⟨o, rfl, upd_same⟩⟩

/-! ### turned -/
abbrev s_turned : Stmt := top 22
abbrev N_turned : List Str := ["picture", "way", "column"]
theorem sc_turned : FnScope N_turned ["picture", "way"] (defScope s_turned) := ⟨rfl, rfl, rfl, by decide +kernel, rfl, by decide +kernel, by decide +kernel⟩
def spTurned : Sp := fun vs H Q _ => ∃ (I : Hp) (u : V) (p : List (List Nat)) (k : Nat), vs = [u, vN k] ∧ Same I H ∧ PicR I u p ∧ p.length ≤ 1000 ∧ k ≤ 1 ∧ Ret I H (fun J x => PicR J x (Mu34.laid k p)) Q
theorem over_get {p : List (List Nat)} {i : Nat} {c : List Nat} (hi : i < p.length) (h : p[p.length - 1 - i]? = some c) : (Mu34.over p)[i]? = some c.reverse := by
  unfold Mu34.over
  rw [List.getElem?_map, List.getElem?_reverse hi, h]
  rfl
theorem over_len (p : List (List Nat)) : (Mu34.over p).length = p.length := by
  unfold Mu34.over
  simp
theorem ok_turned (T : Top K mg aW) (D : Dn K mg "turned" s_turned ["picture", "way"]) : C8.Cal P w K mg base 1 "turned" spTurned [] := by
  refine D.cal sc_turned (fun vs H Q E h => ?_) (fun f cdv A outer s H vs Q E hr h => ?_)
  · obtain ⟨I, u, p, k, rfl, _⟩ := h
    rfl
  · obtain ⟨I, u, p, k, rfl, hI, hp, hl, hk, q⟩ := h
    refine ⟨_, (pss_cons (ps_if (pt_cmpR op_eq (pv 1) (C8.pe_gc rfl T.AS_IT_IS) (nomark _)) (pss_one (ps_ret (pv 0))) pss_nil)
        (pss_one (ps_ret (pe_lc (own := [("column", 2)]) (g := (gName 2)) (tt := tYes) (te := (tListRev K (tVar 2))) rfl sc_turned.nd (pi_reversed (by rfl) T.b_reversed (pa_cons (pv 0) pa_nil)) (blkOk_by (own := [("column", 2)]) (N := N_turned) (sc := defScope s_turned) (by decide +kernel)) (fun _ _ _ _ _ => (pg_name (i := 2) sc_turned.nd rfl (Or.inl rfl))) (fun _ _ _ _ _ => pts_nil) (fun _ _ _ _ _ => (pe_listRev rfl (by rfl) T.b_list (by rfl) T.b_reversed (pv 2))))))), ?_⟩
    refine ⟨_, rfl, rfl, _, rfl, ite2 (fun e => ⟨_, rfl, ?_⟩) (fun e => ?_)⟩
    · have e1 : (k == 0) = true := (eq_int (a := k) (b := 0)).symm.trans e
      have e2 : k = 0 := eq_of_beq e1
      subst e2
      exact q I H u (G.refl hI) hp
    · have e2 : k = 1 := by
        have : k ≠ 0 := fun z => e (by subst z; exact decide_eq_true rfl)
        omega
      subst e2
      obtain ⟨a, vs, rfl, ha, hv⟩ := hp
      refine xFall (xRet (tLc_of ?_))
      have lv := hv.length
      refine ⟨_, rfl, a, _, rfl, SqL.of (hI _ _ ha), ?_⟩
      refine lc_all (I := I) walk_rev ColR.mo ((Mu34.over p).map some) (by rw [List.length_map, over_len, lv]) (by omega) hI (fun H' s => SqL.of (s _ _ (hI _ _ ha))) ?_ ?_
      · rintro i v I1 H1 H1' Nx Nn hi g1 ⟨rfl, hx⟩ kx kn
        obtain ⟨c, ec, b, rfl, hb⟩ := hv.get hx
        have hb' := g1.b _ _ (g1.u _ _ hb)
        refine ⟨rfl, xYes ?_⟩
        refine ⟨_, rfl, b, _, rfl, SqL.of hb', fun l nl => ?_⟩
        rw [lv] at hi ec
        refine kx _ _ _ c.reverse (by rw [List.getElem?_map, over_get hi ec]; rfl) (G.new g1.b nl) ⟨l, rfl, ?_⟩
        rw [upd_same, List.map_reverse]
      · intro D I' H' ys g1 hD ha
        rw [fm_id] at ha
        exact q I' H' _ g1 ⟨D, ys, rfl, hD, ha⟩
end
end CR

namespace CR
open PySem PySem.Spec PyProof.Rows L2
section
variable {P : Program} {w : World} {K : PySem.W.Frag} {mg : Str → Option Value} {base : Heap} {aW : Addr}
theorem range_map {B : Type} (f : Nat → B) (j : Nat) : (List.range (j + 1)).map f = (List.range j).map f ++ [f j] := by
  rw [List.range_succ, List.map_append]
  rfl
theorem laid_len (k : Nat) (p : List (List Nat)) : (Mu34.laid k p).length = p.length := by
  unfold Mu34.laid
  split
  · exact over_len p
  · rfl

/-! ### spellings -/
abbrev s_spellings : Stmt := top 23
abbrev N_spellings : List Str := ["ring", "found", "way", "told", "start"]
theorem sc_spellings : FnScope N_spellings ["ring"] (defScope s_spellings) := ⟨rfl, rfl, rfl, by decide +kernel, rfl, by decide +kernel, by decide +kernel⟩
def spSpellings : Sp := fun vs H Q _ => ∃ (I : Hp) (u : V) (p : List (List Nat)), vs = [u] ∧ Same I H ∧ PicR I u p ∧ p.length ≤ 100 ∧ Ret I H (fun J x => PicsR J x (Mu34.spellings p)) Q
def splTo (p : List (List Nat)) (i : Nat) : List (List (List Nat)) := ([0, 1].take i).flatMap fun k => Mu34.turns (Mu34.laid k p)
theorem splTo_len (p : List (List Nat)) (i : Nat) : (splTo p i).length ≤ 2 * p.length := by
  unfold splTo
  match i with
  | 0 => simp
  | 1 => simp [Mu34.turns, laid_len]; omega
  | i + 2 => simp [Mu34.turns, laid_len]; omega
theorem splTo_succ {p : List (List Nat)} {i k : Nat} (h : ([0, 1] : List Nat)[i]? = some k) : splTo p (i + 1) = splTo p i ++ Mu34.turns (Mu34.laid k p) := by
  unfold splTo
  rw [List.take_add_one, h, List.flatMap_append]
  simp
theorem ok_spellings (T : Top K mg aW) (D : Dn K mg "spellings" s_spellings ["ring"]) (c_turned : C8.Cal P w K mg base 1 "turned" spTurned []) : C8.Cal P w K mg base 2 "spellings" spSpellings [] := by
  refine D.cal sc_spellings (fun vs H Q E h => ?_) (fun f cdv A outer s H vs Q E hr h => ?_)
  · obtain ⟨I, u, p, rfl, _⟩ := h
    rfl
  · obtain ⟨I, u, p, rfl, hI, hp, hl, q⟩ := h
    refine ⟨_, (pss_cons (ps_set (i := 1) sc_spellings.nd rfl (Or.inl rfl) (pe_lst pa_nil))
        (pss_cons (ps_for PassesOwn.never rfl (pi_tup (C8.pe_gc rfl T.WAYS)) (pg_name (i := 2) sc_spellings.nd rfl (Or.inl rfl)) (pss_cons (ps_set (i := 3) sc_spellings.nd rfl (Or.inl rfl) (C8.pe_c c_turned hr (by decide) rfl (pa_cons (pv 0) (pa_cons (pv 2) pa_nil))))
        (pss_one (ps_for PassesOwn.never rfl (pi_range1 (by rfl) T.b_range (pa_cons (pe_callB call_len_seq (by rfl) T.b_len PySem.boot_len (pa_cons (pv 3) pa_nil)) pa_nil)) (pg_name (i := 4) sc_spellings.nd rfl (Or.inl rfl)) (pss_one (ps_expr (pe_bm PySem.F.plainAttrs_list PySem.F.slot_list_append PySem.F.type_list_append mt_append (pv 1) (pa_cons (pe_op op_cat (pe_slice sl_list (pv 3) (po_some (pv 4)) po_none) (pe_slice sl_list (pv 3) po_none (po_some (pv 4)))) pa_nil))))))))
        (pss_one (ps_ret (pv 1))))), ?_⟩
    refine ⟨Nat.zero_le _, fun o no => ?_⟩
    have g0 : G I H I (upd H o (.lst [])) := G.newH hI no
    refine ⟨aW, rfl, ⟨_, T.ways _⟩, for_it (walk_tup (K := K) (a := aW) (xs := [.int 0, .int 1])) (fun i σ H' => ∃ I' ys y2 y3 y4, σ = [some u, some (.ref o), y2, y3, y4] ∧ G I H I' H' ∧ I' o = none ∧ H' o = some (.lst ys) ∧ All2 (PicR I') ys (splTo p i)) ?_ ?_ ?_ ?_⟩
    · exact ⟨I, [], none, none, none, rfl, g0, none_of hI no, upd_same, .nil⟩
    · rintro i σ H' _ _
      exact T.ways _
    · rintro i x σ H1 H1' hi ⟨I1, ys, y2, y3, y4, rfl, g1, io, ho, a1⟩ ⟨rfl, hx⟩
      obtain ⟨k, ek, hk, rfl⟩ : ∃ k : Nat, ([0, 1] : List Nat)[i]? = some k ∧ k ≤ 1 ∧ x = vN k := by
        match i, hx with
        | 0, hx => exact ⟨0, rfl, by omega, (Option.some.inj hx).symm⟩
        | 1, hx => exact ⟨1, rfl, by omega, (Option.some.inj hx).symm⟩
      refine ⟨_, rfl, _, rfl, I1, u, p, k, rfl, g1.b, PicR.mo _ _ _ _ g1.u hp, by omega, hk, fun I2 H2 v2 g2 r2 => ?_⟩
      have io2 : I2 o = none := g2.still io ho
      have ho2 := g2.s _ _ ho
      obtain ⟨a2, vs2, rfl, ha2, hv2⟩ := r2
      have l2 := hv2.length
      rw [laid_len] at l2
      have a2' := g2.b _ _ ha2
      refine ⟨_, rfl, a2, vs2, rfl, .inl (SqL.of a2'), (vs2.length : Int), rfl, by omega, by omega, for_it walk_rg (fun j σ H' => ∃ I' ys y4, σ = [some u, some (.ref o), some (vN k), some (.ref a2), y4] ∧ G I H I' H' ∧ Same I2 I' ∧ I' o = none ∧ H' o = some (.lst ys) ∧ All2 (PicR I') ys (splTo p i ++ (List.range j).map fun s => Mu34.turn s (Mu34.laid k p))) ?_ ?_ ?_ ?_⟩
      · exact ⟨I2, ys, y4, rfl, g1.trans g2, Same.refl _, io2, ho2, by simpa using All2.mo PicR.mo g2.u a1⟩
      · rintro j σ H' _ _
        trivial
      · rintro j x σ H3 H3' hj ⟨I3, ys3, y4, rfl, g3, u3, io3, ho3, a3⟩ ⟨rfl, rfl⟩
        have hj2 : j < vs2.length := by simpa using hj
        have a3' := g3.b _ _ (u3 _ _ ha2)
        have l3 := a3.length
        have l4 := splTo_len p i
        simp only [List.length_append, List.length_map, List.length_range] at l3
        refine ⟨_, rfl, .inl ⟨rfl, _, SqL.of ho3⟩, _, rfl, _, rfl, j, rfl, a2, vs2, rfl, SqL.of a3', fun p1 n1 => ?_⟩
        have g4 : G I3 H3' I3 (upd H3' p1 (.lst (cutV vs2 (some (j : Int)) none))) := G.newH g3.b n1
        refine ⟨_, rfl, _, rfl, j, rfl, a2, vs2, rfl, SqL.of (g4.s _ _ a3'), fun p2 n2 => ?_⟩
        have g5 := g4.trans (G.newH (o := .lst (cutV vs2 none (some (j : Int)))) g4.b n2)
        have h1 : (upd (upd H3' p1 (.lst (cutV vs2 (some (j : Int)) none))) p2 (.lst (cutV vs2 none (some (j : Int))))) p1 = some (.lst (cutV vs2 (some (j : Int)) none)) := by
          rw [upd_ne (fun e => by rw [e] at n2; rw [← e, upd_same] at n2; cases n2), upd_same]
        refine ⟨p1, p2, _, _, rfl, rfl, h1, upd_same, sz_le ?_, fun p3 n3 => ?_⟩
        · rw [cut_from, cut_to, List.length_drop, List.length_take]
          omega
        · have g6 := g5.trans (G.new (o := .lst (cutV vs2 (some (j : Int)) none ++ cutV vs2 none (some (j : Int)))) g5.b n3)
          refine ⟨o, ys3, _, rfl, rfl, g6.s _ _ ho3, sz_lt (by omega), ?_⟩
          have io6 := g6.still io3 ho3
          refine ⟨_, _, _, rfl, (g3.trans g6).mut no io6, u3.trans g6.u, io6, upd_same, ?_⟩
          rw [range_map, ← List.append_assoc]
          refine (All2.mo PicR.mo g6.u a3).snoc ⟨p3, _, rfl, upd_same, ?_⟩
          have hv3 := All2.mo ColR.mo (u3.trans g6.u) hv2
          rw [cut_from, cut_to] at hv3 ⊢
          exact (hv3.drop j).append (hv3.take j)
      · rintro σ H3 ⟨I3, ys3, y4, rfl, g3, u3, io3, ho3, a3⟩
        refine ⟨I3, ys3, _, _, _, rfl, g3, io3, ho3, ?_⟩
        rw [splTo_succ ek]
        have e : (List.range ((vs2.length : Int).toNat)).map (fun s => Mu34.turn s (Mu34.laid k p)) = Mu34.turns (Mu34.laid k p) := by
          rw [Int.toNat_natCast, Mu34.turns, laid_len, l2]
        rw [← e]
        exact a3
    · rintro σ H1 ⟨I1, ys, y2, y3, y4, rfl, g1, io, ho, a1⟩
      refine ⟨_, rfl, q _ _ _ (g1.pub no ho hI) ⟨o, ys, rfl, upd_same, ?_⟩⟩
      have e : splTo p 2 = Mu34.spellings p := by
        show Mu34.turns (Mu34.laid 0 p) ++ (Mu34.turns (Mu34.laid 1 p) ++ []) = Mu34.turns p ++ Mu34.turns (Mu34.over p)
        rw [List.append_nil]
        rfl
      rw [← e]
      exact All2.mo PicR.mo (same_new io) a1

/-! ### places -/
abbrev s_places : Stmt := top 25
abbrev N_places : List Str := ["width", "found", "way", "column"]
theorem sc_places : FnScope N_places ["width"] (defScope s_places) := ⟨rfl, rfl, rfl, by decide +kernel, rfl, by decide +kernel, by decide +kernel⟩
def placesTo (n i : Nat) : List (List Nat) := ([0, 1].take i).flatMap fun k => (List.range n).map fun j => [k, j]
def places (n : Nat) : List (List Nat) := placesTo n 2
theorem placesTo_len (n i : Nat) : (placesTo n i).length ≤ 2 * n := by
  unfold placesTo
  match i with
  | 0 => simp
  | 1 => simp; omega
  | i + 2 => simp; omega
theorem placesTo_succ {n i k : Nat} (h : ([0, 1] : List Nat)[i]? = some k) : placesTo n (i + 1) = placesTo n i ++ (List.range n).map fun j => [k, j] := by
  unfold placesTo
  rw [List.take_add_one, h, List.flatMap_append]
  simp
def spPlaces : Sp := fun vs H Q _ => ∃ (I : Hp) (n : Nat), vs = [vN n] ∧ Same I H ∧ n ≤ 100 ∧ Ret I H (fun J x => PicR J x (places n)) Q
theorem ok_places (T : Top K mg aW) (D : Dn K mg "places" s_places ["width"]) : C8.Cal P w K mg base 1 "places" spPlaces [] := by
  refine D.cal sc_places (fun vs H Q E h => ?_) (fun f cdv A outer s H vs Q E hr h => ?_)
  · obtain ⟨I, n, rfl, _⟩ := h
    rfl
  · obtain ⟨I, n, rfl, hI, hn, q⟩ := h
    refine ⟨_, (pss_cons (ps_set (i := 1) sc_places.nd rfl (Or.inl rfl) (pe_lst pa_nil))
        (pss_cons (ps_for PassesOwn.never rfl (pi_tup (C8.pe_gc rfl T.WAYS)) (pg_name (i := 2) sc_places.nd rfl (Or.inl rfl)) (pss_one (ps_for PassesOwn.never rfl (pi_range1 (by rfl) T.b_range (pa_cons (pv 0) pa_nil)) (pg_name (i := 3) sc_places.nd rfl (Or.inl rfl)) (pss_one (ps_expr (pe_bm PySem.F.plainAttrs_list PySem.F.slot_list_append PySem.F.type_list_append mt_append (pv 1) (pa_cons (pe_lst (pa_cons (pv 2) (pa_cons (pv 3) pa_nil))) pa_nil)))))))
        (pss_one (ps_ret (pv 1))))), ?_⟩
    refine ⟨Nat.zero_le _, fun o no => ?_⟩
    have g0 : G I H I (upd H o (.lst [])) := G.newH hI no
    refine ⟨aW, rfl, ⟨_, T.ways _⟩, for_it (walk_tup (K := K) (a := aW) (xs := [.int 0, .int 1])) (fun i σ H' => ∃ I' ys y2 y3, σ = [some (vN n), some (.ref o), y2, y3] ∧ G I H I' H' ∧ I' o = none ∧ H' o = some (.lst ys) ∧ All2 (ColR I') ys (placesTo n i)) ?_ ?_ ?_ ?_⟩
    · exact ⟨I, [], none, none, rfl, g0, none_of hI no, upd_same, .nil⟩
    · rintro i σ H' _ _
      exact T.ways _
    · rintro i x σ H1 H1' hi ⟨I1, ys, y2, y3, rfl, g1, io, ho, a1⟩ ⟨rfl, hx⟩
      obtain ⟨k, ek, hk, rfl⟩ : ∃ k : Nat, ([0, 1] : List Nat)[i]? = some k ∧ k ≤ 1 ∧ x = vN k := by
        match i, hx with
        | 0, hx => exact ⟨0, rfl, by omega, (Option.some.inj hx).symm⟩
        | 1, hx => exact ⟨1, rfl, by omega, (Option.some.inj hx).symm⟩
      refine ⟨_, rfl, (n : Int), rfl, by omega, by omega, for_it walk_rg (fun j σ H' => ∃ I' ys y3, σ = [some (vN n), some (.ref o), some (vN k), y3] ∧ G I H I' H' ∧ I' o = none ∧ H' o = some (.lst ys) ∧ All2 (ColR I') ys (placesTo n i ++ (List.range j).map fun j => [k, j])) ?_ ?_ ?_ ?_⟩
      · exact ⟨I1, ys, y3, rfl, g1, io, ho, by simpa using a1⟩
      · rintro j σ H' _ _
        trivial
      · rintro j x σ H3 H3' hj ⟨I3, ys3, y4, rfl, g3, io3, ho3, a3⟩ ⟨rfl, rfl⟩
        have hj2 : j < n := by simpa using hj
        have l3 := a3.length
        have l4 := placesTo_len n i
        simp only [List.length_append, List.length_map, List.length_range] at l3
        refine ⟨_, rfl, .inl ⟨rfl, _, SqL.of ho3⟩, _, rfl, _, rfl, by show 2 ≤ sizeLine; decide, fun p1 n1 => ?_⟩
        have g4 := G.new (o := .lst [vN k, vN j]) g3.b n1
        refine ⟨o, ys3, _, rfl, rfl, g4.s _ _ ho3, sz_lt (by omega), ?_⟩
        have io4 := g4.still io3 ho3
        refine ⟨_, _, _, rfl, (g3.trans g4).mut no io4, io4, upd_same, ?_⟩
        rw [range_map, ← List.append_assoc]
        refine (All2.mo ColR.mo g4.u a3).snoc ⟨p1, rfl, ?_⟩
        rw [upd_same]
        rfl
      · rintro σ H3 ⟨I3, ys3, y4, rfl, g3, io3, ho3, a3⟩
        refine ⟨I3, ys3, _, _, rfl, g3, io3, ho3, ?_⟩
        rw [placesTo_succ ek]
        simpa using a3
    · rintro σ H1 ⟨I1, ys, y2, y3, rfl, g1, io, ho, a1⟩
      refine ⟨_, rfl, q _ _ _ (g1.pub no ho hI) ⟨o, ys, rfl, upd_same, ?_⟩⟩
      exact All2.mo ColR.mo (same_new io) a1
end
end CR

namespace CR
open PySem PySem.Spec PyProof.Rows L2
/-! ### pictures as data -/
def dInt (n : Nat) : PyData := .int (n : Int)
def dCol (c : List Nat) : PyData := .list (c.map dInt)
def dPic (p : List (List Nat)) : PyData := .list (p.map dCol)
def dPics (l : List (List (List Nat))) : PyData := .list (l.map dPic)
theorem dpAll_of {K : PySem.W.Frag} {H : Hp} {B : Type} {f : B → PyData} {S : V → B → Prop} (h : ∀ v b, S v b → Dp K H v (f b)) : ∀ {vs : List V} {bs : List B}, All2 S vs bs → DpAll K H vs (bs.map f)
  | _, _, .nil => .nil
  | _, _, .cons a t => .cons (h _ _ a) (dpAll_of h t)
theorem dp_col {K : PySem.W.Frag} {I H : Hp} (s : Same I H) {v : V} {c : List Nat} (h : ColR I v c) : Dp K H v (dCol c) := by
  obtain ⟨a, rfl, ha⟩ := h
  exact .lst (SqL.of (s _ _ ha)) (dpAll_of (S := fun v n => v = vN n) (fun v n e => by subst e; exact .int _) (All2.of_fn (f := vN) (fun _ => rfl) c))
theorem dp_pic {K : PySem.W.Frag} {I H : Hp} (s : Same I H) {v : V} {p : List (List Nat)} (h : PicR I v p) : Dp K H v (dPic p) := by
  obtain ⟨a, vs, rfl, ha, hv⟩ := h
  exact .lst (SqL.of (s _ _ ha)) (dpAll_of (fun v c e => dp_col s e) hv)
theorem dp_pics {K : PySem.W.Frag} {I H : Hp} (s : Same I H) {v : V} {p : List (List (List Nat))} (h : PicsR I v p) : Dp K H v (dPics p) := by
  obtain ⟨a, vs, rfl, ha, hv⟩ := h
  exact .lst (SqL.of (s _ _ ha)) (dpAll_of (fun v c e => dp_pic s e) hv)
theorem lay_all {B : Type} {f : B → PyData} (h : ∀ b, (f b).canLay0 = true) : ∀ l : List B, PyData.canLayAll0 (l.map f) = true
  | [] => rfl
  | b :: l => by
    show (PyData.canLay0 (f b) && PyData.canLayAll0 (l.map f)) = true
    rw [h b, lay_all h l]
    rfl
theorem dep_all {B : Type} {f : B → PyData} {n : Nat} (h : ∀ b, (f b).depth ≤ n) : ∀ l : List B, PyData.depthAll (l.map f) ≤ n
  | [] => Nat.zero_le _
  | b :: l => by
    show max (PyData.depth (f b)) (PyData.depthAll (l.map f)) ≤ n
    have := h b
    have := dep_all h l
    omega
theorem shaped_of {d : PyData} (a : d.canLay0 = true) (b : d.depth ≤ 64) : SeqAt.shaped d = true := by
  unfold SeqAt.shaped
  rw [a, decide_eq_true b]
  rfl
theorem lay_col (c : List Nat) : (dCol c).canLay0 = true := lay_all (fun _ => rfl) c
theorem lay_pic (c : List (List Nat)) : (dPic c).canLay0 = true := lay_all lay_col c
theorem lay_pics (c : List (List (List Nat))) : (dPics c).canLay0 = true := lay_all lay_pic c
theorem dep_col (c : List Nat) : (dCol c).depth ≤ 2 := Nat.succ_le_succ (dep_all (n := 1) (fun _ => by simp [dInt, PyData.depth]) c)
theorem dep_pic (c : List (List Nat)) : (dPic c).depth ≤ 3 := Nat.succ_le_succ (dep_all dep_col c)
theorem dep_pics (c : List (List (List Nat))) : (dPics c).depth ≤ 4 := Nat.succ_le_succ (dep_all dep_pic c)
theorem eqv_all {B : Type} [BEq B] [LawfulBEq B] {f : B → PyData} (h : ∀ a b, PyData.eqv (f a) (f b) = (a == b)) : ∀ l r : List B, PyData.eqvAll (l.map f) (r.map f) = (l == r)
  | [], [] => rfl
  | [], b :: r => rfl
  | a :: l, [] => rfl
  | a :: l, b :: r => by
    show (PyData.eqv (f a) (f b) && PyData.eqvAll (l.map f) (r.map f)) = _
    rw [h a b, eqv_all h l r]
    rfl
theorem eqv_int (a b : Nat) : PyData.eqv (.int (a : Int)) (.int (b : Int)) = (a == b) := by
  show ((a : Int) == (b : Int)) = (a == b)
  by_cases e : a = b
  · subst e
    simp
  · have e2 : ¬ (a : Int) = (b : Int) := fun z => e (Int.ofNat.inj z)
    rw [beq_eq_false_iff_ne.mpr e, beq_eq_false_iff_ne.mpr e2]
theorem eqv_col (a b : List Nat) : PyData.eqv (dCol a) (dCol b) = (a == b) := eqv_all eqv_int a b
theorem eqv_pic (a b : List (List Nat)) : PyData.eqv (dPic a) (dPic b) = (a == b) := eqv_all eqv_col a b
theorem any_same (l : List (List (List Nat))) (q : List (List Nat)) : ((l.map dPic).any fun z => PyData.eqv z (dPic q)) = l.contains q := by
  rw [List.any_map, List.contains_eq_any_beq]
  congr 1
  funext z
  show PyData.eqv (dPic z) (dPic q) = (q == z)
  rw [eqv_pic]
  exact BEq.comm
section
variable {P : Program} {w : World} {K : PySem.W.Frag} {mg : Str → Option Value} {base : Heap} {aW : Addr}
/-! ### are_same -/
abbrev s_are_same : Stmt := top 24
abbrev N_are_same : List Str := ["ring", "other"]
theorem sc_are_same : FnScope N_are_same ["ring", "other"] (defScope s_are_same) := ⟨rfl, rfl, rfl, by decide +kernel, rfl, by decide +kernel, by decide +kernel⟩
def spSame : Sp := fun vs H Q _ => ∃ (I : Hp) (u v : V) (p q : List (List Nat)), vs = [u, v] ∧ Same I H ∧ PicR I u p ∧ PicR I v q ∧ p.length ≤ 100 ∧ Ret I H (fun _ x => x = .bl (Mu34.same p q)) Q
theorem units65 {k : Nat} {A : Around} (r : Room k A) : A.units + 65 < cLine := by
  have := r.un
  omega
theorem ok_are_same (D : Dn K mg "are_same" s_are_same ["ring", "other"]) (c_spellings : C8.Cal P w K mg base 2 "spellings" spSpellings []) : C8.Cal P w K mg base 3 "are_same" spSame [] := by
  refine D.cal sc_are_same (fun vs H Q E h => ?_) (fun f cdv A outer s H vs Q E hr h => ?_)
  · obtain ⟨I, u, v, p, q, rfl, _⟩ := h
    rfl
  · obtain ⟨I, u, v, p, q, rfl, hI, hp, hq, hl, k⟩ := h
    refine ⟨_, (pss_one (ps_ret (pe_cmpR (op_inD (units65 hr)) (pv 1) (C8.pe_c c_spellings hr (by decide) rfl (pa_cons (pv 0) pa_nil)) (by rfl)))), ?_⟩
    refine ⟨_, rfl, _, rfl, I, u, p, rfl, hI, hp, hl, fun I1 H1 v1 g1 r1 => ?_⟩
    refine ⟨dPic q, _, dp_pic g1.b (PicR.mo _ _ _ _ g1.u hq), dp_pics g1.b r1, shaped_of (lay_pic _) (Nat.le_trans (dep_pic _) (by decide)), shaped_of (lay_pics _) (Nat.le_trans (dep_pics _) (by decide)), ?_⟩
    rw [any_same]
    exact k I1 H1 _ g1 rfl

/-! ### is_column -/
abbrev s_is_column : Stmt := top 18
abbrev N_is_column : List Str := ["column", "high", "allowed", "cell"]
theorem sc_is_column : FnScope N_is_column ["column", "high", "allowed"] (defScope s_is_column) := ⟨rfl, rfl, rfl, by decide +kernel, rfl, by decide +kernel, by decide +kernel⟩
def colOk (h : Nat) (al c : List Nat) : Bool := c.length == h && c.all fun z => al.contains z
theorem in_nat (m : Nat) (l : List Nat) : inV (vN m) (l.map vN) = l.contains m := by
  unfold inV
  rw [List.any_map, List.contains_eq_any_beq]
  congr 1
  funext z
  show ((z : Int) == (m : Int)) = (m == z)
  rw [show ((z : Int) == (m : Int)) = (z == m) from eqv_int z m]
  exact BEq.comm
theorem flat_nat (l : List Nat) : (l.map vN).all flatV = true := by
  rw [List.all_map, List.all_eq_true]
  intro x _
  rfl
def spIsColumn : Sp := fun vs H Q _ => ∃ (I : Hp) (u v : V) (c al : List Nat) (h : Nat), vs = [u, vN h, v] ∧ Same I H ∧ ColR I u c ∧ ColR I v al ∧ c.length ≤ 100 ∧ Ret I H (fun _ x => x = .bl (colOk h al c)) Q
theorem ok_is_column (T : Top K mg aW) (D : Dn K mg "is_column" s_is_column ["column", "high", "allowed"]) : C8.Cal P w K mg base 1 "is_column" spIsColumn [] := by
  refine D.cal sc_is_column (fun vs H Q E h => ?_) (fun f cdv A outer s H vs Q E hr h => ?_)
  · obtain ⟨I, u, v, c, al, h, rfl, _⟩ := h
    rfl
  · obtain ⟨I, u, v, c, al, h, rfl, hI, ⟨a, rfl, ha⟩, ⟨b, rfl, hb⟩, hl, q⟩ := h
    refine ⟨_, (pss_one (ps_ret (pe_and (pe_cmpR op_eq (pe_callB call_len_seq (by rfl) T.b_len PySem.boot_len (pa_cons (pv 0) pa_nil)) (pv 1) (nomark _)) (pe_one (pe_callB (cr_all rfl) (by rfl) T.b_all (by decide +kernel) (pa_cons (pe_lc (own := [("cell", 3)]) (g := (gName 3)) (tt := tYes) (te := (tOp (rIn K false) (tVar 3) (tVar 2))) rfl sc_is_column.nd (pi_list (pv 0)) (blkOk_by (own := [("cell", 3)]) (N := N_is_column) (sc := defScope s_is_column) (by decide +kernel)) (fun _ _ _ _ _ => (pg_name (i := 3) sc_is_column.nd rfl (Or.inl rfl))) (fun _ _ _ _ _ => pts_nil) (fun _ _ _ _ _ => (pe_cmpR op_in_seq (pv 3) (pv 2) (by rfl)))) pa_nil)))))), ?_⟩
    refine ⟨_, rfl, a, _, rfl, .inl (SqL.of (hI _ _ ha)), _, rfl, rfl, _, rfl, ?_⟩
    have e0 : (decide (V.int ((c.map vN).length : Int) = vN h)) = (c.length == h) := by
      rw [List.length_map]
      exact eq_int
    rw [e0]
    refine ite2 (fun e => xCB (xCons (tLc_of ?_))) (fun e => ?_)
    · refine ⟨_, rfl, a, rfl, ⟨_, SqL.of (hI _ _ ha)⟩, ?_⟩
      refine lc_all (I := I) (walk_list (xs := c.map vN)) (VR.mo V.bl) (c.map fun z => some (al.contains z)) (by simp) (by simp; omega) hI (fun H' s => SqL.of (s _ _ (hI _ _ ha))) ?_ ?_
      · rintro i x I1 H1 H1' Nx Nn hi g1 ⟨rfl, hx⟩ kx kn
        obtain ⟨m, em, rfl⟩ := map_get hx
        refine ⟨rfl, xYes ?_⟩
        refine ⟨_, rfl, _, rfl, b, _, rfl, .inl (SqL.of (g1.s _ _ (hI _ _ hb))), rfl, flat_nat al, ?_⟩
        refine kx I1 _ _ (al.contains m) (by rw [List.getElem?_map, em]; rfl) (G.refl g1.b) ?_
        show V.bl (inV (vN m) (al.map vN)) = _
        rw [in_nat]
      · intro D I' H' ys g1 hD ha
        rw [fm_some] at ha
        refine ⟨D, c.map fun z => al.contains z, rfl, SqL.of ?_, q I' H' _ g1 ?_⟩
        · rw [g1.b _ _ hD, ha.of_eq]
        · show V.bl _ = V.bl (c.length == h && _)
          rw [e, List.all_map]
          rfl
    · refine q I H _ (G.refl hI) ?_
      show V.bl false = V.bl (c.length == h && _)
      rw [show (c.length == h) = false by simpa using e]
      rfl

/-! ### has_form -/
abbrev s_has_form : Stmt := top 19
abbrev N_has_form : List Str := ["picture", "longest", "high", "allowed", "column"]
theorem sc_has_form : FnScope N_has_form ["picture", "longest", "high", "allowed"] (defScope s_has_form) := ⟨rfl, rfl, rfl, by decide +kernel, rfl, by decide +kernel, by decide +kernel⟩
def formOk (n h : Nat) (al : List Nat) (p : List (List Nat)) : Bool := decide (1 ≤ p.length) && (decide (p.length ≤ n) && p.all fun c => colOk h al c)
def spHasForm : Sp := fun vs H Q _ => ∃ (I : Hp) (u v : V) (p : List (List Nat)) (al : List Nat) (n h : Nat), vs = [u, vN n, vN h, v] ∧ Same I H ∧ PicR I u p ∧ ColR I v al ∧ p.length ≤ 100 ∧ (∀ c ∈ p, c.length ≤ 100) ∧ Ret I H (fun _ x => x = .bl (formOk n h al p)) Q
theorem ok_has_form (T : Top K mg aW) (D : Dn K mg "has_form" s_has_form ["picture", "longest", "high", "allowed"]) (c_is_column : C8.Cal P w K mg base 1 "is_column" spIsColumn []) : C8.Cal P w K mg base 2 "has_form" spHasForm [] := by
  refine D.cal sc_has_form (fun vs H Q E h => ?_) (fun f cdv A outer s H vs Q E hr h => ?_)
  · obtain ⟨I, u, v, p, al, n, h, rfl, _⟩ := h
    rfl
  · obtain ⟨I, u, v, p, al, n, h, rfl, hI, ⟨a, vs, rfl, ha, hv⟩, hb, hl, hc, q⟩ := h
    refine ⟨_, (pss_cons (ps_if (pt_not (pt_chain op_le op_le pe_int (pe_callB call_len_seq (by rfl) T.b_len PySem.boot_len (pa_cons (pv 0) pa_nil)) (pv 1))) (pss_one (ps_ret pe_bl)) pss_nil)
        (pss_one (ps_ret (pe_callB (cr_all rfl) (by rfl) T.b_all (by decide +kernel) (pa_cons (pe_lc (own := [("column", 4)]) (g := (gName 4)) (tt := tYes) (te := (tCall _ _ _ (tCons (tVar 4) (tCons (tVar 2) (tCons (tVar 3) tNil))))) rfl sc_has_form.nd (pi_list (pv 0)) (blkOk_by (own := [("column", 4)]) (N := N_has_form) (sc := defScope s_has_form) (by decide +kernel)) (fun _ _ _ _ _ => (pg_name (i := 4) sc_has_form.nd rfl (Or.inl rfl))) (fun _ _ _ _ _ => pts_nil) (fun _ _ _ _ _ => (C8.pe_c c_is_column hr (by decide) rfl (pa_cons (pv 4) (pa_cons (pv 2) (pa_cons (pv 3) pa_nil)))))) pa_nil))))), ?_⟩
    have lv := hv.length
    refine ⟨_, rfl, a, _, rfl, .inl (SqL.of (hI _ _ ha)), 1, _, rfl, rfl, _, rfl, ite2 (fun h1 => ⟨_, rfl, _, _, rfl, rfl, _, rfl, ?_⟩) (fun h1 => ⟨_, rfl, iteT ?_⟩)⟩
    · have h1' : 1 ≤ p.length := by
        have := of_decide_eq_true h1
        omega
      by_cases h2 : p.length ≤ n
      · rw [show decide ((vs.length : Int) ≤ (n : Int)) = true from decide_eq_true (by omega)]
        refine iteF (xFall (xRet (xCB (xCons (tLc_of ?_)))))
        refine ⟨_, rfl, a, rfl, ⟨_, SqL.of (hI _ _ ha)⟩, ?_⟩
        refine lc_all (I := I) (walk_list (xs := vs)) (VR.mo V.bl) (p.map fun z => some (colOk h al z)) (by simp [lv]) (by omega) hI (fun H' s => SqL.of (s _ _ (hI _ _ ha))) ?_ ?_
        · rintro i x I1 H1 H1' Nx Nn hi g1 ⟨rfl, hx⟩ kx kn
          obtain ⟨c, ec, rc⟩ := hv.get hx
          refine ⟨rfl, xYes ?_⟩
          refine ⟨_, rfl, _, rfl, _, rfl, I1, _, _, c, al, h, rfl, g1.b, ColR.mo _ _ _ _ g1.u rc, ColR.mo _ _ _ _ g1.u hb, hc c (List.mem_of_getElem? ec), fun I2 H2 v2 g2 r2 => ?_⟩
          exact kx I2 H2 _ (colOk h al c) (by rw [List.getElem?_map, ec]; rfl) g2 r2
        · intro D I' H' ys g1 hD ha
          rw [fm_some] at ha
          refine ⟨D, p.map fun z => colOk h al z, rfl, SqL.of ?_, q I' H' _ g1 ?_⟩
          · rw [g1.b _ _ hD, ha.of_eq]
          · show V.bl _ = V.bl (decide (1 ≤ p.length) && (decide (p.length ≤ n) && _))
            rw [decide_eq_true h1', decide_eq_true h2, List.all_map]
            rfl
      · rw [show decide ((vs.length : Int) ≤ (n : Int)) = false from decide_eq_false (by omega)]
        refine iteT (q I H _ (G.refl hI) ?_)
        show V.bl false = V.bl (_ && (decide (p.length ≤ n) && _))
        rw [decide_eq_false h2, Bool.false_and, Bool.and_false]
    · refine q I H _ (G.refl hI) ?_
      show V.bl false = V.bl (decide (1 ≤ p.length) && _)
      rw [decide_eq_false (fun z => h1 (decide_eq_true (by omega)))]
      rfl

/-! ### is_ring, is_piece -/
abbrev s_is_ring : Stmt := top 20
abbrev N_is_ring : List Str := ["picture", "high", "signs"]
theorem sc_is_ring : FnScope N_is_ring ["picture", "high", "signs"] (defScope s_is_ring) := ⟨rfl, rfl, rfl, by decide +kernel, rfl, by decide +kernel, by decide +kernel⟩
abbrev s_is_piece : Stmt := top 21
abbrev N_is_piece : List Str := ["picture", "high", "signs"]
theorem sc_is_piece : FnScope N_is_piece ["picture", "high", "signs"] (defScope s_is_piece) := ⟨rfl, rfl, rfl, by decide +kernel, rfl, by decide +kernel, by decide +kernel⟩
def ringOk (h m : Nat) (p : List (List Nat)) : Bool := decide (1 ≤ p.length) && (decide (p.length ≤ 8) && p.all fun c => c.length == h && c.all fun z => decide (z < m))
def pieceOk (h m : Nat) (p : List (List Nat)) : Bool := decide (1 ≤ p.length) && (decide (p.length ≤ 12) && p.all fun c => c.length == h && c.all fun z => z == 9 || decide (z < m))
theorem rgV_nat (m : Nat) : rgV 0 (m : Int) = (List.range m).map vN := by
  unfold rgV
  rw [show ((m : Int) - 0).toNat = m by omega]
  congr 1
  funext i
  show V.int (0 + (i : Int)) = V.int (i : Int)
  rw [Int.zero_add]
theorem ring_form (h m : Nat) (p : List (List Nat)) : formOk 8 h (List.range m) p = ringOk h m p := by
  unfold formOk ringOk colOk
  simp
theorem piece_form (h m : Nat) (p : List (List Nat)) : formOk 12 h (List.range m ++ [9]) p = pieceOk h m p := by
  have e : ∀ z : Nat, (List.range m ++ [9]).contains z = (z == 9 || decide (z < m)) := by
    intro z
    rw [List.contains_eq_mem]
    by_cases h1 : z = 9
    · subst h1
      simp
    · simp [h1]
  unfold formOk pieceOk colOk
  simp only [e]
def spIsRing : Sp := fun vs H Q _ => ∃ (I : Hp) (u : V) (p : List (List Nat)) (h m : Nat), vs = [u, vN h, vN m] ∧ Same I H ∧ PicR I u p ∧ p.length ≤ 100 ∧ (∀ c ∈ p, c.length ≤ 100) ∧ m ≤ 100 ∧ Ret I H (fun _ x => x = .bl (ringOk h m p)) Q
theorem ok_is_ring (T : Top K mg aW) (D : Dn K mg "is_ring" s_is_ring ["picture", "high", "signs"]) (c_has_form : C8.Cal P w K mg base 2 "has_form" spHasForm []) : C8.Cal P w K mg base 3 "is_ring" spIsRing [] := by
  refine D.cal sc_is_ring (fun vs H Q E h => ?_) (fun f cdv A outer s H vs Q E hr h => ?_)
  · obtain ⟨I, u, p, h, m, rfl, _⟩ := h
    rfl
  · obtain ⟨I, u, p, h, m, rfl, hI, hp, hl, hc, hm, q⟩ := h
    refine ⟨_, (pss_one (ps_ret (C8.pe_c c_has_form hr (by decide) rfl (pa_cons (pv 0) (pa_cons (C8.pe_gc rfl T.LONGEST_RING) (pa_cons (pv 1) (pa_cons (pe_listRg rfl (by rfl) T.b_list (prg_1 (by rfl) T.b_range (pv 2))) pa_nil))))))), ?_⟩
    refine ⟨_, rfl, _, rfl, _, rfl, _, rfl, RgOk.of_le (by omega) (by omega) (by omega) (by omega), fun l nl => ?_⟩
    have g1 := G.new (o := .lst (rgV 0 (m : Int))) hI nl
    refine ⟨_, u, .ref l, p, List.range m, 8, h, rfl, g1.b, PicR.mo _ _ _ _ g1.u hp, ⟨l, rfl, by rw [upd_same, rgV_nat]⟩, hl, hc, fun I2 H2 v2 g2 r2 => ?_⟩
    rw [ring_form] at r2
    exact q I2 H2 v2 (g1.trans g2) r2
def spIsPiece : Sp := fun vs H Q _ => ∃ (I : Hp) (u : V) (p : List (List Nat)) (h m : Nat), vs = [u, vN h, vN m] ∧ Same I H ∧ PicR I u p ∧ p.length ≤ 100 ∧ (∀ c ∈ p, c.length ≤ 100) ∧ m ≤ 100 ∧ Ret I H (fun _ x => x = .bl (pieceOk h m p)) Q
theorem ok_is_piece (T : Top K mg aW) (D : Dn K mg "is_piece" s_is_piece ["picture", "high", "signs"]) (c_has_form : C8.Cal P w K mg base 2 "has_form" spHasForm []) : C8.Cal P w K mg base 3 "is_piece" spIsPiece [] := by
  refine D.cal sc_is_piece (fun vs H Q E h => ?_) (fun f cdv A outer s H vs Q E hr h => ?_)
  · obtain ⟨I, u, p, h, m, rfl, _⟩ := h
    rfl
  · obtain ⟨I, u, p, h, m, rfl, hI, hp, hl, hc, hm, q⟩ := h
    refine ⟨_, (pss_one (ps_ret (C8.pe_c c_has_form hr (by decide) rfl (pa_cons (pv 0) (pa_cons (C8.pe_gc rfl T.LONGEST_PIECE) (pa_cons (pv 1) (pa_cons (pe_op op_cat (pe_listRg rfl (by rfl) T.b_list (prg_1 (by rfl) T.b_range (pv 2))) (pe_lst (pa_cons (C8.pe_gc rfl T.WORN) pa_nil))) pa_nil))))))), ?_⟩
    refine ⟨_, rfl, _, rfl, _, rfl, _, rfl, RgOk.of_le (by omega) (by omega) (by omega) (by omega), fun l nl => ?_⟩
    have g1 := G.newH (o := .lst (rgV 0 (m : Int))) hI nl
    refine ⟨by show 1 ≤ sizeLine; decide, fun l2 n2 => ?_⟩
    have g2 := g1.trans (G.newH (o := .lst [V.int 9]) g1.b n2)
    refine ⟨l, l2, _, _, rfl, rfl, same_new n2 _ _ upd_same, upd_same, sz_le (by rw [rgV_nat]; simp; omega), fun l3 n3 => ?_⟩
    have g3 := g2.trans (G.new (o := .lst (rgV 0 (m : Int) ++ [V.int 9])) g2.b n3)
    refine ⟨_, u, .ref l3, p, List.range m ++ [9], 12, h, rfl, g3.b, PicR.mo _ _ _ _ g3.u hp, ⟨l3, rfl, by rw [upd_same, rgV_nat, List.map_append]; rfl⟩, hl, hc, fun I2 H2 v2 g4 r2 => ?_⟩
    rw [piece_form] at r2
    exact q I2 H2 v2 (g3.trans g4) r2
end
end CR

namespace CR
open PySem PySem.Spec PyProof.Rows L2
/-! ### a picture laid into a ring: the mirror -/
def layFrom : List (List Nat) → Nat → List (List Nat) → Option (List (List Nat))
  | r, _, [] => some r
  | r, k, c :: cs => if cdiff (r.getD (k % r.length) []) c = true then none else layFrom (r.set (k % r.length) (ctog (r.getD (k % r.length) []) c)) (k + 1) cs
def withPic (r p : List (List Nat)) (w i : Nat) : Option (List (List Nat)) := layFrom r i (Mu34.laid w p)
def OptR {B : Type} (S : Hp → V → B → Prop) (I : Hp) (v : V) (o : Option B) : Prop := match o with
  | none => v = .non
  | some b => S I v b
theorem OptR.mo {B : Type} {S : Hp → V → B → Prop} (m : Mo S) : Mo (OptR S) := fun I I' v o s h => by
  cases o with
  | none => exact h
  | some b => exact m _ _ _ _ s h
theorem ctog_len (c d : List Nat) : (ctog c d).length ≤ c.length := by
  unfold ctog
  rw [List.length_map, List.length_zip]
  exact Nat.min_le_left _ _
theorem getD_of {A : Type} {l : List A} {i : Nat} {x d : A} (h : l[i]? = some x) : l.getD i d = x := by
  rw [List.getD_eq_getElem?_getD, h]
  rfl
theorem ixN_nat {n j : Nat} (h : j < n) : ixN n (j : Int) = some j := by
  unfold ixN
  rw [if_pos (by omega), if_pos (by omega), Int.toNat_natCast]
theorem set_mem {A : Type} {l : List A} {i : Nat} {x y : A} (h : y ∈ l.set i x) : y = x ∨ y ∈ l := by
  rcases List.mem_or_eq_of_mem_set h with h | h
  · exact .inr h
  · exact .inl h
section
variable {P : Program} {w : World} {K : PySem.W.Frag} {mg : Str → Option Value} {base : Heap} {aW : Addr}
/-! ### with_picture -/
abbrev s_with_picture : Stmt := top 67
abbrev N_with_picture : List Str := ["ring", "picture", "place", "laid", "step", "column", "at"]
theorem sc_with_picture : FnScope N_with_picture ["ring", "picture", "place"] (defScope s_with_picture) := ⟨rfl, rfl, rfl, by decide +kernel, rfl, by decide +kernel, by decide +kernel⟩
def spWith : Sp := fun vs H Q _ => ∃ (I : Hp) (u v z : V) (r p : List (List Nat)) (k i : Nat), vs = [u, v, z] ∧ Same I H ∧ PicR I u r ∧ PicR I v p ∧ ColR I z [k, i] ∧ k ≤ 1 ∧ 0 < r.length ∧ r.length ≤ 100 ∧ p.length ≤ 100 ∧ (∀ c ∈ r, c.length ≤ 100) ∧ Ret I H (fun J x => OptR PicR J x (withPic r p k i)) Q
theorem ok_with_picture (T : Top K mg aW) (D : Dn K mg "with_picture" s_with_picture ["ring", "picture", "place"]) (c_turned : C8.Cal P w K mg base 1 "turned" spTurned []) (c_columns_differ : C8.Cal P w K mg base 2 "columns_differ" spColumnsDiffer []) (c_columns_together : C8.Cal P w K mg base 1 "columns_together" spColumnsTogether []) :
    C8.Cal P w K mg base 3 "with_picture" spWith [] := by
  refine D.cal sc_with_picture (fun vs H Q E h => ?_) (fun f cdv A outer s H vs Q E hr h => ?_)
  · obtain ⟨I, u, v, z, r, p, k, i, rfl, _⟩ := h
    rfl
  · obtain ⟨I, u, v, z, r, p, k, i, rfl, hI, ⟨a, vr, rfl, ha, hvr⟩, hp, ⟨b, rfl, hb⟩, hk, r0, hrl, hpl, hcl, q⟩ := h
    refine ⟨_, (pss_cons (ps_set (i := 3) sc_with_picture.nd rfl (Or.inl rfl) (pe_callTy call_list_of (by rfl) T.b_list (by decide +kernel) (pa_cons (pv 0) pa_nil)))
        (pss_cons (ps_for PassesOwn.never rfl (pi_enum (by rfl) T.b_enumerate (pa_cons (C8.pe_c c_turned hr (by decide) rfl (pa_cons (pv 1) (pa_cons (pe_ix ix_list (pv 2) pe_int (fun _ _ => rfl)) pa_nil))) pa_nil)) (pg_tup rfl (pgs_cons (pg_name (i := 4) sc_with_picture.nd rfl (Or.inl rfl)) (pgs_cons (pg_name (i := 5) sc_with_picture.nd rfl (Or.inl rfl)) pgs_nil))) (pss_cons (ps_set (i := 6) sc_with_picture.nd rfl (Or.inl rfl) (pe_op op_mod (pe_op op_add (pe_ix ix_list (pv 2) pe_int (fun _ _ => rfl)) (pv 4)) (pe_callB call_len_seq (by rfl) T.b_len PySem.boot_len (pa_cons (pv 3) pa_nil))))
        (pss_cons (ps_if (pt_val (C8.pe_c c_columns_differ hr (by decide) rfl (pa_cons (pe_ix ix_list (pv 3) (pv 6) (fun _ _ => rfl)) (pa_cons (pv 5) pa_nil)))) (pss_one (ps_ret pe_non)) pss_nil)
        (pss_one (ps_asg (C8.pe_c c_columns_together hr (by decide) rfl (pa_cons (pe_ix ix_list (pv 3) (pv 6) (fun _ _ => rfl)) (pa_cons (pv 5) pa_nil))) (pg_sub (pv 3) (pv 6) set_list))))))
        (pss_one (ps_ret (pv 3))))), ?_⟩
    -- laid = list(ring)
    refine ⟨_, rfl, a, _, rfl, .inl (SqL.of (hI _ _ ha)), fun o no => ?_⟩
    have g0 : G I H I (upd H o (.lst vr)) := G.newH hI no
    -- turned(picture, place[0])
    refine ⟨_, rfl, _, rfl, b, _, 0, vN k, rfl, rfl, SqL.of (g0.b _ _ hb), atI_nat (j := 0) rfl, I, v, p, k, rfl, g0.b, hp, by omega, hk, fun I1 H1 v1 g1 r1 => ?_⟩
    obtain ⟨a1, vs1, rfl, ha1, hv1⟩ := r1
    have gg1 := g0.trans g1
    refine ⟨a1, vs1, rfl, SqL.of (g1.b _ _ ha1), ?_⟩
    refine for_it (walk_enum (xs := vs1)) (fun d σ H' => ∃ I' r' vr' y4 y5 y6, σ = [some (.ref a), some v, some (.ref b), some (.ref o), y4, y5, y6] ∧ G I H I' H' ∧ Same I1 I' ∧ I' o = none ∧ H' o = some (.lst vr') ∧ All2 (ColR I') vr' r' ∧ r'.length = r.length ∧ (∀ c ∈ r', c.length ≤ 100) ∧
      withPic r p k i = layFrom r' (i + d) ((Mu34.laid k p).drop d)) ?_ ?_ ?_ ?_
    · exact ⟨I1, r, vr, none, none, none, rfl, gg1, Same.refl _, g1.still (none_of hI no) upd_same, g1.s _ _ upd_same, All2.mo ColR.mo g1.u hvr, rfl, hcl, rfl⟩
    · rintro d σ H' _ ⟨I', r', vr', y4, y5, y6, rfl, g2, u2, _⟩
      exact SqL.of (g2.b _ _ (u2 _ _ ha1))
    · rintro d x σ H2 H2' hd ⟨I2, r2, vr2, y4, y5, y6, rfl, g2, u2, io2, ho2, a2, l2, c2, e2⟩ ⟨t, x1, x2, rfl, nt, rfl, ex1, ex2⟩
      have ex1 : vN d = x1 := Option.some.inj ex1
      subst ex1
      obtain ⟨c, ec, rc⟩ := hv1.get ex2
      have g3 := g2.trans (G.newH (o := .tup [vN d, x2]) g2.b nt)
      have ho3 : upd H2 t (.tup [vN d, x2]) o = some (.lst vr2) := same_new nt _ _ ho2
      have lvr := a2.length
      refine ⟨t, _, rfl, SqT.of upd_same, rfl, _, _, rfl, _, _, rfl, rfl, ?_⟩
      -- at = (place[1] + step) % len(laid)
      refine ⟨_, rfl, b, _, 1, vN i, rfl, rfl, SqL.of (g3.b _ _ (g2.u _ _ hb)), atI_nat (j := 1) rfl, _, rfl, _, _, rfl, rfl, _, rfl, o, vr2, rfl, .inl (SqL.of ho3), _, _, rfl, rfl, by omega, ?_⟩
      obtain ⟨m, em, hm⟩ : ∃ m : Nat, m = (i + d) % r2.length ∧ m < r2.length := ⟨_, rfl, Nat.mod_lt _ (by omega)⟩
      have ei : ((i : Int) + (d : Int)) % (vr2.length : Int) = (m : Int) := by
        rw [lvr, em]
        simp
      show gName 6 (V.int (((i : Int) + (d : Int)) % (vr2.length : Int))) _ _ _
      rw [ei]
      obtain ⟨cr, ecr⟩ : ∃ cr, r2[m]? = some cr := ⟨_, List.getElem?_eq_getElem hm⟩
      obtain ⟨vm, evm, rm⟩ := a2.getR ecr
      have bcr := c2 cr (List.mem_of_getElem? ecr)
      -- columns_differ(laid[at], column)
      refine ⟨_, rfl, _, rfl, o, vr2, (m : Int), vm, rfl, rfl, SqL.of ho3, atI_nat evm, _, rfl, I2, vm, x2, cr, c, rfl, g3.b, rm, ColR.mo _ _ _ _ u2 rc, by omega, fun I4 H4 v4 g4 r4 => ⟨_, r4, ?_⟩⟩
      have ed : (Mu34.laid k p).drop d = c :: (Mu34.laid k p).drop (d + 1) := by
        obtain ⟨hlt, eq⟩ := List.getElem?_eq_some_iff.mp ec
        rw [List.drop_eq_getElem_cons hlt, eq]
      have step : withPic r p k i = if cdiff cr c = true then none else layFrom (r2.set m (ctog cr c)) (i + d + 1) ((Mu34.laid k p).drop (d + 1)) := by
        rw [e2, ed, layFrom, ← em, getD_of ecr]
      have io4 := g4.still io2 ho3
      have ho4 := g4.s _ _ ho3
      refine ite2 (fun e => ?_) (fun e => xFall ?_)
      · refine q I4 H4 _ (g3.trans g4) ?_
        rw [step, if_pos e]
        rfl
      · refine ⟨_, rfl, _, rfl, o, vr2, (m : Int), vm, rfl, rfl, SqL.of ho4, atI_nat evm, _, rfl, I4, vm, x2, cr, c, rfl, g4.b, ColR.mo _ _ _ _ g4.u rm, ColR.mo _ _ _ _ (u2.trans g4.u) rc, by omega, fun I5 H5 v5 g5 r5 => ?_⟩
        have io5 := g5.still io4 ho4
        have ho5 := g5.s _ _ ho4
        refine ⟨_, rfl, _, rfl, o, vr2, (m : Int), m, rfl, rfl, ho5, ixN_nat (by omega), ?_⟩
        refine ⟨I5, r2.set m (ctog cr c), vr2.set m v5, _, _, _, rfl, ((g3.trans g4).trans g5).mut no io5, u2.trans (g4.u.trans g5.u), io5, upd_same, (All2.mo ColR.mo (g4.u.trans g5.u) a2).set r5, ?_, ?_, ?_⟩
        · rw [List.length_set, l2]
        · intro x hx
          rcases set_mem hx with rfl | hx
          · exact Nat.le_trans (ctog_len _ _) bcr
          · exact c2 x hx
        · rw [step, if_neg e]
          rfl
    · rintro σ H2 ⟨I2, r2, vr2, y4, y5, y6, rfl, g2, u2, io2, ho2, a2, l2, c2, e2⟩
      refine ⟨_, rfl, q _ _ _ (g2.pub no ho2 hI) ?_⟩
      rw [hv1.length, List.drop_length] at e2
      rw [e2]
      exact ⟨o, vr2, rfl, upd_same, All2.mo ColR.mo (same_new io2) a2⟩
end
end CR

namespace CR
open PySem PySem.Spec PyProof.Rows L2
/-! ### agreeing: the mirror -/
def agrAt (p r : List (List Nat)) (k i d : Nat) : Bool := !cdiff ((Mu34.laid k p).getD d []) (r.getD ((i + d) % r.length) [])
def agr (p r : List (List Nat)) (k i : Nat) : Bool := (List.range p.length).all fun d => agrAt p r k i d
theorem all_false {n : Nat} {f : Nat → Bool} {d : Nat} (h : d < n) (e : f d = false) : (List.range n).all f = false := by
  rw [Bool.eq_false_iff]
  intro z
  rw [List.all_eq_true] at z
  rw [z d (List.mem_range.mpr h)] at e
  cases e
theorem all_true {n : Nat} {f : Nat → Bool} (h : ∀ d, d < n → f d = true) : (List.range n).all f = true := by
  rw [List.all_eq_true]
  exact fun d hd => h d (List.mem_range.mp hd)
/-- everything that is new stands still from now on -/
theorem G.pubAll {I H H2 : Hp} (hI : Same I H) (hs : Same H H2) : G I H (fun x => if H x = none then H2 x else I x) H2 := by
  have key : ∀ a o, I a = some o → H a ≠ none := fun a o e z => by
    rw [hI a o e] at z
    cases z
  refine ⟨hs, fun a o e => ?_, fun a o e => ?_, fun a e n => ?_⟩
  · show (if H a = none then H2 a else I a) = some o
    rw [if_neg (key a o e)]
    exact e
  · have e : (if H a = none then H2 a else I a) = some o := e
    by_cases z : H a = none
    · rw [if_pos z] at e
      exact e
    · rw [if_neg z] at e
      exact hs a o (hI a o e)
  · show (if H a = none then H2 a else I a) = none
    rw [if_neg n]
    exact e
theorem mem_places {n : Nat} {x : List Nat} (h : x ∈ places n) : ∃ k j, x = [k, j] ∧ k ≤ 1 ∧ j < n := by
  have h : x ∈ ([0, 1].flatMap fun k => (List.range n).map fun j => [k, j]) := h
  rw [List.mem_flatMap] at h
  obtain ⟨k, hk, hx⟩ := h
  rw [List.mem_map] at hx
  obtain ⟨j, hj, rfl⟩ := hx
  refine ⟨k, j, rfl, ?_, List.mem_range.mp hj⟩
  rcases List.mem_cons.mp hk with rfl | hk
  · exact Nat.zero_le _
  · rw [List.mem_singleton.mp hk]
    exact Nat.le_refl _
section
variable {P : Program} {w : World} {K : PySem.W.Frag} {mg : Str → Option Value} {base : Heap} {aW : Addr}
/-! ### agrees -/
abbrev s_agrees : Stmt := top 44
abbrev N_agrees : List Str := ["picture", "ring", "place", "told", "step", "column"]
theorem sc_agrees : FnScope N_agrees ["picture", "ring", "place"] (defScope s_agrees) := ⟨rfl, rfl, rfl, by decide +kernel, rfl, by decide +kernel, by decide +kernel⟩
def spAgrees : Sp := fun vs H Q _ => ∃ (I : Hp) (u v z : V) (p r : List (List Nat)) (k i : Nat), vs = [u, v, z] ∧ Same I H ∧ PicR I u p ∧ PicR I v r ∧ ColR I z [k, i] ∧ k ≤ 1 ∧ 0 < r.length ∧ p.length ≤ 100 ∧ (∀ c ∈ p, c.length ≤ 100) ∧ Ret I H (fun _ x => x = .bl (agr p r k i)) Q
theorem laid_mem {k : Nat} {p : List (List Nat)} {n : Nat} (h : ∀ c ∈ p, c.length ≤ n) : ∀ c ∈ Mu34.laid k p, c.length ≤ n := by
  unfold Mu34.laid
  split
  · intro c hc
    unfold Mu34.over at hc
    rw [List.mem_map] at hc
    obtain ⟨d, hd, rfl⟩ := hc
    rw [List.length_reverse]
    exact h d (List.mem_reverse.mp hd)
  · exact h
theorem ok_agrees (T : Top K mg aW) (D : Dn K mg "agrees" s_agrees ["picture", "ring", "place"]) (c_turned : C8.Cal P w K mg base 1 "turned" spTurned []) (c_columns_differ : C8.Cal P w K mg base 2 "columns_differ" spColumnsDiffer []) :
    C8.Cal P w K mg base 3 "agrees" spAgrees [] := by
  refine D.cal sc_agrees (fun vs H Q E h => ?_) (fun f cdv A outer s H vs Q E hr h => ?_)
  · obtain ⟨I, u, v, z, p, r, k, i, rfl, _⟩ := h
    rfl
  · obtain ⟨I, u, v, z, p, r, k, i, rfl, hI, hp, ⟨a, vr, rfl, ha, hvr⟩, ⟨b, rfl, hb⟩, hk, r0, hpl, hcl, q⟩ := h
    refine ⟨_, (pss_cons (ps_set (i := 3) sc_agrees.nd rfl (Or.inl rfl) (C8.pe_c c_turned hr (by decide) rfl (pa_cons (pv 0) (pa_cons (pe_ix ix_list (pv 2) pe_int (fun _ _ => rfl)) pa_nil))))
        (pss_cons (ps_for PassesOwn.never rfl (pi_enum (by rfl) T.b_enumerate (pa_cons (pv 3) pa_nil)) (pg_tup rfl (pgs_cons (pg_name (i := 4) sc_agrees.nd rfl (Or.inl rfl)) (pgs_cons (pg_name (i := 5) sc_agrees.nd rfl (Or.inl rfl)) pgs_nil))) (pss_one (ps_if (pt_val (C8.pe_c c_columns_differ hr (by decide) rfl (pa_cons (pv 5) (pa_cons (pe_ix ix_list (pv 1) (pe_op op_mod (pe_op op_add (pe_ix ix_list (pv 2) pe_int (fun _ _ => rfl)) (pv 4)) (pe_callB call_len_seq (by rfl) T.b_len PySem.boot_len (pa_cons (pv 1) pa_nil))) (fun _ _ => rfl)) pa_nil)))) (pss_one (ps_ret pe_bl)) pss_nil)))
        (pss_one (ps_ret pe_bl)))), ?_⟩
    refine ⟨_, rfl, _, rfl, b, _, 0, vN k, rfl, rfl, SqL.of (hI _ _ hb), atI_nat (j := 0) rfl, I, u, p, k, rfl, hI, hp, by omega, hk, fun I1 H1 v1 g1 r1 => ?_⟩
    obtain ⟨a1, vs1, rfl, ha1, hv1⟩ := r1
    have lv1 := hv1.length
    rw [laid_len] at lv1
    have lvr := hvr.length
    refine ⟨_, rfl, a1, vs1, rfl, SqL.of (g1.b _ _ ha1), ?_⟩
    refine for_it (walk_enum (xs := vs1)) (fun d σ H' => ∃ I' y4 y5, σ = [some u, some (.ref a), some (.ref b), some (.ref a1), y4, y5] ∧ G I H I' H' ∧ Same I1 I' ∧ ∀ e, e < d → agrAt p r k i e = true) ?_ ?_ ?_ ?_
    · exact ⟨I1, none, none, rfl, g1, Same.refl _, fun e he => absurd he (Nat.not_lt_zero _)⟩
    · rintro d σ H' _ ⟨I', y4, y5, rfl, g2, u2, _⟩
      exact SqL.of (g2.b _ _ (u2 _ _ ha1))
    · rintro d x σ H2 H2' hd ⟨I2, y4, y5, rfl, g2, u2, e2⟩ ⟨t, x1, x2, rfl, nt, rfl, ex1, ex2⟩
      have ex1 : vN d = x1 := Option.some.inj ex1
      subst ex1
      obtain ⟨c, ec, rc⟩ := hv1.get ex2
      have g3 := g2.trans (G.newH (o := .tup [vN d, x2]) g2.b nt)
      have ha3 := g3.b _ _ (g2.u _ _ ha)
      refine ⟨t, _, rfl, SqT.of upd_same, rfl, _, _, rfl, _, _, rfl, rfl, ?_⟩
      obtain ⟨m, em, hm⟩ : ∃ m : Nat, m = (i + d) % r.length ∧ m < r.length := ⟨_, rfl, Nat.mod_lt _ r0⟩
      have ei : ((i : Int) + (d : Int)) % (vr.length : Int) = (m : Int) := by
        rw [lvr, em]
        simp
      obtain ⟨cr, ecr⟩ : ∃ cr, r[m]? = some cr := ⟨_, List.getElem?_eq_getElem hm⟩
      obtain ⟨vm, evm, rm⟩ := hvr.getR ecr
      have bc := laid_mem (k := k) hcl c (List.mem_of_getElem? ec)
      refine ⟨_, rfl, _, rfl, _, rfl, b, _, 1, vN i, rfl, rfl, SqL.of (g3.b _ _ (g2.u _ _ hb)), atI_nat (j := 1) rfl, _, rfl, _, _, rfl, rfl, _, rfl, a, vr, rfl, .inl (SqL.of ha3), _, _, rfl, rfl, by omega, a, vr, (m : Int), vm, rfl, ?_, SqL.of ha3, atI_nat evm, ?_⟩
      · show V.int (((i : Int) + (d : Int)) % (vr.length : Int)) = V.int (m : Int)
        rw [ei]
      · refine ⟨I2, x2, vm, c, cr, rfl, g3.b, ColR.mo _ _ _ _ u2 rc, ColR.mo _ _ _ _ g2.u rm, by omega, fun I4 H4 v4 g4 r4 => ⟨_, r4, ?_⟩⟩
        have ea : agrAt p r k i d = !cdiff c cr := by
          unfold agrAt
          rw [getD_of ec, ← em, getD_of ecr]
        have hdp : d < p.length := by omega
        refine ite2 (fun e => ?_) (fun e => ?_)
        · refine q I4 H4 _ (g3.trans g4) ?_
          unfold agr
          rw [all_false hdp (by rw [ea, e]; rfl)]
        · refine ⟨I4, _, _, rfl, g3.trans g4, u2.trans g4.u, fun x hx => ?_⟩
          by_cases hxd : x = d
          · subst hxd
            rw [ea, show cdiff c cr = false by simpa using e]
            rfl
          · exact e2 x (by omega)
    · rintro σ H2 ⟨I2, y4, y5, rfl, g2, u2, e2⟩
      refine q _ _ _ g2 ?_
      unfold agr
      rw [all_true (fun d hd => e2 d (by omega))]

/-! ### agreements -/
abbrev s_agreements : Stmt := top 45
abbrev N_agreements : List Str := ["picture", "ring", "place"]
theorem sc_agreements : FnScope N_agreements ["picture", "ring"] (defScope s_agreements) := ⟨rfl, rfl, rfl, by decide +kernel, rfl, by decide +kernel, by decide +kernel⟩
def agrs (p r : List (List Nat)) : List (List Nat) := (places r.length).filter fun x => agr p r (x.getD 0 0) (x.getD 1 0)
theorem fm_filter {A : Type} (f : A → Bool) (l : List A) : (l.map fun x => if f x = true then some x else none).filterMap id = l.filter f := by
  induction l with
  | nil => rfl
  | cons a l ih =>
    rw [List.map_cons, List.filter_cons]
    cases h : f a
    · simp [ih]
    · simp [ih]
def spAgreements : Sp := fun vs H Q _ => ∃ (I : Hp) (u v : V) (p r : List (List Nat)), vs = [u, v] ∧ Same I H ∧ PicR I u p ∧ PicR I v r ∧ 0 < r.length ∧ r.length ≤ 100 ∧ p.length ≤ 100 ∧ (∀ c ∈ p, c.length ≤ 100) ∧ Ret I H (fun J x => PicR J x (agrs p r)) Q
theorem ok_agreements (T : Top K mg aW) (D : Dn K mg "agreements" s_agreements ["picture", "ring"]) (c_agrees : C8.Cal P w K mg base 3 "agrees" spAgrees []) (c_places : C8.Cal P w K mg base 1 "places" spPlaces []) :
    C8.Cal P w K mg base 4 "agreements" spAgreements [] := by
  refine D.cal sc_agreements (fun vs H Q E h => ?_) (fun f cdv A outer s H vs Q E hr h => ?_)
  · obtain ⟨I, u, v, p, r, rfl, _⟩ := h
    rfl
  · obtain ⟨I, u, v, p, r, rfl, hI, hp, hr', r0, hrl, hpl, hcl, q⟩ := h
    obtain ⟨a, vr, rfl, ha, hvr⟩ := id hr'
    refine ⟨_, (pss_one (ps_ret (pe_lc (own := [("place", 2)]) (g := (gName 2)) (tt := _) (te := (tVar 2)) rfl sc_agreements.nd (pi_list (C8.pe_c c_places hr (by decide) rfl (pa_cons (pe_callB call_len_seq (by rfl) T.b_len PySem.boot_len (pa_cons (pv 1) pa_nil)) pa_nil))) (blkOk_by (own := [("place", 2)]) (N := N_agreements) (sc := defScope s_agreements) (by decide +kernel)) (fun _ _ _ _ _ => (pg_name (i := 2) sc_agreements.nd rfl (Or.inl rfl))) (fun _ _ _ _ _ => (pts_one (pt_val (C8.pe_c c_agrees hr (by decide) rfl (pa_cons (pv 0) (pa_cons (pv 1) (pa_cons (pv 2) pa_nil))))))) (fun _ _ _ _ _ => (pv 2))))), ?_⟩
    refine xRet (tLc_of ?_)
    have lvr := hvr.length
    refine ⟨_, rfl, a, vr, rfl, .inl (SqL.of (hI _ _ ha)), I, r.length, by rw [lvr]; rfl, hI, by omega, fun I1 H1 v1 g1 r1 => ?_⟩
    obtain ⟨a1, vs1, rfl, ha1, hv1⟩ := r1
    have lv1 := hv1.length
    have lpl := placesTo_len r.length 2
    refine ⟨a1, rfl, ⟨_, SqL.of (g1.b _ _ ha1)⟩, ?_⟩
    refine lc_all (I := I1) (walk_list (xs := vs1)) ColR.mo ((places r.length).map fun x => if agr p r (x.getD 0 0) (x.getD 1 0) = true then some x else none) (by rw [List.length_map, lv1]) (by rw [lv1]; unfold places; omega) g1.b (fun H' s => SqL.of (s _ _ (g1.b _ _ ha1))) ?_ ?_
    · rintro d x I2 H2 H2' Nx Nn hd g2 ⟨rfl, hx⟩ kx kn
      obtain ⟨pl, epl, rpl⟩ := hv1.get hx
      obtain ⟨k, j, rfl, hk, hj⟩ := mem_places (List.mem_of_getElem? epl)
      have s2 := g1.u.trans g2.u
      refine ⟨rfl, ?_⟩
      refine ⟨_, rfl, _, rfl, _, rfl, I2, u, .ref a, x, p, r, k, j, rfl, g2.b, PicR.mo _ _ _ _ s2 hp, PicR.mo _ _ _ _ s2 hr', ColR.mo _ _ _ _ g2.u rpl, hk, r0, hpl, hcl, fun I3 H3 v3 g3 r3 => ⟨_, r3, ?_⟩⟩
      have ez : ((places r.length).map fun x => if agr p r (x.getD 0 0) (x.getD 1 0) = true then some x else none)[d]? = some (if agr p r k j = true then some [k, j] else none) := by
        rw [List.getElem?_map, epl]
        rfl
      refine ite2 (fun e => ⟨_, rfl, ?_⟩) (fun e => ?_)
      · rw [if_pos e] at ez
        exact kx I3 H3 _ _ ez g3 (ColR.mo _ _ _ _ (g2.u.trans g3.u) rpl)
      · rw [if_neg e] at ez
        exact kn ez I3 H3 g3
    · intro D I' H' ys g2 hD ha
      rw [fm_filter] at ha
      exact q I' H' _ (g1.trans g2) ⟨D, ys, rfl, hD, ha⟩

/-! ### spread -/
abbrev s_spread : Stmt := top 47
abbrev N_spread : List Str := ["picture", "start", "width", "high", "end"]
theorem sc_spread : FnScope N_spread ["picture", "start", "width", "high"] (defScope s_spread) := ⟨rfl, rfl, rfl, by decide +kernel, rfl, by decide +kernel, by decide +kernel⟩
def spreadP (p : List (List Nat)) (s wd h : Nat) : List (List Nat) := worn s h ++ p ++ worn (wd - (s + p.length)) h
def spSpread : Sp := fun vs H Q _ => ∃ (I : Hp) (u : V) (p : List (List Nat)) (s wd h : Nat), vs = [u, vN s, vN wd, vN h] ∧ Same I H ∧ PicR I u p ∧ s + p.length ≤ wd ∧ wd ≤ 100 ∧ h ≤ 100 ∧ Ret I H (fun J x => PicR J x (spreadP p s wd h)) Q
theorem ok_spread (T : Top K mg aW) (D : Dn K mg "spread" s_spread ["picture", "start", "width", "high"]) (c_worn_picture : C8.Cal P w K mg base 1 "worn_picture" spWorn []) : C8.Cal P w K mg base 2 "spread" spSpread [] := by
  refine D.cal sc_spread (fun vs H Q E h => ?_) (fun f cdv A outer s H vs Q E hr h => ?_)
  · obtain ⟨I, u, p, s, wd, h, rfl, _⟩ := h
    rfl
  · obtain ⟨I, u, p, s, wd, h, rfl, hI, ⟨a, vp, rfl, ha, hvp⟩, hs, hw, hh, q⟩ := h
    refine ⟨_, (pss_cons (ps_set (i := 4) sc_spread.nd rfl (Or.inl rfl) (pe_op op_add (pv 1) (pe_callB call_len_seq (by rfl) T.b_len PySem.boot_len (pa_cons (pv 0) pa_nil))))
        (pss_one (ps_ret (pe_op op_cat (pe_op op_cat (C8.pe_c c_worn_picture hr (by decide) rfl (pa_cons (pv 1) (pa_cons (pv 3) pa_nil))) (pv 0)) (C8.pe_c c_worn_picture hr (by decide) rfl (pa_cons (pe_op op_sub (pv 2) (pv 4)) (pa_cons (pv 3) pa_nil))))))), ?_⟩
    have lvp := hvp.length
    refine ⟨_, rfl, _, rfl, a, vp, rfl, .inl (SqL.of (hI _ _ ha)), _, _, rfl, rfl, ?_⟩
    refine ⟨_, rfl, _, rfl, I, s, h, rfl, hI, by omega, by omega, fun I1 H1 v1 g1 r1 => ?_⟩
    obtain ⟨a1, vs1, rfl, ha1, hv1⟩ := r1
    have l1 := hv1.length
    have ha' := g1.b _ _ (g1.u _ _ ha)
    refine ⟨_, rfl, a1, a, vs1, vp, rfl, rfl, g1.b _ _ ha1, ha', sz_le ?_, fun p2 n2 => ?_⟩
    · rw [l1, lvp, worn, List.length_replicate]
      omega
    · have g2 := g1.trans (G.newH (o := .lst (vs1 ++ vp)) g1.b n2)
      have e0 : (wd : Int) - ((s : Int) + (vp.length : Int)) = ((wd - (s + p.length) : Nat) : Int) := by omega
      refine ⟨_, rfl, _, rfl, _, _, rfl, rfl, _, rfl, I1, wd - (s + p.length), h, ?_, g2.b, by omega, by omega, fun I3 H3 v3 g3 r3 => ?_⟩
      · show [V.int ((wd : Int) - ((s : Int) + (vp.length : Int))), _] = _
        rw [e0]
      · obtain ⟨a3, vs3, rfl, ha3, hv3⟩ := r3
        have l3 := hv3.length
        refine ⟨p2, a3, _, _, rfl, rfl, g3.s _ _ upd_same, g3.b _ _ ha3, sz_le ?_, fun p4 n4 => ?_⟩
        · rw [List.length_append, l1, l3, lvp, worn, worn, List.length_replicate, List.length_replicate]
          omega
        · have g4 := (g2.trans g3).trans (G.new (o := .lst (vs1 ++ vp ++ vs3)) g3.b n4)
          refine q _ _ _ g4 ⟨p4, _, rfl, upd_same, ?_⟩
          have s3 := g3.u.trans (same_new (o := .lst (vs1 ++ vp ++ vs3)) (none_of g3.b n4))
          exact ((All2.mo ColR.mo s3 hv1).append (All2.mo ColR.mo (g1.u.trans s3) hvp)).append (All2.mo ColR.mo (same_new (none_of g3.b n4)) hv3)
end
end CR

namespace CR
open PySem PySem.Spec PyProof.Rows L2
/-! ### the first place of two numbers -/
def FirstAt (n : Nat) (m : Nat → Nat) (f : Nat → Nat → Bool) : Option (Nat × Nat) → Prop
  | none => ∀ d j, d < n → j < m d → f d j = false
  | some (d, j) => d < n ∧ j < m d ∧ f d j = true ∧ ∀ d' j', d' < n → j' < m d' → (d' < d ∨ (d' = d ∧ j' < j)) → f d' j' = false
def grid (n : Nat) (m : Nat → Nat) : List (Nat × Nat) := (List.range n).flatMap fun d => (List.range (m d)).map fun j => (d, j)
theorem grid_succ (n : Nat) (m : Nat → Nat) : grid (n + 1) m = grid n m ++ (List.range (m n)).map fun j => (n, j) := by
  unfold grid
  rw [List.range_succ, List.flatMap_append]
  simp
theorem row_none {f : Nat → Nat → Bool} {d : Nat} : ∀ k, (∀ j, j < k → f d j = false) → ((List.range k).map fun j => (d, j)).find? (fun x => f x.1 x.2) = none := by
  intro k h
  rw [List.find?_eq_none]
  intro x hx
  rw [List.mem_map] at hx
  obtain ⟨j, hj, rfl⟩ := hx
  rw [h j (List.mem_range.mp hj)]
  exact Bool.false_ne_true
theorem row_some {f : Nat → Nat → Bool} {d j : Nat} (hf : f d j = true) (hm : ∀ j', j' < j → f d j' = false) : ∀ k, j < k → ((List.range k).map fun j => (d, j)).find? (fun x => f x.1 x.2) = some (d, j)
  | 0, h => absurd h (Nat.not_lt_zero _)
  | k + 1, h => by
    rw [List.range_succ, List.map_append, List.find?_append]
    by_cases e : j < k
    · rw [row_some hf hm k e]
      rfl
    · have e : j = k := by omega
      subst e
      rw [row_none j hm]
      rw [Option.none_or, List.map_cons, List.find?_cons_of_pos (by exact hf)]
theorem grid_none {m : Nat → Nat} {f : Nat → Nat → Bool} : ∀ n, (∀ d j, d < n → j < m d → f d j = false) → (grid n m).find? (fun x => f x.1 x.2) = none
  | 0, _ => rfl
  | n + 1, h => by
    rw [grid_succ, List.find?_append, grid_none n (fun d j hd hj => h d j (by omega) hj), row_none (m n) (fun j hj => h n j (by omega) hj)]
    rfl
theorem grid_find {m : Nat → Nat} {f : Nat → Nat → Bool} : ∀ (n : Nat) (o : Option (Nat × Nat)), FirstAt n m f o → (grid n m).find? (fun x => f x.1 x.2) = o
  | n, none, h => grid_none n h
  | 0, some (d, j), h => absurd h.1 (Nat.not_lt_zero _)
  | n + 1, some (d, j), ⟨h1, h2, h3, h4⟩ => by
    rw [grid_succ, List.find?_append]
    by_cases e : d < n
    · rw [grid_find n (some (d, j)) ⟨e, h2, h3, fun d' j' a b c => h4 d' j' (by omega) b c⟩]
      rfl
    · have e : d = n := by omega
      subst e
      rw [grid_none d (fun d' j' a b => h4 d' j' (by omega) b (.inl a)), row_some h3 (fun j' hj => h4 d j' h1 (by omega) (.inr ⟨rfl, hj⟩)) (m d) h2]
      rfl
/-- where two pictures differ first -/
def diffAt (p q : List (List Nat)) (d j : Nat) : Bool := diff ((p.getD d []).getD j 0) ((q.getD d []).getD j 0)
def fdiff (p q : List (List Nat)) : Option (Nat × Nat) := (grid p.length fun d => (p.getD d []).length).find? fun x => diffAt p q x.1 x.2
def pairL : Option (Nat × Nat) → List Nat
  | none => []
  | some (d, j) => [d, j]
section
variable {P : Program} {w : World} {K : PySem.W.Frag} {mg : Str → Option Value} {base : Heap} {aW : Addr}
/-! ### first_difference -/
abbrev s_first_difference : Stmt := top 48
abbrev N_first_difference : List Str := ["picture", "other", "column", "cells", "cell", "sign"]
theorem sc_first_difference : FnScope N_first_difference ["picture", "other"] (defScope s_first_difference) := ⟨rfl, rfl, rfl, by decide +kernel, rfl, by decide +kernel, by decide +kernel⟩
def spFirst : Sp := fun vs H Q _ => ∃ (I : Hp) (u v : V) (p q : List (List Nat)), vs = [u, v] ∧ Same I H ∧ PicR I u p ∧ PicR I v q ∧ p.length = q.length ∧ (∀ d, d < p.length → (p.getD d []).length = (q.getD d []).length) ∧ Ret I H (fun J x => ColR J x (pairL (fdiff p q))) Q
theorem ok_first_difference (T : Top K mg aW) (D : Dn K mg "first_difference" s_first_difference ["picture", "other"]) (c_cells_differ : C8.Cal P w K mg base 1 "cells_differ" spCellsDiffer []) : C8.Cal P w K mg base 2 "first_difference" spFirst [] := by
  refine D.cal sc_first_difference (fun vs H Q E h => ?_) (fun f cdv A outer s H vs Q E hr h => ?_)
  · obtain ⟨I, u, v, p, q, rfl, _⟩ := h
    rfl
  · obtain ⟨I, u, v, p, q, rfl, hI, ⟨a, vp, rfl, ha, hvp⟩, ⟨b, vq, rfl, hb, hvq⟩, hl, hc, k⟩ := h
    refine ⟨_, (pss_cons (ps_for PassesOwn.never rfl (pi_enum (by rfl) T.b_enumerate (pa_cons (pv 0) pa_nil)) (pg_tup rfl (pgs_cons (pg_name (i := 2) sc_first_difference.nd rfl (Or.inl rfl)) (pgs_cons (pg_name (i := 3) sc_first_difference.nd rfl (Or.inl rfl)) pgs_nil))) (pss_one (ps_for PassesOwn.never rfl (pi_enum (by rfl) T.b_enumerate (pa_cons (pv 3) pa_nil)) (pg_tup rfl (pgs_cons (pg_name (i := 4) sc_first_difference.nd rfl (Or.inl rfl)) (pgs_cons (pg_name (i := 5) sc_first_difference.nd rfl (Or.inl rfl)) pgs_nil))) (pss_one (ps_if (pt_val (C8.pe_c c_cells_differ hr (by decide) rfl (pa_cons (pv 5) (pa_cons (pe_ix ix_list (pe_ix ix_list (pv 1) (pv 2) (fun _ _ => rfl)) (pv 4) (fun _ _ => rfl)) pa_nil)))) (pss_one (ps_ret (pe_lst (pa_cons (pv 2) (pa_cons (pv 4) pa_nil))))) pss_nil)))))
        (pss_one (ps_ret (pe_lst pa_nil)))), ?_⟩
    have lp := hvp.length
    have lq := hvq.length
    have ha' := hI _ _ ha
    have hb' := hI _ _ hb
    refine ⟨_, rfl, a, vp, rfl, SqL.of ha', ?_⟩
    refine for_it (walk_enum (xs := vp)) (fun d σ H' => ∃ y2 y3 y4 y5, σ = [some (.ref a), some (.ref b), y2, y3, y4, y5] ∧ Same H H' ∧ ∀ d' j', d' < d → j' < (p.getD d' []).length → diffAt p q d' j' = false) ?_ ?_ ?_ ?_
    · exact ⟨none, none, none, none, rfl, Same.refl _, fun d' _ h => absurd h (Nat.not_lt_zero _)⟩
    · rintro d σ H' _ ⟨y2, y3, y4, y5, rfl, s1, _⟩
      exact SqL.of (s1 _ _ ha')
    · rintro d x σ H2 H2' hd ⟨y2, y3, y4, y5, rfl, s1, e1⟩ ⟨t, x1, x2, rfl, nt, rfl, ex1, ex2⟩
      have ex1 : vN d = x1 := Option.some.inj ex1
      subst ex1
      obtain ⟨c, ec, ⟨ac, rfl, hac⟩⟩ := hvp.get ex2
      obtain ⟨c', ec'⟩ : ∃ c', q[d]? = some c' := ⟨_, List.getElem?_eq_getElem (by omega)⟩
      obtain ⟨vd, evd, ⟨ad, rfl, had⟩⟩ := hvq.getR ec'
      have lc : c.length = c'.length := by
        have := hc d (by omega)
        rw [getD_of ec, getD_of ec'] at this
        exact this
      have s2 := s1.trans (same_new (o := .tup [vN d, .ref ac]) nt)
      refine ⟨t, _, rfl, SqT.of upd_same, rfl, _, _, rfl, _, _, rfl, rfl, ?_⟩
      refine ⟨_, rfl, ac, c.map vN, rfl, SqL.of (s2 _ _ (hI _ _ hac)), ?_⟩
      refine for_it (walk_enum (xs := c.map vN)) (fun j σ H' => ∃ y4 y5, σ = [some (.ref a), some (.ref b), some (vN d), some (.ref ac), y4, y5] ∧ Same H H' ∧ ∀ j', j' < j → diffAt p q d j' = false) ?_ ?_ ?_ ?_
      · exact ⟨_, _, rfl, s2, fun j' h => absurd h (Nat.not_lt_zero _)⟩
      · rintro j σ H' _ ⟨y4, y5, rfl, s3, _⟩
        exact SqL.of (s3 _ _ (hI _ _ hac))
      · rintro j x σ H3 H3' hj ⟨y4, y5, rfl, s3, e3⟩ ⟨t2, z1, z2, rfl, nt2, rfl, ez1, ez2⟩
        have ez1 : vN j = z1 := Option.some.inj ez1
        subst ez1
        obtain ⟨n, en, rfl⟩ := map_get ez2
        have hjc : j < c.length := by simpa using hj
        obtain ⟨n', en'⟩ : ∃ n', c'[j]? = some n' := ⟨_, List.getElem?_eq_getElem (by omega)⟩
        have s4 := s3.trans (same_new (o := .tup [vN j, vN n]) nt2)
        refine ⟨t2, _, rfl, SqT.of upd_same, rfl, _, _, rfl, _, _, rfl, rfl, ?_⟩
        refine ⟨_, rfl, _, rfl, _, rfl, b, vq, (d : Int), _, rfl, rfl, SqL.of (s4 _ _ hb'), atI_nat evd, _, rfl, ad, c'.map vN, (j : Int), vN n', rfl, rfl, SqL.of (s4 _ _ (hI _ _ had)), atI_nat (by rw [List.getElem?_map, en']; rfl), n, n', rfl, _, rfl, ?_⟩
        have ed : diffAt p q d j = diff n n' := by
          unfold diffAt
          rw [getD_of ec, getD_of ec', getD_of en, getD_of en']
        refine ite2 (fun e => ?_) (fun e => ⟨_, _, rfl, s4, fun j' hj' => ?_⟩)
        · refine ⟨_, rfl, _, rfl, by show 2 ≤ sizeLine; decide, fun l nl => ?_⟩
          have eF : fdiff p q = some (d, j) := grid_find (f := diffAt p q) p.length (some (d, j)) ⟨by omega, by show j < (p.getD d []).length; rw [getD_of ec]; exact hjc, by rw [ed]; exact e, fun d' j' a b c => by
            rcases c with c | ⟨rfl, c⟩
            · exact e1 d' j' c b
            · exact e3 j' c⟩
          refine k _ _ _ (G.pubAll hI (s4.trans (same_new nl))) ⟨l, rfl, ?_⟩
          show (if H l = none then _ else _) = _
          rw [if_pos (s4.free nl), upd_same, eF]
          rfl
        · by_cases z : j' = j
          · subst z
            rw [ed]
            simpa using e
          · exact e3 j' (by omega)
      · rintro σ H3 ⟨y4, y5, rfl, s3, e3⟩
        refine ⟨_, _, _, _, rfl, s3, fun d' j' hd' hj' => ?_⟩
        by_cases z : d' = d
        · subst z
          rw [getD_of ec] at hj'
          exact e3 j' (by rw [List.length_map]; exact hj')
        · exact e1 d' j' (by omega) hj'
    · rintro σ H2 ⟨y2, y3, y4, y5, rfl, s1, e1⟩
      refine ⟨Nat.zero_le _, fun l nl => ?_⟩
      have eF : fdiff p q = none := grid_find (f := diffAt p q) p.length none (fun d j hd hj => e1 d j (by omega) hj)
      refine k _ _ _ (G.pubAll hI (s1.trans (same_new nl))) ⟨l, rfl, ?_⟩
      show (if H l = none then _ else _) = _
      rw [if_pos (s1.free nl), upd_same, eF]
      rfl

/-! ### recut -/
abbrev s_recut : Stmt := top 84
abbrev N_recut : List Str := ["ring", "column", "cell", "sign", "copied", "told"]
theorem sc_recut : FnScope N_recut ["ring", "column", "cell", "sign"] (defScope s_recut) := ⟨rfl, rfl, rfl, by decide +kernel, rfl, by decide +kernel, by decide +kernel⟩
def spRecut : Sp := fun vs H Q _ => ∃ (I : Hp) (u : V) (p : List (List Nat)) (i j z : Nat), vs = [u, vN i, vN j, vN z] ∧ Same I H ∧ PicR I u p ∧ p.length ≤ 100 ∧ i < p.length ∧ j < (p.getD i []).length ∧ Ret I H (fun J x => PicR J x (Mu34.marked p i j z)) Q
theorem all2_of_get {A B : Type} {R : A → B → Prop} : ∀ {l : List A} {r : List B}, l.length = r.length → (∀ (i : Nat) (a : A) (b : B), l[i]? = some a → r[i]? = some b → R a b) → All2 R l r
  | [], [], _, _ => .nil
  | [], _ :: _, h, _ => by cases h
  | _ :: _, [], h, _ => by cases h
  | a :: l, b :: r, h, f => .cons (f 0 a b rfl rfl) (all2_of_get (by simpa using h) fun i a b x y => f (i + 1) a b x y)
theorem ok_recut (T : Top K mg aW) (D : Dn K mg "recut" s_recut ["ring", "column", "cell", "sign"]) : C8.Cal P w K mg base 1 "recut" spRecut [] := by
  refine D.cal sc_recut (fun vs H Q E h => ?_) (fun f cdv A outer s H vs Q E hr h => ?_)
  · obtain ⟨I, u, p, i, j, z, rfl, _⟩ := h
    rfl
  · obtain ⟨I, u, p, i, j, z, rfl, hI, ⟨a, vp, rfl, ha, hvp⟩, hpl, hi, hj, q⟩ := h
    refine ⟨_, (pss_cons (ps_setLc (i := 4) (own := [("told", 5)]) (g := (gName 5)) (tt := tYes) (te := (tCB (Evl.rListS K) (tCons (tVar 5) tNil))) rfl sc_recut.nd rfl rfl (sw_true rfl rfl rfl (by decide +kernel)) (pi_list (pv 0)) (blkOk_by (own := [("told", 5)]) (N := N_recut) (sc := defScope s_recut) (by decide +kernel)) (fun _ _ _ _ _ => (pg_name (i := 5) sc_recut.nd rfl (Or.inl rfl))) (fun _ _ _ _ _ => pts_nil) (fun _ _ _ _ _ => (pe_callTy call_list_of (by rfl) T.b_list (by decide +kernel) (pa_cons (pv 5) pa_nil))))
        (pss_cons (ps_asg (pv 3) (pg_sub (pe_ix ix_list (pv 4) (pv 1) (fun _ _ => rfl)) (pv 2) set_list))
        (pss_one (ps_ret (pv 4))))), ?_⟩
    have lp := hvp.length
    have ha' := hI _ _ ha
    refine xSeq (xAsg (tLc_of ?_))
    refine ⟨_, rfl, a, rfl, ⟨_, SqL.of ha'⟩, fun D nD => ?_⟩
    refine lc_it (walk_list (xs := vp)) (fun n H' => ∃ bs : List Addr, Same H H' ∧ H' D = some (.lst (bs.map V.ref)) ∧ bs.length = n ∧ bs.Nodup ∧ (∀ b ∈ bs, H b = none ∧ b ≠ D ∧ H' b ≠ none) ∧ ∀ (m : Nat) (b : Addr) (c : List Nat), bs[m]? = some b → p[m]? = some c → H' b = some (.lst (c.map vN))) ?_ ?_ ?_ ?_
    · exact ⟨[], same_new nD, upd_same, rfl, .nil, fun b hb => by simp at hb, fun m b c h => by simp at h⟩
    · rintro n H' _ ⟨bs, s1, _⟩
      exact SqL.of (s1 _ _ ha')
    · rintro n x H1 H1' hn ⟨bs, s1, e1, l1, d1, f1, c1⟩ ⟨rfl, hx⟩
      obtain ⟨c, ec, ⟨ac, rfl, hac⟩⟩ := hvp.get hx
      refine ⟨rfl, xYes ?_⟩
      refine ⟨_, rfl, ac, _, rfl, .inl (SqL.of (s1 _ _ (hI _ _ hac))), fun l nl => ?_⟩
      have s2 := same_new (o := .lst (c.map vN)) nl
      have nlD : l ≠ D := fun e => by
        rw [e, e1] at nl
        cases nl
      have key : ∀ b, b ≠ D → ∀ o, upd H1' l (.lst (c.map vN)) b = some o → upd (upd H1' l (.lst (c.map vN))) D (.lst (bs.map V.ref ++ [V.ref l])) b = some o := fun b hb o e => by
        rw [upd_ne hb]
        exact e
      refine ⟨_, s2 _ _ e1, sz_lt (by rw [List.length_map]; omega), bs ++ [l], ?_, ?_, ?_, ?_, ?_, ?_⟩
      · intro b o e
        exact key b (ne_of_none e nD) o (s2 _ _ (s1 _ _ e))
      · rw [upd_same, List.map_append]
        rfl
      · rw [List.length_append, l1]
        rfl
      · rw [List.nodup_append]
        refine ⟨d1, by simp, fun b hb y hy e => ?_⟩
        rw [List.mem_singleton.mp hy] at e
        subst e
        exact (f1 _ hb).2.2 nl
      · intro b hb
        rcases List.mem_append.mp hb with hb | hb
        · obtain ⟨h1, h2, h3⟩ := f1 b hb
          refine ⟨h1, h2, fun z => h3 ?_⟩
          cases hq : H1' b with
          | none => rfl
          | some o =>
            rw [key b h2 o (s2 _ _ hq)] at z
            cases z
        · rw [List.mem_singleton.mp hb]
          refine ⟨s1.free nl, nlD, fun z => ?_⟩
          rw [key l nlD _ upd_same] at z
          cases z
      · intro m b c' hm hc
        by_cases e : m < bs.length
        · rw [List.getElem?_append_left e] at hm
          have hb := f1 b (List.mem_of_getElem? hm)
          exact key b hb.2.1 _ (s2 _ _ (c1 m b c' hm hc))
        · have em : m = bs.length := by
            have := (List.getElem?_eq_some_iff.mp hm).1
            rw [List.length_append] at this
            simp at this
            omega
          subst em
          rw [List.getElem?_append_right (Nat.le_refl _), Nat.sub_self] at hm
          have hm : l = b := Option.some.inj hm
          subst hm
          rw [l1, ec] at hc
          have hc : c = c' := Option.some.inj hc
          subst hc
          exact key l nlD _ upd_same
    · rintro H1 ⟨bs, s1, e1, l1, d1, f1, c1⟩
      -- copied[column][cell] = sign
      obtain ⟨b, eb⟩ : ∃ b, bs[i]? = some b := ⟨_, List.getElem?_eq_getElem (by omega)⟩
      obtain ⟨c, ec⟩ : ∃ c, p[i]? = some c := ⟨_, List.getElem?_eq_getElem hi⟩
      have hb := f1 b (List.mem_of_getElem? eb)
      have hbc := c1 i b c eb ec
      rw [getD_of ec] at hj
      refine ⟨_, rfl, _, rfl, _, rfl, D, _, (i : Int), .ref b, rfl, rfl, SqL.of e1, atI_nat (by rw [List.getElem?_map, eb]; rfl), _, rfl, b, c.map vN, (j : Int), j, rfl, rfl, hbc, ixN_nat (by rw [List.length_map]; exact hj), ?_⟩
      have s2 : Same H (upd H1 b (.lst ((c.map vN).set j (vN z)))) := fun x o e => by
        rw [upd_ne (ne_of_none e hb.1)]
        exact s1 _ _ e
      refine ⟨_, rfl, q _ _ _ (G.pubAll hI s2) ⟨D, bs.map V.ref, rfl, ?_, ?_⟩⟩
      · show (if H D = none then _ else _) = _
        rw [if_pos nD, upd_ne (fun e => hb.2.1 e.symm), e1]
      · refine all2_of_get ?_ fun m x y hx hy => ?_
        · unfold Mu34.marked
          rw [List.length_map, List.length_set]
          omega
        · obtain ⟨b', eb', rfl⟩ := map_get hx
          have hb' := f1 b' (List.mem_of_getElem? eb')
          refine ⟨b', rfl, ?_⟩
          show (if H b' = none then _ else _) = _
          rw [if_pos hb'.1]
          have hmi : m < p.length := by
            have := (List.getElem?_eq_some_iff.mp eb').1
            omega
          unfold Mu34.marked at hy
          by_cases e : m = i
          · subst e
            rw [eb] at eb'
            have eb' : b = b' := Option.some.inj eb'
            subst eb'
            rw [upd_same]
            rw [List.getElem?_set_self hmi, getD_of ec] at hy
            have hy : c.set j z = y := Option.some.inj hy
            rw [← hy, List.map_set]
          · rw [List.getElem?_set_ne (fun z => e z.symm)] at hy
            have nb : b' ≠ b := fun z => by
              subst z
              have i1 := (List.getElem?_eq_some_iff.mp eb).1
              have i2 := (List.getElem?_eq_some_iff.mp eb').1
              have h1 := (List.getElem?_eq_some_iff.mp eb).2
              have h2 := (List.getElem?_eq_some_iff.mp eb').2
              exact e ((List.getElem_inj d1).mp (h2.trans h1.symm))
            rw [upd_ne nb]
            exact c1 m b' y eb' hy
end
end CR

namespace CR
open PySem PySem.Spec PyProof.Rows L2
/-! ### laying more pictures: the mirror -/
abbrev Lay := List (List Nat) × List Nat
def layTry (more : Lay → Option Lay) (p : List (List Nat)) (x : Lay) (pl : List Nat) : Option Lay := match withPic x.1 p (pl.getD 0 0) (pl.getD 1 0) with
  | none => none
  | some r => more (r, x.2 ++ pl)
def layMore : List (List (List Nat)) → Lay → Option Lay
  | [], x => some x
  | p :: ps, x => (places x.1.length).findSome? (layTry (layMore ps) p x)
def layIn (n h : Nat) : List (List (List Nat)) → Option Lay
  | [] => none
  | p :: ps => match withPic (worn n h) p 0 0 with
    | none => none
    | some r => layMore ps (r, [])
theorem layFrom_ok {b : Nat} : ∀ (cs r : List (List Nat)) (k : Nat) (r' : List (List Nat)), (∀ c ∈ r, c.length ≤ b) → layFrom r k cs = some r' → r'.length = r.length ∧ ∀ c ∈ r', c.length ≤ b
  | [], r, k, r', h, e => by
    have e : r = r' := Option.some.inj e
    subst e
    exact ⟨rfl, h⟩
  | c :: cs, r, k, r', h, e => by
    rw [layFrom] at e
    split at e
    · cases e
    · have hb : ∀ x ∈ r.set (k % r.length) (ctog (r.getD (k % r.length) []) c), x.length ≤ b := by
        intro x hx
        by_cases hr : k % r.length < r.length
        · rcases set_mem hx with rfl | hx
          · refine Nat.le_trans (ctog_len _ _) (h _ ?_)
            rw [List.getD_eq_getElem?_getD, List.getElem?_eq_getElem hr]
            exact List.getElem_mem hr
          · exact h x hx
        · rw [List.set_eq_of_length_le (by omega)] at hx
          exact h x hx
      have ih := layFrom_ok (b := b) cs _ (k + 1) r' hb e
      rw [List.length_set] at ih
      exact ih
theorem withPic_ok {r p r' : List (List Nat)} {k i b : Nat} (h : ∀ c ∈ r, c.length ≤ b) (e : withPic r p k i = some r') : r'.length = r.length ∧ ∀ c ∈ r', c.length ≤ b := layFrom_ok _ _ _ _ h e
theorem fs_cons {A B : Type} (f : A → Option B) (a : A) (l : List A) : (a :: l).findSome? f = (f a).or (l.findSome? f) := by
  rw [List.findSome?_cons]
  cases f a <;> rfl
theorem layTry_none {more : Lay → Option Lay} {p : List (List Nat)} {x : Lay} {k j : Nat} (h : withPic x.1 p k j = none) : layTry more p x [k, j] = none := by
  show (match withPic x.1 p k j with | none => none | some r => more (r, x.2 ++ [k, j])) = none
  rw [h]
theorem layTry_some {more : Lay → Option Lay} {p : List (List Nat)} {x : Lay} {k j : Nat} {r : List (List Nat)} (h : withPic x.1 p k j = some r) : layTry more p x [k, j] = more (r, x.2 ++ [k, j]) := by
  show (match withPic x.1 p k j with | none => none | some r => more (r, x.2 ++ [k, j])) = _
  rw [h]
/-! ### fields -/
theorem put0 {f : Str} {v : V} : putF f v [] = [(f, v)] := rfl
theorem putN {f g : Str} {v x : V} {r : List (Str × V)} (h : ¬ g = f) : putF f v ((g, x) :: r) = (g, x) :: putF f v r := if_neg h
theorem putH {f : Str} {v x : V} {r : List (Str × V)} : putF f v ((f, x) :: r) = (f, v) :: r := if_pos rfl
theorem lkH {k : Str} {v : V} {r : List (Str × V)} : List.lookup k ((k, v) :: r) = some v := by
  have e : (k == k) = true := beq_self_eq_true k
  simp only [List.lookup, e]
theorem lkN {k g : Str} {v : V} {r : List (Str × V)} (h : (k == g) = false) : List.lookup k ((g, v) :: r) = List.lookup k r := by
  simp only [List.lookup, h]
section
variable {P : Program} {w : World} {K : PySem.W.Frag} {mg : Str → Option Value} {base : Heap} {aW : Addr}
/-! ### Laying -/
abbrev s_init_Laying : Stmt := inClass (top 66) 0
abbrev N_init_Laying : List Str := ["self", "ring", "laid_at"]
theorem sc_init_Laying : FnScope N_init_Laying ["self", "ring", "laid_at"] (defScope s_init_Laying) := ⟨rfl, rfl, rfl, by decide +kernel, rfl, by decide +kernel, by decide +kernel⟩
structure LayT (K : PySem.W.Frag) (C : Addr) : Prop where
  cl : Cls K C
  n1 : NoAttr K C "ring"
  n2 : NoAttr K C "laid_at"
abbrev layF (r l : V) : List (Str × V) := [("ring", r), ("laid_at", l)]
theorem layF1 (r l : V) : (layF r l).lookup ("ring" : Str) = some r := lkH
theorem layF2 (r l : V) : (layF r l).lookup ("laid_at" : Str) = some l := (lkN (by decide +kernel)).trans lkH
/-- what an __init__ leaves: the fields fs, all else as it was -/
def Made (C p dx : Addr) (fs : List (Str × V)) (H : Hp) (Q : VK) : Prop := ∀ H' : Hp, H' p = some (.ins C dx fs) → (∀ b o, H b = some o → b ≠ p → H' b = some o) → Q .non H'
def spInitLaying (C : Addr) : Sp := fun vs H Q _ => ∃ (p dx : Addr) (r l : V), vs = [.ref p, r, l] ∧ H p = some (.ins C dx []) ∧ Made C p dx (layF r l) H Q
/-- an __init__ of the text -/
def Di (K : PySem.W.Frag) (mg : Str → Option Value) (x qual : Str) (C : Addr) (st : Stmt) (ps : List Str) : Prop := ∃ f fd, Fun K "__init__" qual st f fd ∧ Mk K C f ∧ mg x = some (.ref C) ∧ Binds K fd ps []
theorem Di.mak {x qual : Str} {C : Addr} {st : Stmt} {N ps : List Str} {k : Nat} {sp : Sp} (D : Di K mg x qual C st ps) (S : FnScope N ps (defScope st)) (len : ∀ vs H Q E, sp vs H Q E → vs.length = ps.length)
    (body : ∀ (f : Addr) (cdv : Value) (A : Around) (outer : List Env) (s : Shared) (H : Hp) (vs : List V) (Q : VK) (E : XK), Room k (A.deeper (envOfC qual (defScope st) s.heap.objs.size f cdv)) → sp vs H Q E →
      ∃ t, PSs (cxOf CX0 P w K mg base N qual (defScope st) f cdv A outer s H E).nox (defBody st) t ∧ t { nx := fun _ H' => Q .non H', rt := Q } (start N vs) H) : C8.Mak P w K mg base (k + 1) x C sp [] := by
  obtain ⟨f, fd, F, M, m, b⟩ := D
  exact ⟨⟨f, fd, ps, [], M, F.ok S len (body f), m, b, .nil⟩⟩
theorem ok_init_Laying {C : Addr} (T : LayT K C) (D : Di K mg "Laying" "Laying.__init__" C s_init_Laying ["self", "ring", "laid_at"]) : C8.Mak P w K mg base 1 "Laying" C (spInitLaying C) [] := by
  refine D.mak sc_init_Laying (fun vs H Q E h => ?_) (fun f cdv A outer s H vs Q E hr h => ?_)
  · obtain ⟨p, dx, r, l, rfl, _⟩ := h
    rfl
  · obtain ⟨p, dx, r, l, rfl, hp, q⟩ := h
    refine ⟨_, (pss_cons (ps_fld (pv 0) (pv 1) rfl)
        (pss_one (ps_fld (pv 0) (pv 2) rfl))), ?_⟩
    refine ⟨_, rfl, _, rfl, p, C, dx, [], rfl, hp, T.cl, T.n1, by show 0 < 1000; decide, ?_⟩
    refine ⟨_, rfl, _, rfl, p, C, dx, _, rfl, upd_same, T.cl, T.n2, by show 1 < 1000; decide, ?_⟩
    refine q _ ?_ (fun b o e hb => by rw [upd_ne hb, upd_ne hb]; exact e)
    rw [upd_same, put0, putN (by decide +kernel), put0]
def LayR (C : Addr) (I : Hp) (v : V) (x : Lay) : Prop := ∃ a dx vr vl, v = .ref a ∧ I a = some (.ins C dx (layF vr vl)) ∧ PicR I vr x.1 ∧ ColR I vl x.2
theorem LayR.mo {C : Addr} : Mo (LayR C) := fun _ _ _ _ s ⟨a, dx, vr, vl, e, h, h1, h2⟩ => ⟨a, dx, vr, vl, e, s _ _ h, PicR.mo _ _ _ _ s h1, ColR.mo _ _ _ _ s h2⟩
/-- made of what stands still -/
theorem made_lay {C : Addr} {I H : Hp} {x dx : Addr} {vr vl : V} {r : List (List Nat)} {l : List Nat} {Q : VK} (hI : Same I H) (nx : H x = none) (nd : H dx = none) (ne : dx ≠ x) (hr : PicR I vr r) (hl : ColR I vl l) (k : ∀ I' H', G I H I' H' → LayR C I' (.ref x) (r, l) → Q .non H') :
    spInitLaying C (.ref x :: ([vr, vl] ++ [])) (upd (upd H dx (.own x)) x (.ins C dx [])) Q C8.E0 := by
  refine ⟨x, dx, vr, vl, rfl, upd_same, fun H' hx kp => ?_⟩
  have s1 : Same H H' := fun b o e => by
    have e1 : b ≠ x := ne_of_none e nx
    have e2 : b ≠ dx := ne_of_none e nd
    exact kp b o (by rw [upd_ne e1, upd_ne e2]; exact e) e1
  have g1 : G I H I H' := ⟨s1, Same.refl _, hI.trans s1, fun _ e _ => e⟩
  have g2 := g1.pub nx hx hI
  exact k _ _ g2 ⟨x, dx, vr, vl, rfl, upd_same, PicR.mo _ _ _ _ g2.u hr, ColR.mo _ _ _ _ g2.u hl⟩

/-! ### lay_more -/
abbrev s_lay_more : Stmt := top 68
abbrev N_lay_more : List Str := ["laying", "pictures", "place", "ring", "found"]
theorem sc_lay_more : FnScope N_lay_more ["laying", "pictures"] (defScope s_lay_more) := ⟨rfl, rfl, rfl, by decide +kernel, rfl, by decide +kernel, by decide +kernel⟩
def spLM (C : Addr) : Nat → Sp
  | 0 => fun _ _ _ _ => False
  | n + 1 => fun vs H Q _ => ∃ (I : Hp) (u v : V) (x : Lay) (ps : List (List (List Nat))), vs = [u, v] ∧ Same I H ∧ LayR C I u x ∧ PicsR I v ps ∧ ps.length ≤ n ∧ ps.length ≤ 10 ∧ 0 < x.1.length ∧ x.1.length ≤ 20 ∧ (∀ c ∈ x.1, c.length ≤ 100) ∧ x.2.length + 2 * ps.length ≤ 100 ∧ (∀ p ∈ ps, p.length ≤ 100) ∧ Ret I H (fun J y => OptR (LayR C) J y (layMore ps x)) Q
theorem ok_lay_more {C : Addr} (T : Top K mg aW) (TL : LayT K C) (D : Dn K mg "lay_more" s_lay_more ["laying", "pictures"]) (c_places : C8.Cal P w K mg base 1 "places" spPlaces []) (c_with_picture : C8.Cal P w K mg base 3 "with_picture" spWith []) (m_Laying : C8.Mak P w K mg base 1 "Laying" C (spInitLaying C) []) :
    ∀ n, C8.Cal P w K mg base (n + 4) "lay_more" (spLM C n) []
  | 0 => D.cal (N := N_lay_more) sc_lay_more (fun _ _ _ _ h => h.elim) (fun _ _ _ _ _ _ _ _ _ _ h => h.elim)
  | n + 1 => by
    have c_lay_more := ok_lay_more T TL D c_places c_with_picture m_Laying n
    refine D.cal sc_lay_more (fun vs H Q E h => ?_) (fun f cdv A outer s H vs Q E hr h => ?_)
    · obtain ⟨I, u, v, x, ps, rfl, _⟩ := h
      rfl
    · obtain ⟨I, u, v, x, ps, rfl, hI, hu, hv, hn, h10, r0, r20, hc, hl, hp, q⟩ := h
      have hr1 : Room 4 _ := hr.mono (by omega)
      refine ⟨_, (pss_cons (ps_if (pt_not (pt_truth (pv 1) (by intro _; rfl))) (pss_one (ps_ret (pv 0))) pss_nil)
        (pss_cons (ps_for PassesOwn.never rfl (pi_list (C8.pe_c c_places hr (by omega) rfl (pa_cons (pe_callB call_len_seq (by rfl) T.b_len PySem.boot_len (pa_cons (pe_fld (pv 0) rfl) pa_nil)) pa_nil))) (pg_name (i := 2) sc_lay_more.nd rfl (Or.inl rfl)) (pss_cons (ps_set (i := 3) sc_lay_more.nd rfl (Or.inl rfl) (C8.pe_c c_with_picture hr (by omega) rfl (pa_cons (pe_fld (pv 0) rfl) (pa_cons (pe_ix ix_list (pv 1) pe_int (fun _ _ => rfl)) (pa_cons (pv 2) pa_nil)))))
        (pss_one (ps_if (pt_cmpR op_notN (pv 3) pe_non (nomark _)) (pss_cons (ps_set (i := 4) sc_lay_more.nd rfl (Or.inl rfl) (C8.pe_c c_lay_more hr (by omega) rfl (pa_cons (C8.pe_mk m_Laying hr (by omega) rfl (pa_cons (pv 3) (pa_cons (pe_op op_cat (pe_fld (pv 0) rfl) (pv 2)) pa_nil))) (pa_cons (pe_slice sl_list (pv 1) (po_some pe_int) po_none) pa_nil))))
        (pss_one (ps_if (pt_cmpR op_notN (pv 4) pe_non (nomark _)) (pss_one (ps_ret (pv 4))) pss_nil))) pss_nil))))
        (pss_one (ps_ret pe_non)))), ?_⟩
      obtain ⟨b, vps, rfl, hb, hvps⟩ := id hv
      obtain ⟨a, dx, vr, vl, rfl, ha, ⟨ar, vrs, rfl, har, hvr⟩, ⟨al, rfl, hal⟩⟩ := id hu
      have ha' := hI _ _ ha
      refine ⟨_, rfl, _, .inl ⟨vps, SqL.of (hI _ _ hb), rfl⟩, ?_⟩
      cases hvps with
      | nil =>
        refine iteT ⟨_, rfl, ?_⟩
        exact q I H _ (G.refl hI) hu
      | cons hp0 hvs =>
        rename_i v0 p0 vs0 ps0
        refine iteF ?_
        -- places(len(laying.ring))
        refine ⟨_, rfl, a, C, dx, _, _, rfl, ha', TL.cl, TL.n1, layF1 _ _, ar, vrs, rfl, .inl (SqL.of (hI _ _ har)), I, x.1.length, by rw [hvr.length]; rfl, hI, by omega, fun I1 H1 v1 g1 r1 => ?_⟩
        obtain ⟨a1, vs1, rfl, ha1, hv1⟩ := r1
        refine ⟨a1, rfl, ⟨_, SqL.of (g1.b _ _ ha1)⟩, for_it (walk_list (xs := vs1)) (fun d σ H' => ∃ I' y2 y3 y4, σ = [some (.ref a), some (.ref b), y2, y3, y4] ∧ G I H I' H' ∧ Same I1 I' ∧ layMore (p0 :: ps0) x = ((places x.1.length).drop d).findSome? (layTry (layMore ps0) p0 x)) ?_ ?_ ?_ ?_⟩
        · exact ⟨I1, none, none, none, rfl, g1, Same.refl _, rfl⟩
        · rintro d σ H' _ ⟨I', y2, y3, y4, rfl, g2, u2, _⟩
          exact SqL.of (g2.b _ _ (u2 _ _ ha1))
        · rintro d y σ H2 H2' hd ⟨I2, y2, y3, y4, rfl, g2, u2, e2⟩ ⟨rfl, hy⟩
          obtain ⟨pl, epl, rpl⟩ := hv1.get hy
          obtain ⟨k, j, rfl, hk, hj⟩ := mem_places (List.mem_of_getElem? epl)
          have ed : (places x.1.length).drop d = [k, j] :: (places x.1.length).drop (d + 1) := by
            obtain ⟨hlt, eq⟩ := List.getElem?_eq_some_iff.mp epl
            rw [List.drop_eq_getElem_cons hlt, eq]
          have ha2 := g2.s _ _ ha'
          have rpl2 := ColR.mo _ _ _ _ u2 rpl
          refine ⟨_, rfl, a, C, dx, _, _, rfl, ha2, TL.cl, TL.n1, layF1 _ _, _, rfl, b, _, 0, v0, rfl, rfl, SqL.of (g2.b _ _ (g2.u _ _ hb)), atI_nat (j := 0) rfl, _, rfl, I2, _, v0, y, x.1, p0, k, j, rfl, g2.b, PicR.mo _ _ _ _ g2.u ⟨ar, vrs, rfl, har, hvr⟩, PicR.mo _ _ _ _ g2.u hp0, rpl2, hk, r0, by omega, hp p0 (List.mem_cons_self ..), hc, fun I3 H3 v3 g3 r3 => ?_⟩
          rw [ed, fs_cons] at e2
          have gg3 := g2.trans g3
          cases hw : withPic x.1 p0 k j with
          | none =>
            rw [layTry_none hw, Option.none_or] at e2
            rw [hw] at r3
            have r3 : v3 = .non := r3
            subst r3
            refine ⟨_, rfl, rfl, _, rfl, iteF ?_⟩
            exact ⟨I3, _, _, _, rfl, gg3, u2.trans g3.u, e2⟩
          | some r' =>
            rw [layTry_some hw] at e2
            rw [hw] at r3
            have r3 : PicR I3 v3 r' := r3
            obtain ⟨a3, vs3, rfl, ha3, hv3⟩ := id r3
            obtain ⟨lr', cr'⟩ := withPic_ok hc hw
            refine ⟨_, rfl, rfl, _, rfl, iteT ?_⟩
            obtain ⟨apl, rfl, hapl⟩ := ColR.mo _ _ _ _ (u2.trans g3.u) rpl
            have hal3 := g3.b _ _ ((g2.u.trans g3.u) _ _ hal)
            refine ⟨_, rfl, _, rfl, a, C, dx, _, _, rfl, g3.s _ _ ha2, TL.cl, TL.n2, layF2 _ _, _, rfl, al, apl, _, _, rfl, rfl, hal3, g3.b _ _ hapl, sz_le ?_, fun p4 n4 => ?_⟩
            · rw [List.length_map, List.length_map]
              simp only [List.length_cons, List.length_nil] at hl ⊢
              omega
            · have g4 := G.new (o := .lst (x.2.map vN ++ [k, j].map vN)) g3.b n4
              intro xa dxa nx nd ne
              refine made_lay g4.b nx nd ne (PicR.mo _ _ _ _ g4.u r3) ⟨p4, rfl, by rw [upd_same, ← List.map_append]⟩ fun I5 H5 g5 r5 => ⟨rfl, ?_⟩
              have gg5 := (gg3.trans g4).trans g5
              have hb5 := gg5.b _ _ (gg5.u _ _ hb)
              refine ⟨_, rfl, 1, rfl, b, _, rfl, SqL.of hb5, fun p6 n6 => ?_⟩
              have g6 := G.new (o := .lst (cutV (v0 :: vs0) (some 1) none)) g5.b n6
              have gg6 := gg5.trans g6
              cases n with
              | zero =>
                exact absurd hn (by simp)
              | succ n =>
                refine ⟨_, .ref xa, .ref p6, (r', x.2 ++ [k, j]), ps0, rfl, g6.b, LayR.mo _ _ _ _ g6.u r5, ⟨p6, vs0, rfl, ?_, All2.mo PicR.mo gg6.u hvs⟩, ?_, ?_, ?_, ?_, cr', ?_, ?_, fun I7 H7 v7 g7 r7 => ?_⟩
                · rw [upd_same]
                  have := cut_from (v0 :: vs0) 1
                  rw [show ((1 : Nat) : Int) = 1 from rfl] at this
                  rw [this]
                  rfl
                · simp only [List.length_cons] at hn
                  omega
                · simp only [List.length_cons] at h10
                  omega
                · show 0 < r'.length
                  omega
                · show r'.length ≤ 20
                  omega
                · show (x.2 ++ [k, j]).length + 2 * ps0.length ≤ 100
                  simp only [List.length_append, List.length_cons, List.length_nil] at hl ⊢
                  omega
                · exact fun p hp' => hp p (List.mem_cons_of_mem _ hp')
                · have gg7 := gg6.trans g7
                  cases hm : layMore ps0 (r', x.2 ++ [k, j]) with
                  | none =>
                    rw [hm] at r7 e2
                    rw [Option.none_or] at e2
                    have r7 : v7 = .non := r7
                    subst r7
                    refine ⟨_, rfl, rfl, _, rfl, iteF ?_⟩
                    exact ⟨I7, _, _, _, rfl, gg7, u2.trans (g3.u.trans (g4.u.trans (g5.u.trans (g6.u.trans g7.u)))), e2⟩
                  | some z =>
                    rw [hm] at r7 e2
                    rw [Option.some_or] at e2
                    have r7 : LayR C I7 v7 z := r7
                    obtain ⟨a7, dx7, vr7, vl7, rfl, _⟩ := id r7
                    refine ⟨_, rfl, rfl, _, rfl, iteT ?_⟩
                    refine ⟨_, rfl, q I7 H7 _ gg7 ?_⟩
                    rw [e2]
                    exact r7
        · rintro σ H2 ⟨I2, y2, y3, y4, rfl, g2, u2, e2⟩
          refine q _ _ _ g2 ?_
          rw [hv1.length, List.drop_length] at e2
          rw [e2]
          rfl

/-! ### lay_in -/
abbrev s_lay_in : Stmt := top 69
abbrev N_lay_in : List Str := ["width", "high", "pictures", "ring"]
theorem sc_lay_in : FnScope N_lay_in ["width", "high", "pictures"] (defScope s_lay_in) := ⟨rfl, rfl, rfl, by decide +kernel, rfl, by decide +kernel, by decide +kernel⟩
def spLayIn (C : Addr) : Sp := fun vs H Q _ => ∃ (I : Hp) (v : V) (ps : List (List (List Nat))) (n h : Nat), vs = [vN n, vN h, v] ∧ Same I H ∧ PicsR I v ps ∧ 0 < ps.length ∧ ps.length ≤ 3 ∧ 0 < n ∧ n ≤ 20 ∧ h ≤ 100 ∧ (∀ p ∈ ps, p.length ≤ 100) ∧ Ret I H (fun J y => OptR (LayR C) J y (layIn n h ps)) Q
theorem ok_lay_in {C : Addr} (T : Top K mg aW) (TL : LayT K C) (D : Dn K mg "lay_in" s_lay_in ["width", "high", "pictures"]) (c_with_picture : C8.Cal P w K mg base 3 "with_picture" spWith []) (c_worn_picture : C8.Cal P w K mg base 1 "worn_picture" spWorn []) (c_lay_more : C8.Cal P w K mg base 7 "lay_more" (spLM C 3) []) (m_Laying : C8.Mak P w K mg base 1 "Laying" C (spInitLaying C) []) :
    C8.Cal P w K mg base 8 "lay_in" (spLayIn C) [] := by
  refine D.cal sc_lay_in (fun vs H Q E h => ?_) (fun f cdv A outer s H vs Q E hr h => ?_)
  · obtain ⟨I, v, ps, n, h, rfl, _⟩ := h
    rfl
  · obtain ⟨I, v, ps, n, h, rfl, hI, ⟨b, vps, rfl, hb, hvps⟩, p1, p3, n0, n20, hh, hp, q⟩ := h
    refine ⟨_, (pss_cons (ps_set (i := 3) sc_lay_in.nd rfl (Or.inl rfl) (C8.pe_c c_with_picture hr (by decide) rfl (pa_cons (C8.pe_c c_worn_picture hr (by decide) rfl (pa_cons (pv 0) (pa_cons (pv 1) pa_nil))) (pa_cons (pe_ix ix_list (pv 2) pe_int (fun _ _ => rfl)) (pa_cons (pe_lst (pa_cons (C8.pe_gc rfl T.AS_IT_IS) (pa_cons pe_int pa_nil))) pa_nil)))))
        (pss_cons (ps_if (pt_cmpR op_isN (pv 3) pe_non (nomark _)) (pss_one (ps_ret pe_non)) pss_nil)
        (pss_one (ps_ret (C8.pe_c c_lay_more hr (by decide) rfl (pa_cons (C8.pe_mk m_Laying hr (by decide) rfl (pa_cons (pv 3) (pa_cons (pe_lst pa_nil) pa_nil))) (pa_cons (pe_slice sl_list (pv 2) (po_some pe_int) po_none) pa_nil))))))), ?_⟩
    cases hvps with
    | nil => exact absurd p1 (by simp)
    | cons hp0 hvs =>
      rename_i v0 p0 vs0 ps0
      refine ⟨_, rfl, _, rfl, I, n, h, rfl, hI, by omega, by omega, fun I1 H1 v1 g1 r1 => ?_⟩
      refine ⟨_, rfl, b, _, 0, v0, rfl, rfl, SqL.of (g1.b _ _ (g1.u _ _ hb)), atI_nat (j := 0) rfl, by show 2 ≤ sizeLine; decide, fun p2 n2 => ?_⟩
      have g2 := G.new (o := .lst [V.int 0, V.int 0]) g1.b n2
      have gg2 := g1.trans g2
      have hw : ∀ c ∈ worn n h, c.length ≤ 100 := fun c hc => by
        unfold worn at hc
        rw [(List.mem_replicate.mp hc).2, List.length_replicate]
        exact hh
      refine ⟨_, v1, v0, .ref p2, worn n h, p0, 0, 0, rfl, g2.b, PicR.mo _ _ _ _ g2.u r1, PicR.mo _ _ _ _ gg2.u hp0, ⟨p2, rfl, upd_same⟩, by omega, by simp [worn]; omega, by simp [worn]; omega, hp p0 (List.mem_cons_self ..), hw, fun I3 H3 v3 g3 r3 => ?_⟩
      have gg3 := gg2.trans g3
      have el : layIn n h (p0 :: ps0) = match withPic (worn n h) p0 0 0 with
        | none => none
        | some r => layMore ps0 (r, []) := rfl
      cases hm : withPic (worn n h) p0 0 0 with
      | none =>
        rw [hm] at r3 el
        have r3 : v3 = .non := r3
        subst r3
        refine ⟨_, rfl, rfl, _, rfl, iteT ?_⟩
        refine q I3 H3 _ gg3 ?_
        rw [el]
        rfl
      | some r' =>
        rw [hm] at r3 el
        have r3 : PicR I3 v3 r' := r3
        obtain ⟨a3, vs3, rfl, ha3, hv3⟩ := id r3
        obtain ⟨lr', cr'⟩ := withPic_ok hw hm
        have lw : (worn n h).length = n := by simp [worn]
        refine ⟨_, rfl, rfl, _, rfl, iteF ?_⟩
        refine ⟨_, rfl, Nat.zero_le _, fun p4 n4 => ?_⟩
        have g4 := G.new (o := .lst []) g3.b n4
        intro xa dxa nx nd ne
        refine made_lay g4.b nx nd ne (PicR.mo _ _ _ _ g4.u r3) (l := []) ⟨p4, rfl, upd_same⟩ fun I5 H5 g5 r5 => ⟨rfl, ?_⟩
        have gg5 := (gg3.trans g4).trans g5
        refine ⟨_, rfl, 1, rfl, b, _, rfl, SqL.of (gg5.b _ _ (gg5.u _ _ hb)), fun p6 n6 => ?_⟩
        have g6 := G.new (o := .lst (cutV (v0 :: vs0) (some 1) none)) g5.b n6
        have gg6 := gg5.trans g6
        refine ⟨_, .ref xa, .ref p6, (r', []), ps0, rfl, g6.b, LayR.mo _ _ _ _ g6.u r5, ⟨p6, vs0, rfl, ?_, All2.mo PicR.mo gg6.u hvs⟩, ?_, ?_, ?_, ?_, cr', ?_, ?_, fun I7 H7 v7 g7 r7 => ?_⟩
        · rw [upd_same]
          have := cut_from (v0 :: vs0) 1
          rw [show ((1 : Nat) : Int) = 1 from rfl] at this
          rw [this]
          rfl
        · simp only [List.length_cons] at p3
          show ps0.length ≤ 2
          omega
        · simp only [List.length_cons] at p3
          omega
        · show 0 < r'.length
          omega
        · show r'.length ≤ 20
          omega
        · simp only [List.length_cons] at p3
          show 0 + 2 * ps0.length ≤ 100
          omega
        · exact fun p hp' => hp p (List.mem_cons_of_mem _ hp')
        · refine q I7 H7 _ (gg6.trans g7) ?_
          rw [el]
          exact r7
end
end CR

namespace CR
open PySem PySem.Spec PyProof.Rows L2
/-! ### whole numbers in lists -/
def IntsR (I : Hp) (v : V) (l : List Int) : Prop := ∃ a, v = .ref a ∧ I a = some (.lst (l.map V.int))
theorem IntsR.mo : Mo IntsR := fun _ _ _ _ s ⟨a, e, h⟩ => ⟨a, e, s a _ h⟩
abbrev IntssR : Hp → V → List (List Int) → Prop := LR IntsR
theorem IntssR.mo : Mo IntssR := LR.mo IntsR.mo
/-! ### what the readers read -/
structure RdT (K : PySem.W.Frag) (C : Addr) : Prop where
  cl : Cls K C
  n1 : NoAttr K C "calls"
  n2 : NoAttr K C "place"
abbrev rdF (ac : Addr) (i : Nat) : List (Str × V) := [("calls", .ref ac), ("place", vN i)]
theorem rdF1 (ac : Addr) (i : Nat) : (rdF ac i).lookup ("calls" : Str) = some (.ref ac) := lkH
theorem rdF2 (ac : Addr) (i : Nat) : (rdF ac i).lookup ("place" : Str) = some (vN i) := (lkN (by decide +kernel)).trans lkH
theorem rdFput (ac : Addr) (i : Nat) (j : Nat) : putF "place" (vN j) (rdF ac i) = rdF ac j := (putN (by decide +kernel)).trans (congrArg _ putH)
theorem sq_upd {K : PySem.W.Frag} {H : Hp} {a b : Addr} {xs : List V} {o o' : HO} (h : SqL K H b xs) (ha : H a = some o) (n1 : ∀ ys, o ≠ .lst ys) (n2 : ∀ z ys, o ≠ .frz z (.lst ys)) : SqL K (upd H a o') b xs := by
  rcases h with (h | ⟨z, h⟩) | h
  · refine .inl (.inl ?_)
    rw [upd_ne (fun e => by subst e; rw [ha] at h; exact n1 _ (Option.some.inj h))]
    exact h
  · refine .inl (.inr ⟨z, ?_⟩)
    rw [upd_ne (fun e => by subst e; rw [ha] at h; exact n2 _ _ (Option.some.inj h))]
    exact h
  · exact .inr h
theorem sq_ins {K : PySem.W.Frag} {H : Hp} {a b C dx : Addr} {xs : List V} {fs : List (Str × V)} {o' : HO} (h : SqL K H b xs) (ha : H a = some (.ins C dx fs)) : SqL K (upd H a o') b xs := sq_upd h ha (fun _ z => by cases z) (fun _ _ z => by cases z)
theorem sq_new {K : PySem.W.Frag} {H : Hp} {a b : Addr} {xs : List V} {o' : HO} (h : SqL K H b xs) (ha : H a = none) : SqL K (upd H a o') b xs := (same_new ha).seq h
section
variable {P : Program} {w : World} {K : PySem.W.Frag} {mg : Str → Option Value} {base : Heap} {aW C : Addr}
/-! ### Reader -/
abbrev s_init_Reader : Stmt := inClass (top 76) 0
abbrev N_init_Reader : List Str := ["self", "calls"]
theorem sc_init_Reader : FnScope N_init_Reader ["self", "calls"] (defScope s_init_Reader) := ⟨rfl, rfl, rfl, by decide +kernel, rfl, by decide +kernel, by decide +kernel⟩
def spInitReader (C : Addr) : Sp := fun vs H Q _ => ∃ (p dx ac : Addr), vs = [.ref p, .ref ac] ∧ H p = some (.ins C dx []) ∧ Made C p dx (rdF ac 0) H Q
theorem ok_init_Reader (T : RdT K C) (D : Di K mg "Reader" "Reader.__init__" C s_init_Reader ["self", "calls"]) : C8.Mak P w K mg base 1 "Reader" C (spInitReader C) [] := by
  refine D.mak sc_init_Reader (fun vs H Q E h => ?_) (fun f cdv A outer s H vs Q E hr h => ?_)
  · obtain ⟨p, dx, ac, rfl, _⟩ := h
    rfl
  · obtain ⟨p, dx, ac, rfl, hp, q⟩ := h
    refine ⟨_, (pss_cons (ps_fld (pv 0) (pv 1) rfl)
        (pss_one (ps_fld (pv 0) pe_int rfl))), ?_⟩
    refine ⟨_, rfl, _, rfl, p, C, dx, [], rfl, hp, T.cl, T.n1, by show 0 < 1000; decide, ?_⟩
    refine ⟨_, rfl, p, C, dx, _, rfl, upd_same, T.cl, T.n2, by show 1 < 1000; decide, ?_⟩
    refine q _ ?_ (fun b o e hb => by rw [upd_ne hb, upd_ne hb]; exact e)
    rw [upd_same, put0, putN (by decide +kernel), put0]
    rfl
/-! ### has_more -/
abbrev s_has_more : Stmt := top 77
abbrev N_has_more : List Str := ["reader"]
theorem sc_has_more : FnScope N_has_more ["reader"] (defScope s_has_more) := ⟨rfl, rfl, rfl, by decide +kernel, rfl, by decide +kernel, by decide +kernel⟩
def spHasMore (K : PySem.W.Frag) (C : Addr) : Sp := fun vs H Q _ => ∃ (a dx ac : Addr) (l : List Int) (i : Nat), vs = [.ref a] ∧ H a = some (.ins C dx (rdF ac i)) ∧ SqL K H ac (l.map V.int) ∧ Q (.bl (decide (i < l.length))) H
theorem ok_has_more (T : Top K mg aW) (TR : RdT K C) (D : Dn K mg "has_more" s_has_more ["reader"]) : C8.Cal P w K mg base 1 "has_more" (spHasMore K C) [] := by
  refine D.cal sc_has_more (fun vs H Q E h => ?_) (fun f cdv A outer s H vs Q E hr h => ?_)
  · obtain ⟨a, dx, ac, l, i, rfl, _⟩ := h
    rfl
  · obtain ⟨a, dx, ac, l, i, rfl, ha, hs, q⟩ := h
    refine ⟨_, (pss_one (ps_ret (pe_cmpR op_lt (pe_fld (pv 0) rfl) (pe_callB call_len_seq (by rfl) T.b_len PySem.boot_len (pa_cons (pe_fld (pv 0) rfl) pa_nil)) (nomark _)))), ?_⟩
    refine ⟨_, rfl, a, C, dx, _, _, rfl, ha, TR.cl, TR.n2, rdF2 _ _, _, rfl, a, C, dx, _, _, rfl, ha, TR.cl, TR.n1, rdF1 _ _, ac, _, rfl, .inl hs, _, _, rfl, rfl, ?_⟩
    have e : decide ((i : Int) < ((l.map V.int).length : Int)) = decide (i < l.length) := by
      rw [List.length_map]
      simp
    show Q (V.bl (decide ((i : Int) < ((l.map V.int).length : Int)))) H
    rw [e]
    exact q
/-! ### read_number -/
abbrev s_read_number : Stmt := top 78
abbrev N_read_number : List Str := ["reader", "number"]
theorem sc_read_number : FnScope N_read_number ["reader"] (defScope s_read_number) := ⟨rfl, rfl, rfl, by decide +kernel, rfl, by decide +kernel, by decide +kernel⟩
def spReadNumber (K : PySem.W.Frag) (C : Addr) : Sp := fun vs H Q _ => ∃ (a dx ac : Addr) (l : List Int) (i : Nat) (z : Int), vs = [.ref a] ∧ H a = some (.ins C dx (rdF ac i)) ∧ SqL K H ac (l.map V.int) ∧ l[i]? = some z ∧ Q (.int z) (upd H a (.ins C dx (rdF ac (i + 1))))
theorem ok_read_number (TR : RdT K C) (D : Dn K mg "read_number" s_read_number ["reader"]) : C8.Cal P w K mg base 1 "read_number" (spReadNumber K C) [] := by
  refine D.cal sc_read_number (fun vs H Q E h => ?_) (fun f cdv A outer s H vs Q E hr h => ?_)
  · obtain ⟨a, dx, ac, l, i, z, rfl, _⟩ := h
    rfl
  · obtain ⟨a, dx, ac, l, i, z, rfl, ha, hs, hz, q⟩ := h
    refine ⟨_, (pss_cons (ps_set (i := 1) sc_read_number.nd rfl (Or.inl rfl) (pe_ix ix_list (pe_fld (pv 0) rfl) (pe_fld (pv 0) rfl) (fun _ _ => rfl)))
        (pss_cons (ps_fldaug (pv 0) pe_int in_add)
        (pss_one (ps_ret (pv 1))))), ?_⟩
    refine ⟨_, rfl, a, C, dx, _, _, rfl, ha, TR.cl, TR.n1, rdF1 _ _, _, rfl, a, C, dx, _, _, rfl, ha, TR.cl, TR.n2, rdF2 _ _, ac, _, (i : Int), .int z, rfl, rfl, hs, atI_nat (by rw [List.getElem?_map, hz]; rfl), ?_⟩
    refine ⟨_, rfl, a, C, dx, _, _, rfl, ha, TR.cl, TR.n2, rdF2 _ _, _, _, rfl, rfl, dx, _, ha, by show 2 < 1000; decide, ?_⟩
    refine ⟨_, rfl, ?_⟩
    have e : putF "place" (V.int ((i : Int) + 1)) (rdF ac i) = rdF ac (i + 1) := rdFput ac i (i + 1)
    rw [e]
    exact q
/-! ### read_numbers -/
abbrev s_read_numbers : Stmt := top 79
abbrev N_read_numbers : List Str := ["reader", "count", "start"]
theorem sc_read_numbers : FnScope N_read_numbers ["reader"] (defScope s_read_numbers) := ⟨rfl, rfl, rfl, by decide +kernel, rfl, by decide +kernel, by decide +kernel⟩
theorem cut_mid (xs : List V) (i c : Nat) (h : i + c ≤ xs.length) : cutV xs (some (i : Int)) (some ((i + c : Nat) : Int)) = (xs.drop i).take c := by
  unfold cutV
  rw [HT.sIx_nat xs.length 0 i, HT.sIx_nat xs.length xs.length (i + c), Nat.min_eq_left (by omega), Nat.min_eq_left (by omega), show i + c - i = c by omega]
def spReadNumbers (K : PySem.W.Frag) (C : Addr) : Sp := fun vs H Q _ => ∃ (a dx ac : Addr) (l : List Int) (i c : Nat), vs = [.ref a] ∧ H a = some (.ins C dx (rdF ac i)) ∧ SqL K H ac (l.map V.int) ∧ l[i]? = some (c : Int) ∧ i + 1 + c ≤ l.length ∧
  ∀ p, H p = none → Q (.ref p) (upd (upd H a (.ins C dx (rdF ac (i + 1 + c)))) p (.lst (((l.drop (i + 1)).take c).map V.int)))
theorem upd_upd {H : Hp} {a : Addr} {o o' : HO} : upd (upd H a o) a o' = upd H a o' := by
  funext b
  by_cases e : b = a
  · subst e
    rw [upd_same, upd_same]
  · rw [upd_ne e, upd_ne e, upd_ne e]
theorem ok_read_numbers (TR : RdT K C) (D : Dn K mg "read_numbers" s_read_numbers ["reader"]) (c_read_number : C8.Cal P w K mg base 1 "read_number" (spReadNumber K C) []) : C8.Cal P w K mg base 2 "read_numbers" (spReadNumbers K C) [] := by
  refine D.cal sc_read_numbers (fun vs H Q E h => ?_) (fun f cdv A outer s H vs Q E hr h => ?_)
  · obtain ⟨a, dx, ac, l, i, c, rfl, _⟩ := h
    rfl
  · obtain ⟨a, dx, ac, l, i, c, rfl, ha, hs, hz, hl, q⟩ := h
    refine ⟨_, (pss_cons (ps_set (i := 1) sc_read_numbers.nd rfl (Or.inl rfl) (C8.pe_c c_read_number hr (by decide) rfl (pa_cons (pv 0) pa_nil)))
        (pss_cons (ps_set (i := 2) sc_read_numbers.nd rfl (Or.inl rfl) (pe_fld (pv 0) rfl))
        (pss_cons (ps_fld (pv 0) (pe_op op_add (pv 2) (pv 1)) rfl)
        (pss_one (ps_ret (pe_slice sl_list (pe_fld (pv 0) rfl) (po_some (pv 2)) (po_some (pe_op op_add (pv 2) (pv 1))))))))), ?_⟩
    refine ⟨_, rfl, a, dx, ac, l, i, (c : Int), rfl, ha, hs, hz, ?_⟩
    have s1 : SqL K (upd H a (.ins C dx (rdF ac (i + 1)))) ac (l.map V.int) := sq_ins hs ha
    refine ⟨_, rfl, a, C, dx, _, _, rfl, upd_same, TR.cl, TR.n2, rdF2 _ _, ?_⟩
    refine ⟨_, rfl, _, rfl, _, _, rfl, rfl, _, rfl, a, C, dx, _, rfl, upd_same, TR.cl, TR.n2, by show 2 < 1000; decide, ?_⟩
    have e : putF "place" (V.int (((i + 1 : Nat) : Int) + (c : Int))) (rdF ac (i + 1)) = rdF ac (i + 1 + c) := rdFput ac (i + 1) (i + 1 + c)
    rw [e, upd_upd]
    refine ⟨_, rfl, a, C, dx, _, _, rfl, upd_same, TR.cl, TR.n1, rdF1 _ _, _, rfl, ((i + 1 : Nat) : Int), rfl, _, rfl, _, rfl, _, _, rfl, rfl, _, rfl, ac, _, rfl, sq_ins hs ha, fun p np => ?_⟩
    have np' : H p = none := by
      by_cases z : p = a
      · subst z
        rw [upd_same] at np
        cases np
      · rw [upd_ne z] at np
        exact np
    have ec : cutV (l.map V.int) (some ((i + 1 : Nat) : Int)) (some (((i + 1 : Nat) : Int) + (c : Int))) = ((l.drop (i + 1)).take c).map V.int := by
      rw [show ((i + 1 : Nat) : Int) + (c : Int) = ((i + 1 + c : Nat) : Int) by omega, cut_mid _ _ _ (by rw [List.length_map]; exact hl), List.map_take, List.map_drop]
    rw [ec]
    exact q p np'
/-! ### Call -/
abbrev s_init_Call : Stmt := inClass (top 75) 0
abbrev N_init_Call : List Str := ["self", "kind", "numbers", "lists"]
theorem sc_init_Call : FnScope N_init_Call ["self", "kind", "numbers", "lists"] (defScope s_init_Call) := ⟨rfl, rfl, rfl, by decide +kernel, rfl, by decide +kernel, by decide +kernel⟩
structure ClT (K : PySem.W.Frag) (C : Addr) : Prop where
  cl : Cls K C
  n1 : NoAttr K C "kind"
  n2 : NoAttr K C "numbers"
  n3 : NoAttr K C "lists"
abbrev clF (k n l : V) : List (Str × V) := [("kind", k), ("numbers", n), ("lists", l)]
theorem clF1 (k n l : V) : (clF k n l).lookup ("kind" : Str) = some k := lkH
theorem clF2 (k n l : V) : (clF k n l).lookup ("numbers" : Str) = some n := (lkN (by decide +kernel)).trans lkH
theorem clF3 (k n l : V) : (clF k n l).lookup ("lists" : Str) = some l := (lkN (by decide +kernel)).trans ((lkN (by decide +kernel)).trans lkH)
def spInitCall (C : Addr) : Sp := fun vs H Q _ => ∃ (p dx : Addr) (k n l : V), vs = [.ref p, k, n, l] ∧ H p = some (.ins C dx []) ∧ Made C p dx (clF k n l) H Q
theorem ok_init_Call (T : ClT K C) (D : Di K mg "Call" "Call.__init__" C s_init_Call ["self", "kind", "numbers", "lists"]) : C8.Mak P w K mg base 1 "Call" C (spInitCall C) [] := by
  refine D.mak sc_init_Call (fun vs H Q E h => ?_) (fun f cdv A outer s H vs Q E hr h => ?_)
  · obtain ⟨p, dx, k, n, l, rfl, _⟩ := h
    rfl
  · obtain ⟨p, dx, k, n, l, rfl, hp, q⟩ := h
    refine ⟨_, (pss_cons (ps_fld (pv 0) (pv 1) rfl)
        (pss_cons (ps_fld (pv 0) (pv 2) rfl)
        (pss_one (ps_fld (pv 0) (pv 3) rfl)))), ?_⟩
    refine ⟨_, rfl, _, rfl, p, C, dx, [], rfl, hp, T.cl, T.n1, by show 0 < 1000; decide, ?_⟩
    refine ⟨_, rfl, _, rfl, p, C, dx, _, rfl, upd_same, T.cl, T.n2, by show 1 < 1000; decide, ?_⟩
    refine ⟨_, rfl, _, rfl, p, C, dx, _, rfl, upd_same, T.cl, T.n3, by show 2 < 1000; decide, ?_⟩
    refine q _ ?_ (fun b o e hb => by rw [upd_ne hb, upd_ne hb, upd_ne hb]; exact e)
    rw [upd_same, put0, putN (by decide +kernel), put0, putN (by decide +kernel), putN (by decide +kernel), put0]
end
end CR

namespace CR
open PySem PySem.Spec PyProof.Rows L2
/-! ### what changes: the things at M, no others -/
structure Wr (I H I' H' : Hp) (M M' : List Addr) : Prop where
  f : ∀ b o, H b = some o → b ∉ M → H' b = some o
  u : Same I I'
  b : Same I' H'
  n : ∀ b, I b = none → H b ≠ none → I' b = none
  m : ∀ x, x ∈ M' → x ∈ M ∨ H x = none
  d : ∀ b, H b ≠ none → H' b ≠ none
section
variable {I H I1 H1 I2 H2 : Hp} {M M1 M2 : List Addr} {p : Addr} {o : HO}
theorem some_ne {x : Option HO} (h : x = some o) : x ≠ none := fun e => by
  rw [e] at h
  cases h
theorem ne_some {x : Option HO} (h : x ≠ none) : ∃ o, x = some o := by
  cases x with
  | none => exact absurd rfl h
  | some o => exact ⟨o, rfl⟩
theorem Wr.ofG (g : G I H I1 H1) : Wr I H I1 H1 M M := ⟨fun b o e _ => g.s b o e, g.u, g.b, g.n, fun _ h => .inl h, fun b e => by
  obtain ⟨o, eo⟩ := ne_some e
  exact some_ne (g.s b o eo)⟩
theorem Wr.refl (h : Same I H) : Wr I H I H M M := Wr.ofG (G.refl h)
theorem Wr.trans (a : Wr I H I1 H1 M M1) (c : Wr I1 H1 I2 H2 M1 M2) : Wr I H I2 H2 M M2 := ⟨fun b o e hb => c.f b o (a.f b o e hb) (fun h => by
  rcases a.m b h with h | h
  · exact hb h
  · exact some_ne e h), a.u.trans c.u, c.b, fun b e f => c.n b (a.n b e f) (a.d b f), fun x h => by
  rcases c.m x h with h | h
  · exact a.m x h
  · refine .inr ?_
    cases e : H x with
    | none => rfl
    | some o => exact absurd h (a.d x (some_ne e)), fun b e => c.d b (a.d b e)⟩
theorem Wr.mut (h : Same I H) (hm : p ∈ M) (e : I p = none) : Wr I H I (upd H p o) M M := ⟨fun b o e hb => by
  rw [upd_ne (fun z => hb (by rw [z]; exact hm))]
  exact e, Same.refl _, fun b u q => by
  rw [upd_ne (ne_of_none q e)]
  exact h b u q, fun _ e _ => e, fun _ h => .inl h, fun b hb => by
  by_cases z : b = p
  · subst z
    rw [upd_same]
    intro z
    cases z
  · rw [upd_ne z]
    exact hb⟩
/-- a thing of one's own changes -/
theorem Wr.own (a : Wr I H I1 H1 M M1) (e : H p = none) (f : I1 p = none) : Wr I H I1 (upd H1 p o) M M1 := ⟨fun b u q hb => by
  rw [upd_ne (ne_of_none q e)]
  exact a.f b u q hb, a.u, fun b u q => by
  rw [upd_ne (ne_of_none q f)]
  exact a.b b u q, a.n, a.m, fun b hb => by
  by_cases z : b = p
  · subst z
    exact absurd e hb
  · rw [upd_ne z]
    exact a.d b hb⟩
theorem Wr.pub (a : Wr I H I1 H1 M M1) (e : H p = none) (k : H1 p = some o) (hI : Same I H) : Wr I H (upd I1 p o) H1 M M1 := ⟨a.f, fun b u q => by
  rw [upd_ne (ne_of_none q (none_of hI e))]
  exact a.u b u q, fun b u q => by
  by_cases z : b = p
  · subst z
    rw [upd_same] at q
    rw [k]
    exact q
  · rw [upd_ne z] at q
    exact a.b b u q, fun b x y => by
  have z : b ≠ p := fun z => y (z ▸ e)
  rw [upd_ne z]
  exact a.n b x y, a.m, a.d⟩
theorem Wr.weak {M0 : List Addr} (a : Wr I H I1 H1 M M1) (h : ∀ x ∈ M2, x ∈ M1 ∨ H x = none) (h0 : ∀ x ∈ M, x ∈ M0) : Wr I H I1 H1 M0 M2 := ⟨fun b o e hb => a.f b o e (fun z => hb (h0 b z)), a.u, a.b, a.n, fun x hx => by
  rcases h x hx with h | h
  · rcases a.m x h with h | h
    · exact .inl (h0 x h)
    · exact .inr h
  · exact .inr h, a.d⟩
end
/-- a list that is no thing of M still stands -/
theorem sq_wr {K : PySem.W.Frag} {I H I' H' : Hp} {M M' : List Addr} {b : Addr} {xs : List V} (h : SqL K H b xs) (w : Wr I H I' H' M M') (hm : (∃ o, H b = some o) → b ∉ M) : SqL K H' b xs := by
  rcases h with (h | ⟨z, h⟩) | h
  · exact .inl (.inl (w.f _ _ h (hm ⟨_, h⟩)))
  · exact .inl (.inr ⟨z, w.f _ _ h (hm ⟨_, h⟩)⟩)
  · exact .inr h
theorem sq_wr1 {K : PySem.W.Frag} {I H I' H' : Hp} {a C dx b : Addr} {fs : List (Str × V)} {xs : List V} (h : SqL K H b xs) (w : Wr I H I' H' [a] [a]) (ha : H a = some (.ins C dx fs)) : SqL K H' b xs := by
  rcases h with (h | ⟨z, h⟩) | h
  · refine .inl (.inl (w.f _ _ h fun e => ?_))
    rw [List.mem_singleton.mp e, ha] at h
    cases h
  · refine .inl (.inr ⟨z, w.f _ _ h fun e => ?_⟩)
    rw [List.mem_singleton.mp e, ha] at h
    cases h
  · exact .inr h
/-- an object that is made -/
theorem made_G {I H : Hp} {C x dx : Addr} {fs : List (Str × V)} {Q : VK} (hI : Same I H) (nx : H x = none) (nd : H dx = none) (k : ∀ H', G I H I H' → H' x = some (.ins C dx fs) → Q .non H') : Made C x dx fs (upd (upd H dx (.own x)) x (.ins C dx [])) Q := fun H' hx kp => by
  have s1 : Same H H' := fun b o e => by
    have e1 : b ≠ x := ne_of_none e nx
    have e2 : b ≠ dx := ne_of_none e nd
    exact kp b o (by rw [upd_ne e1, upd_ne e2]; exact e) e1
  exact k H' ⟨s1, Same.refl _, hI.trans s1, fun _ e _ => e⟩ hx
theorem drop_cons {A : Type} {l r : List A} {i : Nat} {x : A} (h : l.drop i = x :: r) : l[i]? = some x ∧ l.drop (i + 1) = r ∧ i < l.length := by
  have hi : i < l.length := by
    rcases Nat.lt_or_ge i l.length with z | z
    · exact z
    · rw [List.drop_eq_nil_of_le z] at h
      cases h
  rw [List.drop_eq_getElem_cons hi] at h
  refine ⟨?_, ?_, hi⟩
  · rw [List.getElem?_eq_getElem hi]
    exact congrArg some (List.cons.inj h).1
  · exact (List.cons.inj h).2
/-- a row at a place -/
theorem row_at {l : List Int} {i : Nat} {x r : List Int} (h : PyFlat.row (l.drop i) = some (x, r)) : ∃ c : Nat, l[i]? = some (c : Int) ∧ i + 1 + c ≤ l.length ∧ x = (l.drop (i + 1)).take c ∧ r = l.drop (i + 1 + c) := by
  cases e : l.drop i with
  | nil =>
    rw [e] at h
    cases h
  | cons n s =>
    rw [e] at h
    obtain ⟨h1, h2, h3⟩ := drop_cons e
    have h : (if 0 ≤ n ∧ n.toNat ≤ s.length then some (s.take n.toNat, s.drop n.toNat) else none) = some (x, r) := h
    split at h
    · rename_i hc
      have hh := Option.some.inj h
      have e1 := (Prod.mk.inj hh).1
      have e2 := (Prod.mk.inj hh).2
      refine ⟨n.toNat, ?_, ?_, ?_, ?_⟩
      · rw [h1, Int.toNat_of_nonneg hc.1]
      · have := hc.2
        rw [← h2, List.length_drop] at this
        omega
      · rw [h2, e1]
      · rw [← e2, ← h2, List.drop_drop]
    · cases h
theorem rows_succ {k : Nat} {r : List Int} {xs : List (List Int)} {t : List Int} (h : PyFlat.rows (k + 1) r = some (xs, t)) : ∃ x s ys, PyFlat.row r = some (x, s) ∧ PyFlat.rows k s = some (ys, t) ∧ xs = x :: ys := by
  have h : (match PyFlat.row r with
    | none => none
    | some (x, s) => match PyFlat.rows k s with
      | none => none
      | some (xs, t) => some (x :: xs, t)) = some (xs, t) := h
  cases e : PyFlat.row r with
  | none =>
    rw [e] at h
    cases h
  | some z =>
    obtain ⟨x, s⟩ := z
    rw [e] at h
    cases e2 : PyFlat.rows k s with
    | none =>
      simp only [e2] at h
      cases h
    | some y =>
      obtain ⟨ys, t'⟩ := y
      simp only [e2] at h
      have hh := Option.some.inj h
      refine ⟨x, s, ys, rfl, ?_, ((Prod.mk.inj hh).1).symm⟩
      rw [e2, (Prod.mk.inj hh).2]
theorem row_len {r x s : List Int} (h : PyFlat.row r = some (x, s)) : s.length < r.length := by
  cases r with
  | nil => cases h
  | cons n r =>
    have h : (if 0 ≤ n ∧ n.toNat ≤ r.length then some (r.take n.toNat, r.drop n.toNat) else none) = some (x, s) := h
    split at h
    · have hh := Option.some.inj h
      rw [← (Prod.mk.inj hh).2, List.length_drop, List.length_cons]
      omega
    · cases h
theorem rows_len : ∀ {k : Nat} {r : List Int} {xs : List (List Int)} {t : List Int}, PyFlat.rows k r = some (xs, t) → k ≤ r.length ∧ xs.length = k
  | 0, r, xs, t, h => by
    have hh := Option.some.inj h
    rw [← (Prod.mk.inj hh).1]
    exact ⟨Nat.zero_le _, rfl⟩
  | k + 1, r, xs, t, h => by
    obtain ⟨x, s, ys, h1, h2, rfl⟩ := rows_succ h
    have l1 := row_len h1
    obtain ⟨l2, l3⟩ := rows_len h2
    refine ⟨by omega, ?_⟩
    rw [List.length_cons, l3]
section
variable {P : Program} {w : World} {K : PySem.W.Frag} {mg : Str → Option Value} {base : Heap} {aW C CC : Addr}
abbrev s_read_call : Stmt := top 80
abbrev N_read_call : List Str := ["reader", "kind", "numbers", "lists", "turn"]
theorem sc_read_call : FnScope N_read_call ["reader"] (defScope s_read_call) := ⟨rfl, rfl, rfl, by decide +kernel, rfl, by decide +kernel, by decide +kernel⟩
def CallR (CC : Addr) (I : Hp) (v : V) (c : List (List Int)) : Prop := ∃ b dx p ns xs vn vl, c = (p :: ns) :: xs ∧ v = .ref b ∧ I b = some (.ins CC dx (clF (.int p) vn vl)) ∧ IntsR I vn ns ∧ IntssR I vl xs
theorem CallR.mo : Mo (CallR CC) := fun _ _ _ _ s ⟨b, dx, p, ns, xs, vn, vl, e1, e2, h, h1, h2⟩ => ⟨b, dx, p, ns, xs, vn, vl, e1, e2, s _ _ h, IntsR.mo _ _ _ _ s h1, IntssR.mo _ _ _ _ s h2⟩
def spReadCall (K : PySem.W.Frag) (C CC : Addr) : Sp := fun vs H Q _ => ∃ (I : Hp) (a dx ac : Addr) (l : List Int) (i : Nat) (c : List (List Int)) (rest : List Int), vs = [.ref a] ∧ Same I H ∧ I a = none ∧ H a = some (.ins C dx (rdF ac i)) ∧ SqL K H ac (l.map V.int) ∧ l.length ≤ 6000 ∧ PyWide.call (l.drop i) = some (c, rest) ∧
  ∀ I' H' v i', Wr I H I' H' [a] [a] → H' a = some (.ins C dx (rdF ac i')) → SqL K H' ac (l.map V.int) → l.drop i' = rest → i < i' → CallR CC I' v c → Q v H'
/-- behind read_numbers -/
theorem ok_read_call (T : Top K mg aW) (TR : RdT K C) (D : Dn K mg "read_call" s_read_call ["reader"]) (c_read_number : C8.Cal P w K mg base 1 "read_number" (spReadNumber K C) []) (c_read_numbers : C8.Cal P w K mg base 2 "read_numbers" (spReadNumbers K C) []) (m_Call : C8.Mak P w K mg base 1 "Call" CC (spInitCall CC) []) :
    C8.Cal P w K mg base 3 "read_call" (spReadCall K C CC) [] := by
  refine D.cal sc_read_call (fun vs H Q E h => ?_) (fun f cdv A outer s H vs Q E hr h => ?_)
  · obtain ⟨I, a, dx, ac, l, i, c, rest, rfl, _⟩ := h
    rfl
  · obtain ⟨I, a, dx, ac, l, i, c, rest, rfl, hI, Ia, ha, hs, hl, hc, q⟩ := h
    refine ⟨_, (pss_cons (ps_set (i := 1) sc_read_call.nd rfl (Or.inl rfl) (C8.pe_c c_read_number hr (by decide) rfl (pa_cons (pv 0) pa_nil)))
        (pss_cons (ps_set (i := 2) sc_read_call.nd rfl (Or.inl rfl) (C8.pe_c c_read_numbers hr (by decide) rfl (pa_cons (pv 0) pa_nil)))
        (pss_cons (ps_set (i := 3) sc_read_call.nd rfl (Or.inl rfl) (pe_lst pa_nil))
        (pss_cons (ps_for PassesOwn.never rfl (pi_range1 (by rfl) T.b_range (pa_cons (C8.pe_c c_read_number hr (by decide) rfl (pa_cons (pv 0) pa_nil)) pa_nil)) (pg_name (i := 4) sc_read_call.nd rfl (Or.inl rfl)) (pss_one (ps_expr (pe_bm PySem.F.plainAttrs_list PySem.F.slot_list_append PySem.F.type_list_append mt_append (pv 3) (pa_cons (C8.pe_c c_read_numbers hr (by decide) rfl (pa_cons (pv 0) pa_nil)) pa_nil)))))
        (pss_one (ps_ret (C8.pe_mk m_Call hr (by decide) rfl (pa_cons (pv 1) (pa_cons (pv 2) (pa_cons (pv 3) pa_nil)))))))))), ?_⟩
    -- the call's parts
    cases e0 : l.drop i with
    | nil =>
      rw [e0] at hc
      cases hc
    | cons p r0 =>
      obtain ⟨hp, er0, hi⟩ := drop_cons e0
      rw [e0] at hc
      unfold PyWide.call at hc
      simp only at hc
      rw [← er0] at hc
      cases e1 : PyFlat.row (l.drop (i + 1)) with
      | none =>
        rw [e1] at hc
        cases hc
      | some nr =>
        obtain ⟨ns, r1⟩ := nr
        rw [e1] at hc
        obtain ⟨c0, hc0, hl0, ens, er1⟩ := row_at e1
        cases r1 with
        | nil => cases hc
        | cons k t =>
          simp only at hc
          split at hc
          case isFalse => cases hc
          case isTrue hk0 =>
            cases e2 : PyFlat.rows k.toNat t with
            | none =>
              rw [e2] at hc
              cases hc
            | some xt =>
              obtain ⟨xs, u⟩ := xt
              rw [e2] at hc
              have hh := Option.some.inj hc
              have ec : c = (p :: ns) :: xs := ((Prod.mk.inj hh).1).symm
              have eu : u = rest := (Prod.mk.inj hh).2
              subst ec eu
              obtain ⟨hk, et, hi2⟩ := drop_cons er1.symm
              obtain ⟨kn, ekn⟩ : ∃ kn : Nat, k = (kn : Int) := ⟨k.toNat, (Int.toNat_of_nonneg hk0).symm⟩
              subst ekn
              rw [Int.toNat_natCast] at e2
              -- kind, numbers
              refine ⟨_, rfl, a, dx, ac, l, i, p, rfl, ha, hs, hp, ?_⟩
              have w1 : Wr I H I (upd H a (.ins C dx (rdF ac (i + 1)))) [a] [a] := Wr.mut hI (by simp) Ia
              have s1 : SqL K (upd H a (.ins C dx (rdF ac (i + 1)))) ac (l.map V.int) := sq_ins hs ha
              refine ⟨_, rfl, a, dx, ac, l, i + 1, c0, rfl, upd_same, s1, hc0, hl0, fun p2 n2 => ?_⟩
              rw [upd_upd] at *
              have np2 : H p2 = none := by
                by_cases z : p2 = a
                · subst z
                  rw [upd_same] at n2
                  cases n2
                · rw [upd_ne z] at n2
                  exact n2
              have pa2 : p2 ≠ a := fun z => by
                rw [z, upd_same] at n2
                cases n2
              have w2a : Wr I H I (upd H a (.ins C dx (rdF ac (i + 1 + 1 + c0)))) [a] [a] := Wr.mut hI (by simp) Ia
              have n2a : upd H a (.ins C dx (rdF ac (i + 1 + 1 + c0))) p2 = none := by
                rw [upd_ne pa2]
                exact np2
              have g2 := G.new (o := .lst (((l.drop (i + 1 + 1)).take c0).map V.int)) w2a.b n2a
              have w2 := w2a.trans (Wr.ofG (M := [a]) g2)
              have s2 := sq_new (o' := .lst (((l.drop (i + 1 + 1)).take c0).map V.int)) (sq_ins (o' := .ins C dx (rdF ac (i + 1 + 1 + c0))) hs ha) n2a
              rw [← ens] at *
              generalize hH2 : upd (upd H a (.ins C dx (rdF ac (i + 1 + 1 + c0)))) p2 (.lst (ns.map V.int)) = H2 at *
              generalize hI2 : upd I p2 (.lst (ns.map V.int)) = I2 at *
              have a2 : H2 a = some (.ins C dx (rdF ac (i + 1 + 1 + c0))) := by
                rw [← hH2, upd_ne pa2.symm, upd_same]
              have I2a : I2 a = none := w2.n a Ia (some_ne ha)
              have rn : IntsR I2 (.ref p2) ns := ⟨p2, rfl, by rw [← hI2, upd_same]⟩
              -- lists = []
              refine ⟨Nat.zero_le _, fun o no => ?_⟩
              have noH : H o = none := by
                cases z : H o with
                | none => rfl
                | some y => exact absurd no (w2.d o (some_ne z))
              have I2o : I2 o = none := none_of w2.b no
              have w3 := w2.own (o := .lst []) noH I2o
              have ao : a ≠ o := ne_of_none a2 no
              have a3 : upd H2 o (.lst []) a = some (.ins C dx (rdF ac (i + 1 + 1 + c0))) := by
                rw [upd_ne ao]
                exact a2
              -- range(read_number(reader))
              have hk' : l[i + 1 + 1 + c0]? = some (kn : Int) := hk
              refine ⟨_, rfl, a, dx, ac, l, i + 1 + 1 + c0, (kn : Int), rfl, a3, sq_new s2 no, hk', (kn : Int), rfl, ?_, ?_, ?_⟩
              · omega
              · have := (rows_len e2).1
                rw [← et, List.length_drop] at this
                omega
              · have w4a : Wr I H I2 (upd (upd H2 o (.lst [])) a (.ins C dx (rdF ac (i + 1 + 1 + c0 + 1)))) [a] [a] := w3.trans (Wr.mut w3.b (by simp) I2a)
                have s4 : SqL K (upd (upd H2 o (.lst [])) a (.ins C dx (rdF ac (i + 1 + 1 + c0 + 1)))) ac (l.map V.int) := sq_ins (sq_new s2 no) a3
                refine for_it walk_rg (fun m σ H' => ∃ I' im ys y4, σ = [some (.ref a), some (.int p), some (.ref p2), some (.ref o), y4] ∧ Wr I H I' H' [a] [a] ∧ Same I2 I' ∧ I' o = none ∧ H' o = some (.lst ys) ∧ All2 (IntsR I') ys (xs.take m) ∧ H' a = some (.ins C dx (rdF ac im)) ∧
                  SqL K H' ac (l.map V.int) ∧ PyFlat.rows (kn - m) (l.drop im) = some (xs.drop m, u) ∧ i < im) ?_ ?_ ?_ ?_
                · refine ⟨I2, _, [], none, rfl, w4a, Same.refl _, I2o, ?_, by simpa using All2.nil, upd_same, s4, ?_, by omega⟩
                  · rw [upd_ne ao.symm, upd_same]
                  · rw [Nat.sub_zero, et]
                    exact e2
                · rintro m σ H' _ _
                  trivial
                · rintro m x σ H5 H5' hm ⟨I5, im, ys, y4, rfl, w5, u5, I5o, ho5, a5, ha5, s5, e5, hi5⟩ ⟨rfl, rfl⟩
                  have hm' : m < kn := by simpa using hm
                  rw [show kn - m = (kn - (m + 1)) + 1 by omega] at e5
                  obtain ⟨x, s', ys', h1, h2, h3⟩ := rows_succ e5
                  obtain ⟨c1, hc1, hl1, ex1, es1⟩ := row_at h1
                  have lys := a5.length
                  have I5a : I5 a = none := w5.n a Ia (some_ne ha)
                  refine ⟨_, rfl, .inl ⟨rfl, _, SqL.of ho5⟩, _, rfl, a, dx, ac, l, im, c1, rfl, ha5, s5, hc1, hl1, fun p6 n6 => ?_⟩
                  have pa6 : p6 ≠ a := fun z => by
                    rw [z, ha5] at n6
                    cases n6
                  have po6 : o ≠ p6 := ne_of_none ho5 n6
                  have oa : o ≠ a := ao.symm
                  have w6a := w5.trans (Wr.mut (M := [a]) (o := .ins C dx (rdF ac (im + 1 + c1))) w5.b (by simp) I5a)
                  have n6a : upd H5' a (.ins C dx (rdF ac (im + 1 + c1))) p6 = none := by
                    rw [upd_ne pa6]
                    exact n6
                  have g6 := G.new (o := .lst (((l.drop (im + 1)).take c1).map V.int)) w6a.b n6a
                  have w6 := w6a.trans (Wr.ofG (M := [a]) g6)
                  have ho6 : upd (upd H5' a (.ins C dx (rdF ac (im + 1 + c1)))) p6 (.lst (((l.drop (im + 1)).take c1).map V.int)) o = some (.lst ys) := by
                    rw [upd_ne po6, upd_ne oa]
                    exact ho5
                  have I6o : upd I5 p6 (.lst (((l.drop (im + 1)).take c1).map V.int)) o = none := by
                    rw [upd_ne po6]
                    exact I5o
                  have lxs := (rows_len e2).2
                  refine ⟨o, ys, _, rfl, rfl, ho6, sz_lt ?_, ?_⟩
                  · rw [lys, List.length_take]
                    have := (rows_len e2).1
                    rw [← et, List.length_drop] at this
                    omega
                  · refine ⟨_, im + 1 + c1, _, _, rfl, w6.own noH I6o, u5.trans g6.u, I6o, upd_same, ?_, ?_, ?_, ?_, by omega⟩
                    · obtain ⟨hx, _, _⟩ := drop_cons h3
                      rw [List.take_add_one, hx]
                      refine (All2.mo IntsR.mo g6.u a5).snoc ⟨p6, rfl, ?_⟩
                      rw [upd_same, ex1]
                    · rw [upd_ne ao, upd_ne pa6.symm, upd_same]
                    · exact sq_wr1 hs (w6.own noH I6o) ha
                    · obtain ⟨_, hd, _⟩ := drop_cons h3
                      rw [hd, ← es1]
                      exact h2
                · rintro σ H5 ⟨I5, im, ys, y4, rfl, w5, u5, I5o, ho5, a5, ha5, s5, e5, hi5⟩
                  rw [Int.toNat_natCast] at a5 e5
                  rw [Nat.sub_self] at e5
                  have lxs := (rows_len e2).2
                  rw [← lxs, List.take_length] at a5
                  have eu : l.drop im = u := (Prod.mk.inj (Option.some.inj e5)).2
                  refine ⟨_, rfl, _, rfl, _, rfl, ?_⟩
                  intro xa dxa nx nd ne
                  have w6 := w5.pub noH ho5 hI
                  refine ⟨xa, dxa, _, _, _, rfl, upd_same, made_G w6.b nx nd fun H7 g7 hx7 => ⟨rfl, ?_⟩⟩
                  have nxH : H xa = none := by
                    cases z : H xa with
                    | none => rfl
                    | some y => exact absurd nx (w6.d xa (some_ne z))
                  have w7 := (w6.trans (Wr.ofG (M := [a]) g7)).pub nxH hx7 hI
                  have s6 := same_new (o := .lst ys) I5o
                  have nxI : upd I5 o (.lst ys) xa = none := none_of w6.b nx
                  have s7 := same_new (o := .ins CC dxa (clF (.int p) (.ref p2) (.ref o))) nxI
                  refine q _ _ _ im w7 (g7.s _ _ ha5) (g7.s.seq s5) eu hi5 ⟨xa, dxa, p, ns, xs, _, _, rfl, rfl, upd_same, IntsR.mo _ _ _ _ (u5.trans (s6.trans s7)) rn, ⟨o, ys, rfl, s7 _ _ upd_same, All2.mo IntsR.mo (s6.trans s7) a5⟩⟩
end
end CR

namespace CR
open PySem PySem.Spec PyProof.Rows L2
/-! ### how a collection lies in the heap -/
structure ColT (K : PySem.W.Frag) (CC CS CP : Addr) : Prop where
  cc : Cls K CC
  c1 : NoAttr K CC "high"
  c2 : NoAttr K CC "signs"
  c3 : NoAttr K CC "seals"
  c4 : NoAttr K CC "pieces"
  c5 : NoAttr K CC "next_piece"
  cs : Cls K CS
  s1 : NoAttr K CS "ages"
  cp : Cls K CP
  p1 : NoAttr K CP "year"
  p2 : NoAttr K CP "picture"
  p3 : NoAttr K CP "given"
abbrev coF (h m : Nat) (as ap : Addr) (n : Nat) : List (Str × V) := [("high", vN h), ("signs", vN m), ("seals", .ref as), ("pieces", .ref ap), ("next_piece", vN n)]
abbrev seF (g : Addr) : List (Str × V) := [("ages", .ref g)]
abbrev piF (y p g : V) : List (Str × V) := [("year", y), ("picture", p), ("given", g)]
section
variable {h m n n' : Nat} {as ap g : Addr} {y p q v : V}
theorem coF1 : (coF h m as ap n).lookup ("high" : Str) = some (vN h) := lkH
theorem coF2 : (coF h m as ap n).lookup ("signs" : Str) = some (vN m) := (lkN (by decide +kernel)).trans lkH
theorem coF3 : (coF h m as ap n).lookup ("seals" : Str) = some (.ref as) := (lkN (by decide +kernel)).trans ((lkN (by decide +kernel)).trans lkH)
theorem coF4 : (coF h m as ap n).lookup ("pieces" : Str) = some (.ref ap) := (lkN (by decide +kernel)).trans ((lkN (by decide +kernel)).trans ((lkN (by decide +kernel)).trans lkH))
theorem coF5 : (coF h m as ap n).lookup ("next_piece" : Str) = some (vN n) := (lkN (by decide +kernel)).trans ((lkN (by decide +kernel)).trans ((lkN (by decide +kernel)).trans ((lkN (by decide +kernel)).trans lkH)))
theorem coFput : putF "next_piece" (vN n') (coF h m as ap n) = coF h m as ap n' := (putN (by decide +kernel)).trans (congrArg _ ((putN (by decide +kernel)).trans (congrArg _ ((putN (by decide +kernel)).trans (congrArg _ ((putN (by decide +kernel)).trans (congrArg _ putH)))))))
theorem seF1 : (seF g).lookup ("ages" : Str) = some (.ref g) := lkH
theorem piF1 : (piF y p q).lookup ("year" : Str) = some y := lkH
theorem piF2 : (piF y p q).lookup ("picture" : Str) = some p := (lkN (by decide +kernel)).trans lkH
theorem piF3 : (piF y p q).lookup ("given" : Str) = some q := (lkN (by decide +kernel)).trans ((lkN (by decide +kernel)).trans lkH)
theorem piFput2 : putF "picture" v (piF y p q) = piF y v q := (putN (by decide +kernel)).trans (congrArg _ putH)
theorem piFput3 : putF "given" v (piF y p q) = piF y p v := (putN (by decide +kernel)).trans (congrArg _ ((putN (by decide +kernel)).trans (congrArg _ putH)))
end
def GivR (I : Hp) (v : V) (c : Option (Nat × Nat)) : Prop := match c with
  | none => v = .non
  | some x => ColR I v [x.1, x.2]
theorem GivR.mo : Mo GivR := fun I I' v c s h => by
  cases c with
  | none => exact h
  | some x => exact ColR.mo _ _ _ _ s h
inductive SealsAt (CS : Addr) (I H : Hp) : List V → List (List (List (List Nat))) → List Addr → Prop
  | nil : SealsAt CS I H [] [] []
  | cons {a dx g : Addr} {vs : List V} {q : List (List (List Nat))} {svs : List V} {qs : List (List (List (List Nat)))} {gs : List Addr} : I a = some (.ins CS dx (seF g)) → H g = some (.lst vs) → All2 (PicR I) vs q → SealsAt CS I H svs qs gs → SealsAt CS I H (.ref a :: svs) (q :: qs) (g :: gs)
inductive PiecesAt (CP : Addr) (I H : Hp) : List (Key × V) → List Mu34.Piece → List Addr → Prop
  | nil : PiecesAt CP I H [] [] []
  | cons {a dx : Addr} {vp vg : V} {c : Mu34.Piece} {kvs : List (Key × V)} {cs : List Mu34.Piece} {ps : List Addr} : H a = some (.ins CP dx (piF (vN c.year) vp vg)) → PicR I vp c.pic → GivR I vg c.claim → PiecesAt CP I H kvs cs ps → PiecesAt CP I H ((Sum.inl (c.id : Int), .ref a) :: kvs) (c :: cs) (a :: ps)
section
variable {CC CS CP : Addr} {I H I' H' : Hp}
theorem SealsAt.frame (u : Same I I') : ∀ {svs : List V} {qs : List (List (List (List Nat)))} {gs : List Addr}, (∀ g ∈ gs, ∀ o, H g = some o → H' g = some o) → SealsAt CS I H svs qs gs → SealsAt CS I' H' svs qs gs
  | _, _, _, _, .nil => .nil
  | _, _, _, f, .cons h1 h2 h3 t => .cons (u _ _ h1) (f _ (List.mem_cons_self ..) _ h2) (All2.mo PicR.mo u h3) (t.frame u fun g hg => f g (List.mem_cons_of_mem _ hg))
theorem PiecesAt.frame (u : Same I I') : ∀ {kvs : List (Key × V)} {cs : List Mu34.Piece} {ps : List Addr}, (∀ p ∈ ps, ∀ o, H p = some o → H' p = some o) → PiecesAt CP I H kvs cs ps → PiecesAt CP I' H' kvs cs ps
  | _, _, _, _, .nil => .nil
  | _, _, _, f, .cons h1 h2 h3 t => .cons (f _ (List.mem_cons_self ..) _ h1) (PicR.mo _ _ _ _ u h2) (GivR.mo _ _ _ _ u h3) (t.frame u fun g hg => f g (List.mem_cons_of_mem _ hg))
theorem SealsAt.len : ∀ {svs : List V} {qs : List (List (List (List Nat)))} {gs : List Addr}, SealsAt CS I H svs qs gs → svs.length = qs.length ∧ gs.length = qs.length
  | _, _, _, .nil => ⟨rfl, rfl⟩
  | _, _, _, .cons _ _ _ t => ⟨congrArg (· + 1) t.len.1, congrArg (· + 1) t.len.2⟩
theorem PiecesAt.len : ∀ {kvs : List (Key × V)} {cs : List Mu34.Piece} {ps : List Addr}, PiecesAt CP I H kvs cs ps → kvs.length = cs.length ∧ ps.length = cs.length
  | _, _, _, .nil => ⟨rfl, rfl⟩
  | _, _, _, .cons _ _ _ t => ⟨congrArg (· + 1) t.len.1, congrArg (· + 1) t.len.2⟩
theorem SealsAt.get : ∀ {svs : List V} {qs : List (List (List (List Nat)))} {gs : List Addr}, SealsAt CS I H svs qs gs → ∀ {k : Nat} {q : List (List (List Nat))}, qs[k]? = some q → ∃ a dx g vs, svs[k]? = some (.ref a) ∧ gs[k]? = some g ∧ I a = some (.ins CS dx (seF g)) ∧ H g = some (.lst vs) ∧ All2 (PicR I) vs q
  | _, _, _, .cons (vs := vs) h1 h2 h3 _, 0, q, e => by
    have e := Option.some.inj e
    subst e
    exact ⟨_, _, _, vs, rfl, rfl, h1, h2, h3⟩
  | _, _, _, .cons _ _ _ t, k + 1, q, e => t.get (k := k) e
theorem SealsAt.snoc : ∀ {svs : List V} {qs : List (List (List (List Nat)))} {gs : List Addr}, SealsAt CS I H svs qs gs → ∀ {a dx g : Addr} {vs : List V} {q : List (List (List Nat))}, I a = some (.ins CS dx (seF g)) → H g = some (.lst vs) → All2 (PicR I) vs q → SealsAt CS I H (svs ++ [.ref a]) (qs ++ [q]) (gs ++ [g])
  | _, _, _, .nil, _, _, _, _, _, h1, h2, h3 => .cons h1 h2 h3 .nil
  | _, _, _, .cons a b c t, _, _, _, _, _, h1, h2, h3 => .cons a b c (t.snoc h1 h2 h3)
/-- a seal's ages grow -/
theorem SealsAt.grow {v : V} {p : List (List Nat)} (hp : PicR I v p) : ∀ {svs : List V} {qs : List (List (List (List Nat)))} {gs : List Addr}, SealsAt CS I H svs qs gs → gs.Nodup → ∀ {k : Nat} {q : List (List (List Nat))} {g : Addr} {vs : List V}, qs[k]? = some q → gs[k]? = some g → H g = some (.lst vs) →
    SealsAt CS I (upd H g (.lst (vs ++ [v]))) svs (qs.set k (q ++ [p])) gs
  | _, _, _, .cons h1 h2 h3 t, nd, 0, q, g, vs, e1, e2, e3 => by
    have e1 := Option.some.inj e1
    have e2 := Option.some.inj e2
    subst e1 e2
    rw [h2] at e3
    have e3 := HO.lst.inj (Option.some.inj e3)
    subst e3
    rw [List.nodup_cons] at nd
    refine .cons h1 upd_same (h3.snoc hp) (t.frame (Same.refl _) fun g' hg o e => ?_)
    rw [upd_ne (fun z => nd.1 (by rw [← z]; exact hg))]
    exact e
  | _, _, _, .cons h1 h2 h3 t, nd, k + 1, q, g, vs, e1, e2, e3 => by
    rw [List.nodup_cons] at nd
    have e2' : _ = some g := e2
    refine .cons h1 ?_ h3 (t.grow hp nd.2 (k := k) e1 e2' e3)
    rw [upd_ne (fun z => nd.1 (by rw [z]; exact List.mem_of_getElem? e2'))]
    exact h2
theorem val_cons {k k' : Key} {v : V} {r : List (Key × V)} : valV ((k', v) :: r) k = if k' = k then some v else valV r k := by
  unfold valV
  rw [List.find?_cons]
  by_cases e : k' = k
  · simp [e]
  · simp [e]
theorem inl_ne {a b : Nat} (h : ¬ a = b) : ¬ (Sum.inl (a : Int) : Key) = Sum.inl (b : Int) := fun e => h (Int.ofNat.inj (Sum.inl.inj e))
theorem PiecesAt.find : ∀ {kvs : List (Key × V)} {cs : List Mu34.Piece} {ps : List Addr}, PiecesAt CP I H kvs cs ps → ∀ n : Nat, match cs.find? (fun c => c.id == n) with
    | none => valV kvs (Sum.inl (n : Int)) = none
    | some c => c ∈ cs ∧ c.id = n ∧ ∃ a dx vp vg, a ∈ ps ∧ valV kvs (Sum.inl (n : Int)) = some (.ref a) ∧ H a = some (.ins CP dx (piF (vN c.year) vp vg)) ∧ PicR I vp c.pic ∧ GivR I vg c.claim
  | _, _, _, .nil, n => rfl
  | _, _, _, .cons (a := a) (c := c) (cs := cs) h1 h2 h3 t, n => by
    rw [List.find?_cons, val_cons]
    by_cases e : c.id = n
    · subst e
      rw [beq_self_eq_true, if_pos rfl]
      exact ⟨List.mem_cons_self .., rfl, a, _, _, _, List.mem_cons_self .., rfl, h1, h2, h3⟩
    · rw [beq_eq_false_iff_ne.mpr e, if_neg (inl_ne e)]
      simp only
      have ih := t.find n
      cases hf : cs.find? (fun c => c.id == n) with
      | none =>
        rw [hf] at ih
        exact ih
      | some c' =>
        rw [hf] at ih
        obtain ⟨i1, i2, a', dx, vp, vg, i3, i4⟩ := ih
        exact ⟨List.mem_cons_of_mem _ i1, i2, a', dx, vp, vg, List.mem_cons_of_mem _ i3, i4⟩
theorem PiecesAt.snoc : ∀ {kvs : List (Key × V)} {cs : List Mu34.Piece} {ps : List Addr}, PiecesAt CP I H kvs cs ps → ∀ {a dx : Addr} {vp vg : V} {c : Mu34.Piece}, H a = some (.ins CP dx (piF (vN c.year) vp vg)) → PicR I vp c.pic → GivR I vg c.claim → PiecesAt CP I H (kvs ++ [(Sum.inl (c.id : Int), .ref a)]) (cs ++ [c]) (ps ++ [a])
  | _, _, _, .nil, _, _, _, _, _, h1, h2, h3 => .cons h1 h2 h3 .nil
  | _, _, _, .cons a b c t, _, _, _, _, _, h1, h2, h3 => .cons a b c (t.snoc h1 h2 h3)
/-- a collection: M are the things that change -/
structure CollR (CC CS CP : Addr) (I H : Hp) (v : V) (s : Mu34.State) (M : List Addr) : Prop where
  ex : ∃ a dx as ap svs kvs gs ps, v = .ref a ∧ H a = some (.ins CC dx (coF s.height s.signs as ap s.next)) ∧ H as = some (.lst svs) ∧ H ap = some (.dK kvs) ∧ SealsAt CS I H svs s.seals gs ∧ PiecesAt CP I H kvs s.pieces ps ∧ M = a :: as :: ap :: (gs ++ ps)
  nd : M.Nodup
  no : ∀ m ∈ M, I m = none
  so : ∀ m ∈ M, H m ≠ none
theorem CollR.frame {v : V} {s : Mu34.State} {M : List Addr} (h : CollR CC CS CP I H v s M) (u : Same I I') (f : ∀ m ∈ M, ∀ o, H m = some o → H' m = some o) (n : ∀ m ∈ M, I' m = none) : CollR CC CS CP I' H' v s M := by
  obtain ⟨⟨a, dx, as, ap, svs, kvs, gs, ps, rfl, h1, h2, h3, h4, h5, rfl⟩, nd, no, so⟩ := h
  refine ⟨⟨a, dx, as, ap, svs, kvs, gs, ps, rfl, f _ (by simp) _ h1, f _ (by simp) _ h2, f _ (by simp) _ h3, h4.frame u fun g hg => f g (by simp [hg]), h5.frame u fun g hg => f g (by simp [hg]), rfl⟩, nd, n, fun m hm => ?_⟩
  obtain ⟨o, e⟩ := ne_some (so m hm)
  exact some_ne (f m hm o e)
theorem CollR.g {v : V} {s : Mu34.State} {M : List Addr} (h : CollR CC CS CP I H v s M) (g : G I H I' H') : CollR CC CS CP I' H' v s M :=
  h.frame g.u (fun m _ o e => g.s m o e) fun m hm => g.n m (h.no m hm) (h.so m hm)
end
/-! ### what a collection keeps to -/
structure Wf (s : Mu34.State) : Prop where
  h1 : 1 ≤ s.height
  h3 : s.height ≤ 3
  m2 : 2 ≤ s.signs
  m5 : s.signs ≤ 5
  s4 : s.seals.length ≤ 4
  sq : ∀ q ∈ s.seals, q ≠ [] ∧ q.length ≤ 4 ∧ ∀ r ∈ q, ringOk s.height s.signs r = true
  p6 : s.pieces.length ≤ 6
  pc : ∀ c ∈ s.pieces, pieceOk s.height s.signs c.pic = true ∧ c.year ≤ 99 ∧ c.id < s.next
  po : (s.pieces.map (·.id)).Pairwise (· < ·)
theorem Wf.pn {s : Mu34.State} (wf : Wf s) : (s.pieces.map (·.id)).Nodup := wf.po.imp fun h => Nat.ne_of_lt h
theorem ring_of {h m : Nat} {r : List (List Nat)} (e : ringOk h m r = true) : 1 ≤ r.length ∧ r.length ≤ 8 ∧ ∀ c ∈ r, c.length = h ∧ ∀ z ∈ c, z < m := by
  unfold ringOk at e
  simp only [Bool.and_eq_true, decide_eq_true_eq, List.all_eq_true, beq_iff_eq] at e
  exact ⟨e.1, e.2.1, fun c hc => e.2.2 c hc⟩
theorem piece_of {h m : Nat} {r : List (List Nat)} (e : pieceOk h m r = true) : 1 ≤ r.length ∧ r.length ≤ 12 ∧ ∀ c ∈ r, c.length = h ∧ ∀ z ∈ c, z = 9 ∨ z < m := by
  unfold pieceOk at e
  simp only [Bool.and_eq_true, decide_eq_true_eq, List.all_eq_true, beq_iff_eq, Bool.or_eq_true] at e
  exact ⟨e.1, e.2.1, fun c hc => e.2.2 c hc⟩
/-- what a call answers, and what stands behind it -/
def RetS (CC CS CP : Addr) (I H : Hp) (v : V) (M : List Addr) (o : Mu34.Abs × List Int) (Q : VK) : Prop := ∀ s' I' H' x M', o.1 = some s' → Wr I H I' H' M M' → CollR CC CS CP I' H' v s' M' → IntsR I' x o.2 → Q x H'
theorem RetS.same {CC CS CP : Addr} {I H I' H' : Hp} {v x : V} {s : Mu34.State} {M : List Addr} {l : List Int} {Q : VK} (k : RetS CC CS CP I H v M (some s, l) Q) (c : CollR CC CS CP I H v s M) (g : G I H I' H') (h : IntsR I' x l) : Q x H' := k s I' H' x M rfl (Wr.ofG g) (c.g g) h
theorem col_ints {I : Hp} {v : V} {l : List Nat} (h : ColR I v l) : IntsR I v (Mu34.nums l) := by
  obtain ⟨a, rfl, e⟩ := h
  refine ⟨a, rfl, ?_⟩
  rw [e]
  unfold Mu34.nums
  rw [List.map_map]
  rfl
/-- a new list of such numbers is handed back -/
theorem RetS.list {CC CS CP : Addr} {I H I' H' : Hp} {v : V} {s : Mu34.State} {M : List Addr} {l : List Int} {Q : VK} (k : RetS CC CS CP I H v M (some s, l) Q) (c : CollR CC CS CP I H v s M) (g : G I H I' H') {p : Addr} (np : H' p = none) : Q (.ref p) (upd H' p (.lst (l.map V.int))) :=
  k.same c (g.trans (G.new g.b np)) ⟨p, rfl, upd_same⟩
end CR

namespace CR
open PySem PySem.Spec PyProof.Rows L2
structure TopR (K : PySem.W.Frag) (mg : Str → Option Value) (aW : Addr) : Prop extends Top K mg aW where
  WRONG : Cst mg "WRONG" (.int (-1))
  NO_SEAL : Cst mg "NO_SEAL" (.int (-2))
  NO_PIECE : Cst mg "NO_PIECE" (.int (-3))
  SAME_SEAL : Cst mg "SAME_SEAL" (.int (-4))
  TOO_MANY : Cst mg "TOO_MANY" (.int (-5))
  CANNOT_BE : Cst mg "CANNOT_BE" (.int (-6))
  GIVEN : Cst mg "GIVEN" (.int (-8))
  NO_COLLECTION : Cst mg "NO_COLLECTION" (.int (-9))
  YEARS_DIFFER : Cst mg "YEARS_DIFFER" (.int (-10))
  SIGNS_DIFFER : Cst mg "SIGNS_DIFFER" (.int (-11))
  MOST_SEALS : Cst mg "MOST_SEALS" (.int 4)
  MOST_PIECES : Cst mg "MOST_PIECES" (.int 6)
  MOST_CUTS : Cst mg "MOST_CUTS" (.int 3)
  MOST_LAID : Cst mg "MOST_LAID" (.int 3)
section
variable {P : Program} {w : World} {K : PySem.W.Frag} {mg : Str → Option Value} {base : Heap} {aW CC CS CP : Addr}
theorem last_of {A : Type} : ∀ {l : List A}, l ≠ [] → ∃ r x, l = r ++ [x]
  | [], h => absurd rfl h
  | [x], _ => ⟨[], x, rfl⟩
  | x :: y :: l, _ => by
    obtain ⟨r, z, e⟩ := last_of (List.cons_ne_nil y l)
    exact ⟨x :: r, z, by rw [e]; rfl⟩
theorem All2.last {A B : Type} {R : A → B → Prop} : ∀ {l : List A} {r : List B}, All2 R l r → ∀ {s : List B} {y : B}, r = s ++ [y] → ∃ t x, l = t ++ [x] ∧ R x y
  | _, _, .nil, s, y, e => by
    have := congrArg List.length e
    simp at this
  | _, _, .cons (a := a) (l := l) h t, [], y, e => by
    have e1 := (List.cons.inj e).1
    have e2 := (List.cons.inj e).2
    subst e1 e2
    cases t
    exact ⟨[], a, rfl, h⟩
  | _, _, .cons (a := a) h t, z :: s, y, e => by
    obtain ⟨t', x, e1, e2⟩ := t.last (s := s) (List.cons.inj e).2
    exact ⟨a :: t', x, by rw [e1]; rfl, e2⟩
theorem now_last {q : List (List (List Nat))} {r : List (List (List Nat))} {p : List (List Nat)} (e : q = r ++ [p]) : Mu34.now q = p := by
  unfold Mu34.now
  rw [e]
  simp
/-! ### ring_now -/
abbrev s_ring_now : Stmt := top 7
abbrev N_ring_now : List Str := ["seal"]
theorem sc_ring_now : FnScope N_ring_now ["seal"] (defScope s_ring_now) := ⟨rfl, rfl, rfl, by decide +kernel, rfl, by decide +kernel, by decide +kernel⟩
def spRingNow (CS : Addr) : Sp := fun vs H Q _ => ∃ (I : Hp) (a dx g : Addr) (ws : List V) (q : List (List (List Nat))), vs = [.ref a] ∧ Same I H ∧ I a = some (.ins CS dx (seF g)) ∧ H g = some (.lst ws) ∧ All2 (PicR I) ws q ∧ q ≠ [] ∧ ∀ x, PicR I x (Mu34.now q) → Q x H
theorem ok_ring_now (TC : ColT K CC CS CP) (D : Dn K mg "ring_now" s_ring_now ["seal"]) : C8.Cal P w K mg base 1 "ring_now" (spRingNow CS) [] := by
  refine D.cal sc_ring_now (fun vs H Q E h => ?_) (fun f cdv A outer s H vs Q E hr h => ?_)
  · obtain ⟨I, a, dx, g, ws, q, rfl, _⟩ := h
    rfl
  · obtain ⟨I, a, dx, g, ws, q, rfl, hI, ha, hg, hw, hq, k⟩ := h
    refine ⟨_, (pss_one (ps_ret (pe_ix ix_list (pe_fld (pv 0) rfl) (pe_un un_neg pe_int) (fun _ _ => rfl)))), ?_⟩
    obtain ⟨r, p, e⟩ := last_of hq
    obtain ⟨t, x, e1, e2⟩ := hw.last e
    refine ⟨_, rfl, a, CS, dx, _, _, rfl, hI _ _ ha, TC.cs, TC.s1, seF1, 1, rfl, g, ws, -1, x, rfl, rfl, SqL.of hg, by rw [e1]; exact atI_last _ _, k x ?_⟩
    rw [now_last e]
    exact e2
/-! ### has_seal, has_piece -/
abbrev s_has_seal : Stmt := top 8
abbrev N_has_seal : List Str := ["collection", "number"]
theorem sc_has_seal : FnScope N_has_seal ["collection", "number"] (defScope s_has_seal) := ⟨rfl, rfl, rfl, by decide +kernel, rfl, by decide +kernel, by decide +kernel⟩
abbrev s_has_piece : Stmt := top 9
abbrev N_has_piece : List Str := ["collection", "number"]
theorem sc_has_piece : FnScope N_has_piece ["collection", "number"] (defScope s_has_piece) := ⟨rfl, rfl, rfl, by decide +kernel, rfl, by decide +kernel, by decide +kernel⟩
def spHasSeal (CC CS CP : Addr) : Sp := fun vs H Q _ => ∃ (I : Hp) (v : V) (s : Mu34.State) (M : List Addr) (n : Nat), vs = [v, vN n] ∧ Same I H ∧ CollR CC CS CP I H v s M ∧ Q (.bl (decide (n < s.seals.length))) H
theorem ok_has_seal (T : TopR K mg aW) (TC : ColT K CC CS CP) (D : Dn K mg "has_seal" s_has_seal ["collection", "number"]) : C8.Cal P w K mg base 1 "has_seal" (spHasSeal CC CS CP) [] := by
  refine D.cal sc_has_seal (fun vs H Q E h => ?_) (fun f cdv A outer s H vs Q E hr h => ?_)
  · obtain ⟨I, v, s, M, n, rfl, _⟩ := h
    rfl
  · obtain ⟨I, v, s, M, n, rfl, hI, ⟨⟨a, dx, as, ap, svs, kvs, gs, ps, rfl, h1, h2, h3, h4, h5, rfl⟩, nd, no, so⟩, k⟩ := h
    refine ⟨_, (pss_one (ps_ret (pe_cmpR op_lt (pv 1) (pe_callB call_len_seq (by rfl) T.b_len PySem.boot_len (pa_cons (pe_fld (pv 0) rfl) pa_nil)) (nomark _)))), ?_⟩
    refine ⟨_, rfl, _, rfl, a, CC, dx, _, _, rfl, h1, TC.cc, TC.c3, coF3, as, svs, rfl, .inl (SqL.of h2), _, _, rfl, rfl, ?_⟩
    show Q (V.bl (decide ((n : Int) < (svs.length : Int)))) H
    rw [h4.len.1, show decide ((n : Int) < (s.seals.length : Int)) = decide (n < s.seals.length) by simp]
    exact k
def spHasPiece (CC CS CP : Addr) : Sp := fun vs H Q _ => ∃ (I : Hp) (v : V) (s : Mu34.State) (M : List Addr) (n : Nat), vs = [v, vN n] ∧ Same I H ∧ CollR CC CS CP I H v s M ∧ Q (.bl (Mu34.find s n).isSome) H
theorem ok_has_piece (TC : ColT K CC CS CP) (D : Dn K mg "has_piece" s_has_piece ["collection", "number"]) : C8.Cal P w K mg base 1 "has_piece" (spHasPiece CC CS CP) [] := by
  refine D.cal sc_has_piece (fun vs H Q E h => ?_) (fun f cdv A outer s H vs Q E hr h => ?_)
  · obtain ⟨I, v, s, M, n, rfl, _⟩ := h
    rfl
  · obtain ⟨I, v, s, M, n, rfl, hI, ⟨⟨a, dx, as, ap, svs, kvs, gs, ps, rfl, h1, h2, h3, h4, h5, rfl⟩, nd, no, so⟩, k⟩ := h
    refine ⟨_, (pss_one (ps_ret (pe_cmp (pc_din (hu_of hr) (pv 1) (pe_fld (pv 0) rfl)) rfl))), ?_⟩
    refine ⟨_, rfl, _, rfl, a, CC, dx, _, _, rfl, h1, TC.cc, TC.c4, coF4, ap, _, rfl, DGet.k (k := Sum.inl (n : Int)) h3, ?_⟩
    have f := h5.find n
    have e : (valV kvs (Sum.inl (n : Int))).isSome = (Mu34.find s n).isSome := by
      unfold Mu34.find
      cases z : s.pieces.find? (fun c => c.id == n) with
      | none =>
        rw [z] at f
        rw [f]
        rfl
      | some c =>
        rw [z] at f
        obtain ⟨_, _, a', dx', vp, vg, _, e, _⟩ := f
        rw [e]
        rfl
    rw [e]
    exact k
/-! ### seals_like -/
abbrev s_seals_like : Stmt := top 82
abbrev N_seals_like : List Str := ["collection", "ring", "number", "seal"]
theorem sc_seals_like : FnScope N_seals_like ["collection", "ring"] (defScope s_seals_like) := ⟨rfl, rfl, rfl, by decide +kernel, rfl, by decide +kernel, by decide +kernel⟩
def like (s : Mu34.State) (r : List (List Nat)) : List Nat := (List.range s.seals.length).filter fun i => Mu34.same (Mu34.now (s.seals.getD i [])) r
def spLike (CC CS CP : Addr) : Sp := fun vs H Q _ => ∃ (I : Hp) (v u : V) (s : Mu34.State) (M : List Addr) (r : List (List Nat)), vs = [v, u] ∧ Same I H ∧ CollR CC CS CP I H v s M ∧ Wf s ∧ PicR I u r ∧ Ret I H (fun J x => ColR J x (like s r)) Q
theorem now_mem {q : List (List (List Nat))} (h : q ≠ []) : Mu34.now q ∈ q := by
  obtain ⟨r, p, e⟩ := last_of h
  rw [now_last e, e]
  simp
theorem ok_seals_like (T : TopR K mg aW) (TC : ColT K CC CS CP) (D : Dn K mg "seals_like" s_seals_like ["collection", "ring"]) (c_are_same : C8.Cal P w K mg base 3 "are_same" spSame []) (c_ring_now : C8.Cal P w K mg base 1 "ring_now" (spRingNow CS) []) :
    C8.Cal P w K mg base 4 "seals_like" (spLike CC CS CP) [] := by
  refine D.cal sc_seals_like (fun vs H Q E h => ?_) (fun f cdv A outer s H vs Q E hr h => ?_)
  · obtain ⟨I, v, u, s, M, r, rfl, _⟩ := h
    rfl
  · obtain ⟨I, v, u, s, M, r, rfl, hI, hC, wf, hu, k⟩ := h
    obtain ⟨⟨a, dx, as, ap, svs, kvs, gs, ps, rfl, h1, h2, h3, h4, h5, rfl⟩, nd, no, so⟩ := id hC
    refine ⟨_, (pss_one (ps_ret (pe_lc (own := [("number", 2), ("seal", 3)]) (g := (gTup K 2 (gCons (gName 2) (gCons (gName 3) gNil)))) (tt := _) (te := (tVar 2)) rfl sc_seals_like.nd (pi_enum (by rfl) T.b_enumerate (pa_cons (pe_fld (pv 0) rfl) pa_nil)) (blkOk_by (own := [("number", 2), ("seal", 3)]) (N := N_seals_like) (sc := defScope s_seals_like) (by decide +kernel)) (fun _ _ _ _ _ => (pg_tup rfl (pgs_cons (pg_name (i := 2) sc_seals_like.nd rfl (Or.inl rfl)) (pgs_cons (pg_name (i := 3) sc_seals_like.nd rfl (Or.inl rfl)) pgs_nil)))) (fun _ _ _ _ _ => (pts_one (pt_val (C8.pe_c c_are_same hr (by decide) rfl (pa_cons (C8.pe_c c_ring_now hr (by decide) rfl (pa_cons (pv 3) pa_nil)) (pa_cons (pv 1) pa_nil)))))) (fun _ _ _ _ _ => (pv 2))))), ?_⟩
    refine xRet (tLc_of ?_)
    have ls := h4.len
    have l4 := wf.s4
    refine ⟨_, rfl, a, CC, dx, _, _, rfl, h1, TC.cc, TC.c3, coF3, as, svs, rfl, SqL.of h2, ?_⟩
    refine lc_all (I := I) (walk_enum (xs := svs)) (VR.mo vN) ((List.range s.seals.length).map fun i => if Mu34.same (Mu34.now (s.seals.getD i [])) r = true then some i else none) (by simp [ls.1]) (by omega) hI (fun H' s => SqL.of (s _ _ h2)) ?_ ?_
    · rintro i x I1 H1 H1' Nx Nn hi g1 ⟨t, x1, x2, rfl, nt, rfl, ex1, ex2⟩ kx kn
      have ex1 : vN i = x1 := Option.some.inj ex1
      subst ex1
      have his : i < s.seals.length := by omega
      obtain ⟨q, eq⟩ : ∃ q, s.seals[i]? = some q := ⟨_, List.getElem?_eq_getElem his⟩
      have wq := wf.sq q (List.mem_of_getElem? eq)
      obtain ⟨b, dxb, g, ws, eb, eg, hb, hg, hw⟩ := h4.get eq
      have ex2 : svs[i]? = some x2 := ex2
      rw [eb] at ex2
      have ex2 := Option.some.inj ex2
      subst ex2
      have g2 := G.newH (o := .tup [vN i, .ref b]) g1.b nt
      have ez : ((List.range s.seals.length).map fun i => if Mu34.same (Mu34.now (s.seals.getD i [])) r = true then some i else none)[i]? = some (if Mu34.same (Mu34.now q) r = true then some i else none) := by
        rw [List.getElem?_map, List.getElem?_range his]
        show some (if Mu34.same (Mu34.now (s.seals.getD i [])) r = true then some i else none) = _
        rw [getD_of eq]
      refine ⟨t, _, rfl, SqT.of upd_same, rfl, _, _, rfl, _, _, rfl, rfl, rfl, ?_⟩
      refine ⟨_, rfl, I1, b, dxb, g, ws, q, rfl, g2.b, g1.u _ _ hb, g2.s _ _ (g1.s _ _ hg), All2.mo PicR.mo g1.u hw, wq.1, fun y ry => ?_⟩
      have rq := ring_of (wq.2.2 _ (now_mem wq.1))
      refine ⟨_, rfl, I1, y, u, Mu34.now q, r, rfl, g2.b, ry, PicR.mo _ _ _ _ g1.u hu, by omega, fun I3 H3 v3 g3 r3 => ⟨_, r3, ?_⟩⟩
      refine ite2 (fun e => ⟨_, rfl, ?_⟩) (fun e => ?_)
      · rw [if_pos e] at ez
        exact kx I3 H3 _ _ ez (g2.trans g3) rfl
      · rw [if_neg e] at ez
        exact kn ez I3 H3 (g2.trans g3)
    · intro D I' H' ys g1 hD ha
      rw [fm_filter] at ha
      exact k I' H' _ g1 ⟨D, rfl, by rw [hD, ha.of_eq]; rfl⟩
theorem find_head {A : Type} (f : A → Bool) (l : List A) : l.find? f = (l.filter f).head? := List.head?_filter.symm
theorem twin_new (s : Mu34.State) (p : List (List Nat)) : Mu34.twin s s.seals.length p = (like s p).head? := by
  unfold Mu34.twin like
  rw [← find_head]
  have : ∀ l : List Nat, (∀ i ∈ l, i < s.seals.length) → l.find? (fun i => i != s.seals.length && Mu34.same (Mu34.now (s.seals.getD i [])) p) = l.find? fun i => Mu34.same (Mu34.now (s.seals.getD i [])) p := by
    intro l
    induction l with
    | nil => intro _; rfl
    | cons x l ih =>
      intro h
      have hx := h x (List.mem_cons_self ..)
      rw [List.find?_cons, List.find?_cons, ih (fun i hi => h i (List.mem_cons_of_mem _ hi)), show (x != s.seals.length) = true by simp; omega, Bool.true_and]
  exact this _ fun i hi => List.mem_range.mp hi
/-! ### Seal -/
abbrev s_init_Seal : Stmt := inClass (top 4) 0
abbrev N_init_Seal : List Str := ["self", "ring"]
theorem sc_init_Seal : FnScope N_init_Seal ["self", "ring"] (defScope s_init_Seal) := ⟨rfl, rfl, rfl, by decide +kernel, rfl, by decide +kernel, by decide +kernel⟩
def spInitSeal (CS : Addr) : Sp := fun vs H Q _ => ∃ (p dx : Addr) (r : V), vs = [.ref p, r] ∧ H p = some (.ins CS dx []) ∧ ∀ (H' : Hp) (g : Addr), H g = none → H' g = some (.lst [r]) → H' p = some (.ins CS dx (seF g)) → (∀ b o, H b = some o → b ≠ p → H' b = some o) → Q .non H'
theorem ok_init_Seal (TC : ColT K CC CS CP) (D : Di K mg "Seal" "Seal.__init__" CS s_init_Seal ["self", "ring"]) : C8.Mak P w K mg base 1 "Seal" CS (spInitSeal CS) [] := by
  refine D.mak sc_init_Seal (fun vs H Q E h => ?_) (fun f cdv A outer s H vs Q E hr h => ?_)
  · obtain ⟨p, dx, r, rfl, _⟩ := h
    rfl
  · obtain ⟨p, dx, r, rfl, hp, q⟩ := h
    refine ⟨_, (pss_one (ps_fld (pv 0) (pe_lst (pa_cons (pv 1) pa_nil)) rfl)), ?_⟩
    refine ⟨_, rfl, by show 1 ≤ sizeLine; decide, fun g ng => ?_⟩
    have pg : p ≠ g := ne_of_none hp ng
    refine ⟨_, rfl, p, CS, dx, [], rfl, by rw [upd_ne pg]; exact hp, TC.cs, TC.s1, by show 0 < 1000; decide, ?_⟩
    refine q _ g ng (by rw [upd_ne pg.symm, upd_same]) upd_same (fun b o e hb => ?_)
    rw [upd_ne hb]
    exact same_new ng _ _ e
/-! ### add_seal -/
abbrev s_add_seal : Stmt := top 83
abbrev N_add_seal : List Str := ["collection", "picture", "alike"]
theorem sc_add_seal : FnScope N_add_seal ["collection", "picture"] (defScope s_add_seal) := ⟨rfl, rfl, rfl, by decide +kernel, rfl, by decide +kernel, by decide +kernel⟩
def spAddSeal (CC CS CP : Addr) : Sp := fun vs H Q _ => ∃ (I : Hp) (v u : V) (s : Mu34.State) (M : List Addr) (p : List (List Nat)), vs = [v, u] ∧ Same I H ∧ CollR CC CS CP I H v s M ∧ Wf s ∧ PicR I u p ∧ p.length ≤ 16 ∧ (∀ c ∈ p, c.length ≤ 5) ∧ RetS CC CS CP I H v M (Mu34.step (some s) (.engrave p)) Q
theorem ok_add_seal (T : TopR K mg aW) (TC : ColT K CC CS CP) (D : Dn K mg "add_seal" s_add_seal ["collection", "picture"]) (c_is_ring : C8.Cal P w K mg base 3 "is_ring" spIsRing []) (c_seals_like : C8.Cal P w K mg base 4 "seals_like" (spLike CC CS CP) []) (m_Seal : C8.Mak P w K mg base 1 "Seal" CS (spInitSeal CS) []) :
    C8.Cal P w K mg base 5 "add_seal" (spAddSeal CC CS CP) [] := by
  refine D.cal sc_add_seal (fun vs H Q E h => ?_) (fun f cdv A outer s H vs Q E hr h => ?_)
  · obtain ⟨I, v, u, s, M, p, rfl, _⟩ := h
    rfl
  · obtain ⟨I, v, u, s, M, p, rfl, hI, hC, wf, hu, l16, l5, k⟩ := h
    obtain ⟨⟨a, dx, as, ap, svs, kvs, gs, ps, rfl, h1, h2, h3, h4, h5, rfl⟩, nd, no, so⟩ := id hC
    refine ⟨_, (pss_cons (ps_if (pt_not (pt_val (C8.pe_c c_is_ring hr (by decide) rfl (pa_cons (pv 1) (pa_cons (pe_fld (pv 0) rfl) (pa_cons (pe_fld (pv 0) rfl) pa_nil)))))) (pss_one (ps_ret (pe_lst (pa_cons (C8.pe_gc rfl T.WRONG) pa_nil)))) pss_nil)
        (pss_cons (ps_if (pt_cmpR op_eq (pe_callB call_len_seq (by rfl) T.b_len PySem.boot_len (pa_cons (pe_fld (pv 0) rfl) pa_nil)) (C8.pe_gc rfl T.MOST_SEALS) (nomark _)) (pss_one (ps_ret (pe_lst (pa_cons (C8.pe_gc rfl T.TOO_MANY) pa_nil)))) pss_nil)
        (pss_cons (ps_set (i := 2) sc_add_seal.nd rfl (Or.inl rfl) (C8.pe_c c_seals_like hr (by decide) rfl (pa_cons (pv 0) (pa_cons (pv 1) pa_nil))))
        (pss_cons (ps_if (pt_truth (pv 2) (by intro _; rfl)) (pss_one (ps_ret (pe_lst (pa_cons (C8.pe_gc rfl T.SAME_SEAL) (pa_cons (pe_ix ix_list (pv 2) pe_int (fun _ _ => rfl)) pa_nil))))) pss_nil)
        (pss_cons (ps_expr (pe_bm PySem.F.plainAttrs_list PySem.F.slot_list_append PySem.F.type_list_append mt_append (pe_fld (pv 0) rfl) (pa_cons (C8.pe_mk m_Seal hr (by decide) rfl (pa_cons (pv 1) pa_nil)) pa_nil)))
        (pss_one (ps_ret (pe_lst (pa_cons (pe_op op_sub (pe_callB call_len_seq (by rfl) T.b_len PySem.boot_len (pa_cons (pe_fld (pv 0) rfl) pa_nil)) pe_int) pa_nil))))))))), ?_⟩
    have ls := h4.len
    have l4 := wf.s4
    have es : Mu34.step (some s) (.engrave p) = if Mu34.isRing s p = false then (some s, [-1]) else if Mu34.SEALS ≤ s.seals.length then (some s, [-5]) else (match Mu34.twin s s.seals.length p with
      | some i => (some s, [-4, (i : Int)])
      | none => (some { s with seals := s.seals ++ [[p]] }, [(s.seals.length : Int)])) := rfl
    have er : Mu34.isRing s p = ringOk s.height s.signs p := rfl
    rw [es, er, twin_new] at k
    have m5 := wf.m5
    refine ⟨_, rfl, _, rfl, a, CC, dx, _, _, rfl, h1, TC.cc, TC.c1, coF1, _, rfl, a, CC, dx, _, _, rfl, h1, TC.cc, TC.c2, coF2, I, u, p, s.height, s.signs, rfl, hI, hu, by omega, (fun c hc => Nat.le_trans (l5 c hc) (by decide)), by omega, fun I1 H1 v1 g1 r1 => ⟨_, r1, ?_⟩⟩
    cases hring : ringOk s.height s.signs p with
    | false =>
      rw [hring, if_pos rfl] at k
      refine iteT ⟨by show 1 ≤ sizeLine; decide, fun l nl => ?_⟩
      exact k.list hC g1 nl
    | true =>
      rw [hring, if_neg (by decide)] at k
      refine iteF ?_
      have h1' := g1.s _ _ h1
      have h2' := g1.s _ _ h2
      refine ⟨_, rfl, a, CC, dx, _, _, rfl, h1', TC.cc, TC.c3, coF3, as, svs, rfl, .inl (SqL.of h2'), rfl, _, rfl, ?_⟩
      have e4 : decide (V.int (svs.length : Int) = V.int 4) = (s.seals.length == 4) := by
        rw [ls.1]
        exact eq_int (b := 4)
      rw [e4]
      by_cases c4 : s.seals.length = 4
      · rw [if_pos (show Mu34.SEALS ≤ s.seals.length by rw [c4]; decide)] at k
        rw [show (s.seals.length == 4) = true by rw [c4]; rfl]
        refine iteT ⟨by show 1 ≤ sizeLine; decide, fun l nl => ?_⟩
        exact k.list hC g1 nl
      · rw [if_neg (show ¬ Mu34.SEALS ≤ s.seals.length by show ¬ 4 ≤ _; omega)] at k
        rw [show (s.seals.length == 4) = false by simpa using c4]
        refine iteF ?_
        have hC1 := hC.g g1
        refine ⟨_, rfl, _, rfl, I1, _, u, s, _, p, rfl, g1.b, hC1, wf, PicR.mo _ _ _ _ g1.u hu, fun I2 H2 v2 g2 r2 => ?_⟩
        have g12 := g1.trans g2
        obtain ⟨a2, rfl, ha2⟩ := r2
        refine ⟨_, rfl, _, .inl ⟨_, SqL.of (g2.b _ _ ha2), rfl⟩, ?_⟩
        cases hlike : like s p with
        | cons i rest =>
          rw [hlike] at k ha2
          refine iteT ⟨_, rfl, a2, _, 0, vN i, rfl, rfl, SqL.of (g2.b _ _ ha2), atI_nat (j := 0) rfl, by show 2 ≤ sizeLine; decide, fun l nl => ?_⟩
          exact k.list hC g12 nl
        | nil =>
          rw [hlike] at k
          refine iteF ?_
          have h1'' := g2.s _ _ h1'
          have h2'' := g2.s _ _ h2'
          refine ⟨_, rfl, a, CC, dx, _, _, rfl, h1'', TC.cc, TC.c3, coF3, .inl ⟨rfl, _, SqL.of h2''⟩, _, rfl, ?_⟩
          intro x dxx nx ndx nex
          refine ⟨x, dxx, u, rfl, upd_same, fun H3 g ng hg hx kp => ⟨rfl, ?_⟩⟩
          have gx : g ≠ x := fun z => by
            rw [z, upd_same] at ng
            cases ng
          have ng2 : H2 g = none := by
            rw [upd_ne gx] at ng
            by_cases z : g = dxx
            · subst z
              rw [upd_same] at ng
              cases ng
            · rw [upd_ne z] at ng
              exact ng
          have s3 : Same H2 H3 := fun b o e => by
            have e1 : b ≠ x := ne_of_none e nx
            have e2 : b ≠ dxx := ne_of_none e ndx
            exact kp b o (by rw [upd_ne e1, upd_ne e2]; exact e) e1
          have g3a : G I2 H2 I2 H3 := ⟨s3, Same.refl _, g2.b.trans s3, fun _ e _ => e⟩
          have g3 := g3a.pub nx hx g2.b
          have g123 := g12.trans g3
          generalize hI3 : upd I2 x (.ins CS dxx (seF g)) = I3 at *
          have I3x : I3 x = some (.ins CS dxx (seF g)) := by rw [← hI3, upd_same]
          have I3g : I3 g = none := by
            rw [← hI3, upd_ne gx]
            exact none_of g2.b ng2
          have hC3 := hC.g g123
          have no3 := hC3.no
          have h1_3 := s3 _ _ h1''
          have h2_3 := s3 _ _ h2''
          have h4' := h4.frame (H' := H3) g123.u fun q _ o e => g123.s _ _ e
          have h5' := h5.frame (H' := H3) g123.u fun q _ o e => g123.s _ _ e
          have h3_3 := g123.s _ _ h3
          have ngM : ∀ m ∈ a :: as :: ap :: (gs ++ ps), m ≠ g := fun m hm z => by
            subst z
            obtain ⟨o, e⟩ := ne_some (so m hm)
            rw [g12.s _ _ e] at ng2
            cases ng2
          refine ⟨as, svs, _, rfl, rfl, h2_3, sz_lt (by omega), ?_⟩
          -- [len(collection.seals) - 1]
          have asne : ∀ m ∈ a :: ap :: (gs ++ ps), m ≠ as := fun m hm z => by
            subst z
            rw [List.nodup_cons, List.nodup_cons] at nd
            rcases List.mem_cons.mp hm with z | hm
            · exact nd.1 (by rw [← z]; simp)
            · exact nd.2.1 (by simpa using hm)
          have h1_4 : upd H3 as (.lst (svs ++ [V.ref x])) a = some (.ins CC dx (coF s.height s.signs as ap s.next)) := by
            rw [upd_ne (asne a (by simp))]
            exact h1_3
          have w4 : Wr I H I3 (upd H3 as (.lst (svs ++ [V.ref x]))) (a :: as :: ap :: (gs ++ ps)) (a :: as :: ap :: (gs ++ ps)) := (Wr.ofG g123).trans (Wr.mut g123.b (by simp) (no3 as (by simp)))
          refine ⟨_, rfl, a, CC, dx, _, _, rfl, h1_4, TC.cc, TC.c3, coF3, as, _, rfl, .inl (SqL.of upd_same), _, _, rfl, rfl, by show 1 ≤ sizeLine; decide, fun l nl => ?_⟩
          have g5 := G.new (o := .lst [V.int (((svs ++ [V.ref x]).length : Int) - 1)]) w4.b nl
          have w5 := w4.trans (Wr.ofG (M := a :: as :: ap :: (gs ++ ps)) g5)
          have gH : H g = none := none_of g12.s ng2
          refine k { s with seals := s.seals ++ [[p]] } _ _ _ (a :: as :: ap :: ((gs ++ [g]) ++ ps)) rfl (w5.weak (fun m hm => ?_) (fun m hm => hm)) ?_ ⟨l, rfl, ?_⟩
          · by_cases z : m = g
            · subst z
              exact .inr gH
            · refine .inl ?_
              simp only [List.mem_cons, List.mem_append, List.not_mem_nil, or_false] at hm ⊢
              rcases hm with h | h | h | (h | h) | h
              · exact .inl h
              · exact .inr (.inl h)
              · exact .inr (.inr (.inl h))
              · exact .inr (.inr (.inr (.inl h)))
              · exact absurd h z
              · exact .inr (.inr (.inr (.inr h)))
          · have ga : g ≠ as := fun z => ngM as (by simp) z.symm
            have key : ∀ m, m ≠ as → ∀ o, H3 m = some o → upd (upd H3 as (.lst (svs ++ [V.ref x]))) l (.lst [V.int (((svs ++ [V.ref x]).length : Int) - 1)]) m = some o := fun m hm o e => g5.s _ _ (by rw [upd_ne hm]; exact e)
            have cov : ∀ m ∈ a :: as :: ap :: ((gs ++ [g]) ++ ps), m = g ∨ m ∈ a :: as :: ap :: (gs ++ ps) := fun m hm => by
              simp only [List.mem_cons, List.mem_append, List.not_mem_nil, or_false] at hm ⊢
              rcases hm with h | h | h | (h | h) | h
              · exact .inr (.inl h)
              · exact .inr (.inr (.inl h))
              · exact .inr (.inr (.inr (.inl h)))
              · exact .inr (.inr (.inr (.inr (.inl h))))
              · exact .inl h
              · exact .inr (.inr (.inr (.inr (.inr h))))
            refine ⟨⟨a, dx, as, ap, svs ++ [V.ref x], kvs, gs ++ [g], ps, rfl, g5.s _ _ h1_4, g5.s _ _ upd_same, key ap (asne ap (by simp)) _ h3_3, ?_, ?_, rfl⟩, ?_, ?_, ?_⟩
            · refine SealsAt.snoc (h4'.frame g5.u fun m hm o e => key m (asne m (by simp [hm])) o e) (g5.u _ _ I3x) (key g ga _ hg) (.cons (PicR.mo _ _ _ _ (g123.u.trans g5.u) hu) .nil)
            · exact h5'.frame g5.u fun m hm o e => key m (asne m (by simp [hm])) o e
            · have e : (a :: as :: ap :: ((gs ++ [g]) ++ ps)).Perm (g :: (a :: as :: ap :: (gs ++ ps))) := by
                have e1 : (gs ++ [g] ++ ps).Perm (g :: (gs ++ ps)) := by
                  rw [List.append_assoc]
                  exact List.perm_middle
                refine ((((e1.cons ap).cons as).cons a).trans ?_)
                exact ((((List.Perm.swap g ap _).cons as).trans (List.Perm.swap g as _)).cons a).trans (List.Perm.swap g a _)
              rw [e.nodup_iff, List.nodup_cons]
              exact ⟨fun h => ngM g h rfl, nd⟩
            · intro m hm
              rcases cov m hm with rfl | hm
              · exact g5.n _ I3g (some_ne (by rw [upd_ne ga]; exact hg))
              · exact g5.n _ (no3 m hm) (w4.d m (so m hm))
            · intro m hm
              rcases cov m hm with rfl | hm
              · exact some_ne (key m ga _ hg)
              · exact w5.d m (so m hm)
          · rw [upd_same]
            show some (HO.lst [V.int (((svs ++ [V.ref x]).length : Int) - 1)]) = some (HO.lst [V.int (s.seals.length : Int)])
            rw [List.length_append, ls.1]
            simp
end
end CR

namespace CR
open PySem PySem.Spec PyProof.Rows L2
section
variable {P : Program} {w : World} {K : PySem.W.Frag} {mg : Str → Option Value} {base : Heap} {aW CC CS CP : Addr}
/-! ### can_name -/
abbrev s_can_name : Stmt := top 85
abbrev N_can_name : List Str := ["collection", "ring", "column", "cell", "sign"]
theorem sc_can_name : FnScope N_can_name ["collection", "ring", "column", "cell", "sign"] (defScope s_can_name) := ⟨rfl, rfl, rfl, by decide +kernel, rfl, by decide +kernel, by decide +kernel⟩
def spCanName (CC CS CP : Addr) : Sp := fun vs H Q _ => ∃ (I : Hp) (v u : V) (s : Mu34.State) (M : List Addr) (r : List (List Nat)) (i j z : Nat), vs = [v, u, vN i, vN j, vN z] ∧ Same I H ∧ CollR CC CS CP I H v s M ∧ PicR I u r ∧ Q (.bl (decide (i < r.length) && (decide (j < s.height) && decide (z < s.signs)))) H
theorem lt_nat (a b : Nat) : decide ((a : Int) < (b : Int)) = decide (a < b) := by simp
theorem ok_can_name (T : TopR K mg aW) (TC : ColT K CC CS CP) (D : Dn K mg "can_name" s_can_name ["collection", "ring", "column", "cell", "sign"]) : C8.Cal P w K mg base 1 "can_name" (spCanName CC CS CP) [] := by
  refine D.cal sc_can_name (fun vs H Q E h => ?_) (fun f cdv A outer s H vs Q E hr h => ?_)
  · obtain ⟨I, v, u, s, M, r, i, j, z, rfl, _⟩ := h
    rfl
  · obtain ⟨I, v, u, s, M, r, i, j, z, rfl, hI, ⟨⟨a, dx, as, ap, svs, kvs, gs, ps, rfl, h1, h2, h3, h4, h5, rfl⟩, nd, no, so⟩, ⟨b, ws, rfl, hb, hw⟩, k⟩ := h
    refine ⟨_, (pss_one (ps_ret (pe_and (pe_cmpR op_lt (pv 2) (pe_callB call_len_seq (by rfl) T.b_len PySem.boot_len (pa_cons (pv 1) pa_nil)) (nomark _)) (pe_and (pe_cmpR op_lt (pv 3) (pe_fld (pv 0) rfl) (nomark _)) (pe_one (pe_cmpR op_lt (pv 4) (pe_fld (pv 0) rfl) (nomark _))))))), ?_⟩
    refine ⟨_, rfl, _, rfl, b, ws, rfl, .inl (SqL.of (hI _ _ hb)), _, _, rfl, rfl, _, rfl, ?_⟩
    rw [hw.length, lt_nat]
    refine ite2 (fun e => ?_) (fun e => ?_)
    · refine ⟨_, rfl, _, rfl, a, CC, dx, _, _, rfl, h1, TC.cc, TC.c1, coF1, _, _, rfl, rfl, _, rfl, ?_⟩
      rw [lt_nat]
      refine ite2 (fun e2 => ?_) (fun e2 => ?_)
      · refine ⟨_, rfl, _, rfl, a, CC, dx, _, _, rfl, h1, TC.cc, TC.c2, coF2, _, _, rfl, rfl, ?_⟩
        rw [e, e2, Bool.true_and, Bool.true_and] at k
        show Q (V.bl (decide ((z : Int) < (s.signs : Int)))) H
        rw [lt_nat]
        exact k
      · rw [show decide (j < s.height) = false by simpa using e2, Bool.false_and, Bool.and_false] at k
        exact k
    · rw [show decide (i < r.length) = false by simpa using e, Bool.false_and] at k
      exact k
/-! ### cut_seal -/
abbrev s_cut_seal : Stmt := top 86
abbrev N_cut_seal : List Str := ["collection", "number", "column", "cell", "sign", "seal", "ring", "changed", "alike", "other"]
theorem sc_cut_seal : FnScope N_cut_seal ["collection", "number", "column", "cell", "sign"] (defScope s_cut_seal) := ⟨rfl, rfl, rfl, by decide +kernel, rfl, by decide +kernel, by decide +kernel⟩
theorem twin_other (s : Mu34.State) (k : Nat) (p : List (List Nat)) : Mu34.twin s k p = ((like s p).filter fun i => i != k).head? := by
  unfold Mu34.twin like
  rw [List.filter_filter, ← find_head]
def spCutSeal (CC CS CP : Addr) : Sp := fun vs H Q _ => ∃ (I : Hp) (v : V) (s : Mu34.State) (M : List Addr) (n i j z : Nat), vs = [v, vN n, vN i, vN j, vN z] ∧ Same I H ∧ CollR CC CS CP I H v s M ∧ Wf s ∧ RetS CC CS CP I H v M (Mu34.step (some s) (.cut n i j z)) Q
theorem filter_len {A : Type} (f : A → Bool) (l : List A) : (l.filter f).length ≤ l.length := List.length_filter_le f l
theorem like_len (s : Mu34.State) (p : List (List Nat)) : (like s p).length ≤ s.seals.length := by
  have := filter_len (fun i => Mu34.same (Mu34.now (s.seals.getD i [])) p) (List.range s.seals.length)
  rw [List.length_range] at this
  exact this
theorem ok_cut_seal (T : TopR K mg aW) (TC : ColT K CC CS CP) (D : Dn K mg "cut_seal" s_cut_seal ["collection", "number", "column", "cell", "sign"]) (c_has_seal : C8.Cal P w K mg base 1 "has_seal" (spHasSeal CC CS CP) []) (c_ring_now : C8.Cal P w K mg base 1 "ring_now" (spRingNow CS) [])
    (c_can_name : C8.Cal P w K mg base 1 "can_name" (spCanName CC CS CP) []) (c_recut : C8.Cal P w K mg base 1 "recut" spRecut []) (c_seals_like : C8.Cal P w K mg base 4 "seals_like" (spLike CC CS CP) []) :
    C8.Cal P w K mg base 5 "cut_seal" (spCutSeal CC CS CP) [] := by
  refine D.cal sc_cut_seal (fun vs H Q E h => ?_) (fun f cdv A outer s H vs Q E hr h => ?_)
  · obtain ⟨I, v, s, M, n, i, j, z, rfl, _⟩ := h
    rfl
  · obtain ⟨I, v, s, M, n, i, j, z, rfl, hI, hC, wf, k⟩ := h
    obtain ⟨⟨a, dx, as, ap, svs, kvs, gs, ps, rfl, h1, h2, h3, h4, h5, rfl⟩, nd, no, so⟩ := id hC
    refine ⟨_, (pss_cons (ps_if (pt_not (pt_val (C8.pe_c c_has_seal hr (by decide) rfl (pa_cons (pv 0) (pa_cons (pv 1) pa_nil))))) (pss_one (ps_ret (pe_lst (pa_cons (C8.pe_gc rfl T.NO_SEAL) pa_nil)))) pss_nil)
        (pss_cons (ps_set (i := 5) sc_cut_seal.nd rfl (Or.inl rfl) (pe_ix ix_list (pe_fld (pv 0) rfl) (pv 1) (fun _ _ => rfl)))
        (pss_cons (ps_set (i := 6) sc_cut_seal.nd rfl (Or.inl rfl) (C8.pe_c c_ring_now hr (by decide) rfl (pa_cons (pv 5) pa_nil)))
        (pss_cons (ps_if (pt_not (pt_val (C8.pe_c c_can_name hr (by decide) rfl (pa_cons (pv 0) (pa_cons (pv 6) (pa_cons (pv 2) (pa_cons (pv 3) (pa_cons (pv 4) pa_nil)))))))) (pss_one (ps_ret (pe_lst (pa_cons (C8.pe_gc rfl T.WRONG) pa_nil)))) pss_nil)
        (pss_cons (ps_if (pt_cmpR op_gt (pe_callB call_len_seq (by rfl) T.b_len PySem.boot_len (pa_cons (pe_fld (pv 5) rfl) pa_nil)) (C8.pe_gc rfl T.MOST_CUTS) (nomark _)) (pss_one (ps_ret (pe_lst (pa_cons (C8.pe_gc rfl T.TOO_MANY) pa_nil)))) pss_nil)
        (pss_cons (ps_if (pt_cmpR op_eq (pe_ix ix_list (pe_ix ix_list (pv 6) (pv 2) (fun _ _ => rfl)) (pv 3) (fun _ _ => rfl)) (pv 4) (nomark _)) (pss_one (ps_ret (pe_lst (pa_cons (C8.pe_gc rfl T.CANNOT_BE) pa_nil)))) pss_nil)
        (pss_cons (ps_set (i := 7) sc_cut_seal.nd rfl (Or.inl rfl) (C8.pe_c c_recut hr (by decide) rfl (pa_cons (pv 6) (pa_cons (pv 2) (pa_cons (pv 3) (pa_cons (pv 4) pa_nil))))))
        (pss_cons (ps_setLc (i := 8) (own := [("other", 9)]) (g := (gName 9)) (tt := _) (te := (tVar 9)) rfl sc_cut_seal.nd rfl rfl (sw_true rfl rfl rfl (by decide +kernel)) (pi_list (C8.pe_c c_seals_like hr (by decide) rfl (pa_cons (pv 0) (pa_cons (pv 7) pa_nil)))) (blkOk_by (own := [("other", 9)]) (N := N_cut_seal) (sc := defScope s_cut_seal) (by decide +kernel)) (fun _ _ _ _ _ => (pg_name (i := 9) sc_cut_seal.nd rfl (Or.inl rfl))) (fun _ _ _ _ _ => (pts_one (pt_cmpR op_ne (pv 9) (pv 1) (nomark _)))) (fun _ _ _ _ _ => (pv 9)))
        (pss_cons (ps_if (pt_truth (pv 8) (by intro _; rfl)) (pss_one (ps_ret (pe_lst (pa_cons (C8.pe_gc rfl T.SAME_SEAL) (pa_cons (pe_ix ix_list (pv 8) pe_int (fun _ _ => rfl)) pa_nil))))) pss_nil)
        (pss_cons (ps_expr (pe_bm PySem.F.plainAttrs_list PySem.F.slot_list_append PySem.F.type_list_append mt_append (pe_fld (pv 5) rfl) (pa_cons (pv 7) pa_nil)))
        (pss_one (ps_ret (pe_lst (pa_cons (pe_op op_sub (pe_callB call_len_seq (by rfl) T.b_len PySem.boot_len (pa_cons (pe_fld (pv 5) rfl) pa_nil)) pe_int) pa_nil)))))))))))))), ?_⟩
    have ls := h4.len
    have l4 := wf.s4
    refine ⟨_, rfl, _, rfl, I, _, s, _, n, rfl, hI, hC, _, rfl, ?_⟩
    by_cases hn : n < s.seals.length
    case neg =>
      have es : Mu34.step (some s) (.cut n i j z) = (some s, [-2]) := by
        show (match Mu34.sealOf s n with | none => _ | some q => _) = _
        rw [show Mu34.sealOf s n = none from List.getElem?_eq_none (by omega)]
      rw [es] at k
      rw [decide_eq_false hn]
      refine iteT ⟨by show 1 ≤ sizeLine; decide, fun l nl => ?_⟩
      exact k.list hC (G.refl hI) nl
    case pos =>
      obtain ⟨q, eq⟩ : ∃ q, s.seals[n]? = some q := ⟨_, List.getElem?_eq_getElem hn⟩
      have es : Mu34.step (some s) (.cut n i j z) = if (Mu34.now q).length ≤ i ∨ (s.height ≤ j ∨ s.signs ≤ z) then (some s, [-1]) else if Mu34.CUTS < q.length then (some s, [-5]) else if Mu34.cell (Mu34.now q) i j = z then (some s, [-6]) else match Mu34.twin s n (Mu34.marked (Mu34.now q) i j z) with
        | some x => (some s, [-4, (x : Int)])
        | none => (some { s with seals := s.seals.set n (q ++ [Mu34.marked (Mu34.now q) i j z]) }, [(q.length : Int)]) := by
        show (match Mu34.sealOf s n with | none => _ | some q => _) = _
        rw [show Mu34.sealOf s n = some q from eq]
        rfl
      rw [es] at k
      have wq := wf.sq q (List.mem_of_getElem? eq)
      have rq := ring_of (wq.2.2 _ (now_mem wq.1))
      obtain ⟨b, dxb, g, ws, eb, eg, hb, hg, hw⟩ := h4.get eq
      have lw := hw.length
      rw [decide_eq_true hn]
      refine iteF ?_
      -- seal = collection.seals[number]; ring = ring_now(seal)
      refine ⟨_, rfl, a, CC, dx, _, _, rfl, h1, TC.cc, TC.c3, coF3, _, rfl, as, svs, (n : Int), .ref b, rfl, rfl, SqL.of h2, atI_nat eb, ?_⟩
      refine ⟨_, rfl, I, b, dxb, g, ws, q, rfl, hI, hb, hg, hw, wq.1, fun y ry => ?_⟩
      -- can_name
      refine ⟨_, rfl, _, rfl, _, rfl, _, rfl, _, rfl, I, _, y, s, _, Mu34.now q, i, j, z, rfl, hI, hC, ry, _, rfl, ?_⟩
      by_cases hc : (Mu34.now q).length ≤ i ∨ (s.height ≤ j ∨ s.signs ≤ z)
      case pos =>
        rw [if_pos hc] at k
        rw [show (decide (i < (Mu34.now q).length) && (decide (j < s.height) && decide (z < s.signs))) = false by
          rcases hc with h | h | h
          · rw [decide_eq_false (by omega), Bool.false_and]
          · rw [decide_eq_false (show ¬ j < s.height by omega), Bool.false_and, Bool.and_false]
          · rw [decide_eq_false (show ¬ z < s.signs by omega), Bool.and_false, Bool.and_false]]
        refine iteT ⟨by show 1 ≤ sizeLine; decide, fun l nl => ?_⟩
        exact k.list hC (G.refl hI) nl
      case neg =>
        rw [if_neg hc] at k
        have c1 : i < (Mu34.now q).length := by omega
        have c2 : j < s.height := by omega
        have c3 : z < s.signs := by omega
        rw [decide_eq_true c1, decide_eq_true c2, decide_eq_true c3]
        refine iteF ?_
        -- len(seal.ages) > MOST_CUTS
        refine ⟨_, rfl, b, CS, dxb, _, _, rfl, hI _ _ hb, TC.cs, TC.s1, seF1, g, ws, rfl, .inl (SqL.of hg), _, _, rfl, rfl, _, rfl, ?_⟩
        rw [lw]
        by_cases hcut : 3 < q.length
        case pos =>
          rw [if_pos (show Mu34.CUTS < q.length from hcut)] at k
          rw [decide_eq_true (show (3 : Int) < (q.length : Int) by omega)]
          refine iteT ⟨by show 1 ≤ sizeLine; decide, fun l nl => ?_⟩
          exact k.list hC (G.refl hI) nl
        case neg =>
          rw [if_neg (show ¬ Mu34.CUTS < q.length from hcut)] at k
          rw [decide_eq_false (show ¬ (3 : Int) < (q.length : Int) by omega)]
          refine iteF ?_
          -- ring[column][cell] == sign
          obtain ⟨ar, vr, rfl, har, hvr⟩ := id ry
          obtain ⟨c, ec⟩ : ∃ c, (Mu34.now q)[i]? = some c := ⟨_, List.getElem?_eq_getElem c1⟩
          obtain ⟨vc, evc, ⟨ac, rfl, hac⟩⟩ := hvr.getR ec
          have hcl := (rq.2.2 c (List.mem_of_getElem? ec)).1
          obtain ⟨x, ex⟩ : ∃ x, c[j]? = some x := ⟨_, List.getElem?_eq_getElem (by omega)⟩
          refine ⟨_, rfl, _, rfl, ar, vr, (i : Int), .ref ac, rfl, rfl, SqL.of (hI _ _ har), atI_nat evc, _, rfl, ac, c.map vN, (j : Int), vN x, rfl, rfl, SqL.of (hI _ _ hac), atI_nat (by rw [List.getElem?_map, ex]; rfl), _, rfl, rfl, _, rfl, ?_⟩
          rw [eq_int]
          have ecell : Mu34.cell (Mu34.now q) i j = x := by
            unfold Mu34.cell
            rw [getD_of ec, getD_of ex]
          rw [ecell] at k
          by_cases hx : x = z
          case pos =>
            rw [if_pos hx] at k
            rw [show (x == z) = true by rw [hx]; exact beq_self_eq_true z]
            refine iteT ⟨by show 1 ≤ sizeLine; decide, fun l nl => ?_⟩
            exact k.list hC (G.refl hI) nl
          case neg =>
            rw [if_neg hx] at k
            rw [show (x == z) = false by simpa using hx]
            refine iteF (xFall (xSet ?_))
            -- changed = recut(..)
            refine ⟨_, rfl, _, rfl, _, rfl, _, rfl, I, _, Mu34.now q, i, j, z, rfl, hI, ry, by omega, c1, by rw [getD_of ec]; omega, fun I1 H1 v1 g1 r1 => ?_⟩
            have hC1 := hC.g g1
            refine xSet (tLc_of ?_)
            refine ⟨_, rfl, _, rfl, I1, _, v1, s, _, Mu34.marked (Mu34.now q) i j z, rfl, g1.b, hC1, wf, r1, fun I2 H2 v2 g2 r2 => ?_⟩
            obtain ⟨a2, rfl, ha2⟩ := r2
            have ll := like_len s (Mu34.marked (Mu34.now q) i j z)
            refine ⟨a2, rfl, ⟨_, SqL.of (g2.b _ _ ha2)⟩, ?_⟩
            refine lc_all (I := I2) (walk_list (xs := (like s (Mu34.marked (Mu34.now q) i j z)).map vN)) (VR.mo vN) ((like s (Mu34.marked (Mu34.now q) i j z)).map fun x => if (x != n) = true then some x else none) (by simp) (by simp; omega) g2.b (fun H' s => SqL.of (s _ _ (g2.b _ _ ha2))) ?_ ?_
            · rintro d x I3 H3 H3' Nx Nn hd g3 ⟨rfl, hx⟩ kx kn
              obtain ⟨m, em, rfl⟩ := map_get hx
              have ez : ((like s (Mu34.marked (Mu34.now q) i j z)).map fun x => if (x != n) = true then some x else none)[d]? = some (if (m != n) = true then some m else none) := by
                rw [List.getElem?_map, em]
                rfl
              refine ⟨rfl, ?_⟩
              refine ⟨_, rfl, _, rfl, rfl, _, rfl, ?_⟩
              rw [ne_int]
              refine ite2 (fun e => ⟨_, rfl, ?_⟩) (fun e => ?_)
              · rw [if_pos e] at ez
                exact kx I3 _ _ _ ez (G.refl g3.b) rfl
              · rw [if_neg e] at ez
                exact kn ez I3 _ (G.refl g3.b)
            · intro D I3 H3 ys g3 hD ha3
              rw [fm_filter] at ha3
              have eD : I3 D = some (.lst (((like s (Mu34.marked (Mu34.now q) i j z)).filter fun x => x != n).map vN)) := by
                rw [hD, ha3.of_eq]
              have g123 := (g1.trans g2).trans g3
              rw [twin_other] at k
              refine ⟨_, rfl, _, .inl ⟨_, SqL.of (g3.b _ _ eD), rfl⟩, ?_⟩
              cases hlike : (like s (Mu34.marked (Mu34.now q) i j z)).filter fun x => x != n with
              | cons m rest =>
                rw [hlike] at k eD
                refine iteT ⟨_, rfl, D, _, 0, vN m, rfl, rfl, SqL.of (g3.b _ _ eD), atI_nat (j := 0) rfl, by show 2 ≤ sizeLine; decide, fun l nl => ?_⟩
                exact k.list hC g123 nl
              | nil =>
                rw [hlike] at k
                refine iteF ?_
                -- seal.ages.append(changed)
                have hg3 := g123.s _ _ hg
                have hb3 := g123.b _ _ (g123.u _ _ hb)
                have hC3 := hC.g g123
                refine ⟨_, rfl, b, CS, dxb, _, _, rfl, hb3, TC.cs, TC.s1, seF1, .inl ⟨rfl, _, SqL.of hg3⟩, _, rfl, g, ws, v1, rfl, rfl, hg3, sz_lt (by omega), ?_⟩
                have gM : g ∈ a :: as :: ap :: (gs ++ ps) := by
                  have := List.mem_of_getElem? eg
                  simp [this]
                have w4 : Wr I H I3 (upd H3 g (.lst (ws ++ [v1]))) (a :: as :: ap :: (gs ++ ps)) (a :: as :: ap :: (gs ++ ps)) := (Wr.ofG g123).trans (Wr.mut g123.b gM (hC3.no g gM))
                have bg : b ≠ g := fun e => by
                  rw [e, hg3] at hb3
                  cases hb3
                refine ⟨_, rfl, b, CS, dxb, _, _, rfl, by rw [upd_ne bg]; exact hb3, TC.cs, TC.s1, seF1, g, _, rfl, .inl (SqL.of upd_same), _, _, rfl, rfl, by show 1 ≤ sizeLine; decide, fun l nl => ?_⟩
                have g5 := G.new (o := .lst [V.int (((ws ++ [v1]).length : Int) - 1)]) w4.b nl
                have w5 := w4.trans (Wr.ofG (M := a :: as :: ap :: (gs ++ ps)) g5)
                -- no other thing is at g
                have gne : ∀ m ∈ a :: as :: ap :: ps, m ≠ g := fun m hm e => by
                  subst e
                  have gg := List.mem_of_getElem? eg
                  rw [List.nodup_cons, List.nodup_cons, List.nodup_cons, List.nodup_append] at nd
                  rcases List.mem_cons.mp hm with e | hm
                  · exact nd.1 (by rw [← e]; simp [gg])
                  · rcases List.mem_cons.mp hm with e | hm
                    · exact nd.2.1 (by rw [← e]; simp [gg])
                    · rcases List.mem_cons.mp hm with e | hm
                      · exact nd.2.2.1 (by rw [← e]; simp [gg])
                      · exact nd.2.2.2.2.2 m gg m hm rfl
                have key : ∀ m, m ≠ g → ∀ o, H m = some o → upd (upd H3 g (.lst (ws ++ [v1]))) l (.lst [V.int (((ws ++ [v1]).length : Int) - 1)]) m = some o := fun m hm o e => g5.s _ _ (by rw [upd_ne hm]; exact g123.s _ _ e)
                have gsnd : gs.Nodup := by
                  rw [List.nodup_cons, List.nodup_cons, List.nodup_cons, List.nodup_append] at nd
                  exact nd.2.2.2.1
                refine k { s with seals := s.seals.set n (q ++ [Mu34.marked (Mu34.now q) i j z]) } _ _ _ (a :: as :: ap :: (gs ++ ps)) rfl w5 ⟨⟨a, dx, as, ap, svs, kvs, gs, ps, rfl, key a (gne a (by simp)) _ h1, key as (gne as (by simp)) _ h2, key ap (gne ap (by simp)) _ h3, ?_, ?_, rfl⟩, nd, ?_, ?_⟩ ⟨l, rfl, ?_⟩
                · have h4' := h4.frame (H' := H3) g123.u fun m _ o e => g123.s _ _ e
                  exact (h4'.grow (PicR.mo _ _ _ _ (g2.u.trans g3.u) r1) gsnd eq eg hg3).frame g5.u fun m _ o e => g5.s _ _ e
                · exact h5.frame (g123.u.trans g5.u) fun m hm o e => key m (gne m (by simp [hm])) o e
                · exact fun m hm => g5.n _ (hC3.no m hm) (w4.d m (so m hm))
                · exact fun m hm => w5.d m (so m hm)
                · rw [upd_same]
                  show some (HO.lst [V.int (((ws ++ [v1]).length : Int) - 1)]) = some (HO.lst [V.int (q.length : Int)])
                  rw [List.length_append, lw]
                  simp
/-! ### compare_rings -/
abbrev s_compare_rings : Stmt := top 87
abbrev N_compare_rings : List Str := ["collection", "count", "picture", "ring", "other"]
theorem sc_compare_rings : FnScope N_compare_rings ["collection", "count", "picture"] (defScope s_compare_rings) := ⟨rfl, rfl, rfl, by decide +kernel, rfl, by decide +kernel, by decide +kernel⟩
def spCompare (CC CS CP : Addr) : Sp := fun vs H Q _ => ∃ (I : Hp) (v u : V) (s : Mu34.State) (M : List Addr) (n : Nat) (p : List (List Nat)), vs = [v, vN n, u] ∧ Same I H ∧ CollR CC CS CP I H v s M ∧ Wf s ∧ PicR I u p ∧ p.length ≤ 16 ∧ (∀ c ∈ p, c.length ≤ 5) ∧ RetS CC CS CP I H v M (Mu34.step (some s) (.same n p)) Q
theorem ok_compare_rings (T : TopR K mg aW) (TC : ColT K CC CS CP) (D : Dn K mg "compare_rings" s_compare_rings ["collection", "count", "picture"]) (c_is_ring : C8.Cal P w K mg base 3 "is_ring" spIsRing []) (c_are_same : C8.Cal P w K mg base 3 "are_same" spSame []) :
    C8.Cal P w K mg base 4 "compare_rings" (spCompare CC CS CP) [] := by
  refine D.cal sc_compare_rings (fun vs H Q E h => ?_) (fun f cdv A outer s H vs Q E hr h => ?_)
  · obtain ⟨I, v, u, s, M, n, p, rfl, _⟩ := h
    rfl
  · obtain ⟨I, v, u, s, M, n, p, rfl, hI, hC, wf, ⟨b, ws, rfl, hb, hw⟩, l16, l5, k⟩ := h
    obtain ⟨⟨a, dx, as, ap, svs, kvs, gs, ps, rfl, h1, h2, h3, h4, h5, rfl⟩, nd, no, so⟩ := id hC
    refine ⟨_, (pss_cons (ps_set (i := 3) sc_compare_rings.nd rfl (Or.inl rfl) (pe_slice sl_list (pv 2) po_none (po_some (pv 1))))
        (pss_cons (ps_set (i := 4) sc_compare_rings.nd rfl (Or.inl rfl) (pe_slice sl_list (pv 2) (po_some (pv 1)) po_none))
        (pss_cons (ps_if (pt_not (pt_val (C8.pe_c c_is_ring hr (by decide) rfl (pa_cons (pv 3) (pa_cons (pe_fld (pv 0) rfl) (pa_cons (pe_fld (pv 0) rfl) pa_nil)))))) (pss_one (ps_ret (pe_lst (pa_cons (C8.pe_gc rfl T.WRONG) pa_nil)))) pss_nil)
        (pss_cons (ps_if (pt_not (pt_val (C8.pe_c c_is_ring hr (by decide) rfl (pa_cons (pv 4) (pa_cons (pe_fld (pv 0) rfl) (pa_cons (pe_fld (pv 0) rfl) pa_nil)))))) (pss_one (ps_ret (pe_lst (pa_cons (C8.pe_gc rfl T.WRONG) pa_nil)))) pss_nil)
        (pss_one (ps_ret (pe_lst (pa_cons (pe_ifExp (pt_val (C8.pe_c c_are_same hr (by decide) rfl (pa_cons (pv 3) (pa_cons (pv 4) pa_nil)))) pe_int pe_int) pa_nil)))))))), ?_⟩
    have m5 := wf.m5
    have es : Mu34.step (some s) (.same n p) = (some s, if (ringOk s.height s.signs (p.take n) && ringOk s.height s.signs (p.drop n)) = false then [-1] else if Mu34.same (p.take n) (p.drop n) = true then [1] else [0]) := rfl
    rw [es] at k
    refine ⟨_, rfl, _, rfl, n, rfl, b, ws, rfl, SqL.of (hI _ _ hb), fun p1 n1 => ?_⟩
    rw [cut_to]
    have g1 := G.new (o := .lst (ws.take n)) hI n1
    have hb1 := g1.b _ _ (g1.u _ _ hb)
    have r1 : PicR (upd I p1 (.lst (ws.take n))) (.ref p1) (p.take n) := ⟨p1, _, rfl, upd_same, (All2.mo ColR.mo g1.u hw).take n⟩
    refine ⟨_, rfl, _, rfl, n, rfl, b, ws, rfl, SqL.of hb1, fun p2 n2 => ?_⟩
    rw [cut_from]
    have g2 := G.new (o := .lst (ws.drop n)) g1.b n2
    have g12 := g1.trans g2
    generalize hI2 : upd (upd I p1 (.lst (ws.take n))) p2 (.lst (ws.drop n)) = I2 at *
    generalize hH2 : upd (upd H p1 (.lst (ws.take n))) p2 (.lst (ws.drop n)) = H2 at *
    have r2 : PicR I2 (.ref p2) (p.drop n) := ⟨p2, _, rfl, by rw [← hI2, upd_same], (All2.mo ColR.mo g12.u hw).drop n⟩
    have r1' := PicR.mo _ _ _ _ g2.u r1
    have lt : (p.take n).length ≤ 16 := by rw [List.length_take]; omega
    have ld : (p.drop n).length ≤ 16 := by rw [List.length_drop]; omega
    have h1' := g12.s _ _ h1
    refine ⟨_, rfl, _, rfl, a, CC, dx, _, _, rfl, h1', TC.cc, TC.c1, coF1, _, rfl, a, CC, dx, _, _, rfl, h1', TC.cc, TC.c2, coF2, I2, .ref p1, p.take n, s.height, s.signs, rfl, g2.b, r1', by omega, (fun c hc => Nat.le_trans (l5 c (List.mem_of_mem_take hc)) (by decide)), by omega, fun I3 H3 v3 g3 r3 => ⟨_, r3, ?_⟩⟩
    cases hr1 : ringOk s.height s.signs (p.take n) with
    | false =>
      rw [hr1, Bool.false_and, if_pos rfl] at k
      refine iteT ⟨by show 1 ≤ sizeLine; decide, fun l nl => ?_⟩
      exact k.list hC (g12.trans g3) nl
    | true =>
      rw [hr1, Bool.true_and] at k
      refine iteF ?_
      have h1'' := g3.s _ _ h1'
      refine ⟨_, rfl, _, rfl, a, CC, dx, _, _, rfl, h1'', TC.cc, TC.c1, coF1, _, rfl, a, CC, dx, _, _, rfl, h1'', TC.cc, TC.c2, coF2, I3, .ref p2, p.drop n, s.height, s.signs, rfl, g3.b, PicR.mo _ _ _ _ g3.u r2, by omega, (fun c hc => Nat.le_trans (l5 c (List.mem_of_mem_drop hc)) (by decide)), by omega, fun I4 H4 v4 g4 r4 => ⟨_, r4, ?_⟩⟩
      have g14 := (g12.trans g3).trans g4
      cases hr2 : ringOk s.height s.signs (p.drop n) with
      | false =>
        rw [hr2, if_pos rfl] at k
        refine iteT ⟨by show 1 ≤ sizeLine; decide, fun l nl => ?_⟩
        exact k.list hC g14 nl
      | true =>
        rw [hr2, if_neg (by decide)] at k
        refine iteF ?_
        have s4 := g3.u.trans g4.u
        refine ⟨_, rfl, _, rfl, I4, .ref p1, .ref p2, p.take n, p.drop n, rfl, g4.b, PicR.mo _ _ _ _ s4 r1', PicR.mo _ _ _ _ s4 r2, by omega, fun I5 H5 v5 g5 r5 => ⟨_, r5, ?_⟩⟩
        refine ite2 (fun e => ⟨by show 1 ≤ sizeLine; decide, fun l nl => ?_⟩) (fun e => ⟨by show 1 ≤ sizeLine; decide, fun l nl => ?_⟩)
        · rw [if_pos e] at k
          exact k.list hC (g14.trans g5) nl
        · rw [if_neg e] at k
          exact k.list hC (g14.trans g5) nl
end
end CR

/-! The mirrors against the specification: plain lists. -/
namespace CR
theorem all_cg {A : Type} {f g : A → Bool} : ∀ {l : List A}, (∀ x ∈ l, f x = g x) → l.all f = l.all g
  | [], _ => rfl
  | a :: l, h => by
    rw [List.all_cons, List.all_cons, h a (List.mem_cons_self ..), all_cg fun x hx => h x (List.mem_cons_of_mem _ hx)]
theorem filter_cg {A : Type} {f g : A → Bool} : ∀ {l : List A}, (∀ x ∈ l, f x = g x) → l.filter f = l.filter g
  | [], _ => rfl
  | a :: l, h => by
    rw [List.filter_cons, List.filter_cons, h a (List.mem_cons_self ..), filter_cg fun x hx => h x (List.mem_cons_of_mem _ hx)]
/-! ### agreeing -/
theorem zip_snd {A B : Type} {l : List A} {r : List B} {z : A × B} (h : z ∈ List.zip l r) : z.2 ∈ r := (List.of_mem_zip (a := z.1) (b := z.2) h).2
theorem cdiff_fits {x y : List Nat} (h : ∀ z ∈ y, z ≠ 9) : (!cdiff x y) = Mu34.fitsColumn x y := by
  unfold cdiff Mu34.fitsColumn
  rw [List.not_any_eq_all_not]
  refine all_cg fun z hz => ?_
  have h2 := h _ (zip_snd hz)
  show (!(z.1 != 9 && (z.2 != 9 && z.1 != z.2))) = (z.1 == 9 || z.1 == z.2)
  have e2 : (z.2 != 9) = true := by simpa using h2
  rw [e2, Bool.true_and]
  cases h1 : z.1 == 9 <;> cases h3 : z.1 == z.2 <;> simp [bne, h1, h3]
theorem agr_agrees {p r : List (List Nat)} (h : ∀ c ∈ r, ∀ z ∈ c, z ≠ 9) (k i : Nat) : agr p r k i = Mu34.agrees r k i p := by
  unfold agr Mu34.agrees
  refine all_cg fun d hd => ?_
  unfold agrAt
  refine cdiff_fits fun z hz => ?_
  rw [List.getD_eq_getElem?_getD] at hz
  cases e : r[(i + d) % r.length]? with
  | none =>
    rw [e] at hz
    simp at hz
  | some c =>
    rw [e] at hz
    exact h c (List.mem_of_getElem? e) z hz
theorem filter_map' {A B : Type} (f : A → B) (g : B → Bool) (l : List A) : (l.map f).filter g = (l.filter fun x => g (f x)).map f := List.filter_map
theorem agrs_ways {p r : List (List Nat)} (h : ∀ c ∈ r, ∀ z ∈ c, z ≠ 9) : agrs p r = (Mu34.ways r p).map fun x => [x.1, x.2] := by
  have e : ∀ k, ((List.range r.length).map fun j => [k, j]).filter (fun x => agr p r (x.getD 0 0) (x.getD 1 0)) = (((List.range r.length).filter fun i => Mu34.agrees r k i p).map fun i => (k, i)).map fun x => [x.1, x.2] := by
    intro k
    rw [filter_map', List.map_map]
    have : ((List.range r.length).filter fun x => agr p r (([k, x] : List Nat).getD 0 0) (([k, x] : List Nat).getD 1 0)) = (List.range r.length).filter fun i => Mu34.agrees r k i p := filter_cg fun x _ => agr_agrees h k x
    rw [this]
    rfl
  unfold agrs places placesTo Mu34.ways
  show (([0, 1].take 2).flatMap fun k => (List.range r.length).map fun j => [k, j]).filter _ = _
  show ((List.range r.length).map (fun j => [0, j]) ++ ((List.range r.length).map (fun j => [1, j]) ++ [])).filter _ = List.map _ ((((List.range r.length).filter fun i => Mu34.agrees r 0 i p).map fun i => (0, i)) ++ ((((List.range r.length).filter fun i => Mu34.agrees r 1 i p).map fun i => (1, i)) ++ []))
  rw [List.append_nil, List.append_nil, List.filter_append, List.map_append, e 0, e 1]
/-! ### laying -/
theorem alike_pre : ∀ (a b : List Nat), Mu34.alike (a ++ b) = true → Mu34.alike a = true
  | [], _, _ => rfl
  | x :: a, b, h => by
    have h : (a ++ b).all (fun y => y == x) = true := h
    rw [List.all_append, Bool.and_eq_true] at h
    exact h.1
theorem alike_snoc {l : List Nat} {x : Nat} (h : Mu34.alike l = true) (h9 : ∀ z ∈ l, z ≠ 9) (hx : x ≠ 9) : Mu34.alike (l ++ [x]) = !diff (l.headD 9) x := by
  cases l with
  | nil => rfl
  | cons a l =>
    have h : l.all (fun y => y == a) = true := h
    show (l ++ [x]).all (fun y => y == a) = !diff a x
    rw [List.all_append, h, Bool.true_and]
    have ha := h9 a (List.mem_cons_self ..)
    unfold diff
    rw [show (a != 9) = true by simpa using ha, show (x != 9) = true by simpa using hx]
    show ([x].all fun y => y == a) = !(true && (true && a != x))
    rw [Bool.true_and, Bool.true_and, List.all_cons, List.all_nil, Bool.and_true]
    by_cases e : x = a
    · subst e
      simp
    · have e2 : ¬ a = x := fun z => e z.symm
      rw [beq_eq_false_iff_ne.mpr e, bne_iff_ne.mpr e2]
      rfl
theorem headD_snoc {l : List Nat} {x : Nat} (h9 : ∀ z ∈ l, z ≠ 9) : (l ++ [x]).headD 9 = if l.headD 9 = 9 then x else l.headD 9 := by
  cases l with
  | nil => rfl
  | cons a l => exact (if_neg (h9 a (List.mem_cons_self ..))).symm
abbrev Cells := Nat → Nat → List Nat
def sgn (z : Nat) : List Nat := if z = 9 then [] else [z]
def addCol (cl : Cells) (k : Nat) (c : List Nat) : Cells := fun k' j => if k' = k then cl k' j ++ sgn (c.getD j 9) else cl k' j
def addCols (n : Nat) : Cells → Nat → List (List Nat) → Cells
  | cl, _, [] => cl
  | cl, i, c :: cs => addCols n (addCol cl (i % n) c) (i + 1) cs
/-- a ring that shows the signs that came to it -/
structure Rp (n h : Nat) (r : List (List Nat)) (cl : Cells) : Prop where
  len : r.length = n
  at_ : ∀ k, k < n → ∃ c, r[k]? = some c ∧ c.length = h ∧ ∀ j, j < h → c[j]? = some ((cl k j).headD 9)
def Alk (n h : Nat) (cl : Cells) : Prop := ∀ k, k < n → ∀ j, j < h → Mu34.alike (cl k j) = true
def No9 (cl : Cells) : Prop := ∀ k j, ∀ z ∈ cl k j, z ≠ 9
theorem no9_add {cl : Cells} (h : No9 cl) (k : Nat) (c : List Nat) : No9 (addCol cl k c) := by
  intro k' j z hz
  unfold addCol at hz
  split at hz
  · rcases List.mem_append.mp hz with hz | hz
    · exact h k' j z hz
    · unfold sgn at hz
      split at hz
      · simp at hz
      · rename_i h9
        rw [List.mem_singleton.mp hz]
        exact h9
  · exact h k' j z hz
theorem addCols_pre (n : Nat) : ∀ (cs : List (List Nat)) (cl : Cells) (i k j : Nat), ∃ t, addCols n cl i cs k j = cl k j ++ t
  | [], cl, i, k, j => ⟨[], by rw [List.append_nil]; rfl⟩
  | c :: cs, cl, i, k, j => by
    obtain ⟨t, e⟩ := addCols_pre n cs (addCol cl (i % n) c) (i + 1) k j
    have e : addCols n cl i (c :: cs) k j = addCol cl (i % n) c k j ++ t := e
    unfold addCol at e
    split at e
    · exact ⟨sgn (c.getD j 9) ++ t, by rw [e, List.append_assoc]⟩
    · exact ⟨t, e⟩
theorem cdiff_iff {a c : List Nat} {h : Nat} (ha : a.length = h) (hc : c.length = h) : cdiff a c = true ↔ ∃ j, j < h ∧ ∃ x y, a[j]? = some x ∧ c[j]? = some y ∧ diff x y = true := by
  unfold cdiff
  rw [List.any_eq_true]
  constructor
  · rintro ⟨z, hz, hd⟩
    obtain ⟨j, hj⟩ := List.mem_iff_getElem?.mp hz
    obtain ⟨h1, h2⟩ := List.getElem?_zip_eq_some.mp hj
    exact ⟨j, by rw [← ha]; exact (List.getElem?_eq_some_iff.mp h1).1, z.1, z.2, h1, h2, hd⟩
  · rintro ⟨j, hj, x, y, h1, h2, hd⟩
    exact ⟨(x, y), List.mem_iff_getElem?.mpr ⟨j, List.getElem?_zip_eq_some.mpr ⟨h1, h2⟩⟩, hd⟩
theorem step_col {n h : Nat} {r : List (List Nat)} {cl : Cells} (R : Rp n h r cl) (A : Alk n h cl) (N : No9 cl) {k : Nat} (hk : k < n) {c : List Nat} (hc : c.length = h) :
    (cdiff (r.getD k []) c = true → ∃ j, j < h ∧ Mu34.alike (addCol cl k c k j) = false) ∧ (¬ cdiff (r.getD k []) c = true → Alk n h (addCol cl k c) ∧ Rp n h (r.set k (ctog (r.getD k []) c)) (addCol cl k c)) := by
  obtain ⟨a, ea, la, ca⟩ := R.at_ k hk
  rw [getD_of ea]
  have ec : ∀ j, j < h → ∃ y, c[j]? = some y ∧ c.getD j 9 = y := fun j hj => by
    have e := List.getElem?_eq_getElem (l := c) (i := j) (by omega)
    exact ⟨_, e, getD_of e⟩
  have eadd : ∀ j, addCol cl k c k j = cl k j ++ sgn (c.getD j 9) := fun j => if_pos rfl
  constructor
  · intro hd
    obtain ⟨j, hj, x, y, h1, h2, h3⟩ := (cdiff_iff la hc).mp hd
    refine ⟨j, hj, ?_⟩
    rw [ca j hj] at h1
    have h1 := Option.some.inj h1
    have hy9 : y ≠ 9 := fun z => by
      subst z
      unfold diff at h3
      simp at h3
    rw [eadd, getD_of h2, sgn, if_neg hy9, alike_snoc (A k hk j hj) (N k j) hy9, h1, h3]
    rfl
  · intro hd
    have nd : ∀ j, j < h → ∀ y, c[j]? = some y → diff ((cl k j).headD 9) y = false := fun j hj y hy => by
      cases e : diff ((cl k j).headD 9) y with
      | false => rfl
      | true => exact absurd ((cdiff_iff la hc).mpr ⟨j, hj, _, y, ca j hj, hy, e⟩) hd
    constructor
    · intro k' hk' j hj
      by_cases e : k' = k
      · subst e
        obtain ⟨y, h1, h2⟩ := ec j hj
        rw [eadd, h2]
        unfold sgn
        split
        · rw [List.append_nil]
          exact A k' hk' j hj
        · rename_i h9
          rw [alike_snoc (A k' hk' j hj) (N k' j) h9, nd j hj y h1]
          rfl
      · unfold addCol
        rw [if_neg e]
        exact A k' hk' j hj
    · refine ⟨by rw [List.length_set]; exact R.len, fun k' hk' => ?_⟩
      by_cases e : k' = k
      · subst e
        refine ⟨ctog a c, ?_, ?_, fun j hj => ?_⟩
        · rw [List.getElem?_set_self (by rw [R.len]; exact hk')]
        · unfold ctog
          rw [List.length_map, List.length_zip]
          omega
        · obtain ⟨y, h1, h2⟩ := ec j hj
          unfold ctog
          rw [List.getElem?_map, zip_get (ca j hj) h1, eadd, h2]
          show some (if (cl k' j).headD 9 = 9 then y else (cl k' j).headD 9) = _
          unfold sgn
          split
          · rename_i h9
            split
            · rename_i y9
              rw [List.append_nil, h9, y9]
            · rename_i y9
              rw [headD_snoc (N k' j), if_pos h9]
          · rename_i h9
            split
            · rw [List.append_nil]
            · rw [headD_snoc (N k' j), if_neg h9]
      · obtain ⟨c', e1, e2, e3⟩ := R.at_ k' hk'
        refine ⟨c', ?_, e2, fun j hj => ?_⟩
        · rw [List.getElem?_set_ne (fun z => e z.symm)]
          exact e1
        · unfold addCol
          rw [if_neg e]
          exact e3 j hj
theorem layFrom_spec {n h : Nat} (hn : 0 < n) : ∀ (cs r : List (List Nat)) (cl : Cells) (i : Nat), Rp n h r cl → Alk n h cl → No9 cl → (∀ c ∈ cs, c.length = h) →
    (Alk n h (addCols n cl i cs) → ∃ r', layFrom r i cs = some r' ∧ Rp n h r' (addCols n cl i cs)) ∧ (¬ Alk n h (addCols n cl i cs) → layFrom r i cs = none)
  | [], r, cl, i, R, A, N, H => ⟨fun _ => ⟨r, rfl, R⟩, fun z => absurd A z⟩
  | c :: cs, r, cl, i, R, A, N, H => by
    have hk : i % n < n := Nat.mod_lt _ hn
    have hc := H c (List.mem_cons_self ..)
    obtain ⟨s1, s2⟩ := step_col R A N hk hc
    have el : layFrom r i (c :: cs) = if cdiff (r.getD (i % n) []) c = true then none else layFrom (r.set (i % n) (ctog (r.getD (i % n) []) c)) (i + 1) cs := by
      rw [layFrom, R.len]
    have ea : addCols n cl i (c :: cs) = addCols n (addCol cl (i % n) c) (i + 1) cs := rfl
    rw [el, ea]
    by_cases hd : cdiff (r.getD (i % n) []) c = true
    · rw [if_pos hd]
      obtain ⟨j, hj, hf⟩ := s1 hd
      have na : ¬ Alk n h (addCols n (addCol cl (i % n) c) (i + 1) cs) := fun z => by
        obtain ⟨t, et⟩ := addCols_pre n cs (addCol cl (i % n) c) (i + 1) (i % n) j
        have := z (i % n) hk j hj
        rw [et] at this
        rw [alike_pre _ _ this] at hf
        cases hf
      exact ⟨fun z => absurd z na, fun _ => rfl⟩
    · rw [if_neg hd]
      obtain ⟨A', R'⟩ := s2 hd
      exact layFrom_spec hn cs _ _ _ R' A' (no9_add N _ _) fun x hx => H x (List.mem_cons_of_mem _ hx)
/-- what a picture brings to a place -/
def brings (n w i : Nat) (p : List (List Nat)) (k j : Nat) : List Nat := (List.range p.length).filterMap fun d => if (i + d) % n = k then (if Mu34.cell (Mu34.laid w p) d j = Mu34.WORN then none else some (Mu34.cell (Mu34.laid w p) d j)) else none
theorem signs_zip (n : Nat) (l : Mu34.Layout) (cs : List (List (List Nat))) (k j : Nat) : Mu34.signsAt n l cs k j = (List.zip l cs).flatMap fun x => brings n x.1.1 x.1.2 x.2 k j := rfl
theorem signs_app {n : Nat} {l o : Mu34.Layout} {cs ps : List (List (List Nat))} (h : l.length = cs.length) (k j : Nat) : Mu34.signsAt n (l ++ o) (cs ++ ps) k j = Mu34.signsAt n l cs k j ++ Mu34.signsAt n o ps k j := by
  rw [signs_zip, signs_zip, signs_zip, List.zip_append h, List.flatMap_append]
theorem addCols_range (n k j : Nat) : ∀ (cs : List (List Nat)) (cl : Cells) (i : Nat), addCols n cl i cs k j = cl k j ++ (List.range cs.length).filterMap fun d => if (i + d) % n = k then (if (cs.getD d []).getD j 9 = 9 then none else some ((cs.getD d []).getD j 9)) else none
  | [], cl, i => by
    show cl k j = cl k j ++ []
    rw [List.append_nil]
  | c :: cs, cl, i => by
    have ih := addCols_range n k j cs (addCol cl (i % n) c) (i + 1)
    have e : addCols n cl i (c :: cs) k j = addCols n (addCol cl (i % n) c) (i + 1) cs k j := rfl
    rw [e, ih, List.length_cons, List.range_succ_eq_map, List.filterMap_cons, List.filterMap_map]
    have e2 : (List.range cs.length).filterMap ((fun d => if (i + d) % n = k then (if ((c :: cs).getD d []).getD j 9 = 9 then none else some (((c :: cs).getD d []).getD j 9)) else none) ∘ Nat.succ) = (List.range cs.length).filterMap fun d => if (i + 1 + d) % n = k then (if (cs.getD d []).getD j 9 = 9 then none else some ((cs.getD d []).getD j 9)) else none := by
      congr 1
      funext d
      show (if (i + (d + 1)) % n = k then (if (cs.getD d []).getD j 9 = 9 then none else some ((cs.getD d []).getD j 9)) else none) = _
      rw [show i + (d + 1) = i + 1 + d by omega]
    rw [e2]
    unfold addCol
    rw [show ((c :: cs).getD 0 []) = c from rfl]
    by_cases hk : i % n = k
    · rw [if_pos hk.symm, if_pos (show (i + 0) % n = k from hk)]
      unfold sgn
      split
      · rw [List.append_nil]
      · rw [List.append_assoc]
        rfl
    · rw [if_neg (fun z => hk z.symm), if_neg (show ¬ (i + 0) % n = k from hk)]
theorem clean_iff {h n : Nat} {l : Mu34.Layout} {cs : List (List (List Nat))} : Mu34.clean h n l cs = true ↔ Alk n h (Mu34.signsAt n l cs) := by
  unfold Mu34.clean Alk
  rw [List.all_eq_true]
  constructor
  · intro z k hk j hj
    have := z k (List.mem_range.mpr hk)
    rw [List.all_eq_true] at this
    exact this j (List.mem_range.mpr hj)
  · intro z k hk
    rw [List.all_eq_true]
    exact fun j hj => z k (List.mem_range.mp hk) j (List.mem_range.mp hj)
theorem no9_signs (n : Nat) (l : Mu34.Layout) (cs : List (List (List Nat))) : No9 (Mu34.signsAt n l cs) := by
  intro k j z hz
  rw [signs_zip, List.mem_flatMap] at hz
  obtain ⟨x, _, hx⟩ := hz
  unfold brings at hx
  rw [List.mem_filterMap] at hx
  obtain ⟨d, _, hd⟩ := hx
  split at hd
  · split at hd
    · cases hd
    · rename_i h9
      rw [← Option.some.inj hd]
      exact h9
  · cases hd
theorem rp_eq {n h : Nat} {r : List (List Nat)} {l : Mu34.Layout} {cs : List (List (List Nat))} (R : Rp n h r (Mu34.signsAt n l cs)) : r = Mu34.rebuilt h n l cs := by
  unfold Mu34.rebuilt
  apply List.ext_getElem?
  intro k
  by_cases hk : k < n
  · obtain ⟨c, e1, e2, e3⟩ := R.at_ k hk
    rw [e1, List.getElem?_map, List.getElem?_range hk]
    show some c = some _
    congr 1
    apply List.ext_getElem?
    intro j
    by_cases hj : j < h
    · rw [e3 j hj, List.getElem?_map, List.getElem?_range hj]
      rfl
    · rw [List.getElem?_eq_none (by omega), List.getElem?_eq_none (by simp; omega)]
  · rw [List.getElem?_eq_none (by rw [R.len]; omega), List.getElem?_eq_none (by simp; omega)]
theorem laid_cols {h : Nat} {p : List (List Nat)} (H : ∀ c ∈ p, c.length = h) (w : Nat) : ∀ c ∈ Mu34.laid w p, c.length = h := by
  unfold Mu34.laid
  split
  · intro c hc
    unfold Mu34.over at hc
    rw [List.mem_map] at hc
    obtain ⟨d, hd, rfl⟩ := hc
    rw [List.length_reverse]
    exact H d (List.mem_reverse.mp hd)
  · exact H
theorem withPic_spec {n h : Nat} (hn : 0 < n) {r : List (List Nat)} {l : Mu34.Layout} {cs : List (List (List Nat))} (hl : l.length = cs.length) (R : Rp n h r (Mu34.signsAt n l cs)) (A : Alk n h (Mu34.signsAt n l cs)) {p : List (List Nat)} (H : ∀ c ∈ p, c.length = h) (w i : Nat) :
    (Mu34.clean h n (l ++ [(w, i)]) (cs ++ [p]) = true → ∃ r', withPic r p w i = some r' ∧ Rp n h r' (Mu34.signsAt n (l ++ [(w, i)]) (cs ++ [p]))) ∧ (¬ Mu34.clean h n (l ++ [(w, i)]) (cs ++ [p]) = true → withPic r p w i = none) := by
  have e : addCols n (Mu34.signsAt n l cs) i (Mu34.laid w p) = Mu34.signsAt n (l ++ [(w, i)]) (cs ++ [p]) := by
    funext k j
    rw [addCols_range, signs_app hl, laid_len]
    congr 1
    show _ = brings n w i p k j ++ []
    rw [List.append_nil]
    rfl
  have s := layFrom_spec hn (Mu34.laid w p) r (Mu34.signsAt n l cs) i R A (no9_signs n l cs) (laid_cols H w)
  rw [e] at s
  rw [clean_iff]
  exact s
theorem clean_pre {h n : Nat} {l o : Mu34.Layout} {cs ps : List (List (List Nat))} (hl : l.length = cs.length) (c : Mu34.clean h n (l ++ o) (cs ++ ps) = true) : Mu34.clean h n l cs = true := by
  rw [clean_iff] at c ⊢
  intro k hk j hj
  have := c k hk j hj
  rw [signs_app hl] at this
  exact alike_pre _ _ this
def flatL (o : Mu34.Layout) : List Nat := o.flatMap fun x => [x.1, x.2]
theorem fs_flat {A B C : Type} (f : A → List B) (g : B → Option C) : ∀ l : List A, (l.flatMap f).findSome? g = l.findSome? fun a => (f a).findSome? g
  | [] => rfl
  | a :: l => by
    rw [List.flatMap_cons, List.findSome?_append, fs_cons, fs_flat f g l]
theorem f_flat {A B : Type} (f : A → List B) (g : B → Bool) : ∀ l : List A, (l.flatMap f).find? g = l.findSome? fun a => (f a).find? g
  | [] => rfl
  | a :: l => by
    rw [List.flatMap_cons, List.find?_append, fs_cons, f_flat f g l]
theorem fs_map_out {A B C : Type} (f : A → Option B) (g : B → C) : ∀ l : List A, (l.findSome? f).map g = l.findSome? fun a => (f a).map g
  | [] => rfl
  | a :: l => by
    rw [fs_cons, fs_cons, ← fs_map_out f g l]
    cases f a <;> rfl
theorem fs_cg {A B : Type} {f g : A → Option B} : ∀ {l : List A}, (∀ a ∈ l, f a = g a) → l.findSome? f = l.findSome? g
  | [], _ => rfl
  | a :: l, h => by
    rw [fs_cons, fs_cons, h a (List.mem_cons_self ..), fs_cg fun x hx => h x (List.mem_cons_of_mem _ hx)]
theorem fs_map_in {A B C : Type} (f : A → B) (g : B → Option C) : ∀ l : List A, (l.map f).findSome? g = l.findSome? fun a => g (f a)
  | [] => rfl
  | a :: l => by
    rw [List.map_cons, fs_cons, fs_cons, fs_map_in f g l]
theorem layMore_spec {n h : Nat} (hn : 0 < n) : ∀ (ps : List (List (List Nat))) (l : Mu34.Layout) (cs : List (List (List Nat))) (r : List (List Nat)) (lst : List Nat), l.length = cs.length → Rp n h r (Mu34.signsAt n l cs) → Alk n h (Mu34.signsAt n l cs) → (∀ p ∈ ps, ∀ c ∈ p, c.length = h) →
    layMore ps (r, lst) = ((Mu34.others n ps.length).find? fun o => Mu34.clean h n (l ++ o) (cs ++ ps)).map fun o => (Mu34.rebuilt h n (l ++ o) (cs ++ ps), lst ++ flatL o)
  | [], l, cs, r, lst, hl, R, A, H => by
    have hc : Mu34.clean h n (l ++ []) (cs ++ []) = true := by
      rw [List.append_nil, List.append_nil, clean_iff]
      exact A
    show some (r, lst) = (([[]] : List Mu34.Layout).find? _).map _
    rw [List.find?_cons_of_pos (by exact hc)]
    show some (r, lst) = some (_, lst ++ flatL [])
    rw [List.append_nil, List.append_nil, rp_eq R]
    show _ = some (_, lst ++ [])
    rw [List.append_nil]
  | p :: ps, l, cs, r, lst, hl, R, A, H => by
    have hp := H p (List.mem_cons_self ..)
    have el : layMore (p :: ps) (r, lst) = (places n).findSome? (layTry (layMore ps) p (r, lst)) := by
      show (places r.length).findSome? _ = _
      rw [R.len]
    have eo : Mu34.others n (p :: ps).length = [0, 1].flatMap fun w => (List.range n).flatMap fun i => (Mu34.others n ps.length).map fun o => (w, i) :: o := rfl
    have ep : places n = [0, 1].flatMap fun k => (List.range n).map fun j => [k, j] := rfl
    rw [el, eo, ep, fs_flat, f_flat, fs_map_out]
    refine fs_cg fun w _ => ?_
    rw [fs_map_in, f_flat, fs_map_out]
    refine fs_cg fun i _ => ?_
    obtain ⟨s1, s2⟩ := withPic_spec hn hl R A hp w i
    have ea : ∀ o : Mu34.Layout, l ++ (w, i) :: o = (l ++ [(w, i)]) ++ o := fun o => by simp
    have ec : cs ++ p :: ps = (cs ++ [p]) ++ ps := by simp
    by_cases hc : Mu34.clean h n (l ++ [(w, i)]) (cs ++ [p]) = true
    · obtain ⟨r', e1, R'⟩ := s1 hc
      have hl' : (l ++ [(w, i)]).length = (cs ++ [p]).length := by
        rw [List.length_append, List.length_append, hl]
        rfl
      have ih := layMore_spec hn ps (l ++ [(w, i)]) (cs ++ [p]) r' (lst ++ [w, i]) hl' R' (clean_iff.mp hc) fun x hx => H x (List.mem_cons_of_mem _ hx)
      rw [layTry_some e1, ih, List.find?_map]
      rw [ec]
      show Option.map _ _ = Option.map _ (Option.map _ (List.find? ((fun o => Mu34.clean h n (l ++ o) (cs ++ [p] ++ ps)) ∘ fun o => (w, i) :: o) _))
      rw [Option.map_map]
      have ef : ((fun o => Mu34.clean h n (l ++ o) (cs ++ [p] ++ ps)) ∘ fun o : Mu34.Layout => (w, i) :: o) = fun o => Mu34.clean h n ((l ++ [(w, i)]) ++ o) (cs ++ [p] ++ ps) := by
        funext o
        show Mu34.clean h n (l ++ (w, i) :: o) _ = _
        rw [ea]
      rw [ef]
      congr 1
      funext o
      show _ = (Mu34.rebuilt h n (l ++ (w, i) :: o) _, lst ++ flatL ((w, i) :: o))
      rw [show l ++ (w, i) :: o = (l ++ [(w, i)]) ++ o from ea o, show lst ++ flatL ((w, i) :: o) = (lst ++ [w, i]) ++ flatL o by rw [List.append_assoc]; rfl]
    · rw [layTry_none (s2 hc)]
      have : ((Mu34.others n ps.length).map fun o => (w, i) :: o).find? (fun o => Mu34.clean h n (l ++ o) (cs ++ p :: ps)) = none := by
        rw [List.find?_eq_none]
        intro o ho
        rw [List.mem_map] at ho
        obtain ⟨o', _, rfl⟩ := ho
        rw [ea, ec]
        intro z
        exact hc (clean_pre (by rw [List.length_append, List.length_append, hl]; rfl) z)
      rw [this]
      rfl
theorem worn_rp (n h : Nat) : Rp n h (worn n h) (Mu34.signsAt n [] []) := by
  refine ⟨by simp [worn], fun k hk => ⟨List.replicate h 9, ?_, by simp, fun j hj => ?_⟩⟩
  · unfold worn
    rw [List.getElem?_replicate, if_pos hk]
  · rw [List.getElem?_replicate, if_pos hj]
    rfl
theorem layIn_spec {n h : Nat} (hn : 0 < n) (p : List (List Nat)) (ps : List (List (List Nat))) (H : ∀ q ∈ p :: ps, ∀ c ∈ q, c.length = h) :
    layIn n h (p :: ps) = ((Mu34.layouts n (p :: ps).length).find? fun l => Mu34.clean h n l (p :: ps)).map fun l => (Mu34.rebuilt h n l (p :: ps), flatL (l.drop 1)) := by
  have A : Alk n h (Mu34.signsAt n [] []) := fun k _ j _ => rfl
  obtain ⟨s1, s2⟩ := withPic_spec (cs := []) (l := []) hn rfl (worn_rp n h) A (H p (List.mem_cons_self ..)) 0 0
  have el : layIn n h (p :: ps) = match withPic (worn n h) p 0 0 with
    | none => none
    | some r => layMore ps (r, []) := rfl
  have eo : Mu34.layouts n (p :: ps).length = (Mu34.others n ps.length).map fun l => (0, 0) :: l := rfl
  rw [el, eo]
  by_cases hc : Mu34.clean h n [(0, 0)] [p] = true
  · obtain ⟨r', e1, R'⟩ := s1 hc
    have ih := layMore_spec hn ps [(0, 0)] [p] r' [] rfl R' (clean_iff.mp hc) fun x hx => H x (List.mem_cons_of_mem _ hx)
    rw [e1]
    show layMore ps (r', []) = _
    rw [ih, List.find?_map, Option.map_map]
    congr 1
  · rw [s2 hc]
    have : ((Mu34.others n ps.length).map fun l => ((0, 0) : Nat × Nat) :: l).find? (fun l => Mu34.clean h n l (p :: ps)) = none := by
      rw [List.find?_eq_none]
      intro o ho
      rw [List.mem_map] at ho
      obtain ⟨o', _, rfl⟩ := ho
      intro z
      exact hc (clean_pre (l := [(0, 0)]) (cs := [p]) (o := o') (ps := ps) rfl z)
    rw [this]
    rfl
/-- the least ring -/
def leastL (h : Nat) (cs : List (List (List Nat))) : Option Lay := (List.range 8).findSome? fun k => layIn (k + 1) h cs
theorem leastL_spec {h : Nat} (p : List (List Nat)) (ps : List (List (List Nat))) (H : ∀ q ∈ p :: ps, ∀ c ∈ q, c.length = h) :
    leastL h (p :: ps) = (Mu34.least h (p :: ps)).map fun x => (Mu34.rebuilt h x.1 x.2 (p :: ps), flatL (x.2.drop 1)) := by
  unfold leastL Mu34.least
  rw [fs_map_out]
  refine fs_cg fun k _ => ?_
  rw [layIn_spec (Nat.succ_pos k) p ps H, Option.map_map]
  rfl
theorem rebuilt_len (h n : Nat) (l : Mu34.Layout) (cs : List (List (List Nat))) : (Mu34.rebuilt h n l cs).length = n := by
  unfold Mu34.rebuilt
  simp
end CR

/-! Joining: the mirror against the specification. -/
namespace CR
theorem f_cg {A : Type} {f g : A → Bool} : ∀ {l : List A}, (∀ x ∈ l, f x = g x) → l.find? f = l.find? g
  | [], _ => rfl
  | a :: l, h => by
    rw [List.find?_cons, List.find?_cons, h a (List.mem_cons_self ..), f_cg fun x hx => h x (List.mem_cons_of_mem _ hx)]
theorem flat_cg {A B : Type} {f g : A → List B} : ∀ {l : List A}, (∀ x ∈ l, f x = g x) → l.flatMap f = l.flatMap g
  | [], _ => rfl
  | a :: l, h => by
    rw [List.flatMap_cons, List.flatMap_cons, h a (List.mem_cons_self ..), flat_cg fun x hx => h x (List.mem_cons_of_mem _ hx)]
theorem spread_len (p : List (List Nat)) (s wd h : Nat) (hw : s + p.length ≤ wd) : (spreadP p s wd h).length = wd := by
  unfold spreadP worn
  simp
  omega
theorem spread_at {p : List (List Nat)} {s wd h d : Nat} (H : ∀ c ∈ p, c.length = h) (hw : s + p.length ≤ wd) (hd : d < wd) :
    ∃ c, (spreadP p s wd h)[d]? = some c ∧ c.length = h ∧ ∀ j, j < h → c[j]? = some (if s ≤ d then Mu34.cell p (d - s) j else 9) := by
  have lw : (worn s h).length = s := by simp [worn]
  unfold spreadP
  by_cases h1 : d < s
  · refine ⟨List.replicate h 9, ?_, by simp, fun j hj => ?_⟩
    · rw [List.append_assoc, List.getElem?_append_left (by omega), worn, List.getElem?_replicate, if_pos h1]
    · rw [List.getElem?_replicate, if_pos hj, if_neg (by omega)]
  · by_cases h2 : d - s < p.length
    · have e := List.getElem?_eq_getElem h2
      refine ⟨p[d - s], ?_, H _ (List.getElem_mem h2), fun j hj => ?_⟩
      · rw [List.getElem?_append_left (by rw [List.length_append, lw]; omega), List.getElem?_append_right (by omega), lw, e]
      · rw [if_pos (by omega), Mu34.cell, getD_of e]
        have hl := H _ (List.getElem_mem h2)
        have e2 := List.getElem?_eq_getElem (l := p[d - s]) (i := j) (by omega)
        rw [getD_of e2, e2]
    · refine ⟨List.replicate h 9, ?_, by simp, fun j hj => ?_⟩
      · rw [List.getElem?_append_right (by rw [List.length_append, lw]; omega), List.length_append, lw, worn, List.getElem?_replicate, if_pos (by omega)]
      · rw [List.getElem?_replicate, if_pos hj, if_pos (by omega), Mu34.cell, List.getD_eq_getElem?_getD (l := p), List.getElem?_eq_none (by omega)]
        rfl
section
variable {p q : List (List Nat)} {i wd h : Nat}
theorem left_cell (H : ∀ c ∈ p, c.length = h) (hw : p.length ≤ wd) {d j : Nat} (hd : d < wd) (hj : j < h) : (((spreadP p 0 wd h).getD d []).getD j 0) = Mu34.cell p d j := by
  obtain ⟨c, e1, e2, e3⟩ := spread_at (s := 0) H (by omega) hd
  rw [getD_of e1, getD_of (e3 j hj), if_pos (Nat.zero_le _), Nat.sub_zero]
theorem right_cell (H : ∀ c ∈ q, c.length = h) (hw : i + q.length ≤ wd) {d j : Nat} (hd : d < wd) (hj : j < h) : (((spreadP q i wd h).getD d []).getD j 0) = if i ≤ d then Mu34.cell q (d - i) j else 9 := by
  obtain ⟨c, e1, e2, e3⟩ := spread_at H hw hd
  rw [getD_of e1, getD_of (e3 j hj)]
theorem clash_spec (Hp : ∀ c ∈ p, c.length = h) (Hq : ∀ c ∈ q, c.length = h) (e : wd = max p.length (i + q.length)) : fdiff (spreadP p 0 wd h) (spreadP q i wd h) = Mu34.clash h p q i := by
  have h1 : p.length ≤ wd := by omega
  have h2 : i + q.length ≤ wd := by omega
  unfold fdiff Mu34.clash grid
  rw [spread_len p 0 wd h (by omega), ← e]
  have e1 : ((List.range wd).flatMap fun d => (List.range ((spreadP p 0 wd h).getD d []).length).map fun j => (d, j)) = (List.range wd).flatMap fun d => (List.range h).map fun j => (d, j) := by
    refine flat_cg fun d hd => ?_
    obtain ⟨c, e1, e2, _⟩ := spread_at (s := 0) Hp (by omega) (List.mem_range.mp hd)
    rw [getD_of e1, e2]
  rw [e1]
  refine f_cg fun x hx => ?_
  rw [List.mem_flatMap] at hx
  obtain ⟨d, hd, hx⟩ := hx
  rw [List.mem_map] at hx
  obtain ⟨j, hj, rfl⟩ := hx
  unfold diffAt
  rw [left_cell Hp h1 (List.mem_range.mp hd) (List.mem_range.mp hj), right_cell Hq h2 (List.mem_range.mp hd) (List.mem_range.mp hj)]
  rfl
theorem joined_spec (Hp : ∀ c ∈ p, c.length = h) (Hq : ∀ c ∈ q, c.length = h) (e : wd = max p.length (i + q.length)) : (List.zip (spreadP p 0 wd h) (spreadP q i wd h)).map (fun z => ctog z.1 z.2) = Mu34.joined h p q i := by
  have h1 : p.length ≤ wd := by omega
  have h2 : i + q.length ≤ wd := by omega
  unfold Mu34.joined
  rw [← e]
  apply List.ext_getElem?
  intro d
  by_cases hd : d < wd
  · obtain ⟨c, e1, e2, e3⟩ := spread_at (s := 0) Hp (by omega) hd
    obtain ⟨c', e1', e2', e3'⟩ := spread_at Hq h2 hd
    rw [List.getElem?_map, zip_get e1 e1', List.getElem?_map, List.getElem?_range hd]
    show some (ctog c c') = some _
    congr 1
    apply List.ext_getElem?
    intro j
    by_cases hj : j < h
    · unfold ctog
      rw [List.getElem?_map, zip_get (e3 j hj) (e3' j hj), List.getElem?_map, List.getElem?_range hj, if_pos (Nat.zero_le _), Nat.sub_zero]
      rfl
    · rw [List.getElem?_eq_none (by unfold ctog; simp; omega), List.getElem?_eq_none (by simp; omega)]
  · rw [List.getElem?_eq_none (by simp [spread_len p 0 wd h (by omega), spread_len q i wd h h2]; omega), List.getElem?_eq_none (by simp; omega)]
theorem joined_len : (Mu34.joined h p q i).length = max p.length (i + q.length) := by
  unfold Mu34.joined
  simp
end
end CR

namespace CR
open PySem PySem.Spec PyProof.Rows L2
section
variable {P : Program} {w : World} {K : PySem.W.Frag} {mg : Str → Option Value} {base : Heap} {aW CC CS CP : Addr}
/-- a <= x <= b -/
theorem xBetween {a b x : Int} {i : Nat} {σ : L2.St} {H : Hp} {Q : Bool → Hp → Prop} (hv : σ[i]? = some (some (.int x))) (h : Q (decide (a ≤ x) && decide (x ≤ b)) H) :
    tTest (tChain (rI0 fun i j => .bl (decide (i ≤ j))) (rI0 fun i j => .bl (decide (i ≤ j))) (tC (.int a)) (tVar i) (tC (.int b))) σ H Q := by
  refine ⟨_, hv, _, _, rfl, rfl, _, rfl, ?_⟩
  by_cases e : a ≤ x
  · rw [decide_eq_true e, Bool.true_and] at h
    rw [decide_eq_true e]
    exact iteT ⟨_, _, rfl, rfl, _, rfl, h⟩
  · rw [decide_eq_false e, Bool.false_and] at h
    rw [decide_eq_false e]
    exact iteF ⟨_, rfl, h⟩
theorem xOr {t u : TT} {σ : L2.St} {H : Hp} {Q : Bool → Hp → Prop} (h : t σ H fun c H1 => if c = true then Q true H1 else u σ H1 Q) : tOr t u σ H Q := h
theorem xNot {t : TT} {σ : L2.St} {H : Hp} {Q : Bool → Hp → Prop} (h : t σ H fun c H1 => Q (!c) H1) : tNot t σ H Q := h
theorem xIfS {c : TT} {t u : TS} {D : Ends} {σ : L2.St} {H : Hp} (h : c σ H fun b H1 => if b = true then t D σ H1 else u D σ H1) : tIfS c t u D σ H := h
/-! ### Piece -/
abbrev s_init_Piece : Stmt := inClass (top 5) 0
abbrev N_init_Piece : List Str := ["self", "year", "picture"]
theorem sc_init_Piece : FnScope N_init_Piece ["self", "year", "picture"] (defScope s_init_Piece) := ⟨rfl, rfl, rfl, by decide +kernel, rfl, by decide +kernel, by decide +kernel⟩
def spInitPiece (CP : Addr) : Sp := fun vs H Q _ => ∃ (p dx : Addr) (y u : V), vs = [.ref p, y, u] ∧ H p = some (.ins CP dx []) ∧ Made CP p dx (piF y u .non) H Q
theorem ok_init_Piece (TC : ColT K CC CS CP) (D : Di K mg "Piece" "Piece.__init__" CP s_init_Piece ["self", "year", "picture"]) : C8.Mak P w K mg base 1 "Piece" CP (spInitPiece CP) [] := by
  refine D.mak sc_init_Piece (fun vs H Q E h => ?_) (fun f cdv A outer s H vs Q E hr h => ?_)
  · obtain ⟨p, dx, y, u, rfl, _⟩ := h
    rfl
  · obtain ⟨p, dx, y, u, rfl, hp, q⟩ := h
    refine ⟨_, (pss_cons (ps_fld (pv 0) (pv 1) rfl)
        (pss_cons (ps_fld (pv 0) (pv 2) rfl)
        (pss_one (ps_fld (pv 0) pe_non rfl)))), ?_⟩
    refine ⟨_, rfl, _, rfl, p, CP, dx, [], rfl, hp, TC.cp, TC.p1, by show 0 < 1000; decide, ?_⟩
    refine ⟨_, rfl, _, rfl, p, CP, dx, _, rfl, upd_same, TC.cp, TC.p2, by show 1 < 1000; decide, ?_⟩
    refine ⟨_, rfl, p, CP, dx, _, rfl, upd_same, TC.cp, TC.p3, by show 2 < 1000; decide, ?_⟩
    refine q _ ?_ (fun b o e hb => by rw [upd_ne hb, upd_ne hb, upd_ne hb]; exact e)
    rw [upd_same, put0, putN (by decide +kernel), put0, putN (by decide +kernel), putN (by decide +kernel), put0]
/-! ### add_piece -/
abbrev s_add_piece : Stmt := top 43
abbrev N_add_piece : List Str := ["collection", "year", "picture", "number"]
theorem sc_add_piece : FnScope N_add_piece ["collection", "year", "picture"] (defScope s_add_piece) := ⟨rfl, rfl, rfl, by decide +kernel, rfl, by decide +kernel, by decide +kernel⟩
theorem put_new {kvs : List (Key × V)} {k : Key} {v : V} (h : valV kvs k = none) : putK kvs k v = kvs ++ [(k, v)] := by
  unfold putK
  rw [valV_any, h]
  rfl
def spAddPiece (CC CS CP : Addr) : Sp := fun vs H Q _ => ∃ (I : Hp) (v u : V) (s : Mu34.State) (M : List Addr) (y : Nat) (p : List (List Nat)), vs = [v, vN y, u] ∧ Same I H ∧ CollR CC CS CP I H v s M ∧ Wf s ∧ PicR I u p ∧ p.length ≤ 16 ∧ (∀ c ∈ p, c.length ≤ 5) ∧ RetS CC CS CP I H v M (Mu34.step (some s) (.piece y p)) Q
theorem find_next {s : Mu34.State} (wf : Wf s) : s.pieces.find? (fun c => c.id == s.next) = none := by
  rw [List.find?_eq_none]
  intro c hc
  have := (wf.pc c hc).2.2
  simp
  omega
theorem ok_add_piece (T : TopR K mg aW) (TC : ColT K CC CS CP) (D : Dn K mg "add_piece" s_add_piece ["collection", "year", "picture"]) (c_is_piece : C8.Cal P w K mg base 3 "is_piece" spIsPiece []) (m_Piece : C8.Mak P w K mg base 1 "Piece" CP (spInitPiece CP) []) :
    C8.Cal P w K mg base 4 "add_piece" (spAddPiece CC CS CP) [] := by
  refine D.cal sc_add_piece (fun vs H Q E h => ?_) (fun f cdv A outer s H vs Q E hr h => ?_)
  · obtain ⟨I, v, u, s, M, y, p, rfl, _⟩ := h
    rfl
  · obtain ⟨I, v, u, s, M, y, p, rfl, hI, hC, wf, hu, l16, l5, k⟩ := h
    obtain ⟨⟨a, dx, as, ap, svs, kvs, gs, ps, rfl, h1, h2, h3, h4, h5, rfl⟩, nd, no, so⟩ := id hC
    refine ⟨_, (pss_cons (ps_if (PW.pt (pw_or (pt_not (pt_chain op_le op_le pe_int (pv 1) pe_int)) (pw_or1 (pt_not (pt_val (C8.pe_c c_is_piece hr (by decide) rfl (pa_cons (pv 2) (pa_cons (pe_fld (pv 0) rfl) (pa_cons (pe_fld (pv 0) rfl) pa_nil))))))))) (pss_one (ps_ret (pe_lst (pa_cons (C8.pe_gc rfl T.WRONG) pa_nil)))) pss_nil)
        (pss_cons (ps_if (pt_cmpR op_eq (pe_callB call_lenD (by rfl) T.b_len PySem.boot_len (pa_cons (pe_fld (pv 0) rfl) pa_nil)) (C8.pe_gc rfl T.MOST_PIECES) (nomark _)) (pss_one (ps_ret (pe_lst (pa_cons (C8.pe_gc rfl T.TOO_MANY) pa_nil)))) pss_nil)
        (pss_cons (ps_set (i := 3) sc_add_piece.nd rfl (Or.inl rfl) (pe_fld (pv 0) rfl))
        (pss_cons (ps_dput (hu_of hr) (pe_fld (pv 0) rfl) (pv 3) (C8.pe_mk m_Piece hr (by decide) rfl (pa_cons (pv 1) (pa_cons (pv 2) pa_nil))) rfl)
        (pss_cons (ps_fld (pv 0) (pe_op op_add (pv 3) pe_int) rfl)
        (pss_one (ps_ret (pe_lst (pa_cons (pv 3) pa_nil))))))))), ?_⟩
    have m5 := wf.m5
    have lp := h5.len
    have p6 := wf.p6
    have es : Mu34.step (some s) (.piece y p) = if y < 1 ∨ (99 < y ∨ pieceOk s.height s.signs p = false) then (some s, [-1]) else if 6 ≤ s.pieces.length then (some s, [-5]) else (some { s with pieces := s.pieces ++ [⟨s.next, y, p, none⟩], next := s.next + 1 }, [(s.next : Int)]) := rfl
    rw [es] at k
    refine xSeq (xIfS (xOr (xNot (xBetween (x := (y : Int)) rfl ?_))))
    by_cases hy : 1 ≤ y ∧ y ≤ 99
    case neg =>
      rw [if_pos (by omega)] at k
      rw [show (decide ((1 : Int) ≤ (y : Int)) && decide ((y : Int) ≤ 99)) = false by
        rw [Bool.and_eq_false_iff, decide_eq_false_iff_not, decide_eq_false_iff_not]
        omega]
      refine iteT (iteT ⟨by show 1 ≤ sizeLine; decide, fun l nl => ?_⟩)
      exact k.list hC (G.refl hI) nl
    case pos =>
      rw [show (decide ((1 : Int) ≤ (y : Int)) && decide ((y : Int) ≤ 99)) = true by
        rw [Bool.and_eq_true, decide_eq_true_eq, decide_eq_true_eq]
        omega]
      refine iteF ?_
      refine ⟨_, rfl, _, rfl, a, CC, dx, _, _, rfl, h1, TC.cc, TC.c1, coF1, _, rfl, a, CC, dx, _, _, rfl, h1, TC.cc, TC.c2, coF2, I, u, p, s.height, s.signs, rfl, hI, hu, by omega, (fun c hc => Nat.le_trans (l5 c hc) (by decide)), by omega, fun I1 H1 v1 g1 r1 => ⟨_, r1, ?_⟩⟩
      cases hring : pieceOk s.height s.signs p with
      | false =>
        rw [if_pos (.inr (.inr hring))] at k
        refine iteT ⟨by show 1 ≤ sizeLine; decide, fun l nl => ?_⟩
        exact k.list hC g1 nl
      | true =>
        rw [if_neg (by rw [hring]; simp; omega)] at k
        refine iteF ?_
        have h1' := g1.s _ _ h1
        have h3' := g1.s _ _ h3
        refine ⟨_, rfl, a, CC, dx, _, _, rfl, h1', TC.cc, TC.c4, coF4, ap, kvs, rfl, h3', rfl, _, rfl, ?_⟩
        have e6 : decide (V.int (kvs.length : Int) = V.int 6) = (s.pieces.length == 6) := by
          rw [lp.1]
          exact eq_int (b := 6)
        rw [e6]
        by_cases c6 : s.pieces.length = 6
        · rw [if_pos (show 6 ≤ s.pieces.length by omega)] at k
          rw [show (s.pieces.length == 6) = true by rw [c6]; rfl]
          refine iteT ⟨by show 1 ≤ sizeLine; decide, fun l nl => ?_⟩
          exact k.list hC g1 nl
        · rw [if_neg (show ¬ 6 ≤ s.pieces.length by omega)] at k
          rw [show (s.pieces.length == 6) = false by simpa using c6]
          refine iteF ?_
          -- number = collection.next_piece
          refine ⟨_, rfl, a, CC, dx, _, _, rfl, h1', TC.cc, TC.c5, coF5, ?_⟩
          -- collection.pieces[number] = Piece(year, picture)
          refine ⟨_, rfl, _, rfl, ?_⟩
          intro x dxx nx ndx nex
          refine ⟨x, dxx, vN y, u, rfl, upd_same, made_G g1.b nx ndx fun H2 g2 hx => ⟨rfl, ?_⟩⟩
          have g12 := g1.trans g2
          have h1'' := g2.s _ _ h1'
          have h3'' := g2.s _ _ h3'
          have hC2 := hC.g g12
          have I1x : I1 x = none := none_of g1.b nx
          refine ⟨_, rfl, a, CC, dx, _, _, rfl, h1'', TC.cc, TC.c4, coF4, _, rfl, ap, _, rfl, DPut.k (k := Sum.inl (s.next : Int)) h3'' (sz_lt (by omega)), ?_⟩
          have en : valV kvs (Sum.inl (s.next : Int)) = none := by
            have f := h5.find s.next
            rw [find_next wf] at f
            exact f
          rw [put_new en]
          have nxM : ∀ m ∈ a :: as :: ap :: (gs ++ ps), m ≠ x := fun m hm z => by
            subst z
            obtain ⟨o, e⟩ := ne_some (so m hm)
            rw [g1.s _ _ e] at nx
            cases nx
          have apa : a ≠ ap := fun z => by
            rw [List.nodup_cons] at nd
            exact nd.1 (by rw [z]; simp)
          have w3 : Wr I H I1 (upd H2 ap (.dK (kvs ++ [(Sum.inl (s.next : Int), V.ref x)]))) (a :: as :: ap :: (gs ++ ps)) (a :: as :: ap :: (gs ++ ps)) := (Wr.ofG g12).trans (Wr.mut g2.b (by simp) (hC2.no ap (by simp)))
          have h1_3 : upd H2 ap (.dK (kvs ++ [(Sum.inl (s.next : Int), V.ref x)])) a = some (.ins CC dx (coF s.height s.signs as ap s.next)) := by
            rw [upd_ne apa]
            exact h1''
          -- collection.next_piece = number + 1
          refine ⟨_, rfl, _, _, rfl, rfl, _, rfl, a, CC, dx, _, rfl, h1_3, TC.cc, TC.c5, by show 5 < 1000; decide, ?_⟩
          have ep : putF "next_piece" (V.int ((s.next : Int) + 1)) (coF s.height s.signs as ap s.next) = coF s.height s.signs as ap (s.next + 1) := coFput
          rw [ep]
          have w4 := w3.trans (Wr.mut (M := a :: as :: ap :: (gs ++ ps)) (o := .ins CC dx (coF s.height s.signs as ap (s.next + 1))) w3.b (by simp) (hC2.no a (by simp)))
          refine ⟨_, rfl, by show 1 ≤ sizeLine; decide, fun l nl => ?_⟩
          have g5 := G.new (o := .lst [V.int (s.next : Int)]) w4.b nl
          have w5 := w4.trans (Wr.ofG (M := a :: as :: ap :: (gs ++ ps)) g5)
          have xH : H x = none := none_of g1.s nx
          have sub : ∀ m ∈ as :: (gs ++ ps), m ≠ a ∧ m ≠ ap := fun m hm => by
            rw [List.nodup_cons, List.nodup_cons, List.nodup_cons] at nd
            rcases List.mem_cons.mp hm with e | hm
            · subst e
              exact ⟨fun z => nd.1 (by rw [← z]; simp), fun z => nd.2.1 (by rw [z]; simp)⟩
            · exact ⟨fun z => nd.1 (by rw [← z]; simp at hm; simp [hm]), fun z => nd.2.2.1 (by rw [← z]; exact hm)⟩
          have key : ∀ m, m ≠ a → m ≠ ap → ∀ o, H2 m = some o → upd (upd (upd H2 ap (.dK (kvs ++ [(Sum.inl (s.next : Int), V.ref x)]))) a (.ins CC dx (coF s.height s.signs as ap (s.next + 1)))) l (.lst [V.int (s.next : Int)]) m = some o := fun m ha hp o e => g5.s _ _ (by
            rw [upd_ne ha, upd_ne hp]
            exact e)
          have xa : x ≠ a := fun z => nxM a (by simp) z.symm
          have xp : x ≠ ap := fun z => nxM ap (by simp) z.symm
          have cov : ∀ m ∈ a :: as :: ap :: (gs ++ (ps ++ [x])), m = x ∨ m ∈ a :: as :: ap :: (gs ++ ps) := fun m hm => by
            simp only [List.mem_cons, List.mem_append, List.not_mem_nil, or_false] at hm ⊢
            rcases hm with h | h | h | h | (h | h)
            · exact .inr (.inl h)
            · exact .inr (.inr (.inl h))
            · exact .inr (.inr (.inr (.inl h)))
            · exact .inr (.inr (.inr (.inr (.inl h))))
            · exact .inr (.inr (.inr (.inr (.inr h))))
            · exact .inl h
          refine k _ _ _ _ (a :: as :: ap :: (gs ++ (ps ++ [x]))) rfl (w5.weak (fun m hm => ?_) (fun m hm => hm)) ⟨⟨a, dx, as, ap, svs, _, gs, ps ++ [x], rfl, g5.s _ _ upd_same, key as (sub as (by simp)).1 (sub as (by simp)).2 _ (g12.s _ _ h2), g5.s _ _ (by rw [upd_ne apa.symm, upd_same]), ?_, ?_, rfl⟩, ?_, ?_, ?_⟩ ⟨l, rfl, upd_same⟩
          · rcases cov m hm with rfl | h
            · exact .inr xH
            · exact .inl h
          · exact h4.frame (g12.u.trans g5.u) fun m hm o e => key m (sub m (by simp [hm])).1 (sub m (by simp [hm])).2 o (g12.s _ _ e)
          · refine PiecesAt.snoc (c := ⟨s.next, y, p, none⟩) (h5.frame (g12.u.trans g5.u) fun m hm o e => key m (sub m (by simp [hm])).1 (sub m (by simp [hm])).2 o (g12.s _ _ e)) (key x xa xp _ hx) (PicR.mo _ _ _ _ (g12.u.trans g5.u) hu) rfl
          · have e : (a :: as :: ap :: (gs ++ (ps ++ [x]))).Perm (x :: (a :: as :: ap :: (gs ++ ps))) := by
              have : a :: as :: ap :: (gs ++ (ps ++ [x])) = (a :: as :: ap :: (gs ++ ps)) ++ [x] := by simp
              rw [this]
              exact List.perm_append_singleton _ _
            rw [e.nodup_iff, List.nodup_cons]
            exact ⟨fun h => nxM x h rfl, nd⟩
          · intro m hm
            rcases cov m hm with rfl | hm
            · exact g5.n _ I1x (some_ne (by rw [upd_ne xa, upd_ne xp]; exact hx))
            · exact g5.n _ (hC2.no m hm) (w4.d m (so m hm))
          · intro m hm
            rcases cov m hm with rfl | hm
            · exact some_ne (key m xa xp _ hx)
            · exact w5.d m (so m hm)
/-! ### find_fits -/
abbrev s_find_fits : Stmt := top 46
abbrev N_find_fits : List Str := ["collection", "seal_number", "piece_number", "picture", "found", "age", "ring", "place"]
theorem sc_find_fits : FnScope N_find_fits ["collection", "seal_number", "piece_number"] (defScope s_find_fits) := ⟨rfl, rfl, rfl, by decide +kernel, rfl, by decide +kernel, by decide +kernel⟩
def fitsTo (q : List (List (List Nat))) (p : List (List Nat)) (i : Nat) : List (List Nat) := (List.range i).flatMap fun a => (agrs p (q.getD a [])).map fun x => a :: x
def spFits (CC CS CP : Addr) : Sp := fun vs H Q _ => ∃ (I : Hp) (v : V) (s : Mu34.State) (M : List Addr) (n m : Nat), vs = [v, vN n, vN m] ∧ Same I H ∧ CollR CC CS CP I H v s M ∧ Wf s ∧ RetS CC CS CP I H v M (Mu34.step (some s) (.fits n m)) Q
theorem fitsTo_succ (q : List (List (List Nat))) (p : List (List Nat)) (i : Nat) : fitsTo q p (i + 1) = fitsTo q p i ++ (agrs p (q.getD i [])).map fun x => i :: x := by
  unfold fitsTo
  rw [List.range_succ, List.flatMap_append]
  simp
theorem agrs_len (p r : List (List Nat)) : (agrs p r).length ≤ 2 * r.length := Nat.le_trans (filter_len _ _) (placesTo_len r.length 2)
theorem fitsTo_len {q : List (List (List Nat))} (h : ∀ r ∈ q, r.length ≤ 8) (p : List (List Nat)) : ∀ i, (fitsTo q p i).length ≤ 16 * i
  | 0 => Nat.zero_le _
  | i + 1 => by
    rw [fitsTo_succ, List.length_append, List.length_map]
    have h1 := fitsTo_len h p i
    have h2 := agrs_len p (q.getD i [])
    have h3 : (q.getD i []).length ≤ 8 := by
      rw [List.getD_eq_getElem?_getD]
      cases e : q[i]? with
      | none => exact Nat.zero_le _
      | some r => exact h r (List.mem_of_getElem? e)
    omega
theorem fits_spec {q : List (List (List Nat))} (h : ∀ r ∈ q, ∀ c ∈ r, ∀ z ∈ c, z ≠ 9) (p : List (List Nat)) : fitsTo q p q.length = (Mu34.fits q p).map fun x => [x.1, x.2.1, x.2.2] := by
  unfold fitsTo Mu34.fits
  rw [List.map_flatMap]
  refine flat_cg fun a ha => ?_
  have ha := List.mem_range.mp ha
  have e := List.getElem?_eq_getElem ha
  rw [getD_of e, agrs_ways (h _ (List.getElem_mem ha)), List.map_map, List.map_map]
  rfl
theorem ok_find_fits (T : TopR K mg aW) (TC : ColT K CC CS CP) (D : Dn K mg "find_fits" s_find_fits ["collection", "seal_number", "piece_number"]) (c_has_seal : C8.Cal P w K mg base 1 "has_seal" (spHasSeal CC CS CP) []) (c_has_piece : C8.Cal P w K mg base 1 "has_piece" (spHasPiece CC CS CP) []) (c_agreements : C8.Cal P w K mg base 4 "agreements" spAgreements []) :
    C8.Cal P w K mg base 5 "find_fits" (spFits CC CS CP) [] := by
  refine D.cal sc_find_fits (fun vs H Q E h => ?_) (fun f cdv A outer s H vs Q E hr h => ?_)
  · obtain ⟨I, v, s, M, n, m, rfl, _⟩ := h
    rfl
  · obtain ⟨I, v, s, M, n, m, rfl, hI, hC, wf, k⟩ := h
    obtain ⟨⟨a, dx, as, ap, svs, kvs, gs, ps, rfl, h1, h2, h3, h4, h5, rfl⟩, nd, no, so⟩ := id hC
    refine ⟨_, (pss_cons (ps_if (pt_not (pt_val (C8.pe_c c_has_seal hr (by decide) rfl (pa_cons (pv 0) (pa_cons (pv 1) pa_nil))))) (pss_one (ps_ret (pe_lst (pa_cons (C8.pe_gc rfl T.NO_SEAL) pa_nil)))) pss_nil)
        (pss_cons (ps_if (pt_not (pt_val (C8.pe_c c_has_piece hr (by decide) rfl (pa_cons (pv 0) (pa_cons (pv 2) pa_nil))))) (pss_one (ps_ret (pe_lst (pa_cons (C8.pe_gc rfl T.NO_PIECE) pa_nil)))) pss_nil)
        (pss_cons (ps_set (i := 3) sc_find_fits.nd rfl (Or.inl rfl) (pe_fld (pe_dget (hu_of hr) (pe_fld (pv 0) rfl) (pv 2) (fun _ _ => rfl)) rfl))
        (pss_cons (ps_set (i := 4) sc_find_fits.nd rfl (Or.inl rfl) (pe_lst pa_nil))
        (pss_cons (ps_for PassesOwn.never rfl (pi_enum (by rfl) T.b_enumerate (pa_cons (pe_fld (pe_ix ix_list (pe_fld (pv 0) rfl) (pv 1) (fun _ _ => rfl)) rfl) pa_nil)) (pg_tup rfl (pgs_cons (pg_name (i := 5) sc_find_fits.nd rfl (Or.inl rfl)) (pgs_cons (pg_name (i := 6) sc_find_fits.nd rfl (Or.inl rfl)) pgs_nil))) (pss_one (ps_for PassesOwn.never rfl (pi_list (C8.pe_c c_agreements hr (by decide) rfl (pa_cons (pv 3) (pa_cons (pv 6) pa_nil)))) (pg_name (i := 7) sc_find_fits.nd rfl (Or.inl rfl)) (pss_one (ps_expr (pe_bm PySem.F.plainAttrs_list PySem.F.slot_list_append PySem.F.type_list_append mt_append (pv 4) (pa_cons (pe_op op_cat (pe_lst (pa_cons (pv 5) pa_nil)) (pv 7)) pa_nil)))))))
        (pss_cons (ps_if (pt_not (pt_truth (pv 4) (by intro _; rfl))) (pss_one (ps_ret (pe_lst (pa_cons pe_int pa_nil)))) pss_nil)
        (pss_one (ps_ret (pe_op op_cat (pe_lst (pa_cons (pe_callB call_len_seq (by rfl) T.b_len PySem.boot_len (pa_cons (pv 4) pa_nil)) pa_nil)) (pe_ix ix_list (pv 4) pe_int (fun _ _ => rfl))))))))))), ?_⟩
    have es : Mu34.step (some s) (.fits n m) = (some s, match Mu34.sealOf s n, Mu34.find s m with
      | none, _ => [-2]
      | some _, none => [-3]
      | some q, some c => match Mu34.fits q c.pic with
        | [] => [0]
        | x :: r => Mu34.nums [r.length + 1, x.1, x.2.1, x.2.2]) := rfl
    rw [es] at k
    refine ⟨_, rfl, _, rfl, I, _, s, _, n, rfl, hI, hC, _, rfl, ?_⟩
    by_cases hn : n < s.seals.length
    case neg =>
      rw [show Mu34.sealOf s n = none from List.getElem?_eq_none (by omega)] at k
      rw [decide_eq_false hn]
      refine iteT ⟨by show 1 ≤ sizeLine; decide, fun l nl => ?_⟩
      exact k.list hC (G.refl hI) nl
    case pos =>
      obtain ⟨q, eq⟩ : ∃ q, s.seals[n]? = some q := ⟨_, List.getElem?_eq_getElem hn⟩
      rw [show Mu34.sealOf s n = some q from eq] at k
      rw [decide_eq_true hn]
      refine iteF ?_
      refine ⟨_, rfl, _, rfl, I, _, s, _, m, rfl, hI, hC, _, rfl, ?_⟩
      have fm := h5.find m
      cases hf : Mu34.find s m with
      | none =>
        rw [hf] at k
        refine iteT ⟨by show 1 ≤ sizeLine; decide, fun l nl => ?_⟩
        exact k.list hC (G.refl hI) nl
      | some c =>
        rw [hf] at k
        have k : RetS CC CS CP I H (.ref a) (a :: as :: ap :: (gs ++ ps)) (some s, match Mu34.fits q c.pic with
          | [] => [0]
          | x :: r => Mu34.nums [r.length + 1, x.1, x.2.1, x.2.2]) Q := k
        rw [show s.pieces.find? (fun c => c.id == m) = some c from hf] at fm
        obtain ⟨cm, ci, b, dxb, vp, vg, bps, ev, hb, hvp, hvg⟩ := fm
        have wq := wf.sq q (List.mem_of_getElem? eq)
        have wc := piece_of (wf.pc c cm).1
        have rr : ∀ r ∈ q, r.length ≤ 8 ∧ 1 ≤ r.length ∧ ∀ x ∈ r, ∀ z ∈ x, z ≠ 9 := fun r hr' => by
          have := ring_of (wq.2.2 r hr')
          have m5 := wf.m5
          exact ⟨this.2.1, this.1, fun x hx z hz => by
            have := (this.2.2 x hx).2 z hz
            omega⟩
        obtain ⟨sb, dxs, g, ws, esb, eg, hsb, hg, hw⟩ := h4.get eq
        have lw := hw.length
        refine iteF ?_
        refine ⟨_, rfl, a, CC, dx, _, _, rfl, h1, TC.cc, TC.c4, coF4, _, rfl, ap, _, rfl, (by rw [← ev]; exact DGet.k (k := Sum.inl (m : Int)) h3), b, CP, dxb, _, _, rfl, hb, TC.cp, TC.p2, piF2, ?_⟩
        refine ⟨Nat.zero_le _, fun o no' => ?_⟩
        have g0 : G I H I (upd H o (.lst [])) := G.newH hI no'
        refine ⟨_, rfl, a, CC, dx, _, _, rfl, g0.s _ _ h1, TC.cc, TC.c3, coF3, _, rfl, as, svs, (n : Int), .ref sb, rfl, rfl, SqL.of (g0.s _ _ h2), atI_nat esb, sb, CS, dxs, _, _, rfl, g0.b _ _ hsb, TC.cs, TC.s1, seF1, g, ws, rfl, SqL.of (g0.s _ _ hg), ?_⟩
        refine for_it (walk_enum (xs := ws)) (fun i σ H' => ∃ I' ys y5 y6 y7, σ = [some (.ref a), some (vN n), some (vN m), some vp, some (.ref o), y5, y6, y7] ∧ G I H I' H' ∧ I' o = none ∧ H' o = some (.lst ys) ∧ All2 (ColR I') ys (fitsTo q c.pic i)) ?_ ?_ ?_ ?_
        · exact ⟨I, [], none, none, none, rfl, g0, none_of hI no', upd_same, .nil⟩
        · rintro i σ H' _ ⟨I', ys, y5, y6, y7, rfl, g1, _⟩
          exact SqL.of (g1.s _ _ hg)
        · rintro i x σ H1 H1' hi ⟨I1, ys, y5, y6, y7, rfl, g1, io1, ho1, a1⟩ ⟨t, x1, x2, rfl, nt, rfl, ex1, ex2⟩
          have ex1 : vN i = x1 := Option.some.inj ex1
          subst ex1
          obtain ⟨r, er, rx⟩ := hw.get ex2
          have rb := rr r (List.mem_of_getElem? er)
          have g2 := g1.trans (G.newH (o := .tup [vN i, x2]) g1.b nt)
          have ho2 : upd H1 t (.tup [vN i, x2]) o = some (.lst ys) := same_new nt _ _ ho1
          refine ⟨t, _, rfl, SqT.of upd_same, rfl, _, _, rfl, _, _, rfl, rfl, ?_⟩
          refine ⟨_, rfl, _, rfl, I1, vp, x2, c.pic, r, rfl, g2.b, PicR.mo _ _ _ _ g1.u hvp, PicR.mo _ _ _ _ g1.u rx, by omega, by omega, by omega, (fun x hx => by have := (wc.2.2 x hx).1; have := wf.h3; omega), fun I3 H3 v3 g3 r3 => ?_⟩
          obtain ⟨a3, vs3, rfl, ha3, hv3⟩ := r3
          have lv3 := hv3.length
          have io3 := g3.still io1 ho2
          have ho3 := g3.s _ _ ho2
          have g13 := g2.trans g3
          refine ⟨a3, rfl, ⟨_, SqL.of (g3.b _ _ ha3)⟩, for_it (walk_list (xs := vs3)) (fun j σ H' => ∃ I' ys y7, σ = [some (.ref a), some (vN n), some (vN m), some vp, some (.ref o), some (vN i), some x2, y7] ∧ G I H I' H' ∧ Same I3 I' ∧ I' o = none ∧ H' o = some (.lst ys) ∧ All2 (ColR I') ys (fitsTo q c.pic i ++ ((agrs c.pic r).take j).map fun x => i :: x)) ?_ ?_ ?_ ?_⟩
          · exact ⟨I3, ys, _, rfl, g13, Same.refl _, io3, ho3, by simpa using All2.mo ColR.mo g3.u a1⟩
          · rintro j σ H' _ ⟨I', ys, y7, rfl, g4, u4, _⟩
            exact SqL.of (g4.b _ _ (u4 _ _ ha3))
          · rintro j x σ H4 H4' hj ⟨I4, ys4, y7, rfl, g4, u4, io4, ho4, a4⟩ ⟨rfl, hx⟩
            obtain ⟨pl, epl, ⟨apl, rfl, hpl⟩⟩ := hv3.get hx
            have l4 := a4.length
            have l1 := fitsTo_len (fun r hr' => (rr r hr').1) c.pic i
            have l2 := agrs_len c.pic r
            simp only [List.length_append, List.length_map, List.length_take] at l4
            have wq4 := wq.2.1
            have hplH := g4.b _ _ (u4 _ _ hpl)
            obtain ⟨kk, jj, rfl, _, _⟩ := mem_places (List.mem_filter.mp (List.mem_of_getElem? epl)).1
            refine ⟨_, rfl, .inl ⟨rfl, _, SqL.of ho4⟩, _, rfl, by show 1 ≤ sizeLine; decide, fun p1 n1 => ?_⟩
            have g5 := G.newH (o := .lst [vN i]) g4.b n1
            refine ⟨_, rfl, p1, apl, _, _, rfl, rfl, upd_same, g5.s _ _ hplH, by show 1 + 2 ≤ sizeLine; decide, fun p2 n2 => ?_⟩
            have g6 := g5.trans (G.new (o := .lst ([vN i] ++ [kk, jj].map vN)) g5.b n2)
            refine ⟨o, ys4, _, rfl, rfl, g6.s _ _ ho4, sz_lt (by omega), ?_⟩
            have io6 := g6.still io4 ho4
            refine ⟨_, _, _, rfl, (g4.trans g6).mut no' io6, u4.trans g6.u, io6, upd_same, ?_⟩
            rw [List.take_add_one, epl, List.map_append, ← List.append_assoc]
            refine (All2.mo ColR.mo g6.u a4).snoc ⟨p2, rfl, ?_⟩
            rw [upd_same]
            rfl
          · rintro σ H4 ⟨I4, ys4, y7, rfl, g4, u4, io4, ho4, a4⟩
            refine ⟨I4, ys4, _, _, _, rfl, g4, io4, ho4, ?_⟩
            rw [fitsTo_succ, getD_of er]
            rw [lv3, List.take_length] at a4
            exact a4
        · rintro σ H1 ⟨I1, ys, y5, y6, y7, rfl, g1, io1, ho1, a1⟩
          rw [lw] at a1
          rw [fits_spec (fun r hr' => (rr r hr').2.2) c.pic] at a1
          refine ⟨_, rfl, _, .inl ⟨_, SqL.of ho1, rfl⟩, ?_⟩
          have la := a1.length
          cases hfit : Mu34.fits q c.pic with
          | nil =>
            rw [hfit] at a1 k
            cases a1
            refine iteT ⟨by show 1 ≤ sizeLine; decide, fun l nl => ?_⟩
            exact k.list hC g1 nl
          | cons x r =>
            rw [hfit] at a1 k la
            cases a1 with
            | cons hx0 hxs =>
              rename_i v0 vs0
              obtain ⟨a0, rfl, ha0⟩ := hx0
              refine iteF ?_
              refine ⟨_, rfl, o, _, rfl, .inl (SqL.of ho1), by show 1 ≤ sizeLine; decide, fun p1 n1 => ?_⟩
              have g2 := G.newH (o := .lst [V.int (((V.ref a0 :: vs0).length : Nat) : Int)]) g1.b n1
              have ha0' := g2.s _ _ (g1.b _ _ ha0)
              refine ⟨_, rfl, o, _, 0, .ref a0, rfl, rfl, SqL.of (g2.s _ _ ho1), atI_nat (j := 0) rfl, p1, a0, _, _, rfl, rfl, upd_same, ha0', by show 1 + 3 ≤ sizeLine; decide, fun p2 n2 => ?_⟩
              have e : ([V.int (((V.ref a0 :: vs0).length : Nat) : Int)] ++ [x.1, x.2.1, x.2.2].map vN) = (Mu34.nums [r.length + 1, x.1, x.2.1, x.2.2]).map V.int := by
                have : (V.ref a0 :: vs0).length = r.length + 1 := by
                  rw [la]
                  simp
                rw [this]
                rfl
              rw [e]
              exact k.list hC (g1.trans g2) n2
end
end CR

namespace CR
open PySem PySem.Spec PyProof.Rows L2
section
variable {CC CS CP : Addr} {I H I' H' : Hp}
theorem PiecesAt.val_mem : ∀ {kvs : List (Key × V)} {cs : List Mu34.Piece} {ps : List Addr}, PiecesAt CP I H kvs cs ps → ∀ {n : Nat} {a : Addr}, valV kvs (Sum.inl (n : Int)) = some (.ref a) → a ∈ ps ∧ n ∈ cs.map (·.id)
  | _, _, _, .nil, n, a, e => by cases e
  | _, _, _, .cons (a := b) (c := c) h1 h2 h3 t, n, a, e => by
    rw [val_cons] at e
    by_cases z : c.id = n
    · subst z
      rw [if_pos rfl] at e
      have e := V.ref.inj (Option.some.inj e)
      subst e
      exact ⟨List.mem_cons_self .., List.mem_cons_self ..⟩
    · rw [if_neg (inl_ne z)] at e
      obtain ⟨i1, i2⟩ := t.val_mem e
      exact ⟨List.mem_cons_of_mem _ i1, List.mem_cons_of_mem _ i2⟩
theorem map_same {cs : List Mu34.Piece} {n : Nat} {c' : Mu34.Piece} (h : n ∉ cs.map (·.id)) : cs.map (fun x => if x.id = n then c' else x) = cs := by
  induction cs with
  | nil => rfl
  | cons c cs ih =>
    rw [List.map_cons] at h ⊢
    rw [ih fun z => h (List.mem_cons_of_mem _ z), if_neg fun z => h (by rw [← z]; exact List.mem_cons_self ..)]
/-- a piece is another one -/
theorem PiecesAt.put (u : Same I I') {n : Nat} {a dx : Addr} {vp vg : V} {c' : Mu34.Piece} (hid : c'.id = n) (ha : H' a = some (.ins CP dx (piF (vN c'.year) vp vg))) (hp : PicR I' vp c'.pic) (hg : GivR I' vg c'.claim) :
    ∀ {kvs : List (Key × V)} {cs : List Mu34.Piece} {ps : List Addr}, PiecesAt CP I H kvs cs ps → valV kvs (Sum.inl (n : Int)) = some (.ref a) → (∀ p ∈ ps, p ≠ a → ∀ o, H p = some o → H' p = some o) → (cs.map (·.id)).Nodup → ps.Nodup → PiecesAt CP I' H' kvs (cs.map fun x => if x.id = n then c' else x) ps
  | _, _, _, .nil, e, _, _, _ => by cases e
  | _, _, _, .cons (a := b) (c := c) (cs := cs) (ps := ps) h1 h2 h3 t, e, f, nd, np => by
    rw [val_cons] at e
    rw [List.map_cons, List.nodup_cons] at nd
    rw [List.nodup_cons] at np
    rw [List.map_cons]
    by_cases z : c.id = n
    · rw [if_pos (by rw [z])] at e
      have e := V.ref.inj (Option.some.inj e)
      subst e
      rw [if_pos z, map_same (by rw [← z]; exact nd.1), z, ← hid]
      refine .cons ha hp hg (t.frame u fun p hp' o eo => f p (List.mem_cons_of_mem _ hp') (fun y => np.1 (by rw [← y]; exact hp')) o eo)
    · rw [if_neg (inl_ne z)] at e
      rw [if_neg z]
      have hm := (t.val_mem e).1
      refine .cons (f b (List.mem_cons_self ..) (fun y => np.1 (by rw [y]; exact hm)) _ h1) (PicR.mo _ _ _ _ u h2) (GivR.mo _ _ _ _ u h3) (PiecesAt.put u hid ha hp hg t e (fun p hp' => f p (List.mem_cons_of_mem _ hp')) nd.2 np.2)
/-- a piece is gone -/
theorem PiecesAt.drop (n : Nat) : ∀ {kvs : List (Key × V)} {cs : List Mu34.Piece} {ps : List Addr}, PiecesAt CP I H kvs cs ps → ∃ ps' : List Addr, PiecesAt CP I H (dropK kvs (Sum.inl (n : Int))) (cs.filter fun x => x.id != n) ps' ∧ ps'.Sublist ps
  | _, _, _, .nil => ⟨[], .nil, .slnil⟩
  | _, _, _, .cons (a := b) (c := c) (kvs := kvs) (cs := cs) h1 h2 h3 t => by
    obtain ⟨ps', i1, i2⟩ := t.drop n
    by_cases z : c.id = n
    · refine ⟨ps', ?_, .cons _ i2⟩
      have e1 : dropK ((Sum.inl (c.id : Int), V.ref b) :: kvs) (Sum.inl (n : Int)) = dropK kvs (Sum.inl (n : Int)) := by
        unfold dropK
        rw [List.filter_cons, if_neg (by simp [z])]
      rw [e1, List.filter_cons, if_neg (by simp [z])]
      exact i1
    · refine ⟨b :: ps', ?_, .cons_cons _ i2⟩
      have e1 : dropK ((Sum.inl (c.id : Int), V.ref b) :: kvs) (Sum.inl (n : Int)) = (Sum.inl (c.id : Int), V.ref b) :: dropK kvs (Sum.inl (n : Int)) := by
        unfold dropK
        rw [List.filter_cons, if_pos (by simpa using inl_ne z)]
      rw [e1, List.filter_cons, if_pos (by simpa using z)]
      exact .cons h1 h2 h3 i1
end
section
variable {P : Program} {w : World} {K : PySem.W.Frag} {mg : Str → Option Value} {base : Heap} {aW CC CS CP : Addr}
/-! ### join_refusal -/
abbrev s_join_refusal : Stmt := top 49
abbrev N_join_refusal : List Str := ["piece", "other", "start", "width"]
theorem sc_join_refusal : FnScope N_join_refusal ["piece", "other", "start", "width"] (defScope s_join_refusal) := ⟨rfl, rfl, rfl, by decide +kernel, rfl, by decide +kernel, by decide +kernel⟩
def optV : Option Int → V
  | none => .non
  | some z => .int z
def joinRef (st wd : Int) (g1 g2 : Bool) (y1 y2 : Nat) : Option Int := if st < 0 ∨ 12 < wd then some (-1) else if g1 = true ∨ g2 = true then some (-8) else if y1 ≠ y2 then some (-10) else none
def spJoinRef (CP : Addr) : Sp := fun vs H Q _ => ∃ (I : Hp) (b1 b2 d1 d2 : Addr) (st wd : Int) (y1 y2 : Nat) (p1 p2 g1 g2 : V) (c1 c2 : Option (Nat × Nat)), vs = [.ref b1, .ref b2, .int st, .int wd] ∧ H b1 = some (.ins CP d1 (piF (vN y1) p1 g1)) ∧ H b2 = some (.ins CP d2 (piF (vN y2) p2 g2)) ∧ GivR I g1 c1 ∧ GivR I g2 c2 ∧ Q (optV (joinRef st wd c1.isSome c2.isSome y1 y2)) H
theorem giv_non {I : Hp} {g : V} {c : Option (Nat × Nat)} (h : GivR I g c) : (!decide (g = V.non)) = c.isSome := by
  cases c with
  | none =>
    have h : g = .non := h
    subst h
    rfl
  | some x =>
    obtain ⟨a, rfl, _⟩ := h
    rfl
theorem ok_join_refusal (T : TopR K mg aW) (TC : ColT K CC CS CP) (D : Dn K mg "join_refusal" s_join_refusal ["piece", "other", "start", "width"]) : C8.Cal P w K mg base 1 "join_refusal" (spJoinRef CP) [] := by
  refine D.cal sc_join_refusal (fun vs H Q E h => ?_) (fun f cdv A outer s H vs Q E hr h => ?_)
  · obtain ⟨I, b1, b2, d1, d2, st, wd, y1, y2, p1, p2, g1, g2, c1, c2, rfl, _⟩ := h
    rfl
  · obtain ⟨I, b1, b2, d1, d2, st, wd, y1, y2, p1, p2, g1, g2, c1, c2, rfl, h1, h2, hg1, hg2, q⟩ := h
    refine ⟨_, (pss_cons (ps_if (PW.pt (pw_or (pt_cmpR op_lt (pv 2) pe_int (nomark _)) (pw_or1 (pt_cmpR op_gt (pv 3) (C8.pe_gc rfl T.LONGEST_PIECE) (nomark _))))) (pss_one (ps_ret (C8.pe_gc rfl T.WRONG))) pss_nil)
        (pss_cons (ps_if (PW.pt (pw_or (pt_cmpR op_notN (pe_fld (pv 0) rfl) pe_non (nomark _)) (pw_or1 (pt_cmpR op_notN (pe_fld (pv 1) rfl) pe_non (nomark _))))) (pss_one (ps_ret (C8.pe_gc rfl T.GIVEN))) pss_nil)
        (pss_cons (ps_if (pt_cmpR op_ne (pe_fld (pv 0) rfl) (pe_fld (pv 1) rfl) (nomark _)) (pss_one (ps_ret (C8.pe_gc rfl T.YEARS_DIFFER))) pss_nil)
        (pss_one (ps_ret pe_non))))), ?_⟩
    unfold joinRef at q
    have back : ∀ {b : Bool} {A B : Prop}, (b = true → A) → (b = false → B) → if b = true then A else B := fun {b} {A} {B} ha hb => by
      cases b with
      | true => exact iteT (ha rfl)
      | false => exact iteF (hb rfl)
    -- behind the two that are WRONG
    have s2 : ¬ (st < 0 ∨ 12 < wd) → tSeq (tIfS (tOr (tTest (tOp (fun x y H Q => y = .non ∧ Q (.bl (!decide (x = .non))) H) (tFld K (tVar 0) "given") (tC .non))) (tTest (tOp (fun x y H Q => y = .non ∧ Q (.bl (!decide (x = .non))) H) (tFld K (tVar 1) "given") (tC .non)))) (tRet (tC (.int (-8)))) tNext)
        (tSeq (tIfS (tTest (tOp rNe (tFld K (tVar 0) "year") (tFld K (tVar 1) "year"))) (tRet (tC (.int (-10)))) tNext) (tRet (tC .non))) { nx := fun _ H' => Q .non H', rt := Q } (start N_join_refusal [.ref b1, .ref b2, .int st, .int wd]) H := fun hn => by
      rw [if_neg hn] at q
      have s3 : ¬ (c1.isSome = true ∨ c2.isSome = true) → tSeq (tIfS (tTest (tOp rNe (tFld K (tVar 0) "year") (tFld K (tVar 1) "year"))) (tRet (tC (.int (-10)))) tNext) (tRet (tC .non)) { nx := fun _ H' => Q .non H', rt := Q } (start N_join_refusal [.ref b1, .ref b2, .int st, .int wd]) H := fun hn2 => by
        rw [if_neg hn2] at q
        refine ⟨_, rfl, b1, CP, d1, _, _, rfl, h1, TC.cp, TC.p1, piF1, _, rfl, b2, CP, d2, _, _, rfl, h2, TC.cp, TC.p1, piF1, rfl, _, rfl, ?_⟩
        rw [ne_int]
        refine back (fun e => ?_) (fun e => ?_)
        · rw [if_pos (by simpa using e)] at q
          exact q
        · rw [if_neg (by simpa using e)] at q
          exact q
      refine ⟨_, rfl, b1, CP, d1, _, _, rfl, h1, TC.cp, TC.p3, piF3, rfl, _, rfl, ?_⟩
      rw [giv_non hg1]
      refine back (fun e => iteT ?_) (fun e => ⟨_, rfl, b2, CP, d2, _, _, rfl, h2, TC.cp, TC.p3, piF3, rfl, _, rfl, ?_⟩)
      · rw [if_pos (.inl e)] at q
        exact q
      · rw [giv_non hg2]
        refine back (fun e2 => ?_) (fun e2 => s3 fun z => ?_)
        · rw [if_pos (.inr e2)] at q
          exact q
        · rcases z with z | z
          · rw [e] at z
            cases z
          · rw [e2] at z
            cases z
    refine ⟨_, rfl, _, _, rfl, rfl, _, rfl, ?_⟩
    refine back (fun e => iteT ?_) (fun e => ⟨_, rfl, _, _, rfl, rfl, _, rfl, ?_⟩)
    · rw [if_pos (.inl (of_decide_eq_true e))] at q
      exact q
    · refine back (fun e2 => ?_) (fun e2 => s2 fun z => ?_)
      · rw [if_pos (.inr (of_decide_eq_true e2))] at q
        exact q
      · rcases z with z | z
        · exact of_decide_eq_false e z
        · exact of_decide_eq_false e2 z
end
end CR

namespace CR
open PySem PySem.Spec PyProof.Rows L2
section
variable {P : Program} {w : World} {K : PySem.W.Frag} {mg : Str → Option Value} {base : Heap} {aW CC CS CP : Addr}
theorem xFld {K : PySem.W.Frag} {ta tv : TE} {f : Str} {D : Ends} {σ : L2.St} {H : Hp} (h : tv σ H fun y H1 => ta σ H1 fun x H2 => ∃ a C dx fs, x = .ref a ∧ H2 a = some (.ins C dx fs) ∧ Cls K C ∧ NoAttr K C f ∧ fs.length < 1000 ∧ D.nx σ (upd H2 a (.ins C dx (putF f y fs)))) : sFld K ta tv f D σ H := h
theorem xSetE {te : TE} {i : Nat} {u : TS} {D : Ends} {σ : L2.St} {H : Hp} (τ : V → L2.St) (e : ∀ x, σ.set i (some x) = τ x) (h : te σ H fun x H1 => u D (τ x) H1) : tSeq (tAsg te (gName i)) u D σ H := by
  have : (fun (x : V) (H1 : Hp) => u D (σ.set i (some x)) H1) = fun x H1 => u D (τ x) H1 := by
    funext x H1
    rw [e x]
  show te σ H fun x H1 => u D (σ.set i (some x)) H1
  rw [this]
  exact h
theorem filter_put {cs : List Mu34.Piece} {c' : Mu34.Piece} {n m : Nat} (hid : c'.id = n) : (cs.map fun z => if z.id = n then c' else z).filter (fun z => z.id != m) = (cs.filter fun z => z.id != m).map fun z => if z.id = n then c' else z := by
  rw [List.filter_map]
  congr 1
  refine filter_cg fun z _ => ?_
  show ((if z.id = n then c' else z).id != m) = (z.id != m)
  by_cases hz : z.id = n
  · rw [if_pos hz, hid, hz]
  · rw [if_neg hz]
abbrev s_join_pieces : Stmt := top 50
abbrev N_join_pieces : List Str := ["collection", "number", "other_number", "gap", "piece", "other", "start", "width", "refusal", "left", "right", "difference", "column", "beside"]
theorem sc_join_pieces : FnScope N_join_pieces ["collection", "number", "other_number", "gap"] (defScope s_join_pieces) := ⟨rfl, rfl, rfl, by decide +kernel, rfl, by decide +kernel, by decide +kernel⟩
def spJoin (CC CS CP : Addr) : Sp := fun vs H Q _ => ∃ (I : Hp) (v : V) (s : Mu34.State) (M : List Addr) (n m : Nat) (g : Int), vs = [v, vN n, vN m, .int g] ∧ Same I H ∧ CollR CC CS CP I H v s M ∧ Wf s ∧ RetS CC CS CP I H v M (Mu34.step (some s) (.join n m g)) Q
theorem find_id {s : Mu34.State} {n : Nat} {c : Mu34.Piece} (h : Mu34.find s n = some c) : c ∈ s.pieces ∧ c.id = n := by
  unfold Mu34.find at h
  exact ⟨List.mem_of_find?_eq_some h, by simpa using List.find?_some h⟩
theorem ok_join_pieces (T : TopR K mg aW) (TC : ColT K CC CS CP) (D : Dn K mg "join_pieces" s_join_pieces ["collection", "number", "other_number", "gap"]) (c_has_piece : C8.Cal P w K mg base 1 "has_piece" (spHasPiece CC CS CP) []) (c_join_refusal : C8.Cal P w K mg base 1 "join_refusal" (spJoinRef CP) [])
    (c_spread : C8.Cal P w K mg base 2 "spread" spSpread []) (c_first_difference : C8.Cal P w K mg base 2 "first_difference" spFirst []) (c_columns_together : C8.Cal P w K mg base 1 "columns_together" spColumnsTogether []) :
    C8.Cal P w K mg base 3 "join_pieces" (spJoin CC CS CP) [] := by
  refine D.cal sc_join_pieces (fun vs H Q E h => ?_) (fun f cdv A outer s H vs Q E hr h => ?_)
  · obtain ⟨I, v, s, M, n, m, g, rfl, _⟩ := h
    rfl
  · obtain ⟨I, v, s, M, n, m, g, rfl, hI, hC, wf, k⟩ := h
    obtain ⟨⟨a, dx, as, ap, svs, kvs, gs, ps, rfl, h1, h2, h3, h4, h5, rfl⟩, nd, no, so⟩ := id hC
    refine ⟨_, (pss_cons (ps_if (PW.pt (pw_or (pt_not (pt_val (C8.pe_c c_has_piece hr (by decide) rfl (pa_cons (pv 0) (pa_cons (pv 1) pa_nil))))) (pw_or1 (pt_not (pt_val (C8.pe_c c_has_piece hr (by decide) rfl (pa_cons (pv 0) (pa_cons (pv 2) pa_nil)))))))) (pss_one (ps_ret (pe_lst (pa_cons (C8.pe_gc rfl T.NO_PIECE) pa_nil)))) pss_nil)
        (pss_cons (ps_if (pt_cmpR op_eq (pv 1) (pv 2) (nomark _)) (pss_one (ps_ret (pe_lst (pa_cons (C8.pe_gc rfl T.WRONG) pa_nil)))) pss_nil)
        (pss_cons (ps_set (i := 4) sc_join_pieces.nd rfl (Or.inl rfl) (pe_dget (hu_of hr) (pe_fld (pv 0) rfl) (pv 1) (fun _ _ => rfl)))
        (pss_cons (ps_set (i := 5) sc_join_pieces.nd rfl (Or.inl rfl) (pe_dget (hu_of hr) (pe_fld (pv 0) rfl) (pv 2) (fun _ _ => rfl)))
        (pss_cons (ps_set (i := 6) sc_join_pieces.nd rfl (Or.inl rfl) (pe_op op_add (pe_callB call_len_seq (by rfl) T.b_len PySem.boot_len (pa_cons (pe_fld (pv 4) rfl) pa_nil)) (pv 3)))
        (pss_cons (ps_set (i := 7) sc_join_pieces.nd rfl (Or.inl rfl) (pe_callB (call_max2 rfl) (by rfl) T.b_max (by decide +kernel) (pa_cons (pe_callB call_len_seq (by rfl) T.b_len PySem.boot_len (pa_cons (pe_fld (pv 4) rfl) pa_nil)) (pa_cons (pe_op op_add (pv 6) (pe_callB call_len_seq (by rfl) T.b_len PySem.boot_len (pa_cons (pe_fld (pv 5) rfl) pa_nil))) pa_nil))))
        (pss_cons (ps_set (i := 8) sc_join_pieces.nd rfl (Or.inl rfl) (C8.pe_c c_join_refusal hr (by decide) rfl (pa_cons (pv 4) (pa_cons (pv 5) (pa_cons (pv 6) (pa_cons (pv 7) pa_nil))))))
        (pss_cons (ps_if (pt_cmpR op_notN (pv 8) pe_non (nomark _)) (pss_one (ps_ret (pe_lst (pa_cons (pv 8) pa_nil)))) pss_nil)
        (pss_cons (ps_set (i := 9) sc_join_pieces.nd rfl (Or.inl rfl) (C8.pe_c c_spread hr (by decide) rfl (pa_cons (pe_fld (pv 4) rfl) (pa_cons pe_int (pa_cons (pv 7) (pa_cons (pe_fld (pv 0) rfl) pa_nil))))))
        (pss_cons (ps_set (i := 10) sc_join_pieces.nd rfl (Or.inl rfl) (C8.pe_c c_spread hr (by decide) rfl (pa_cons (pe_fld (pv 5) rfl) (pa_cons (pv 6) (pa_cons (pv 7) (pa_cons (pe_fld (pv 0) rfl) pa_nil))))))
        (pss_cons (ps_set (i := 11) sc_join_pieces.nd rfl (Or.inl rfl) (C8.pe_c c_first_difference hr (by decide) rfl (pa_cons (pv 9) (pa_cons (pv 10) pa_nil))))
        (pss_cons (ps_if (pt_truth (pv 11) (by intro _; rfl)) (pss_one (ps_ret (pe_op op_cat (pe_lst (pa_cons (C8.pe_gc rfl T.SIGNS_DIFFER) pa_nil)) (pv 11)))) pss_nil)
        (pss_cons (ps_fld (pv 4) (pe_lc (own := [("column", 12), ("beside", 13)]) (g := (gTup K 2 (gCons (gName 12) (gCons (gName 13) gNil)))) (tt := tYes) (te := (tCall _ _ _ (tCons (tVar 12) (tCons (tVar 13) tNil)))) rfl sc_join_pieces.nd (pi_zip (by rfl) T.b_zip (pa_cons (pv 9) (pa_cons (pv 10) pa_nil))) (blkOk_by (own := [("column", 12), ("beside", 13)]) (N := N_join_pieces) (sc := defScope s_join_pieces) (by decide +kernel)) (fun _ _ _ _ _ => (pg_tup rfl (pgs_cons (pg_name (i := 12) sc_join_pieces.nd rfl (Or.inl rfl)) (pgs_cons (pg_name (i := 13) sc_join_pieces.nd rfl (Or.inl rfl)) pgs_nil)))) (fun _ _ _ _ _ => pts_nil) (fun _ _ _ _ _ => (C8.pe_c c_columns_together hr (by decide) rfl (pa_cons (pv 12) (pa_cons (pv 13) pa_nil))))) rfl)
        (pss_cons (ps_expr (pe_dpop1 (pe_fld (pv 0) rfl) (pv 2) ⟨rfl, rfl, rfl, rfl⟩))
        (pss_one (ps_ret (pe_lst (pa_cons (pv 7) pa_nil)))))))))))))))))), ?_⟩
    have es : Mu34.step (some s) (.join n m g) = match Mu34.find s n, Mu34.find s m with
      | some x, some y =>
        if n = m ∨ ((x.pic.length : Int) + g < 0 ∨ (12 : Int) < (x.pic.length : Int) + g + (y.pic.length : Int)) then (some s, [-1]) else if x.claim.isSome = true ∨ y.claim.isSome = true then (some s, [-8]) else if x.year ≠ y.year then (some s, [-10]) else (match Mu34.clash s.height x.pic y.pic ((x.pic.length : Int) + g).toNat with
          | some z => (some s, [-11, (z.1 : Int), (z.2 : Int)])
          | none => (some (Mu34.put (Mu34.without s m) { x with pic := Mu34.joined s.height x.pic y.pic ((x.pic.length : Int) + g).toNat }), [((Mu34.joined s.height x.pic y.pic ((x.pic.length : Int) + g).toNat).length : Int)]))
      | _, _ => (some s, [-3]) := rfl
    rw [es] at k
    have fn := h5.find n
    have fm := h5.find m
    refine ⟨_, rfl, _, rfl, I, _, s, _, n, rfl, hI, hC, _, rfl, ?_⟩
    cases hfn : Mu34.find s n with
    | none =>
      rw [hfn] at k
      refine iteT (iteT ⟨by show 1 ≤ sizeLine; decide, fun l nl => ?_⟩)
      exact k.list hC (G.refl hI) nl
    | some x =>
      rw [hfn] at k
      refine iteF ⟨_, rfl, _, rfl, I, _, s, _, m, rfl, hI, hC, _, rfl, ?_⟩
      cases hfm : Mu34.find s m with
      | none =>
        rw [hfm] at k
        refine iteT ⟨by show 1 ≤ sizeLine; decide, fun l nl => ?_⟩
        exact k.list hC (G.refl hI) nl
      | some y =>
        rw [hfm] at k
        refine iteF ?_
        rw [show s.pieces.find? (fun c => c.id == n) = some x from hfn] at fn
        rw [show s.pieces.find? (fun c => c.id == m) = some y from hfm] at fm
        obtain ⟨xm, xi, b1, d1, vp1, vg1, bp1, ev1, hb1, hv1, hg1⟩ := fn
        obtain ⟨ym, yi, b2, d2, vp2, vg2, bp2, ev2, hb2, hv2, hg2⟩ := fm
        have wx := piece_of (wf.pc x xm).1
        have wy := piece_of (wf.pc y ym).1
        have Hx : ∀ c ∈ x.pic, c.length = s.height := fun c hc => (wx.2.2 c hc).1
        have Hy : ∀ c ∈ y.pic, c.length = s.height := fun c hc => (wy.2.2 c hc).1
        have wh := wf.h3
        -- number == other_number
        refine ⟨_, rfl, _, rfl, rfl, _, rfl, ?_⟩
        rw [eq_int]
        by_cases hnm : n = m
        · have k : RetS CC CS CP I H (.ref a) (a :: as :: ap :: (gs ++ ps)) (if n = m ∨ _ then (some s, [-1]) else _) Q := k
          rw [if_pos (.inl hnm)] at k
          rw [show (n == m) = true by rw [hnm]; exact beq_self_eq_true m]
          refine iteT ⟨by show 1 ≤ sizeLine; decide, fun l nl => ?_⟩
          exact k.list hC (G.refl hI) nl
        · rw [show (n == m) = false by simpa using hnm]
          refine iteF (xFall (xSetE (fun zz => [some (.ref a), some (vN n), some (vN m), some (.int g), some zz, none, none, none, none, none, none, none, none, none]) (fun _ => rfl) ?_))
          -- piece, other
          refine ⟨_, rfl, a, CC, dx, _, _, rfl, h1, TC.cc, TC.c4, coF4, _, rfl, ap, _, rfl, (by rw [← ev1]; exact DGet.k (k := Sum.inl (n : Int)) h3), ?_⟩
          refine xSetE (fun zz => [some (.ref a), some (vN n), some (vN m), some (.int g), some (.ref b1), some zz, none, none, none, none, none, none, none, none]) (fun _ => rfl) ?_
          refine ⟨_, rfl, a, CC, dx, _, _, rfl, h1, TC.cc, TC.c4, coF4, _, rfl, ap, _, rfl, (by rw [← ev2]; exact DGet.k (k := Sum.inl (m : Int)) h3), ?_⟩
          obtain ⟨a1, ws1, rfl, ha1, hw1⟩ := id hv1
          obtain ⟨a2, ws2, rfl, ha2, hw2⟩ := id hv2
          have lw1 := hw1.length
          have lw2 := hw2.length
          -- start, width
          refine xSetE (fun zz => [some (.ref a), some (vN n), some (vN m), some (.int g), some (.ref b1), some (.ref b2), some zz, none, none, none, none, none, none, none]) (fun _ => rfl) ?_
          refine ⟨_, rfl, b1, CP, d1, _, _, rfl, hb1, TC.cp, TC.p2, piF2, a1, ws1, rfl, .inl (SqL.of (hI _ _ ha1)), _, rfl, _, _, rfl, rfl, ?_⟩
          dsimp only
          rw [lw1]
          refine xSetE (fun zz => [some (.ref a), some (vN n), some (vN m), some (.int g), some (.ref b1), some (.ref b2), some (.int ((x.pic.length : Int) + g)), some zz, none, none, none, none, none, none]) (fun _ => rfl) ?_
          refine ⟨_, rfl, b1, CP, d1, _, _, rfl, hb1, TC.cp, TC.p2, piF2, a1, ws1, rfl, .inl (SqL.of (hI _ _ ha1)), _, rfl, _, rfl, b2, CP, d2, _, _, rfl, hb2, TC.cp, TC.p2, piF2, a2, ws2, rfl, .inl (SqL.of (hI _ _ ha2)), _, _, rfl, rfl, _, _, rfl, ?_⟩
          obtain ⟨st, est⟩ : ∃ st : Int, st = (x.pic.length : Int) + g := ⟨_, rfl⟩
          obtain ⟨wd, ewd⟩ : ∃ wd : Int, wd = if (x.pic.length : Int) + g + (y.pic.length : Int) > (x.pic.length : Int) then (x.pic.length : Int) + g + (y.pic.length : Int) else (x.pic.length : Int) := ⟨_, rfl⟩
          rw [lw1, lw2, ← ewd]
          -- join_refusal
          refine xSetE (fun zz => [some (.ref a), some (vN n), some (vN m), some (.int g), some (.ref b1), some (.ref b2), some (.int ((x.pic.length : Int) + g)), some (.int wd), some zz, none, none, none, none, none]) (fun _ => rfl) ?_
          refine ⟨_, rfl, _, rfl, _, rfl, _, rfl, I, b1, b2, d1, d2, (x.pic.length : Int) + g, wd, x.year, y.year, _, _, vg1, vg2, x.claim, y.claim, rfl, hb1, hb2, hg1, hg2, ?_⟩
          have hwd : (12 < wd) ↔ (12 : Int) < (x.pic.length : Int) + g + (y.pic.length : Int) := by
            rw [ewd]
            split <;> omega
          have k : RetS CC CS CP I H (.ref a) (a :: as :: ap :: (gs ++ ps)) (if n = m ∨ ((x.pic.length : Int) + g < 0 ∨ (12 : Int) < (x.pic.length : Int) + g + (y.pic.length : Int)) then (some s, [-1]) else if x.claim.isSome = true ∨ y.claim.isSome = true then (some s, [-8]) else if x.year ≠ y.year then (some s, [-10]) else (match Mu34.clash s.height x.pic y.pic ((x.pic.length : Int) + g).toNat with
            | some z => (some s, [-11, (z.1 : Int), (z.2 : Int)])
            | none => (some (Mu34.put (Mu34.without s m) { x with pic := Mu34.joined s.height x.pic y.pic ((x.pic.length : Int) + g).toNat }), [((Mu34.joined s.height x.pic y.pic ((x.pic.length : Int) + g).toNat).length : Int)]))) Q := k
          by_cases c1 : (x.pic.length : Int) + g < 0 ∨ 12 < wd
          · have ej : joinRef ((x.pic.length : Int) + g) wd x.claim.isSome y.claim.isSome x.year y.year = some (-1) := if_pos c1
            rw [ej]
            rw [if_pos (by rw [← hwd]; exact .inr c1)] at k
            refine ⟨_, rfl, rfl, _, rfl, iteT ⟨_, rfl, by show 1 ≤ sizeLine; decide, fun l nl => ?_⟩⟩
            exact k.list hC (G.refl hI) nl
          · rw [if_neg (by rw [← hwd]; rintro (z | z); exact hnm z; exact c1 z)] at k
            by_cases c2 : x.claim.isSome = true ∨ y.claim.isSome = true
            · have ej : joinRef ((x.pic.length : Int) + g) wd x.claim.isSome y.claim.isSome x.year y.year = some (-8) := (if_neg c1).trans (if_pos c2)
              rw [ej]
              rw [if_pos c2] at k
              refine ⟨_, rfl, rfl, _, rfl, iteT ⟨_, rfl, by show 1 ≤ sizeLine; decide, fun l nl => ?_⟩⟩
              exact k.list hC (G.refl hI) nl
            · rw [if_neg c2] at k
              by_cases c3 : x.year ≠ y.year
              · have ej : joinRef ((x.pic.length : Int) + g) wd x.claim.isSome y.claim.isSome x.year y.year = some (-10) := (if_neg c1).trans ((if_neg c2).trans (if_pos c3))
                rw [ej]
                rw [if_pos c3] at k
                refine ⟨_, rfl, rfl, _, rfl, iteT ⟨_, rfl, by show 1 ≤ sizeLine; decide, fun l nl => ?_⟩⟩
                exact k.list hC (G.refl hI) nl
              · have ej : joinRef ((x.pic.length : Int) + g) wd x.claim.isSome y.claim.isSome x.year y.year = none := (if_neg c1).trans ((if_neg c2).trans (if_neg c3))
                rw [ej]
                rw [if_neg c3] at k
                obtain ⟨i, ei⟩ : ∃ i : Nat, (x.pic.length : Int) + g = (i : Int) := ⟨((x.pic.length : Int) + g).toNat, by omega⟩
                obtain ⟨wn, ewn⟩ : ∃ wn : Nat, wd = (wn : Int) := ⟨wd.toNat, by rw [ewd]; split <;> omega⟩
                have ewn2 : wn = max x.pic.length (i + y.pic.length) := by
                  have : (wn : Int) = if (x.pic.length : Int) + g + (y.pic.length : Int) > (x.pic.length : Int) then (x.pic.length : Int) + g + (y.pic.length : Int) else (x.pic.length : Int) := by rw [← ewn]; exact ewd
                  split at this <;> omega
                have wn12 : wn ≤ 12 := by omega
                rw [ei, Int.toNat_natCast] at k
                subst ewn
                dsimp only
                rw [ei]
                refine ⟨_, rfl, rfl, _, rfl, iteF (xFall (xSetE (fun zz => [some (.ref a), some (vN n), some (vN m), some (.int g), some (.ref b1), some (.ref b2), some (vN i), some (vN wn), some .non, some zz, none, none, none, none]) (fun _ => rfl) ?_))⟩
                -- left = spread(..)
                refine ⟨_, rfl, b1, CP, d1, _, _, rfl, hb1, TC.cp, TC.p2, piF2, _, rfl, _, rfl, a, CC, dx, _, _, rfl, h1, TC.cc, TC.c1, coF1, I, _, x.pic, 0, wn, s.height, rfl, hI, hv1, by omega, by omega, by omega, fun I1 H1 v1 g1 r1 => ?_⟩
                refine xSetE (fun zz => [some (.ref a), some (vN n), some (vN m), some (.int g), some (.ref b1), some (.ref b2), some (vN i), some (vN wn), some .non, some v1, some zz, none, none, none]) (fun _ => rfl) ?_
                refine ⟨_, rfl, b2, CP, d2, _, _, rfl, g1.s _ _ hb2, TC.cp, TC.p2, piF2, _, rfl, _, rfl, _, rfl, a, CC, dx, _, _, rfl, g1.s _ _ h1, TC.cc, TC.c1, coF1, I1, _, y.pic, i, wn, s.height, rfl, g1.b, PicR.mo _ _ _ _ g1.u hv2, by omega, by omega, by omega, fun I2 H2 v2 g2 r2 => ?_⟩
                have g12 := g1.trans g2
                have r1' := PicR.mo _ _ _ _ g2.u r1
                have sl : (spreadP x.pic 0 wn s.height).length = wn := spread_len _ _ _ _ (by omega)
                have sr : (spreadP y.pic i wn s.height).length = wn := spread_len _ _ _ _ (by omega)
                refine xSetE (fun zz => [some (.ref a), some (vN n), some (vN m), some (.int g), some (.ref b1), some (.ref b2), some (vN i), some (vN wn), some .non, some v1, some v2, some zz, none, none]) (fun _ => rfl) ?_
                refine ⟨_, rfl, _, rfl, I2, v1, v2, _, _, rfl, g2.b, r1', r2, by rw [sl, sr], fun d hd => ?_, fun I3 H3 v3 g3 r3 => ?_⟩
                · rw [sl] at hd
                  obtain ⟨c, e1, e2, _⟩ := spread_at (s := 0) Hx (by omega) hd
                  obtain ⟨c', e1', e2', _⟩ := spread_at (s := i) Hy (by omega) hd
                  rw [getD_of e1, getD_of e1', e2, e2']
                · have g13 := g12.trans g3
                  rw [clash_spec Hx Hy ewn2] at r3
                  obtain ⟨a3, rfl, ha3⟩ := r3
                  refine xSeq (xIfS ⟨_, rfl, _, .inl ⟨_, SqL.of (g3.b _ _ ha3), rfl⟩, ?_⟩)
                  cases hcl : Mu34.clash s.height x.pic y.pic i with
                  | some z =>
                    rw [hcl] at k ha3
                    refine iteT ⟨by show 1 ≤ sizeLine; decide, fun p4 n4 => ?_⟩
                    have g4 := G.newH (o := .lst [V.int (-11)]) g3.b n4
                    refine ⟨_, rfl, p4, a3, _, _, rfl, rfl, upd_same, g4.s _ _ (g3.b _ _ ha3), by show 1 + 2 ≤ sizeLine; decide, fun p5 n5 => ?_⟩
                    exact k.list hC (g13.trans g4) n5
                  | none =>
                    rw [hcl] at k
                    refine iteF (xFall ?_)
                    -- piece.picture = [..]
                    obtain ⟨al, vl, rfl, hal, hvl⟩ := id r1'
                    obtain ⟨ar, vr, rfl, har, hvr⟩ := id r2
                    have lvl := hvl.length
                    have lvr := hvr.length
                    have hal3 := g3.b _ _ (g3.u _ _ hal)
                    have har3 := g3.b _ _ (g3.u _ _ har)
                    refine xSeq (xFld (tLc_of ?_))
                    refine ⟨_, rfl, _, rfl, al, ar, vl, vr, rfl, SqL.of hal3, SqL.of har3, ?_⟩
                    refine lc_all (I := I3) (walk_zip rfl) ColR.mo ((List.zip (spreadP x.pic 0 wn s.height) (spreadP y.pic i wn s.height)).map fun z => some (ctog z.1 z.2)) (by simp [lvl, lvr, sl, sr]) (by rw [lvl, sl]; omega) g3.b (fun H' s => ⟨SqL.of (s _ _ hal3), SqL.of (s _ _ har3)⟩) ?_ ?_
                    · rintro d v I4 H4 H4' Nx Nn hd g4 ⟨t, x1, x2, rfl, nt, rfl, ex1, ex2⟩ kx kn
                      obtain ⟨c, ec, rc⟩ := hvl.get ex1
                      obtain ⟨c', ec', rc'⟩ := hvr.get ex2
                      have hdw : d < wn := by
                        rw [lvl, lvr, sl, sr] at hd
                        omega
                      obtain ⟨c0, e0, e0l, _⟩ := spread_at (s := 0) Hx (show 0 + x.pic.length ≤ wn by omega) hdw
                      rw [ec] at e0
                      have e0 := Option.some.inj e0
                      subst e0
                      have g5 := G.newH (o := .tup [x1, x2]) g4.b nt
                      have u34 := g3.u.trans g4.u
                      refine ⟨t, _, rfl, SqT.of upd_same, rfl, _, _, rfl, _, _, rfl, rfl, rfl, xYes ?_⟩
                      refine ⟨_, rfl, _, rfl, I4, x1, x2, c, c', rfl, g5.b, ColR.mo _ _ _ _ u34 rc, ColR.mo _ _ _ _ u34 rc', by omega, fun I6 H6 v6 g6 r6 => ?_⟩
                      exact kx I6 H6 v6 (ctog c c') (by rw [List.getElem?_map, zip_get ec ec']; rfl) (g5.trans g6) r6
                    · intro Dd I4 H4 ys g4 hD ha4
                      rw [fm_some, joined_spec Hx Hy ewn2] at ha4
                      have g14 := g13.trans g4
                      have hb1_4 := g14.s _ _ hb1
                      have hC4 := hC.g g14
                      have b1M : b1 ∈ a :: as :: ap :: (gs ++ ps) := by simp [bp1]
                      refine ⟨_, rfl, b1, CP, d1, _, rfl, hb1_4, TC.cp, TC.p2, by show 3 < 1000; decide, ?_⟩
                      rw [piFput2]
                      have w5 : Wr I H I4 (upd H4 b1 (.ins CP d1 (piF (vN x.year) (.ref Dd) vg1))) (a :: as :: ap :: (gs ++ ps)) (a :: as :: ap :: (gs ++ ps)) := (Wr.ofG g14).trans (Wr.mut g4.b b1M (hC4.no b1 b1M))
                      have psn : ∀ p ∈ ps, p ≠ a ∧ p ≠ as ∧ p ≠ ap ∧ p ∉ gs := fun p hp => by
                        have nd' := nd
                        rw [List.nodup_cons, List.nodup_cons, List.nodup_cons, List.nodup_append] at nd'
                        refine ⟨fun z => nd'.1 (by rw [← z]; simp [hp]), fun z => nd'.2.1 (by rw [← z]; simp [hp]), fun z => nd'.2.2.1 (by rw [← z]; simp [hp]), fun z => nd'.2.2.2.2.2 p z p hp rfl⟩
                      have nb1 := psn b1 bp1
                      have h1_5 : upd H4 b1 (.ins CP d1 (piF (vN x.year) (.ref Dd) vg1)) a = some (.ins CC dx (coF s.height s.signs as ap s.next)) := by
                        rw [upd_ne nb1.1.symm]
                        exact g14.s _ _ h1
                      have h3_5 : upd H4 b1 (.ins CP d1 (piF (vN x.year) (.ref Dd) vg1)) ap = some (.dK kvs) := by
                        rw [upd_ne nb1.2.2.1.symm]
                        exact g14.s _ _ h3
                      -- collection.pieces.pop(other_number)
                      refine ⟨_, rfl, a, CC, dx, _, _, rfl, h1_5, TC.cc, TC.c4, coF4, ap, rfl, .inl ⟨kvs, .inl h3_5⟩, _, rfl, kvs, Sum.inl (m : Int), .ref b2, h3_5, rfl, ev2, ?_⟩
                      have w6 := w5.trans (Wr.mut (M := a :: as :: ap :: (gs ++ ps)) (o := .dK (dropK kvs (Sum.inl (m : Int)))) w5.b (by simp) (hC4.no ap (by simp)))
                      refine ⟨_, rfl, by show 1 ≤ sizeLine; decide, fun l nl => ?_⟩
                      have g7 := G.new (o := .lst [V.int (wn : Int)]) w6.b nl
                      have w7 := w6.trans (Wr.ofG (M := a :: as :: ap :: (gs ++ ps)) g7)
                      have key : ∀ q, q ≠ b1 → q ≠ ap → ∀ o, H q = some o → upd (upd (upd H4 b1 (.ins CP d1 (piF (vN x.year) (.ref Dd) vg1))) ap (.dK (dropK kvs (Sum.inl (m : Int))))) l (.lst [V.int (wn : Int)]) q = some o := fun q hq1 hq2 o e => g7.s _ _ (by
                        rw [upd_ne hq2, upd_ne hq1]
                        exact g14.s _ _ e)
                      have key1 : upd (upd (upd H4 b1 (.ins CP d1 (piF (vN x.year) (.ref Dd) vg1))) ap (.dK (dropK kvs (Sum.inl (m : Int))))) l (.lst [V.int (wn : Int)]) b1 = some (.ins CP d1 (piF (vN x.year) (.ref Dd) vg1)) := g7.s _ _ (by
                        rw [upd_ne nb1.2.2.1, upd_same])
                      have nd' := nd
                      rw [List.nodup_cons, List.nodup_cons, List.nodup_cons, List.nodup_append] at nd'
                      have u47 := g14.u.trans g7.u
                      -- put behind without: the same as without behind put
                      obtain ⟨c', ec'⟩ : ∃ c' : Mu34.Piece, c' = { x with pic := Mu34.joined s.height x.pic y.pic i } := ⟨_, rfl⟩
                      have ci : c'.id = n := by rw [ec']; exact xi
                      have cy : c'.year = x.year := by rw [ec']
                      have cc : c'.claim = x.claim := by rw [ec']
                      have cpc : c'.pic = Mu34.joined s.height x.pic y.pic i := by rw [ec']
                      rw [← ec'] at k
                      obtain ⟨ps', hd1, hd2⟩ := (PiecesAt.put u47 (c' := c') ci (by rw [cy]; exact key1) (by rw [cpc]; exact ⟨Dd, ys, rfl, g7.u _ _ hD, All2.mo ColR.mo g7.u ha4⟩) (by rw [cc]; exact GivR.mo _ _ _ _ u47 hg1) h5 ev1 (fun p hp hn o e => key p hn (psn p hp).2.2.1 o e) wf.pn nd'.2.2.2.2.1).drop m
                      rw [filter_put ci, ← ci] at hd1
                      have lj : ((Mu34.joined s.height x.pic y.pic i).length : Int) = (wn : Int) := by rw [joined_len, ← ewn2]
                      rw [lj] at k
                      refine k _ _ _ _ (a :: as :: ap :: (gs ++ ps')) rfl (w7.weak (fun q hq => .inl ?_) (fun q hq => hq)) ⟨⟨a, dx, as, ap, svs, _, gs, ps', rfl, key a nb1.1.symm (fun z => nd'.1 (by rw [z]; simp)) _ h1, key as nb1.2.1.symm (fun z => nd'.2.1 (by rw [z]; simp)) _ h2, g7.s _ _ upd_same, ?_, hd1, rfl⟩, ?_, ?_, ?_⟩ ⟨l, rfl, upd_same⟩
                      · simp only [List.mem_cons, List.mem_append] at hq ⊢
                        rcases hq with h | h | h | h | h
                        · exact .inl h
                        · exact .inr (.inl h)
                        · exact .inr (.inr (.inl h))
                        · exact .inr (.inr (.inr (.inl h)))
                        · exact .inr (.inr (.inr (.inr (hd2.subset h))))
                      · exact h4.frame u47 fun q hq o e => key q (fun z => nb1.2.2.2 (by rw [← z]; exact hq)) (fun z => nd'.2.2.1 (by rw [← z]; simp [hq])) o e
                      · exact nd.sublist (((hd2.append_left gs).cons_cons ap).cons_cons as |>.cons_cons a)
                      · intro q hq
                        have hq' : q ∈ a :: as :: ap :: (gs ++ ps) := ((((hd2.append_left gs).cons_cons ap).cons_cons as).cons_cons a).subset hq
                        exact g7.n _ (hC4.no q hq') (w6.d q (so q hq'))
                      · intro q hq
                        have hq' : q ∈ a :: as :: ap :: (gs ++ ps) := ((((hd2.append_left gs).cons_cons ap).cons_cons as).cons_cons a).subset hq
                        exact w7.d q (so q hq')
end
end CR

namespace CR
open PySem PySem.Spec PyProof.Rows L2
/-! ### none comes twice -/
theorem met_le (ns : List Int) : (met ns).length ≤ ns.length := PyProof.Rows.firstMet_length_le _ _
theorem met_mem : ∀ (ns : List Int) (x : Int), x ∈ met ns ↔ x ∈ ns := by
  intro ns
  suffices h : ∀ (r : List Int) (x : Int), x ∈ met r.reverse ↔ x ∈ r.reverse by
    intro x
    have := h ns.reverse x
    rw [List.reverse_reverse] at this
    exact this
  intro r
  induction r with
  | nil => intro x; exact Iff.rfl
  | cons a r ih =>
    intro x
    rw [List.reverse_cons, met_snoc]
    split
    · rename_i h
      rw [List.any_eq_true] at h
      obtain ⟨y, hy, e⟩ := h
      have e : y = a := eq_of_beq e
      subst e
      rw [ih x, List.mem_append, List.mem_singleton]
      constructor
      · exact .inl
      · rintro (h | h)
        · exact h
        · rw [h]
          exact (ih y).mp hy
    · rw [List.mem_append, List.mem_append, ih x]
theorem met_nodup : ∀ (ns : List Int), (met ns).length = ns.length ↔ ns.Nodup := by
  intro ns
  suffices h : ∀ r : List Int, (met r.reverse).length = r.reverse.length ↔ r.Nodup by
    have := h ns.reverse
    rw [List.reverse_reverse] at this
    rw [this]
    exact (List.reverse_perm ns).nodup_iff
  intro r
  induction r with
  | nil => exact ⟨fun _ => .nil, fun _ => rfl⟩
  | cons a r ih =>
    rw [List.reverse_cons, met_snoc, List.nodup_cons, List.length_append]
    have hm : (met r.reverse).any (· == a) = true ↔ a ∈ r := by
      rw [List.any_eq_true]
      constructor
      · rintro ⟨y, hy, e⟩
        have e : y = a := eq_of_beq e
        subst e
        exact List.mem_reverse.mp ((met_mem _ _).mp hy)
      · intro h
        exact ⟨a, (met_mem _ _).mpr (List.mem_reverse.mpr h), beq_self_eq_true a⟩
    have hl := met_le r.reverse
    split
    · rename_i h
      constructor
      · intro e
        simp at e hl
        omega
      · intro e
        exact absurd (hm.mp h) e.1
    · rename_i h
      rw [List.length_append]
      constructor
      · intro e
        refine ⟨fun z => h (hm.mpr z), ih.mp ?_⟩
        simp at e ⊢
        exact e
      · intro e
        rw [ih.mpr e.2]
theorem erase_nodup : ∀ l : List Nat, l.eraseDups.length = l.length ↔ l.Nodup := by
  intro l
  have key : ∀ (n : Nat) (l : List Nat), l.length ≤ n → (l.eraseDups.length ≤ l.length ∧ (l.eraseDups.length = l.length ↔ l.Nodup)) := by
    intro n
    induction n with
    | zero =>
      intro l h
      have : l = [] := List.length_eq_zero_iff.mp (by omega)
      subst this
      simp
    | succ n ih =>
      intro l h
      cases l with
      | nil => simp
      | cons a l =>
        rw [List.eraseDups_cons, List.nodup_cons, List.length_cons, List.length_cons]
        have hf : (l.filter fun b => !b == a).length ≤ l.length := List.length_filter_le _ _
        obtain ⟨i1, i2⟩ := ih (l.filter fun b => !b == a) (by simp at h; omega)
        refine ⟨by omega, ?_⟩
        constructor
        · intro e
          have e1 : (l.filter fun b => !b == a).length = l.length := by omega
          have e2 := List.length_filter_eq_length_iff.mp e1
          have e3 : l.filter (fun b => !b == a) = l := List.filter_eq_self.mpr e2
          refine ⟨fun z => ?_, ?_⟩
          · have := e2 a z
            simp at this
          · rw [e3] at i2
            exact i2.mp (by rw [e3] at e; omega)
        · rintro ⟨h1, h2⟩
          have e3 : l.filter (fun b => !b == a) = l := List.filter_eq_self.mpr fun b hb => by
            have : b ≠ a := fun z => h1 (by rw [← z]; exact hb)
            simpa using this
          rw [e3] at i2 ⊢
          rw [i2.mpr h2]
  exact (key l.length l (Nat.le_refl _)).2
theorem nodup_cast (l : List Nat) : (l.map fun n : Nat => (n : Int)).Nodup ↔ l.Nodup := by
  induction l with
  | nil => simp
  | cons a l ih =>
    rw [List.map_cons, List.nodup_cons, List.nodup_cons, ih]
    have : (a : Int) ∈ (l.map fun n : Nat => (n : Int)) ↔ a ∈ l := by
      rw [List.mem_map]
      constructor
      · rintro ⟨x, hx, e⟩
        have e : x = a := Int.ofNat.inj e
        rw [← e]
        exact hx
      · intro h
        exact ⟨a, h, rfl⟩
    rw [this]
section
variable {P : Program} {w : World} {K : PySem.W.Frag} {mg : Str → Option Value} {base : Heap} {aW CC CS CP CL : Addr}
theorem xB {te : TE} {σ : L2.St} {H : Hp} {Q : Bool → Hp → Prop} (h : te σ H fun x H1 => ∃ c, x = .bl c ∧ Q c H1) : tB te σ H Q := h
theorem xTest {te : TE} {σ : L2.St} {H : Hp} {Q : Bool → Hp → Prop} (h : te σ H fun x H1 => ∃ c, x = .bl c ∧ Q c H1) : tTest te σ H Q := h
theorem xChain {ta tb tc : TE} {a b c : Int} {σ : L2.St} {H : Hp} {Q : Bool → Hp → Prop} (ea : ∀ Q : VK, Q (.int a) H → ta σ H Q) (eb : ∀ Q : VK, Q (.int b) H → tb σ H Q) (ec : ∀ Q : VK, Q (.int c) H → tc σ H Q) (h : Q (decide (a ≤ b) && decide (b ≤ c)) H) :
    tTest (tChain (rI0 fun i j => .bl (decide (i ≤ j))) (rI0 fun i j => .bl (decide (i ≤ j))) ta tb tc) σ H Q := by
  refine ea _ (eb _ ⟨_, _, rfl, rfl, _, rfl, ?_⟩)
  by_cases e : a ≤ b
  · rw [decide_eq_true e, Bool.true_and] at h
    rw [decide_eq_true e]
    exact iteT (ec _ ⟨_, _, rfl, rfl, _, rfl, h⟩)
  · rw [decide_eq_false e, Bool.false_and] at h
    rw [decide_eq_false e]
    exact iteF ⟨_, rfl, h⟩
/-! ### naming_refusal -/
abbrev s_naming_refusal : Stmt := top 71
abbrev N_naming_refusal : List Str := ["collection", "numbers", "number"]
theorem sc_naming_refusal : FnScope N_naming_refusal ["collection", "numbers"] (defScope s_naming_refusal) := ⟨rfl, rfl, rfl, by decide +kernel, rfl, by decide +kernel, by decide +kernel⟩
def nameRef (s : Mu34.State) (l : List Nat) : Option Int := if Mu34.why s l = 0 then none else some (Mu34.why s l)
def spNaming (CC CS CP : Addr) : Sp := fun vs H Q _ => ∃ (I : Hp) (v u : V) (s : Mu34.State) (M : List Addr) (l : List Nat), vs = [v, u] ∧ Same I H ∧ CollR CC CS CP I H v s M ∧ ColR I u l ∧ l.length ≤ 5 ∧ Ret I H (fun _ x => x = optV (nameRef s l)) Q
theorem ok_naming_refusal (T : TopR K mg aW) (TC : ColT K CC CS CP) (D : Dn K mg "naming_refusal" s_naming_refusal ["collection", "numbers"]) (c_has_piece : C8.Cal P w K mg base 1 "has_piece" (spHasPiece CC CS CP) []) :
    C8.Cal P w K mg base 2 "naming_refusal" (spNaming CC CS CP) [] := by
  refine D.cal sc_naming_refusal (fun vs H Q E h => ?_) (fun f cdv A outer s H vs Q E hr h => ?_)
  · obtain ⟨I, v, u, s, M, l, rfl, _⟩ := h
    rfl
  · obtain ⟨I, v, u, s, M, l, rfl, hI, hC, ⟨b, rfl, hb⟩, l5, k⟩ := h
    refine ⟨_, (pss_cons (ps_if (PW.pt (pw_or (pt_not (pt_chain op_le op_le pe_int (pe_callB call_len_seq (by rfl) T.b_len PySem.boot_len (pa_cons (pv 1) pa_nil)) (C8.pe_gc rfl T.MOST_LAID))) (pw_or1 (pt_cmpR op_ne (pe_lenSetAny (by rfl) T.b_len (by rfl) T.b_set (pv 1)) (pe_callB call_len_seq (by rfl) T.b_len PySem.boot_len (pa_cons (pv 1) pa_nil)) (nomark _))))) (pss_one (ps_ret (C8.pe_gc rfl T.WRONG))) pss_nil)
        (pss_cons (ps_if (pt_not (pt_val (pe_callB (cr_all rfl) (by rfl) T.b_all (by decide +kernel) (pa_cons (pe_lc (own := [("number", 2)]) (g := (gName 2)) (tt := tYes) (te := (tCall _ _ _ (tCons (tVar 0) (tCons (tVar 2) tNil)))) rfl sc_naming_refusal.nd (pi_list (pv 1)) (blkOk_by (own := [("number", 2)]) (N := N_naming_refusal) (sc := defScope s_naming_refusal) (by decide +kernel)) (fun _ _ _ _ _ => (pg_name (i := 2) sc_naming_refusal.nd rfl (Or.inl rfl))) (fun _ _ _ _ _ => pts_nil) (fun _ _ _ _ _ => (C8.pe_c c_has_piece hr (by decide) rfl (pa_cons (pv 0) (pa_cons (pv 2) pa_nil))))) pa_nil)))) (pss_one (ps_ret (C8.pe_gc rfl T.NO_PIECE))) pss_nil)
        (pss_one (ps_ret pe_non)))), ?_⟩
    have hb' := hI _ _ hb
    have lm : (l.map vN).length = l.length := List.length_map ..
    have hemp : l.isEmpty = true ↔ l.length = 0 := by
      rw [List.isEmpty_iff, List.length_eq_zero_iff]
    have wrong : (l.isEmpty = true ∨ (3 < l.length ∨ l.eraseDups.length ≠ l.length)) → Q (.int (-1)) H := fun hw => by
      have ew : Mu34.why s l = -1 := if_pos hw
      refine k I H _ (G.refl hI) ?_
      unfold nameRef
      rw [ew]
      rfl
    refine xSeq (xIfS (xOr (xNot (xChain (b := ((l.map vN).length : Int)) (fun _ q => q) (fun _ q => ⟨_, rfl, b, _, rfl, .inl (SqL.of hb'), q⟩) (fun _ q => q) ?_))))
    rw [lm]
    by_cases c13 : 1 ≤ l.length ∧ l.length ≤ 3
    case neg =>
      rw [show (decide ((1 : Int) ≤ (l.length : Int)) && decide ((l.length : Int) ≤ 3)) = false by
        rw [Bool.and_eq_false_iff, decide_eq_false_iff_not, decide_eq_false_iff_not]
        omega]
      refine iteT (iteT (wrong ?_))
      rw [hemp]
      omega
    case pos =>
      rw [show (decide ((1 : Int) ≤ (l.length : Int)) && decide ((l.length : Int) ≤ 3)) = true by
        rw [Bool.and_eq_true, decide_eq_true_eq, decide_eq_true_eq]
        omega]
      have ev : (l.map fun n : Nat => (n : Int)).map V.int = l.map vN := by
        rw [List.map_map]
        rfl
      refine iteF ⟨_, rfl, b, l.map fun n : Nat => (n : Int), rfl, by rw [ev]; exact SqL.of hb', by rw [List.length_map]; omega, _, rfl, b, _, rfl, .inl (SqL.of hb'), rfl, _, rfl, ?_⟩
      rw [lm, ne_int]
      have en : ((met (l.map fun n : Nat => (n : Int))).length != l.length) = true ↔ l.eraseDups.length ≠ l.length := by
        rw [bne_iff_ne, Ne, Ne, erase_nodup, ← nodup_cast, ← met_nodup, List.length_map]
      refine ite2 (fun e => wrong (.inr (.inr (en.mp e)))) (fun e => ?_)
      have hw : ¬ (l.isEmpty = true ∨ (3 < l.length ∨ l.eraseDups.length ≠ l.length)) := by
        rw [hemp]
        rintro (z | z | z)
        · omega
        · omega
        · exact e (en.mpr z)
      have ew : Mu34.why s l = if l.any (fun (i : Nat) => (Mu34.find s i).isNone) = true then -3 else 0 := if_neg hw
      refine xFall (xSeq (xIfS (xNot (xB (xCB (xCons (tLc_of ?_)))))))
      refine ⟨_, rfl, b, rfl, ⟨_, SqL.of hb'⟩, ?_⟩
      refine lc_all (I := I) (walk_list (xs := l.map vN)) (VR.mo V.bl) (l.map fun n => some (Mu34.find s n).isSome) (by simp) (by simp; omega) hI (fun H' s => SqL.of (s _ _ hb')) ?_ ?_
      · rintro i x I1 H1 H1' Nx Nn hi g1 ⟨rfl, hx⟩ kx kn
        obtain ⟨m, em, rfl⟩ := map_get hx
        refine ⟨rfl, xYes ?_⟩
        refine ⟨_, rfl, _, rfl, I1, v, s, M, m, rfl, g1.b, hC.g g1, ?_⟩
        exact kx I1 _ _ _ (by rw [List.getElem?_map, em]; rfl) (G.refl g1.b) rfl
      · intro D I' H' ys g1 hD ha
        rw [fm_some] at ha
        refine ⟨D, l.map fun n => (Mu34.find s n).isSome, rfl, SqL.of (by rw [g1.b _ _ hD, ha.of_eq]), _, rfl, ?_⟩
        have ea : ((l.map fun n => (Mu34.find s n).isSome).all id) = !(l.any fun (i : Nat) => (Mu34.find s i).isNone) := by
          rw [List.all_map, List.not_any_eq_all_not]
          refine all_cg fun n _ => ?_
          show (Mu34.find s n).isSome = !(Mu34.find s n).isNone
          cases Mu34.find s n <;> rfl
        rw [ea]
        cases hany : l.any fun (i : Nat) => (Mu34.find s i).isNone with
        | true =>
          rw [hany, if_pos rfl] at ew
          refine iteT (k I' H' _ g1 ?_)
          unfold nameRef
          rw [ew]
          rfl
        | false =>
          rw [hany, if_neg (by decide)] at ew
          refine iteF (k I' H' _ g1 ?_)
          unfold nameRef
          rw [ew]
          rfl
/-! ### least_laying -/
abbrev s_least_laying : Stmt := top 70
abbrev N_least_laying : List Str := ["collection", "numbers", "pictures", "width", "found", "number"]
theorem sc_least_laying : FnScope N_least_laying ["collection", "numbers"] (defScope s_least_laying) := ⟨rfl, rfl, rfl, by decide +kernel, rfl, by decide +kernel, by decide +kernel⟩
theorem chosen_cons (s : Mu34.State) (n : Nat) (l : List Nat) {c : Mu34.Piece} (h : Mu34.find s n = some c) : Mu34.chosen s (n :: l) = c.pic :: Mu34.chosen s l := by
  unfold Mu34.chosen
  rw [List.filterMap_cons, h]
  rfl
theorem chosen_get {s : Mu34.State} : ∀ {l : List Nat}, (∀ n ∈ l, (Mu34.find s n).isSome = true) → ∀ {i n : Nat}, l[i]? = some n → ∃ c, Mu34.find s n = some c ∧ (Mu34.chosen s l)[i]? = some c.pic
  | [], _, i, n, e => by simp at e
  | m :: l, h, i, n, e => by
    obtain ⟨c, hc⟩ := Option.isSome_iff_exists.mp (h m (List.mem_cons_self ..))
    rw [chosen_cons s m l hc]
    cases i with
    | zero =>
      have e : m = n := Option.some.inj e
      subst e
      exact ⟨c, hc, rfl⟩
    | succ i => exact chosen_get (fun x hx => h x (List.mem_cons_of_mem _ hx)) (i := i) e
theorem chosen_len {s : Mu34.State} : ∀ {l : List Nat}, (∀ n ∈ l, (Mu34.find s n).isSome = true) → (Mu34.chosen s l).length = l.length
  | [], _ => rfl
  | m :: l, h => by
    obtain ⟨c, hc⟩ := Option.isSome_iff_exists.mp (h m (List.mem_cons_self ..))
    rw [chosen_cons s m l hc, List.length_cons, List.length_cons, chosen_len fun x hx => h x (List.mem_cons_of_mem _ hx)]
theorem chosen_mem {s : Mu34.State} {l : List Nat} {p : List (List Nat)} (h : p ∈ Mu34.chosen s l) : ∃ c ∈ s.pieces, c.pic = p := by
  unfold Mu34.chosen at h
  rw [List.mem_filterMap] at h
  obtain ⟨n, _, hn⟩ := h
  cases e : Mu34.find s n with
  | none =>
    rw [e] at hn
    cases hn
  | some c =>
    rw [e] at hn
    refine ⟨c, ?_, Option.some.inj hn⟩
    unfold Mu34.find at e
    exact List.mem_of_find?_eq_some e
theorem leastTo {h : Nat} {cs : List (List (List Nat))} {d : Nat} (hd : d < 8) : ((List.range 8).drop d).findSome? (fun k => layIn (k + 1) h cs) = (layIn (d + 1) h cs).or (((List.range 8).drop (d + 1)).findSome? fun k => layIn (k + 1) h cs) := by
  rw [List.drop_eq_getElem_cons (by simpa using hd), fs_cons, List.getElem_range]
def spLeast (CC CS CP CL : Addr) : Sp := fun vs H Q _ => ∃ (I : Hp) (v u : V) (s : Mu34.State) (M : List Addr) (l : List Nat), vs = [v, u] ∧ Same I H ∧ CollR CC CS CP I H v s M ∧ Wf s ∧ ColR I u l ∧ 0 < l.length ∧ l.length ≤ 3 ∧ (∀ n ∈ l, (Mu34.find s n).isSome = true) ∧ Ret I H (fun J x => OptR (LayR CL) J x (leastL s.height (Mu34.chosen s l))) Q
theorem ok_least_laying (T : TopR K mg aW) (TC : ColT K CC CS CP) (D : Dn K mg "least_laying" s_least_laying ["collection", "numbers"]) (c_lay_in : C8.Cal P w K mg base 8 "lay_in" (spLayIn CL) []) :
    C8.Cal P w K mg base 9 "least_laying" (spLeast CC CS CP CL) [] := by
  refine D.cal sc_least_laying (fun vs H Q E h => ?_) (fun f cdv A outer s H vs Q E hr h => ?_)
  · obtain ⟨I, v, u, s, M, l, rfl, _⟩ := h
    rfl
  · obtain ⟨I, v, u, s, M, l, rfl, hI, hC, wf, ⟨b, rfl, hb⟩, l1, l3, hf, k⟩ := h
    obtain ⟨⟨a, dx, as, ap, svs, kvs, gs, ps, rfl, h1, h2, h3, h4, h5, rfl⟩, nd, no, so⟩ := id hC
    refine ⟨_, (pss_cons (ps_setLc (i := 2) (own := [("number", 5)]) (g := (gName 5)) (tt := tYes) (te := (tFld K (tDGet (tFld K (tVar 0) "pieces") (tVar 5)) "picture")) rfl sc_least_laying.nd rfl rfl (sw_true rfl rfl rfl (by decide +kernel)) (pi_list (pv 1)) (blkOk_by (own := [("number", 5)]) (N := N_least_laying) (sc := defScope s_least_laying) (by decide +kernel)) (fun _ _ _ _ _ => (pg_name (i := 5) sc_least_laying.nd rfl (Or.inl rfl))) (fun _ _ _ _ _ => pts_nil) (fun _ _ _ _ _ => (pe_fld (pe_dget (hu_of hr) (pe_fld (pv 0) rfl) (pv 5) (fun _ _ => rfl)) rfl)))
        (pss_cons (ps_for PassesOwn.never rfl (pi_range2 (by rfl) T.b_range (pa_cons pe_int (pa_cons (pe_op op_add (C8.pe_gc rfl T.LONGEST_RING) pe_int) pa_nil))) (pg_name (i := 3) sc_least_laying.nd rfl (Or.inl rfl)) (pss_cons (ps_set (i := 4) sc_least_laying.nd rfl (Or.inl rfl) (C8.pe_c c_lay_in hr (by decide) rfl (pa_cons (pv 3) (pa_cons (pe_fld (pv 0) rfl) (pa_cons (pv 2) pa_nil)))))
        (pss_one (ps_if (pt_cmpR op_notN (pv 4) pe_non (nomark _)) (pss_one (ps_ret (pv 4))) pss_nil))))
        (pss_one (ps_ret pe_non)))), ?_⟩
    have hb' := hI _ _ hb
    have lc := chosen_len hf
    refine xSet (tLc_of ?_)
    refine ⟨_, rfl, b, rfl, ⟨_, SqL.of hb'⟩, ?_⟩
    refine lc_all (I := I) (walk_list (xs := l.map vN)) PicR.mo ((Mu34.chosen s l).map some) (by simp [lc]) (by simp; omega) hI (fun H' s => SqL.of (s _ _ hb')) ?_ ?_
    · rintro i x I1 H1 H1' Nx Nn hi g1 ⟨rfl, hx⟩ kx kn
      obtain ⟨n, en, rfl⟩ := map_get hx
      obtain ⟨c, hc, ec⟩ := chosen_get hf en
      have fn := h5.find n
      rw [show s.pieces.find? (fun c => c.id == n) = some c from hc] at fn
      obtain ⟨cm, ci, bb, dxb, vp, vg, bps, ev, hbb, hvp, hvg⟩ := fn
      refine ⟨rfl, xYes ?_⟩
      refine ⟨_, rfl, a, CC, dx, _, _, rfl, g1.s _ _ h1, TC.cc, TC.c4, coF4, _, rfl, ap, _, rfl, (by rw [← ev]; exact DGet.k (k := Sum.inl (n : Int)) (g1.s _ _ h3)), bb, CP, dxb, _, _, rfl, g1.s _ _ hbb, TC.cp, TC.p2, piF2, ?_⟩
      exact kx I1 _ _ _ (by rw [List.getElem?_map, ec]; rfl) (G.refl g1.b) (PicR.mo _ _ _ _ g1.u hvp)
    · intro D I1 H1 ys g1 hD ha
      rw [fm_id] at ha
      have rD : PicsR I1 (.ref D) (Mu34.chosen s l) := ⟨D, ys, rfl, hD, ha⟩
      have pb : ∀ p ∈ Mu34.chosen s l, p.length ≤ 100 := fun p hp => by
        obtain ⟨c, cm, rfl⟩ := chosen_mem hp
        have := piece_of (wf.pc c cm).1
        omega
      have wh := wf.h3
      refine ⟨_, _, rfl, rfl, 1, 9, rfl, ⟨by omega, by omega, by omega, by omega⟩, ?_⟩
      refine for_it (walk_range (lo := 1) (n := 8)) (fun d σ H' => ∃ I' y3 y4 y5, σ = [some (.ref a), some (.ref b), some (.ref D), y3, y4, y5] ∧ G I H I' H' ∧ Same I1 I' ∧ leastL s.height (Mu34.chosen s l) = ((List.range 8).drop d).findSome? fun k => layIn (k + 1) s.height (Mu34.chosen s l)) ?_ ?_ ?_ ?_
      · exact ⟨I1, none, none, none, rfl, g1, Same.refl _, rfl⟩
      · rintro d σ H' _ _
        trivial
      · rintro d x σ H2 H2' hd ⟨I2, y3, y4, y5, rfl, g2, u2, e2⟩ ⟨rfl, rfl⟩
        refine ⟨_, rfl, _, rfl, a, CC, dx, _, _, rfl, g2.s _ _ h1, TC.cc, TC.c1, coF1, _, rfl, I2, .ref D, Mu34.chosen s l, d + 1, s.height, ?_, g2.b, PicsR.mo _ _ _ _ u2 rD, by omega, by omega, by omega, by omega, by omega, pb, fun I3 H3 v3 g3 r3 => ?_⟩
        · show [V.int (1 + (d : Int)), vN s.height, V.ref D] = [V.int ((d + 1 : Nat) : Int), _, _]
          rw [show (1 : Int) + (d : Int) = ((d + 1 : Nat) : Int) by omega]
        · rw [leastTo hd] at e2
          cases hm : layIn (d + 1) s.height (Mu34.chosen s l) with
          | none =>
            rw [hm] at r3 e2
            rw [Option.none_or] at e2
            have r3 : v3 = .non := r3
            subst r3
            refine ⟨_, rfl, rfl, _, rfl, iteF ?_⟩
            exact ⟨I3, _, _, _, rfl, g2.trans g3, u2.trans g3.u, e2⟩
          | some z =>
            rw [hm] at r3 e2
            rw [Option.some_or] at e2
            have r3 : LayR CL I3 v3 z := r3
            obtain ⟨a7, dx7, vr7, vl7, rfl, _⟩ := id r3
            refine ⟨_, rfl, rfl, _, rfl, iteT ⟨_, rfl, k I3 H3 _ (g2.trans g3) ?_⟩⟩
            rw [e2]
            exact r3
      · rintro σ H2 ⟨I2, y3, y4, y5, rfl, g2, u2, e2⟩
        refine k _ _ _ g2 ?_
        rw [e2]
        rfl
/-! ### find_least, rebuild -/
abbrev s_find_least : Stmt := top 72
abbrev N_find_least : List Str := ["collection", "numbers", "refusal", "laying"]
theorem sc_find_least : FnScope N_find_least ["collection", "numbers"] (defScope s_find_least) := ⟨rfl, rfl, rfl, by decide +kernel, rfl, by decide +kernel, by decide +kernel⟩
abbrev s_rebuild : Stmt := top 73
abbrev N_rebuild : List Str := ["collection", "numbers", "refusal", "laying"]
theorem sc_rebuild : FnScope N_rebuild ["collection", "numbers"] (defScope s_rebuild) := ⟨rfl, rfl, rfl, by decide +kernel, rfl, by decide +kernel, by decide +kernel⟩
theorem why_ok {s : Mu34.State} {l : List Nat} (h : Mu34.why s l = 0) : 0 < l.length ∧ l.length ≤ 3 ∧ ∀ n ∈ l, (Mu34.find s n).isSome = true := by
  unfold Mu34.why at h
  split at h
  · cases h
  · rename_i hn
    split at h
    · cases h
    · rename_i ha
      refine ⟨?_, ?_, fun n hn' => ?_⟩
      · rcases Nat.eq_zero_or_pos l.length with z | z
        · exact absurd (.inl (by rw [List.isEmpty_iff]; exact List.length_eq_zero_iff.mp z)) hn
        · exact z
      · exact Nat.not_lt.mp fun z => hn (.inr (.inl z))
      · cases e : Mu34.find s n with
        | some c => rfl
        | none =>
          refine absurd (List.any_eq_true.mpr ⟨n, hn', ?_⟩) ha
          rw [e]
          rfl
theorem least_some {s : Mu34.State} (wf : Wf s) {l : List Nat} (h0 : 0 < l.length) (hf : ∀ n ∈ l, (Mu34.find s n).isSome = true) : leastL s.height (Mu34.chosen s l) = (Mu34.least s.height (Mu34.chosen s l)).map fun x => (Mu34.rebuilt s.height x.1 x.2 (Mu34.chosen s l), flatL (x.2.drop 1)) := by
  have lc := chosen_len hf
  cases e : Mu34.chosen s l with
  | nil =>
    rw [e] at lc
    simp at lc
    omega
  | cons p ps =>
    refine leastL_spec p ps fun q hq c hc => ?_
    rw [← e] at hq
    obtain ⟨x, xm, rfl⟩ := chosen_mem hq
    exact ((piece_of (wf.pc x xm).1).2.2 c hc).1
theorem nums_cons (n : Nat) (l : List Nat) : (Mu34.nums (n :: l)).map V.int = [V.int (n : Int)] ++ l.map vN := by
  unfold Mu34.nums
  rw [List.map_cons, List.map_cons, List.map_map]
  rfl
theorem least_bound {h : Nat} {cs : List (List (List Nat))} {x : Nat × Mu34.Layout} (e : Mu34.least h cs = some x) : x.1 ≤ 8 ∧ x.2.length ≤ cs.length := by
  unfold Mu34.least at e
  obtain ⟨k, hk, ek⟩ := List.exists_of_findSome?_eq_some e
  rw [Option.map_eq_some_iff] at ek
  obtain ⟨l, hl, rfl⟩ := ek
  have hk := List.mem_range.mp hk
  refine ⟨hk, ?_⟩
  have hm := List.mem_of_find?_eq_some hl
  have ho : ∀ (n j : Nat) (o : Mu34.Layout), o ∈ Mu34.others n j → o.length = j := by
    intro n j
    induction j with
    | zero =>
      intro o h
      have h : o ∈ [[]] := h
      rw [List.mem_singleton.mp h]
      rfl
    | succ j ih =>
      intro o h
      have h : o ∈ [0, 1].flatMap fun (w : Nat) => (List.range n).flatMap fun (i : Nat) => (Mu34.others n j).map fun (l : Mu34.Layout) => (w, i) :: l := h
      rw [List.mem_flatMap] at h
      obtain ⟨w, _, h⟩ := h
      rw [List.mem_flatMap] at h
      obtain ⟨i, _, h⟩ := h
      rw [List.mem_map] at h
      obtain ⟨o', h', rfl⟩ := h
      rw [List.length_cons, ih o' h']
  cases hc : cs.length with
  | zero =>
    rw [hc] at hm
    have hm : l ∈ [[]] := hm
    rw [List.mem_singleton.mp hm]
    exact Nat.zero_le _
  | succ j =>
    rw [hc] at hm
    have hm : l ∈ (Mu34.others (k + 1) j).map fun (l : Mu34.Layout) => (0, 0) :: l := hm
    rw [List.mem_map] at hm
    obtain ⟨o, h, rfl⟩ := hm
    show o.length + 1 ≤ j + 1
    rw [ho _ _ _ h]
    exact Nat.le_refl _
theorem LayR.parts {C : Addr} {I : Hp} {v : V} {r : List (List Nat)} {l : List Nat} (h : LayR C I v (r, l)) : ∃ a dx vr vl, v = .ref a ∧ I a = some (.ins C dx (layF vr vl)) ∧ PicR I vr r ∧ ColR I vl l := h
def spFindLeast (CC CS CP : Addr) : Sp := fun vs H Q _ => ∃ (I : Hp) (v u : V) (s : Mu34.State) (M : List Addr) (l : List Nat), vs = [v, u] ∧ Same I H ∧ CollR CC CS CP I H v s M ∧ Wf s ∧ ColR I u l ∧ l.length ≤ 5 ∧ RetS CC CS CP I H v M (Mu34.step (some s) (.least l)) Q
theorem flat_len (o : Mu34.Layout) : (flatL o).length = 2 * o.length := by
  unfold flatL
  induction o with
  | nil => rfl
  | cons x o ih =>
    rw [List.flatMap_cons, List.length_append, ih, List.length_cons]
    show 2 + 2 * o.length = 2 * (o.length + 1)
    omega
theorem ok_find_least (T : TopR K mg aW) (TC : ColT K CC CS CP) (TL : LayT K CL) (D : Dn K mg "find_least" s_find_least ["collection", "numbers"]) (c_naming_refusal : C8.Cal P w K mg base 2 "naming_refusal" (spNaming CC CS CP) []) (c_least_laying : C8.Cal P w K mg base 9 "least_laying" (spLeast CC CS CP CL) []) :
    C8.Cal P w K mg base 10 "find_least" (spFindLeast CC CS CP) [] := by
  refine D.cal sc_find_least (fun vs H Q E h => ?_) (fun f cdv A outer s H vs Q E hr h => ?_)
  · obtain ⟨I, v, u, s, M, l, rfl, _⟩ := h
    rfl
  · obtain ⟨I, v, u, s, M, l, rfl, hI, hC, wf, hu, l5, k⟩ := h
    refine ⟨_, (pss_cons (ps_set (i := 2) sc_find_least.nd rfl (Or.inl rfl) (C8.pe_c c_naming_refusal hr (by decide) rfl (pa_cons (pv 0) (pa_cons (pv 1) pa_nil))))
        (pss_cons (ps_if (pt_cmpR op_notN (pv 2) pe_non (nomark _)) (pss_one (ps_ret (pe_lst (pa_cons (pv 2) pa_nil)))) pss_nil)
        (pss_cons (ps_set (i := 3) sc_find_least.nd rfl (Or.inl rfl) (C8.pe_c c_least_laying hr (by decide) rfl (pa_cons (pv 0) (pa_cons (pv 1) pa_nil))))
        (pss_cons (ps_if (pt_cmpR op_isN (pv 3) pe_non (nomark _)) (pss_one (ps_ret (pe_lst (pa_cons (C8.pe_gc rfl T.CANNOT_BE) pa_nil)))) pss_nil)
        (pss_one (ps_ret (pe_op op_cat (pe_lst (pa_cons (pe_callB call_len_seq (by rfl) T.b_len PySem.boot_len (pa_cons (pe_fld (pv 3) rfl) pa_nil)) pa_nil)) (pe_fld (pv 3) rfl)))))))), ?_⟩
    have es : Mu34.step (some s) (.least l) = (some s, if Mu34.why s l ≠ 0 then [Mu34.why s l] else match Mu34.least s.height (Mu34.chosen s l) with
      | none => [-6]
      | some x => Mu34.nums (Mu34.layoutNums x.1 x.2)) := rfl
    rw [es] at k
    refine ⟨_, rfl, _, rfl, I, v, u, s, M, l, rfl, hI, hC, hu, l5, fun I1 H1 v1 g1 r1 => ?_⟩
    subst r1
    unfold nameRef
    by_cases hw : Mu34.why s l = 0
    case neg =>
      rw [if_pos hw] at k
      rw [if_neg hw]
      refine ⟨_, rfl, rfl, _, rfl, iteT ⟨_, rfl, by show 1 ≤ sizeLine; decide, fun q nq => ?_⟩⟩
      exact k.list hC g1 nq
    case pos =>
      rw [if_neg (fun z => z hw)] at k
      rw [if_pos hw]
      obtain ⟨w1, w2, w3⟩ := why_ok hw
      refine ⟨_, rfl, rfl, _, rfl, iteF ?_⟩
      refine ⟨_, rfl, _, rfl, I1, v, u, s, M, l, rfl, g1.b, hC.g g1, wf, ColR.mo _ _ _ _ g1.u hu, w1, w2, w3, fun I2 H2 v2 g2 r2 => ?_⟩
      have g12 := g1.trans g2
      rw [least_some wf w1 w3] at r2
      cases hl : Mu34.least s.height (Mu34.chosen s l) with
      | none =>
        rw [hl] at k r2
        have r2 : v2 = .non := r2
        subst r2
        refine ⟨_, rfl, rfl, _, rfl, iteT ⟨by show 1 ≤ sizeLine; decide, fun q nq => ?_⟩⟩
        exact k.list hC g12 nq
      | some x =>
        rw [hl] at k r2
        have r2 : LayR CL I2 v2 (Mu34.rebuilt s.height x.1 x.2 (Mu34.chosen s l), flatL (x.2.drop 1)) := r2
        obtain ⟨aL, dL, vr, vl, rfl, haL, ⟨ar, vrs, rfl, har, hvr⟩, ⟨al, rfl, hal⟩⟩ := r2.parts
        have haL' := g2.b _ _ haL
        have lb := least_bound hl
        have lc := chosen_len w3
        have lvr := hvr.length
        rw [rebuilt_len] at lvr
        refine ⟨_, rfl, rfl, _, rfl, iteF ?_⟩
        refine ⟨_, rfl, aL, CL, dL, _, _, rfl, haL', TL.cl, TL.n1, layF1 _ _, ar, vrs, rfl, .inl (SqL.of (g2.b _ _ har)), by show 1 ≤ sizeLine; decide, fun p3 n3 => ?_⟩
        have g3 := G.newH (o := .lst [V.int (vrs.length : Int)]) g2.b n3
        refine ⟨_, rfl, aL, CL, dL, _, _, rfl, g3.s _ _ haL', TL.cl, TL.n2, layF2 _ _, p3, al, _, _, rfl, rfl, upd_same, g3.s _ _ (g2.b _ _ hal), sz_le ?_, fun p4 n4 => ?_⟩
        · rw [List.length_map, flat_len, List.length_drop]
          show 1 + _ ≤ _
          omega
        · have e : (Mu34.nums (Mu34.layoutNums x.1 x.2)).map V.int = [V.int (vrs.length : Int)] ++ (flatL (x.2.drop 1)).map vN := by
            rw [lvr]
            exact nums_cons _ _
          exact Eq.mp (congrArg (fun z => Q (V.ref p4) (upd _ p4 (.lst z))) e) (k.list hC (g12.trans g3) n4)
def spRebuild (CC CS CP : Addr) : Sp := fun vs H Q _ => ∃ (I : Hp) (v u : V) (s : Mu34.State) (M : List Addr) (l : List Nat), vs = [v, u] ∧ Same I H ∧ CollR CC CS CP I H v s M ∧ Wf s ∧ ColR I u l ∧ l.length ≤ 5 ∧ RetS CC CS CP I H v M (Mu34.step (some s) (.rebuilt l)) Q
theorem reb_flat {h n : Nat} (l : Mu34.Layout) (cs : List (List (List Nat))) : (Mu34.rebuilt h n l cs).flatten.length = n * h := by
  unfold Mu34.rebuilt
  rw [List.length_flatten, List.map_map]
  have : (List.range n).map (List.length ∘ fun k => (List.range h).map fun j => (Mu34.signsAt n l cs k j).headD Mu34.WORN) = List.replicate n h := by
    rw [List.eq_replicate_iff]
    refine ⟨by simp, fun b hb => ?_⟩
    rw [List.mem_map] at hb
    obtain ⟨k, _, rfl⟩ := hb
    simp
  rw [this]
  simp
theorem ok_rebuild (T : TopR K mg aW) (TC : ColT K CC CS CP) (TL : LayT K CL) (D : Dn K mg "rebuild" s_rebuild ["collection", "numbers"]) (c_naming_refusal : C8.Cal P w K mg base 2 "naming_refusal" (spNaming CC CS CP) []) (c_least_laying : C8.Cal P w K mg base 9 "least_laying" (spLeast CC CS CP CL) []) (c_cells_of : C8.Cal P w K mg base 1 "cells_of" spCellsOf []) :
    C8.Cal P w K mg base 10 "rebuild" (spRebuild CC CS CP) [] := by
  refine D.cal sc_rebuild (fun vs H Q E h => ?_) (fun f cdv A outer s H vs Q E hr h => ?_)
  · obtain ⟨I, v, u, s, M, l, rfl, _⟩ := h
    rfl
  · obtain ⟨I, v, u, s, M, l, rfl, hI, hC, wf, hu, l5, k⟩ := h
    refine ⟨_, (pss_cons (ps_set (i := 2) sc_rebuild.nd rfl (Or.inl rfl) (C8.pe_c c_naming_refusal hr (by decide) rfl (pa_cons (pv 0) (pa_cons (pv 1) pa_nil))))
        (pss_cons (ps_if (pt_cmpR op_notN (pv 2) pe_non (nomark _)) (pss_one (ps_ret (pe_lst (pa_cons (pv 2) pa_nil)))) pss_nil)
        (pss_cons (ps_set (i := 3) sc_rebuild.nd rfl (Or.inl rfl) (C8.pe_c c_least_laying hr (by decide) rfl (pa_cons (pv 0) (pa_cons (pv 1) pa_nil))))
        (pss_cons (ps_if (pt_cmpR op_isN (pv 3) pe_non (nomark _)) (pss_one (ps_ret (pe_lst (pa_cons (C8.pe_gc rfl T.CANNOT_BE) pa_nil)))) pss_nil)
        (pss_one (ps_ret (pe_op op_cat (pe_lst (pa_cons (pe_callB call_len_seq (by rfl) T.b_len PySem.boot_len (pa_cons (pe_fld (pv 3) rfl) pa_nil)) pa_nil)) (C8.pe_c c_cells_of hr (by decide) rfl (pa_cons (pe_fld (pv 3) rfl) pa_nil))))))))), ?_⟩
    have es : Mu34.step (some s) (.rebuilt l) = (some s, if Mu34.why s l ≠ 0 then [Mu34.why s l] else match Mu34.least s.height (Mu34.chosen s l) with
      | none => [-6]
      | some x => Mu34.nums (x.1 :: (Mu34.rebuilt s.height x.1 x.2 (Mu34.chosen s l)).flatten)) := rfl
    rw [es] at k
    refine ⟨_, rfl, _, rfl, I, v, u, s, M, l, rfl, hI, hC, hu, l5, fun I1 H1 v1 g1 r1 => ?_⟩
    subst r1
    unfold nameRef
    by_cases hw : Mu34.why s l = 0
    case neg =>
      rw [if_pos hw] at k
      rw [if_neg hw]
      refine ⟨_, rfl, rfl, _, rfl, iteT ⟨_, rfl, by show 1 ≤ sizeLine; decide, fun q nq => ?_⟩⟩
      exact k.list hC g1 nq
    case pos =>
      rw [if_neg (fun z => z hw)] at k
      rw [if_pos hw]
      obtain ⟨w1, w2, w3⟩ := why_ok hw
      refine ⟨_, rfl, rfl, _, rfl, iteF ?_⟩
      refine ⟨_, rfl, _, rfl, I1, v, u, s, M, l, rfl, g1.b, hC.g g1, wf, ColR.mo _ _ _ _ g1.u hu, w1, w2, w3, fun I2 H2 v2 g2 r2 => ?_⟩
      have g12 := g1.trans g2
      rw [least_some wf w1 w3] at r2
      cases hl : Mu34.least s.height (Mu34.chosen s l) with
      | none =>
        rw [hl] at k r2
        have r2 : v2 = .non := r2
        subst r2
        refine ⟨_, rfl, rfl, _, rfl, iteT ⟨by show 1 ≤ sizeLine; decide, fun q nq => ?_⟩⟩
        exact k.list hC g12 nq
      | some x =>
        rw [hl] at k r2
        have r2 : LayR CL I2 v2 (Mu34.rebuilt s.height x.1 x.2 (Mu34.chosen s l), flatL (x.2.drop 1)) := r2
        obtain ⟨aL, dL, vr, vl, rfl, haL, hring, ⟨al, rfl, hal⟩⟩ := r2.parts
        obtain ⟨ar, vrs, rfl, har, hvr⟩ := id hring
        have haL' := g2.b _ _ haL
        have lb := least_bound hl
        have lvr := hvr.length
        rw [rebuilt_len] at lvr
        have wh := wf.h3
        have lfl : (Mu34.rebuilt s.height x.1 x.2 (Mu34.chosen s l)).flatten.length ≤ 100 := by
          rw [reb_flat]
          exact Nat.le_trans (Nat.mul_le_mul lb.1 wh) (by decide)
        refine ⟨_, rfl, rfl, _, rfl, iteF ?_⟩
        refine ⟨_, rfl, aL, CL, dL, _, _, rfl, haL', TL.cl, TL.n1, layF1 _ _, ar, vrs, rfl, .inl (SqL.of (g2.b _ _ har)), by show 1 ≤ sizeLine; decide, fun p3 n3 => ?_⟩
        have g3 := G.newH (o := .lst [V.int (vrs.length : Int)]) g2.b n3
        refine ⟨_, rfl, aL, CL, dL, _, _, rfl, g3.s _ _ haL', TL.cl, TL.n1, layF1 _ _, I2, _, _, rfl, g3.b, hring, by omega, fun I4 H4 v4 g4 r4 => ?_⟩
        obtain ⟨a4, rfl, ha4⟩ := r4
        refine ⟨p3, a4, _, _, rfl, rfl, g4.s _ _ upd_same, g4.b _ _ ha4, sz_le ?_, fun p5 n5 => ?_⟩
        · rw [List.length_map]
          show 1 + _ ≤ _
          omega
        · have e : (Mu34.nums (x.1 :: (Mu34.rebuilt s.height x.1 x.2 (Mu34.chosen s l)).flatten)).map V.int = [V.int (vrs.length : Int)] ++ (Mu34.rebuilt s.height x.1 x.2 (Mu34.chosen s l)).flatten.map vN := by
            rw [lvr]
            exact nums_cons _ _
          exact Eq.mp (congrArg (fun z => Q (V.ref p5) (upd _ p5 (.lst z))) e) (k.list hC ((g12.trans g3).trans g4) n5)
end
end CR

/-! What a collection keeps to is kept by every call. -/
namespace CR
theorem ring_to {h m : Nat} {r : List (List Nat)} (h1 : 1 ≤ r.length) (h2 : r.length ≤ 8) (h3 : ∀ c ∈ r, c.length = h ∧ ∀ z ∈ c, z < m) : ringOk h m r = true := by
  unfold ringOk
  simp only [Bool.and_eq_true, decide_eq_true_eq, List.all_eq_true, beq_iff_eq]
  exact ⟨h1, h2, h3⟩
theorem piece_to {h m : Nat} {r : List (List Nat)} (h1 : 1 ≤ r.length) (h2 : r.length ≤ 12) (h3 : ∀ c ∈ r, c.length = h ∧ ∀ z ∈ c, z = 9 ∨ z < m) : pieceOk h m r = true := by
  unfold pieceOk
  simp only [Bool.and_eq_true, decide_eq_true_eq, List.all_eq_true, beq_iff_eq, Bool.or_eq_true]
  exact ⟨h1, h2, h3⟩
theorem marked_ring {h m : Nat} {r : List (List Nat)} {i j z : Nat} (e : ringOk h m r = true) (hi : i < r.length) (hz : z < m) : ringOk h m (Mu34.marked r i j z) = true := by
  obtain ⟨h1, h2, h3⟩ := ring_of e
  unfold Mu34.marked
  refine ring_to (by rw [List.length_set]; exact h1) (by rw [List.length_set]; exact h2) fun c hc => ?_
  rcases set_mem hc with rfl | hc
  · have e1 := List.getElem?_eq_getElem hi
    rw [getD_of e1]
    have h4 := h3 _ (List.getElem_mem hi)
    refine ⟨by rw [List.length_set]; exact h4.1, fun y hy => ?_⟩
    rcases set_mem hy with rfl | hy
    · exact hz
    · exact h4.2 y hy
  · exact h3 c hc
theorem cell_ok {m : Nat} {p : List (List Nat)} (h : ∀ c ∈ p, ∀ z ∈ c, z = 9 ∨ z < m) (d j : Nat) : Mu34.cell p d j = 9 ∨ Mu34.cell p d j < m := by
  unfold Mu34.cell
  rw [List.getD_eq_getElem?_getD (l := p)]
  cases e : p[d]? with
  | none => exact .inl rfl
  | some c =>
    show (c.getD j Mu34.WORN) = 9 ∨ (c.getD j Mu34.WORN) < m
    rw [List.getD_eq_getElem?_getD]
    cases e2 : c[j]? with
    | none => exact .inl rfl
    | some z => exact h c (List.mem_of_getElem? e) z (List.mem_of_getElem? e2)
theorem joined_piece {h m i : Nat} {p q : List (List Nat)} (hp : pieceOk h m p = true) (hq : pieceOk h m q = true) (hw : i + q.length ≤ 12) : pieceOk h m (Mu34.joined h p q i) = true := by
  obtain ⟨p1, p2, p3⟩ := piece_of hp
  obtain ⟨q1, q2, q3⟩ := piece_of hq
  refine piece_to (by rw [joined_len]; omega) (by rw [joined_len]; omega) fun c hc => ?_
  unfold Mu34.joined at hc
  rw [List.mem_map] at hc
  obtain ⟨d, _, rfl⟩ := hc
  refine ⟨by simp, fun z hz => ?_⟩
  rw [List.mem_map] at hz
  obtain ⟨j, _, rfl⟩ := hz
  have c1 := cell_ok (m := m) (fun c hc => (p3 c hc).2) d j
  have c2 : ∀ d, Mu34.cell q d j = 9 ∨ Mu34.cell q d j < m := fun d => cell_ok (m := m) (fun c hc => (q3 c hc).2) d j
  unfold Mu34.joinedCell
  show (if Mu34.cell p d j = Mu34.WORN then (if i ≤ d then Mu34.cell q (d - i) j else Mu34.WORN) else Mu34.cell p d j) = 9 ∨ (if Mu34.cell p d j = Mu34.WORN then (if i ≤ d then Mu34.cell q (d - i) j else Mu34.WORN) else Mu34.cell p d j) < m
  split
  · split
    · exact c2 _
    · exact .inl rfl
  · exact c1
theorem put_ids (cs : List Mu34.Piece) (c' : Mu34.Piece) : (cs.map fun x => if x.id = c'.id then c' else x).map (·.id) = cs.map (·.id) := by
  rw [List.map_map]
  congr 1
  funext x
  show (if x.id = c'.id then c' else x).id = x.id
  split
  · rename_i h
    exact h.symm
  · rfl
theorem Wf.put {s : Mu34.State} (wf : Wf s) {c' : Mu34.Piece} (h : pieceOk s.height s.signs c'.pic = true ∧ c'.year ≤ 99 ∧ c'.id < s.next) : Wf (Mu34.put s c') := by
  refine ⟨wf.h1, wf.h3, wf.m2, wf.m5, wf.s4, wf.sq, ?_, fun c hc => ?_, ?_⟩
  · show (s.pieces.map _).length ≤ 6
    rw [List.length_map]
    exact wf.p6
  · have hc : c ∈ s.pieces.map fun x => if x.id = c'.id then c' else x := hc
    rw [List.mem_map] at hc
    obtain ⟨x, hx, rfl⟩ := hc
    split
    · exact h
    · exact wf.pc x hx
  · show ((s.pieces.map fun x => if x.id = c'.id then c' else x).map (·.id)).Pairwise (· < ·)
    rw [put_ids]
    exact wf.po
theorem Wf.without {s : Mu34.State} (wf : Wf s) (n : Nat) : Wf (Mu34.without s n) := by
  refine ⟨wf.h1, wf.h3, wf.m2, wf.m5, wf.s4, wf.sq, ?_, fun c hc => ?_, ?_⟩
  · exact Nat.le_trans (List.length_filter_le _ _) wf.p6
  · exact wf.pc c (List.mem_filter.mp hc).1
  · exact wf.po.sublist (List.filter_sublist.map _)
theorem step_wf {s s' : Mu34.State} (wf : Wf s) (c : Mu34.Call) (e : (Mu34.step (some s) c).1 = some s') : Wf s' := by
  have same : some s = some s' → Wf s' := fun z => by
    have z := Option.some.inj z
    subst z
    exact wf
  cases c with
  | begin_ h m =>
    have e : (if h < 1 ∨ (3 < h ∨ (m < 2 ∨ 5 < m)) then (some s, [-1]) else ((some ⟨h, m, [], [], 0⟩ : Mu34.Abs), ([0] : List Int))).1 = some s' := e
    split at e
    · exact same e
    · rename_i hn
      have e := Option.some.inj e
      subst e
      exact ⟨by show 1 ≤ h; omega, by show h ≤ 3; omega, by show 2 ≤ m; omega, by show m ≤ 5; omega, Nat.zero_le _, fun q hq => (List.not_mem_nil hq).elim, Nat.zero_le _, fun q hq => (List.not_mem_nil hq).elim, .nil⟩
  | engrave p =>
    have e : (if Mu34.isRing s p = false then ((some s : Mu34.Abs), ([-1] : List Int)) else if 4 ≤ s.seals.length then (some s, [-5]) else (match Mu34.twin s s.seals.length p with
      | some i => (some s, [-4, (i : Int)])
      | none => (some { s with seals := s.seals ++ [[p]] }, [(s.seals.length : Int)]))).1 = some s' := e
    split at e
    · exact same e
    · rename_i h1
      split at e
      · exact same e
      · rename_i h2
        split at e
        · exact same e
        · have e := Option.some.inj e
          subst e
          have hr : ringOk s.height s.signs p = true := by
            cases z : ringOk s.height s.signs p with
            | true => rfl
            | false => exact absurd z h1
          refine ⟨wf.h1, wf.h3, wf.m2, wf.m5, ?_, fun q hq => ?_, wf.p6, wf.pc, wf.po⟩
          · show (s.seals ++ [[p]]).length ≤ 4
            rw [List.length_append]
            show s.seals.length + 1 ≤ 4
            omega
          · rcases List.mem_append.mp hq with hq | hq
            · exact wf.sq q hq
            · rw [List.mem_singleton.mp hq]
              exact ⟨by simp, by simp, fun r hr' => by rw [List.mem_singleton.mp hr']; exact hr⟩
  | cut k i j z =>
    have e : (match Mu34.sealOf s k with
      | none => ((some s : Mu34.Abs), ([-2] : List Int))
      | some q => if (Mu34.now q).length ≤ i ∨ (s.height ≤ j ∨ s.signs ≤ z) then (some s, [-1]) else if 3 < q.length then (some s, [-5]) else if Mu34.cell (Mu34.now q) i j = z then (some s, [-6]) else match Mu34.twin s k (Mu34.marked (Mu34.now q) i j z) with
        | some x => (some s, [-4, (x : Int)])
        | none => (some { s with seals := s.seals.set k (q ++ [Mu34.marked (Mu34.now q) i j z]) }, [(q.length : Int)])).1 = some s' := e
    split at e
    · exact same e
    · rename_i q hq
      have hqm : q ∈ s.seals := List.mem_of_getElem? hq
      have wq := wf.sq q hqm
      split at e
      · exact same e
      · rename_i h1
        split at e
        · exact same e
        · rename_i h2
          split at e
          · exact same e
          · split at e
            · exact same e
            · have e := Option.some.inj e
              subst e
              refine ⟨wf.h1, wf.h3, wf.m2, wf.m5, ?_, fun q' hq' => ?_, wf.p6, wf.pc, wf.po⟩
              · show (s.seals.set k _).length ≤ 4
                rw [List.length_set]
                exact wf.s4
              · rcases set_mem hq' with rfl | hq'
                · refine ⟨by simp, by simp; omega, fun r hr => ?_⟩
                  rcases List.mem_append.mp hr with hr | hr
                  · exact wq.2.2 r hr
                  · rw [List.mem_singleton.mp hr]
                    exact marked_ring (wq.2.2 _ (now_mem wq.1)) (Nat.lt_of_not_le fun z => h1 (.inl z)) (Nat.lt_of_not_le fun z => h1 (.inr (.inr z)))
                · exact wf.sq q' hq'
  | same n l => exact same e
  | piece y p =>
    have e : (if y < 1 ∨ (99 < y ∨ Mu34.isPiece s p = false) then ((some s : Mu34.Abs), ([-1] : List Int)) else if 6 ≤ s.pieces.length then (some s, [-5]) else (some { s with pieces := s.pieces ++ [⟨s.next, y, p, none⟩], next := s.next + 1 }, [(s.next : Int)])).1 = some s' := e
    split at e
    · exact same e
    · rename_i h1
      split at e
      · exact same e
      · rename_i h2
        have e := Option.some.inj e
        subst e
        have hp : pieceOk s.height s.signs p = true := by
          cases z : pieceOk s.height s.signs p with
          | true => rfl
          | false => exact absurd (.inr (.inr z)) h1
        refine ⟨wf.h1, wf.h3, wf.m2, wf.m5, wf.s4, wf.sq, ?_, fun c hc => ?_, ?_⟩
        · show (s.pieces ++ [(⟨s.next, y, p, none⟩ : Mu34.Piece)]).length ≤ 6
          rw [List.length_append]
          show s.pieces.length + 1 ≤ 6
          omega
        · rcases List.mem_append.mp hc with hc | hc
          · obtain ⟨a, b, d⟩ := wf.pc c hc
            exact ⟨a, b, Nat.lt_succ_of_lt d⟩
          · rw [List.mem_singleton.mp hc]
            exact ⟨hp, by show y ≤ 99; omega, Nat.lt_succ_self _⟩
        · show ((s.pieces ++ [(⟨s.next, y, p, none⟩ : Mu34.Piece)]).map (·.id)).Pairwise (· < ·)
          rw [List.map_append, List.pairwise_append]
          refine ⟨wf.po, List.pairwise_singleton _ _, fun a ha b hb => ?_⟩
          rw [List.mem_map] at ha
          obtain ⟨c, hc, rfl⟩ := ha
          have hb : b = s.next := by simpa using hb
          have := (wf.pc c hc).2.2
          omega
  | fits k i => exact same e
  | least l => exact same e
  | rebuilt l => exact same e
  | join a b g =>
    have e : (match Mu34.find s a, Mu34.find s b with
      | some x, some y =>
        if a = b ∨ ((x.pic.length : Int) + g < 0 ∨ (12 : Int) < (x.pic.length : Int) + g + (y.pic.length : Int)) then ((some s : Mu34.Abs), ([-1] : List Int)) else if x.claim.isSome = true ∨ y.claim.isSome = true then (some s, [-8]) else if x.year ≠ y.year then (some s, [-10]) else (match Mu34.clash s.height x.pic y.pic ((x.pic.length : Int) + g).toNat with
          | some z => (some s, [-11, (z.1 : Int), (z.2 : Int)])
          | none => (some (Mu34.put (Mu34.without s b) { x with pic := Mu34.joined s.height x.pic y.pic ((x.pic.length : Int) + g).toNat }), [((Mu34.joined s.height x.pic y.pic ((x.pic.length : Int) + g).toNat).length : Int)]))
      | _, _ => (some s, [-3])).1 = some s' := e
    split at e
    · rename_i x y hx hy
      split at e
      · exact same e
      · rename_i h1
        split at e
        · exact same e
        · split at e
          · exact same e
          · split at e
            · exact same e
            · have e := Option.some.inj e
              subst e
              obtain ⟨xm, xi⟩ := (⟨List.mem_of_find?_eq_some hx, by simpa using List.find?_some hx⟩ : x ∈ s.pieces ∧ x.id = a)
              have ym : y ∈ s.pieces := List.mem_of_find?_eq_some hy
              have wx := wf.pc x xm
              have wy := wf.pc y ym
              refine (wf.without b).put ⟨joined_piece wx.1 wy.1 (by omega), wx.2.1, wx.2.2⟩
    · exact same e
  | ages k i => exact same e
  | which i => exact same e
  | claim i k a =>
    have e : (match Mu34.find s i, Mu34.sealOf s k with
      | none, _ => ((some s : Mu34.Abs), ([-3] : List Int))
      | some _, none => (some s, [-2])
      | some c, some q => if q.length ≤ a then (some s, [-1]) else if c.claim.isSome = true then (some s, [-8]) else (match Mu34.ways (q.getD a []) c.pic with
        | [] => (some s, [-6])
        | x :: _ => match Mu34.against s i k c.year a with
          | z :: _ => (some s, [-7, (z : Int)])
          | [] => (some (Mu34.put s { c with claim := some (k, a) }), Mu34.nums [x.1, x.2]))).1 = some s' := e
    split at e
    · exact same e
    · exact same e
    · rename_i c q hc hq
      split at e
      · exact same e
      · split at e
        · exact same e
        · split at e
          · exact same e
          · split at e
            · exact same e
            · have e := Option.some.inj e
              subst e
              exact wf.put (wf.pc c (List.mem_of_find?_eq_some hc))
  | drop i =>
    have e : (match Mu34.find s i with
      | none => ((some s : Mu34.Abs), ([-3] : List Int))
      | some c => match c.claim with
        | none => (some s, [-8])
        | some x => (some (Mu34.put s { c with claim := none }), Mu34.nums [x.1, x.2])).1 = some s' := e
    split at e
    · exact same e
    · rename_i c hc
      split at e
      · exact same e
      · have e := Option.some.inj e
        subst e
        exact wf.put (wf.pc c (List.mem_of_find?_eq_some hc))
  | cuts k => exact same e
  | look i => exact same e
  | now k => exact same e
  | rolled k a i n w => exact same e
end CR

namespace CR
open PySem PySem.Spec PyProof.Rows L2
structure TopT (K : PySem.W.Frag) (mg : Str → Option Value) (aW : Addr) : Prop extends TopR K mg aW where
  BEGIN : Cst mg "BEGIN" (.int 0)
structure TrT (K : PySem.W.Frag) (CT : Addr) : Prop where
  cl : Cls K CT
  n1 : NoAttr K CT "collection"
abbrev trF (v : V) : List (Str × V) := [("collection", v)]
theorem trF1 (v : V) : (trF v).lookup ("collection" : Str) = some v := lkH
theorem trFput (v u : V) : putF "collection" u (trF v) = trF u := putH
section
variable {P : Program} {w : World} {K : PySem.W.Frag} {mg : Str → Option Value} {base : Heap} {aW CC CS CP CT CD CK : Addr}
/-! ### Collection, Tray -/
abbrev s_init_Collection : Stmt := inClass (top 6) 0
abbrev N_init_Collection : List Str := ["self", "high", "signs"]
theorem sc_init_Collection : FnScope N_init_Collection ["self", "high", "signs"] (defScope s_init_Collection) := ⟨rfl, rfl, rfl, by decide +kernel, rfl, by decide +kernel, by decide +kernel⟩
abbrev s_init_Tray : Stmt := inClass (top 114) 0
abbrev N_init_Tray : List Str := ["self"]
theorem sc_init_Tray : FnScope N_init_Tray ["self"] (defScope s_init_Tray) := ⟨rfl, rfl, rfl, by decide +kernel, rfl, by decide +kernel, by decide +kernel⟩
def spInitColl (CC : Addr) : Sp := fun vs H Q _ => ∃ (p dx : Addr) (h m : Nat), vs = [.ref p, vN h, vN m] ∧ H p = some (.ins CC dx []) ∧ ∀ (H' : Hp) (as ap : Addr), H as = none → H ap = none → as ≠ ap → H' as = some (.lst []) → H' ap = some (.dK []) → H' p = some (.ins CC dx (coF h m as ap 0)) → (∀ b o, H b = some o → b ≠ p → H' b = some o) → Q .non H'
theorem ok_init_Collection (TC : ColT K CC CS CP) (D : Di K mg "Collection" "Collection.__init__" CC s_init_Collection ["self", "high", "signs"]) : C8.Mak P w K mg base 1 "Collection" CC (spInitColl CC) [] := by
  refine D.mak sc_init_Collection (fun vs H Q E h => ?_) (fun f cdv A outer s H vs Q E hr h => ?_)
  · obtain ⟨p, dx, h, m, rfl, _⟩ := h
    rfl
  · obtain ⟨p, dx, h, m, rfl, hp, q⟩ := h
    refine ⟨_, (pss_cons (ps_fld (pv 0) (pv 1) rfl)
        (pss_cons (ps_fld (pv 0) (pv 2) rfl)
        (pss_cons (ps_fld (pv 0) (pe_lst pa_nil) rfl)
        (pss_cons (ps_fld (pv 0) pe_dnewK rfl)
        (pss_one (ps_fld (pv 0) pe_int rfl)))))), ?_⟩
    refine ⟨_, rfl, _, rfl, p, CC, dx, [], rfl, hp, TC.cc, TC.c1, by show 0 < 1000; decide, ?_⟩
    refine ⟨_, rfl, _, rfl, p, CC, dx, _, rfl, upd_same, TC.cc, TC.c2, by show 1 < 1000; decide, ?_⟩
    rw [upd_upd, put0, putN (by decide +kernel), put0]
    refine ⟨Nat.zero_le _, fun as nas => ?_⟩
    have pas : p ≠ as := fun z => by
      rw [← z, upd_same] at nas
      cases nas
    have nas0 : H as = none := by
      rw [upd_ne pas.symm] at nas
      exact nas
    refine ⟨_, rfl, p, CC, dx, _, rfl, by rw [upd_ne pas, upd_same], TC.cc, TC.c3, by show 2 < 1000; decide, ?_⟩
    rw [putN (by decide +kernel), putN (by decide +kernel), put0]
    intro ap nap
    have pap : p ≠ ap := fun z => by
      rw [← z, upd_same] at nap
      cases nap
    have asap : as ≠ ap := fun z => by
      rw [← z, upd_ne pas.symm, upd_same] at nap
      cases nap
    have nap0 : H ap = none := by
      rw [upd_ne pap.symm, upd_ne asap.symm, upd_ne pap.symm] at nap
      exact nap
    refine ⟨_, rfl, p, CC, dx, _, rfl, by rw [upd_ne pap, upd_same], TC.cc, TC.c4, by show 3 < 1000; decide, ?_⟩
    rw [putN (by decide +kernel), putN (by decide +kernel), putN (by decide +kernel), put0]
    refine ⟨_, rfl, p, CC, dx, _, rfl, upd_same, TC.cc, TC.c5, by show 4 < 1000; decide, ?_⟩
    rw [putN (by decide +kernel), putN (by decide +kernel), putN (by decide +kernel), putN (by decide +kernel), put0]
    refine q _ as ap nas0 nap0 asap ?_ ?_ upd_same (fun b o e hb => ?_)
    · rw [upd_ne pas.symm, upd_ne pas.symm, upd_ne asap, upd_ne pas.symm, upd_same]
    · rw [upd_ne pap.symm, upd_ne pap.symm, upd_same]
    · rw [upd_ne hb, upd_ne hb, upd_ne (ne_of_none e nap0), upd_ne hb, upd_ne (ne_of_none e nas0), upd_ne hb]
      exact e
def spInitTray (CT : Addr) : Sp := fun vs H Q _ => ∃ (p dx : Addr), vs = [.ref p] ∧ H p = some (.ins CT dx []) ∧ Made CT p dx (trF .non) H Q
theorem ok_init_Tray (TT : TrT K CT) (D : Di K mg "Tray" "Tray.__init__" CT s_init_Tray ["self"]) : C8.Mak P w K mg base 1 "Tray" CT (spInitTray CT) [] := by
  refine D.mak sc_init_Tray (fun vs H Q E h => ?_) (fun f cdv A outer s H vs Q E hr h => ?_)
  · obtain ⟨p, dx, rfl, _⟩ := h
    rfl
  · obtain ⟨p, dx, rfl, hp, q⟩ := h
    refine ⟨_, (pss_one (ps_fld (pv 0) pe_non rfl)), ?_⟩
    refine ⟨_, rfl, p, CT, dx, [], rfl, hp, TT.cl, TT.n1, by show 0 < 1000; decide, ?_⟩
    refine q _ ?_ (fun b o e hb => by rw [upd_ne hb]; exact e)
    rw [upd_same, put0]
/-! ### what lies in a tray -/
def InTray (CC CS CP : Addr) (I H : Hp) (v : V) (o : Mu34.Abs) (M : List Addr) : Prop := match o with
  | none => v = .non ∧ M = []
  | some s => CollR CC CS CP I H v s M ∧ Wf s
structure TrayR (CT CC CS CP : Addr) (I H : Hp) (t : Addr) (o : Mu34.Abs) (M : List Addr) : Prop where
  ex : ∃ dx v, H t = some (.ins CT dx (trF v)) ∧ InTray CC CS CP I H v o M
  tm : t ∉ M
  it : I t = none
  so : ∀ m ∈ M, H m ≠ none
theorem TrayR.wr {I H I' H' : Hp} {t : Addr} {o : Mu34.Abs} {M N N' : List Addr} (h : TrayR CT CC CS CP I H t o M) (w : Wr I H I' H' N N') (ht : t ∉ N) (hm : ∀ m ∈ M, m ∉ N) : TrayR CT CC CS CP I' H' t o M := by
  obtain ⟨⟨dx, v, h1, h2⟩, tm, it, so⟩ := h
  refine ⟨⟨dx, v, w.f _ _ h1 ht, ?_⟩, tm, w.n _ it (some_ne h1), fun m hm' => w.d m (so m hm')⟩
  cases o with
  | none => exact h2
  | some s => exact ⟨h2.1.frame w.u (fun m hm' o e => w.f _ _ e (hm m hm')) (fun m hm' => w.n m (h2.1.no m hm') (so m hm')), h2.2⟩
/-! ### begin -/
abbrev s_begin : Stmt := top 115
abbrev N_begin : List Str := ["tray", "high", "signs"]
theorem sc_begin : FnScope N_begin ["tray", "high", "signs"] (defScope s_begin) := ⟨rfl, rfl, rfl, by decide +kernel, rfl, by decide +kernel, by decide +kernel⟩
def spBegin (CT CC CS CP : Addr) : Sp := fun vs H Q _ => ∃ (I : Hp) (t : Addr) (o : Mu34.Abs) (M : List Addr) (h m : Nat), vs = [.ref t, vN h, vN m] ∧ Same I H ∧ TrayR CT CC CS CP I H t o M ∧
  ∀ I' H' x M', Wr I H I' H' (t :: M) (t :: M') → TrayR CT CC CS CP I' H' t (Mu34.step o (.begin_ h m)).1 M' → IntsR I' x (Mu34.step o (.begin_ h m)).2 → Q x H'
theorem TrayR.g {I H I' H' : Hp} {t : Addr} {o : Mu34.Abs} {M : List Addr} (h : TrayR CT CC CS CP I H t o M) (g : G I H I' H') : TrayR CT CC CS CP I' H' t o M := h.wr (N := []) (N' := []) (Wr.ofG g) (by simp) (fun m _ => by simp)
theorem ok_begin (T : TopT K mg aW) (TC : ColT K CC CS CP) (TT : TrT K CT) (D : Dn K mg "begin" s_begin ["tray", "high", "signs"]) (m_Collection : C8.Mak P w K mg base 1 "Collection" CC (spInitColl CC) []) : C8.Cal P w K mg base 3 "begin" (spBegin CT CC CS CP) [] := by
  refine D.cal sc_begin (fun vs H Q E h => ?_) (fun f cdv A outer s H vs Q E hr h => ?_)
  · obtain ⟨I, t, o, M, h, m, rfl, _⟩ := h
    rfl
  · obtain ⟨I, t, o, M, h, m, rfl, hI, hT, k⟩ := h
    refine ⟨_, (pss_cons (ps_if (PW.pt (pw_or (pt_not (pt_chain op_le op_le pe_int (pv 1) pe_int)) (pw_or1 (pt_not (pt_chain op_le op_le pe_int (pv 2) pe_int))))) (pss_one (ps_ret (pe_lst (pa_cons (C8.pe_gc rfl T.WRONG) pa_nil)))) pss_nil)
        (pss_cons (ps_fld (pv 0) (C8.pe_mk m_Collection hr (by decide) rfl (pa_cons (pv 1) (pa_cons (pv 2) pa_nil))) rfl)
        (pss_one (ps_ret (pe_lst (pa_cons pe_int pa_nil)))))), ?_⟩
    have es : Mu34.step o (.begin_ h m) = if h < 1 ∨ (3 < h ∨ (m < 2 ∨ 5 < m)) then (o, [-1]) else (some ⟨h, m, [], [], 0⟩, [0]) := by
      cases o <;> rfl
    rw [es] at k
    have wrong : (h < 1 ∨ (3 < h ∨ (m < 2 ∨ 5 < m))) → tRet (tLst (tCons (tC (.int (-1))) tNil)) { nx := fun _ H' => Q .non H', rt := Q } (start N_begin [.ref t, vN h, vN m]) H := fun hw => by
      rw [if_pos hw] at k
      refine ⟨by show 1 ≤ sizeLine; decide, fun l nl => ?_⟩
      have g1 := G.new (o := .lst [V.int (-1)]) hI nl
      exact k _ _ _ M (Wr.ofG g1) (hT.g g1) ⟨l, rfl, upd_same⟩
    refine xSeq (xIfS (xOr (xNot (xBetween (x := (h : Int)) rfl ?_))))
    by_cases ch : 1 ≤ h ∧ h ≤ 3
    case neg =>
      rw [show (decide ((1 : Int) ≤ (h : Int)) && decide ((h : Int) ≤ 3)) = false by
        rw [Bool.and_eq_false_iff, decide_eq_false_iff_not, decide_eq_false_iff_not]
        omega]
      exact iteT (iteT (wrong (by omega)))
    case pos =>
      rw [show (decide ((1 : Int) ≤ (h : Int)) && decide ((h : Int) ≤ 3)) = true by
        rw [Bool.and_eq_true, decide_eq_true_eq, decide_eq_true_eq]
        omega]
      refine iteF (xNot (xBetween (x := (m : Int)) rfl ?_))
      by_cases cm : 2 ≤ m ∧ m ≤ 5
      case neg =>
        rw [show (decide ((2 : Int) ≤ (m : Int)) && decide ((m : Int) ≤ 5)) = false by
          rw [Bool.and_eq_false_iff, decide_eq_false_iff_not, decide_eq_false_iff_not]
          omega]
        exact iteT (wrong (by omega))
      case pos =>
        rw [show (decide ((2 : Int) ≤ (m : Int)) && decide ((m : Int) ≤ 5)) = true by
          rw [Bool.and_eq_true, decide_eq_true_eq, decide_eq_true_eq]
          omega]
        rw [if_neg (by omega)] at k
        refine iteF ?_
        obtain ⟨⟨dx, v, h1, h2⟩, tm, it, so⟩ := hT
        refine ⟨_, rfl, _, rfl, ?_⟩
        intro x dxx nx nd ne
        refine ⟨x, dxx, h, m, rfl, upd_same, fun H1 as ap nas nap asap hs hp hx kp => ⟨rfl, ?_⟩⟩
        have fresh : ∀ b, upd (upd H dxx (.own x)) x (.ins CC dxx []) b = none → b ≠ x ∧ H b = none := fun b e => by
          have bx : b ≠ x := fun z => by
            rw [z, upd_same] at e
            cases e
          rw [upd_ne bx] at e
          by_cases z : b = dxx
          · subst z
            rw [upd_same] at e
            cases e
          · rw [upd_ne z] at e
            exact ⟨bx, e⟩
        obtain ⟨asx, nas⟩ := fresh as nas
        obtain ⟨apx, nap⟩ := fresh ap nap
        have s1 : Same H H1 := fun b o e => by
          have e1 : b ≠ x := ne_of_none e nx
          have e2 : b ≠ dxx := ne_of_none e nd
          exact kp b o (by rw [upd_ne e1, upd_ne e2]; exact e) e1
        have g1 : G I H I H1 := ⟨s1, Same.refl _, hI.trans s1, fun _ e _ => e⟩
        have h1' := s1 _ _ h1
        refine ⟨_, rfl, t, CT, dx, _, rfl, h1', TT.cl, TT.n1, by show 1 < 1000; decide, ?_⟩
        rw [trFput]
        have w2 : Wr I H I (upd H1 t (.ins CT dx (trF (.ref x)))) (t :: M) (t :: M) := (Wr.ofG g1).trans (Wr.mut g1.b (by simp) it)
        refine ⟨by show 1 ≤ sizeLine; decide, fun l nl => ?_⟩
        have g3 := G.new (o := .lst [V.int 0]) w2.b nl
        have w3 := w2.trans (Wr.ofG (M := t :: M) g3)
        have xt : x ≠ t := fun z => by
          rw [z, h1] at nx
          cases nx
        have ast : as ≠ t := fun z => by
          rw [z, h1] at nas
          cases nas
        have apt : ap ≠ t := fun z => by
          rw [z, h1] at nap
          cases nap
        have hx3 := g3.s x _ (by rw [upd_ne xt]; exact hx)
        have hs3 := g3.s as _ (by rw [upd_ne ast]; exact hs)
        have hp3 := g3.s ap _ (by rw [upd_ne apt]; exact hp)
        have fr : ∀ m ∈ [x, as, ap], H m = none := fun m hm => by
          simp only [List.mem_cons, List.not_mem_nil, or_false] at hm
          rcases hm with rfl | rfl | rfl
          · exact nx
          · exact nas
          · exact nap
        refine k _ _ _ [x, as, ap] (w3.weak (fun m hm => ?_) (fun m hm => hm)) ⟨⟨dx, .ref x, g3.s _ _ upd_same, ⟨⟨x, dxx, as, ap, [], [], [], [], rfl, hx3, hs3, hp3, .nil, .nil, rfl⟩, ?_, ?_, ?_⟩, ?_⟩, ?_, ?_, ?_⟩ ⟨l, rfl, upd_same⟩
        · rcases List.mem_cons.mp hm with rfl | hm
          · exact .inl (by simp)
          · exact .inr (fr m hm)
        · simp only [List.nodup_cons, List.mem_cons, List.not_mem_nil, or_false, not_or, not_false_eq_true, List.nodup_nil, and_true]
          exact ⟨⟨asx.symm, apx.symm⟩, asap⟩
        · intro m hm
          have e : I m = none := none_of hI (fr m hm)
          refine g3.n m e ?_
          simp only [List.mem_cons, List.not_mem_nil, or_false] at hm
          rcases hm with rfl | rfl | rfl
          · exact some_ne (by rw [upd_ne xt]; exact hx)
          · exact some_ne (by rw [upd_ne ast]; exact hs)
          · exact some_ne (by rw [upd_ne apt]; exact hp)
        · intro m hm
          simp only [List.mem_cons, List.not_mem_nil, or_false] at hm
          rcases hm with rfl | rfl | rfl
          · exact some_ne hx3
          · exact some_ne hs3
          · exact some_ne hp3
        · exact ⟨by show 1 ≤ h; omega, by show h ≤ 3; omega, by show 2 ≤ m; omega, by show m ≤ 5; omega, Nat.zero_le _, fun q hq => (List.not_mem_nil hq).elim, Nat.zero_le _, fun q hq => (List.not_mem_nil hq).elim, .nil⟩
        · simp only [List.mem_cons, List.not_mem_nil, or_false, not_or]
          exact ⟨xt.symm, ast.symm, apt.symm⟩
        · exact g3.n t it (some_ne upd_same)
        · intro m hm
          simp only [List.mem_cons, List.not_mem_nil, or_false] at hm
          rcases hm with rfl | rfl | rfl
          · exact some_ne hx3
          · exact some_ne hs3
          · exact some_ne hp3
end
end CR

namespace CR
open PySem PySem.Spec PyProof.Rows L2
section
variable {P : Program} {w : World} {K : PySem.W.Frag} {mg : Str → Option Value} {base : Heap} {aW CC CS CP CT CD CK : Addr}
theorem Wr.weak' {I H I1 H1 : Hp} {M M1 : List Addr} (w : Wr I H I1 H1 M M1) (t : Addr) : Wr I H I1 H1 (t :: M) (t :: M1) := ⟨fun b o e hb => w.f b o e fun z => hb (List.mem_cons_of_mem _ z), w.u, w.b, w.n, fun x hx => by
  rcases List.mem_cons.mp hx with rfl | hx
  · exact .inl (List.mem_cons_self ..)
  · rcases w.m x hx with h | h
    · exact .inl (List.mem_cons_of_mem _ h)
    · exact .inr h, w.d⟩
theorem pe_mk0 {X : Cx} {k j : Nat} {C : Addr} {x : Str} {sp : Sp} {dvs : List V} {p pos : Pos} (c : C8.Mak X.prog X.w X.K X.mg X.base k x C sp dvs) (hr : Room j X.A) (hk : k + 1 ≤ j) (hg : Gl X x) (hdb : (x == ("__debug__" : Str)) = false := by decide) : PE X (.Call (.Name x p) [] [] pos) (tMake C sp dvs C8.E0 tNil) := by
  obtain ⟨f, fd, ps, ds, M, F, hm, b, d⟩ := c.ex
  exact pe_make0 M F (hr.mono hk) hg hm b d pass0 hdb
/-! ### collection_answer's promise -/
def spCollAnswer (CK CC CS CP : Addr) : Sp := fun vs H Q _ => ∃ (I : Hp) (v u : V) (s : Mu34.State) (M : List Addr) (c : List (List Int)) (x : Mu34.Call), vs = [v, u] ∧ Same I H ∧ CollR CC CS CP I H v s M ∧ Wf s ∧ CallR CK I u c ∧ Mu34Neutral.asked1 c = true ∧ Mu34Neutral.callOf c = some x ∧ (∀ h m, x ≠ .begin_ h m) ∧ RetS CC CS CP I H v M (Mu34.step (some s) x) Q
/-! ### answer -/
abbrev s_answer : Stmt := top 118
abbrev N_answer : List Str := ["tray", "call"]
theorem sc_answer : FnScope N_answer ["tray", "call"] (defScope s_answer) := ⟨rfl, rfl, rfl, by decide +kernel, rfl, by decide +kernel, by decide +kernel⟩
def spAnswer (CK CT CC CS CP : Addr) : Sp := fun vs H Q _ => ∃ (I : Hp) (t : Addr) (u : V) (o : Mu34.Abs) (M : List Addr) (c : List (List Int)), vs = [.ref t, u] ∧ Same I H ∧ TrayR CT CC CS CP I H t o M ∧ CallR CK I u c ∧ Mu34Neutral.asked1 c = true ∧
  ∀ I' H' x M', Wr I H I' H' (t :: M) (t :: M') → TrayR CT CC CS CP I' H' t (Mu34Neutral.step o c).1 M' → IntsR I' x (Mu34Neutral.step o c).2 → Q x H'
theorem nine_nat {z : Int} (h : Mu34Neutral.nine z = true) : ∃ n : Nat, z = (n : Int) ∧ n ≤ 9 := by
  unfold Mu34Neutral.nine NeutralIO.within at h
  rw [Bool.and_eq_true, decide_eq_true_eq, decide_eq_true_eq] at h
  exact ⟨z.toNat, by omega, by omega⟩
/-- what a call is, that is asked -/
theorem asked_call {p : Int} {ns : List Int} {xs : List (List Int)} (h : Mu34Neutral.asked1 ((p :: ns) :: xs) = true) : (p = 0 ∧ ∃ a b : Nat, ns = [(a : Int), (b : Int)] ∧ xs = [] ∧ Mu34Neutral.callOf ((p :: ns) :: xs) = some (.begin_ a b)) ∨ (p ≠ 0 ∧ ∃ x, Mu34Neutral.callOf ((p :: ns) :: xs) = some x ∧ ∀ h m, x ≠ .begin_ h m) := by
  unfold Mu34Neutral.asked1 at h
  split at h
  case h_1 hh mm heq =>
    rw [Bool.and_eq_true] at h
    obtain ⟨a, rfl, _⟩ := nine_nat h.1
    obtain ⟨b, rfl, _⟩ := nine_nat h.2
    have e1 := (List.cons.inj heq).1
    have e2 := (List.cons.inj heq).2
    have e3 := (List.cons.inj e1).1
    have e4 := (List.cons.inj e1).2
    subst e2 e3 e4
    exact .inl ⟨rfl, a, b, rfl, rfl, rfl⟩
  all_goals first
    | (exfalso; exact Bool.false_ne_true h)
    | (rename_i heq
       have e1 := (List.cons.inj heq).1
       have e2 := (List.cons.inj heq).2
       have e3 := (List.cons.inj e1).1
       have e4 := (List.cons.inj e1).2
       subst e2 e3 e4
       exact .inr ⟨by decide, _, rfl, fun _ _ z => by cases z⟩)
theorem ok_answer (T : TopT K mg aW) (TC : ColT K CC CS CP) (TT : TrT K CT) (TK : ClT K CK) (D : Dn K mg "answer" s_answer ["tray", "call"]) {n : Nat} (hn : 3 ≤ n) (c_begin : C8.Cal P w K mg base 3 "begin" (spBegin CT CC CS CP) []) (c_collection_answer : C8.Cal P w K mg base n "collection_answer" (spCollAnswer CK CC CS CP) []) :
    C8.Cal P w K mg base (n + 1) "answer" (spAnswer CK CT CC CS CP) [] := by
  refine D.cal sc_answer (fun vs H Q E h => ?_) (fun f cdv A outer s H vs Q E hr h => ?_)
  · obtain ⟨I, t, u, o, M, c, rfl, _⟩ := h
    rfl
  · obtain ⟨I, t, u, o, M, c, rfl, hI, hT, hc, ask, k⟩ := h
    refine ⟨_, (pss_cons (ps_if (pt_cmpR op_eq (pe_fld (pv 1) rfl) (C8.pe_gc rfl T.BEGIN) (nomark _)) (pss_one (ps_ret (C8.pe_c c_begin hr hn rfl (pa_cons (pv 0) (pa_cons (pe_ix ix_list (pe_fld (pv 1) rfl) pe_int (fun _ _ => rfl)) (pa_cons (pe_ix ix_list (pe_fld (pv 1) rfl) pe_int (fun _ _ => rfl)) pa_nil)))))) pss_nil)
        (pss_cons (ps_if (pt_cmpR op_isN (pe_fld (pv 0) rfl) pe_non (nomark _)) (pss_one (ps_ret (pe_lst (pa_cons (C8.pe_gc rfl T.NO_COLLECTION) pa_nil)))) pss_nil)
        (pss_one (ps_ret (C8.pe_c c_collection_answer hr (Nat.le_refl _) rfl (pa_cons (pe_fld (pv 0) rfl) (pa_cons (pv 1) pa_nil))))))), ?_⟩
    obtain ⟨b, dxb, p, ns, xs, vn, vl, rfl, rfl, hb, ⟨an, rfl, han⟩, hvl⟩ := id hc
    have hb' := hI _ _ hb
    refine ⟨_, rfl, b, CK, dxb, _, _, rfl, hb', TK.cl, TK.n1, clF1 _ _ _, rfl, _, rfl, ?_⟩
    rcases asked_call ask with ⟨rfl, a1, a2, rfl, rfl, ec⟩ | ⟨p0, x, ec, hx⟩
    · rw [show decide (V.int 0 = V.int 0) = true from decide_eq_true rfl]
      have es : Mu34Neutral.step o ((0 :: [(a1 : Int), (a2 : Int)]) :: []) = Mu34.step o (.begin_ a1 a2) := by
        unfold Mu34Neutral.step
        rw [ec]
      rw [es] at k
      refine iteT ⟨_, rfl, _, rfl, b, CK, dxb, _, _, rfl, hb', TK.cl, TK.n2, clF2 _ _ _, an, _, 0, vN a1, rfl, rfl, SqL.of (hI _ _ han), atI_nat (j := 0) rfl, _, rfl, b, CK, dxb, _, _, rfl, hb', TK.cl, TK.n2, clF2 _ _ _, an, _, 1, vN a2, rfl, rfl, SqL.of (hI _ _ han), atI_nat (j := 1) rfl, I, t, o, M, a1, a2, rfl, hI, hT, k⟩
    · rw [show decide (V.int p = V.int 0) = false from decide_eq_false fun z => p0 (V.int.inj z)]
      have es : Mu34Neutral.step o ((p :: ns) :: xs) = Mu34.step o x := by
        unfold Mu34Neutral.step
        rw [ec]
      rw [es] at k
      refine iteF ?_
      obtain ⟨⟨dx, v, h1, h2⟩, tm, it, so⟩ := id hT
      refine ⟨_, rfl, t, CT, dx, _, _, rfl, h1, TT.cl, TT.n1, trF1 _, rfl, _, rfl, ?_⟩
      cases o with
      | none =>
        obtain ⟨rfl, rfl⟩ := h2
        have e9 : Mu34.step none x = (none, [-9]) := by
          cases x with
          | begin_ h m => exact absurd rfl (hx h m)
          | _ => rfl
        rw [e9] at k
        refine iteT ⟨by show 1 ≤ sizeLine; decide, fun l nl => ?_⟩
        have g1 := G.new (o := .lst [V.int (-9)]) hI nl
        exact k _ _ _ [] (Wr.ofG g1) (hT.g g1) ⟨l, rfl, upd_same⟩
      | some s =>
        obtain ⟨hC, wf⟩ := h2
        obtain ⟨ac, hac⟩ : ∃ ac, v = .ref ac := by
          obtain ⟨a, _, _, _, _, _, _, _, e, _⟩ := hC.ex
          exact ⟨a, e⟩
        subst hac
        refine iteF ?_
        refine ⟨_, rfl, t, CT, dx, _, _, rfl, h1, TT.cl, TT.n1, trF1 _, _, rfl, I, _, _, s, M, _, x, rfl, hI, hC, wf, hc, ask, ec, hx, fun s' I' H' y M' e1 w1 hC' ri => ?_⟩
        have ht' : H' t = some (.ins CT dx (trF (.ref ac))) := w1.f _ _ h1 tm
        refine k I' H' y M' (w1.weak' t) ?_ ri
        rw [e1]
        refine ⟨⟨dx, _, ht', hC', step_wf wf x e1⟩, fun z => ?_, w1.n t it (some_ne h1), hC'.so⟩
        rcases w1.m t z with z | z
        · exact tm z
        · rw [h1] at z
          cases z
end
end CR

namespace CR
open PySem PySem.Spec PyProof.Rows L2
section
variable {P : Program} {w : World} {K : PySem.W.Frag} {mg : Str → Option Value} {base : Heap} {aW CC CS CP CT CD CK : Addr}
abbrev s_answers : Stmt := top 119
abbrev N_answers : List Str := ["calls", "reader", "tray", "told", "numbers"]
theorem sc_answers : FnScope N_answers ["calls"] (defScope s_answers) := ⟨rfl, rfl, rfl, by decide +kernel, rfl, by decide +kernel, by decide +kernel⟩
/-- what is handed in, what is due -/
def spAns (K : PySem.W.Frag) : Sp := fun vs H Q _ => ∃ (a : Addr) (l : List Int), vs = [.ref a] ∧ SqL K H a (l.map V.int) ∧ l.length ≤ 6000 ∧ PyMu34.answers_asked l = true ∧ ∀ (H' : Hp) (p : Addr), H' p = some (.lst ((PyMu34.answers l).map V.int)) → Q (.ref p) H'
theorem calls_cons {f : Nat} {p : Int} {r : List Int} {cs : List (List (List Int))} (h : PyWide.calls f (p :: r) = some cs) : ∃ f' c t cs', PyWide.call (p :: r) = some (c, t) ∧ PyWide.calls f' t = some cs' ∧ cs = c :: cs' := by
  cases f with
  | zero => cases h
  | succ f =>
    have h : (match PyWide.call (p :: r) with
      | none => none
      | some (c, t) => match PyWide.calls f t with
        | none => none
        | some cs => some (c :: cs)) = some cs := h
    cases e : PyWide.call (p :: r) with
    | none =>
      rw [e] at h
      cases h
    | some ct =>
      obtain ⟨c, t⟩ := ct
      rw [e] at h
      cases e2 : PyWide.calls f t with
      | none =>
        simp only [e2] at h
        cases h
      | some cs' =>
        simp only [e2] at h
        exact ⟨f, c, t, cs', rfl, e2, (Option.some.inj h).symm⟩
theorem told_cons (a : List Int) (l : List (List Int)) : PyFlat.told (a :: l) = ((a.length : Int) :: a) ++ PyFlat.told l := rfl
theorem ok_answers (T : TopT K mg aW) (TC : ColT K CC CS CP) (TT : TrT K CT) (TK : ClT K CK) (TD : RdT K CD) {f : Addr} {fd : FuncData} (F : Fun K "answers" "answers" s_answers f fd) {n : Nat} (hn : 3 ≤ n) (m_Reader : C8.Mak P w K mg base 1 "Reader" CD (spInitReader CD) []) (m_Tray : C8.Mak P w K mg base 1 "Tray" CT (spInitTray CT) [])
    (c_has_more : C8.Cal P w K mg base 1 "has_more" (spHasMore K CD) []) (c_answer : C8.Cal P w K mg base n "answer" (spAnswer CK CT CC CS CP) []) (c_read_call : C8.Cal P w K mg base 3 "read_call" (spReadCall K CD CK) []) :
    FnOk P w K mg base CX0 (n + 1) f fd ["calls"] (spAns K) := by
  refine F.ok sc_answers (fun vs H Q E h => ?_) (fun cdv A outer s H vs Q E hr h => ?_)
  · obtain ⟨a, l, rfl, _⟩ := h
    rfl
  · obtain ⟨ac, l, rfl, hs, l6, ask, k⟩ := h
    have hr2 : Room 2 _ := hr.mono (by omega)
    refine ⟨_, (pss_cons (ps_set (i := 1) sc_answers.nd rfl (Or.inl rfl) (C8.pe_mk m_Reader hr2 (by decide) rfl (pa_cons (pv 0) pa_nil)))
        (pss_cons (ps_set (i := 2) sc_answers.nd rfl (Or.inl rfl) (pe_mk0 m_Tray hr2 (by decide) rfl))
        (pss_cons (ps_set (i := 3) sc_answers.nd rfl (Or.inl rfl) (pe_lst pa_nil))
        (pss_cons (ps_while PassesOwn.never (pt_val (C8.pe_c c_has_more hr2 (by decide) rfl (pa_cons (pv 1) pa_nil))) (pss_cons (ps_set (i := 4) sc_answers.nd rfl (Or.inl rfl) (C8.pe_c c_answer hr (Nat.le_refl _) rfl (pa_cons (pv 2) (pa_cons (C8.pe_c c_read_call hr hn rfl (pa_cons (pv 1) pa_nil)) pa_nil))))
        (pss_cons (ps_expr (pe_bm PySem.F.plainAttrs_list PySem.F.slot_list_append PySem.F.type_list_append mt_append (pv 3) (pa_cons (pe_callB call_len_seq (by rfl) T.b_len PySem.boot_len (pa_cons (pv 4) pa_nil)) pa_nil)))
        (pss_one (ps_expr (pe_bm PySem.F.plainAttrs_list PySem.F.slot_list_extend PySem.F.type_list_extend mt_extend (pv 3) (pa_cons (pv 4) pa_nil)))))))
        (pss_one (ps_ret (pv 3))))))), ?_⟩
    -- what is asked
    unfold PyMu34.answers_asked at ask
    cases ecs : PyMu34.calls l with
    | none =>
      rw [ecs] at ask
      cases ask
    | some cs0 =>
      rw [ecs] at ask
      have ask : (!cs0.isEmpty && cs0.all PyMu34.fits && PyFlat.atMost 60 cs0 && Mu34Neutral.asked cs0 && PyFlat.short 10000000 (PyMu34.answers l)) = true := ask
      rw [Bool.and_eq_true, Bool.and_eq_true] at ask
      obtain ⟨⟨_, askN⟩, askS⟩ := ask
      have hall : ∀ c ∈ cs0, Mu34Neutral.asked1 c = true := by
        unfold Mu34Neutral.asked at askN
        rw [Bool.and_eq_true, Bool.and_eq_true] at askN
        exact fun c hc => List.all_eq_true.mp askN.2.2 c hc
      have hshort : (PyMu34.answers l).length ≤ 10000000 := of_decide_eq_true askS
      have ean : PyMu34.answers l = PyFlat.told (PyFlat.played Mu34Neutral.step Mu34Neutral.start cs0) := by
        unfold PyMu34.answers
        rw [ecs]
      generalize hres : PyMu34.answers l = res at *
      have ecs : PyWide.calls l.length l = some cs0 := ecs
      -- reader, tray, told
      refine ⟨_, rfl, ?_⟩
      intro r dr nr ndr ner
      have e0 : Same (fun _ => none) H := fun b o e => by cases e
      refine ⟨r, dr, ac, rfl, upd_same, made_G (I := fun _ => none) e0 nr ndr fun H1 g1 hr1 => ⟨rfl, ?_⟩⟩
      intro t dt nt ndt net
      refine ⟨t, dt, rfl, upd_same, made_G (I := fun _ => none) g1.b nt ndt fun H2 g2 ht2 => ⟨rfl, ?_⟩⟩
      refine ⟨Nat.zero_le _, fun td ntd => ?_⟩
      have hr2' := g2.s _ _ hr1
      have s3 := same_new (o := .lst []) ntd
      have s03 : Same H (upd H2 td (.lst [])) := (g1.s.trans g2.s).trans s3
      have tH : H t = none := none_of g1.s nt
      have tdH : H td = none := none_of (g1.s.trans g2.s) ntd
      refine ⟨fun m σ H' => ∃ (I : Hp) (i : Nat) (o : Mu34.Abs) (M : List Addr) (y4 : Option V) (told : List Int) (cs : List (List (List Int))) (fu : Nat), m = l.length - i ∧ σ = [some (.ref ac), some (.ref r), some (.ref t), some (.ref td), y4] ∧ Same I H' ∧ Same H H' ∧ H' r = some (.ins CD dr (rdF ac i)) ∧ I r = none ∧ TrayR CT CC CS CP I H' t o M ∧ H' td = some (.lst (told.map V.int)) ∧ I td = none ∧ r ∉ M ∧ td ∉ M ∧ (∀ q ∈ M, H q = none) ∧
        PyWide.calls fu (l.drop i) = some cs ∧ (∀ c ∈ cs, Mu34Neutral.asked1 c = true) ∧ res = told ++ PyFlat.told (PyFlat.played Mu34Neutral.step o cs), ⟨l.length, fun _ => none, 0, none, [], none, [], cs0, l.length, rfl, rfl, (fun b o e => by cases e), s03, s3 _ _ hr2', rfl, ⟨⟨dt, .non, s3 _ _ ht2, rfl, rfl⟩, by simp, rfl, fun q hq => (List.not_mem_nil hq).elim⟩, upd_same, rfl, by simp, by simp, fun q hq => (List.not_mem_nil hq).elim, ecs, hall, ean⟩, ?_⟩
      rintro m σ H3 ⟨I, i, o, M, y4, told, cs, fu, rfl, rfl, hI, hH, hr3, Ir, hT, htd, Itd, rM, tdM, MH, ecs3, ask3, eres⟩
      have hs3 : SqL K H3 ac (l.map V.int) := hH.seq hs
      refine ⟨_, rfl, r, dr, ac, l, i, rfl, hr3, hs3, _, rfl, ?_⟩
      by_cases hi : i < l.length
      case neg =>
        rw [decide_eq_false hi]
        refine iteF ⟨_, rfl, k _ td ?_⟩
        rw [List.drop_eq_nil_of_le (by omega)] at ecs3
        have ecs3 : some [] = some cs := by
          cases fu <;> exact ecs3
        have ecs3 := Option.some.inj ecs3
        subst ecs3
        rw [htd, eres]
        show _ = some (HO.lst ((told ++ []).map V.int))
        rw [List.append_nil]
      case pos =>
        rw [decide_eq_true hi]
        rw [List.drop_eq_getElem_cons hi] at ecs3
        obtain ⟨fu', c, rest, cs', hc, hcs', rfl⟩ := calls_cons ecs3
        rw [← List.drop_eq_getElem_cons hi] at hc
        -- the three are not one
        obtain ⟨dt', vt, ht3, hin⟩ := id hT.ex
        have rt : r ≠ t := fun z => by
          rw [z, ht3] at hr3
          cases hr3
        have rtd : r ≠ td := fun z => by
          rw [z, htd] at hr3
          cases hr3
        have ttd : t ≠ td := fun z => by
          rw [z, htd] at ht3
          cases ht3
        refine iteT ⟨fun σ' H' => ∃ (I : Hp) (i' : Nat) (o : Mu34.Abs) (M : List Addr) (y4 : Option V) (told : List Int) (cs : List (List (List Int))) (fu : Nat), i < i' ∧ σ' = [some (.ref ac), some (.ref r), some (.ref t), some (.ref td), y4] ∧ Same I H' ∧ Same H H' ∧ H' r = some (.ins CD dr (rdF ac i')) ∧ I r = none ∧ TrayR CT CC CS CP I H' t o M ∧ H' td = some (.lst (told.map V.int)) ∧ I td = none ∧ r ∉ M ∧ td ∉ M ∧ (∀ q ∈ M, H q = none) ∧
          PyWide.calls fu (l.drop i') = some cs ∧ (∀ c ∈ cs, Mu34Neutral.asked1 c = true) ∧ res = told ++ PyFlat.told (PyFlat.played Mu34Neutral.step o cs), ?_, ?_⟩
        · rintro σ' H' ⟨I', i', o', M', y4', told', cs2, fu2, hii, h⟩
          exact ⟨l.length - i', by omega, I', i', o', M', y4', told', cs2, fu2, rfl, h⟩
        · refine ⟨_, rfl, _, rfl, I, r, dr, ac, l, i, c, rest, rfl, hI, Ir, hr3, hs3, l6, hc, fun I4 H4 v4 i4 w4 hr4 hs4 ed hii hcall => ?_⟩
          have htr : t ∉ [r] := by simpa using rt.symm
          have hMr : ∀ q ∈ M, q ∉ [r] := fun q hq z => rM (by rw [← List.mem_singleton.mp z]; exact hq)
          have hT4 := hT.wr w4 htr hMr
          have htd4 : H4 td = some (.lst (told.map V.int)) := w4.f _ _ htd (by simpa using rtd.symm)
          have Itd4 := w4.n td Itd (some_ne htd)
          have Ir4 := w4.n r Ir (some_ne hr3)
          have rH : H r = none := nr
          have hH4 : Same H H4 := fun b o e => w4.f b o (hH b o e) (by simpa using ne_of_none e rH)
          refine ⟨I4, t, v4, o, M, c, rfl, w4.b, hT4, hcall, ask3 c (List.mem_cons_self ..), fun I5 H5 x M5 w5 hT5 ri => ?_⟩
          obtain ⟨ax, rfl, hax⟩ := ri
          have rN : r ∉ t :: M := by
            simp only [List.mem_cons, not_or]
            exact ⟨rt, rM⟩
          have tdN : td ∉ t :: M := by
            simp only [List.mem_cons, not_or]
            exact ⟨ttd.symm, tdM⟩
          have hr5 := w5.f _ _ hr4 rN
          have htd5 := w5.f _ _ htd4 tdN
          have Ir5 := w5.n r Ir4 (some_ne hr4)
          have Itd5 := w5.n td Itd4 (some_ne htd4)
          have hH5 : Same H H5 := fun b o e => w5.f b o (hH4 b o e) (by
            simp only [List.mem_cons, not_or]
            exact ⟨ne_of_none e tH, fun z => some_ne e (MH b z)⟩)
          have M5H : ∀ q ∈ M5, H q = none := fun q hq => by
            rcases w5.m q (List.mem_cons_of_mem _ hq) with z | z
            · rcases List.mem_cons.mp z with z | z
              · rw [z]
                exact tH
              · exact MH q z
            · exact none_of hH4 z
          have notM5 : ∀ q, q ∉ t :: M → H4 q ≠ none → q ∉ M5 := fun q h1 h2 hq => by
            rcases w5.m q (List.mem_cons_of_mem _ hq) with z | z
            · exact h1 z
            · exact h2 z
          have rM5 := notM5 r rN (some_ne hr4)
          have tdM5 := notM5 td tdN (some_ne htd4)
          have hax5 := w5.b _ _ hax
          have axtd : ax ≠ td := fun z => by
            rw [z, Itd5] at hax
            cases hax
          -- how long it all is
          have eres2 : res = told ++ ((((Mu34Neutral.step o c).2.length : Int) :: (Mu34Neutral.step o c).2) ++ PyFlat.told (PyFlat.played Mu34Neutral.step (Mu34Neutral.step o c).1 cs')) := eres
          have hlen : told.length + (1 + (Mu34Neutral.step o c).2.length) ≤ 10000000 := by
            rw [eres2] at hshort
            simp only [List.length_append, List.length_cons] at hshort
            omega
          have big : ∀ z : Nat, z ≤ 10000000 → z ≤ sizeLine := fun z hz => Nat.le_trans hz (by decide)
          -- told.append(len(numbers))
          refine ⟨_, rfl, .inl ⟨rfl, _, SqL.of htd5⟩, _, rfl, ax, _, rfl, .inl (SqL.of hax5), td, _, _, rfl, rfl, htd5, ?_, ?_⟩
          · rw [List.length_map]
            exact Nat.lt_of_lt_of_le (show told.length < 10000001 by omega) (by decide)
          · have hax6 : upd H5 td (.lst (told.map V.int ++ [V.int ((((Mu34Neutral.step o c).2.map V.int).length : Nat) : Int)])) ax = some (.lst ((Mu34Neutral.step o c).2.map V.int)) := by
              rw [upd_ne axtd]
              exact hax5
            refine ⟨_, rfl, .inl ⟨rfl, _, SqL.of upd_same⟩, _, rfl, td, ax, _, _, rfl, rfl, upd_same, hax6, ?_, ?_⟩
            · refine big _ ?_
              simp only [List.length_append, List.length_map, List.length_cons, List.length_nil]
              omega
            · rw [upd_upd]
              have ttd5 : td ≠ t := ttd.symm
              have w6 : Wr I5 H5 I5 (upd H5 td (.lst (told.map V.int ++ [V.int ((((Mu34Neutral.step o c).2.map V.int).length : Nat) : Int)] ++ (Mu34Neutral.step o c).2.map V.int))) [td] [td] := Wr.mut w5.b (by simp) Itd5
              refine ⟨I5, i4, (Mu34Neutral.step o c).1, M5, _, told ++ (((Mu34Neutral.step o c).2.length : Int) :: (Mu34Neutral.step o c).2), cs', fu', hii, rfl, w6.b, fun b o e => w6.f b o (hH5 b o e) (by simpa using ne_of_none e tdH), w6.f _ _ hr5 (by simpa using rtd), Ir5, hT5.wr w6 (by simpa using ttd) (fun q hq z => tdM5 (by rw [← List.mem_singleton.mp z]; exact hq)), ?_, Itd5, rM5, tdM5, M5H, ?_, fun c hc => ask3 c (List.mem_cons_of_mem _ hc), ?_⟩
              · rw [upd_same, List.map_append, List.map_cons, List.length_map, List.append_assoc]
                rfl
              · rw [ed]
                exact hcs'
              · rw [eres2, List.append_assoc]
end
end CR

namespace CR
open PySem PySem.Spec PyProof.Rows L2
/-! ### the shapes of calls -/
theorem within_nat {z : Int} {n : Nat} (h : NeutralIO.within z 0 (n : Int) = true) : ∃ m : Nat, z = (m : Int) ∧ m ≤ n := by
  unfold NeutralIO.within at h
  rw [Bool.and_eq_true, decide_eq_true_eq, decide_eq_true_eq] at h
  exact ⟨z.toNat, by omega, by omega⟩
theorem list_nat {l : List Int} (h : ∀ z ∈ l, ∃ m : Nat, z = (m : Int)) : l = (Mu34Neutral.nats l).map fun n : Nat => (n : Int) := by
  unfold Mu34Neutral.nats
  rw [List.map_map]
  conv => lhs; rw [← List.map_id l]
  apply List.map_congr_left
  intro z hz
  obtain ⟨m, rfl⟩ := h z hz
  rfl
theorem ints_col {I : Hp} {v : V} {l : List Int} (h : IntsR I v l) (hn : ∀ z ∈ l, ∃ m : Nat, z = (m : Int)) : ColR I v (Mu34Neutral.nats l) := by
  obtain ⟨a, rfl, e⟩ := h
  refine ⟨a, rfl, ?_⟩
  rw [e]
  conv => lhs; rw [list_nat hn, List.map_map]
  rfl
structure PicOk (p : List (List Nat)) : Prop where
  l16 : p.length ≤ 16
  l5 : ∀ c ∈ p, c.length ≤ 5
theorem ints_pic {I : Hp} {v : V} {xs : List (List Int)} (h : IntssR I v xs) (hp : Mu34Neutral.picture xs = true) : PicR I v (xs.map Mu34Neutral.nats) ∧ PicOk (xs.map Mu34Neutral.nats) := by
  unfold Mu34Neutral.picture at hp
  rw [Bool.and_eq_true, decide_eq_true_eq, List.all_eq_true] at hp
  obtain ⟨hl, ha⟩ := hp
  have hx : ∀ l ∈ xs, l.length ≤ 5 ∧ ∀ z ∈ l, ∃ m : Nat, z = (m : Int) := fun l hl => by
    have := ha l hl
    rw [Bool.and_eq_true, decide_eq_true_eq, List.all_eq_true] at this
    exact ⟨this.1, fun z hz => by
      obtain ⟨m, e, _⟩ := within_nat (n := 9) (this.2 z hz)
      exact ⟨m, e⟩⟩
  obtain ⟨a, vs, rfl, e, h2⟩ := h
  refine ⟨⟨a, vs, rfl, e, ?_⟩, by rw [List.length_map]; exact hl, fun c hc => ?_⟩
  · have : ∀ {vs : List V} {xs : List (List Int)}, All2 (IntsR I) vs xs → (∀ l ∈ xs, ∀ z ∈ l, ∃ m : Nat, z = (m : Int)) → All2 (ColR I) vs (xs.map Mu34Neutral.nats) := by
      intro vs xs h2
      induction h2 with
      | nil => intro _; exact .nil
      | cons h t ih => intro hx; exact .cons (ints_col h (hx _ (List.mem_cons_self ..))) (ih fun l hl => hx l (List.mem_cons_of_mem _ hl))
    exact this h2 fun l hl => (hx l hl).2
  · rw [List.mem_map] at hc
    obtain ⟨l, hl, rfl⟩ := hc
    unfold Mu34Neutral.nats
    rw [List.length_map]
    exact (hx l hl).1
theorem ints_pieces {I : Hp} {v : V} {l : List Int} (h : IntsR I v l) (hp : Mu34Neutral.pieces l = true) : ColR I v (Mu34Neutral.nats l) ∧ (Mu34Neutral.nats l).length ≤ 5 := by
  unfold Mu34Neutral.pieces at hp
  rw [Bool.and_eq_true, decide_eq_true_eq, List.all_eq_true] at hp
  refine ⟨ints_col h fun z hz => ?_, by unfold Mu34Neutral.nats; rw [List.length_map]; exact hp.1⟩
  obtain ⟨m, e, _⟩ := within_nat (n := 100) (hp.2 z hz)
  exact ⟨m, e⟩
section
variable {K : PySem.W.Frag} {CK : Addr}
/-- the kind is another one -/
theorem xSkip (TK : ClT K CK) {H : Hp} {σ : L2.St} {b dx : Addr} {p c : Int} {vn vl : V} {i : Nat} {t u : TS} {D : Ends} (hb : H b = some (.ins CK dx (clF (.int p) vn vl))) (hσ : σ[i]? = some (some (.ref b))) (hpc : p ≠ c) (h : u D σ H) :
    tSeq (tIfS (tTest (tOp rEq (tFld K (tVar i) "kind") (tC (.int c)))) t tNext) u D σ H := by
  refine ⟨_, hσ, b, CK, dx, _, _, rfl, hb, TK.cl, TK.n1, clF1 _ _ _, rfl, _, rfl, ?_⟩
  rw [decide_eq_false fun z => hpc (V.int.inj z)]
  exact iteF h
theorem xTake (TK : ClT K CK) {H : Hp} {σ : L2.St} {b dx : Addr} {p c : Int} {vn vl : V} {i : Nat} {t u : TS} {D : Ends} (hb : H b = some (.ins CK dx (clF (.int p) vn vl))) (hσ : σ[i]? = some (some (.ref b))) (hpc : p = c) (h : t { D with nx := u D } σ H) :
    tSeq (tIfS (tTest (tOp rEq (tFld K (tVar i) "kind") (tC (.int c)))) t tNext) u D σ H := by
  refine ⟨_, hσ, b, CK, dx, _, _, rfl, hb, TK.cl, TK.n1, clF1 _ _ _, rfl, _, rfl, ?_⟩
  rw [decide_eq_true (show V.int p = V.int c by rw [hpc])]
  exact iteT h
end
end CR

/-! Rules that the layer lacks: min(data), max(whole numbers, default=d), min(whole numbers, default=d); and what the least of a ring's spellings is. -/
namespace CR
open PySem PySem.Spec PyProof.Rows L2
theorem vals_back' : ∀ {xs : List V} {us : List Value}, Vals xs us → ∀ {i : Nat} {u : Value}, us[i]? = some u → ∃ x, xs[i]? = some x ∧ RelV x u := fun {xs us} r {i u} e => by
  cases ex : xs[i]? with
  | none =>
    rw [r.none_of ex] at e
    cases e
  | some x =>
    obtain ⟨u', e1, r1⟩ := r.get ex
    rw [e] at e1
    have e1 := Option.some.inj e1
    subst e1
    exact ⟨x, rfl, r1⟩
theorem reads_nth {h : Heap} : ∀ {us : List Value} {ds : List PyData} {as : List Addr}, ReadsAll h us ds as → ∀ {i : Nat} {u : Value}, us[i]? = some u → ∃ d bs, ds[i]? = some d ∧ Reads h u d bs
  | _, _, _, .nil, i, u, e => by cases i <;> cases e
  | _, _, _, .cons r rs, 0, u, e => by
    have e := Option.some.inj e
    subst e
    exact ⟨_, _, rfl, r⟩
  | _, _, _, .cons r rs, i + 1, u, e => reads_nth rs (i := i) e
/-- min(xs), xs a list of data that are alike: the first of the least -/
def rMinD (K : PySem.W.Frag) : List V → Hp → VK → Prop := fun xs H Q => ∃ (a : Addr) (vs : List V) (d : PyData) (ds : List PyData), xs = [.ref a] ∧ SqL K H a vs ∧ DpAll K H vs (d :: ds) ∧ PySem.W.AlikeAll (d :: ds) ∧ PyData.depthAll (d :: ds) ≤ 60 ∧
  ∀ (i : Nat) (v : V), vs[i]? = some v → (d :: ds)[i]? = some (PySem.W.minD d ds) → Q v H
theorem cr_minD {X : Cx} (hc : X.calm = true) (hu : X.A.units + 65 < cLine) : L2.CallR X (.builtin "min") (rMinD X.K) := by
  intro pins s σ H xs us Q I r q
  obtain ⟨a, vs, d, ds, rfl, hs, hd, al, dp, q⟩ := q
  obtain rfl := Vals.ref1 r
  obtain ⟨its, rv, pl, hz⟩ := I.list hs
  obtain ⟨as, rs⟩ := Dp.readsAll I (d :: ds) vs its hd rv
  have rs' : ReadsAll s.heap its.toArray.toList (d :: ds) as := rs
  refine PySem.W.min_list_data (I.ok.hd hc) pl.isList rs' al (by omega) fun i v h' tk bs hi hr hk => ?_
  have hi : its[i]? = some v := by simpa using hi
  obtain ⟨x, ex, rx⟩ := vals_back' rv hi
  obtain ⟨z, cs, ez, rz⟩ := reads_nth rs hi
  have e : PySem.W.minD d ds = z := (PyProof.Rows.reads_det (fun b o e _ => hk b o e) rz hr).1
  exact ⟨x, H, I.kept hk, rx, q i x ex (by rw [ez, e])⟩
/-- max(xs, default=z), xs whole numbers -/
def maxOr (z : Int) : List Int → Int
  | [] => z
  | n :: r => r.foldl max n
def minOr (z : Int) : List Int → Int
  | [] => z
  | n :: r => r.foldl min n
def rBestDef (K : PySem.W.Frag) (f : Int → List Int → Int) : List V → List V → Hp → VK → Prop := fun vs zs H Q => ∃ (a : Addr) (ns : List Int) (z : Int), vs = [.ref a] ∧ zs = [.int z] ∧ SqL K H a (ns.map V.int) ∧ Q (.int (f z ns)) H
theorem dpAll_ints (K : PySem.W.Frag) (H : Hp) : ∀ ns : List Int, DpAll K H (ns.map V.int) (ns.map PyData.int)
  | [] => .nil
  | n :: ns => .cons (.int n) (dpAll_ints K H ns)
theorem alike_ints (ns : List Int) : PySem.W.AlikeAll (ns.map PyData.int) := by
  refine ⟨fun x hx y hy => ?_, fun x hx => ?_⟩
  · obtain ⟨n, _, rfl⟩ := List.mem_map.mp hx
    obtain ⟨m, _, rfl⟩ := List.mem_map.mp hy
    simp only [PySem.W.alike]
  · obtain ⟨n, _, rfl⟩ := List.mem_map.mp hx
    intro z
    cases z
theorem depth_ints (ns : List Int) : PyData.depthAll (ns.map PyData.int) ≤ 60 := Nat.le_trans (dep_all (n := 1) (f := PyData.int) (fun _ => by simp [PyData.depth]) ns) (by decide)
theorem map_cons_ints {ns : List Int} {y : PyData} {ys : List PyData} (e : ns.map PyData.int = y :: ys) : ∃ n r, ns = n :: r ∧ y = .int n ∧ ys = r.map PyData.int := by
  cases ns with
  | nil => cases e
  | cons n r => exact ⟨n, r, rfl, (List.cons.inj e).1.symm, (List.cons.inj e).2.symm⟩
theorem cr_maxDef {X : Cx} (hc : X.calm = true) (hu : X.A.units + 65 < cLine) : L2.CallRK X (.builtin "max") [Str.ofString "default"] (rBestDef X.K maxOr) := by
  intro pins s σ H vs zs us ws Q I r rz h
  obtain ⟨a, ns, z, rfl, rfl, hs, q⟩ := h
  obtain rfl := Vals.ref1 r
  obtain ⟨w1, rfl, t1, rfl⟩ := vals1 rz
  obtain ⟨its, rv, pl, hz⟩ := I.list hs
  obtain ⟨as, rs⟩ := Dp.readsAll I (ns.map PyData.int) _ its (dpAll_ints _ _ ns) rv
  have rs' : ReadsAll s.heap its.toArray.toList (ns.map PyData.int) as := rs
  have dd := depth_ints ns
  refine PySem.W.max_list_default (I.ok.hd hc) pl.isList rs' (alike_ints ns) (by omega) (fun e0 h' tk hk => ?_) fun y ys i v h' tk bs ey hi hr hk => ?_
  · have e0 := List.map_eq_nil_iff.mp e0
    subst e0
    exact ⟨.int z, H, I.kept hk, ⟨t1, rfl⟩, q⟩
  · obtain ⟨n, rr, rfl, rfl, rfl⟩ := map_cons_ints ey
    rw [PySem.W.maxD_ints] at hr
    cases hr with
    | int _ t => exact ⟨.int _, H, I.kept hk, ⟨t, rfl⟩, q⟩
theorem cr_minDef {X : Cx} (hc : X.calm = true) (hu : X.A.units + 65 < cLine) : L2.CallRK X (.builtin "min") [Str.ofString "default"] (rBestDef X.K minOr) := by
  intro pins s σ H vs zs us ws Q I r rz h
  obtain ⟨a, ns, z, rfl, rfl, hs, q⟩ := h
  obtain rfl := Vals.ref1 r
  obtain ⟨w1, rfl, t1, rfl⟩ := vals1 rz
  obtain ⟨its, rv, pl, hz⟩ := I.list hs
  obtain ⟨as, rs⟩ := Dp.readsAll I (ns.map PyData.int) _ its (dpAll_ints _ _ ns) rv
  have rs' : ReadsAll s.heap its.toArray.toList (ns.map PyData.int) as := rs
  have dd := depth_ints ns
  refine PySem.W.min_list_default (I.ok.hd hc) pl.isList rs' (alike_ints ns) (by omega) (fun e0 h' tk hk => ?_) fun y ys i v h' tk bs ey hi hr hk => ?_
  · have e0 := List.map_eq_nil_iff.mp e0
    subst e0
    exact ⟨.int z, H, I.kept hk, ⟨t1, rfl⟩, q⟩
  · obtain ⟨n, rr, rfl, rfl, rfl⟩ := map_cons_ints ey
    rw [PySem.W.minD_ints] at hr
    cases hr with
    | int _ t => exact ⟨.int _, H, I.kept hk, ⟨t, rfl⟩, q⟩
/-! ### the first of a ring's spellings -/
theorem ltd_nat (a b : Nat) : PySem.W.dataLt (dInt a) (dInt b) = decide (a < b) := by
  unfold dInt
  rw [PySem.W.dataLt_int]
  simp
theorem alike_nat (a b : Nat) : PySem.W.alike (dInt a) (dInt b) = true := by simp only [dInt, PySem.W.alike]
theorem alike_all {B : Type} {f : B → PyData} (h : ∀ a b, PySem.W.alike (f a) (f b) = true) : ∀ l r : List B, PySem.W.alikeAll (l.map f) (r.map f) = true
  | [], _ => by rw [List.map_nil, PySem.W.alikeAll]
  | _ :: _, [] => by rw [List.map_nil, List.map_cons, PySem.W.alikeAll]
  | a :: l, b :: r => by
    rw [List.map_cons, List.map_cons, PySem.W.alikeAll, h a b, alike_all h l r]
    rfl
theorem alike_col (a b : List Nat) : PySem.W.alike (dCol a) (dCol b) = true := by
  simp only [dCol, PySem.W.alike]
  exact alike_all alike_nat a b
theorem alike_pic (a b : List (List Nat)) : PySem.W.alike (dPic a) (dPic b) = true := by
  simp only [dPic, PySem.W.alike]
  exact alike_all alike_col a b
theorem lt_cols : ∀ a b : List Nat, a.length = b.length → PyProof.Rows.lexLt PyProof.Rows.itemOrd (PySem.W.keyToksAll (a.map dInt)) (PySem.W.keyToksAll (b.map dInt)) = Mu34.lower a b
  | [], [], _ => PyProof.Rows.lex_irrefl _
  | [], y :: b, h => by cases h
  | x :: a, [], h => by cases h
  | x :: a, y :: b, h => by
    have h' : a.length = b.length := Nat.succ.inj h
    rw [List.map_cons, List.map_cons]
    show _ = (decide (x < y) || (x == y && Mu34.lower a b))
    by_cases e : x = y
    · subst e
      rw [PySem.W.dataLt_all_yes (alike_nat x x) (by rw [dInt, eqv_int]; exact beq_self_eq_true x), lt_cols a b h', beq_self_eq_true, decide_eq_false (Nat.lt_irrefl x)]
      rfl
    · rw [PySem.W.dataLt_all_no (alike_nat x y) (by rw [dInt, dInt, eqv_int]; simpa using e), ltd_nat, show (x == y) = false by simpa using e, Bool.false_and, Bool.or_false]
theorem lt_col {a b : List Nat} (h : a.length = b.length) : PySem.W.dataLt (dCol a) (dCol b) = Mu34.lower a b := (PySem.W.dataLt_list _ _).trans (lt_cols a b h)
theorem lower_self : ∀ a : List Nat, Mu34.lower a a = false
  | [] => rfl
  | x :: a => by
    show (decide (x < x) || (x == x && Mu34.lower a a)) = false
    rw [lower_self a, decide_eq_false (Nat.lt_irrefl x), Bool.and_false]
    rfl
theorem before_self : ∀ a : List (List Nat), Mu34.before a a = false
  | [] => rfl
  | x :: a => by
    show (Mu34.lower x x || (x == x && Mu34.before a a)) = false
    rw [before_self a, lower_self, Bool.and_false]
    rfl
theorem lt_pics {h : Nat} : ∀ a b : List (List Nat), a.length = b.length → (∀ c ∈ a, c.length = h) → (∀ c ∈ b, c.length = h) → PyProof.Rows.lexLt PyProof.Rows.itemOrd (PySem.W.keyToksAll (a.map dCol)) (PySem.W.keyToksAll (b.map dCol)) = Mu34.before a b
  | [], [], _, _, _ => PyProof.Rows.lex_irrefl _
  | [], y :: b, h, _, _ => by cases h
  | x :: a, [], h, _, _ => by cases h
  | x :: a, y :: b, hl, ha, hb => by
    have hl : a.length = b.length := Nat.succ.inj hl
    have ih := lt_pics a b hl (fun c hc => ha c (List.mem_cons_of_mem _ hc)) (fun c hc => hb c (List.mem_cons_of_mem _ hc))
    have hxy : x.length = y.length := (ha x (List.mem_cons_self ..)).trans (hb y (List.mem_cons_self ..)).symm
    rw [List.map_cons, List.map_cons]
    show _ = (Mu34.lower x y || (x == y && Mu34.before a b))
    by_cases e : x = y
    · subst e
      rw [PySem.W.dataLt_all_yes (alike_col x x) (by rw [eqv_col]; exact beq_self_eq_true x), ih, beq_self_eq_true, lower_self]
      rfl
    · rw [PySem.W.dataLt_all_no (alike_col x y) (by rw [eqv_col]; exact beq_eq_false_iff_ne.mpr e), lt_col hxy, beq_eq_false_iff_ne.mpr e, Bool.false_and, Bool.or_false]
/-- a picture of n columns of h cells -/
def Sh (h n : Nat) (p : List (List Nat)) : Prop := p.length = n ∧ ∀ c ∈ p, c.length = h
theorem lt_pic {h n : Nat} {a b : List (List Nat)} (ha : Sh h n a) (hb : Sh h n b) : PySem.W.dataLt (dPic a) (dPic b) = Mu34.before a b := (PySem.W.dataLt_list _ _).trans (lt_pics a b (ha.1.trans hb.1.symm) ha.2 hb.2)
theorem sh_over {h n : Nat} {p : List (List Nat)} (s : Sh h n p) : Sh h n (Mu34.over p) := by
  unfold Mu34.over
  refine ⟨by rw [List.length_map, List.length_reverse]; exact s.1, fun c hc => ?_⟩
  rw [List.mem_map] at hc
  obtain ⟨d, hd, rfl⟩ := hc
  rw [List.length_reverse]
  exact s.2 d (List.mem_reverse.mp hd)
theorem sh_turns {h n : Nat} {p q : List (List Nat)} (s : Sh h n p) (hq : q ∈ Mu34.turns p) : Sh h n q := by
  unfold Mu34.turns at hq
  rw [List.mem_map] at hq
  obtain ⟨i, hi, rfl⟩ := hq
  have hi := List.mem_range.mp hi
  unfold Mu34.turn
  refine ⟨?_, fun c hc => ?_⟩
  · rw [List.length_append, List.length_drop, List.length_take]
    have := s.1
    omega
  · rcases List.mem_append.mp hc with hc | hc
    · exact s.2 c (List.mem_of_mem_drop hc)
    · exact s.2 c (List.mem_of_mem_take hc)
theorem sh_spell {h n : Nat} {p q : List (List Nat)} (s : Sh h n p) (hq : q ∈ Mu34.spellings p) : Sh h n q := by
  unfold Mu34.spellings at hq
  rcases List.mem_append.mp hq with hq | hq
  · exact sh_turns s hq
  · exact sh_turns (sh_over s) hq
def firstOf (p : List (List Nat)) (l : List (List (List Nat))) : List (List Nat) := l.foldl (fun m x => if Mu34.before x m = true then x else m) p
theorem first_sh {h n : Nat} : ∀ (l : List (List (List Nat))) {p : List (List Nat)}, Sh h n p → (∀ q ∈ l, Sh h n q) → Sh h n (firstOf p l) ∧ PySem.W.minD (dPic p) (l.map dPic) = dPic (firstOf p l)
  | [], p, s, _ => ⟨s, rfl⟩
  | q :: l, p, s, hl => by
    have sq := hl q (List.mem_cons_self ..)
    have e : (if PySem.W.dataLt (dPic q) (dPic p) = true then dPic q else dPic p) = dPic (if Mu34.before q p = true then q else p) := by
      rw [lt_pic sq s]
      split <;> rfl
    have ih := first_sh l (p := if Mu34.before q p = true then q else p) (by split; exact sq; exact s) fun x hx => hl x (List.mem_cons_of_mem _ hx)
    refine ⟨ih.1, ?_⟩
    rw [List.map_cons]
    show PySem.W.minD (if PySem.W.dataLt (dPic q) (dPic p) = true then dPic q else dPic p) (l.map dPic) = _
    rw [e]
    exact ih.2
theorem spell_cons {p : List (List Nat)} (h : 1 ≤ p.length) : ∃ l, Mu34.spellings p = p :: l := by
  unfold Mu34.spellings Mu34.turns
  obtain ⟨n, en⟩ : ∃ n, p.length = n + 1 := ⟨p.length - 1, by omega⟩
  rw [en, List.range_succ_eq_map, List.map_cons, List.cons_append]
  have e : Mu34.turn 0 p = p := by
    unfold Mu34.turn
    simp
  rw [e]
  exact ⟨_, rfl⟩
theorem told_first {p : List (List Nat)} {l : List (List (List Nat))} (e : Mu34.spellings p = p :: l) : Mu34.told p = firstOf p l := by
  unfold Mu34.told
  rw [e, List.foldl_cons, before_self, if_neg (by decide)]
  rfl
theorem pic_inj {a b : List (List Nat)} (e : dPic a = dPic b) : a = b := by
  have h : PyData.eqv (dPic a) (dPic b) = true := by
    rw [e, eqv_pic]
    exact beq_self_eq_true b
  rw [eqv_pic] at h
  exact eq_of_beq h
/-- min(the spellings of a ring) -/
theorem min_spell {K : PySem.W.Frag} {I H : Hp} (s : Same I H) {v : V} {p : List (List Nat)} {h : Nat} (hv : PicsR I v (Mu34.spellings p)) (h1 : 1 ≤ p.length) (hh : ∀ c ∈ p, c.length = h) {Q : VK} (k : ∀ x, PicR I x (Mu34.told p) → Q x H) : rMinD K [v] H Q := by
  obtain ⟨l, el⟩ := spell_cons h1
  have sp : Sh h p.length p := ⟨rfl, hh⟩
  have sl : ∀ q ∈ l, Sh h p.length q := fun q hq => sh_spell sp (by rw [el]; exact List.mem_cons_of_mem _ hq)
  have em := (first_sh l sp sl).2
  obtain ⟨a, vs, rfl, ha, hvs⟩ := hv
  rw [el] at hvs
  refine ⟨a, vs, dPic p, l.map dPic, rfl, SqL.of (s _ _ ha), dpAll_of (fun v c e => dp_pic s e) hvs, ⟨fun x hx y hy => ?_, fun x hx => ?_⟩, ?_, fun i x ex ei => ?_⟩
  · obtain ⟨x', _, rfl⟩ := List.mem_map.mp (show x ∈ (p :: l).map dPic from hx)
    obtain ⟨y', _, rfl⟩ := List.mem_map.mp (show y ∈ (p :: l).map dPic from hy)
    exact alike_pic x' y'
  · obtain ⟨x', _, rfl⟩ := List.mem_map.mp (show x ∈ (p :: l).map dPic from hx)
    intro z
    cases z
  · exact Nat.le_trans (dep_all (f := dPic) (n := 3) dep_pic (p :: l)) (by decide)
  · obtain ⟨q, eq, rq⟩ := hvs.get ex
    have ei : ((p :: l).map dPic)[i]? = some (PySem.W.minD (dPic p) (l.map dPic)) := ei
    rw [List.getElem?_map, eq, em] at ei
    have ei : dPic q = dPic (firstOf p l) := Option.some.inj ei
    rw [pic_inj ei] at rq
    refine k x ?_
    rw [told_first el]
    exact rq
end CR

namespace CR
open PySem PySem.Spec PyProof.Rows L2
structure TopG (K : PySem.W.Frag) (mg : Str → Option Value) (aW : Addr) : Prop extends TopT K mg aW where
  b_sorted : mg "sorted" = none
  b_min : mg "min" = none
  NOT_IN_ORDER : Cst mg "NOT_IN_ORDER" (.int (-7))
  NONE_BEFORE : Cst mg "NONE_BEFORE" (.int 0)
  NONE_BEHIND : Cst mg "NONE_BEHIND" (.int 100)
/-! ### pieces that are given to a seal -/
def isGiven (k : Nat) (c : Mu34.Piece) : Bool := match c.claim with
  | some x => x.1 == k
  | none => false
def ageOf (c : Mu34.Piece) : Nat := match c.claim with
  | some x => x.2
  | none => 0
def givenPs (s : Mu34.State) (k : Nat) : List Mu34.Piece := s.pieces.filter (isGiven k)
theorem claims_given (s : Mu34.State) (k : Nat) : Mu34.claims s k = (givenPs s k).map fun c => (c.year, ageOf c) := by
  unfold Mu34.claims givenPs
  induction s.pieces with
  | nil => rfl
  | cons c l ih =>
    rw [List.filterMap_cons, List.filter_cons, ih]
    cases h : c.claim with
    | none => simp [isGiven, h]
    | some x =>
      obtain ⟨i, a⟩ := x
      by_cases e : i = k
      · simp [isGiven, ageOf, h, e]
      · simp [isGiven, h, e]
/-- not in order with a year and an age, another one than the i-th -/
def badP (i y a : Nat) (c : Mu34.Piece) : Bool := c.id != i && !Mu34.ordered (y, a) (c.year, ageOf c)
theorem against_given (s : Mu34.State) (i k y a : Nat) : Mu34.against s i k y a = ((givenPs s k).filter (badP i y a)).map (·.id) := by
  unfold Mu34.against givenPs
  induction s.pieces with
  | nil => rfl
  | cons c l ih =>
    rw [List.filterMap_cons, List.filter_cons, ih]
    cases h : c.claim with
    | none => simp [isGiven, h]
    | some x =>
      obtain ⟨j, b⟩ := x
      by_cases e : j = k
      · by_cases e2 : c.id = i
        · simp [isGiven, badP, ageOf, h, e, e2]
        · cases e3 : Mu34.ordered (y, a) (c.year, b) <;> simp [isGiven, badP, ageOf, h, e, e2, e3]
      · simp [isGiven, h, e]
theorem take_filter {A : Type} (f : A → Bool) {l : List A} {i : Nat} {x : A} (h : l[i]? = some x) : (l.take (i + 1)).filter f = (l.take i).filter f ++ if f x = true then [x] else [] := by
  rw [List.take_add_one, h, List.filter_append]
  congr 1
  rw [Option.toList_some, List.filter_cons, List.filter_nil]
theorem isGiven_some {k : Nat} {c : Mu34.Piece} (h : isGiven k c = true) : ∃ x, c.claim = some x ∧ x.1 = k ∧ ageOf c = x.2 := by
  unfold isGiven at h
  unfold ageOf
  cases e : c.claim with
  | none =>
    rw [e] at h
    cases h
  | some x =>
    rw [e] at h
    exact ⟨x, rfl, by simpa using h, rfl⟩
theorem find_mem {cs : List Mu34.Piece} (nd : (cs.map (·.id)).Nodup) {c : Mu34.Piece} (h : c ∈ cs) : cs.find? (fun x => x.id == c.id) = some c := by
  induction cs with
  | nil => cases h
  | cons d l ih =>
    rw [List.map_cons, List.nodup_cons] at nd
    rw [List.find?_cons]
    rcases List.mem_cons.mp h with e | h
    · subst e
      rw [beq_self_eq_true]
    · have hn : ¬ d.id = c.id := fun e => nd.1 (by rw [e]; exact List.mem_map.mpr ⟨c, h, rfl⟩)
      rw [beq_eq_false_iff_ne.mpr hn]
      exact ih nd.2 h
section
variable {CC CS CP : Addr} {I H I' H' : Hp}
theorem PiecesAt.keys : ∀ {kvs : List (Key × V)} {cs : List Mu34.Piece} {ps : List Addr}, PiecesAt CP I H kvs cs ps → kvs.map (·.1) = (cs.map fun c => (c.id : Int)).map Sum.inl
  | _, _, _, .nil => rfl
  | _, _, _, .cons h1 h2 h3 t => by
    rw [List.map_cons, List.map_cons, List.map_cons, t.keys]
/-- a piece of the collection lies there -/
theorem PiecesAt.at_ {kvs : List (Key × V)} {cs : List Mu34.Piece} {ps : List Addr} (h : PiecesAt CP I H kvs cs ps) (nd : (cs.map (·.id)).Nodup) {c : Mu34.Piece} (hc : c ∈ cs) : ∃ b dx vp vg, b ∈ ps ∧ valV kvs (Sum.inl (c.id : Int)) = some (.ref b) ∧ H b = some (.ins CP dx (piF (vN c.year) vp vg)) ∧ PicR I vp c.pic ∧ GivR I vg c.claim := by
  have f := h.find c.id
  rw [find_mem nd hc] at f
  exact f.2.2
end
theorem sorted_same {ys ks : List Int} (h : ys.Perm ks) (a : ys.Pairwise (· ≤ ·)) (b : ks.Pairwise (· ≤ ·)) : ys = ks := List.Perm.eq_of_pairwise (fun _ _ _ _ h1 h2 => Int.le_antisymm h1 h2) a b h
section
variable {P : Program} {w : World} {K : PySem.W.Frag} {mg : Str → Option Value} {base : Heap} {aW CC CS CP : Addr}
/-! ### given_to -/
abbrev s_given_to : Stmt := top 10
abbrev N_given_to : List Str := ["collection", "seal_number", "found", "number", "given"]
theorem sc_given_to : FnScope N_given_to ["collection", "seal_number"] (defScope s_given_to) := ⟨rfl, rfl, rfl, by decide +kernel, rfl, by decide +kernel, by decide +kernel⟩
def spGivenTo (CC CS CP : Addr) : Sp := fun vs H Q _ => ∃ (I : Hp) (v : V) (s : Mu34.State) (M : List Addr) (n : Nat), vs = [v, vN n] ∧ Same I H ∧ CollR CC CS CP I H v s M ∧ Wf s ∧ Ret I H (fun J x => ColR J x ((givenPs s n).map (·.id))) Q
theorem ok_given_to (T : TopG K mg aW) (TC : ColT K CC CS CP) (D : Dn K mg "given_to" s_given_to ["collection", "seal_number"]) : C8.Cal P w K mg base 1 "given_to" (spGivenTo CC CS CP) [] := by
  refine D.cal sc_given_to (fun vs H Q E h => ?_) (fun f cdv A outer s H vs Q E hr h => ?_)
  · obtain ⟨I, v, s, M, n, rfl, _⟩ := h
    rfl
  · obtain ⟨I, v, s, M, n, rfl, hI, hC, wf, k⟩ := h
    obtain ⟨⟨a, dx, as, ap, svs, kvs, gs, ps, rfl, h1, h2, h3, h4, h5, rfl⟩, nd, no, so⟩ := id hC
    refine ⟨_, (pss_cons (ps_set (i := 2) sc_given_to.nd rfl (Or.inl rfl) (pe_lst pa_nil))
        (pss_cons (ps_for PassesOwn.never rfl (pi_list (pe_callB (call_sortedDI rfl) (by rfl) T.b_sorted (by decide +kernel) (pa_cons (pe_fld (pv 0) rfl) pa_nil))) (pg_name (i := 3) sc_given_to.nd rfl (Or.inl rfl)) (pss_cons (ps_set (i := 4) sc_given_to.nd rfl (Or.inl rfl) (pe_fld (pe_dget (hu_of hr) (pe_fld (pv 0) rfl) (pv 3) (fun _ _ => rfl)) rfl))
        (pss_one (ps_if (PW.pt (pw_and (pt_cmpR op_notN (pv 4) pe_non (nomark _)) (pw_and1 (pt_cmpR op_eq (pe_ix ix_list (pv 4) pe_int (fun _ _ => rfl)) (pv 1) (nomark _))))) (pss_one (ps_expr (pe_bm PySem.F.plainAttrs_list PySem.F.slot_list_append PySem.F.type_list_append mt_append (pv 2) (pa_cons (pv 3) pa_nil)))) pss_nil))))
        (pss_one (ps_ret (pv 2))))), ?_⟩
    have p6 := wf.p6
    refine ⟨Nat.zero_le _, fun o no' => ?_⟩
    have g0 : G I H I (upd H o (.lst [])) := G.newH hI no'
    refine ⟨_, rfl, a, CC, dx, _, _, rfl, g0.s _ _ h1, TC.cc, TC.c4, coF4, ap, kvs, s.pieces.map fun c => (c.id : Int), rfl, .inl (g0.s _ _ h3), h5.keys, by rw [List.length_map]; omega, fun ys p hp hs np => ?_⟩
    have ey : ys = s.pieces.map fun c => (c.id : Int) := sorted_same hp hs (by
      have := wf.po
      rw [List.pairwise_map] at this ⊢
      exact this.imp fun h => by omega)
    subst ey
    have em : (s.pieces.map fun c => (c.id : Int)).map V.int = s.pieces.map fun c => vN c.id := by
      rw [List.map_map]
      rfl
    rw [em]
    have g1 := g0.trans (G.new (o := .lst (s.pieces.map fun c => vN c.id)) g0.b np)
    have op : o ≠ p := fun z => by
      rw [← z, upd_same] at np
      cases np
    refine ⟨p, rfl, ⟨_, SqL.of upd_same⟩, for_it (walk_list (xs := s.pieces.map fun c => vN c.id)) (fun j σ H' => ∃ I' y3 y4, σ = [some (.ref a), some (vN n), some (.ref o), y3, y4] ∧ G I H I' H' ∧ Same (upd I p (.lst (s.pieces.map fun c => vN c.id))) I' ∧ I' o = none ∧ H' o = some (.lst (((s.pieces.take j).filter (isGiven n)).map fun c => vN c.id))) ?_ ?_ ?_ ?_⟩
    · exact ⟨_, none, none, rfl, g1, Same.refl _, by rw [upd_ne op]; exact none_of hI no', by rw [upd_ne op, upd_same]; rfl⟩
    · rintro j σ H' _ ⟨I', y3, y4, rfl, g2, u2, _⟩
      exact SqL.of (g2.b _ _ (u2 _ _ upd_same))
    · rintro j x σ H2 H2' hj ⟨I2, y3, y4, rfl, g2, u2, io2, ho2⟩ ⟨rfl, hx⟩
      obtain ⟨c, ec, rfl⟩ := map_get hx
      obtain ⟨b, dxb, vp, vg, bps, ev, hb, hvp, hvg⟩ := h5.at_ wf.pn (List.mem_of_getElem? ec)
      have tf := take_filter (isGiven n) ec
      have hl : ((s.pieces.take j).filter (isGiven n)).length ≤ 6 := Nat.le_trans (List.length_filter_le _ _) (by rw [List.length_take]; omega)
      refine ⟨_, rfl, a, CC, dx, _, _, rfl, g2.s _ _ h1, TC.cc, TC.c4, coF4, _, rfl, ap, _, rfl, (by rw [← ev]; exact DGet.k (k := Sum.inl (c.id : Int)) (g2.s _ _ h3)), b, CP, dxb, _, _, rfl, g2.s _ _ hb, TC.cp, TC.p3, piF3, ?_⟩
      refine ⟨_, rfl, rfl, _, rfl, ?_⟩
      rw [giv_non hvg]
      cases hcl : c.claim with
      | none =>
        have hn : isGiven n c = false := by simp [isGiven, hcl]
        rw [hn] at tf
        refine iteF (iteF ⟨I2, _, _, rfl, g2, u2, io2, ?_⟩)
        rw [ho2, tf]
        simp
      | some x =>
        rw [hcl] at hvg
        obtain ⟨ag, rfl, hag⟩ := hvg
        refine iteT ⟨_, rfl, ag, _, 0, vN x.1, rfl, rfl, SqL.of (g2.b _ _ (g2.u _ _ hag)), atI_nat (j := 0) rfl, _, rfl, rfl, _, rfl, ?_⟩
        rw [eq_int]
        have hn : isGiven n c = (x.1 == n) := by simp [isGiven, hcl]
        rw [hn] at tf
        refine ite2 (fun e => ?_) (fun e => ?_)
        · refine ⟨_, rfl, .inl ⟨rfl, _, SqL.of ho2⟩, _, rfl, o, _, _, rfl, rfl, ho2, sz_lt (by rw [List.length_map]; omega), ?_⟩
          refine ⟨I2, _, _, rfl, g2.mut no' io2, u2, io2, ?_⟩
          rw [upd_same, tf, if_pos e]
          simp
        · refine ⟨I2, _, _, rfl, g2, u2, io2, ?_⟩
          rw [ho2, tf, if_neg e]
          simp
    · rintro σ H2 ⟨I2, y3, y4, rfl, g2, u2, io2, ho2⟩
      rw [List.length_map, List.take_length] at ho2
      refine ⟨_, rfl, k _ _ _ (g2.pub no' ho2 hI) ⟨o, rfl, ?_⟩⟩
      rw [upd_same, List.map_map]
      rfl
/-! ### given_age, in_order -/
abbrev s_given_age : Stmt := top 11
abbrev N_given_age : List Str := ["piece"]
theorem sc_given_age : FnScope N_given_age ["piece"] (defScope s_given_age) := ⟨rfl, rfl, rfl, by decide +kernel, rfl, by decide +kernel, by decide +kernel⟩
abbrev s_in_order : Stmt := top 54
abbrev N_in_order : List Str := ["year", "age", "other_year", "other_age"]
theorem sc_in_order : FnScope N_in_order ["year", "age", "other_year", "other_age"] (defScope s_in_order) := ⟨rfl, rfl, rfl, by decide +kernel, rfl, by decide +kernel, by decide +kernel⟩
def spGivenAge (CP : Addr) : Sp := fun vs H Q _ => ∃ (I : Hp) (b dx : Addr) (y p g : V) (x : Nat × Nat), vs = [.ref b] ∧ Same I H ∧ H b = some (.ins CP dx (piF y p g)) ∧ GivR I g (some x) ∧ Q (vN x.2) H
theorem ok_given_age (TC : ColT K CC CS CP) (D : Dn K mg "given_age" s_given_age ["piece"]) : C8.Cal P w K mg base 1 "given_age" (spGivenAge CP) [] := by
  refine D.cal sc_given_age (fun vs H Q E h => ?_) (fun f cdv A outer s H vs Q E hr h => ?_)
  · obtain ⟨I, b, dx, y, p, g, x, rfl, _⟩ := h
    rfl
  · obtain ⟨I, b, dx, y, p, g, x, rfl, hI, hb, ⟨ag, rfl, hag⟩, k⟩ := h
    refine ⟨_, (pss_one (ps_ret (pe_ix ix_list (pe_fld (pv 0) rfl) pe_int (fun _ _ => rfl)))), ?_⟩
    exact ⟨_, rfl, b, CP, dx, _, _, rfl, hb, TC.cp, TC.p3, piF3, ag, _, 1, vN x.2, rfl, rfl, SqL.of (hI _ _ hag), atI_nat (j := 1) rfl, k⟩
def spInOrder : Sp := fun vs H Q _ => ∃ (y a z b : Nat), vs = [vN y, vN a, vN z, vN b] ∧ Q (.bl (Mu34.ordered (y, a) (z, b))) H
theorem ok_in_order (D : Dn K mg "in_order" s_in_order ["year", "age", "other_year", "other_age"]) : C8.Cal P w K mg base 1 "in_order" spInOrder [] := by
  refine D.cal sc_in_order (fun vs H Q E h => ?_) (fun f cdv A outer s H vs Q E hr h => ?_)
  · obtain ⟨y, a, z, b, rfl, _⟩ := h
    rfl
  · obtain ⟨y, a, z, b, rfl, k⟩ := h
    refine ⟨_, (pss_cons (ps_if (pt_cmpR op_lt (pv 0) (pv 2) (nomark _)) (pss_one (ps_ret (pe_cmpR op_le (pv 1) (pv 3) (nomark _)))) pss_nil)
        (pss_cons (ps_if (pt_cmpR op_lt (pv 2) (pv 0) (nomark _)) (pss_one (ps_ret (pe_cmpR op_le (pv 3) (pv 1) (nomark _)))) pss_nil)
        (pss_one (ps_ret pe_bl)))), ?_⟩
    refine ⟨_, rfl, _, rfl, _, _, rfl, rfl, _, rfl, ?_⟩
    have eo : Mu34.ordered (y, a) (z, b) = (!(decide (y < z) && decide (b < a)) && !(decide (z < y) && decide (a < b))) := rfl
    rw [eo] at k
    by_cases c1 : y < z
    · rw [decide_eq_true (show (y : Int) < (z : Int) by omega)]
      refine iteT ⟨_, rfl, _, rfl, _, _, rfl, rfl, ?_⟩
      rw [decide_eq_true c1, decide_eq_false (show ¬ z < y by omega), Bool.true_and, Bool.false_and, Bool.not_false, Bool.and_true] at k
      show Q (V.bl (decide ((a : Int) ≤ (b : Int)))) H
      rw [show decide ((a : Int) ≤ (b : Int)) = !decide (b < a) by
        by_cases e : b < a
        · rw [decide_eq_true e, decide_eq_false (by omega)]
          rfl
        · rw [decide_eq_false e, decide_eq_true (by omega)]
          rfl]
      exact k
    · rw [decide_eq_false (show ¬ (y : Int) < (z : Int) by omega)]
      refine iteF ⟨_, rfl, _, rfl, _, _, rfl, rfl, _, rfl, ?_⟩
      rw [decide_eq_false c1, Bool.false_and, Bool.not_false, Bool.true_and] at k
      by_cases c2 : z < y
      · rw [decide_eq_true (show (z : Int) < (y : Int) by omega)]
        refine iteT ⟨_, rfl, _, rfl, _, _, rfl, rfl, ?_⟩
        rw [decide_eq_true c2, Bool.true_and] at k
        show Q (V.bl (decide ((b : Int) ≤ (a : Int)))) H
        rw [show decide ((b : Int) ≤ (a : Int)) = !decide (a < b) by
          by_cases e : a < b
          · rw [decide_eq_true e, decide_eq_false (by omega)]
            rfl
          · rw [decide_eq_false e, decide_eq_true (by omega)]
            rfl]
        exact k
      · rw [decide_eq_false (show ¬ (z : Int) < (y : Int) by omega)]
        rw [decide_eq_false c2, Bool.false_and] at k
        exact iteF k
/-! ### out_of_order -/
abbrev s_out_of_order : Stmt := top 55
abbrev N_out_of_order : List Str := ["collection", "number", "seal_number", "age", "year", "found", "other_number", "other"]
theorem sc_out_of_order : FnScope N_out_of_order ["collection", "number", "seal_number", "age"] (defScope s_out_of_order) := ⟨rfl, rfl, rfl, by decide +kernel, rfl, by decide +kernel, by decide +kernel⟩
def spOut (CC CS CP : Addr) : Sp := fun vs H Q _ => ∃ (I : Hp) (v : V) (s : Mu34.State) (M : List Addr) (n m y : Nat) (c : Mu34.Piece), vs = [v, vN n, vN m, vN y] ∧ Same I H ∧ CollR CC CS CP I H v s M ∧ Wf s ∧ Mu34.find s n = some c ∧ Ret I H (fun J x => ColR J x (Mu34.against s n m c.year y)) Q
theorem ok_out_of_order (TC : ColT K CC CS CP) (D : Dn K mg "out_of_order" s_out_of_order ["collection", "number", "seal_number", "age"]) (c_given_to : C8.Cal P w K mg base 1 "given_to" (spGivenTo CC CS CP) []) (c_in_order : C8.Cal P w K mg base 1 "in_order" spInOrder []) (c_given_age : C8.Cal P w K mg base 1 "given_age" (spGivenAge CP) []) :
    C8.Cal P w K mg base 2 "out_of_order" (spOut CC CS CP) [] := by
  refine D.cal sc_out_of_order (fun vs H Q E h => ?_) (fun f cdv A outer s H vs Q E hr h => ?_)
  · obtain ⟨I, v, s, M, n, m, y, c, rfl, _⟩ := h
    rfl
  · obtain ⟨I, v, s, M, n, m, y, c, rfl, hI, hC, wf, hf, k⟩ := h
    obtain ⟨⟨a, dx, as, ap, svs, kvs, gs, ps, rfl, h1, h2, h3, h4, h5, rfl⟩, nd, no, so⟩ := id hC
    refine ⟨_, (pss_cons (ps_set (i := 4) sc_out_of_order.nd rfl (Or.inl rfl) (pe_fld (pe_dget (hu_of hr) (pe_fld (pv 0) rfl) (pv 1) (fun _ _ => rfl)) rfl))
        (pss_cons (ps_set (i := 5) sc_out_of_order.nd rfl (Or.inl rfl) (pe_lst pa_nil))
        (pss_cons (ps_for PassesOwn.never rfl (pi_list (C8.pe_c c_given_to hr (by decide) rfl (pa_cons (pv 0) (pa_cons (pv 2) pa_nil)))) (pg_name (i := 6) sc_out_of_order.nd rfl (Or.inl rfl)) (pss_cons (ps_set (i := 7) sc_out_of_order.nd rfl (Or.inl rfl) (pe_dget (hu_of hr) (pe_fld (pv 0) rfl) (pv 6) (fun _ _ => rfl)))
        (pss_one (ps_if (PW.pt (pw_and (pt_cmpR op_ne (pv 6) (pv 1) (nomark _)) (pw_and1 (pt_not (pt_val (C8.pe_c c_in_order hr (by decide) rfl (pa_cons (pv 4) (pa_cons (pv 3) (pa_cons (pe_fld (pv 7) rfl) (pa_cons (C8.pe_c c_given_age hr (by decide) rfl (pa_cons (pv 7) pa_nil)) pa_nil)))))))))) (pss_one (ps_expr (pe_bm PySem.F.plainAttrs_list PySem.F.slot_list_append PySem.F.type_list_append mt_append (pv 5) (pa_cons (pv 6) pa_nil)))) pss_nil))))
        (pss_one (ps_ret (pv 5)))))), ?_⟩
    have p6 := wf.p6
    obtain ⟨cm, ci⟩ := find_id hf
    obtain ⟨b, dxb, vp, vg, bps, ev, hb, hvp, hvg⟩ := h5.at_ wf.pn cm
    rw [ci] at ev
    refine ⟨_, rfl, a, CC, dx, _, _, rfl, h1, TC.cc, TC.c4, coF4, _, rfl, ap, _, rfl, (by rw [← ev]; exact DGet.k (k := Sum.inl (n : Int)) h3), b, CP, dxb, _, _, rfl, hb, TC.cp, TC.p1, piF1, ?_⟩
    refine ⟨Nat.zero_le _, fun o no' => ?_⟩
    have g0 : G I H I (upd H o (.lst [])) := G.newH hI no'
    refine ⟨_, rfl, _, rfl, I, _, s, _, m, rfl, g0.b, hC.g g0, wf, fun I1 H1 v1 g1 r1 => ?_⟩
    obtain ⟨p, rfl, hp⟩ := r1
    have g01 := g0.trans g1
    have io1 : I1 o = none := g1.still (none_of hI no') upd_same
    have ho1 : H1 o = some (.lst []) := g1.s _ _ upd_same
    refine ⟨p, rfl, ⟨_, SqL.of (g1.b _ _ hp)⟩, for_it (walk_list (xs := ((givenPs s m).map (·.id)).map vN)) (fun j σ H' => ∃ I' y6 y7, σ = [some (.ref a), some (vN n), some (vN m), some (vN y), some (vN c.year), some (.ref o), y6, y7] ∧ G I H I' H' ∧ Same I1 I' ∧ I' o = none ∧ H' o = some (.lst ((((givenPs s m).take j).filter (badP n c.year y)).map fun c => vN c.id))) ?_ ?_ ?_ ?_⟩
    · exact ⟨I1, none, none, rfl, g01, Same.refl _, io1, ho1⟩
    · rintro j σ H' _ ⟨I', y6, y7, rfl, g2, u2, _⟩
      exact SqL.of (g2.b _ _ (u2 _ _ hp))
    · rintro j x σ H2 H2' hj ⟨I2, y6, y7, rfl, g2, u2, io2, ho2⟩ ⟨rfl, hx⟩
      obtain ⟨i0, ei0, rfl⟩ := map_get hx
      obtain ⟨d, ed, rfl⟩ := map_get ei0
      have dm := List.mem_filter.mp (List.mem_of_getElem? ed)
      obtain ⟨z, ez, ez1, ez2⟩ := isGiven_some dm.2
      obtain ⟨b2, dx2, vp2, vg2, bps2, ev2, hb2, hvp2, hvg2⟩ := h5.at_ wf.pn dm.1
      have tf := take_filter (badP n c.year y) ed
      have hl : (((givenPs s m).take j).filter (badP n c.year y)).length ≤ 6 := by
        refine Nat.le_trans (List.length_filter_le _ _) (Nat.le_trans (by rw [List.length_take]; exact Nat.min_le_right _ _) (Nat.le_trans (List.length_filter_le _ _) p6))
      refine ⟨_, rfl, a, CC, dx, _, _, rfl, g2.s _ _ h1, TC.cc, TC.c4, coF4, _, rfl, ap, _, rfl, (by rw [← ev2]; exact DGet.k (k := Sum.inl (d.id : Int)) (g2.s _ _ h3)), ?_⟩
      refine ⟨_, rfl, _, rfl, rfl, _, rfl, ?_⟩
      rw [ne_int]
      have done : badP n c.year y d = false → ∃ I' y6 y7, [some (V.ref a), some (vN n), some (vN m), some (vN y), some (vN c.year), some (.ref o), some (vN d.id), some (.ref b2)] = [some (.ref a), some (vN n), some (vN m), some (vN y), some (vN c.year), some (.ref o), y6, y7] ∧ G I H I' H2' ∧ Same I1 I' ∧ I' o = none ∧ H2' o = some (.lst ((((givenPs s m).take (j + 1)).filter (badP n c.year y)).map fun c => vN c.id)) := fun e => by
        refine ⟨I2, _, _, rfl, g2, u2, io2, ?_⟩
        rw [ho2, tf, e]
        simp
      refine ite2 (fun e => ?_) (fun e => ?_)
      · refine ⟨_, rfl, _, rfl, _, rfl, b2, CP, dx2, _, _, rfl, g2.s _ _ hb2, TC.cp, TC.p1, piF1, _, rfl, I2, b2, dx2, _, _, vg2, z, rfl, g2.b, g2.s _ _ hb2, GivR.mo _ _ _ _ g2.u (by rw [← ez]; exact hvg2), c.year, y, d.year, z.2, rfl, _, rfl, ?_⟩
        have eb : badP n c.year y d = !Mu34.ordered (c.year, y) (d.year, z.2) := by
          unfold badP
          rw [e, ez2, Bool.true_and]
        refine ite2 (fun e2 => ?_) (fun e2 => ?_)
        · refine ⟨_, rfl, .inl ⟨rfl, _, SqL.of ho2⟩, _, rfl, o, _, _, rfl, rfl, ho2, sz_lt (by rw [List.length_map]; omega), ?_⟩
          refine ⟨I2, _, _, rfl, g2.mut no' io2, u2, io2, ?_⟩
          rw [upd_same, tf, if_pos (by rw [eb]; exact e2)]
          simp
        · exact done (by rw [eb]; simpa using e2)
      · refine iteF (done ?_)
        unfold badP
        rw [show (d.id != n) = false by simpa using e, Bool.false_and]
    · rintro σ H2 ⟨I2, y6, y7, rfl, g2, u2, io2, ho2⟩
      rw [List.length_map, List.length_map, List.take_length] at ho2
      refine ⟨_, rfl, k _ _ _ (g2.pub no' ho2 hI) ⟨o, rfl, ?_⟩⟩
      rw [upd_same, against_given, List.map_map]
      rfl
end
end CR

namespace CR
open PySem PySem.Spec PyProof.Rows L2
section
variable {P : Program} {w : World} {K : PySem.W.Frag} {mg : Str → Option Value} {base : Heap} {aW CC CS CP : Addr}
/-! ### possible_ages -/
abbrev s_possible_ages : Stmt := top 56
abbrev N_possible_ages : List Str := ["collection", "seal_number", "number", "picture", "found", "age", "ring"]
theorem sc_possible_ages : FnScope N_possible_ages ["collection", "seal_number", "number"] (defScope s_possible_ages) := ⟨rfl, rfl, rfl, by decide +kernel, rfl, by decide +kernel, by decide +kernel⟩
def mayBe (s : Mu34.State) (m : Nat) (q : List (List (List Nat))) (c : Mu34.Piece) (a : Nat) : Bool := !(Mu34.ways (q.getD a []) c.pic).isEmpty && (Mu34.against s c.id m c.year a).isEmpty
theorem ages_may (s : Mu34.State) (m : Nat) (q : List (List (List Nat))) (c : Mu34.Piece) : Mu34.ages s m q c = (List.range q.length).filter (mayBe s m q c) := rfl
theorem range_filter (f : Nat → Bool) (i : Nat) : (List.range (i + 1)).filter f = (List.range i).filter f ++ if f i = true then [i] else [] := by
  rw [List.range_succ, List.filter_append, List.filter_cons, List.filter_nil]
theorem range_filter_len (f : Nat → Bool) (i : Nat) : ((List.range i).filter f).length ≤ i := Nat.le_trans (List.length_filter_le _ _) (by rw [List.length_range]; exact Nat.le_refl _)
/-- a seal's rings -/
theorem Wf.rings {s : Mu34.State} (wf : Wf s) {q : List (List (List Nat))} (hq : q ∈ s.seals) {r : List (List Nat)} (hr : r ∈ q) : r.length ≤ 8 ∧ 1 ≤ r.length ∧ (∀ c ∈ r, c.length = s.height) ∧ ∀ x ∈ r, ∀ z ∈ x, z ≠ 9 := by
  have := ring_of ((wf.sq q hq).2.2 r hr)
  have m5 := wf.m5
  exact ⟨this.2.1, this.1, fun c hc => (this.2.2 c hc).1, fun x hx z hz => by
    have := (this.2.2 x hx).2 z hz
    omega⟩
def spPossible (CC CS CP : Addr) : Sp := fun vs H Q _ => ∃ (I : Hp) (v : V) (s : Mu34.State) (M : List Addr) (m n : Nat) (q : List (List (List Nat))) (c : Mu34.Piece), vs = [v, vN m, vN n] ∧ Same I H ∧ CollR CC CS CP I H v s M ∧ Wf s ∧ s.seals[m]? = some q ∧ Mu34.find s n = some c ∧ Ret I H (fun J x => ColR J x (Mu34.ages s m q c)) Q
theorem ok_possible_ages (T : TopG K mg aW) (TC : ColT K CC CS CP) (D : Dn K mg "possible_ages" s_possible_ages ["collection", "seal_number", "number"]) (c_agreements : C8.Cal P w K mg base 4 "agreements" spAgreements []) (c_out_of_order : C8.Cal P w K mg base 2 "out_of_order" (spOut CC CS CP) []) :
    C8.Cal P w K mg base 5 "possible_ages" (spPossible CC CS CP) [] := by
  refine D.cal sc_possible_ages (fun vs H Q E h => ?_) (fun f cdv A outer s H vs Q E hr h => ?_)
  · obtain ⟨I, v, s, M, m, n, q, c, rfl, _⟩ := h
    rfl
  · obtain ⟨I, v, s, M, m, n, q, c, rfl, hI, hC, wf, eq, hf, k⟩ := h
    obtain ⟨⟨a, dx, as, ap, svs, kvs, gs, ps, rfl, h1, h2, h3, h4, h5, rfl⟩, nd, no, so⟩ := id hC
    refine ⟨_, (pss_cons (ps_set (i := 3) sc_possible_ages.nd rfl (Or.inl rfl) (pe_fld (pe_dget (hu_of hr) (pe_fld (pv 0) rfl) (pv 2) (fun _ _ => rfl)) rfl))
        (pss_cons (ps_set (i := 4) sc_possible_ages.nd rfl (Or.inl rfl) (pe_lst pa_nil))
        (pss_cons (ps_for PassesOwn.never rfl (pi_enum (by rfl) T.b_enumerate (pa_cons (pe_fld (pe_ix ix_list (pe_fld (pv 0) rfl) (pv 1) (fun _ _ => rfl)) rfl) pa_nil)) (pg_tup rfl (pgs_cons (pg_name (i := 5) sc_possible_ages.nd rfl (Or.inl rfl)) (pgs_cons (pg_name (i := 6) sc_possible_ages.nd rfl (Or.inl rfl)) pgs_nil))) (pss_one (ps_if (PW.pt (pw_and (pt_truth (C8.pe_c c_agreements hr (by decide) rfl (pa_cons (pv 3) (pa_cons (pv 6) pa_nil))) (by intro _; rfl)) (pw_and1 (pt_not (pt_truth (C8.pe_c c_out_of_order hr (by decide) rfl (pa_cons (pv 0) (pa_cons (pv 2) (pa_cons (pv 1) (pa_cons (pv 5) pa_nil))))) (by intro _; rfl)))))) (pss_one (ps_expr (pe_bm PySem.F.plainAttrs_list PySem.F.slot_list_append PySem.F.type_list_append mt_append (pv 4) (pa_cons (pv 5) pa_nil)))) pss_nil)))
        (pss_one (ps_ret (pv 4)))))), ?_⟩
    obtain ⟨cm, ci⟩ := find_id hf
    obtain ⟨b, dxb, vp, vg, bps, ev, hb, hvp, hvg⟩ := h5.at_ wf.pn cm
    rw [ci] at ev
    have wq := wf.sq q (List.mem_of_getElem? eq)
    have wc := piece_of (wf.pc c cm).1
    have wh := wf.h3
    obtain ⟨sb, dxs, g, ws, esb, eg, hsb, hg, hw⟩ := h4.get eq
    have lw := hw.length
    refine ⟨_, rfl, a, CC, dx, _, _, rfl, h1, TC.cc, TC.c4, coF4, _, rfl, ap, _, rfl, (by rw [← ev]; exact DGet.k (k := Sum.inl (n : Int)) h3), b, CP, dxb, _, _, rfl, hb, TC.cp, TC.p2, piF2, ?_⟩
    refine ⟨Nat.zero_le _, fun o no' => ?_⟩
    have g0 : G I H I (upd H o (.lst [])) := G.newH hI no'
    refine ⟨_, rfl, a, CC, dx, _, _, rfl, g0.s _ _ h1, TC.cc, TC.c3, coF3, _, rfl, as, svs, (m : Int), .ref sb, rfl, rfl, SqL.of (g0.s _ _ h2), atI_nat esb, sb, CS, dxs, _, _, rfl, g0.b _ _ hsb, TC.cs, TC.s1, seF1, g, ws, rfl, SqL.of (g0.s _ _ hg), ?_⟩
    refine for_it (walk_enum (xs := ws)) (fun i σ H' => ∃ I' y5 y6, σ = [some (.ref a), some (vN m), some (vN n), some vp, some (.ref o), y5, y6] ∧ G I H I' H' ∧ I' o = none ∧ H' o = some (.lst (((List.range i).filter (mayBe s m q c)).map vN))) ?_ ?_ ?_ ?_
    · exact ⟨I, none, none, rfl, g0, none_of hI no', upd_same⟩
    · rintro i σ H' _ ⟨I', y5, y6, rfl, g1, _⟩
      exact SqL.of (g1.s _ _ hg)
    · rintro i x σ H1 H1' hi ⟨I1, y5, y6, rfl, g1, io1, ho1⟩ ⟨t, x1, x2, rfl, nt, rfl, ex1, ex2⟩
      have ex1 : vN i = x1 := Option.some.inj ex1
      subst ex1
      obtain ⟨r, er, rx⟩ := hw.get ex2
      have rb := wf.rings (List.mem_of_getElem? eq) (List.mem_of_getElem? er)
      have g2 := g1.trans (G.newH (o := .tup [vN i, x2]) g1.b nt)
      have ho2 : upd H1 t (.tup [vN i, x2]) o = some (.lst (((List.range i).filter (mayBe s m q c)).map vN)) := same_new nt _ _ ho1
      have tf := range_filter (mayBe s m q c) i
      have hl := range_filter_len (mayBe s m q c) i
      have em : mayBe s m q c i = (!(Mu34.ways r c.pic).isEmpty && (Mu34.against s n m c.year i).isEmpty) := by
        unfold mayBe
        rw [getD_of er, ci]
      refine ⟨t, _, rfl, SqT.of upd_same, rfl, _, _, rfl, _, _, rfl, rfl, ?_⟩
      refine ⟨_, rfl, _, rfl, I1, vp, x2, c.pic, r, rfl, g2.b, PicR.mo _ _ _ _ g1.u hvp, PicR.mo _ _ _ _ g1.u rx, by omega, by omega, by omega, (fun x hx => by have := (wc.2.2 x hx).1; omega), fun I3 H3 v3 g3 r3 => ?_⟩
      rw [agrs_ways rb.2.2.2] at r3
      obtain ⟨a3, vs3, rfl, ha3, hv3⟩ := r3
      have g13 := g2.trans g3
      have io3 := g3.still io1 ho2
      have ho3 := g3.s _ _ ho2
      refine ⟨_, .inl ⟨_, SqL.of (g3.b _ _ ha3), rfl⟩, ?_⟩
      cases hws : Mu34.ways r c.pic with
      | nil =>
        rw [hws] at hv3 em
        cases hv3
        refine iteF (iteF ⟨I3, _, _, rfl, g13, io3, ?_⟩)
        rw [ho3, tf, em]
        simp
      | cons w0 wr =>
        rw [hws] at hv3 em
        cases hv3
        refine iteT ⟨_, rfl, _, rfl, _, rfl, _, rfl, I3, _, s, _, n, m, i, c, rfl, g3.b, hC.g g13, wf, hf, fun I4 H4 v4 g4 r4 => ?_⟩
        obtain ⟨a4, rfl, ha4⟩ := r4
        have g14 := g13.trans g4
        have io4 := g4.still io3 ho3
        have ho4 := g4.s _ _ ho3
        refine ⟨_, .inl ⟨_, SqL.of (g4.b _ _ ha4), rfl⟩, ?_⟩
        cases hag : Mu34.against s n m c.year i with
        | nil =>
          rw [hag] at em
          refine iteT ⟨_, rfl, .inl ⟨rfl, _, SqL.of ho4⟩, _, rfl, o, _, _, rfl, rfl, ho4, sz_lt (by rw [List.length_map]; omega), ?_⟩
          refine ⟨I4, _, _, rfl, g14.mut no' io4, io4, ?_⟩
          rw [upd_same, tf, em]
          simp
        | cons z0 zr =>
          rw [hag] at em
          refine iteF ⟨I4, _, _, rfl, g14, io4, ?_⟩
          rw [ho4, tf, em]
          simp
    · rintro σ H1 ⟨I1, y5, y6, rfl, g1, io1, ho1⟩
      rw [lw] at ho1
      refine ⟨_, rfl, k _ _ _ (g1.pub no' ho1 hI) ⟨o, rfl, ?_⟩⟩
      rw [upd_same, ages_may]
/-! ### find_ages -/
abbrev s_find_ages : Stmt := top 57
abbrev N_find_ages : List Str := ["collection", "seal_number", "number", "found"]
theorem sc_find_ages : FnScope N_find_ages ["collection", "seal_number", "number"] (defScope s_find_ages) := ⟨rfl, rfl, rfl, by decide +kernel, rfl, by decide +kernel, by decide +kernel⟩
def spFindAges (CC CS CP : Addr) : Sp := fun vs H Q _ => ∃ (I : Hp) (v : V) (s : Mu34.State) (M : List Addr) (m n : Nat), vs = [v, vN m, vN n] ∧ Same I H ∧ CollR CC CS CP I H v s M ∧ Wf s ∧ RetS CC CS CP I H v M (Mu34.step (some s) (.ages m n)) Q
/-- how many, then they -/
theorem count_nums (l : List Nat) : ([V.int ((l.map vN).length : Int)] ++ l.map vN) = (Mu34.nums (l.length :: l)).map V.int := by
  unfold Mu34.nums
  rw [List.map_cons, List.map_cons, List.map_map, List.length_map]
  rfl
theorem ok_find_ages (T : TopG K mg aW) (TC : ColT K CC CS CP) (D : Dn K mg "find_ages" s_find_ages ["collection", "seal_number", "number"]) (c_has_seal : C8.Cal P w K mg base 1 "has_seal" (spHasSeal CC CS CP) []) (c_has_piece : C8.Cal P w K mg base 1 "has_piece" (spHasPiece CC CS CP) []) (c_possible_ages : C8.Cal P w K mg base 5 "possible_ages" (spPossible CC CS CP) []) :
    C8.Cal P w K mg base 6 "find_ages" (spFindAges CC CS CP) [] := by
  refine D.cal sc_find_ages (fun vs H Q E h => ?_) (fun f cdv A outer s H vs Q E hr h => ?_)
  · obtain ⟨I, v, s, M, m, n, rfl, _⟩ := h
    rfl
  · obtain ⟨I, v, s, M, m, n, rfl, hI, hC, wf, k⟩ := h
    refine ⟨_, (pss_cons (ps_if (pt_not (pt_val (C8.pe_c c_has_seal hr (by decide) rfl (pa_cons (pv 0) (pa_cons (pv 1) pa_nil))))) (pss_one (ps_ret (pe_lst (pa_cons (C8.pe_gc rfl T.NO_SEAL) pa_nil)))) pss_nil)
        (pss_cons (ps_if (pt_not (pt_val (C8.pe_c c_has_piece hr (by decide) rfl (pa_cons (pv 0) (pa_cons (pv 2) pa_nil))))) (pss_one (ps_ret (pe_lst (pa_cons (C8.pe_gc rfl T.NO_PIECE) pa_nil)))) pss_nil)
        (pss_cons (ps_set (i := 3) sc_find_ages.nd rfl (Or.inl rfl) (C8.pe_c c_possible_ages hr (by decide) rfl (pa_cons (pv 0) (pa_cons (pv 1) (pa_cons (pv 2) pa_nil)))))
        (pss_one (ps_ret (pe_op op_cat (pe_lst (pa_cons (pe_callB call_len_seq (by rfl) T.b_len PySem.boot_len (pa_cons (pv 3) pa_nil)) pa_nil)) (pv 3))))))), ?_⟩
    have es : Mu34.step (some s) (.ages m n) = (some s, match Mu34.sealOf s m, Mu34.find s n with
      | none, _ => [-2]
      | some _, none => [-3]
      | some q, some c => Mu34.nums ((Mu34.ages s m q c).length :: Mu34.ages s m q c)) := rfl
    rw [es] at k
    refine ⟨_, rfl, _, rfl, I, _, s, _, m, rfl, hI, hC, _, rfl, ?_⟩
    by_cases hn : m < s.seals.length
    case neg =>
      rw [show Mu34.sealOf s m = none from List.getElem?_eq_none (by omega)] at k
      rw [decide_eq_false hn]
      refine iteT ⟨by show 1 ≤ sizeLine; decide, fun l nl => ?_⟩
      exact k.list hC (G.refl hI) nl
    case pos =>
      obtain ⟨q, eq⟩ : ∃ q, s.seals[m]? = some q := ⟨_, List.getElem?_eq_getElem hn⟩
      rw [show Mu34.sealOf s m = some q from eq] at k
      rw [decide_eq_true hn]
      refine iteF ?_
      refine ⟨_, rfl, _, rfl, I, _, s, _, n, rfl, hI, hC, _, rfl, ?_⟩
      cases hf : Mu34.find s n with
      | none =>
        rw [hf] at k
        refine iteT ⟨by show 1 ≤ sizeLine; decide, fun l nl => ?_⟩
        exact k.list hC (G.refl hI) nl
      | some c =>
        rw [hf] at k
        have k : RetS CC CS CP I H v M (some s, Mu34.nums ((Mu34.ages s m q c).length :: Mu34.ages s m q c)) Q := k
        refine iteF ⟨_, rfl, _, rfl, _, rfl, I, _, s, _, m, n, q, c, rfl, hI, hC, wf, eq, hf, fun I1 H1 v1 g1 r1 => ?_⟩
        obtain ⟨o, rfl, ho⟩ := r1
        have hl : (Mu34.ages s m q c).length ≤ 4 := by
          rw [ages_may]
          exact Nat.le_trans (range_filter_len _ _) (wf.sq q (List.mem_of_getElem? eq)).2.1
        refine ⟨_, rfl, o, _, rfl, .inl (SqL.of (g1.b _ _ ho)), by show 1 ≤ sizeLine; decide, fun p1 n1 => ?_⟩
        have g2 := G.newH (o := .lst [V.int ((((Mu34.ages s m q c).map vN).length : Nat) : Int)]) g1.b n1
        refine ⟨_, rfl, p1, o, _, _, rfl, rfl, upd_same, g2.s _ _ (g1.b _ _ ho), sz_le (by rw [List.length_map]; show 1 + _ ≤ _; omega), fun p2 n2 => ?_⟩
        rw [count_nums]
        exact k.list hC (g1.trans g2) n2
/-! ### find_seals -/
abbrev s_find_seals : Stmt := top 58
abbrev N_find_seals : List Str := ["collection", "number", "found", "seal_number"]
theorem sc_find_seals : FnScope N_find_seals ["collection", "number"] (defScope s_find_seals) := ⟨rfl, rfl, rfl, by decide +kernel, rfl, by decide +kernel, by decide +kernel⟩
def spFindSeals (CC CS CP : Addr) : Sp := fun vs H Q _ => ∃ (I : Hp) (v : V) (s : Mu34.State) (M : List Addr) (n : Nat), vs = [v, vN n] ∧ Same I H ∧ CollR CC CS CP I H v s M ∧ Wf s ∧ RetS CC CS CP I H v M (Mu34.step (some s) (.which n)) Q
theorem ok_find_seals (T : TopG K mg aW) (TC : ColT K CC CS CP) (D : Dn K mg "find_seals" s_find_seals ["collection", "number"]) (c_has_piece : C8.Cal P w K mg base 1 "has_piece" (spHasPiece CC CS CP) []) (c_possible_ages : C8.Cal P w K mg base 5 "possible_ages" (spPossible CC CS CP) []) :
    C8.Cal P w K mg base 6 "find_seals" (spFindSeals CC CS CP) [] := by
  refine D.cal sc_find_seals (fun vs H Q E h => ?_) (fun f cdv A outer s H vs Q E hr h => ?_)
  · obtain ⟨I, v, s, M, n, rfl, _⟩ := h
    rfl
  · obtain ⟨I, v, s, M, n, rfl, hI, hC, wf, k⟩ := h
    obtain ⟨⟨a, dx, as, ap, svs, kvs, gs, ps, rfl, h1, h2, h3, h4, h5, rfl⟩, nd, no, so⟩ := id hC
    refine ⟨_, (pss_cons (ps_if (pt_not (pt_val (C8.pe_c c_has_piece hr (by decide) rfl (pa_cons (pv 0) (pa_cons (pv 1) pa_nil))))) (pss_one (ps_ret (pe_lst (pa_cons (C8.pe_gc rfl T.NO_PIECE) pa_nil)))) pss_nil)
        (pss_cons (ps_set (i := 2) sc_find_seals.nd rfl (Or.inl rfl) (pe_lst pa_nil))
        (pss_cons (ps_for PassesOwn.never rfl (pi_range1 (by rfl) T.b_range (pa_cons (pe_callB call_len_seq (by rfl) T.b_len PySem.boot_len (pa_cons (pe_fld (pv 0) rfl) pa_nil)) pa_nil)) (pg_name (i := 3) sc_find_seals.nd rfl (Or.inl rfl)) (pss_one (ps_if (pt_truth (C8.pe_c c_possible_ages hr (by decide) rfl (pa_cons (pv 0) (pa_cons (pv 3) (pa_cons (pv 1) pa_nil)))) (by intro _; rfl)) (pss_one (ps_expr (pe_bm PySem.F.plainAttrs_list PySem.F.slot_list_append PySem.F.type_list_append mt_append (pv 2) (pa_cons (pv 3) pa_nil)))) pss_nil)))
        (pss_one (ps_ret (pe_op op_cat (pe_lst (pa_cons (pe_callB call_len_seq (by rfl) T.b_len PySem.boot_len (pa_cons (pv 2) pa_nil)) pa_nil)) (pv 2))))))), ?_⟩
    have ls := h4.len.1
    have l4 := wf.s4
    refine ⟨_, rfl, _, rfl, I, _, s, _, n, rfl, hI, hC, _, rfl, ?_⟩
    cases hf : Mu34.find s n with
    | none =>
      have es : Mu34.step (some s) (.which n) = (some s, [-3]) := by
        show (some s, match Mu34.find s n with | none => _ | some c => _) = _
        rw [hf]
      rw [es] at k
      refine iteT ⟨by show 1 ≤ sizeLine; decide, fun l nl => ?_⟩
      exact k.list hC (G.refl hI) nl
    | some c =>
      obtain ⟨W, hW⟩ : ∃ W : Nat → Bool, W = fun k => !(Mu34.ages s k (s.seals.getD k []) c).isEmpty := ⟨_, rfl⟩
      have es : Mu34.step (some s) (.which n) = (some s, Mu34.nums (((List.range s.seals.length).filter W).length :: (List.range s.seals.length).filter W)) := by
        show (some s, match Mu34.find s n with | none => _ | some c => _) = _
        rw [hf, hW]
      rw [es] at k
      refine iteF ⟨Nat.zero_le _, fun o no' => ?_⟩
      have g0 : G I H I (upd H o (.lst [])) := G.newH hI no'
      refine ⟨_, rfl, a, CC, dx, _, _, rfl, g0.s _ _ h1, TC.cc, TC.c3, coF3, as, svs, rfl, .inl (SqL.of (g0.s _ _ h2)), (svs.length : Int), rfl, by omega, by omega, for_it walk_rg (fun j σ H' => ∃ I' y3, σ = [some (.ref a), some (vN n), some (.ref o), y3] ∧ G I H I' H' ∧ I' o = none ∧ H' o = some (.lst (((List.range j).filter W).map vN))) ?_ ?_ ?_ ?_⟩
      · exact ⟨I, none, rfl, g0, none_of hI no', upd_same⟩
      · rintro j σ H' _ _
        trivial
      · rintro j x σ H1 H1' hj ⟨I1, y3, rfl, g1, io1, ho1⟩ ⟨rfl, rfl⟩
        have hj2 : j < s.seals.length := by
          rw [← ls]
          simpa using hj
        obtain ⟨q, eq⟩ : ∃ q, s.seals[j]? = some q := ⟨_, List.getElem?_eq_getElem hj2⟩
        have tf := range_filter W j
        have hl := range_filter_len W j
        have eW : W j = !(Mu34.ages s j q c).isEmpty := by
          rw [hW]
          show (!(Mu34.ages s j (s.seals.getD j []) c).isEmpty) = _
          rw [getD_of eq]
        refine ⟨_, rfl, _, rfl, _, rfl, I1, _, s, _, j, n, q, c, rfl, g1.b, hC.g g1, wf, eq, hf, fun I2 H2 v2 g2 r2 => ?_⟩
        obtain ⟨b, rfl, hb⟩ := r2
        have io2 := g2.still io1 ho1
        have ho2 := g2.s _ _ ho1
        refine ⟨_, .inl ⟨_, SqL.of (g2.b _ _ hb), rfl⟩, ?_⟩
        cases hag : Mu34.ages s j q c with
        | nil =>
          rw [hag] at eW
          refine iteF ⟨I2, _, rfl, g1.trans g2, io2, ?_⟩
          rw [ho2, tf, eW]
          simp
        | cons z0 zr =>
          rw [hag] at eW
          refine iteT ⟨_, rfl, .inl ⟨rfl, _, SqL.of ho2⟩, _, rfl, o, _, _, rfl, rfl, ho2, sz_lt (by rw [List.length_map]; omega), ?_⟩
          refine ⟨I2, _, rfl, (g1.trans g2).mut no' io2, io2, ?_⟩
          rw [upd_same, tf, eW]
          simp
      · rintro σ H1 ⟨I1, y3, rfl, g1, io1, ho1⟩
        rw [Int.toNat_natCast, ls] at ho1
        have hl := range_filter_len W s.seals.length
        refine ⟨_, rfl, o, _, rfl, .inl (SqL.of ho1), by show 1 ≤ sizeLine; decide, fun p1 n1 => ?_⟩
        have g2 := G.newH (o := .lst [V.int (((((List.range s.seals.length).filter W).map vN).length : Nat) : Int)]) g1.b n1
        refine ⟨_, rfl, p1, o, _, _, rfl, rfl, upd_same, g2.s _ _ ho1, sz_le (by rw [List.length_map]; show 1 + _ ≤ _; omega), fun p2 n2 => ?_⟩
        rw [count_nums]
        exact k.list hC (g1.trans g2) n2
end
end CR

namespace CR
open PySem PySem.Spec PyProof.Rows L2
section
variable {P : Program} {w : World} {K : PySem.W.Frag} {mg : Str → Option Value} {base : Heap} {aW CC CS CP : Addr}
/-- a piece is given to another age, or to none any more -/
theorem give_ok {I H I1 H1 : Hp} {a dx as ap b dxb : Addr} {svs : List V} {kvs : List (Key × V)} {gs ps : List Addr} {s : Mu34.State} {c : Mu34.Piece} {vp vg : V} {cl : Option (Nat × Nat)} (h1 : H a = some (.ins CC dx (coF s.height s.signs as ap s.next))) (h2 : H as = some (.lst svs)) (h3 : H ap = some (.dK kvs)) (h4 : SealsAt CS I H svs s.seals gs) (h5 : PiecesAt CP I H kvs s.pieces ps)
    (hC : CollR CC CS CP I H (.ref a) s (a :: as :: ap :: (gs ++ ps))) (wf : Wf s) (bps : b ∈ ps) (ev : valV kvs (Sum.inl (c.id : Int)) = some (.ref b)) (hvp : PicR I vp c.pic) (g : G I H I1 H1) (hg : GivR I1 vg cl) :
    Wr I H I1 (upd H1 b (.ins CP dxb (piF (vN c.year) vp vg))) (a :: as :: ap :: (gs ++ ps)) (a :: as :: ap :: (gs ++ ps)) ∧ CollR CC CS CP I1 (upd H1 b (.ins CP dxb (piF (vN c.year) vp vg))) (.ref a) (Mu34.put s { c with claim := cl }) (a :: as :: ap :: (gs ++ ps)) := by
  have nd := hC.nd
  have hC1 := hC.g g
  have bM : b ∈ a :: as :: ap :: (gs ++ ps) := by simp [bps]
  have w1 : Wr I H I1 (upd H1 b (.ins CP dxb (piF (vN c.year) vp vg))) (a :: as :: ap :: (gs ++ ps)) (a :: as :: ap :: (gs ++ ps)) := (Wr.ofG g).trans (Wr.mut g.b bM (hC1.no b bM))
  have nd' := nd
  rw [List.nodup_cons, List.nodup_cons, List.nodup_cons, List.nodup_append] at nd'
  have nb : b ≠ a ∧ b ≠ as ∧ b ≠ ap ∧ b ∉ gs := ⟨fun z => nd'.1 (by rw [← z]; simp [bps]), fun z => nd'.2.1 (by rw [← z]; simp [bps]), fun z => nd'.2.2.1 (by rw [← z]; simp [bps]), fun z => nd'.2.2.2.2.2 b z b bps rfl⟩
  have key : ∀ q, q ≠ b → ∀ o, H q = some o → upd H1 b (.ins CP dxb (piF (vN c.year) vp vg)) q = some o := fun q hq o e => by
    rw [upd_ne hq]
    exact g.s _ _ e
  refine ⟨w1, ⟨⟨a, dx, as, ap, svs, kvs, gs, ps, rfl, key a nb.1.symm _ h1, key as nb.2.1.symm _ h2, key ap nb.2.2.1.symm _ h3, ?_, ?_, rfl⟩, nd, hC1.no, fun m hm => w1.d m (hC.so m hm)⟩⟩
  · exact h4.frame g.u fun q hq o e => key q (fun z => nb.2.2.2 (by rw [← z]; exact hq)) o e
  · exact PiecesAt.put g.u (c' := { c with claim := cl }) rfl upd_same (PicR.mo _ _ _ _ g.u hvp) hg h5 ev (fun p _ hn o e => key p hn o e) wf.pn nd'.2.2.2.2.1
/-! ### claim_refusal -/
abbrev s_claim_refusal : Stmt := top 59
abbrev N_claim_refusal : List Str := ["collection", "number", "seal_number", "age"]
theorem sc_claim_refusal : FnScope N_claim_refusal ["collection", "number", "seal_number", "age"] (defScope s_claim_refusal) := ⟨rfl, rfl, rfl, by decide +kernel, rfl, by decide +kernel, by decide +kernel⟩
def claimRef (s : Mu34.State) (n m y : Nat) : Option Int := match Mu34.find s n, Mu34.sealOf s m with
  | none, _ => some (-3)
  | some _, none => some (-2)
  | some c, some q => if q.length ≤ y then some (-1) else if c.claim.isSome = true then some (-8) else none
def spClaimRef (CC CS CP : Addr) : Sp := fun vs H Q _ => ∃ (I : Hp) (v : V) (s : Mu34.State) (M : List Addr) (n m y : Nat), vs = [v, vN n, vN m, vN y] ∧ Same I H ∧ CollR CC CS CP I H v s M ∧ Wf s ∧ Q (optV (claimRef s n m y)) H
theorem ok_claim_refusal (T : TopG K mg aW) (TC : ColT K CC CS CP) (D : Dn K mg "claim_refusal" s_claim_refusal ["collection", "number", "seal_number", "age"]) (c_has_piece : C8.Cal P w K mg base 1 "has_piece" (spHasPiece CC CS CP) []) (c_has_seal : C8.Cal P w K mg base 1 "has_seal" (spHasSeal CC CS CP) []) :
    C8.Cal P w K mg base 2 "claim_refusal" (spClaimRef CC CS CP) [] := by
  refine D.cal sc_claim_refusal (fun vs H Q E h => ?_) (fun f cdv A outer s H vs Q E hr h => ?_)
  · obtain ⟨I, v, s, M, n, m, y, rfl, _⟩ := h
    rfl
  · obtain ⟨I, v, s, M, n, m, y, rfl, hI, hC, wf, k⟩ := h
    obtain ⟨⟨a, dx, as, ap, svs, kvs, gs, ps, rfl, h1, h2, h3, h4, h5, rfl⟩, nd, no, so⟩ := id hC
    refine ⟨_, (pss_cons (ps_if (pt_not (pt_val (C8.pe_c c_has_piece hr (by decide) rfl (pa_cons (pv 0) (pa_cons (pv 1) pa_nil))))) (pss_one (ps_ret (C8.pe_gc rfl T.NO_PIECE))) pss_nil)
        (pss_cons (ps_if (pt_not (pt_val (C8.pe_c c_has_seal hr (by decide) rfl (pa_cons (pv 0) (pa_cons (pv 2) pa_nil))))) (pss_one (ps_ret (C8.pe_gc rfl T.NO_SEAL))) pss_nil)
        (pss_cons (ps_if (pt_cmpR op_ge (pv 3) (pe_callB call_len_seq (by rfl) T.b_len PySem.boot_len (pa_cons (pe_fld (pe_ix ix_list (pe_fld (pv 0) rfl) (pv 2) (fun _ _ => rfl)) rfl) pa_nil)) (nomark _)) (pss_one (ps_ret (C8.pe_gc rfl T.WRONG))) pss_nil)
        (pss_cons (ps_if (pt_cmpR op_notN (pe_fld (pe_dget (hu_of hr) (pe_fld (pv 0) rfl) (pv 1) (fun _ _ => rfl)) rfl) pe_non (nomark _)) (pss_one (ps_ret (C8.pe_gc rfl T.GIVEN))) pss_nil)
        (pss_one (ps_ret pe_non)))))), ?_⟩
    unfold claimRef at k
    refine ⟨_, rfl, _, rfl, I, _, s, _, n, rfl, hI, hC, _, rfl, ?_⟩
    cases hf : Mu34.find s n with
    | none =>
      rw [hf] at k
      exact iteT k
    | some c =>
      rw [hf] at k
      refine iteF ⟨_, rfl, _, rfl, I, _, s, _, m, rfl, hI, hC, _, rfl, ?_⟩
      by_cases hn : m < s.seals.length
      case neg =>
        rw [show Mu34.sealOf s m = none from List.getElem?_eq_none (by omega)] at k
        rw [decide_eq_false hn]
        exact iteT k
      case pos =>
        obtain ⟨q, eq⟩ : ∃ q, s.seals[m]? = some q := ⟨_, List.getElem?_eq_getElem hn⟩
        rw [show Mu34.sealOf s m = some q from eq] at k
        have k : Q (optV (if q.length ≤ y then some (-1) else if c.claim.isSome = true then some (-8) else none)) H := k
        obtain ⟨sb, dxs, g, ws, esb, eg, hsb, hg, hw⟩ := h4.get eq
        have lw := hw.length
        rw [decide_eq_true hn]
        refine iteF ⟨_, rfl, _, rfl, a, CC, dx, _, _, rfl, h1, TC.cc, TC.c3, coF3, _, rfl, as, svs, (m : Int), .ref sb, rfl, rfl, SqL.of h2, atI_nat esb, sb, CS, dxs, _, _, rfl, hI _ _ hsb, TC.cs, TC.s1, seF1, g, ws, rfl, .inl (SqL.of hg), _, _, rfl, rfl, _, rfl, ?_⟩
        rw [lw]
        by_cases c1 : q.length ≤ y
        · rw [if_pos c1] at k
          rw [decide_eq_true (show (y : Int) ≥ (q.length : Int) by omega)]
          exact iteT k
        · rw [if_neg c1] at k
          rw [decide_eq_false (show ¬ (y : Int) ≥ (q.length : Int) by omega)]
          obtain ⟨cm, ci⟩ := find_id hf
          obtain ⟨b, dxb, vp, vg, bps, ev, hb, hvp, hvg⟩ := h5.at_ wf.pn cm
          rw [ci] at ev
          refine iteF ⟨_, rfl, a, CC, dx, _, _, rfl, h1, TC.cc, TC.c4, coF4, _, rfl, ap, _, rfl, (by rw [← ev]; exact DGet.k (k := Sum.inl (n : Int)) h3), b, CP, dxb, _, _, rfl, hb, TC.cp, TC.p3, piF3, rfl, _, rfl, ?_⟩
          rw [giv_non hvg]
          refine ite2 (fun e => ?_) (fun e => ?_)
          · rw [if_pos e] at k
            exact k
          · rw [if_neg e] at k
            exact k
/-! ### claim_age -/
abbrev s_claim_age : Stmt := top 60
abbrev N_claim_age : List Str := ["collection", "number", "seal_number", "age", "refusal", "piece", "found", "others"]
theorem sc_claim_age : FnScope N_claim_age ["collection", "number", "seal_number", "age"] (defScope s_claim_age) := ⟨rfl, rfl, rfl, by decide +kernel, rfl, by decide +kernel, by decide +kernel⟩
def spClaimAge (CC CS CP : Addr) : Sp := fun vs H Q _ => ∃ (I : Hp) (v : V) (s : Mu34.State) (M : List Addr) (n m y : Nat), vs = [v, vN n, vN m, vN y] ∧ Same I H ∧ CollR CC CS CP I H v s M ∧ Wf s ∧ RetS CC CS CP I H v M (Mu34.step (some s) (.claim n m y)) Q
theorem ok_claim_age (T : TopG K mg aW) (TC : ColT K CC CS CP) (D : Dn K mg "claim_age" s_claim_age ["collection", "number", "seal_number", "age"]) (c_claim_refusal : C8.Cal P w K mg base 2 "claim_refusal" (spClaimRef CC CS CP) []) (c_agreements : C8.Cal P w K mg base 4 "agreements" spAgreements []) (c_out_of_order : C8.Cal P w K mg base 2 "out_of_order" (spOut CC CS CP) []) :
    C8.Cal P w K mg base 5 "claim_age" (spClaimAge CC CS CP) [] := by
  refine D.cal sc_claim_age (fun vs H Q E h => ?_) (fun f cdv A outer s H vs Q E hr h => ?_)
  · obtain ⟨I, v, s, M, n, m, y, rfl, _⟩ := h
    rfl
  · obtain ⟨I, v, s, M, n, m, y, rfl, hI, hC, wf, k⟩ := h
    obtain ⟨⟨a, dx, as, ap, svs, kvs, gs, ps, rfl, h1, h2, h3, h4, h5, rfl⟩, nd, no, so⟩ := id hC
    refine ⟨_, (pss_cons (ps_set (i := 4) sc_claim_age.nd rfl (Or.inl rfl) (C8.pe_c c_claim_refusal hr (by decide) rfl (pa_cons (pv 0) (pa_cons (pv 1) (pa_cons (pv 2) (pa_cons (pv 3) pa_nil))))))
        (pss_cons (ps_if (pt_cmpR op_notN (pv 4) pe_non (nomark _)) (pss_one (ps_ret (pe_lst (pa_cons (pv 4) pa_nil)))) pss_nil)
        (pss_cons (ps_set (i := 5) sc_claim_age.nd rfl (Or.inl rfl) (pe_dget (hu_of hr) (pe_fld (pv 0) rfl) (pv 1) (fun _ _ => rfl)))
        (pss_cons (ps_set (i := 6) sc_claim_age.nd rfl (Or.inl rfl) (C8.pe_c c_agreements hr (by decide) rfl (pa_cons (pe_fld (pv 5) rfl) (pa_cons (pe_ix ix_list (pe_fld (pe_ix ix_list (pe_fld (pv 0) rfl) (pv 2) (fun _ _ => rfl)) rfl) (pv 3) (fun _ _ => rfl)) pa_nil))))
        (pss_cons (ps_if (pt_not (pt_truth (pv 6) (by intro _; rfl))) (pss_one (ps_ret (pe_lst (pa_cons (C8.pe_gc rfl T.CANNOT_BE) pa_nil)))) pss_nil)
        (pss_cons (ps_set (i := 7) sc_claim_age.nd rfl (Or.inl rfl) (C8.pe_c c_out_of_order hr (by decide) rfl (pa_cons (pv 0) (pa_cons (pv 1) (pa_cons (pv 2) (pa_cons (pv 3) pa_nil))))))
        (pss_cons (ps_if (pt_truth (pv 7) (by intro _; rfl)) (pss_one (ps_ret (pe_lst (pa_cons (C8.pe_gc rfl T.NOT_IN_ORDER) (pa_cons (pe_ix ix_list (pv 7) pe_int (fun _ _ => rfl)) pa_nil))))) pss_nil)
        (pss_cons (ps_fld (pv 5) (pe_lst (pa_cons (pv 2) (pa_cons (pv 3) pa_nil))) rfl)
        (pss_one (ps_ret (pe_ix ix_list (pv 6) pe_int (fun _ _ => rfl)))))))))))), ?_⟩
    have es : Mu34.step (some s) (.claim n m y) = match Mu34.find s n, Mu34.sealOf s m with
      | none, _ => (some s, [-3])
      | some _, none => (some s, [-2])
      | some c, some q => if q.length ≤ y then (some s, [-1]) else if c.claim.isSome = true then (some s, [-8]) else (match Mu34.ways (q.getD y []) c.pic with
        | [] => (some s, [-6])
        | x :: _ => match Mu34.against s n m c.year y with
          | z :: _ => (some s, [-7, (z : Int)])
          | [] => (some (Mu34.put s { c with claim := some (m, y) }), Mu34.nums [x.1, x.2])) := rfl
    rw [es] at k
    refine xSetE (fun zz => [some (.ref a), some (vN n), some (vN m), some (vN y), some zz, none, none, none]) (fun _ => rfl) ?_
    refine ⟨_, rfl, _, rfl, _, rfl, _, rfl, I, _, s, _, n, m, y, rfl, hI, hC, wf, ?_⟩
    cases hf : Mu34.find s n with
    | none =>
      have er : claimRef s n m y = some (-3) := by
        unfold claimRef
        rw [hf]
      rw [hf] at k
      rw [er]
      refine ⟨_, rfl, rfl, _, rfl, iteT ⟨_, rfl, by show 1 ≤ sizeLine; decide, fun l nl => ?_⟩⟩
      exact k.list hC (G.refl hI) nl
    | some c =>
      cases hs : Mu34.sealOf s m with
      | none =>
        have er : claimRef s n m y = some (-2) := by
          unfold claimRef
          rw [hf, hs]
        rw [hf, hs] at k
        rw [er]
        refine ⟨_, rfl, rfl, _, rfl, iteT ⟨_, rfl, by show 1 ≤ sizeLine; decide, fun l nl => ?_⟩⟩
        exact k.list hC (G.refl hI) nl
      | some q =>
        have er : claimRef s n m y = if q.length ≤ y then some (-1) else if c.claim.isSome = true then some (-8) else none := by
          unfold claimRef
          rw [hf, hs]
        rw [hf, hs] at k
        have k : RetS CC CS CP I H (.ref a) (a :: as :: ap :: (gs ++ ps)) (if q.length ≤ y then (some s, [-1]) else if c.claim.isSome = true then (some s, [-8]) else (match Mu34.ways (q.getD y []) c.pic with
          | [] => (some s, [-6])
          | x :: _ => match Mu34.against s n m c.year y with
            | z :: _ => (some s, [-7, (z : Int)])
            | [] => (some (Mu34.put s { c with claim := some (m, y) }), Mu34.nums [x.1, x.2]))) Q := k
        rw [er]
        by_cases c1 : q.length ≤ y
        · rw [if_pos c1] at k ⊢
          refine ⟨_, rfl, rfl, _, rfl, iteT ⟨_, rfl, by show 1 ≤ sizeLine; decide, fun l nl => ?_⟩⟩
          exact k.list hC (G.refl hI) nl
        · rw [if_neg c1] at k ⊢
          by_cases c2 : c.claim.isSome = true
          · rw [if_pos c2] at k ⊢
            refine ⟨_, rfl, rfl, _, rfl, iteT ⟨_, rfl, by show 1 ≤ sizeLine; decide, fun l nl => ?_⟩⟩
            exact k.list hC (G.refl hI) nl
          · rw [if_neg c2] at k ⊢
            have eq : s.seals[m]? = some q := hs
            obtain ⟨cm, ci⟩ := find_id hf
            obtain ⟨b, dxb, vp, vg, bps, ev, hb, hvp, hvg⟩ := h5.at_ wf.pn cm
            have ev' := ev
            rw [ci] at ev'
            have wc := piece_of (wf.pc c cm).1
            have wh := wf.h3
            obtain ⟨sb, dxs, g, ws, esb, eg, hsb, hg, hw⟩ := h4.get eq
            obtain ⟨r, er⟩ : ∃ r, q[y]? = some r := ⟨_, List.getElem?_eq_getElem (by omega)⟩
            obtain ⟨x2, ex2, rx⟩ := hw.getR er
            have rb := wf.rings (List.mem_of_getElem? eq) (List.mem_of_getElem? er)
            rw [getD_of er] at k
            refine ⟨_, rfl, rfl, _, rfl, iteF (xFall (xSetE (fun zz => [some (.ref a), some (vN n), some (vN m), some (vN y), some .non, some zz, none, none]) (fun _ => rfl) ?_))⟩
            -- piece
            refine ⟨_, rfl, a, CC, dx, _, _, rfl, h1, TC.cc, TC.c4, coF4, _, rfl, ap, _, rfl, (by rw [← ev']; exact DGet.k (k := Sum.inl (n : Int)) h3), ?_⟩
            -- found
            refine xSetE (fun zz => [some (.ref a), some (vN n), some (vN m), some (vN y), some .non, some (.ref b), some zz, none]) (fun _ => rfl) ?_
            refine ⟨_, rfl, b, CP, dxb, _, _, rfl, hb, TC.cp, TC.p2, piF2, _, rfl, a, CC, dx, _, _, rfl, h1, TC.cc, TC.c3, coF3, _, rfl, as, svs, (m : Int), .ref sb, rfl, rfl, SqL.of h2, atI_nat esb, sb, CS, dxs, _, _, rfl, hI _ _ hsb, TC.cs, TC.s1, seF1, _, rfl, g, ws, (y : Int), x2, rfl, rfl, SqL.of hg, atI_nat ex2, I, vp, x2, c.pic, r, rfl, hI, hvp, rx, by omega, by omega, by omega, (fun x hx => by have := (wc.2.2 x hx).1; omega), fun I1 H1 v1 g1 r1 => ?_⟩
            rw [agrs_ways rb.2.2.2] at r1
            obtain ⟨a1, vs1, rfl, ha1, hv1⟩ := r1
            refine xSeq (xIfS (xNot ⟨_, rfl, _, .inl ⟨_, SqL.of (g1.b _ _ ha1), rfl⟩, ?_⟩))
            cases hws : Mu34.ways r c.pic with
            | nil =>
              rw [hws] at k hv1
              cases hv1
              refine iteT ⟨by show 1 ≤ sizeLine; decide, fun l nl => ?_⟩
              exact k.list hC g1 nl
            | cons w0 wr =>
              rw [hws] at k hv1
              have k : RetS CC CS CP I H (.ref a) (a :: as :: ap :: (gs ++ ps)) (match Mu34.against s n m c.year y with
                | z :: _ => (some s, [-7, (z : Int)])
                | [] => (some (Mu34.put s { c with claim := some (m, y) }), Mu34.nums [w0.1, w0.2])) Q := k
              cases hv1 with
              | cons hx0 hxs =>
                rename_i v0 vs0
                obtain ⟨a0, rfl, ha0⟩ := hx0
                refine iteF (xFall (xSetE (fun zz => [some (.ref a), some (vN n), some (vN m), some (vN y), some .non, some (.ref b), some (.ref a1), some zz]) (fun _ => rfl) ?_))
                -- others
                refine ⟨_, rfl, _, rfl, _, rfl, _, rfl, I1, _, s, _, n, m, y, c, rfl, g1.b, hC.g g1, wf, hf, fun I2 H2 v2 g2 r2 => ?_⟩
                obtain ⟨a2, rfl, ha2⟩ := r2
                have g12 := g1.trans g2
                refine xSeq (xIfS ⟨_, rfl, _, .inl ⟨_, SqL.of (g2.b _ _ ha2), rfl⟩, ?_⟩)
                cases hag : Mu34.against s n m c.year y with
                | cons z0 zr =>
                  rw [hag] at k ha2
                  refine iteT ⟨_, rfl, a2, _, 0, vN z0, rfl, rfl, SqL.of (g2.b _ _ ha2), atI_nat (j := 0) rfl, by show 2 ≤ sizeLine; decide, fun l nl => ?_⟩
                  exact k.list hC g12 nl
                | nil =>
                  rw [hag] at k
                  refine iteF (xFall (xSeq (xFld ⟨_, rfl, _, rfl, by show 2 ≤ sizeLine; decide, fun l nl => ?_⟩)))
                  have g3 := g12.trans (G.new (o := .lst [vN m, vN y]) g2.b nl)
                  refine ⟨_, rfl, b, CP, dxb, _, rfl, g3.s _ _ hb, TC.cp, TC.p3, by show 3 < 1000; decide, ?_⟩
                  rw [piFput3]
                  obtain ⟨w4, hC4⟩ := give_ok (dxb := dxb) (cl := some (m, y)) h1 h2 h3 h4 h5 hC wf bps ev hvp g3 (⟨l, rfl, upd_same⟩ : ColR _ (.ref l) [m, y])
                  have ha1' := w4.b _ _ ((g2.u.trans (same_new (none_of g2.b nl))) _ _ ha1)
                  refine ⟨_, rfl, a1, _, 0, .ref a0, rfl, rfl, SqL.of ha1', atI_nat (j := 0) rfl, ?_⟩
                  exact k _ _ _ _ _ rfl w4 hC4 (col_ints ⟨a0, rfl, (g2.u.trans (same_new (none_of g2.b nl))) _ _ ha0⟩)
/-! ### drop_piece -/
abbrev s_drop_piece : Stmt := top 61
abbrev N_drop_piece : List Str := ["collection", "number", "piece", "given"]
theorem sc_drop_piece : FnScope N_drop_piece ["collection", "number"] (defScope s_drop_piece) := ⟨rfl, rfl, rfl, by decide +kernel, rfl, by decide +kernel, by decide +kernel⟩
def spDrop (CC CS CP : Addr) : Sp := fun vs H Q _ => ∃ (I : Hp) (v : V) (s : Mu34.State) (M : List Addr) (n : Nat), vs = [v, vN n] ∧ Same I H ∧ CollR CC CS CP I H v s M ∧ Wf s ∧ RetS CC CS CP I H v M (Mu34.step (some s) (.drop n)) Q
theorem ok_drop_piece (T : TopG K mg aW) (TC : ColT K CC CS CP) (D : Dn K mg "drop_piece" s_drop_piece ["collection", "number"]) (c_has_piece : C8.Cal P w K mg base 1 "has_piece" (spHasPiece CC CS CP) []) :
    C8.Cal P w K mg base 2 "drop_piece" (spDrop CC CS CP) [] := by
  refine D.cal sc_drop_piece (fun vs H Q E h => ?_) (fun f cdv A outer s H vs Q E hr h => ?_)
  · obtain ⟨I, v, s, M, n, rfl, _⟩ := h
    rfl
  · obtain ⟨I, v, s, M, n, rfl, hI, hC, wf, k⟩ := h
    obtain ⟨⟨a, dx, as, ap, svs, kvs, gs, ps, rfl, h1, h2, h3, h4, h5, rfl⟩, nd, no, so⟩ := id hC
    refine ⟨_, (pss_cons (ps_if (pt_not (pt_val (C8.pe_c c_has_piece hr (by decide) rfl (pa_cons (pv 0) (pa_cons (pv 1) pa_nil))))) (pss_one (ps_ret (pe_lst (pa_cons (C8.pe_gc rfl T.NO_PIECE) pa_nil)))) pss_nil)
        (pss_cons (ps_set (i := 2) sc_drop_piece.nd rfl (Or.inl rfl) (pe_dget (hu_of hr) (pe_fld (pv 0) rfl) (pv 1) (fun _ _ => rfl)))
        (pss_cons (ps_set (i := 3) sc_drop_piece.nd rfl (Or.inl rfl) (pe_fld (pv 2) rfl))
        (pss_cons (ps_if (pt_cmpR op_isN (pv 3) pe_non (nomark _)) (pss_one (ps_ret (pe_lst (pa_cons (C8.pe_gc rfl T.GIVEN) pa_nil)))) pss_nil)
        (pss_cons (ps_fld (pv 2) pe_non rfl)
        (pss_one (ps_ret (pv 3)))))))), ?_⟩
    have es : Mu34.step (some s) (.drop n) = match Mu34.find s n with
      | none => (some s, [-3])
      | some c => match c.claim with
        | none => (some s, [-8])
        | some x => (some (Mu34.put s { c with claim := none }), Mu34.nums [x.1, x.2]) := rfl
    rw [es] at k
    refine ⟨_, rfl, _, rfl, I, _, s, _, n, rfl, hI, hC, _, rfl, ?_⟩
    cases hf : Mu34.find s n with
    | none =>
      rw [hf] at k
      refine iteT ⟨by show 1 ≤ sizeLine; decide, fun l nl => ?_⟩
      exact k.list hC (G.refl hI) nl
    | some c =>
      rw [hf] at k
      have k : RetS CC CS CP I H (.ref a) (a :: as :: ap :: (gs ++ ps)) (match c.claim with
        | none => (some s, [-8])
        | some x => (some (Mu34.put s { c with claim := none }), Mu34.nums [x.1, x.2])) Q := k
      obtain ⟨cm, ci⟩ := find_id hf
      obtain ⟨b, dxb, vp, vg, bps, ev, hb, hvp, hvg⟩ := h5.at_ wf.pn cm
      have ev' := ev
      rw [ci] at ev'
      refine iteF ⟨_, rfl, a, CC, dx, _, _, rfl, h1, TC.cc, TC.c4, coF4, _, rfl, ap, _, rfl, (by rw [← ev']; exact DGet.k (k := Sum.inl (n : Int)) h3), ?_⟩
      refine ⟨_, rfl, b, CP, dxb, _, _, rfl, hb, TC.cp, TC.p3, piF3, ?_⟩
      refine ⟨_, rfl, rfl, _, rfl, ?_⟩
      cases hcl : c.claim with
      | none =>
        rw [hcl] at k hvg
        have hvg : vg = .non := hvg
        subst hvg
        refine iteT ⟨by show 1 ≤ sizeLine; decide, fun l nl => ?_⟩
        exact k.list hC (G.refl hI) nl
      | some x =>
        rw [hcl] at k hvg
        obtain ⟨ag, rfl, hag⟩ := hvg
        refine iteF ⟨_, rfl, b, CP, dxb, _, rfl, hb, TC.cp, TC.p3, by show 3 < 1000; decide, ?_⟩
        rw [piFput3]
        obtain ⟨w4, hC4⟩ := give_ok (dxb := dxb) (cl := none) (vg := .non) h1 h2 h3 h4 h5 hC wf bps ev hvp (G.refl hI) rfl
        exact ⟨_, rfl, k _ _ _ _ _ rfl w4 hC4 (col_ints ⟨ag, rfl, hag⟩)⟩
end
end CR

namespace CR
open PySem PySem.Spec PyProof.Rows L2
/-! ### the latest year, the earliest one -/
theorem max_fold : ∀ (r : List Nat) (n : Nat), (r.map fun n : Nat => (n : Int)).foldl max (n : Int) = ((r.foldl max n : Nat) : Int)
  | [], n => rfl
  | m :: r, n => by
    rw [List.map_cons, List.foldl_cons, List.foldl_cons, ← max_fold r (max n m)]
    congr 1
    omega
theorem min_fold : ∀ (r : List Nat) (n : Nat), (r.map fun n : Nat => (n : Int)).foldl min (n : Int) = ((r.foldl min n : Nat) : Int)
  | [], n => rfl
  | m :: r, n => by
    rw [List.map_cons, List.foldl_cons, List.foldl_cons, ← min_fold r (min n m)]
    congr 1
    omega
theorem maxOr_nat (l : List Nat) : maxOr 0 (l.map fun n : Nat => (n : Int)) = ((l.foldl max 0 : Nat) : Int) := by
  cases l with
  | nil => rfl
  | cons n r =>
    rw [List.foldl_cons, Nat.zero_max]
    exact max_fold r n
theorem minOr_nat {l : List Nat} (h : ∀ n ∈ l, n ≤ 100) : minOr 100 (l.map fun n : Nat => (n : Int)) = ((l.foldl min 100 : Nat) : Int) := by
  cases l with
  | nil => rfl
  | cons n r =>
    rw [List.foldl_cons, Nat.min_eq_right (h n (List.mem_cons_self ..))]
    exact min_fold r n
theorem latest_fold (i : Nat) : ∀ (cs : List Mu34.Piece) (m : Nat), (cs.map fun c => (c.year, ageOf c)).foldl (fun (m : Nat) (x : Nat × Nat) => if x.2 ≤ i then max m x.1 else m) m = ((cs.filter fun c => decide (ageOf c < i + 1)).map (·.year)).foldl max m
  | [], m => rfl
  | c :: cs, m => by
    rw [List.map_cons, List.foldl_cons, latest_fold i cs, List.filter_cons]
    by_cases e : ageOf c ≤ i
    · rw [if_pos e, if_pos (decide_eq_true (by omega)), List.map_cons, List.foldl_cons]
    · rw [if_neg e, if_neg (by rw [decide_eq_true_eq]; omega)]
theorem earliest_fold (i : Nat) : ∀ (cs : List Mu34.Piece) (m : Nat), (cs.map fun c => (c.year, ageOf c)).foldl (fun (m : Nat) (x : Nat × Nat) => if i < x.2 then min m x.1 else m) m = ((cs.filter fun c => decide (i + 1 ≤ ageOf c)).map (·.year)).foldl min m
  | [], m => rfl
  | c :: cs, m => by
    rw [List.map_cons, List.foldl_cons, earliest_fold i cs, List.filter_cons]
    by_cases e : i < ageOf c
    · rw [if_pos e, if_pos (decide_eq_true (by omega)), List.map_cons, List.foldl_cons]
    · rw [if_neg e, if_neg (by rw [decide_eq_true_eq]; omega)]
theorem latest_spec (cs : List Mu34.Piece) (i : Nat) : maxOr 0 (((cs.filter fun c => decide (ageOf c < i + 1)).map (·.year)).map fun n : Nat => (n : Int)) = ((Mu34.latest (cs.map fun c => (c.year, ageOf c)) i : Nat) : Int) := by
  rw [maxOr_nat, ← latest_fold]
  rfl
theorem earliest_spec {cs : List Mu34.Piece} (h : ∀ c ∈ cs, c.year ≤ 99) (i : Nat) : minOr 100 (((cs.filter fun c => decide (i + 1 ≤ ageOf c)).map (·.year)).map fun n : Nat => (n : Int)) = ((Mu34.earliest (cs.map fun c => (c.year, ageOf c)) i : Nat) : Int) := by
  rw [minOr_nat, ← earliest_fold]
  · rfl
  · intro n hn
    obtain ⟨c, hc, rfl⟩ := List.mem_map.mp hn
    have := h c (List.mem_filter.mp hc).1
    omega
theorem fm_filterMap {A B : Type} (f : A → Bool) (g : A → B) (l : List A) : (l.map fun x => if f x = true then some (g x) else none).filterMap id = (l.filter f).map g := by
  induction l with
  | nil => rfl
  | cons x l ih =>
    rw [List.map_cons, List.filter_cons]
    by_cases e : f x = true
    · rw [if_pos e, if_pos e, List.map_cons, ← ih]
      rfl
    · rw [if_neg e, if_neg e, ← ih]
      rfl
section
variable {P : Program} {w : World} {K : PySem.W.Frag} {mg : Str → Option Value} {base : Heap} {aW CC CS CP : Addr}
/-- a piece that is given to some age lies there -/
def PcAt (CP : Addr) (I H : Hp) (v : V) (c : Mu34.Piece) : Prop := ∃ (b dx : Addr) (vp vg : V) (z : Nat × Nat), v = .ref b ∧ H b = some (.ins CP dx (piF (vN c.year) vp vg)) ∧ GivR I vg (some z) ∧ ageOf c = z.2
theorem PcAt.g {I H I1 H1 : Hp} (g : G I H I1 H1) {v : V} {c : Mu34.Piece} (h : PcAt CP I H v c) : PcAt CP I1 H1 v c := by
  obtain ⟨b, dx, vp, vg, z, e, h1, h2, h3⟩ := h
  exact ⟨b, dx, vp, vg, z, e, g.s _ _ h1, GivR.mo _ _ _ _ g.u h2, h3⟩
theorem ints_of (l : List Nat) : l.map vN = (l.map fun n : Nat => (n : Int)).map V.int := by
  rw [List.map_map]
  rfl
/-! ### years_around -/
abbrev s_years_around : Stmt := top 62
abbrev N_years_around : List Str := ["pieces", "age", "before", "behind", "piece"]
theorem sc_years_around : FnScope N_years_around ["pieces", "age"] (defScope s_years_around) := ⟨rfl, rfl, rfl, by decide +kernel, rfl, by decide +kernel, by decide +kernel⟩
def spYears (CP : Addr) : Sp := fun vs H Q _ => ∃ (I : Hp) (l : Addr) (ws : List V) (cs : List Mu34.Piece) (i : Nat), vs = [.ref l, vN (i + 1)] ∧ Same I H ∧ I l = some (.lst ws) ∧ All2 (PcAt CP I H) ws cs ∧ cs.length ≤ 6 ∧ (∀ c ∈ cs, c.year ≤ 99) ∧ Ret I H (fun J x => ColR J x [Mu34.latest (cs.map fun c => (c.year, ageOf c)) i, Mu34.earliest (cs.map fun c => (c.year, ageOf c)) i]) Q
theorem ok_years_around (T : TopG K mg aW) (TC : ColT K CC CS CP) (D : Dn K mg "years_around" s_years_around ["pieces", "age"]) (c_given_age : C8.Cal P w K mg base 1 "given_age" (spGivenAge CP) []) :
    C8.Cal P w K mg base 2 "years_around" (spYears CP) [] := by
  refine D.cal sc_years_around (fun vs H Q E h => ?_) (fun f cdv A outer s H vs Q E hr h => ?_)
  · obtain ⟨I, l, ws, cs, i, rfl, _⟩ := h
    rfl
  · obtain ⟨I, l, ws, cs, i, rfl, hI, hl, hw, l6, h99, k⟩ := h
    refine ⟨_, (pss_cons (ps_setLc (i := 2) (own := [("piece", 4)]) (g := (gName 4)) (tt := _) (te := (tFld K (tVar 4) "year")) rfl sc_years_around.nd rfl rfl (sw_true rfl rfl rfl (by decide +kernel)) (pi_list (pv 0)) (blkOk_by (own := [("piece", 4)]) (N := N_years_around) (sc := defScope s_years_around) (by decide +kernel)) (fun _ _ _ _ _ => (pg_name (i := 4) sc_years_around.nd rfl (Or.inl rfl))) (fun _ _ _ _ _ => (pts_one (pt_cmpR op_lt (C8.pe_c c_given_age hr (by decide) rfl (pa_cons (pv 4) pa_nil)) (pv 1) (nomark _)))) (fun _ _ _ _ _ => (pe_fld (pv 4) rfl)))
        (pss_cons (ps_setLc (i := 3) (own := [("piece", 4)]) (g := (gName 4)) (tt := _) (te := (tFld K (tVar 4) "year")) rfl sc_years_around.nd rfl rfl (sw_true rfl rfl rfl (by decide +kernel)) (pi_list (pv 0)) (blkOk_by (own := [("piece", 4)]) (N := N_years_around) (sc := defScope s_years_around) (by decide +kernel)) (fun _ _ _ _ _ => (pg_name (i := 4) sc_years_around.nd rfl (Or.inl rfl))) (fun _ _ _ _ _ => (pts_one (pt_cmpR op_ge (C8.pe_c c_given_age hr (by decide) rfl (pa_cons (pv 4) pa_nil)) (pv 1) (nomark _)))) (fun _ _ _ _ _ => (pe_fld (pv 4) rfl)))
        (pss_one (ps_ret (pe_lst (pa_cons (pe_callBK (cr_maxDef rfl (units65 hr)) (by rfl) T.b_max (by decide +kernel) (pa_cons (pv 2) pa_nil) (pk_cons (C8.pe_gc rfl T.NONE_BEFORE) pk_nil)) (pa_cons (pe_callBK (cr_minDef rfl (units65 hr)) (by rfl) T.b_min (by decide +kernel) (pa_cons (pv 3) pa_nil) (pk_cons (C8.pe_gc rfl T.NONE_BEHIND) pk_nil)) pa_nil))))))), ?_⟩
    have lw := hw.length
    refine xSet (tLc_of ?_)
    refine ⟨_, rfl, l, rfl, ⟨_, SqL.of (hI _ _ hl)⟩, ?_⟩
    refine lc_all (I := I) (walk_list (xs := ws)) (VR.mo vN) (cs.map fun c => if decide (ageOf c < i + 1) = true then some c.year else none) (by simp [lw]) (by omega) hI (fun H' s => SqL.of (s _ _ (hI _ _ hl))) ?_ ?_
    · rintro j x I1 H1 H1' Nx Nn hj g1 ⟨rfl, hx⟩ kx kn
      obtain ⟨c, ec, pc⟩ := hw.get hx
      obtain ⟨b, dx, vp, vg, z, rfl, hb, hvg, ea⟩ := pc.g g1
      have ez : (cs.map fun c => if decide (ageOf c < i + 1) = true then some c.year else none)[j]? = some (if decide (ageOf c < i + 1) = true then some c.year else none) := by
        rw [List.getElem?_map, ec]
        rfl
      refine ⟨rfl, ?_⟩
      refine ⟨_, rfl, I1, b, dx, _, _, vg, z, rfl, g1.b, hb, hvg, _, rfl, _, _, rfl, rfl, _, rfl, ?_⟩
      by_cases e : ageOf c < i + 1
      · rw [if_pos (decide_eq_true e)] at ez
        rw [decide_eq_true (show (z.2 : Int) < ((i + 1 : Nat) : Int) by omega)]
        exact iteT ⟨_, rfl, b, CP, dx, _, _, rfl, hb, TC.cp, TC.p1, piF1, kx I1 _ _ _ ez (G.refl g1.b) rfl⟩
      · rw [if_neg (by simpa using e)] at ez
        rw [decide_eq_false (show ¬ (z.2 : Int) < ((i + 1 : Nat) : Int) by omega)]
        exact iteF (kn ez I1 _ (G.refl g1.b))
    · intro D1 I1 H1 ys1 g1 hD1 ha1
      rw [fm_filterMap] at ha1
      have e1 := ha1.of_eq
      refine xSet (tLc_of ?_)
      refine ⟨_, rfl, l, rfl, ⟨_, SqL.of (g1.b _ _ (g1.u _ _ hl))⟩, ?_⟩
      refine lc_all (I := I1) (walk_list (xs := ws)) (VR.mo vN) (cs.map fun c => if decide (i + 1 ≤ ageOf c) = true then some c.year else none) (by simp [lw]) (by omega) g1.b (fun H' s => SqL.of (s _ _ (g1.b _ _ (g1.u _ _ hl)))) ?_ ?_
      · rintro j x I2 H2 H2' Nx Nn hj g2 ⟨rfl, hx⟩ kx kn
        obtain ⟨c, ec, pc⟩ := hw.get hx
        obtain ⟨b, dx, vp, vg, z, rfl, hb, hvg, ea⟩ := pc.g (g1.trans g2)
        have ez : (cs.map fun c => if decide (i + 1 ≤ ageOf c) = true then some c.year else none)[j]? = some (if decide (i + 1 ≤ ageOf c) = true then some c.year else none) := by
          rw [List.getElem?_map, ec]
          rfl
        refine ⟨rfl, ?_⟩
        refine ⟨_, rfl, I2, b, dx, _, _, vg, z, rfl, g2.b, hb, hvg, _, rfl, _, _, rfl, rfl, _, rfl, ?_⟩
        by_cases e : i + 1 ≤ ageOf c
        · rw [if_pos (decide_eq_true e)] at ez
          rw [decide_eq_true (show (z.2 : Int) ≥ ((i + 1 : Nat) : Int) by omega)]
          exact iteT ⟨_, rfl, b, CP, dx, _, _, rfl, hb, TC.cp, TC.p1, piF1, kx I2 _ _ _ ez (G.refl g2.b) rfl⟩
        · rw [if_neg (by simpa using e)] at ez
          rw [decide_eq_false (show ¬ (z.2 : Int) ≥ ((i + 1 : Nat) : Int) by omega)]
          exact iteF (kn ez I2 _ (G.refl g2.b))
      · intro D2 I2 H2 ys2 g2 hD2 ha2
        rw [fm_filterMap] at ha2
        have e2 := ha2.of_eq
        rw [ints_of] at e1 e2
        subst e1 e2
        refine ⟨_, rfl, ?_⟩
        refine ⟨D1, _, 0, rfl, rfl, SqL.of (g2.b _ _ (g2.u _ _ hD1)), ?_⟩
        refine ⟨_, rfl, D2, _, 100, rfl, rfl, SqL.of (g2.b _ _ hD2), by show 2 ≤ sizeLine; decide, fun p np => ?_⟩
        rw [latest_spec, earliest_spec h99]
        exact k _ _ _ ((g1.trans g2).trans (G.new g2.b np)) ⟨p, rfl, upd_same⟩
/-! ### tell_cuts -/
abbrev s_tell_cuts : Stmt := top 63
abbrev N_tell_cuts : List Str := ["collection", "seal_number", "pieces", "last_age", "told", "age", "number"]
theorem sc_tell_cuts : FnScope N_tell_cuts ["collection", "seal_number"] (defScope s_tell_cuts) := ⟨rfl, rfl, rfl, by decide +kernel, rfl, by decide +kernel, by decide +kernel⟩
def spCuts (CC CS CP : Addr) : Sp := fun vs H Q _ => ∃ (I : Hp) (v : V) (s : Mu34.State) (M : List Addr) (m : Nat), vs = [v, vN m] ∧ Same I H ∧ CollR CC CS CP I H v s M ∧ Wf s ∧ RetS CC CS CP I H v M (Mu34.step (some s) (.cuts m)) Q
def cutsTo (l : List (Nat × Nat)) (i : Nat) : List Nat := (List.range i).flatMap fun i => [Mu34.latest l i, Mu34.earliest l i]
theorem cutsTo_succ (l : List (Nat × Nat)) (i : Nat) : cutsTo l (i + 1) = cutsTo l i ++ [Mu34.latest l i, Mu34.earliest l i] := by
  unfold cutsTo
  rw [List.range_succ, List.flatMap_append]
  simp
theorem cutsTo_len (l : List (Nat × Nat)) : ∀ i, (cutsTo l i).length = 2 * i
  | 0 => rfl
  | i + 1 => by
    rw [cutsTo_succ, List.length_append, cutsTo_len l i]
    rfl
theorem ok_tell_cuts (T : TopG K mg aW) (TC : ColT K CC CS CP) (D : Dn K mg "tell_cuts" s_tell_cuts ["collection", "seal_number"]) (c_has_seal : C8.Cal P w K mg base 1 "has_seal" (spHasSeal CC CS CP) []) (c_given_to : C8.Cal P w K mg base 1 "given_to" (spGivenTo CC CS CP) []) (c_years_around : C8.Cal P w K mg base 2 "years_around" (spYears CP) []) :
    C8.Cal P w K mg base 3 "tell_cuts" (spCuts CC CS CP) [] := by
  refine D.cal sc_tell_cuts (fun vs H Q E h => ?_) (fun f cdv A outer s H vs Q E hr h => ?_)
  · obtain ⟨I, v, s, M, m, rfl, _⟩ := h
    rfl
  · obtain ⟨I, v, s, M, m, rfl, hI, hC, wf, k⟩ := h
    obtain ⟨⟨a, dx, as, ap, svs, kvs, gs, ps, rfl, h1, h2, h3, h4, h5, rfl⟩, nd, no, so⟩ := id hC
    refine ⟨_, (pss_cons (ps_if (pt_not (pt_val (C8.pe_c c_has_seal hr (by decide) rfl (pa_cons (pv 0) (pa_cons (pv 1) pa_nil))))) (pss_one (ps_ret (pe_lst (pa_cons (C8.pe_gc rfl T.NO_SEAL) pa_nil)))) pss_nil)
        (pss_cons (ps_setLc (i := 2) (own := [("number", 6)]) (g := (gName 6)) (tt := tYes) (te := (tDGet (tFld K (tVar 0) "pieces") (tVar 6))) rfl sc_tell_cuts.nd rfl rfl (sw_true rfl rfl rfl (by decide +kernel)) (pi_list (C8.pe_c c_given_to hr (by decide) rfl (pa_cons (pv 0) (pa_cons (pv 1) pa_nil)))) (blkOk_by (own := [("number", 6)]) (N := N_tell_cuts) (sc := defScope s_tell_cuts) (by decide +kernel)) (fun _ _ _ _ _ => (pg_name (i := 6) sc_tell_cuts.nd rfl (Or.inl rfl))) (fun _ _ _ _ _ => pts_nil) (fun _ _ _ _ _ => (pe_dget (hu_of hr) (pe_fld (pv 0) rfl) (pv 6) (fun _ _ => rfl))))
        (pss_cons (ps_set (i := 3) sc_tell_cuts.nd rfl (Or.inl rfl) (pe_op op_sub (pe_callB call_len_seq (by rfl) T.b_len PySem.boot_len (pa_cons (pe_fld (pe_ix ix_list (pe_fld (pv 0) rfl) (pv 1) (fun _ _ => rfl)) rfl) pa_nil)) pe_int))
        (pss_cons (ps_set (i := 4) sc_tell_cuts.nd rfl (Or.inl rfl) (pe_lst (pa_cons (pv 3) pa_nil)))
        (pss_cons (ps_for PassesOwn.never rfl (pi_range2 (by rfl) T.b_range (pa_cons pe_int (pa_cons (pe_op op_add (pv 3) pe_int) pa_nil))) (pg_name (i := 5) sc_tell_cuts.nd rfl (Or.inl rfl)) (pss_one (ps_expr (pe_bm PySem.F.plainAttrs_list PySem.F.slot_list_extend PySem.F.type_list_extend mt_extend (pv 4) (pa_cons (C8.pe_c c_years_around hr (by decide) rfl (pa_cons (pv 2) (pa_cons (pv 5) pa_nil))) pa_nil)))))
        (pss_one (ps_ret (pv 4)))))))), ?_⟩
    have es : Mu34.step (some s) (.cuts m) = (some s, match Mu34.sealOf s m with
      | none => [-2]
      | some q => Mu34.nums ((q.length - 1) :: cutsTo (Mu34.claims s m) (q.length - 1))) := rfl
    rw [es] at k
    refine ⟨_, rfl, _, rfl, I, _, s, _, m, rfl, hI, hC, _, rfl, ?_⟩
    by_cases hn : m < s.seals.length
    case neg =>
      rw [show Mu34.sealOf s m = none from List.getElem?_eq_none (by omega)] at k
      rw [decide_eq_false hn]
      refine iteT ⟨by show 1 ≤ sizeLine; decide, fun l nl => ?_⟩
      exact k.list hC (G.refl hI) nl
    case pos =>
      obtain ⟨q, eq⟩ : ∃ q, s.seals[m]? = some q := ⟨_, List.getElem?_eq_getElem hn⟩
      rw [show Mu34.sealOf s m = some q from eq] at k
      have k : RetS CC CS CP I H (.ref a) (a :: as :: ap :: (gs ++ ps)) (some s, Mu34.nums ((q.length - 1) :: cutsTo (Mu34.claims s m) (q.length - 1))) Q := k
      have wq := wf.sq q (List.mem_of_getElem? eq)
      have q1 : 1 ≤ q.length := by
        cases q with
        | nil => exact absurd rfl wq.1
        | cons _ _ => exact Nat.succ_le_succ (Nat.zero_le _)
      have l6 : (givenPs s m).length ≤ 6 := Nat.le_trans (List.length_filter_le _ _) wf.p6
      obtain ⟨sb, dxs, g, ws, esb, eg, hsb, hg, hw⟩ := h4.get eq
      have lw := hw.length
      rw [decide_eq_true hn]
      refine iteF (xFall (xSet (tLc_of ?_)))
      refine ⟨_, rfl, _, rfl, I, _, s, _, m, rfl, hI, hC, wf, fun I1 H1 v1 g1 r1 => ?_⟩
      obtain ⟨p, rfl, hp⟩ := r1
      refine ⟨p, rfl, ⟨_, SqL.of (g1.b _ _ hp)⟩, ?_⟩
      refine lc_all (I := I1) (S := fun _ v c => PcAt CP I H v c) (walk_list (xs := ((givenPs s m).map (·.id)).map vN)) (fun _ _ _ _ _ h => h) ((givenPs s m).map some) (by simp) (by simp; omega) g1.b (fun H' s => SqL.of (s _ _ (g1.b _ _ hp))) ?_ ?_
      · rintro j x I2 H2 H2' Nx Nn hj g2 ⟨rfl, hx⟩ kx kn
        obtain ⟨i0, ei0, rfl⟩ := map_get hx
        obtain ⟨d, ed, rfl⟩ := map_get ei0
        have dm := List.mem_filter.mp (List.mem_of_getElem? ed)
        obtain ⟨z, ez, ez1, ez2⟩ := isGiven_some dm.2
        obtain ⟨b2, dx2, vp2, vg2, bps2, ev2, hb2, hvp2, hvg2⟩ := h5.at_ wf.pn dm.1
        have g12 := g1.trans g2
        refine ⟨rfl, xYes ?_⟩
        refine ⟨_, rfl, a, CC, dx, _, _, rfl, g12.s _ _ h1, TC.cc, TC.c4, coF4, _, rfl, ap, _, rfl, (by rw [← ev2]; exact DGet.k (k := Sum.inl (d.id : Int)) (g12.s _ _ h3)), ?_⟩
        exact kx I2 _ _ d (by rw [List.getElem?_map, ed]; rfl) (G.refl g2.b) ⟨b2, dx2, vp2, vg2, z, rfl, hb2, by rw [← ez]; exact hvg2, ez2⟩
      · intro Dd I2 H2 ys g2 hD ha
        rw [fm_id] at ha
        have g12 := g1.trans g2
        -- last_age
        refine ⟨_, rfl, a, CC, dx, _, _, rfl, g12.s _ _ h1, TC.cc, TC.c3, coF3, _, rfl, as, svs, (m : Int), .ref sb, rfl, rfl, SqL.of (g12.s _ _ h2), atI_nat esb, sb, CS, dxs, _, _, rfl, g12.b _ _ (g12.u _ _ hsb), TC.cs, TC.s1, seF1, g, ws, rfl, .inl (SqL.of (g12.s _ _ hg)), _, _, rfl, rfl, ?_⟩
        have el : (ws.length : Int) - 1 = ((q.length - 1 : Nat) : Int) := by omega
        refine ⟨_, rfl, by show 1 ≤ sizeLine; decide, fun o no' => ?_⟩
        dsimp only
        rw [el]
        have no0 : H o = none := none_of g12.s no'
        have g3 := g12.trans (G.newH (o := .lst [V.int ((q.length - 1 : Nat) : Int)]) g2.b no')
        have io2 : I2 o = none := none_of g2.b no'
        refine ⟨_, rfl, _, _, rfl, rfl, 1, ((q.length - 1 : Nat) : Int) + 1, rfl, ⟨by omega, by omega, by omega, by omega⟩, ?_⟩
        refine for_it (walk_range (lo := 1)) (fun j σ H' => ∃ I' y5 y6, σ = [some (.ref a), some (vN m), some (.ref Dd), some (vN (q.length - 1)), some (.ref o), y5, y6] ∧ G I H I' H' ∧ Same I2 I' ∧ I' o = none ∧ H' o = some (.lst (((q.length - 1) :: cutsTo (Mu34.claims s m) j).map vN))) ?_ ?_ ?_ ?_
        · exact ⟨I2, none, none, rfl, g3, Same.refl _, io2, upd_same⟩
        · rintro j σ H' _ _
          trivial
        · rintro j x σ H4 H4' hj ⟨I4, y5, y6, rfl, g4, u4, io4, ho4⟩ ⟨rfl, rfl⟩
          refine ⟨_, rfl, .inl ⟨rfl, _, SqL.of ho4⟩, _, rfl, _, rfl, I4, Dd, ys, givenPs s m, j, ?_, g4.b, u4 _ _ hD, ha.mono (fun v c h => h.g g4), l6, fun c hc => (wf.pc c (List.mem_filter.mp hc).1).2.1, fun I5 H5 v5 g5 r5 => ?_⟩
          · show [V.ref Dd, V.int (1 + (j : Int))] = [V.ref Dd, V.int ((j + 1 : Nat) : Int)]
            rw [show (1 : Int) + (j : Int) = ((j + 1 : Nat) : Int) by omega]
          · obtain ⟨a5, rfl, ha5⟩ := r5
            have ho5 := g5.s _ _ ho4
            have io5 := g5.still io4 ho4
            refine ⟨o, a5, _, _, rfl, rfl, ho5, g5.b _ _ ha5, sz_le ?_, ?_⟩
            · have := cutsTo_len (Mu34.claims s m) j
              have h4 := wq.2.1
              simp only [List.length_map, List.length_cons, this, List.length_nil]
              omega
            · refine ⟨I5, _, _, rfl, (g4.trans g5).mut no0 io5, u4.trans g5.u, io5, ?_⟩
              rw [upd_same, cutsTo_succ, claims_given, ← List.map_append]
              rfl
        · rintro σ H4 ⟨I4, y5, y6, rfl, g4, u4, io4, ho4⟩
          have en : (((q.length - 1 : Nat) : Int) + 1 - 1).toNat = q.length - 1 := by omega
          rw [en] at ho4
          refine ⟨_, rfl, k.same hC (g4.pub no0 ho4 hI) ⟨o, rfl, ?_⟩⟩
          rw [upd_same, ints_of]
          rfl
end
end CR

namespace CR
open PySem PySem.Spec PyProof.Rows L2
theorem flatP_len {h : Nat} : ∀ {p : List (List Nat)}, (∀ c ∈ p, c.length = h) → p.flatten.length = p.length * h
  | [], _ => by simp
  | c :: p, hc => by
    rw [List.flatten_cons, List.length_append, flatP_len fun d hd => hc d (List.mem_cons_of_mem _ hd), hc c (List.mem_cons_self ..), List.length_cons, Nat.succ_mul, Nat.add_comm]
theorem flat_small {h n m : Nat} {p : List (List Nat)} (hc : ∀ c ∈ p, c.length = h) (hp : p.length ≤ n) (hh : h ≤ m) : p.flatten.length ≤ n * m := by
  rw [flatP_len hc]
  exact Nat.mul_le_mul hp hh
theorem told_sh {h n : Nat} {p : List (List Nat)} (s : Sh h n p) (h1 : 1 ≤ p.length) : Sh h n (Mu34.told p) := by
  obtain ⟨l, el⟩ := spell_cons h1
  rw [told_first el]
  exact (first_sh l s fun q hq => sh_spell s (by rw [el]; exact List.mem_cons_of_mem _ hq)).1
section
variable {P : Program} {w : World} {K : PySem.W.Frag} {mg : Str → Option Value} {base : Heap} {aW CC CS CP : Addr}
/-! ### told_given -/
abbrev s_told_given : Stmt := top 89
abbrev N_told_given : List Str := ["piece"]
theorem sc_told_given : FnScope N_told_given ["piece"] (defScope s_told_given) := ⟨rfl, rfl, rfl, by decide +kernel, rfl, by decide +kernel, by decide +kernel⟩
def toldG (c : Option (Nat × Nat)) : List Nat := match c with
  | none => [0]
  | some x => [1, x.1, x.2]
def spToldGiven (CP : Addr) : Sp := fun vs H Q _ => ∃ (I : Hp) (b dx : Addr) (y p g : V) (c : Option (Nat × Nat)), vs = [.ref b] ∧ Same I H ∧ H b = some (.ins CP dx (piF y p g)) ∧ GivR I g c ∧ Ret I H (fun J x => ColR J x (toldG c)) Q
theorem ok_told_given (TC : ColT K CC CS CP) (D : Dn K mg "told_given" s_told_given ["piece"]) : C8.Cal P w K mg base 1 "told_given" (spToldGiven CP) [] := by
  refine D.cal sc_told_given (fun vs H Q E h => ?_) (fun f cdv A outer s H vs Q E hr h => ?_)
  · obtain ⟨I, b, dx, y, p, g, c, rfl, _⟩ := h
    rfl
  · obtain ⟨I, b, dx, y, p, g, c, rfl, hI, hb, hg, k⟩ := h
    refine ⟨_, (pss_cons (ps_if (pt_cmpR op_isN (pe_fld (pv 0) rfl) pe_non (nomark _)) (pss_one (ps_ret (pe_lst (pa_cons pe_int pa_nil)))) pss_nil)
        (pss_one (ps_ret (pe_op op_cat (pe_lst (pa_cons pe_int pa_nil)) (pe_fld (pv 0) rfl))))), ?_⟩
    refine ⟨_, rfl, b, CP, dx, _, _, rfl, hb, TC.cp, TC.p3, piF3, rfl, _, rfl, ?_⟩
    cases c with
    | none =>
      have hg : g = .non := hg
      subst hg
      refine iteT ⟨by show 1 ≤ sizeLine; decide, fun l nl => ?_⟩
      exact k _ _ _ (G.new hI nl) ⟨l, rfl, upd_same⟩
    | some x =>
      obtain ⟨ag, rfl, hag⟩ := hg
      refine iteF ⟨by show 1 ≤ sizeLine; decide, fun p1 n1 => ?_⟩
      have g1 := G.newH (o := .lst [V.int 1]) hI n1
      refine ⟨_, rfl, b, CP, dx, _, _, rfl, g1.s _ _ hb, TC.cp, TC.p3, piF3, p1, ag, _, _, rfl, rfl, upd_same, g1.b _ _ hag, by show 1 + 2 ≤ sizeLine; decide, fun p2 n2 => ?_⟩
      exact k _ _ _ (g1.trans (G.new g1.b n2)) ⟨p2, rfl, upd_same⟩
/-! ### look_at -/
abbrev s_look_at : Stmt := top 90
abbrev N_look_at : List Str := ["collection", "number", "piece"]
theorem sc_look_at : FnScope N_look_at ["collection", "number"] (defScope s_look_at) := ⟨rfl, rfl, rfl, by decide +kernel, rfl, by decide +kernel, by decide +kernel⟩
def spLook (CC CS CP : Addr) : Sp := fun vs H Q _ => ∃ (I : Hp) (v : V) (s : Mu34.State) (M : List Addr) (n : Nat), vs = [v, vN n] ∧ Same I H ∧ CollR CC CS CP I H v s M ∧ Wf s ∧ RetS CC CS CP I H v M (Mu34.step (some s) (.look n)) Q
theorem ok_look_at (T : TopG K mg aW) (TC : ColT K CC CS CP) (D : Dn K mg "look_at" s_look_at ["collection", "number"]) (c_has_piece : C8.Cal P w K mg base 1 "has_piece" (spHasPiece CC CS CP) []) (c_told_given : C8.Cal P w K mg base 1 "told_given" (spToldGiven CP) []) (c_cells_of : C8.Cal P w K mg base 1 "cells_of" spCellsOf []) :
    C8.Cal P w K mg base 2 "look_at" (spLook CC CS CP) [] := by
  refine D.cal sc_look_at (fun vs H Q E h => ?_) (fun f cdv A outer s H vs Q E hr h => ?_)
  · obtain ⟨I, v, s, M, n, rfl, _⟩ := h
    rfl
  · obtain ⟨I, v, s, M, n, rfl, hI, hC, wf, k⟩ := h
    obtain ⟨⟨a, dx, as, ap, svs, kvs, gs, ps, rfl, h1, h2, h3, h4, h5, rfl⟩, nd, no, so⟩ := id hC
    refine ⟨_, (pss_cons (ps_if (pt_not (pt_val (C8.pe_c c_has_piece hr (by decide) rfl (pa_cons (pv 0) (pa_cons (pv 1) pa_nil))))) (pss_one (ps_ret (pe_lst (pa_cons (C8.pe_gc rfl T.NO_PIECE) pa_nil)))) pss_nil)
        (pss_cons (ps_set (i := 2) sc_look_at.nd rfl (Or.inl rfl) (pe_dget (hu_of hr) (pe_fld (pv 0) rfl) (pv 1) (fun _ _ => rfl)))
        (pss_one (ps_ret (pe_op op_cat (pe_op op_cat (pe_lst (pa_cons (pe_fld (pv 2) rfl) (pa_cons (pe_callB call_len_seq (by rfl) T.b_len PySem.boot_len (pa_cons (pe_fld (pv 2) rfl) pa_nil)) pa_nil))) (C8.pe_c c_told_given hr (by decide) rfl (pa_cons (pv 2) pa_nil))) (C8.pe_c c_cells_of hr (by decide) rfl (pa_cons (pe_fld (pv 2) rfl) pa_nil))))))), ?_⟩
    have es : Mu34.step (some s) (.look n) = (some s, match Mu34.find s n with
      | none => [-3]
      | some c => Mu34.nums ([c.year, c.pic.length] ++ toldG c.claim ++ c.pic.flatten)) := rfl
    rw [es] at k
    refine ⟨_, rfl, _, rfl, I, _, s, _, n, rfl, hI, hC, _, rfl, ?_⟩
    cases hf : Mu34.find s n with
    | none =>
      rw [hf] at k
      refine iteT ⟨by show 1 ≤ sizeLine; decide, fun l nl => ?_⟩
      exact k.list hC (G.refl hI) nl
    | some c =>
      rw [hf] at k
      have k : RetS CC CS CP I H (.ref a) (a :: as :: ap :: (gs ++ ps)) (some s, Mu34.nums ([c.year, c.pic.length] ++ toldG c.claim ++ c.pic.flatten)) Q := k
      obtain ⟨cm, ci⟩ := find_id hf
      obtain ⟨b, dxb, vp, vg, bps, ev, hb, hvp, hvg⟩ := h5.at_ wf.pn cm
      rw [ci] at ev
      have wc := piece_of (wf.pc c cm).1
      have fl : c.pic.flatten.length ≤ 12 * 3 := flat_small (fun d hd => (wc.2.2 d hd).1) wc.2.1 wf.h3
      have tl : (toldG c.claim).length ≤ 3 := by
        unfold toldG
        split
        · show 1 ≤ 3
          decide
        · show 3 ≤ 3
          decide
      obtain ⟨a1, ws1, rfl, ha1, hw1⟩ := id hvp
      have lw1 := hw1.length
      refine iteF ⟨_, rfl, a, CC, dx, _, _, rfl, h1, TC.cc, TC.c4, coF4, _, rfl, ap, _, rfl, (by rw [← ev]; exact DGet.k (k := Sum.inl (n : Int)) h3), ?_⟩
      refine ⟨_, rfl, b, CP, dxb, _, _, rfl, hb, TC.cp, TC.p1, piF1, _, rfl, b, CP, dxb, _, _, rfl, hb, TC.cp, TC.p2, piF2, a1, ws1, rfl, .inl (SqL.of (hI _ _ ha1)), by show 2 ≤ sizeLine; decide, fun p1 n1 => ?_⟩
      rw [lw1]
      have g1 := G.newH (o := .lst [vN c.year, V.int (c.pic.length : Int)]) hI n1
      refine ⟨_, rfl, I, b, dxb, _, _, vg, c.claim, rfl, g1.b, g1.s _ _ hb, hvg, fun I2 H2 v2 g2 r2 => ?_⟩
      obtain ⟨a2, rfl, ha2⟩ := r2
      have g12 := g1.trans g2
      refine ⟨p1, a2, _, _, rfl, rfl, g2.s _ _ upd_same, g2.b _ _ ha2, sz_le (by rw [List.length_map]; show 2 + _ ≤ _; omega), fun p3 n3 => ?_⟩
      have g3 := G.newH (o := .lst ([vN c.year, V.int (c.pic.length : Int)] ++ (toldG c.claim).map vN)) g2.b n3
      have g13 := g12.trans g3
      refine ⟨_, rfl, b, CP, dxb, _, _, rfl, g13.s _ _ hb, TC.cp, TC.p2, piF2, I2, _, c.pic, rfl, g3.b, PicR.mo _ _ _ _ g12.u hvp, by omega, fun I4 H4 v4 g4 r4 => ?_⟩
      obtain ⟨a4, rfl, ha4⟩ := r4
      refine ⟨p3, a4, _, _, rfl, rfl, g4.s _ _ upd_same, g4.b _ _ ha4, sz_le (by rw [List.length_append, List.length_map, List.length_map]; show 2 + _ + _ ≤ _; omega), fun p5 n5 => ?_⟩
      have e : ([vN c.year, V.int (c.pic.length : Int)] ++ (toldG c.claim).map vN ++ c.pic.flatten.map vN) = (Mu34.nums ([c.year, c.pic.length] ++ toldG c.claim ++ c.pic.flatten)).map V.int := by
        unfold Mu34.nums
        rw [List.map_map, List.map_append, List.map_append]
        rfl
      rw [e]
      exact k.list hC (g13.trans g4) n5
/-! ### show_now -/
abbrev s_show_now : Stmt := top 91
abbrev N_show_now : List Str := ["collection", "number", "seal", "ring", "counts"]
theorem sc_show_now : FnScope N_show_now ["collection", "number"] (defScope s_show_now) := ⟨rfl, rfl, rfl, by decide +kernel, rfl, by decide +kernel, by decide +kernel⟩
def spNow (CC CS CP : Addr) : Sp := fun vs H Q _ => ∃ (I : Hp) (v : V) (s : Mu34.State) (M : List Addr) (m : Nat), vs = [v, vN m] ∧ Same I H ∧ CollR CC CS CP I H v s M ∧ Wf s ∧ RetS CC CS CP I H v M (Mu34.step (some s) (.now m)) Q
theorem ok_show_now (T : TopG K mg aW) (TC : ColT K CC CS CP) (D : Dn K mg "show_now" s_show_now ["collection", "number"]) (c_has_seal : C8.Cal P w K mg base 1 "has_seal" (spHasSeal CC CS CP) []) (c_ring_now : C8.Cal P w K mg base 1 "ring_now" (spRingNow CS) []) (c_given_to : C8.Cal P w K mg base 1 "given_to" (spGivenTo CC CS CP) []) (c_cells_of : C8.Cal P w K mg base 1 "cells_of" spCellsOf []) (c_spellings : C8.Cal P w K mg base 2 "spellings" spSpellings []) :
    C8.Cal P w K mg base 3 "show_now" (spNow CC CS CP) [] := by
  refine D.cal sc_show_now (fun vs H Q E h => ?_) (fun f cdv A outer s H vs Q E hr h => ?_)
  · obtain ⟨I, v, s, M, m, rfl, _⟩ := h
    rfl
  · obtain ⟨I, v, s, M, m, rfl, hI, hC, wf, k⟩ := h
    obtain ⟨⟨a, dx, as, ap, svs, kvs, gs, ps, rfl, h1, h2, h3, h4, h5, rfl⟩, nd, no, so⟩ := id hC
    refine ⟨_, (pss_cons (ps_if (pt_not (pt_val (C8.pe_c c_has_seal hr (by decide) rfl (pa_cons (pv 0) (pa_cons (pv 1) pa_nil))))) (pss_one (ps_ret (pe_lst (pa_cons (C8.pe_gc rfl T.NO_SEAL) pa_nil)))) pss_nil)
        (pss_cons (ps_set (i := 2) sc_show_now.nd rfl (Or.inl rfl) (pe_ix ix_list (pe_fld (pv 0) rfl) (pv 1) (fun _ _ => rfl)))
        (pss_cons (ps_set (i := 3) sc_show_now.nd rfl (Or.inl rfl) (C8.pe_c c_ring_now hr (by decide) rfl (pa_cons (pv 2) pa_nil)))
        (pss_cons (ps_set (i := 4) sc_show_now.nd rfl (Or.inl rfl) (pe_lst (pa_cons (pe_op op_sub (pe_callB call_len_seq (by rfl) T.b_len PySem.boot_len (pa_cons (pe_fld (pv 2) rfl) pa_nil)) pe_int) (pa_cons (pe_callB call_len_seq (by rfl) T.b_len PySem.boot_len (pa_cons (C8.pe_c c_given_to hr (by decide) rfl (pa_cons (pv 0) (pa_cons (pv 1) pa_nil))) pa_nil)) (pa_cons (pe_callB call_len_seq (by rfl) T.b_len PySem.boot_len (pa_cons (pv 3) pa_nil)) pa_nil)))))
        (pss_one (ps_ret (pe_op op_cat (pv 4) (C8.pe_c c_cells_of hr (by decide) rfl (pa_cons (pe_callB (cr_minD rfl (units65 hr)) (by rfl) T.b_min (by decide +kernel) (pa_cons (C8.pe_c c_spellings hr (by decide) rfl (pa_cons (pv 3) pa_nil)) pa_nil)) pa_nil))))))))), ?_⟩
    have es : Mu34.step (some s) (.now m) = (some s, match Mu34.sealOf s m with
      | none => [-2]
      | some q => Mu34.nums ([q.length - 1, (Mu34.claims s m).length, (Mu34.now q).length] ++ (Mu34.told (Mu34.now q)).flatten)) := rfl
    rw [es] at k
    refine ⟨_, rfl, _, rfl, I, _, s, _, m, rfl, hI, hC, _, rfl, ?_⟩
    by_cases hn : m < s.seals.length
    case neg =>
      rw [show Mu34.sealOf s m = none from List.getElem?_eq_none (by omega)] at k
      rw [decide_eq_false hn]
      refine iteT ⟨by show 1 ≤ sizeLine; decide, fun l nl => ?_⟩
      exact k.list hC (G.refl hI) nl
    case pos =>
      obtain ⟨q, eq⟩ : ∃ q, s.seals[m]? = some q := ⟨_, List.getElem?_eq_getElem hn⟩
      rw [show Mu34.sealOf s m = some q from eq] at k
      have k : RetS CC CS CP I H (.ref a) (a :: as :: ap :: (gs ++ ps)) (some s, Mu34.nums ([q.length - 1, (Mu34.claims s m).length, (Mu34.now q).length] ++ (Mu34.told (Mu34.now q)).flatten)) Q := k
      have wq := wf.sq q (List.mem_of_getElem? eq)
      have q1 : 1 ≤ q.length := by
        cases q with
        | nil => exact absurd rfl wq.1
        | cons _ _ => exact Nat.succ_le_succ (Nat.zero_le _)
      have rb := wf.rings (List.mem_of_getElem? eq) (now_mem wq.1)
      have sh := told_sh (n := (Mu34.now q).length) ⟨rfl, rb.2.2.1⟩ rb.2.1
      have fl : (Mu34.told (Mu34.now q)).flatten.length ≤ 8 * 3 := flat_small sh.2 (by rw [sh.1]; exact rb.1) wf.h3
      obtain ⟨sb, dxs, g, ws, esb, eg, hsb, hg, hw⟩ := h4.get eq
      have lw := hw.length
      rw [decide_eq_true hn]
      refine iteF ⟨_, rfl, a, CC, dx, _, _, rfl, h1, TC.cc, TC.c3, coF3, _, rfl, as, svs, (m : Int), .ref sb, rfl, rfl, SqL.of h2, atI_nat esb, ?_⟩
      refine ⟨_, rfl, I, sb, dxs, g, ws, q, rfl, hI, hsb, hg, hw, wq.1, fun y ry => ?_⟩
      obtain ⟨ar, vr, rfl, har, hvr⟩ := id ry
      have lvr := hvr.length
      refine ⟨_, rfl, sb, CS, dxs, _, _, rfl, hI _ _ hsb, TC.cs, TC.s1, seF1, g, ws, rfl, .inl (SqL.of hg), _, _, rfl, rfl, ?_⟩
      refine ⟨_, rfl, _, rfl, I, _, s, _, m, rfl, hI, hC, wf, fun I1 H1 v1 g1 r1 => ?_⟩
      obtain ⟨p, rfl, hp⟩ := r1
      refine ⟨p, _, rfl, .inl (SqL.of (g1.b _ _ hp)), _, rfl, ar, vr, rfl, .inl (SqL.of (g1.b _ _ (g1.u _ _ har))), by show 3 ≤ sizeLine; decide, fun o no' => ?_⟩
      have eo : [V.int ((ws.length : Int) - 1), V.int ((((givenPs s m).map (·.id)).map vN).length : Int), V.int (vr.length : Int)] = [vN (q.length - 1), vN (Mu34.claims s m).length, vN (Mu34.now q).length] := by
        rw [lw, lvr, List.length_map, List.length_map, claims_given, List.length_map, show (q.length : Int) - 1 = ((q.length - 1 : Nat) : Int) by omega]
      dsimp only
      rw [eo]
      have g2 := G.newH (o := .lst [vN (q.length - 1), vN (Mu34.claims s m).length, vN (Mu34.now q).length]) g1.b no'
      have g12 := g1.trans g2
      refine ⟨_, rfl, _, rfl, I1, _, Mu34.now q, rfl, g2.b, PicR.mo _ _ _ _ g1.u ry, by omega, fun I3 H3 v3 g3 r3 => ?_⟩
      refine min_spell g3.b r3 rb.2.1 rb.2.2.1 fun x rx => ?_
      refine ⟨I3, x, _, rfl, g3.b, rx, by omega, fun I4 H4 v4 g4 r4 => ?_⟩
      obtain ⟨a4, rfl, ha4⟩ := r4
      have g34 := g3.trans g4
      refine ⟨o, a4, _, _, rfl, rfl, g34.s _ _ upd_same, g4.b _ _ ha4, sz_le (by rw [List.length_map]; show 3 + _ ≤ _; omega), fun p5 n5 => ?_⟩
      have e : ([vN (q.length - 1), vN (Mu34.claims s m).length, vN (Mu34.now q).length] ++ (Mu34.told (Mu34.now q)).flatten.map vN) = (Mu34.nums ([q.length - 1, (Mu34.claims s m).length, (Mu34.now q).length] ++ (Mu34.told (Mu34.now q)).flatten)).map V.int := by
        unfold Mu34.nums
        rw [List.map_map, List.map_append]
        rfl
      rw [e]
      exact k.list hC (g12.trans g34) n5
/-! ### can_roll, rolled_picture -/
abbrev s_can_roll : Stmt := top 92
abbrev N_can_roll : List Str := ["seal", "age", "column", "width", "way"]
theorem sc_can_roll : FnScope N_can_roll ["seal", "age", "column", "width", "way"] (defScope s_can_roll) := ⟨rfl, rfl, rfl, by decide +kernel, rfl, by decide +kernel, by decide +kernel⟩
abbrev s_rolled_picture : Stmt := top 93
abbrev N_rolled_picture : List Str := ["ring", "column", "width", "step"]
theorem sc_rolled_picture : FnScope N_rolled_picture ["ring", "column", "width"] (defScope s_rolled_picture) := ⟨rfl, rfl, rfl, by decide +kernel, rfl, by decide +kernel, by decide +kernel⟩
def rollNo (q : List (List (List Nat))) (y i n x : Nat) : Prop := q.length ≤ y ∨ ((q.getD y []).length ≤ i ∨ (n < 1 ∨ (12 < n ∨ 1 < x)))
instance (q : List (List (List Nat))) (y i n x : Nat) : Decidable (rollNo q y i n x) := by
  unfold rollNo
  infer_instance
def spCanRoll (CS : Addr) : Sp := fun vs H Q _ => ∃ (I : Hp) (sb dx g : Addr) (ws : List V) (q : List (List (List Nat))) (y i n x : Nat), vs = [.ref sb, vN y, vN i, vN n, vN x] ∧ Same I H ∧ I sb = some (.ins CS dx (seF g)) ∧ H g = some (.lst ws) ∧ All2 (PicR I) ws q ∧ Q (.bl (!decide (rollNo q y i n x))) H
theorem ok_can_roll (T : TopG K mg aW) (TC : ColT K CC CS CP) (D : Dn K mg "can_roll" s_can_roll ["seal", "age", "column", "width", "way"]) : C8.Cal P w K mg base 1 "can_roll" (spCanRoll CS) [] := by
  refine D.cal sc_can_roll (fun vs H Q E h => ?_) (fun f cdv A outer s H vs Q E hr h => ?_)
  · obtain ⟨I, sb, dx, g, ws, q, y, i, n, x, rfl, _⟩ := h
    rfl
  · obtain ⟨I, sb, dx, g, ws, q, y, i, n, x, rfl, hI, hsb, hg, hw, k⟩ := h
    refine ⟨_, (pss_cons (ps_if (PW.pt (pw_or (pt_cmpR op_ge (pv 1) (pe_callB call_len_seq (by rfl) T.b_len PySem.boot_len (pa_cons (pe_fld (pv 0) rfl) pa_nil)) (nomark _)) (pw_or1 (pt_cmpR op_ge (pv 2) (pe_callB call_len_seq (by rfl) T.b_len PySem.boot_len (pa_cons (pe_ix ix_list (pe_fld (pv 0) rfl) (pv 1) (fun _ _ => rfl)) pa_nil)) (nomark _))))) (pss_one (ps_ret pe_bl)) pss_nil)
        (pss_one (ps_ret (pe_and (pe_chain op_le op_le pe_int (pv 3) (C8.pe_gc rfl T.LONGEST_PIECE)) (pe_one (pe_cmpR op_in_seq (pv 4) (C8.pe_gc rfl T.WAYS) (by rfl))))))), ?_⟩
    have lw := hw.length
    have no : rollNo q y i n x → Q (.bl false) H := fun e => by
      rw [decide_eq_true e] at k
      exact k
    refine ⟨_, rfl, _, rfl, sb, CS, dx, _, _, rfl, hI _ _ hsb, TC.cs, TC.s1, seF1, g, ws, rfl, .inl (SqL.of hg), _, _, rfl, rfl, _, rfl, ?_⟩
    rw [lw]
    by_cases c1 : q.length ≤ y
    · rw [decide_eq_true (show (y : Int) ≥ (q.length : Int) by omega)]
      exact iteT (iteT (no (.inl c1)))
    · rw [decide_eq_false (show ¬ (y : Int) ≥ (q.length : Int) by omega)]
      obtain ⟨r, er⟩ : ∃ r, q[y]? = some r := ⟨_, List.getElem?_eq_getElem (by omega)⟩
      obtain ⟨x2, ex2, ⟨ar, vr, rfl, har, hvr⟩⟩ := hw.getR er
      have lvr := hvr.length
      have eg := getD_of (d := ([] : List (List Nat))) er
      refine iteF ⟨_, rfl, _, rfl, sb, CS, dx, _, _, rfl, hI _ _ hsb, TC.cs, TC.s1, seF1, _, rfl, g, ws, (y : Int), .ref ar, rfl, rfl, SqL.of hg, atI_nat ex2, ar, vr, rfl, .inl (SqL.of (hI _ _ har)), _, _, rfl, rfl, _, rfl, ?_⟩
      rw [lvr]
      by_cases c2 : r.length ≤ i
      · rw [decide_eq_true (show (i : Int) ≥ (r.length : Int) by omega)]
        exact iteT (no (.inr (.inl (by rw [eg]; exact c2))))
      · rw [decide_eq_false (show ¬ (i : Int) ≥ (r.length : Int) by omega)]
        refine iteF ⟨_, rfl, _, _, rfl, rfl, _, rfl, ?_⟩
        by_cases c3 : n < 1
        · rw [decide_eq_false (show ¬ (1 : Int) ≤ (n : Int) by omega)]
          exact iteF ⟨_, rfl, iteF (no (.inr (.inr (.inl c3))))⟩
        · rw [decide_eq_true (show (1 : Int) ≤ (n : Int) by omega)]
          refine iteT ⟨_, _, rfl, rfl, _, rfl, ?_⟩
          by_cases c4 : 12 < n
          · rw [decide_eq_false (show ¬ (n : Int) ≤ 12 by omega)]
            exact iteF (no (.inr (.inr (.inr (.inl c4)))))
          · rw [decide_eq_true (show (n : Int) ≤ 12 by omega)]
            refine iteT ⟨_, rfl, aW, _, rfl, .inr (T.ways H), rfl, rfl, ?_⟩
            have e : inV (vN x) [.int 0, .int 1] = !decide (rollNo q y i n x) := by
              rw [show ([.int 0, .int 1] : List V) = [0, 1].map vN from rfl, in_nat]
              by_cases c5 : 1 < x
              · rw [decide_eq_true (show rollNo q y i n x from .inr (.inr (.inr (.inr c5))))]
                rw [Bool.not_true, List.contains_eq_mem, decide_eq_false_iff_not]
                simp
                omega
              · rw [decide_eq_false (show ¬ rollNo q y i n x by unfold rollNo; rw [eg]; omega)]
                rw [Bool.not_false, List.contains_eq_mem, decide_eq_true_eq]
                simp
                omega
            show Q (V.bl (inV (vN x) [.int 0, .int 1])) H
            rw [e]
            exact k
def rolledP (r : List (List Nat)) (i n : Nat) : List (List Nat) := (List.range n).map fun d => r.getD ((i + d) % r.length) []
def spRolledPic : Sp := fun vs H Q _ => ∃ (I : Hp) (u : V) (r : List (List Nat)) (i n : Nat), vs = [u, vN i, vN n] ∧ Same I H ∧ PicR I u r ∧ 0 < r.length ∧ n ≤ 20 ∧ Ret I H (fun J x => PicR J x (rolledP r i n)) Q
theorem ok_rolled_picture (T : TopG K mg aW) (D : Dn K mg "rolled_picture" s_rolled_picture ["ring", "column", "width"]) : C8.Cal P w K mg base 1 "rolled_picture" spRolledPic [] := by
  refine D.cal sc_rolled_picture (fun vs H Q E h => ?_) (fun f cdv A outer s H vs Q E hr h => ?_)
  · obtain ⟨I, u, r, i, n, rfl, _⟩ := h
    rfl
  · obtain ⟨I, u, r, i, n, rfl, hI, ⟨a, vr, rfl, ha, hvr⟩, r0, hn, k⟩ := h
    refine ⟨_, (pss_one (ps_ret (pe_lc (own := [("step", 3)]) (g := (gName 3)) (tt := tYes) (te := (tOp (rIxL K) (tVar 0) (tOp _ (tOp _ (tVar 1) (tVar 3)) (tCB (Evl.rLenS K) (tCons (tVar 0) tNil))))) rfl sc_rolled_picture.nd (pi_range1 (by rfl) T.b_range (pa_cons (pv 2) pa_nil)) (blkOk_by (own := [("step", 3)]) (N := N_rolled_picture) (sc := defScope s_rolled_picture) (by decide +kernel)) (fun _ _ _ _ _ => (pg_name (i := 3) sc_rolled_picture.nd rfl (Or.inl rfl))) (fun _ _ _ _ _ => pts_nil) (fun _ _ _ _ _ => (pe_ix ix_list (pv 0) (pe_op op_mod (pe_op op_add (pv 1) (pv 3)) (pe_callB call_len_seq (by rfl) T.b_len PySem.boot_len (pa_cons (pv 0) pa_nil))) (fun _ _ => rfl)))))), ?_⟩
    have lvr := hvr.length
    refine xRet (tLc_of ?_)
    refine ⟨_, rfl, n, rfl, by omega, by omega, ?_⟩
    refine lc_all (I := I) walk_rg ColR.mo ((rolledP r i n).map some) (by simp [rolledP]) (by simp; omega) hI (fun H' s => trivial) ?_ ?_
    · rintro d v I1 H1 H1' Nx Nn hd g1 ⟨rfl, rfl⟩ kx kn
      refine ⟨rfl, xYes ?_⟩
      have ha1 := g1.b _ _ (g1.u _ _ ha)
      obtain ⟨m, em, hm⟩ : ∃ m : Nat, m = (i + d) % r.length ∧ m < r.length := ⟨_, rfl, Nat.mod_lt _ r0⟩
      have ei : ((i : Int) + (d : Int)) % (vr.length : Int) = (m : Int) := by
        rw [lvr, em]
        simp
      obtain ⟨cr, ecr⟩ : ∃ cr, r[m]? = some cr := ⟨_, List.getElem?_eq_getElem hm⟩
      obtain ⟨vm, evm, rm⟩ := hvr.getR ecr
      have ez : ((rolledP r i n).map some)[d]? = some (some cr) := by
        have hd' : d < n := by simpa using hd
        rw [List.getElem?_map, rolledP, List.getElem?_map, List.getElem?_range hd']
        show some (some (r.getD ((i + d) % r.length) [])) = _
        rw [← em, getD_of ecr]
      refine ⟨_, rfl, _, rfl, _, rfl, _, _, rfl, rfl, _, rfl, a, vr, rfl, .inl (SqL.of ha1), _, _, rfl, rfl, by omega, a, vr, (m : Int), vm, rfl, ?_, SqL.of ha1, atI_nat evm, ?_⟩
      · show V.int (((i : Int) + (d : Int)) % (vr.length : Int)) = V.int (m : Int)
        rw [ei]
      · exact kx I1 _ _ _ ez (G.refl g1.b) (ColR.mo _ _ _ _ g1.u rm)
    · intro D I' H' ys g1 hD ha'
      rw [fm_id] at ha'
      exact k I' H' _ g1 ⟨D, ys, rfl, hD, ha'⟩
/-! ### roll -/
abbrev s_roll : Stmt := top 94
abbrev N_roll : List Str := ["collection", "number", "age", "column", "width", "way", "seal"]
theorem sc_roll : FnScope N_roll ["collection", "number", "age", "column", "width", "way"] (defScope s_roll) := ⟨rfl, rfl, rfl, by decide +kernel, rfl, by decide +kernel, by decide +kernel⟩
def spRoll (CC CS CP : Addr) : Sp := fun vs H Q _ => ∃ (I : Hp) (v : V) (s : Mu34.State) (M : List Addr) (m y i n x : Nat), vs = [v, vN m, vN y, vN i, vN n, vN x] ∧ Same I H ∧ CollR CC CS CP I H v s M ∧ Wf s ∧ RetS CC CS CP I H v M (Mu34.step (some s) (.rolled m y i n x)) Q
theorem rolled_laid (r : List (List Nat)) (i n x : Nat) : Mu34.rolled r i n x = Mu34.laid x (rolledP r i n) := rfl
theorem ok_roll (T : TopG K mg aW) (TC : ColT K CC CS CP) (D : Dn K mg "roll" s_roll ["collection", "number", "age", "column", "width", "way"]) (c_has_seal : C8.Cal P w K mg base 1 "has_seal" (spHasSeal CC CS CP) []) (c_can_roll : C8.Cal P w K mg base 1 "can_roll" (spCanRoll CS) []) (c_cells_of : C8.Cal P w K mg base 1 "cells_of" spCellsOf []) (c_turned : C8.Cal P w K mg base 1 "turned" spTurned []) (c_rolled_picture : C8.Cal P w K mg base 1 "rolled_picture" spRolledPic []) :
    C8.Cal P w K mg base 2 "roll" (spRoll CC CS CP) [] := by
  refine D.cal sc_roll (fun vs H Q E h => ?_) (fun f cdv A outer s H vs Q E hr h => ?_)
  · obtain ⟨I, v, s, M, m, y, i, n, x, rfl, _⟩ := h
    rfl
  · obtain ⟨I, v, s, M, m, y, i, n, x, rfl, hI, hC, wf, k⟩ := h
    obtain ⟨⟨a, dx, as, ap, svs, kvs, gs, ps, rfl, h1, h2, h3, h4, h5, rfl⟩, nd, no, so⟩ := id hC
    refine ⟨_, (pss_cons (ps_if (pt_not (pt_val (C8.pe_c c_has_seal hr (by decide) rfl (pa_cons (pv 0) (pa_cons (pv 1) pa_nil))))) (pss_one (ps_ret (pe_lst (pa_cons (C8.pe_gc rfl T.NO_SEAL) pa_nil)))) pss_nil)
        (pss_cons (ps_set (i := 6) sc_roll.nd rfl (Or.inl rfl) (pe_ix ix_list (pe_fld (pv 0) rfl) (pv 1) (fun _ _ => rfl)))
        (pss_cons (ps_if (pt_not (pt_val (C8.pe_c c_can_roll hr (by decide) rfl (pa_cons (pv 6) (pa_cons (pv 2) (pa_cons (pv 3) (pa_cons (pv 4) (pa_cons (pv 5) pa_nil)))))))) (pss_one (ps_ret (pe_lst (pa_cons (C8.pe_gc rfl T.WRONG) pa_nil)))) pss_nil)
        (pss_one (ps_ret (C8.pe_c c_cells_of hr (by decide) rfl (pa_cons (C8.pe_c c_turned hr (by decide) rfl (pa_cons (C8.pe_c c_rolled_picture hr (by decide) rfl (pa_cons (pe_ix ix_list (pe_fld (pv 6) rfl) (pv 2) (fun _ _ => rfl)) (pa_cons (pv 3) (pa_cons (pv 4) pa_nil)))) (pa_cons (pv 5) pa_nil))) pa_nil))))))), ?_⟩
    have es : Mu34.step (some s) (.rolled m y i n x) = (some s, match Mu34.sealOf s m with
      | none => [-2]
      | some q => if rollNo q y i n x then [-1] else Mu34.nums (Mu34.rolled (q.getD y []) i n x).flatten) := rfl
    rw [es] at k
    refine ⟨_, rfl, _, rfl, I, _, s, _, m, rfl, hI, hC, _, rfl, ?_⟩
    by_cases hn : m < s.seals.length
    case neg =>
      rw [show Mu34.sealOf s m = none from List.getElem?_eq_none (by omega)] at k
      rw [decide_eq_false hn]
      refine iteT ⟨by show 1 ≤ sizeLine; decide, fun l nl => ?_⟩
      exact k.list hC (G.refl hI) nl
    case pos =>
      obtain ⟨q, eq⟩ : ∃ q, s.seals[m]? = some q := ⟨_, List.getElem?_eq_getElem hn⟩
      rw [show Mu34.sealOf s m = some q from eq] at k
      have k : RetS CC CS CP I H (.ref a) (a :: as :: ap :: (gs ++ ps)) (some s, if rollNo q y i n x then [-1] else Mu34.nums (Mu34.rolled (q.getD y []) i n x).flatten) Q := k
      obtain ⟨sb, dxs, g, ws, esb, eg, hsb, hg, hw⟩ := h4.get eq
      have lw := hw.length
      rw [decide_eq_true hn]
      refine iteF ⟨_, rfl, a, CC, dx, _, _, rfl, h1, TC.cc, TC.c3, coF3, _, rfl, as, svs, (m : Int), .ref sb, rfl, rfl, SqL.of h2, atI_nat esb, ?_⟩
      refine ⟨_, rfl, _, rfl, _, rfl, _, rfl, _, rfl, I, sb, dxs, g, ws, q, y, i, n, x, rfl, hI, hsb, hg, hw, _, rfl, ?_⟩
      by_cases hr' : rollNo q y i n x
      · rw [if_pos hr'] at k
        rw [decide_eq_true hr']
        refine iteT ⟨by show 1 ≤ sizeLine; decide, fun l nl => ?_⟩
        exact k.list hC (G.refl hI) nl
      · rw [if_neg hr'] at k
        rw [decide_eq_false hr']
        have c1 : y < q.length := by
          unfold rollNo at hr'
          omega
        obtain ⟨r, er⟩ : ∃ r, q[y]? = some r := ⟨_, List.getElem?_eq_getElem c1⟩
        obtain ⟨x2, ex2, rx⟩ := hw.getR er
        have rb := wf.rings (List.mem_of_getElem? eq) (List.mem_of_getElem? er)
        have c2 : n ≤ 12 ∧ x ≤ 1 := by
          unfold rollNo at hr'
          omega
        have lr : (rolledP r i n).length = n := by simp [rolledP]
        have hr3 : ∀ c ∈ rolledP r i n, c.length = s.height := fun c hc => by
          unfold rolledP at hc
          obtain ⟨d, _, rfl⟩ := List.mem_map.mp hc
          have hm : (i + d) % r.length < r.length := Nat.mod_lt _ (by omega)
          rw [getD_of (List.getElem?_eq_getElem hm)]
          exact rb.2.2.1 _ (List.getElem_mem hm)
        have sl : Sh s.height n (Mu34.laid x (rolledP r i n)) := by
          unfold Mu34.laid
          split
          · exact sh_over ⟨lr, hr3⟩
          · exact ⟨lr, hr3⟩
        have fl : (Mu34.laid x (rolledP r i n)).flatten.length ≤ 12 * 3 := flat_small sl.2 (by rw [sl.1]; exact c2.1) wf.h3
        rw [getD_of er, rolled_laid] at k
        refine iteF ⟨_, rfl, sb, CS, dxs, _, _, rfl, hI _ _ hsb, TC.cs, TC.s1, seF1, _, rfl, g, ws, (y : Int), x2, rfl, rfl, SqL.of hg, atI_nat ex2, _, rfl, _, rfl, I, x2, r, i, n, rfl, hI, rx, by omega, by omega, fun I1 H1 v1 g1 r1 => ?_⟩
        refine ⟨_, rfl, I1, v1, _, x, rfl, g1.b, r1, by omega, c2.2, fun I2 H2 v2 g2 r2 => ?_⟩
        refine ⟨I2, v2, _, rfl, g2.b, r2, by omega, fun I3 H3 v3 g3 r3 => ?_⟩
        exact k.same hC ((g1.trans g2).trans g3) (col_ints r3)
end
end CR

namespace CR
open PySem PySem.Spec PyProof.Rows L2
structure TopD (K : PySem.W.Frag) (mg : Str → Option Value) (aW : Addr) : Prop extends TopG K mg aW where
  SEAL : Cst mg "SEAL" (.int 1)
  CUT : Cst mg "CUT" (.int 2)
  SAME : Cst mg "SAME" (.int 3)
  PIECE : Cst mg "PIECE" (.int 4)
  FITS : Cst mg "FITS" (.int 5)
  LEAST : Cst mg "LEAST" (.int 6)
  REBUILT : Cst mg "REBUILT" (.int 7)
  JOIN : Cst mg "JOIN" (.int 8)
  AGES : Cst mg "AGES" (.int 9)
  WHICH : Cst mg "WHICH" (.int 10)
  CLAIM : Cst mg "CLAIM" (.int 11)
  DROP : Cst mg "DROP" (.int 12)
  CUTS : Cst mg "CUTS" (.int 13)
  LOOK : Cst mg "LOOK" (.int 14)
  NOW : Cst mg "NOW" (.int 15)
  ROLLED : Cst mg "ROLLED" (.int 16)
section
variable {P : Program} {w : World} {K : PySem.W.Frag} {mg : Str → Option Value} {base : Heap} {aW CC CS CP CK : Addr}
theorem call_eq {p q : Int} {ns ms : List Int} {xs ys : List (List Int)} (h : (p :: ns) :: xs = (q :: ms) :: ys) : p = q ∧ ns = ms ∧ xs = ys := ⟨(List.cons.inj (List.cons.inj h).1).1, (List.cons.inj (List.cons.inj h).1).2, (List.cons.inj h).2⟩
/-! ### giving_answer -/
abbrev s_giving_answer : Stmt := top 116
abbrev N_giving_answer : List Str := ["collection", "call", "numbers"]
theorem sc_giving_answer : FnScope N_giving_answer ["collection", "call"] (defScope s_giving_answer) := ⟨rfl, rfl, rfl, by decide +kernel, rfl, by decide +kernel, by decide +kernel⟩
def spGiving (CK CC CS CP : Addr) : Sp := fun vs H Q _ => ∃ (I : Hp) (v u : V) (s : Mu34.State) (M : List Addr) (p : Int) (ns : List Int) (xs : List (List Int)) (x : Mu34.Call), vs = [v, u] ∧ Same I H ∧ CollR CC CS CP I H v s M ∧ Wf s ∧ CallR CK I u ((p :: ns) :: xs) ∧ Mu34Neutral.asked1 ((p :: ns) :: xs) = true ∧ Mu34Neutral.callOf ((p :: ns) :: xs) = some x ∧ 9 ≤ p ∧ RetS CC CS CP I H v M (Mu34.step (some s) x) Q
theorem ok_giving_answer (T : TopD K mg aW) (TK : ClT K CK) (D : Dn K mg "giving_answer" s_giving_answer ["collection", "call"]) (c_find_ages : C8.Cal P w K mg base 6 "find_ages" (spFindAges CC CS CP) []) (c_find_seals : C8.Cal P w K mg base 6 "find_seals" (spFindSeals CC CS CP) [])
    (c_claim_age : C8.Cal P w K mg base 5 "claim_age" (spClaimAge CC CS CP) []) (c_drop_piece : C8.Cal P w K mg base 2 "drop_piece" (spDrop CC CS CP) []) (c_tell_cuts : C8.Cal P w K mg base 3 "tell_cuts" (spCuts CC CS CP) []) (c_look_at : C8.Cal P w K mg base 2 "look_at" (spLook CC CS CP) [])
    (c_show_now : C8.Cal P w K mg base 3 "show_now" (spNow CC CS CP) []) (c_roll : C8.Cal P w K mg base 2 "roll" (spRoll CC CS CP) []) :
    C8.Cal P w K mg base 7 "giving_answer" (spGiving CK CC CS CP) [] := by
  refine D.cal sc_giving_answer (fun vs H Q E h => ?_) (fun f cdv A outer s H vs Q E hr h => ?_)
  · obtain ⟨I, v, u, s, M, p, ns, xs, x, rfl, _⟩ := h
    rfl
  · obtain ⟨I, v, u, s, M, p, ns, xs, x, rfl, hI, hC, wf, ⟨b, dxb, p', ns', xs', vn, vl, epc, rfl, hb, hn, hl⟩, ask, ec, p9, k⟩ := h
    obtain ⟨rfl, rfl, rfl⟩ := call_eq epc
    refine ⟨_, (pss_cons (ps_set (i := 2) sc_giving_answer.nd rfl (Or.inl rfl) (pe_fld (pv 1) rfl))
        (pss_cons (ps_if (pt_cmpR op_eq (pe_fld (pv 1) rfl) (C8.pe_gc rfl T.AGES) (nomark _)) (pss_one (ps_ret (C8.pe_c c_find_ages hr (by decide) rfl (pa_cons (pv 0) (pa_cons (pe_ix ix_list (pv 2) pe_int (fun _ _ => rfl)) (pa_cons (pe_ix ix_list (pv 2) pe_int (fun _ _ => rfl)) pa_nil)))))) pss_nil)
        (pss_cons (ps_if (pt_cmpR op_eq (pe_fld (pv 1) rfl) (C8.pe_gc rfl T.WHICH) (nomark _)) (pss_one (ps_ret (C8.pe_c c_find_seals hr (by decide) rfl (pa_cons (pv 0) (pa_cons (pe_ix ix_list (pv 2) pe_int (fun _ _ => rfl)) pa_nil))))) pss_nil)
        (pss_cons (ps_if (pt_cmpR op_eq (pe_fld (pv 1) rfl) (C8.pe_gc rfl T.CLAIM) (nomark _)) (pss_one (ps_ret (C8.pe_c c_claim_age hr (by decide) rfl (pa_cons (pv 0) (pa_cons (pe_ix ix_list (pv 2) pe_int (fun _ _ => rfl)) (pa_cons (pe_ix ix_list (pv 2) pe_int (fun _ _ => rfl)) (pa_cons (pe_ix ix_list (pv 2) pe_int (fun _ _ => rfl)) pa_nil))))))) pss_nil)
        (pss_cons (ps_if (pt_cmpR op_eq (pe_fld (pv 1) rfl) (C8.pe_gc rfl T.DROP) (nomark _)) (pss_one (ps_ret (C8.pe_c c_drop_piece hr (by decide) rfl (pa_cons (pv 0) (pa_cons (pe_ix ix_list (pv 2) pe_int (fun _ _ => rfl)) pa_nil))))) pss_nil)
        (pss_cons (ps_if (pt_cmpR op_eq (pe_fld (pv 1) rfl) (C8.pe_gc rfl T.CUTS) (nomark _)) (pss_one (ps_ret (C8.pe_c c_tell_cuts hr (by decide) rfl (pa_cons (pv 0) (pa_cons (pe_ix ix_list (pv 2) pe_int (fun _ _ => rfl)) pa_nil))))) pss_nil)
        (pss_cons (ps_if (pt_cmpR op_eq (pe_fld (pv 1) rfl) (C8.pe_gc rfl T.LOOK) (nomark _)) (pss_one (ps_ret (C8.pe_c c_look_at hr (by decide) rfl (pa_cons (pv 0) (pa_cons (pe_ix ix_list (pv 2) pe_int (fun _ _ => rfl)) pa_nil))))) pss_nil)
        (pss_cons (ps_if (pt_cmpR op_eq (pe_fld (pv 1) rfl) (C8.pe_gc rfl T.NOW) (nomark _)) (pss_one (ps_ret (C8.pe_c c_show_now hr (by decide) rfl (pa_cons (pv 0) (pa_cons (pe_ix ix_list (pv 2) pe_int (fun _ _ => rfl)) pa_nil))))) pss_nil)
        (pss_cons (ps_if (pt_cmpR op_eq (pe_fld (pv 1) rfl) (C8.pe_gc rfl T.ROLLED) (nomark _)) (pss_one (ps_ret (C8.pe_c c_roll hr (by decide) rfl (pa_cons (pv 0) (pa_cons (pe_ix ix_list (pv 2) pe_int (fun _ _ => rfl)) (pa_cons (pe_ix ix_list (pv 2) pe_int (fun _ _ => rfl)) (pa_cons (pe_ix ix_list (pv 2) pe_int (fun _ _ => rfl)) (pa_cons (pe_ix ix_list (pv 2) pe_int (fun _ _ => rfl)) (pa_cons (pe_ix ix_list (pv 2) pe_int (fun _ _ => rfl)) pa_nil))))))))) pss_nil)
        (pss_one ps_never)))))))))), ?_⟩
    have hb' := hI _ _ hb
    have num : ∀ {Q : VK}, Q vn H → tFld K (tVar 1) "numbers" [some v, some (.ref b), none] H Q := fun q => ⟨_, rfl, b, CK, dxb, _, _, rfl, hb', TK.cl, TK.n2, clF2 _ _ _, q⟩
    refine xSetE (fun zz => [some v, some (.ref b), some zz]) (fun _ => rfl) (num ?_)
    obtain ⟨an, rfl, han⟩ := id hn
    have han' := hI _ _ han
    have ix : ∀ (i : Nat) {z : Int} {Q : VK}, ns[i]? = some z → Q (.int z) H → tOp (rIxL K) (tVar 2) (tC (.int (i : Int))) [some v, some (.ref b), some (.ref an)] H Q := fun i z Q e q => ⟨_, rfl, an, _, (i : Int), .int z, rfl, rfl, SqL.of han', atI_nat (by rw [List.getElem?_map, e]; rfl), q⟩
    unfold Mu34Neutral.asked1 at ask
    split at ask
    case h_10 a1 a2 heq =>
      obtain ⟨rfl, rfl, rfl⟩ := call_eq heq
      rw [Bool.and_eq_true] at ask
      obtain ⟨m1, rfl, _⟩ := within_nat (n := 9) ask.1
      obtain ⟨m2, rfl, _⟩ := within_nat (n := 100) ask.2
      have ex : x = .ages m1 m2 := (Option.some.inj ec).symm
      subst ex
      refine xTake TK hb' rfl rfl ?_
      exact ⟨_, rfl, ix 0 rfl (ix 1 rfl ⟨I, v, s, M, m1, m2, rfl, hI, hC, wf, k⟩)⟩
    case h_11 a1 heq =>
      obtain ⟨rfl, rfl, rfl⟩ := call_eq heq
      obtain ⟨m1, rfl, _⟩ := within_nat (n := 100) ask
      have ex : x = .which m1 := (Option.some.inj ec).symm
      subst ex
      refine xSkip TK hb' rfl (by decide) (xTake TK hb' rfl rfl ?_)
      exact ⟨_, rfl, ix 0 rfl ⟨I, v, s, M, m1, rfl, hI, hC, wf, k⟩⟩
    case h_12 a1 a2 a3 heq =>
      obtain ⟨rfl, rfl, rfl⟩ := call_eq heq
      rw [Bool.and_eq_true, Bool.and_eq_true] at ask
      obtain ⟨m1, rfl, _⟩ := within_nat (n := 100) ask.1
      obtain ⟨m2, rfl, _⟩ := within_nat (n := 9) ask.2.1
      obtain ⟨m3, rfl, _⟩ := within_nat (n := 9) ask.2.2
      have ex : x = .claim m1 m2 m3 := (Option.some.inj ec).symm
      subst ex
      refine xSkip TK hb' rfl (by decide) (xSkip TK hb' rfl (by decide) (xTake TK hb' rfl rfl ?_))
      exact ⟨_, rfl, ix 0 rfl (ix 1 rfl (ix 2 rfl ⟨I, v, s, M, m1, m2, m3, rfl, hI, hC, wf, k⟩))⟩
    case h_13 a1 heq =>
      obtain ⟨rfl, rfl, rfl⟩ := call_eq heq
      obtain ⟨m1, rfl, _⟩ := within_nat (n := 100) ask
      have ex : x = .drop m1 := (Option.some.inj ec).symm
      subst ex
      refine xSkip TK hb' rfl (by decide) (xSkip TK hb' rfl (by decide) (xSkip TK hb' rfl (by decide) (xTake TK hb' rfl rfl ?_)))
      exact ⟨_, rfl, ix 0 rfl ⟨I, v, s, M, m1, rfl, hI, hC, wf, k⟩⟩
    case h_14 a1 heq =>
      obtain ⟨rfl, rfl, rfl⟩ := call_eq heq
      obtain ⟨m1, rfl, _⟩ := within_nat (n := 9) ask
      have ex : x = .cuts m1 := (Option.some.inj ec).symm
      subst ex
      refine xSkip TK hb' rfl (by decide) (xSkip TK hb' rfl (by decide) (xSkip TK hb' rfl (by decide) (xSkip TK hb' rfl (by decide) (xTake TK hb' rfl rfl ?_))))
      exact ⟨_, rfl, ix 0 rfl ⟨I, v, s, M, m1, rfl, hI, hC, wf, k⟩⟩
    case h_15 a1 heq =>
      obtain ⟨rfl, rfl, rfl⟩ := call_eq heq
      obtain ⟨m1, rfl, _⟩ := within_nat (n := 100) ask
      have ex : x = .look m1 := (Option.some.inj ec).symm
      subst ex
      refine xSkip TK hb' rfl (by decide) (xSkip TK hb' rfl (by decide) (xSkip TK hb' rfl (by decide) (xSkip TK hb' rfl (by decide) (xSkip TK hb' rfl (by decide) (xTake TK hb' rfl rfl ?_)))))
      exact ⟨_, rfl, ix 0 rfl ⟨I, v, s, M, m1, rfl, hI, hC, wf, k⟩⟩
    case h_16 a1 heq =>
      obtain ⟨rfl, rfl, rfl⟩ := call_eq heq
      obtain ⟨m1, rfl, _⟩ := within_nat (n := 9) ask
      have ex : x = .now m1 := (Option.some.inj ec).symm
      subst ex
      refine xSkip TK hb' rfl (by decide) (xSkip TK hb' rfl (by decide) (xSkip TK hb' rfl (by decide) (xSkip TK hb' rfl (by decide) (xSkip TK hb' rfl (by decide) (xSkip TK hb' rfl (by decide) (xTake TK hb' rfl rfl ?_))))))
      exact ⟨_, rfl, ix 0 rfl ⟨I, v, s, M, m1, rfl, hI, hC, wf, k⟩⟩
    case h_17 a1 a2 a3 a4 a5 heq =>
      obtain ⟨rfl, rfl, rfl⟩ := call_eq heq
      rw [Bool.and_eq_true, Bool.and_eq_true, Bool.and_eq_true, Bool.and_eq_true] at ask
      obtain ⟨m1, rfl, _⟩ := within_nat (n := 9) ask.1
      obtain ⟨m2, rfl, _⟩ := within_nat (n := 9) ask.2.1
      obtain ⟨m3, rfl, _⟩ := within_nat (n := 20) ask.2.2.1
      obtain ⟨m4, rfl, _⟩ := within_nat (n := 20) ask.2.2.2.1
      obtain ⟨m5, rfl, _⟩ := within_nat (n := 3) ask.2.2.2.2
      have ex : x = .rolled m1 m2 m3 m4 m5 := (Option.some.inj ec).symm
      subst ex
      refine xSkip TK hb' rfl (by decide) (xSkip TK hb' rfl (by decide) (xSkip TK hb' rfl (by decide) (xSkip TK hb' rfl (by decide) (xSkip TK hb' rfl (by decide) (xSkip TK hb' rfl (by decide) (xSkip TK hb' rfl (by decide) (xTake TK hb' rfl rfl ?_)))))))
      exact ⟨_, rfl, ix 0 rfl (ix 1 rfl (ix 2 rfl (ix 3 rfl (ix 4 rfl ⟨I, v, s, M, m1, m2, m3, m4, m5, rfl, hI, hC, wf, k⟩))))⟩
    all_goals first
      | (exfalso; exact Bool.false_ne_true ask)
      | (rename_i heq
         exfalso
         obtain ⟨e, _, _⟩ := call_eq heq
         omega)
/-! ### collection_answer -/
abbrev s_collection_answer : Stmt := top 117
abbrev N_collection_answer : List Str := ["collection", "call", "numbers"]
theorem sc_collection_answer : FnScope N_collection_answer ["collection", "call"] (defScope s_collection_answer) := ⟨rfl, rfl, rfl, by decide +kernel, rfl, by decide +kernel, by decide +kernel⟩
theorem ok_collection_answer (T : TopD K mg aW) (TK : ClT K CK) (D : Dn K mg "collection_answer" s_collection_answer ["collection", "call"]) (c_add_seal : C8.Cal P w K mg base 5 "add_seal" (spAddSeal CC CS CP) []) (c_cut_seal : C8.Cal P w K mg base 5 "cut_seal" (spCutSeal CC CS CP) [])
    (c_compare_rings : C8.Cal P w K mg base 4 "compare_rings" (spCompare CC CS CP) []) (c_add_piece : C8.Cal P w K mg base 4 "add_piece" (spAddPiece CC CS CP) []) (c_find_fits : C8.Cal P w K mg base 5 "find_fits" (spFits CC CS CP) []) (c_find_least : C8.Cal P w K mg base 10 "find_least" (spFindLeast CC CS CP) [])
    (c_rebuild : C8.Cal P w K mg base 10 "rebuild" (spRebuild CC CS CP) []) (c_join_pieces : C8.Cal P w K mg base 3 "join_pieces" (spJoin CC CS CP) []) (c_giving_answer : C8.Cal P w K mg base 7 "giving_answer" (spGiving CK CC CS CP) []) :
    C8.Cal P w K mg base 11 "collection_answer" (spCollAnswer CK CC CS CP) [] := by
  refine D.cal sc_collection_answer (fun vs H Q E h => ?_) (fun f cdv A outer s H vs Q E hr h => ?_)
  · obtain ⟨I, v, u, s, M, c, x, rfl, _⟩ := h
    rfl
  · obtain ⟨I, v, u, s, M, c, x, rfl, hI, hC, wf, hc, ask, ec, nb, k⟩ := h
    obtain ⟨b, dxb, p, ns, xs, vn, vl, rfl, rfl, hb, hn, hl⟩ := id hc
    refine ⟨_, (pss_cons (ps_set (i := 2) sc_collection_answer.nd rfl (Or.inl rfl) (pe_fld (pv 1) rfl))
        (pss_cons (ps_if (pt_cmpR op_eq (pe_fld (pv 1) rfl) (C8.pe_gc rfl T.SEAL) (nomark _)) (pss_one (ps_ret (C8.pe_c c_add_seal hr (by decide) rfl (pa_cons (pv 0) (pa_cons (pe_fld (pv 1) rfl) pa_nil))))) pss_nil)
        (pss_cons (ps_if (pt_cmpR op_eq (pe_fld (pv 1) rfl) (C8.pe_gc rfl T.CUT) (nomark _)) (pss_one (ps_ret (C8.pe_c c_cut_seal hr (by decide) rfl (pa_cons (pv 0) (pa_cons (pe_ix ix_list (pv 2) pe_int (fun _ _ => rfl)) (pa_cons (pe_ix ix_list (pv 2) pe_int (fun _ _ => rfl)) (pa_cons (pe_ix ix_list (pv 2) pe_int (fun _ _ => rfl)) (pa_cons (pe_ix ix_list (pv 2) pe_int (fun _ _ => rfl)) pa_nil)))))))) pss_nil)
        (pss_cons (ps_if (pt_cmpR op_eq (pe_fld (pv 1) rfl) (C8.pe_gc rfl T.SAME) (nomark _)) (pss_one (ps_ret (C8.pe_c c_compare_rings hr (by decide) rfl (pa_cons (pv 0) (pa_cons (pe_ix ix_list (pv 2) pe_int (fun _ _ => rfl)) (pa_cons (pe_fld (pv 1) rfl) pa_nil)))))) pss_nil)
        (pss_cons (ps_if (pt_cmpR op_eq (pe_fld (pv 1) rfl) (C8.pe_gc rfl T.PIECE) (nomark _)) (pss_one (ps_ret (C8.pe_c c_add_piece hr (by decide) rfl (pa_cons (pv 0) (pa_cons (pe_ix ix_list (pv 2) pe_int (fun _ _ => rfl)) (pa_cons (pe_fld (pv 1) rfl) pa_nil)))))) pss_nil)
        (pss_cons (ps_if (pt_cmpR op_eq (pe_fld (pv 1) rfl) (C8.pe_gc rfl T.FITS) (nomark _)) (pss_one (ps_ret (C8.pe_c c_find_fits hr (by decide) rfl (pa_cons (pv 0) (pa_cons (pe_ix ix_list (pv 2) pe_int (fun _ _ => rfl)) (pa_cons (pe_ix ix_list (pv 2) pe_int (fun _ _ => rfl)) pa_nil)))))) pss_nil)
        (pss_cons (ps_if (pt_cmpR op_eq (pe_fld (pv 1) rfl) (C8.pe_gc rfl T.LEAST) (nomark _)) (pss_one (ps_ret (C8.pe_c c_find_least hr (by decide) rfl (pa_cons (pv 0) (pa_cons (pe_ix ix_list (pe_fld (pv 1) rfl) pe_int (fun _ _ => rfl)) pa_nil))))) pss_nil)
        (pss_cons (ps_if (pt_cmpR op_eq (pe_fld (pv 1) rfl) (C8.pe_gc rfl T.REBUILT) (nomark _)) (pss_one (ps_ret (C8.pe_c c_rebuild hr (by decide) rfl (pa_cons (pv 0) (pa_cons (pe_ix ix_list (pe_fld (pv 1) rfl) pe_int (fun _ _ => rfl)) pa_nil))))) pss_nil)
        (pss_cons (ps_if (pt_cmpR op_eq (pe_fld (pv 1) rfl) (C8.pe_gc rfl T.JOIN) (nomark _)) (pss_one (ps_ret (C8.pe_c c_join_pieces hr (by decide) rfl (pa_cons (pv 0) (pa_cons (pe_ix ix_list (pv 2) pe_int (fun _ _ => rfl)) (pa_cons (pe_ix ix_list (pv 2) pe_int (fun _ _ => rfl)) (pa_cons (pe_ix ix_list (pv 2) pe_int (fun _ _ => rfl)) pa_nil))))))) pss_nil)
        (pss_one (ps_ret (C8.pe_c c_giving_answer hr (by decide) rfl (pa_cons (pv 0) (pa_cons (pv 1) pa_nil)))))))))))))), ?_⟩
    have hb' := hI _ _ hb
    have num : ∀ {Q : VK}, Q vn H → tFld K (tVar 1) "numbers" [some v, some (.ref b), none] H Q := fun q => ⟨_, rfl, b, CK, dxb, _, _, rfl, hb', TK.cl, TK.n2, clF2 _ _ _, q⟩
    refine xSetE (fun zz => [some v, some (.ref b), some zz]) (fun _ => rfl) (num ?_)
    by_cases p9 : 9 ≤ p
    · refine xSkip TK hb' rfl (by omega) (xSkip TK hb' rfl (by omega) (xSkip TK hb' rfl (by omega) (xSkip TK hb' rfl (by omega) (xSkip TK hb' rfl (by omega) (xSkip TK hb' rfl (by omega) (xSkip TK hb' rfl (by omega) (xSkip TK hb' rfl (by omega) (?_))))))))
      exact ⟨_, rfl, _, rfl, I, v, _, s, M, p, ns, xs, x, rfl, hI, hC, wf, hc, ask, ec, p9, k⟩
    have lst : ∀ {Q : VK}, Q vl H → tFld K (tVar 1) "lists" [some v, some (.ref b), some vn] H Q := fun q => ⟨_, rfl, b, CK, dxb, _, _, rfl, hb', TK.cl, TK.n3, clF3 _ _ _, q⟩
    obtain ⟨an, rfl, han⟩ := id hn
    have han' := hI _ _ han
    have ix : ∀ (i : Nat) {z : Int} {Q : VK}, ns[i]? = some z → Q (.int z) H → tOp (rIxL K) (tVar 2) (tC (.int (i : Int))) [some v, some (.ref b), some (.ref an)] H Q := fun i z Q e q => ⟨_, rfl, an, _, (i : Int), .int z, rfl, rfl, SqL.of han', atI_nat (by rw [List.getElem?_map, e]; rfl), q⟩
    unfold Mu34Neutral.asked1 at ask
    split at ask
    case h_2 pp heq =>
      obtain ⟨rfl, rfl, rfl⟩ := call_eq heq
      have ex : x = .engrave (xs.map Mu34Neutral.nats) := (Option.some.inj ec).symm
      subst ex
      obtain ⟨hp, ok⟩ := ints_pic hl ask
      refine xTake TK hb' rfl rfl ?_
      exact ⟨_, rfl, lst ⟨I, v, vl, s, M, _, rfl, hI, hC, wf, hp, ok.l16, ok.l5, k⟩⟩
    case h_3 a1 a2 a3 a4 heq =>
      obtain ⟨rfl, rfl, rfl⟩ := call_eq heq
      rw [Bool.and_eq_true, Bool.and_eq_true, Bool.and_eq_true] at ask
      obtain ⟨m1, rfl, _⟩ := within_nat (n := 9) ask.1
      obtain ⟨m2, rfl, _⟩ := within_nat (n := 20) ask.2.1
      obtain ⟨m3, rfl, _⟩ := within_nat (n := 9) ask.2.2.1
      obtain ⟨m4, rfl, _⟩ := within_nat (n := 9) ask.2.2.2
      have ex : x = .cut m1 m2 m3 m4 := (Option.some.inj ec).symm
      subst ex
      refine xSkip TK hb' rfl (by decide) (xTake TK hb' rfl rfl ?_)
      exact ⟨_, rfl, ix 0 rfl (ix 1 rfl (ix 2 rfl (ix 3 rfl ⟨I, v, s, M, m1, m2, m3, m4, rfl, hI, hC, wf, k⟩)))⟩
    case h_4 a1 pp heq =>
      obtain ⟨rfl, rfl, rfl⟩ := call_eq heq
      rw [Bool.and_eq_true] at ask
      obtain ⟨m1, rfl, _⟩ := within_nat (n := 20) ask.1
      have ex : x = .same m1 (xs.map Mu34Neutral.nats) := (Option.some.inj ec).symm
      subst ex
      obtain ⟨hp, ok⟩ := ints_pic hl ask.2
      refine xSkip TK hb' rfl (by decide) (xSkip TK hb' rfl (by decide) (xTake TK hb' rfl rfl ?_))
      exact ⟨_, rfl, ix 0 rfl (lst ⟨I, v, vl, s, M, m1, _, rfl, hI, hC, wf, hp, ok.l16, ok.l5, k⟩)⟩
    case h_5 a1 pp heq =>
      obtain ⟨rfl, rfl, rfl⟩ := call_eq heq
      rw [Bool.and_eq_true] at ask
      obtain ⟨m1, rfl, _⟩ := within_nat (n := 200) ask.1
      have ex : x = .piece m1 (xs.map Mu34Neutral.nats) := (Option.some.inj ec).symm
      subst ex
      obtain ⟨hp, ok⟩ := ints_pic hl ask.2
      refine xSkip TK hb' rfl (by decide) (xSkip TK hb' rfl (by decide) (xSkip TK hb' rfl (by decide) (xTake TK hb' rfl rfl ?_)))
      exact ⟨_, rfl, ix 0 rfl (lst ⟨I, v, vl, s, M, m1, _, rfl, hI, hC, wf, hp, ok.l16, ok.l5, k⟩)⟩
    case h_6 a1 a2 heq =>
      obtain ⟨rfl, rfl, rfl⟩ := call_eq heq
      rw [Bool.and_eq_true] at ask
      obtain ⟨m1, rfl, _⟩ := within_nat (n := 9) ask.1
      obtain ⟨m2, rfl, _⟩ := within_nat (n := 100) ask.2
      have ex : x = .fits m1 m2 := (Option.some.inj ec).symm
      subst ex
      refine xSkip TK hb' rfl (by decide) (xSkip TK hb' rfl (by decide) (xSkip TK hb' rfl (by decide) (xSkip TK hb' rfl (by decide) (xTake TK hb' rfl rfl ?_))))
      exact ⟨_, rfl, ix 0 rfl (ix 1 rfl ⟨I, v, s, M, m1, m2, rfl, hI, hC, wf, k⟩)⟩
    case h_7 l heq =>
      obtain ⟨rfl, rfl, rfl⟩ := call_eq heq
      have ex : x = .least (Mu34Neutral.nats l) := (Option.some.inj ec).symm
      subst ex
      obtain ⟨al, vs, rfl, hal, hvs⟩ := id hl
      cases hvs with
      | cons h0 ht =>
        cases ht
        obtain ⟨hc0, hl0⟩ := ints_pieces h0 ask
        refine xSkip TK hb' rfl (by decide) (xSkip TK hb' rfl (by decide) (xSkip TK hb' rfl (by decide) (xSkip TK hb' rfl (by decide) (xSkip TK hb' rfl (by decide) (xTake TK hb' rfl rfl ?_)))))
        exact ⟨_, rfl, _, rfl, b, CK, dxb, _, _, rfl, hb', TK.cl, TK.n3, clF3 _ _ _, al, _, 0, _, rfl, rfl, SqL.of (hI _ _ hal), atI_nat (j := 0) rfl, I, v, _, s, M, _, rfl, hI, hC, wf, hc0, hl0, k⟩
    case h_8 l heq =>
      obtain ⟨rfl, rfl, rfl⟩ := call_eq heq
      have ex : x = .rebuilt (Mu34Neutral.nats l) := (Option.some.inj ec).symm
      subst ex
      obtain ⟨al, vs, rfl, hal, hvs⟩ := id hl
      cases hvs with
      | cons h0 ht =>
        cases ht
        obtain ⟨hc0, hl0⟩ := ints_pieces h0 ask
        refine xSkip TK hb' rfl (by decide) (xSkip TK hb' rfl (by decide) (xSkip TK hb' rfl (by decide) (xSkip TK hb' rfl (by decide) (xSkip TK hb' rfl (by decide) (xSkip TK hb' rfl (by decide) (xTake TK hb' rfl rfl ?_))))))
        exact ⟨_, rfl, _, rfl, b, CK, dxb, _, _, rfl, hb', TK.cl, TK.n3, clF3 _ _ _, al, _, 0, _, rfl, rfl, SqL.of (hI _ _ hal), atI_nat (j := 0) rfl, I, v, _, s, M, _, rfl, hI, hC, wf, hc0, hl0, k⟩
    case h_9 a1 a2 a3 heq =>
      obtain ⟨rfl, rfl, rfl⟩ := call_eq heq
      rw [Bool.and_eq_true, Bool.and_eq_true] at ask
      obtain ⟨m1, rfl, _⟩ := within_nat (n := 100) ask.1
      obtain ⟨m2, rfl, _⟩ := within_nat (n := 100) ask.2.1
      have ex : x = .join m1 m2 a3 := (Option.some.inj ec).symm
      subst ex
      refine xSkip TK hb' rfl (by decide) (xSkip TK hb' rfl (by decide) (xSkip TK hb' rfl (by decide) (xSkip TK hb' rfl (by decide) (xSkip TK hb' rfl (by decide) (xSkip TK hb' rfl (by decide) (xSkip TK hb' rfl (by decide) (xTake TK hb' rfl rfl ?_)))))))
      exact ⟨_, rfl, ix 0 rfl (ix 1 rfl (ix 2 rfl ⟨I, v, s, M, m1, m2, a3, rfl, hI, hC, wf, k⟩))⟩
    case h_1 a1 a2 heq =>
      obtain ⟨rfl, rfl, rfl⟩ := call_eq heq
      exact absurd (Option.some.inj ec).symm (nb _ _)
    all_goals first
      | (exfalso; exact Bool.false_ne_true ask)
      | (rename_i heq
         exfalso
         obtain ⟨e, _, _⟩ := call_eq heq
         omega)
end
end CR

namespace CR
open PySem PySem.Spec PyProof.Rows L2

section
variable {K : PySem.W.Frag} {mg : Str → Option Value} {h : Heap}
theorem dn_mk {x : Str} {st : Stmt} {ps : List Str} {f : Addr} {od an : Option Addr} {sl : Array (Option Value)} {oc kV dc pm cd ct : Value} (X : K.In h) (N : h.Ns mainGlobals mg) (a : PySem.W.nsIn K mainGlobals x = some (some (.ref f))) (l : K.lookup f = some ⟨oc, od, .func (PySem.W.fnOf x x (defArgs st) (defBody st) (defScope st) .none kV dc pm an cd ct), sl⟩)
    (c : PySem.W.codeIn K cd x = true) (k : PySem.W.keepIn K (.ref f) = true) (b : ∀ (kV doc pm : Value) (an : Option Addr) (cdv ct : Value) (us : List Value), us.length = ps.length → bindArgs (PySem.W.fnOf x x (defArgs st) (defBody st) (defScope st) .none kV doc pm an cdv ct) ⟨us, []⟩ = pure (ps.zip us)) : Dn K mg x st ps :=
  ⟨f, _, fun_mk l c k, PySem.W.mg_of X N a, (fun_mk l c k).binds b⟩
theorem di_mk {x qual : Str} {st : Stmt} {ps : List Str} {C f : Addr} {od an : Option Addr} {sl : Array (Option Value)} {oc kV dc pm cd ct : Value} (X : K.In h) (N : h.Ns mainGlobals mg) (a : PySem.W.nsIn K mainGlobals x = some (some (.ref C))) (i : PySem.W.findIn K (.ref C) "__init__" = some (some (.ref f))) (l : K.lookup f = some ⟨oc, od, .func (PySem.W.fnOf "__init__" qual (defArgs st) (defBody st) (defScope st) .none kV dc pm an cd ct), sl⟩)
    (c : PySem.W.codeIn K cd qual = true) (k : PySem.W.keepIn K (.ref f) = true) (g : PySem.W.isFn K (.ref f) = true) (mk : PySem.W.makesIn K C = true) (kc : PySem.W.keepIn K (.ref C) = true)
    (b : ∀ (kV doc pm : Value) (an : Option Addr) (cdv ct : Value) (us : List Value), us.length = ps.length → bindArgs (PySem.W.fnOf "__init__" qual (defArgs st) (defBody st) (defScope st) .none kV doc pm an cdv ct) ⟨us, []⟩ = pure (ps.zip us)) : Di K mg x qual C st ps :=
  ⟨f, _, fun_mk l c k, ⟨mk, i, g, kc⟩, PySem.W.mg_of X N a, (fun_mk l c k).binds b⟩
theorem cst_int {x : Str} {z : Int} {t : Tok} (X : K.In h) (N : h.Ns mainGlobals mg) (a : PySem.W.nsIn K mainGlobals x = some (some (.int z t))) : Cst mg x (.int z) := ⟨_, PySem.W.mg_of X N a, t, rfl⟩
theorem cst_ref {x : Str} {p : Addr} (X : K.In h) (N : h.Ns mainGlobals mg) (a : PySem.W.nsIn K mainGlobals x = some (some (.ref p))) : Cst mg x (.ref p) := ⟨_, PySem.W.mg_of X N a, rfl⟩
theorem two_tup {p : Addr} {a b : Int} {t u : Tok} {od : Option Addr} {n : Nat} {sl : Array (Option Value)} (l : K.lookup p = some ⟨.type "tuple", od, .seq #[.int a t, .int b u] n, sl⟩) (H : Hp) : SqT K H p [.int a, .int b] := .inr ⟨_, _, _, l, rfl, rfl, by show 2 ≤ sizeLine; decide, .cons ⟨t, rfl⟩ (.cons ⟨u, rfl⟩ .nil)⟩
end
theorem finish {P : Program} {w : World} {K : PySem.W.Frag} {mg : Str → Option Value} {fa : Addr} {CC CD CK CL CP CS CT aW : Addr}
    (T : TopD K mg aW) (TC : ColT K CC CS CP) (TT : TrT K CT) (TK : ClT K CK) (TD : RdT K CD) (TL : LayT K CL)
    (d_Reader : Di K mg "Reader" "Reader.__init__" CD s_init_Reader ["self", "calls"])
    (d_Tray : Di K mg "Tray" "Tray.__init__" CT s_init_Tray ["self"])
    (d_has_more : Dn K mg "has_more" s_has_more ["reader"])
    (d_Collection : Di K mg "Collection" "Collection.__init__" CC s_init_Collection ["self", "high", "signs"])
    (d_begin : Dn K mg "begin" s_begin ["tray", "high", "signs"])
    (d_is_column : Dn K mg "is_column" s_is_column ["column", "high", "allowed"])
    (d_has_form : Dn K mg "has_form" s_has_form ["picture", "longest", "high", "allowed"])
    (d_is_ring : Dn K mg "is_ring" s_is_ring ["picture", "high", "signs"])
    (d_turned : Dn K mg "turned" s_turned ["picture", "way"])
    (d_spellings : Dn K mg "spellings" s_spellings ["ring"])
    (d_are_same : Dn K mg "are_same" s_are_same ["ring", "other"])
    (d_ring_now : Dn K mg "ring_now" s_ring_now ["seal"])
    (d_seals_like : Dn K mg "seals_like" s_seals_like ["collection", "ring"])
    (d_Seal : Di K mg "Seal" "Seal.__init__" CS s_init_Seal ["self", "ring"])
    (d_add_seal : Dn K mg "add_seal" s_add_seal ["collection", "picture"])
    (d_has_seal : Dn K mg "has_seal" s_has_seal ["collection", "number"])
    (d_can_name : Dn K mg "can_name" s_can_name ["collection", "ring", "column", "cell", "sign"])
    (d_recut : Dn K mg "recut" s_recut ["ring", "column", "cell", "sign"])
    (d_cut_seal : Dn K mg "cut_seal" s_cut_seal ["collection", "number", "column", "cell", "sign"])
    (d_compare_rings : Dn K mg "compare_rings" s_compare_rings ["collection", "count", "picture"])
    (d_is_piece : Dn K mg "is_piece" s_is_piece ["picture", "high", "signs"])
    (d_Piece : Di K mg "Piece" "Piece.__init__" CP s_init_Piece ["self", "year", "picture"])
    (d_add_piece : Dn K mg "add_piece" s_add_piece ["collection", "year", "picture"])
    (d_has_piece : Dn K mg "has_piece" s_has_piece ["collection", "number"])
    (d_cells_differ : Dn K mg "cells_differ" s_cells_differ ["cell", "other"])
    (d_columns_differ : Dn K mg "columns_differ" s_columns_differ ["column", "other"])
    (d_agrees : Dn K mg "agrees" s_agrees ["picture", "ring", "place"])
    (d_places : Dn K mg "places" s_places ["width"])
    (d_agreements : Dn K mg "agreements" s_agreements ["picture", "ring"])
    (d_find_fits : Dn K mg "find_fits" s_find_fits ["collection", "seal_number", "piece_number"])
    (d_naming_refusal : Dn K mg "naming_refusal" s_naming_refusal ["collection", "numbers"])
    (d_columns_together : Dn K mg "columns_together" s_columns_together ["column", "other"])
    (d_with_picture : Dn K mg "with_picture" s_with_picture ["ring", "picture", "place"])
    (d_worn_picture : Dn K mg "worn_picture" s_worn_picture ["width", "high"])
    (d_Laying : Di K mg "Laying" "Laying.__init__" CL s_init_Laying ["self", "ring", "laid_at"])
    (d_lay_more : Dn K mg "lay_more" s_lay_more ["laying", "pictures"])
    (d_lay_in : Dn K mg "lay_in" s_lay_in ["width", "high", "pictures"])
    (d_least_laying : Dn K mg "least_laying" s_least_laying ["collection", "numbers"])
    (d_find_least : Dn K mg "find_least" s_find_least ["collection", "numbers"])
    (d_cells_of : Dn K mg "cells_of" s_cells_of ["picture"])
    (d_rebuild : Dn K mg "rebuild" s_rebuild ["collection", "numbers"])
    (d_join_refusal : Dn K mg "join_refusal" s_join_refusal ["piece", "other", "start", "width"])
    (d_spread : Dn K mg "spread" s_spread ["picture", "start", "width", "high"])
    (d_first_difference : Dn K mg "first_difference" s_first_difference ["picture", "other"])
    (d_join_pieces : Dn K mg "join_pieces" s_join_pieces ["collection", "number", "other_number", "gap"])
    (d_given_to : Dn K mg "given_to" s_given_to ["collection", "seal_number"])
    (d_in_order : Dn K mg "in_order" s_in_order ["year", "age", "other_year", "other_age"])
    (d_given_age : Dn K mg "given_age" s_given_age ["piece"])
    (d_out_of_order : Dn K mg "out_of_order" s_out_of_order ["collection", "number", "seal_number", "age"])
    (d_possible_ages : Dn K mg "possible_ages" s_possible_ages ["collection", "seal_number", "number"])
    (d_find_ages : Dn K mg "find_ages" s_find_ages ["collection", "seal_number", "number"])
    (d_find_seals : Dn K mg "find_seals" s_find_seals ["collection", "number"])
    (d_claim_refusal : Dn K mg "claim_refusal" s_claim_refusal ["collection", "number", "seal_number", "age"])
    (d_claim_age : Dn K mg "claim_age" s_claim_age ["collection", "number", "seal_number", "age"])
    (d_drop_piece : Dn K mg "drop_piece" s_drop_piece ["collection", "number"])
    (d_years_around : Dn K mg "years_around" s_years_around ["pieces", "age"])
    (d_tell_cuts : Dn K mg "tell_cuts" s_tell_cuts ["collection", "seal_number"])
    (d_told_given : Dn K mg "told_given" s_told_given ["piece"])
    (d_look_at : Dn K mg "look_at" s_look_at ["collection", "number"])
    (d_show_now : Dn K mg "show_now" s_show_now ["collection", "number"])
    (d_can_roll : Dn K mg "can_roll" s_can_roll ["seal", "age", "column", "width", "way"])
    (d_rolled_picture : Dn K mg "rolled_picture" s_rolled_picture ["ring", "column", "width"])
    (d_roll : Dn K mg "roll" s_roll ["collection", "number", "age", "column", "width", "way"])
    (d_giving_answer : Dn K mg "giving_answer" s_giving_answer ["collection", "call"])
    (d_collection_answer : Dn K mg "collection_answer" s_collection_answer ["collection", "call"])
    (d_answer : Dn K mg "answer" s_answer ["tray", "call"])
    (d_read_number : Dn K mg "read_number" s_read_number ["reader"])
    (d_read_numbers : Dn K mg "read_numbers" s_read_numbers ["reader"])
    (d_Call : Di K mg "Call" "Call.__init__" CK s_init_Call ["self", "kind", "numbers", "lists"])
    (d_read_call : Dn K mg "read_call" s_read_call ["reader"])
    {fd : FuncData} (F : Fun K "answers" "answers" s_answers fa fd) (base : Heap) : FnOk P w K mg base CX0 13 fa fd ["calls"] (spAns K) := by
  have m_Reader := ok_init_Reader (P := P) (w := w) (base := base) TD d_Reader
  have m_Tray := ok_init_Tray (P := P) (w := w) (base := base) TT d_Tray
  have c_has_more := ok_has_more (P := P) (w := w) (base := base) T.toTopG.toTopT.toTopR.toTop TD d_has_more
  have m_Collection := ok_init_Collection (P := P) (w := w) (base := base) TC d_Collection
  have c_begin := ok_begin (P := P) (w := w) (base := base) T.toTopG.toTopT TC TT d_begin m_Collection
  have c_is_column := ok_is_column (P := P) (w := w) (base := base) T.toTopG.toTopT.toTopR.toTop d_is_column
  have c_has_form := ok_has_form (P := P) (w := w) (base := base) T.toTopG.toTopT.toTopR.toTop d_has_form c_is_column
  have c_is_ring := ok_is_ring (P := P) (w := w) (base := base) T.toTopG.toTopT.toTopR.toTop d_is_ring c_has_form
  have c_turned := ok_turned (P := P) (w := w) (base := base) T.toTopG.toTopT.toTopR.toTop d_turned
  have c_spellings := ok_spellings (P := P) (w := w) (base := base) T.toTopG.toTopT.toTopR.toTop d_spellings c_turned
  have c_are_same := ok_are_same (P := P) (w := w) (base := base) d_are_same c_spellings
  have c_ring_now := ok_ring_now (P := P) (w := w) (base := base) TC d_ring_now
  have c_seals_like := ok_seals_like (P := P) (w := w) (base := base) T.toTopG.toTopT.toTopR TC d_seals_like c_are_same c_ring_now
  have m_Seal := ok_init_Seal (P := P) (w := w) (base := base) TC d_Seal
  have c_add_seal := ok_add_seal (P := P) (w := w) (base := base) T.toTopG.toTopT.toTopR TC d_add_seal c_is_ring c_seals_like m_Seal
  have c_has_seal := ok_has_seal (P := P) (w := w) (base := base) T.toTopG.toTopT.toTopR TC d_has_seal
  have c_can_name := ok_can_name (P := P) (w := w) (base := base) T.toTopG.toTopT.toTopR TC d_can_name
  have c_recut := ok_recut (P := P) (w := w) (base := base) T.toTopG.toTopT.toTopR.toTop d_recut
  have c_cut_seal := ok_cut_seal (P := P) (w := w) (base := base) T.toTopG.toTopT.toTopR TC d_cut_seal c_has_seal c_ring_now c_can_name c_recut c_seals_like
  have c_compare_rings := ok_compare_rings (P := P) (w := w) (base := base) T.toTopG.toTopT.toTopR TC d_compare_rings c_is_ring c_are_same
  have c_is_piece := ok_is_piece (P := P) (w := w) (base := base) T.toTopG.toTopT.toTopR.toTop d_is_piece c_has_form
  have m_Piece := ok_init_Piece (P := P) (w := w) (base := base) TC d_Piece
  have c_add_piece := ok_add_piece (P := P) (w := w) (base := base) T.toTopG.toTopT.toTopR TC d_add_piece c_is_piece m_Piece
  have c_has_piece := ok_has_piece (P := P) (w := w) (base := base) TC d_has_piece
  have c_cells_differ := ok_cells_differ (P := P) (w := w) (base := base) T.toTopG.toTopT.toTopR.toTop d_cells_differ
  have c_columns_differ := ok_columns_differ (P := P) (w := w) (base := base) T.toTopG.toTopT.toTopR.toTop d_columns_differ c_cells_differ
  have c_agrees := ok_agrees (P := P) (w := w) (base := base) T.toTopG.toTopT.toTopR.toTop d_agrees c_turned c_columns_differ
  have c_places := ok_places (P := P) (w := w) (base := base) T.toTopG.toTopT.toTopR.toTop d_places
  have c_agreements := ok_agreements (P := P) (w := w) (base := base) T.toTopG.toTopT.toTopR.toTop d_agreements c_agrees c_places
  have c_find_fits := ok_find_fits (P := P) (w := w) (base := base) T.toTopG.toTopT.toTopR TC d_find_fits c_has_seal c_has_piece c_agreements
  have c_naming_refusal := ok_naming_refusal (P := P) (w := w) (base := base) T.toTopG.toTopT.toTopR TC d_naming_refusal c_has_piece
  have c_columns_together := ok_columns_together (P := P) (w := w) (base := base) T.toTopG.toTopT.toTopR.toTop d_columns_together
  have c_with_picture := ok_with_picture (P := P) (w := w) (base := base) T.toTopG.toTopT.toTopR.toTop d_with_picture c_turned c_columns_differ c_columns_together
  have c_worn_picture := ok_worn_picture (P := P) (w := w) (base := base) T.toTopG.toTopT.toTopR.toTop d_worn_picture
  have m_Laying := ok_init_Laying (P := P) (w := w) (base := base) TL d_Laying
  have c_lay_more := ok_lay_more (P := P) (w := w) (base := base) T.toTopG.toTopT.toTopR.toTop TL d_lay_more c_places c_with_picture m_Laying 3
  have c_lay_in := ok_lay_in (P := P) (w := w) (base := base) T.toTopG.toTopT.toTopR.toTop TL d_lay_in c_with_picture c_worn_picture c_lay_more m_Laying
  have c_least_laying := ok_least_laying (P := P) (w := w) (base := base) T.toTopG.toTopT.toTopR TC d_least_laying c_lay_in
  have c_find_least := ok_find_least (P := P) (w := w) (base := base) T.toTopG.toTopT.toTopR TC TL d_find_least c_naming_refusal c_least_laying
  have c_cells_of := ok_cells_of (P := P) (w := w) (base := base) d_cells_of
  have c_rebuild := ok_rebuild (P := P) (w := w) (base := base) T.toTopG.toTopT.toTopR TC TL d_rebuild c_naming_refusal c_least_laying c_cells_of
  have c_join_refusal := ok_join_refusal (P := P) (w := w) (base := base) T.toTopG.toTopT.toTopR TC d_join_refusal
  have c_spread := ok_spread (P := P) (w := w) (base := base) T.toTopG.toTopT.toTopR.toTop d_spread c_worn_picture
  have c_first_difference := ok_first_difference (P := P) (w := w) (base := base) T.toTopG.toTopT.toTopR.toTop d_first_difference c_cells_differ
  have c_join_pieces := ok_join_pieces (P := P) (w := w) (base := base) T.toTopG.toTopT.toTopR TC d_join_pieces c_has_piece c_join_refusal c_spread c_first_difference c_columns_together
  have c_given_to := ok_given_to (P := P) (w := w) (base := base) T.toTopG TC d_given_to
  have c_in_order := ok_in_order (P := P) (w := w) (base := base) d_in_order
  have c_given_age := ok_given_age (P := P) (w := w) (base := base) TC d_given_age
  have c_out_of_order := ok_out_of_order (P := P) (w := w) (base := base) TC d_out_of_order c_given_to c_in_order c_given_age
  have c_possible_ages := ok_possible_ages (P := P) (w := w) (base := base) T.toTopG TC d_possible_ages c_agreements c_out_of_order
  have c_find_ages := ok_find_ages (P := P) (w := w) (base := base) T.toTopG TC d_find_ages c_has_seal c_has_piece c_possible_ages
  have c_find_seals := ok_find_seals (P := P) (w := w) (base := base) T.toTopG TC d_find_seals c_has_piece c_possible_ages
  have c_claim_refusal := ok_claim_refusal (P := P) (w := w) (base := base) T.toTopG TC d_claim_refusal c_has_piece c_has_seal
  have c_claim_age := ok_claim_age (P := P) (w := w) (base := base) T.toTopG TC d_claim_age c_claim_refusal c_agreements c_out_of_order
  have c_drop_piece := ok_drop_piece (P := P) (w := w) (base := base) T.toTopG TC d_drop_piece c_has_piece
  have c_years_around := ok_years_around (P := P) (w := w) (base := base) T.toTopG TC d_years_around c_given_age
  have c_tell_cuts := ok_tell_cuts (P := P) (w := w) (base := base) T.toTopG TC d_tell_cuts c_has_seal c_given_to c_years_around
  have c_told_given := ok_told_given (P := P) (w := w) (base := base) TC d_told_given
  have c_look_at := ok_look_at (P := P) (w := w) (base := base) T.toTopG TC d_look_at c_has_piece c_told_given c_cells_of
  have c_show_now := ok_show_now (P := P) (w := w) (base := base) T.toTopG TC d_show_now c_has_seal c_ring_now c_given_to c_cells_of c_spellings
  have c_can_roll := ok_can_roll (P := P) (w := w) (base := base) T.toTopG TC d_can_roll
  have c_rolled_picture := ok_rolled_picture (P := P) (w := w) (base := base) T.toTopG d_rolled_picture
  have c_roll := ok_roll (P := P) (w := w) (base := base) T.toTopG TC d_roll c_has_seal c_can_roll c_cells_of c_turned c_rolled_picture
  have c_giving_answer := ok_giving_answer (P := P) (w := w) (base := base) T TK d_giving_answer c_find_ages c_find_seals c_claim_age c_drop_piece c_tell_cuts c_look_at c_show_now c_roll
  have c_collection_answer := ok_collection_answer (P := P) (w := w) (base := base) T TK d_collection_answer c_add_seal c_cut_seal c_compare_rings c_add_piece c_find_fits c_find_least c_rebuild c_join_pieces c_giving_answer
  have c_answer := ok_answer (P := P) (w := w) (base := base) T.toTopG.toTopT TC TT TK d_answer (by decide) c_begin c_collection_answer
  have c_read_number := ok_read_number (P := P) (w := w) (base := base) TD d_read_number
  have c_read_numbers := ok_read_numbers (P := P) (w := w) (base := base) TD d_read_numbers c_read_number
  have m_Call := ok_init_Call (P := P) (w := w) (base := base) TK d_Call
  have c_read_call := ok_read_call (P := P) (w := w) (base := base) T.toTopG.toTopT.toTopR.toTop TD d_read_call c_read_number c_read_numbers m_Call
  exact ok_answers T.toTopG.toTopT TC TT TK TD F (by decide) m_Reader m_Tray c_has_more c_answer c_read_call
end CR
open PySem PySem.W PyProof.Rows
set_option maxRecDepth 100000 in
set_option maxHeartbeats 80000000 in
theorem PySem.Challenge.cw_clayrings_s01_answers_holds : PySem.Challenge.rw_clayrings_s01_answers.Holds := by
  w_on; k_headS; (case hw => exact ⟨[.list [.int 0, .int 2, .int 1, .int 2, .int 0]], by decide +kernel, by decide +kernel⟩)
  k_fillS
  refine L2.walk_specK (r := PySem.Challenge.rw_clayrings_s01_answers) (k := 13) (CX := L2.CX0) (ps := ["calls"]) (sp := CR.spAns) (by decide +kernel) rfl rfl ⟨rfl, by decide, by decide⟩ (fun w h Y => PySem.W.kIn_of Y) ?F ?S (fun _ _ _ _ z => z)
  case F =>
    intro w mg fa h Y KX G hmg
    obtain ⟨CD, d_Reader, cl_Reader, n_Reader_0, n_Reader_1⟩ : ∃ C, CR.Di (PySem.Challenge.cw_clayrings_s01_answers_holds.heap_1 w.params) mg "Reader" "Reader.__init__" C CR.s_init_Reader ["self", "calls"] ∧ L2.Cls (PySem.Challenge.cw_clayrings_s01_answers_holds.heap_1 w.params) C ∧ L2.NoAttr (PySem.Challenge.cw_clayrings_s01_answers_holds.heap_1 w.params) C "calls" ∧ L2.NoAttr (PySem.Challenge.cw_clayrings_s01_answers_holds.heap_1 w.params) C "place" := by
      refine' ⟨_, CR.di_mk KX G ?a ?i ?l ?c ?k ?g ?mk ?kc (fun _ _ _ _ _ _ us hl => match us, hl with | [_, _], _ => rfl), ⟨?pg, ?hd, ?po, ?sa⟩, ?f0, ?f1⟩
      (case a => k_is); (case i => k_is); (case l => k_is); (case c => k_is); (case k => k_is); (case g => k_is); (case mk => k_is); (case kc => k_is); (case pg => k_is); (case hd => k_is); (case po => k_is); (case sa => k_is); (case f0 => unfold L2.NoAttr; k_is); (case f1 => unfold L2.NoAttr; k_is)
    obtain ⟨CT, d_Tray, cl_Tray, n_Tray_0⟩ : ∃ C, CR.Di (PySem.Challenge.cw_clayrings_s01_answers_holds.heap_1 w.params) mg "Tray" "Tray.__init__" C CR.s_init_Tray ["self"] ∧ L2.Cls (PySem.Challenge.cw_clayrings_s01_answers_holds.heap_1 w.params) C ∧ L2.NoAttr (PySem.Challenge.cw_clayrings_s01_answers_holds.heap_1 w.params) C "collection" := by
      refine' ⟨_, CR.di_mk KX G ?a ?i ?l ?c ?k ?g ?mk ?kc (fun _ _ _ _ _ _ us hl => match us, hl with | [_], _ => rfl), ⟨?pg, ?hd, ?po, ?sa⟩, ?f0⟩
      (case a => k_is); (case i => k_is); (case l => k_is); (case c => k_is); (case k => k_is); (case g => k_is); (case mk => k_is); (case kc => k_is); (case pg => k_is); (case hd => k_is); (case po => k_is); (case sa => k_is); (case f0 => unfold L2.NoAttr; k_is)
    obtain ⟨CC, d_Collection, cl_Collection, n_Collection_0, n_Collection_1, n_Collection_2, n_Collection_3, n_Collection_4⟩ : ∃ C, CR.Di (PySem.Challenge.cw_clayrings_s01_answers_holds.heap_1 w.params) mg "Collection" "Collection.__init__" C CR.s_init_Collection ["self", "high", "signs"] ∧ L2.Cls (PySem.Challenge.cw_clayrings_s01_answers_holds.heap_1 w.params) C ∧ L2.NoAttr (PySem.Challenge.cw_clayrings_s01_answers_holds.heap_1 w.params) C "high" ∧ L2.NoAttr (PySem.Challenge.cw_clayrings_s01_answers_holds.heap_1 w.params) C "signs" ∧ L2.NoAttr (PySem.Challenge.cw_clayrings_s01_answers_holds.heap_1 w.params) C "seals" ∧ L2.NoAttr (PySem.Challenge.cw_clayrings_s01_answers_holds.heap_1 w.params) C "pieces" ∧ L2.NoAttr (PySem.Challenge.cw_clayrings_s01_answers_holds.heap_1 w.params) C "next_piece" := by
      refine' ⟨_, CR.di_mk KX G ?a ?i ?l ?c ?k ?g ?mk ?kc (fun _ _ _ _ _ _ us hl => match us, hl with | [_, _, _], _ => rfl), ⟨?pg, ?hd, ?po, ?sa⟩, ?f0, ?f1, ?f2, ?f3, ?f4⟩
      (case a => k_is); (case i => k_is); (case l => k_is); (case c => k_is); (case k => k_is); (case g => k_is); (case mk => k_is); (case kc => k_is); (case pg => k_is); (case hd => k_is); (case po => k_is); (case sa => k_is); (case f0 => unfold L2.NoAttr; k_is); (case f1 => unfold L2.NoAttr; k_is); (case f2 => unfold L2.NoAttr; k_is); (case f3 => unfold L2.NoAttr; k_is); (case f4 => unfold L2.NoAttr; k_is)
    obtain ⟨CS, d_Seal, cl_Seal, n_Seal_0⟩ : ∃ C, CR.Di (PySem.Challenge.cw_clayrings_s01_answers_holds.heap_1 w.params) mg "Seal" "Seal.__init__" C CR.s_init_Seal ["self", "ring"] ∧ L2.Cls (PySem.Challenge.cw_clayrings_s01_answers_holds.heap_1 w.params) C ∧ L2.NoAttr (PySem.Challenge.cw_clayrings_s01_answers_holds.heap_1 w.params) C "ages" := by
      refine' ⟨_, CR.di_mk KX G ?a ?i ?l ?c ?k ?g ?mk ?kc (fun _ _ _ _ _ _ us hl => match us, hl with | [_, _], _ => rfl), ⟨?pg, ?hd, ?po, ?sa⟩, ?f0⟩
      (case a => k_is); (case i => k_is); (case l => k_is); (case c => k_is); (case k => k_is); (case g => k_is); (case mk => k_is); (case kc => k_is); (case pg => k_is); (case hd => k_is); (case po => k_is); (case sa => k_is); (case f0 => unfold L2.NoAttr; k_is)
    obtain ⟨CP, d_Piece, cl_Piece, n_Piece_0, n_Piece_1, n_Piece_2⟩ : ∃ C, CR.Di (PySem.Challenge.cw_clayrings_s01_answers_holds.heap_1 w.params) mg "Piece" "Piece.__init__" C CR.s_init_Piece ["self", "year", "picture"] ∧ L2.Cls (PySem.Challenge.cw_clayrings_s01_answers_holds.heap_1 w.params) C ∧ L2.NoAttr (PySem.Challenge.cw_clayrings_s01_answers_holds.heap_1 w.params) C "year" ∧ L2.NoAttr (PySem.Challenge.cw_clayrings_s01_answers_holds.heap_1 w.params) C "picture" ∧ L2.NoAttr (PySem.Challenge.cw_clayrings_s01_answers_holds.heap_1 w.params) C "given" := by
      refine' ⟨_, CR.di_mk KX G ?a ?i ?l ?c ?k ?g ?mk ?kc (fun _ _ _ _ _ _ us hl => match us, hl with | [_, _, _], _ => rfl), ⟨?pg, ?hd, ?po, ?sa⟩, ?f0, ?f1, ?f2⟩
      (case a => k_is); (case i => k_is); (case l => k_is); (case c => k_is); (case k => k_is); (case g => k_is); (case mk => k_is); (case kc => k_is); (case pg => k_is); (case hd => k_is); (case po => k_is); (case sa => k_is); (case f0 => unfold L2.NoAttr; k_is); (case f1 => unfold L2.NoAttr; k_is); (case f2 => unfold L2.NoAttr; k_is)
    obtain ⟨CL, d_Laying, cl_Laying, n_Laying_0, n_Laying_1⟩ : ∃ C, CR.Di (PySem.Challenge.cw_clayrings_s01_answers_holds.heap_1 w.params) mg "Laying" "Laying.__init__" C CR.s_init_Laying ["self", "ring", "laid_at"] ∧ L2.Cls (PySem.Challenge.cw_clayrings_s01_answers_holds.heap_1 w.params) C ∧ L2.NoAttr (PySem.Challenge.cw_clayrings_s01_answers_holds.heap_1 w.params) C "ring" ∧ L2.NoAttr (PySem.Challenge.cw_clayrings_s01_answers_holds.heap_1 w.params) C "laid_at" := by
      refine' ⟨_, CR.di_mk KX G ?a ?i ?l ?c ?k ?g ?mk ?kc (fun _ _ _ _ _ _ us hl => match us, hl with | [_, _, _], _ => rfl), ⟨?pg, ?hd, ?po, ?sa⟩, ?f0, ?f1⟩
      (case a => k_is); (case i => k_is); (case l => k_is); (case c => k_is); (case k => k_is); (case g => k_is); (case mk => k_is); (case kc => k_is); (case pg => k_is); (case hd => k_is); (case po => k_is); (case sa => k_is); (case f0 => unfold L2.NoAttr; k_is); (case f1 => unfold L2.NoAttr; k_is)
    obtain ⟨CK, d_Call, cl_Call, n_Call_0, n_Call_1, n_Call_2⟩ : ∃ C, CR.Di (PySem.Challenge.cw_clayrings_s01_answers_holds.heap_1 w.params) mg "Call" "Call.__init__" C CR.s_init_Call ["self", "kind", "numbers", "lists"] ∧ L2.Cls (PySem.Challenge.cw_clayrings_s01_answers_holds.heap_1 w.params) C ∧ L2.NoAttr (PySem.Challenge.cw_clayrings_s01_answers_holds.heap_1 w.params) C "kind" ∧ L2.NoAttr (PySem.Challenge.cw_clayrings_s01_answers_holds.heap_1 w.params) C "numbers" ∧ L2.NoAttr (PySem.Challenge.cw_clayrings_s01_answers_holds.heap_1 w.params) C "lists" := by
      refine' ⟨_, CR.di_mk KX G ?a ?i ?l ?c ?k ?g ?mk ?kc (fun _ _ _ _ _ _ us hl => match us, hl with | [_, _, _, _], _ => rfl), ⟨?pg, ?hd, ?po, ?sa⟩, ?f0, ?f1, ?f2⟩
      (case a => k_is); (case i => k_is); (case l => k_is); (case c => k_is); (case k => k_is); (case g => k_is); (case mk => k_is); (case kc => k_is); (case pg => k_is); (case hd => k_is); (case po => k_is); (case sa => k_is); (case f0 => unfold L2.NoAttr; k_is); (case f1 => unfold L2.NoAttr; k_is); (case f2 => unfold L2.NoAttr; k_is)
    have d_has_more : CR.Dn (PySem.Challenge.cw_clayrings_s01_answers_holds.heap_1 w.params) mg "has_more" CR.s_has_more ["reader"] := by
      refine' CR.dn_mk KX G ?a ?l ?c ?k (fun _ _ _ _ _ _ us hl => match us, hl with | [_], _ => rfl)
      (case a => k_is); (case l => k_is); (case c => k_is); (case k => k_is)
    have d_begin : CR.Dn (PySem.Challenge.cw_clayrings_s01_answers_holds.heap_1 w.params) mg "begin" CR.s_begin ["tray", "high", "signs"] := by
      refine' CR.dn_mk KX G ?a ?l ?c ?k (fun _ _ _ _ _ _ us hl => match us, hl with | [_, _, _], _ => rfl)
      (case a => k_is); (case l => k_is); (case c => k_is); (case k => k_is)
    have d_is_column : CR.Dn (PySem.Challenge.cw_clayrings_s01_answers_holds.heap_1 w.params) mg "is_column" CR.s_is_column ["column", "high", "allowed"] := by
      refine' CR.dn_mk KX G ?a ?l ?c ?k (fun _ _ _ _ _ _ us hl => match us, hl with | [_, _, _], _ => rfl)
      (case a => k_is); (case l => k_is); (case c => k_is); (case k => k_is)
    have d_has_form : CR.Dn (PySem.Challenge.cw_clayrings_s01_answers_holds.heap_1 w.params) mg "has_form" CR.s_has_form ["picture", "longest", "high", "allowed"] := by
      refine' CR.dn_mk KX G ?a ?l ?c ?k (fun _ _ _ _ _ _ us hl => match us, hl with | [_, _, _, _], _ => rfl)
      (case a => k_is); (case l => k_is); (case c => k_is); (case k => k_is)
    have d_is_ring : CR.Dn (PySem.Challenge.cw_clayrings_s01_answers_holds.heap_1 w.params) mg "is_ring" CR.s_is_ring ["picture", "high", "signs"] := by
      refine' CR.dn_mk KX G ?a ?l ?c ?k (fun _ _ _ _ _ _ us hl => match us, hl with | [_, _, _], _ => rfl)
      (case a => k_is); (case l => k_is); (case c => k_is); (case k => k_is)
    have d_turned : CR.Dn (PySem.Challenge.cw_clayrings_s01_answers_holds.heap_1 w.params) mg "turned" CR.s_turned ["picture", "way"] := by
      refine' CR.dn_mk KX G ?a ?l ?c ?k (fun _ _ _ _ _ _ us hl => match us, hl with | [_, _], _ => rfl)
      (case a => k_is); (case l => k_is); (case c => k_is); (case k => k_is)
    have d_spellings : CR.Dn (PySem.Challenge.cw_clayrings_s01_answers_holds.heap_1 w.params) mg "spellings" CR.s_spellings ["ring"] := by
      refine' CR.dn_mk KX G ?a ?l ?c ?k (fun _ _ _ _ _ _ us hl => match us, hl with | [_], _ => rfl)
      (case a => k_is); (case l => k_is); (case c => k_is); (case k => k_is)
    have d_are_same : CR.Dn (PySem.Challenge.cw_clayrings_s01_answers_holds.heap_1 w.params) mg "are_same" CR.s_are_same ["ring", "other"] := by
      refine' CR.dn_mk KX G ?a ?l ?c ?k (fun _ _ _ _ _ _ us hl => match us, hl with | [_, _], _ => rfl)
      (case a => k_is); (case l => k_is); (case c => k_is); (case k => k_is)
    have d_ring_now : CR.Dn (PySem.Challenge.cw_clayrings_s01_answers_holds.heap_1 w.params) mg "ring_now" CR.s_ring_now ["seal"] := by
      refine' CR.dn_mk KX G ?a ?l ?c ?k (fun _ _ _ _ _ _ us hl => match us, hl with | [_], _ => rfl)
      (case a => k_is); (case l => k_is); (case c => k_is); (case k => k_is)
    have d_seals_like : CR.Dn (PySem.Challenge.cw_clayrings_s01_answers_holds.heap_1 w.params) mg "seals_like" CR.s_seals_like ["collection", "ring"] := by
      refine' CR.dn_mk KX G ?a ?l ?c ?k (fun _ _ _ _ _ _ us hl => match us, hl with | [_, _], _ => rfl)
      (case a => k_is); (case l => k_is); (case c => k_is); (case k => k_is)
    have d_add_seal : CR.Dn (PySem.Challenge.cw_clayrings_s01_answers_holds.heap_1 w.params) mg "add_seal" CR.s_add_seal ["collection", "picture"] := by
      refine' CR.dn_mk KX G ?a ?l ?c ?k (fun _ _ _ _ _ _ us hl => match us, hl with | [_, _], _ => rfl)
      (case a => k_is); (case l => k_is); (case c => k_is); (case k => k_is)
    have d_has_seal : CR.Dn (PySem.Challenge.cw_clayrings_s01_answers_holds.heap_1 w.params) mg "has_seal" CR.s_has_seal ["collection", "number"] := by
      refine' CR.dn_mk KX G ?a ?l ?c ?k (fun _ _ _ _ _ _ us hl => match us, hl with | [_, _], _ => rfl)
      (case a => k_is); (case l => k_is); (case c => k_is); (case k => k_is)
    have d_can_name : CR.Dn (PySem.Challenge.cw_clayrings_s01_answers_holds.heap_1 w.params) mg "can_name" CR.s_can_name ["collection", "ring", "column", "cell", "sign"] := by
      refine' CR.dn_mk KX G ?a ?l ?c ?k (fun _ _ _ _ _ _ us hl => match us, hl with | [_, _, _, _, _], _ => rfl)
      (case a => k_is); (case l => k_is); (case c => k_is); (case k => k_is)
    have d_recut : CR.Dn (PySem.Challenge.cw_clayrings_s01_answers_holds.heap_1 w.params) mg "recut" CR.s_recut ["ring", "column", "cell", "sign"] := by
      refine' CR.dn_mk KX G ?a ?l ?c ?k (fun _ _ _ _ _ _ us hl => match us, hl with | [_, _, _, _], _ => rfl)
      (case a => k_is); (case l => k_is); (case c => k_is); (case k => k_is)
    have d_cut_seal : CR.Dn (PySem.Challenge.cw_clayrings_s01_answers_holds.heap_1 w.params) mg "cut_seal" CR.s_cut_seal ["collection", "number", "column", "cell", "sign"] := by
      refine' CR.dn_mk KX G ?a ?l ?c ?k (fun _ _ _ _ _ _ us hl => match us, hl with | [_, _, _, _, _], _ => rfl)
      (case a => k_is); (case l => k_is); (case c => k_is); (case k => k_is)
    have d_compare_rings : CR.Dn (PySem.Challenge.cw_clayrings_s01_answers_holds.heap_1 w.params) mg "compare_rings" CR.s_compare_rings ["collection", "count", "picture"] := by
      refine' CR.dn_mk KX G ?a ?l ?c ?k (fun _ _ _ _ _ _ us hl => match us, hl with | [_, _, _], _ => rfl)
      (case a => k_is); (case l => k_is); (case c => k_is); (case k => k_is)
    have d_is_piece : CR.Dn (PySem.Challenge.cw_clayrings_s01_answers_holds.heap_1 w.params) mg "is_piece" CR.s_is_piece ["picture", "high", "signs"] := by
      refine' CR.dn_mk KX G ?a ?l ?c ?k (fun _ _ _ _ _ _ us hl => match us, hl with | [_, _, _], _ => rfl)
      (case a => k_is); (case l => k_is); (case c => k_is); (case k => k_is)
    have d_add_piece : CR.Dn (PySem.Challenge.cw_clayrings_s01_answers_holds.heap_1 w.params) mg "add_piece" CR.s_add_piece ["collection", "year", "picture"] := by
      refine' CR.dn_mk KX G ?a ?l ?c ?k (fun _ _ _ _ _ _ us hl => match us, hl with | [_, _, _], _ => rfl)
      (case a => k_is); (case l => k_is); (case c => k_is); (case k => k_is)
    have d_has_piece : CR.Dn (PySem.Challenge.cw_clayrings_s01_answers_holds.heap_1 w.params) mg "has_piece" CR.s_has_piece ["collection", "number"] := by
      refine' CR.dn_mk KX G ?a ?l ?c ?k (fun _ _ _ _ _ _ us hl => match us, hl with | [_, _], _ => rfl)
      (case a => k_is); (case l => k_is); (case c => k_is); (case k => k_is)
    have d_cells_differ : CR.Dn (PySem.Challenge.cw_clayrings_s01_answers_holds.heap_1 w.params) mg "cells_differ" CR.s_cells_differ ["cell", "other"] := by
      refine' CR.dn_mk KX G ?a ?l ?c ?k (fun _ _ _ _ _ _ us hl => match us, hl with | [_, _], _ => rfl)
      (case a => k_is); (case l => k_is); (case c => k_is); (case k => k_is)
    have d_columns_differ : CR.Dn (PySem.Challenge.cw_clayrings_s01_answers_holds.heap_1 w.params) mg "columns_differ" CR.s_columns_differ ["column", "other"] := by
      refine' CR.dn_mk KX G ?a ?l ?c ?k (fun _ _ _ _ _ _ us hl => match us, hl with | [_, _], _ => rfl)
      (case a => k_is); (case l => k_is); (case c => k_is); (case k => k_is)
    have d_agrees : CR.Dn (PySem.Challenge.cw_clayrings_s01_answers_holds.heap_1 w.params) mg "agrees" CR.s_agrees ["picture", "ring", "place"] := by
      refine' CR.dn_mk KX G ?a ?l ?c ?k (fun _ _ _ _ _ _ us hl => match us, hl with | [_, _, _], _ => rfl)
      (case a => k_is); (case l => k_is); (case c => k_is); (case k => k_is)
    have d_places : CR.Dn (PySem.Challenge.cw_clayrings_s01_answers_holds.heap_1 w.params) mg "places" CR.s_places ["width"] := by
      refine' CR.dn_mk KX G ?a ?l ?c ?k (fun _ _ _ _ _ _ us hl => match us, hl with | [_], _ => rfl)
      (case a => k_is); (case l => k_is); (case c => k_is); (case k => k_is)
    have d_agreements : CR.Dn (PySem.Challenge.cw_clayrings_s01_answers_holds.heap_1 w.params) mg "agreements" CR.s_agreements ["picture", "ring"] := by
      refine' CR.dn_mk KX G ?a ?l ?c ?k (fun _ _ _ _ _ _ us hl => match us, hl with | [_, _], _ => rfl)
      (case a => k_is); (case l => k_is); (case c => k_is); (case k => k_is)
    have d_find_fits : CR.Dn (PySem.Challenge.cw_clayrings_s01_answers_holds.heap_1 w.params) mg "find_fits" CR.s_find_fits ["collection", "seal_number", "piece_number"] := by
      refine' CR.dn_mk KX G ?a ?l ?c ?k (fun _ _ _ _ _ _ us hl => match us, hl with | [_, _, _], _ => rfl)
      (case a => k_is); (case l => k_is); (case c => k_is); (case k => k_is)
    have d_naming_refusal : CR.Dn (PySem.Challenge.cw_clayrings_s01_answers_holds.heap_1 w.params) mg "naming_refusal" CR.s_naming_refusal ["collection", "numbers"] := by
      refine' CR.dn_mk KX G ?a ?l ?c ?k (fun _ _ _ _ _ _ us hl => match us, hl with | [_, _], _ => rfl)
      (case a => k_is); (case l => k_is); (case c => k_is); (case k => k_is)
    have d_columns_together : CR.Dn (PySem.Challenge.cw_clayrings_s01_answers_holds.heap_1 w.params) mg "columns_together" CR.s_columns_together ["column", "other"] := by
      refine' CR.dn_mk KX G ?a ?l ?c ?k (fun _ _ _ _ _ _ us hl => match us, hl with | [_, _], _ => rfl)
      (case a => k_is); (case l => k_is); (case c => k_is); (case k => k_is)
    have d_with_picture : CR.Dn (PySem.Challenge.cw_clayrings_s01_answers_holds.heap_1 w.params) mg "with_picture" CR.s_with_picture ["ring", "picture", "place"] := by
      refine' CR.dn_mk KX G ?a ?l ?c ?k (fun _ _ _ _ _ _ us hl => match us, hl with | [_, _, _], _ => rfl)
      (case a => k_is); (case l => k_is); (case c => k_is); (case k => k_is)
    have d_worn_picture : CR.Dn (PySem.Challenge.cw_clayrings_s01_answers_holds.heap_1 w.params) mg "worn_picture" CR.s_worn_picture ["width", "high"] := by
      refine' CR.dn_mk KX G ?a ?l ?c ?k (fun _ _ _ _ _ _ us hl => match us, hl with | [_, _], _ => rfl)
      (case a => k_is); (case l => k_is); (case c => k_is); (case k => k_is)
    have d_lay_more : CR.Dn (PySem.Challenge.cw_clayrings_s01_answers_holds.heap_1 w.params) mg "lay_more" CR.s_lay_more ["laying", "pictures"] := by
      refine' CR.dn_mk KX G ?a ?l ?c ?k (fun _ _ _ _ _ _ us hl => match us, hl with | [_, _], _ => rfl)
      (case a => k_is); (case l => k_is); (case c => k_is); (case k => k_is)
    have d_lay_in : CR.Dn (PySem.Challenge.cw_clayrings_s01_answers_holds.heap_1 w.params) mg "lay_in" CR.s_lay_in ["width", "high", "pictures"] := by
      refine' CR.dn_mk KX G ?a ?l ?c ?k (fun _ _ _ _ _ _ us hl => match us, hl with | [_, _, _], _ => rfl)
      (case a => k_is); (case l => k_is); (case c => k_is); (case k => k_is)
    have d_least_laying : CR.Dn (PySem.Challenge.cw_clayrings_s01_answers_holds.heap_1 w.params) mg "least_laying" CR.s_least_laying ["collection", "numbers"] := by
      refine' CR.dn_mk KX G ?a ?l ?c ?k (fun _ _ _ _ _ _ us hl => match us, hl with | [_, _], _ => rfl)
      (case a => k_is); (case l => k_is); (case c => k_is); (case k => k_is)
    have d_find_least : CR.Dn (PySem.Challenge.cw_clayrings_s01_answers_holds.heap_1 w.params) mg "find_least" CR.s_find_least ["collection", "numbers"] := by
      refine' CR.dn_mk KX G ?a ?l ?c ?k (fun _ _ _ _ _ _ us hl => match us, hl with | [_, _], _ => rfl)
      (case a => k_is); (case l => k_is); (case c => k_is); (case k => k_is)
    have d_cells_of : CR.Dn (PySem.Challenge.cw_clayrings_s01_answers_holds.heap_1 w.params) mg "cells_of" CR.s_cells_of ["picture"] := by
      refine' CR.dn_mk KX G ?a ?l ?c ?k (fun _ _ _ _ _ _ us hl => match us, hl with | [_], _ => rfl)
      (case a => k_is); (case l => k_is); (case c => k_is); (case k => k_is)
    have d_rebuild : CR.Dn (PySem.Challenge.cw_clayrings_s01_answers_holds.heap_1 w.params) mg "rebuild" CR.s_rebuild ["collection", "numbers"] := by
      refine' CR.dn_mk KX G ?a ?l ?c ?k (fun _ _ _ _ _ _ us hl => match us, hl with | [_, _], _ => rfl)
      (case a => k_is); (case l => k_is); (case c => k_is); (case k => k_is)
    have d_join_refusal : CR.Dn (PySem.Challenge.cw_clayrings_s01_answers_holds.heap_1 w.params) mg "join_refusal" CR.s_join_refusal ["piece", "other", "start", "width"] := by
      refine' CR.dn_mk KX G ?a ?l ?c ?k (fun _ _ _ _ _ _ us hl => match us, hl with | [_, _, _, _], _ => rfl)
      (case a => k_is); (case l => k_is); (case c => k_is); (case k => k_is)
    have d_spread : CR.Dn (PySem.Challenge.cw_clayrings_s01_answers_holds.heap_1 w.params) mg "spread" CR.s_spread ["picture", "start", "width", "high"] := by
      refine' CR.dn_mk KX G ?a ?l ?c ?k (fun _ _ _ _ _ _ us hl => match us, hl with | [_, _, _, _], _ => rfl)
      (case a => k_is); (case l => k_is); (case c => k_is); (case k => k_is)
    have d_first_difference : CR.Dn (PySem.Challenge.cw_clayrings_s01_answers_holds.heap_1 w.params) mg "first_difference" CR.s_first_difference ["picture", "other"] := by
      refine' CR.dn_mk KX G ?a ?l ?c ?k (fun _ _ _ _ _ _ us hl => match us, hl with | [_, _], _ => rfl)
      (case a => k_is); (case l => k_is); (case c => k_is); (case k => k_is)
    have d_join_pieces : CR.Dn (PySem.Challenge.cw_clayrings_s01_answers_holds.heap_1 w.params) mg "join_pieces" CR.s_join_pieces ["collection", "number", "other_number", "gap"] := by
      refine' CR.dn_mk KX G ?a ?l ?c ?k (fun _ _ _ _ _ _ us hl => match us, hl with | [_, _, _, _], _ => rfl)
      (case a => k_is); (case l => k_is); (case c => k_is); (case k => k_is)
    have d_given_to : CR.Dn (PySem.Challenge.cw_clayrings_s01_answers_holds.heap_1 w.params) mg "given_to" CR.s_given_to ["collection", "seal_number"] := by
      refine' CR.dn_mk KX G ?a ?l ?c ?k (fun _ _ _ _ _ _ us hl => match us, hl with | [_, _], _ => rfl)
      (case a => k_is); (case l => k_is); (case c => k_is); (case k => k_is)
    have d_in_order : CR.Dn (PySem.Challenge.cw_clayrings_s01_answers_holds.heap_1 w.params) mg "in_order" CR.s_in_order ["year", "age", "other_year", "other_age"] := by
      refine' CR.dn_mk KX G ?a ?l ?c ?k (fun _ _ _ _ _ _ us hl => match us, hl with | [_, _, _, _], _ => rfl)
      (case a => k_is); (case l => k_is); (case c => k_is); (case k => k_is)
    have d_given_age : CR.Dn (PySem.Challenge.cw_clayrings_s01_answers_holds.heap_1 w.params) mg "given_age" CR.s_given_age ["piece"] := by
      refine' CR.dn_mk KX G ?a ?l ?c ?k (fun _ _ _ _ _ _ us hl => match us, hl with | [_], _ => rfl)
      (case a => k_is); (case l => k_is); (case c => k_is); (case k => k_is)
    have d_out_of_order : CR.Dn (PySem.Challenge.cw_clayrings_s01_answers_holds.heap_1 w.params) mg "out_of_order" CR.s_out_of_order ["collection", "number", "seal_number", "age"] := by
      refine' CR.dn_mk KX G ?a ?l ?c ?k (fun _ _ _ _ _ _ us hl => match us, hl with | [_, _, _, _], _ => rfl)
      (case a => k_is); (case l => k_is); (case c => k_is); (case k => k_is)
    have d_possible_ages : CR.Dn (PySem.Challenge.cw_clayrings_s01_answers_holds.heap_1 w.params) mg "possible_ages" CR.s_possible_ages ["collection", "seal_number", "number"] := by
      refine' CR.dn_mk KX G ?a ?l ?c ?k (fun _ _ _ _ _ _ us hl => match us, hl with | [_, _, _], _ => rfl)
      (case a => k_is); (case l => k_is); (case c => k_is); (case k => k_is)
    have d_find_ages : CR.Dn (PySem.Challenge.cw_clayrings_s01_answers_holds.heap_1 w.params) mg "find_ages" CR.s_find_ages ["collection", "seal_number", "number"] := by
      refine' CR.dn_mk KX G ?a ?l ?c ?k (fun _ _ _ _ _ _ us hl => match us, hl with | [_, _, _], _ => rfl)
      (case a => k_is); (case l => k_is); (case c => k_is); (case k => k_is)
    have d_find_seals : CR.Dn (PySem.Challenge.cw_clayrings_s01_answers_holds.heap_1 w.params) mg "find_seals" CR.s_find_seals ["collection", "number"] := by
      refine' CR.dn_mk KX G ?a ?l ?c ?k (fun _ _ _ _ _ _ us hl => match us, hl with | [_, _], _ => rfl)
      (case a => k_is); (case l => k_is); (case c => k_is); (case k => k_is)
    have d_claim_refusal : CR.Dn (PySem.Challenge.cw_clayrings_s01_answers_holds.heap_1 w.params) mg "claim_refusal" CR.s_claim_refusal ["collection", "number", "seal_number", "age"] := by
      refine' CR.dn_mk KX G ?a ?l ?c ?k (fun _ _ _ _ _ _ us hl => match us, hl with | [_, _, _, _], _ => rfl)
      (case a => k_is); (case l => k_is); (case c => k_is); (case k => k_is)
    have d_claim_age : CR.Dn (PySem.Challenge.cw_clayrings_s01_answers_holds.heap_1 w.params) mg "claim_age" CR.s_claim_age ["collection", "number", "seal_number", "age"] := by
      refine' CR.dn_mk KX G ?a ?l ?c ?k (fun _ _ _ _ _ _ us hl => match us, hl with | [_, _, _, _], _ => rfl)
      (case a => k_is); (case l => k_is); (case c => k_is); (case k => k_is)
    have d_drop_piece : CR.Dn (PySem.Challenge.cw_clayrings_s01_answers_holds.heap_1 w.params) mg "drop_piece" CR.s_drop_piece ["collection", "number"] := by
      refine' CR.dn_mk KX G ?a ?l ?c ?k (fun _ _ _ _ _ _ us hl => match us, hl with | [_, _], _ => rfl)
      (case a => k_is); (case l => k_is); (case c => k_is); (case k => k_is)
    have d_years_around : CR.Dn (PySem.Challenge.cw_clayrings_s01_answers_holds.heap_1 w.params) mg "years_around" CR.s_years_around ["pieces", "age"] := by
      refine' CR.dn_mk KX G ?a ?l ?c ?k (fun _ _ _ _ _ _ us hl => match us, hl with | [_, _], _ => rfl)
      (case a => k_is); (case l => k_is); (case c => k_is); (case k => k_is)
    have d_tell_cuts : CR.Dn (PySem.Challenge.cw_clayrings_s01_answers_holds.heap_1 w.params) mg "tell_cuts" CR.s_tell_cuts ["collection", "seal_number"] := by
      refine' CR.dn_mk KX G ?a ?l ?c ?k (fun _ _ _ _ _ _ us hl => match us, hl with | [_, _], _ => rfl)
      (case a => k_is); (case l => k_is); (case c => k_is); (case k => k_is)
    have d_told_given : CR.Dn (PySem.Challenge.cw_clayrings_s01_answers_holds.heap_1 w.params) mg "told_given" CR.s_told_given ["piece"] := by
      refine' CR.dn_mk KX G ?a ?l ?c ?k (fun _ _ _ _ _ _ us hl => match us, hl with | [_], _ => rfl)
      (case a => k_is); (case l => k_is); (case c => k_is); (case k => k_is)
    have d_look_at : CR.Dn (PySem.Challenge.cw_clayrings_s01_answers_holds.heap_1 w.params) mg "look_at" CR.s_look_at ["collection", "number"] := by
      refine' CR.dn_mk KX G ?a ?l ?c ?k (fun _ _ _ _ _ _ us hl => match us, hl with | [_, _], _ => rfl)
      (case a => k_is); (case l => k_is); (case c => k_is); (case k => k_is)
    have d_show_now : CR.Dn (PySem.Challenge.cw_clayrings_s01_answers_holds.heap_1 w.params) mg "show_now" CR.s_show_now ["collection", "number"] := by
      refine' CR.dn_mk KX G ?a ?l ?c ?k (fun _ _ _ _ _ _ us hl => match us, hl with | [_, _], _ => rfl)
      (case a => k_is); (case l => k_is); (case c => k_is); (case k => k_is)
    have d_can_roll : CR.Dn (PySem.Challenge.cw_clayrings_s01_answers_holds.heap_1 w.params) mg "can_roll" CR.s_can_roll ["seal", "age", "column", "width", "way"] := by
      refine' CR.dn_mk KX G ?a ?l ?c ?k (fun _ _ _ _ _ _ us hl => match us, hl with | [_, _, _, _, _], _ => rfl)
      (case a => k_is); (case l => k_is); (case c => k_is); (case k => k_is)
    have d_rolled_picture : CR.Dn (PySem.Challenge.cw_clayrings_s01_answers_holds.heap_1 w.params) mg "rolled_picture" CR.s_rolled_picture ["ring", "column", "width"] := by
      refine' CR.dn_mk KX G ?a ?l ?c ?k (fun _ _ _ _ _ _ us hl => match us, hl with | [_, _, _], _ => rfl)
      (case a => k_is); (case l => k_is); (case c => k_is); (case k => k_is)
    have d_roll : CR.Dn (PySem.Challenge.cw_clayrings_s01_answers_holds.heap_1 w.params) mg "roll" CR.s_roll ["collection", "number", "age", "column", "width", "way"] := by
      refine' CR.dn_mk KX G ?a ?l ?c ?k (fun _ _ _ _ _ _ us hl => match us, hl with | [_, _, _, _, _, _], _ => rfl)
      (case a => k_is); (case l => k_is); (case c => k_is); (case k => k_is)
    have d_giving_answer : CR.Dn (PySem.Challenge.cw_clayrings_s01_answers_holds.heap_1 w.params) mg "giving_answer" CR.s_giving_answer ["collection", "call"] := by
      refine' CR.dn_mk KX G ?a ?l ?c ?k (fun _ _ _ _ _ _ us hl => match us, hl with | [_, _], _ => rfl)
      (case a => k_is); (case l => k_is); (case c => k_is); (case k => k_is)
    have d_collection_answer : CR.Dn (PySem.Challenge.cw_clayrings_s01_answers_holds.heap_1 w.params) mg "collection_answer" CR.s_collection_answer ["collection", "call"] := by
      refine' CR.dn_mk KX G ?a ?l ?c ?k (fun _ _ _ _ _ _ us hl => match us, hl with | [_, _], _ => rfl)
      (case a => k_is); (case l => k_is); (case c => k_is); (case k => k_is)
    have d_answer : CR.Dn (PySem.Challenge.cw_clayrings_s01_answers_holds.heap_1 w.params) mg "answer" CR.s_answer ["tray", "call"] := by
      refine' CR.dn_mk KX G ?a ?l ?c ?k (fun _ _ _ _ _ _ us hl => match us, hl with | [_, _], _ => rfl)
      (case a => k_is); (case l => k_is); (case c => k_is); (case k => k_is)
    have d_read_number : CR.Dn (PySem.Challenge.cw_clayrings_s01_answers_holds.heap_1 w.params) mg "read_number" CR.s_read_number ["reader"] := by
      refine' CR.dn_mk KX G ?a ?l ?c ?k (fun _ _ _ _ _ _ us hl => match us, hl with | [_], _ => rfl)
      (case a => k_is); (case l => k_is); (case c => k_is); (case k => k_is)
    have d_read_numbers : CR.Dn (PySem.Challenge.cw_clayrings_s01_answers_holds.heap_1 w.params) mg "read_numbers" CR.s_read_numbers ["reader"] := by
      refine' CR.dn_mk KX G ?a ?l ?c ?k (fun _ _ _ _ _ _ us hl => match us, hl with | [_], _ => rfl)
      (case a => k_is); (case l => k_is); (case c => k_is); (case k => k_is)
    have d_read_call : CR.Dn (PySem.Challenge.cw_clayrings_s01_answers_holds.heap_1 w.params) mg "read_call" CR.s_read_call ["reader"] := by
      refine' CR.dn_mk KX G ?a ?l ?c ?k (fun _ _ _ _ _ _ us hl => match us, hl with | [_], _ => rfl)
      (case a => k_is); (case l => k_is); (case c => k_is); (case k => k_is)
    obtain ⟨aW, cW, tW⟩ : ∃ p, CR.Cst mg "WAYS" (.ref p) ∧ ∀ H, L2.SqT (PySem.Challenge.cw_clayrings_s01_answers_holds.heap_1 w.params) H p [.int 0, .int 1] := by
      refine' ⟨_, CR.cst_ref KX G ?a, CR.two_tup ?l⟩
      (case a => k_is); (case l => k_is)
    have t_BEGIN : CR.Cst mg "BEGIN" (.int (0)) := by
      refine' CR.cst_int KX G ?a
      (case a => k_is)
    have t_b_len := PySem.W.mg_none_of (n := "len") KX G (by k_is)
    have t_b_all := PySem.W.mg_none_of (n := "all") KX G (by k_is)
    have t_b_any := PySem.W.mg_none_of (n := "any") KX G (by k_is)
    have t_b_list := PySem.W.mg_none_of (n := "list") KX G (by k_is)
    have t_b_range := PySem.W.mg_none_of (n := "range") KX G (by k_is)
    have t_b_reversed := PySem.W.mg_none_of (n := "reversed") KX G (by k_is)
    have t_b_zip := PySem.W.mg_none_of (n := "zip") KX G (by k_is)
    have t_b_enumerate := PySem.W.mg_none_of (n := "enumerate") KX G (by k_is)
    have t_b_max := PySem.W.mg_none_of (n := "max") KX G (by k_is)
    have t_b_set := PySem.W.mg_none_of (n := "set") KX G (by k_is)
    have t_WORN : CR.Cst mg "WORN" (.int (9)) := by
      refine' CR.cst_int KX G ?a
      (case a => k_is)
    have t_AS_IT_IS : CR.Cst mg "AS_IT_IS" (.int (0)) := by
      refine' CR.cst_int KX G ?a
      (case a => k_is)
    have t_LONGEST_RING : CR.Cst mg "LONGEST_RING" (.int (8)) := by
      refine' CR.cst_int KX G ?a
      (case a => k_is)
    have t_LONGEST_PIECE : CR.Cst mg "LONGEST_PIECE" (.int (12)) := by
      refine' CR.cst_int KX G ?a
      (case a => k_is)
    have t_WRONG : CR.Cst mg "WRONG" (.int (-1)) := by
      refine' CR.cst_int KX G ?a
      (case a => k_is)
    have t_NO_SEAL : CR.Cst mg "NO_SEAL" (.int (-2)) := by
      refine' CR.cst_int KX G ?a
      (case a => k_is)
    have t_NO_PIECE : CR.Cst mg "NO_PIECE" (.int (-3)) := by
      refine' CR.cst_int KX G ?a
      (case a => k_is)
    have t_SAME_SEAL : CR.Cst mg "SAME_SEAL" (.int (-4)) := by
      refine' CR.cst_int KX G ?a
      (case a => k_is)
    have t_TOO_MANY : CR.Cst mg "TOO_MANY" (.int (-5)) := by
      refine' CR.cst_int KX G ?a
      (case a => k_is)
    have t_CANNOT_BE : CR.Cst mg "CANNOT_BE" (.int (-6)) := by
      refine' CR.cst_int KX G ?a
      (case a => k_is)
    have t_GIVEN : CR.Cst mg "GIVEN" (.int (-8)) := by
      refine' CR.cst_int KX G ?a
      (case a => k_is)
    have t_NO_COLLECTION : CR.Cst mg "NO_COLLECTION" (.int (-9)) := by
      refine' CR.cst_int KX G ?a
      (case a => k_is)
    have t_YEARS_DIFFER : CR.Cst mg "YEARS_DIFFER" (.int (-10)) := by
      refine' CR.cst_int KX G ?a
      (case a => k_is)
    have t_SIGNS_DIFFER : CR.Cst mg "SIGNS_DIFFER" (.int (-11)) := by
      refine' CR.cst_int KX G ?a
      (case a => k_is)
    have t_MOST_SEALS : CR.Cst mg "MOST_SEALS" (.int (4)) := by
      refine' CR.cst_int KX G ?a
      (case a => k_is)
    have t_MOST_PIECES : CR.Cst mg "MOST_PIECES" (.int (6)) := by
      refine' CR.cst_int KX G ?a
      (case a => k_is)
    have t_MOST_CUTS : CR.Cst mg "MOST_CUTS" (.int (3)) := by
      refine' CR.cst_int KX G ?a
      (case a => k_is)
    have t_MOST_LAID : CR.Cst mg "MOST_LAID" (.int (3)) := by
      refine' CR.cst_int KX G ?a
      (case a => k_is)
    have t_SEAL : CR.Cst mg "SEAL" (.int (1)) := by
      refine' CR.cst_int KX G ?a
      (case a => k_is)
    have t_CUT : CR.Cst mg "CUT" (.int (2)) := by
      refine' CR.cst_int KX G ?a
      (case a => k_is)
    have t_SAME : CR.Cst mg "SAME" (.int (3)) := by
      refine' CR.cst_int KX G ?a
      (case a => k_is)
    have t_PIECE : CR.Cst mg "PIECE" (.int (4)) := by
      refine' CR.cst_int KX G ?a
      (case a => k_is)
    have t_FITS : CR.Cst mg "FITS" (.int (5)) := by
      refine' CR.cst_int KX G ?a
      (case a => k_is)
    have t_LEAST : CR.Cst mg "LEAST" (.int (6)) := by
      refine' CR.cst_int KX G ?a
      (case a => k_is)
    have t_REBUILT : CR.Cst mg "REBUILT" (.int (7)) := by
      refine' CR.cst_int KX G ?a
      (case a => k_is)
    have t_JOIN : CR.Cst mg "JOIN" (.int (8)) := by
      refine' CR.cst_int KX G ?a
      (case a => k_is)
    have t_AGES : CR.Cst mg "AGES" (.int (9)) := by
      refine' CR.cst_int KX G ?a
      (case a => k_is)
    have t_WHICH : CR.Cst mg "WHICH" (.int (10)) := by
      refine' CR.cst_int KX G ?a
      (case a => k_is)
    have t_CLAIM : CR.Cst mg "CLAIM" (.int (11)) := by
      refine' CR.cst_int KX G ?a
      (case a => k_is)
    have t_DROP : CR.Cst mg "DROP" (.int (12)) := by
      refine' CR.cst_int KX G ?a
      (case a => k_is)
    have t_CUTS : CR.Cst mg "CUTS" (.int (13)) := by
      refine' CR.cst_int KX G ?a
      (case a => k_is)
    have t_LOOK : CR.Cst mg "LOOK" (.int (14)) := by
      refine' CR.cst_int KX G ?a
      (case a => k_is)
    have t_NOW : CR.Cst mg "NOW" (.int (15)) := by
      refine' CR.cst_int KX G ?a
      (case a => k_is)
    have t_ROLLED : CR.Cst mg "ROLLED" (.int (16)) := by
      refine' CR.cst_int KX G ?a
      (case a => k_is)
    have t_b_sorted := PySem.W.mg_none_of (n := "sorted") KX G (by k_is)
    have t_b_min := PySem.W.mg_none_of (n := "min") KX G (by k_is)
    have t_NOT_IN_ORDER : CR.Cst mg "NOT_IN_ORDER" (.int (-7)) := by
      refine' CR.cst_int KX G ?a
      (case a => k_is)
    have t_NONE_BEFORE : CR.Cst mg "NONE_BEFORE" (.int (0)) := by
      refine' CR.cst_int KX G ?a
      (case a => k_is)
    have t_NONE_BEHIND : CR.Cst mg "NONE_BEHIND" (.int (100)) := by
      refine' CR.cst_int KX G ?a
      (case a => k_is)
    have T : CR.TopD (PySem.Challenge.cw_clayrings_s01_answers_holds.heap_1 w.params) mg aW := { BEGIN := t_BEGIN, b_len := t_b_len, b_all := t_b_all, b_any := t_b_any, b_list := t_b_list, b_range := t_b_range, b_reversed := t_b_reversed, b_zip := t_b_zip, b_enumerate := t_b_enumerate, b_max := t_b_max, b_set := t_b_set, WORN := t_WORN, AS_IT_IS := t_AS_IT_IS, LONGEST_RING := t_LONGEST_RING, LONGEST_PIECE := t_LONGEST_PIECE, WRONG := t_WRONG, NO_SEAL := t_NO_SEAL, NO_PIECE := t_NO_PIECE, SAME_SEAL := t_SAME_SEAL, TOO_MANY := t_TOO_MANY, CANNOT_BE := t_CANNOT_BE, GIVEN := t_GIVEN, NO_COLLECTION := t_NO_COLLECTION, YEARS_DIFFER := t_YEARS_DIFFER, SIGNS_DIFFER := t_SIGNS_DIFFER, MOST_SEALS := t_MOST_SEALS, MOST_PIECES := t_MOST_PIECES, MOST_CUTS := t_MOST_CUTS, MOST_LAID := t_MOST_LAID, SEAL := t_SEAL, CUT := t_CUT, SAME := t_SAME, PIECE := t_PIECE, FITS := t_FITS, LEAST := t_LEAST, REBUILT := t_REBUILT, JOIN := t_JOIN, AGES := t_AGES, WHICH := t_WHICH, CLAIM := t_CLAIM, DROP := t_DROP, CUTS := t_CUTS, LOOK := t_LOOK, NOW := t_NOW, ROLLED := t_ROLLED, b_sorted := t_b_sorted, b_min := t_b_min, NOT_IN_ORDER := t_NOT_IN_ORDER, NONE_BEFORE := t_NONE_BEFORE, NONE_BEHIND := t_NONE_BEHIND, WAYS := cW, ways := tW }
    have TC : CR.ColT (PySem.Challenge.cw_clayrings_s01_answers_holds.heap_1 w.params) CC CS CP := ⟨cl_Collection, n_Collection_0, n_Collection_1, n_Collection_2, n_Collection_3, n_Collection_4, cl_Seal, n_Seal_0, cl_Piece, n_Piece_0, n_Piece_1, n_Piece_2⟩
    have TT : CR.TrT (PySem.Challenge.cw_clayrings_s01_answers_holds.heap_1 w.params) CT := ⟨cl_Tray, n_Tray_0⟩
    have TK : CR.ClT (PySem.Challenge.cw_clayrings_s01_answers_holds.heap_1 w.params) CK := ⟨cl_Call, n_Call_0, n_Call_1, n_Call_2⟩
    have TD : CR.RdT (PySem.Challenge.cw_clayrings_s01_answers_holds.heap_1 w.params) CD := ⟨cl_Reader, n_Reader_0, n_Reader_1⟩
    have TL : CR.LayT (PySem.Challenge.cw_clayrings_s01_answers_holds.heap_1 w.params) CL := ⟨cl_Laying, n_Laying_0, n_Laying_1⟩
    obtain ⟨fd, F, hb⟩ : ∃ fd, L2.Fun (PySem.Challenge.cw_clayrings_s01_answers_holds.heap_1 w.params) "answers" "answers" CR.s_answers fa fd ∧ ∀ (s : Shared) (us : List Value), us.length = (["calls"] : List Str).length → PySem.BindsTo s fd ⟨us, []⟩ ((["calls"] : List Str).zip us) := by
      have key : ∀ {f : Addr} {od an : Option Addr} {sl : Array (Option Value)} {oc kV dc pm cd ct : Value}, PySem.W.nsIn (PySem.Challenge.cw_clayrings_s01_answers_holds.heap_1 w.params) mainGlobals "answers" = some (some (.ref f)) → (PySem.Challenge.cw_clayrings_s01_answers_holds.heap_1 w.params).lookup f = some ⟨oc, od, .func (PySem.W.fnOf "answers" "answers" (L2.defArgs CR.s_answers) (L2.defBody CR.s_answers) (L2.defScope CR.s_answers) .none kV dc pm an cd ct), sl⟩ → PySem.W.codeIn (PySem.Challenge.cw_clayrings_s01_answers_holds.heap_1 w.params) cd "answers" = true → PySem.W.keepIn (PySem.Challenge.cw_clayrings_s01_answers_holds.heap_1 w.params) (.ref f) = true → ∃ fd, L2.Fun (PySem.Challenge.cw_clayrings_s01_answers_holds.heap_1 w.params) "answers" "answers" CR.s_answers fa fd ∧ ∀ (s : Shared) (us : List Value), us.length = (["calls"] : List Str).length → PySem.BindsTo s fd ⟨us, []⟩ ((["calls"] : List Str).zip us) := by
        intro f od an sl oc kV dc pm cd ct a l c k
        have e := hmg.symm.trans (PySem.W.mg_of KX G a)
        cases e
        exact ⟨_, L2.fun_mk l c k, fun s us hu => match us, hu with | [_], _ => .of_eq rfl⟩
      refine' key ?a ?l ?c ?k
      (case a => k_is); (case l => k_is); (case c => k_is); (case k => k_is)
    refine ⟨fd, hb, fun base _ _ => CR.finish T TC TT TK TD TL d_Reader d_Tray d_has_more d_Collection d_begin d_is_column d_has_form d_is_ring d_turned d_spellings d_are_same d_ring_now d_seals_like d_Seal d_add_seal d_has_seal d_can_name d_recut d_cut_seal d_compare_rings d_is_piece d_Piece d_add_piece d_has_piece d_cells_differ d_columns_differ d_agrees d_places d_agreements d_find_fits d_naming_refusal d_columns_together d_with_picture d_worn_picture d_Laying d_lay_more d_lay_in d_least_laying d_find_least d_cells_of d_rebuild d_join_refusal d_spread d_first_difference d_join_pieces d_given_to d_in_order d_given_age d_out_of_order d_possible_ages d_find_ages d_find_seals d_claim_refusal d_claim_age d_drop_piece d_years_around d_tell_cuts d_told_given d_look_at d_show_now d_can_roll d_rolled_picture d_roll d_giving_answer d_collection_answer d_answer d_read_number d_read_numbers d_Call d_read_call F base⟩
  case S =>
    intro K H xs a hO hwi hask hx
    cases hx with
    | cons h1 h2 =>
      cases h2
      cases h1 with
      | lst hs ha =>
        have e := L2.ints_dw a.1 _ ha
        subst e
        have q : ((Codec.inLen 0 6000 a.1 && a.1.all (Codec.inInt (-20) 200)) && true) = true := hwi
        rw [Bool.and_eq_true, Bool.and_eq_true] at q
        exact ⟨_, a.1, rfl, hs, (Codec.inNat_iff.mp q.1.1).2, hask, fun H' p hp => .lst (L2.SqL.of hp) (L2.dw_ints _)⟩
#print axioms PySem.Challenge.cw_clayrings_s01_answers_holds
