import PyProof.Rows.All
import Wide.All
import OpenK.AllK
import Wide.FinOn
import HandS.ForMost
import HandS.IsInst
import HandS.TupAny
import HandS.Deep
import HandS.SetFor
import HandS.Strs
import HandS.TupMul
import HandS.SortKw
import HandS.Dict
import HandS.DictComp
import HandS.Conv
import HandS.RevRange
import PySem.Challenge.RW_weavepull_k18_straight_is_straight
set_option Elab.async false
set_option linter.all false
set_option maxRecDepth 100000
set_option maxHeartbeats 4000000
namespace Wv
open PySem PySem.Spec PyProof.Rows L2
/-! ### what the top has -/
structure At (K : PySem.W.Frag) (mg : Str → Option Value) (x : Str) (st : Stmt) (ps : List Str) where
  f : Addr
  fd : FuncData
  F : Fun K x x st f fd
  b : Binds K fd ps []
  g : mg x = some (.ref f)
structure IntAt (mg : Str → Option Value) (x : Str) (n : Int) where
  t : Tok
  g : mg x = some (.int n t)
structure StrAt (mg : Str → Option Value) (x : Str) (n : Str) where
  t : Tok
  g : mg x = some (.str n t)
theorem dec_vint {a b : Int} : decide (V.int a = V.int b) = decide (a = b) := by
  by_cases h : a = b
  · subst h; rw [decide_eq_true rfl, decide_eq_true rfl]
  · rw [decide_eq_false h, decide_eq_false]
    intro z
    injection z with z
    exact h z
theorem dv_f {a b : Int} (h : ¬ a = b) : decide (V.int a = V.int b) = false := by rw [dec_vint]; exact decide_eq_false h
theorem dv_t {a b : Int} (h : a = b) : decide (V.int a = V.int b) = true := by rw [dec_vint]; exact decide_eq_true h
theorem isProp {p : Prop} (h : p) : p := h
theorem posOf {x : Int} (h : (0 : Int) < x) : (0 : Int) < x := h
/-! ### a word that the walk does not open -/
inductive Hold (p : Prop) : Prop where
  | mk (h : p)
  | no (h : False)
theorem Hold.out {p : Prop} : Hold p → p
  | .mk h => h
  | .no h => h.elim
/-! ### tests whose answer is known -/
theorem ite_f {b : Bool} {A B : Prop} (h : b = false) (q : B) : if b = true then A else B := by
  subst h; exact iteF q
theorem ite_t {b : Bool} {A B : Prop} (h : b = true) (q : A) : if b = true then A else B := by
  subst h; exact iteT q
theorem ite_d {c : Prop} [Decidable c] {A B : Prop} (h1 : c → A) (h2 : ¬ c → B) : if decide c = true then A else B := by
  by_cases h : c
  · exact ite_t (decide_eq_true h) (h1 h)
  · exact ite_f (decide_eq_false h) (h2 h)
theorem ite_nd {c : Prop} [Decidable c] {A B : Prop} (h1 : ¬ c → A) (h2 : c → B) : if (!decide c) = true then A else B := by
  by_cases h : c
  · exact ite_f (by rw [decide_eq_true h]; rfl) (h2 h)
  · exact ite_t (by rw [decide_eq_false h]; rfl) (h1 h)
/-! ### data that never changes -/
mutual
inductive Im (K : PySem.W.Frag) (H : Hp) : V → PyData → Prop
  | non : Im K H .non .none
  | bl (b : Bool) : Im K H (.bl b) (.bool b)
  | int (i : Int) : Im K H (.int i) (.int i)
  | str (x : Str) : Im K H (.str x) (.str x)
  | tup {a : Addr} {xs : List V} {ds : List PyData} : SqT K H a xs → Ims K H xs ds → Im K H (.ref a) (.tuple ds)
inductive Ims (K : PySem.W.Frag) (H : Hp) : List V → List PyData → Prop
  | nil : Ims K H [] []
  | cons {v : V} {vs : List V} {d : PyData} {ds : List PyData} : Im K H v d → Ims K H vs ds → Ims K H (v :: vs) (d :: ds)
end
/-- the script: a list that nobody writes -/
def Fz (K : PySem.W.Frag) (H : Hp) (a : Addr) (xs : List V) : Prop :=
  (∃ o, H a = some (.frz o (.lst xs))) ∨
    ∃ (o : Obj) (its : Array Value) (n : Nat), K.lookup a = some o ∧ o.cls = .type "list" ∧ o.dict = none ∧ o.data = .seq its n ∧ its.size ≤ sizeLine ∧ Vals xs its.toList
theorem Fz.seq {K : PySem.W.Frag} {H : Hp} {a : Addr} {xs : List V} (h : Fz K H a xs) : SqL K H a xs := by
  rcases h with h | h
  · exact .inl (.inr h)
  · exact .inr h
theorem fz_of {K : PySem.W.Frag} {H : Hp} {a : Addr} {xs : List V} (O : Only H) (h : SqL K H a xs) : Fz K H a xs := by
  rcases h with (h | h) | h
  · rcases O a with z | ⟨o, ys, z⟩
    · rw [z] at h; cases h
    · rw [z] at h; cases h
  · exact .inl h
  · exact .inr h
/-- what never changes stays: tuples, the script -/
structure TK (K : PySem.W.Frag) (H H' : Hp) : Prop where
  t : ∀ a xs, SqT K H a xs → SqT K H' a xs
  f : ∀ a xs, Fz K H a xs → Fz K H' a xs
/-- all but what stands at D is kept -/
def But (D : Addr) (H H' : Hp) : Prop := ∀ b o, b ≠ D → H b = some o → H' b = some o
section
variable {K : PySem.W.Frag} {H H' H1 H2 : Hp}
theorem TK.refl : TK K H H := ⟨fun _ _ h => h, fun _ _ h => h⟩
theorem TK.trans (a : TK K H H1) (b : TK K H1 H2) : TK K H H2 := ⟨fun x y h => b.t x y (a.t x y h), fun x y h => b.f x y (a.f x y h)⟩
theorem same_tk (s : Same H H') : TK K H H' := by
  refine ⟨fun a xs h => ?_, fun a xs h => ?_⟩
  · rcases h with (h | ⟨o, h⟩) | h
    · exact .inl (.inl (s _ _ h))
    · exact .inl (.inr ⟨o, s _ _ h⟩)
    · exact .inr h
  · rcases h with ⟨o, h⟩ | h
    · exact .inl ⟨o, s _ _ h⟩
    · exact .inr h
theorem But.refl {D : Addr} : But D H H := fun _ _ _ h => h
theorem But.trans {D : Addr} (a : But D H H1) (b : But D H1 H2) : But D H H2 := fun c o hc h => b c o hc (a c o hc h)
theorem same_but {D : Addr} (s : Same H H') : But D H H' := fun b o _ h => s b o h
/-- what a write may change -/
def wr : HO → Bool
  | .tup _ => false
  | .frz _ _ => false
  | _ => true
theorem But.tkW {D : Addr} {u : HO} (hD : H D = some u) (hu : wr u = true) (s : But D H H') : TK K H H' := by
  refine ⟨fun a ys h => ?_, fun a ys h => ?_⟩
  · rcases h with (h | ⟨o, h⟩) | h
    · exact .inl (.inl (s _ _ (ne_of h hD (by intro z; subst z; cases hu)) h))
    · exact .inl (.inr ⟨o, s _ _ (ne_of h hD (by intro z; subst z; cases hu)) h⟩)
    · exact .inr h
  · rcases h with ⟨o, h⟩ | h
    · exact .inl ⟨o, s _ _ (ne_of h hD (by intro z; subst z; cases hu)) h⟩
    · exact .inr h
theorem But.tk {D : Addr} {xs : List V} (hD : H D = some (.lst xs)) (s : But D H H') : TK K H H' := s.tkW hD rfl
/-- a new object -/
theorem same_new {p : Addr} {o : HO} (h : H p = none) : Same H (upd H p o) := fun b u q => by rw [upd_ne (ne_of_none q h)]; exact q
theorem But.new {D p : Addr} {o : HO} (s : But D H H1) (hD : H1 D ≠ none) (h : H1 p = none) : But D H (upd H1 p o) := fun b u hb q => by
  rw [upd_ne (ne_of_none (s b u hb q) h)]
  exact s b u hb q
/-- a write to what was not there at the beginning, or to D -/
theorem But.put {D p : Addr} {o : HO} (s : But D H H1) (h : p = D ∨ H p = none) : But D H (upd H1 p o) := fun b u hb q => by
  have : b ≠ p := by
    rcases h with rfl | h
    · exact hb
    · exact ne_of_none q h
  rw [upd_ne this]
  exact s b u hb q
theorem same_put {p : Addr} {o : HO} (s : Same H H1) (h : H p = none) : Same H (upd H1 p o) := fun b u q => by
  rw [upd_ne (ne_of_none q h)]
  exact s b u q
theorem But.free {D p : Addr} (s : But D H H1) (hp : p ≠ D) (h : H1 p = none) : H p = none := by
  cases q : H p with
  | none => rfl
  | some o =>
    rw [s p o hp q] at h
    cases h
theorem upd_same' {p : Addr} {o : HO} : (upd H p o) p = some o := upd_same
/-- a new object: go on with a heap that is only known to hold it -/
theorem alloc {p : Addr} {o : HO} {G : Hp → Prop} (h : H p = none) (k : ∀ H', Same H H' → H' p = some o → G H') : G (upd H p o) := k _ (same_new h) upd_same
theorem put {p : Addr} {o : HO} {G : Hp → Prop} (k : ∀ H', But p H H' → H' p = some o → G H') : G (upd H p o) :=
  k _ (fun b u hb q => by rw [upd_ne hb]; exact q) upd_same
end
theorem sql_id {K : PySem.W.Frag} {H : Hp} {a : Addr} {xs : List V} (h : SqL K H a xs) : SqL K H a xs := h
theorem sqt_id {K : PySem.W.Frag} {H : Hp} {a : Addr} {xs : List V} (h : SqT K H a xs) : SqT K H a xs := h
theorem big {n : Nat} (h : n < 1000000) : n < sizeLine := Nat.lt_of_lt_of_le h (by decide)
theorem sz {n : Nat} (h : n ≤ 1000) : n ≤ sizeLine := Nat.le_of_lt (small1000 h)
section
variable {K : PySem.W.Frag} {H H' : Hp}
mutual
theorem Im.up (t : TK K H H') : ∀ (d : PyData) (v : V), Im K H v d → Im K H' v d
  | .none, _, h => by cases h; exact .non
  | .bool b, _, h => by cases h; exact .bl b
  | .int i, _, h => by cases h; exact .int i
  | .str x, _, h => by cases h; exact .str x
  | .list _, _, h => by cases h
  | .tuple ds, _, h => by
    cases h with
    | tup hs ha => exact .tup (t.t _ _ hs) (Ims.up t ds _ ha)
  | .dict _, _, h => by cases h
theorem Ims.up (t : TK K H H') : ∀ (ds : List PyData) (vs : List V), Ims K H vs ds → Ims K H' vs ds
  | [], _, h => by cases h; exact .nil
  | d :: ds, _, h => by
    cases h with
    | cons h1 h2 => exact .cons (Im.up t d _ h1) (Ims.up t ds _ h2)
end
mutual
theorem Im.dp : ∀ (d : PyData) (v : V), Im K H v d → Dp K H v d
  | .none, _, h => by cases h; exact .non
  | .bool b, _, h => by cases h; exact .bl b
  | .int i, _, h => by cases h; exact .int i
  | .str x, _, h => by cases h; exact .str x
  | .list _, _, h => by cases h
  | .tuple ds, _, h => by
    cases h with
    | tup hs ha => exact .tup hs (Ims.dp ds _ ha)
  | .dict _, _, h => by cases h
theorem Ims.dp : ∀ (ds : List PyData) (vs : List V), Ims K H vs ds → DpAll K H vs ds
  | [], _, h => by cases h; exact .nil
  | d :: ds, _, h => by
    cases h with
    | cons h1 h2 => exact .cons (Im.dp d _ h1) (Ims.dp ds _ h2)
end
theorem Im.u {d : PyData} {v : V} (h : Im K H v d) (t : TK K H H') : Im K H' v d := Im.up t d v h
theorem Ims.u {d : List PyData} {v : List V} (h : Ims K H v d) (t : TK K H H') : Ims K H' v d := Ims.up t d v h
theorem Ims.len : ∀ {vs : List V} {ds : List PyData}, Ims K H vs ds → vs.length = ds.length
  | _, _, .nil => rfl
  | _, _, .cons _ t => congrArg Nat.succ (Ims.len t)
theorem Ims.get : ∀ {vs : List V} {ds : List PyData} {i : Nat} {v : V}, Ims K H vs ds → vs[i]? = some v → ∃ d, ds[i]? = some d ∧ Im K H v d
  | _, _, i, _, .nil, e => by simp at e
  | _, _, 0, v, .cons r _, e => by simp at e; subst e; exact ⟨_, rfl, r⟩
  | _, _, i + 1, v, .cons _ t, e => by
    obtain ⟨d, h1, h2⟩ := Ims.get (i := i) (v := v) t (by simpa using e)
    exact ⟨d, by simpa using h1, h2⟩
theorem Ims.got : ∀ {vs : List V} {ds : List PyData} {i : Nat} {d : PyData}, Ims K H vs ds → ds[i]? = some d → ∃ v, vs[i]? = some v ∧ Im K H v d
  | _, _, i, _, .nil, e => by simp at e
  | _, _, 0, v, .cons r _, e => by simp at e; subst e; exact ⟨_, rfl, r⟩
  | _, _, i + 1, v, .cons _ t, e => by
    obtain ⟨d, h1, h2⟩ := Ims.got (i := i) (d := v) t (by simpa using e)
    exact ⟨d, by simpa using h1, h2⟩
theorem Ims.snoc : ∀ {vs : List V} {ds : List PyData} {v : V} {d : PyData}, Ims K H vs ds → Im K H v d → Ims K H (vs ++ [v]) (ds ++ [d])
  | _, _, _, _, .nil, h => .cons h .nil
  | _, _, _, _, .cons r t, h => .cons r (Ims.snoc t h)
theorem Im.i {v : V} {i : Int} (h : Im K H v (.int i)) : v = .int i := by cases h; rfl
theorem Im.s {v : V} {i : Str} (h : Im K H v (.str i)) : v = .str i := by cases h; rfl
theorem Im.t {v : V} {ds : List PyData} (h : Im K H v (.tuple ds)) : ∃ a xs, v = .ref a ∧ SqT K H a xs ∧ Ims K H xs ds := by
  cases h with
  | tup h1 h2 => exact ⟨_, _, rfl, h1, h2⟩
theorem Im.t1 {v : V} {d : PyData} (h : Im K H v (.tuple [d])) : ∃ a x, v = .ref a ∧ SqT K H a [x] ∧ Im K H x d := by
  cases h with
  | tup h1 h2 =>
    cases h2 with
    | cons a b => cases b; exact ⟨_, _, rfl, h1, a⟩
theorem Im.t2 {v : V} {d e : PyData} (h : Im K H v (.tuple [d, e])) : ∃ a x y, v = .ref a ∧ SqT K H a [x, y] ∧ Im K H x d ∧ Im K H y e := by
  cases h with
  | tup h1 h2 =>
    cases h2 with
    | cons a b =>
      cases b with
      | cons c b => cases b; exact ⟨_, _, _, rfl, h1, a, c⟩
theorem Im.t3 {v : V} {d e f : PyData} (h : Im K H v (.tuple [d, e, f])) : ∃ a x y z, v = .ref a ∧ SqT K H a [x, y, z] ∧ Im K H x d ∧ Im K H y e ∧ Im K H z f := by
  cases h with
  | tup h1 h2 =>
    cases h2 with
    | cons a b =>
      cases b with
      | cons c b =>
        cases b with
        | cons g b => cases b; exact ⟨_, _, _, _, rfl, h1, a, c, g⟩
theorem Ims.ints : ∀ (ns : List Int), Ims K H (ns.map V.int) (ns.map PyData.int)
  | [] => .nil
  | n :: ns => .cons (.int n) (Ims.ints ns)
theorem Ims.of_ints : ∀ (ns : List Int) {vs : List V}, Ims K H vs (ns.map PyData.int) → vs = ns.map V.int
  | [], _, h => by cases h; rfl
  | n :: ns, _, h => by
    cases h with
    | cons a b => cases a; rw [Ims.of_ints ns b]; rfl
end
/-! ### a list that a def grows -/
section
variable {K : PySem.W.Frag} {H H' : Hp} {l : Addr} {ds : List PyData}
def Acc (K : PySem.W.Frag) (H : Hp) (l : Addr) (ds : List PyData) : Prop := ∃ vs, H l = some (.lst vs) ∧ Ims K H vs ds
theorem Acc.at (h : Acc K H l ds) : ∃ xs, H l = some (.lst xs) := ⟨_, h.choose_spec.1⟩
theorem Acc.keep (h : Acc K H l ds) (t : TK K H H') (e : ∀ xs, H l = some (.lst xs) → H' l = some (.lst xs)) : Acc K H' l ds := by
  obtain ⟨vs, e1, i⟩ := h
  exact ⟨vs, e _ e1, i.u t⟩
theorem Acc.same (h : Acc K H l ds) (s : Same H H') : Acc K H' l ds := h.keep (same_tk s) fun _ e => s _ _ e
theorem Acc.but {D : Addr} (h : Acc K H l ds) (s : But D H H') (t : TK K H H') (ne : l ≠ D) : Acc K H' l ds := h.keep t fun _ e => s _ _ ne e
theorem Acc.seq (h : Acc K H l ds) : ∃ vs, SqL K H l vs ∧ Ims K H vs ds := by
  obtain ⟨vs, e1, i⟩ := h
  exact ⟨vs, SqL.of e1, i⟩
theorem acc_nil {p : Addr} (h : H p = some (.lst [])) : Acc K H p [] := ⟨[], h, .nil⟩
theorem acc_ty (h : Acc K H l ds) : tyV K "list" (.ref l) H := by
  obtain ⟨xs, e, i⟩ := h
  exact Or.inl ⟨rfl, _, SqL.of e⟩
end
section
variable {K : PySem.W.Frag} {H H' : Hp} {l : Addr} {ds : List PyData}
theorem Acc.push {y : V} {d : PyData} (h : Acc K H l ds) (hy : Im K H y d) (hl : ds.length < 1000000) :
    ∃ acc, H l = some (.lst acc) ∧ acc.length < sizeLine ∧ But l H (upd H l (.lst (acc ++ [y]))) ∧ TK K H (upd H l (.lst (acc ++ [y]))) ∧ Acc K (upd H l (.lst (acc ++ [y]))) l (ds ++ [d]) := by
  obtain ⟨vs, e, i⟩ := h
  have b : But l H (upd H l (.lst (vs ++ [y]))) := fun b u hb z => by rw [upd_ne hb]; exact z
  have t : TK K H (upd H l (.lst (vs ++ [y]))) := b.tk e
  exact ⟨vs, e, big (by rw [i.len]; omega), b, t, ⟨_, upd_same, (i.u t).snoc (hy.u t)⟩⟩
end
/-! ### rules whose readings speak of data, and whose new heaps are letters -/
section
variable {X : Cx} {e : Expr} {es : List Expr} {t : TA} {pos : Pos}
theorem pe_imp {t1 t2 : TE} (h : PE X e t1) (k : ∀ σ H Q, t2 σ H Q → t1 σ H Q) : PE X e t2 := ⟨fun pins s σ H Q I q => h.run pins s σ H Q I (k _ _ _ q)⟩
theorem pa_cut (h : PA X es t) : PA X es (fun σ H R => ∃ R0, t σ H R0 ∧ ∀ xs H1, R0 xs H1 → R xs H1) := by
  refine ⟨fun pos pins s σ H Q I q => ?_⟩
  obtain ⟨R0, h1, h2⟩ := q
  refine thn (h.run pos pins s σ H R0 I h1) fun us s1 q => ?_
  obtain ⟨vs, H', I', r, q⟩ := q
  exact ⟨vs, H', I', r, h2 _ _ q⟩
theorem CallR.imp {f : Value} {r r' : List V → Hp → VK → Prop} (h : CallR X f r) (k : ∀ xs H Q, r' xs H Q → r xs H Q) : CallR X f r' :=
  fun pins s σ H xs us Q I rv q => h pins s σ H xs us Q I rv (k _ _ _ q)
theorem OpR.imp {f : Value → Value → Sem Value} {r r' : R2} (h : OpR X f r) (k : ∀ x y H Q, r' x y H Q → r x y H Q) : OpR X f r' :=
  fun pins s σ H x y v u Q I rx ry q => h pins s σ H x y v u Q I rx ry (k _ _ _ _ q)
theorem MtR.imp {id : String} {r r' : V → List V → Hp → VK → Prop} (h : MtR X id r) (k : ∀ x xs H Q, r' x xs H Q → r x xs H Q) : MtR X id r' :=
  fun pins s σ H x xs v us Q I rx rs q => h pins s σ H x xs v us Q I rx rs (k _ _ _ _ q)
theorem IxR.imp {r r' : R2} (h : IxR X r) (k : ∀ x y H Q, r' x y H Q → r x y H Q) : IxR X r' :=
  fun value slice pins s σ H x y v u Q I rx ry q hs => h value slice pins s σ H x y v u Q I rx ry (k _ _ _ _ q) hs
theorem PSet.imp {r r' : TSet} (h : PSet X r) (k : ∀ o i v H Q, r' o i v H Q → r o i v H Q) : PSet X r' :=
  fun pins s σ H o i v ov iv u Q I ro ri rv q => h pins s σ H o i v ov iv u Q I ro ri rv (k _ _ _ _ _ q)
/-- (a, b) -/
def rTd (K : PySem.W.Frag) (xs : List V) (H : Hp) (Q : VK) : Prop := ∃ ds, Ims K H xs ds ∧ ds.length ≤ 1000 ∧ ∀ p H', Same H H' → TK K H H' → Im K H' (.ref p) (.tuple ds) → Q (.ref p) H'
/-- [a, b] -/
def rLd (K : PySem.W.Frag) (xs : List V) (H : Hp) (Q : VK) : Prop := ∃ ds, Ims K H xs ds ∧ ds.length ≤ 1000 ∧ ∀ p H', H p = none → Same H H' → TK K H H' → Acc K H' p ds → Q (.ref p) H'
/-- [a, b], whatever they are -/
def rLr (K : PySem.W.Frag) (xs : List V) (H : Hp) (Q : VK) : Prop := xs.length ≤ 1000 ∧ ∀ p H', H p = none → Same H H' → TK K H H' → H' p = some (.lst xs) → Q (.ref p) H'
def rTr (K : PySem.W.Frag) (xs : List V) (H : Hp) (Q : VK) : Prop := xs.length ≤ 1000 ∧ ∀ p H', H p = none → Same H H' → TK K H H' → H' p = some (.tup xs) → Q (.ref p) H'
theorem pe_td {x1 : Nat} (h : PA X es t) : PE X (.Tuple es x1 pos) (fun σ H Q => t σ H fun xs H1 => rTd X.K xs H1 Q) := pe_imp (pe_tup (pa_cut h)) fun σ H Q q => ⟨_, q, fun xs H1 r => by
  obtain ⟨ds, i, hl, k⟩ := r
  refine ⟨sz (by rw [i.len]; exact hl), fun p hp => ?_⟩
  have s := same_new (o := HO.tup xs) hp
  exact k p _ s (same_tk s) (.tup (SqT.of upd_same) (i.u (same_tk s)))⟩
theorem pe_tr {x1 : Nat} (h : PA X es t) : PE X (.Tuple es x1 pos) (fun σ H Q => t σ H fun xs H1 => rTr X.K xs H1 Q) := pe_imp (pe_tup (pa_cut h)) fun σ H Q q => ⟨_, q, fun xs H1 r => by
  obtain ⟨hl, k⟩ := r
  refine ⟨sz hl, fun p hp => ?_⟩
  have s := same_new (o := HO.tup xs) hp
  exact k p _ hp s (same_tk s) upd_same⟩
theorem pe_ld (h : PA X es t) : PE X (.List es pos) (fun σ H Q => t σ H fun xs H1 => rLd X.K xs H1 Q) := pe_imp (pe_lst (pa_cut h)) fun σ H Q q => ⟨_, q, fun xs H1 r => by
  obtain ⟨ds, i, hl, k⟩ := r
  refine ⟨sz (by rw [i.len]; exact hl), fun p hp => ?_⟩
  have s := same_new (o := HO.lst xs) hp
  exact k p _ hp s (same_tk s) ⟨xs, upd_same, i.u (same_tk s)⟩⟩
theorem pe_lr (h : PA X es t) : PE X (.List es pos) (fun σ H Q => t σ H fun xs H1 => rLr X.K xs H1 Q) := pe_imp (pe_lst (pa_cut h)) fun σ H Q q => ⟨_, q, fun xs H1 r => by
  obtain ⟨hl, k⟩ := r
  refine ⟨sz hl, fun p hp => ?_⟩
  have s := same_new (o := HO.lst xs) hp
  exact k p _ hp s (same_tk s) upd_same⟩
theorem pe_tdK {K : PySem.W.Frag} {x1 : Nat} (hK : X.K = K) (h : PA X es t) : PE X (.Tuple es x1 pos) (fun σ H Q => t σ H fun xs H1 => rTd K xs H1 Q) := by subst hK; exact pe_td h
theorem pe_trK {K : PySem.W.Frag} {x1 : Nat} (hK : X.K = K) (h : PA X es t) : PE X (.Tuple es x1 pos) (fun σ H Q => t σ H fun xs H1 => rTr K xs H1 Q) := by subst hK; exact pe_tr h
theorem pe_ldK {K : PySem.W.Frag} (hK : X.K = K) (h : PA X es t) : PE X (.List es pos) (fun σ H Q => t σ H fun xs H1 => rLd K xs H1 Q) := by subst hK; exact pe_ld h
theorem pe_lrK {K : PySem.W.Frag} (hK : X.K = K) (h : PA X es t) : PE X (.List es pos) (fun σ H Q => t σ H fun xs H1 => rLr K xs H1 Q) := by subst hK; exact pe_lr h
/-- l.append(x) of data -/
def rAppA (K : PySem.W.Frag) : V → List V → Hp → VK → Prop := fun x vs H Q => ∃ l y ds d, x = .ref l ∧ vs = [y] ∧ Acc K H l ds ∧ Im K H y d ∧ ds.length < 1000000 ∧ ∀ H', But l H H' → TK K H H' → Acc K H' l (ds ++ [d]) → Q .non H'
theorem mt_appA : MtR X "list.append" (rAppA X.K) := MtR.imp mt_append fun x vs H Q q => by
  obtain ⟨l, y, ds, d, rfl, rfl, ⟨xs, e, i⟩, hy, hl, k⟩ := q
  have b : But l H (upd H l (.lst (xs ++ [y]))) := fun b u hb z => by rw [upd_ne hb]; exact z
  have t : TK X.K H (upd H l (.lst (xs ++ [y]))) := b.tk e
  exact ⟨l, xs, y, rfl, rfl, e, big (by rw [i.len]; omega), k _ b t ⟨_, upd_same, (i.u t).snoc (hy.u t)⟩⟩
/-- l.append(x) of anything -/
def rAppR (K : PySem.W.Frag) : V → List V → Hp → VK → Prop := fun x vs H Q => ∃ l y xs, x = .ref l ∧ vs = [y] ∧ H l = some (.lst xs) ∧ xs.length < 100000 ∧ ∀ H', But l H H' → TK K H H' → H' l = some (.lst (xs ++ [y])) → Q .non H'
theorem mt_appR : MtR X "list.append" (rAppR X.K) := MtR.imp mt_append fun x vs H Q q => by
  obtain ⟨l, y, xs, rfl, rfl, e, hl, k⟩ := q
  have b : But l H (upd H l (.lst (xs ++ [y]))) := fun b u hb z => by rw [upd_ne hb]; exact z
  exact ⟨l, xs, y, rfl, rfl, e, Nat.lt_trans hl (by decide), k _ b (b.tk e) upd_same⟩
/-- tuple(l) of data -/
def rTupleA (K : PySem.W.Frag) : List V → Hp → VK → Prop := fun xs H Q => ∃ l ds, xs = [.ref l] ∧ Acc K H l ds ∧ ∀ p H', Same H H' → TK K H H' → Im K H' (.ref p) (.tuple ds) → Q (.ref p) H'
theorem call_tupleA : CallR X (.type "tuple") (rTupleA X.K) := CallR.imp call_tuple_of fun xs H Q q => by
  obtain ⟨l, ds, rfl, ⟨vs, e, i⟩, k⟩ := q
  refine ⟨l, vs, rfl, .inl ⟨SqL.of e, fun p hp => ?_⟩⟩
  have s := same_new (o := HO.tup vs) hp
  exact k p _ s (same_tk s) (.tup (SqT.of upd_same) (i.u (same_tk s)))
/-- list(l) of data -/
def rListA (K : PySem.W.Frag) : List V → Hp → VK → Prop := fun xs H Q => ∃ l ds, xs = [.ref l] ∧ Acc K H l ds ∧ ∀ p H', H p = none → Same H H' → TK K H H' → Acc K H' p ds → Q (.ref p) H'
theorem call_listA : CallR X (.type "list") (rListA X.K) := CallR.imp call_list_of fun xs H Q q => by
  obtain ⟨l, ds, rfl, ⟨vs, e, i⟩, k⟩ := q
  refine ⟨l, vs, rfl, .inl (SqL.of e), fun p hp => ?_⟩
  have s := same_new (o := HO.lst vs) hp
  exact k p _ hp s (same_tk s) ⟨vs, upd_same, i.u (same_tk s)⟩
/-- t[i], l[i] of data -/
def rIxD (K : PySem.W.Frag) : R2 := fun x y H Q => ∃ (ds : List PyData) (i : Int) (j : Nat) (d : PyData), Im K H x (.tuple ds) ∧ y = .int i ∧ i = (j : Int) ∧ ds[j]? = some d ∧ ∀ v, Im K H v d → Q v H
theorem ix_tupD : IxR X (rIxD X.K) := IxR.imp ix_tup fun x y H Q q => by
  obtain ⟨ds, i, j, d, im, rfl, hi, hd, k⟩ := q
  obtain ⟨a, xs, rfl, ht, hs⟩ := im.t
  obtain ⟨v, hv, iv⟩ := hs.got hd
  exact ⟨a, xs, i, v, rfl, rfl, ht, at_of hi hv, k v iv⟩
def rIxA (K : PySem.W.Frag) : R2 := fun x y H Q => ∃ (l : Addr) (ds : List PyData) (i : Int) (j : Nat) (d : PyData), x = .ref l ∧ Acc K H l ds ∧ y = .int i ∧ i = (j : Int) ∧ ds[j]? = some d ∧ ∀ v, Im K H v d → Q v H
theorem ix_listA : IxR X (rIxA X.K) := IxR.imp ix_list fun x y H Q q => by
  obtain ⟨l, ds, i, j, d, rfl, ⟨vs, e, im⟩, rfl, hi, hd, k⟩ := q
  obtain ⟨v, hv, iv⟩ := im.got hd
  exact ⟨l, vs, i, v, rfl, rfl, SqL.of e, at_of hi hv, k v iv⟩
/-- [x, y][int(b)] of data -/
def rSelA (K : PySem.W.Frag) : R2 := fun x y H Q => ∃ (l : Addr) (d e : PyData) (b : Bool), x = .ref l ∧ Acc K H l [d, e] ∧ y = .int (if b = true then 1 else 0) ∧ ∀ v, Im K H v (if b = true then e else d) → Q v H
theorem ix_selA : IxR X (rSelA X.K) := IxR.imp ix_list fun x y H Q q => by
  obtain ⟨l, d, e, b, rfl, ⟨vs, q1, im⟩, rfl, k⟩ := q
  cases b with
  | true =>
    obtain ⟨v, hv, iv⟩ := im.got (i := 1) rfl
    exact ⟨l, vs, 1, v, rfl, rfl, SqL.of q1, at_of (j := 1) rfl hv, k v iv⟩
  | false =>
    obtain ⟨v, hv, iv⟩ := im.got (i := 0) rfl
    exact ⟨l, vs, 0, v, rfl, rfl, SqL.of q1, at_of (j := 0) rfl hv, k v iv⟩
/-- the same of anything -/
def rSelR (K : PySem.W.Frag) : R2 := fun x y H Q => ∃ (l : Addr) (d e : V) (b : Bool), x = .ref l ∧ H l = some (.lst [d, e]) ∧ y = .int (if b = true then 1 else 0) ∧ Q (if b = true then e else d) H
theorem ix_selR : IxR X (rSelR X.K) := IxR.imp ix_list fun x y H Q q => by
  obtain ⟨l, d, e, b, rfl, q1, rfl, k⟩ := q
  refine ⟨l, [d, e], _, if b = true then e else d, rfl, rfl, SqL.of q1, ?_, k⟩
  cases b <;> rfl
/-- l[i] = v -/
def rSetN (K : PySem.W.Frag) : TSet := fun o i v H Q => ∃ (p : Addr) (xs ys : List V) (k : Int) (j : Nat), o = .ref p ∧ i = .int k ∧ H p = some (.lst xs) ∧ ixN xs.length k = some j ∧ xs.set j v = ys ∧ ∀ H', But p H H' → TK K H H' → H' p = some (.lst ys) → Q H'
theorem set_listN : PSet X (rSetN X.K) := PSet.imp set_list fun o i v H Q q => by
  obtain ⟨p, xs, ys, k, j, rfl, rfl, e, hj, rfl, q⟩ := q
  have b : But p H (upd H p (.lst (xs.set j v))) := fun b u hb z => by rw [upd_ne hb]; exact z
  exact ⟨p, xs, k, j, rfl, rfl, e, hj, q _ b (b.tk e) upd_same⟩
/-- k[0], k[1] .. of a text or of data -/
def rIxK (K : PySem.W.Frag) : R2 := fun x y H Q => (∃ (z : Str) (c : Nat), x = .str z ∧ y = .int 0 ∧ z.length ≤ sizeLine ∧ z.cps.toList[0]? = some c ∧ Q (.str ⟨#[c]⟩) H) ∨ rIxD K x y H Q
theorem ix_kd : IxR X (rIxK X.K) := IxR.imp (ix_str.or ix_tupD) fun x y H Q q => by
  rcases q with ⟨z, c, rfl, rfl, h1, h2, q⟩ | q
  · exact .inl ⟨z, 0, c, rfl, rfl, h1, (atI_nat h2 : atI z.cps.toList ((0 : Nat) : Int) = some c), q⟩
  · exact .inr q
def rMax2 : List V → Hp → VK → Prop := fun xs H Q => ∃ i j, xs = [.int i, .int j] ∧ Q (.int (max i j)) H
def rMin2 : List V → Hp → VK → Prop := fun xs H Q => ∃ i j, xs = [.int i, .int j] ∧ Q (.int (min i j)) H
theorem call_max2N (hc : X.calm = true) : CallR X (.builtin "max") rMax2 := CallR.imp (call_max2 hc) fun xs H Q q => by
  obtain ⟨i, j, rfl, q⟩ := q
  refine ⟨i, j, rfl, ?_⟩
  have e : (if j > i then j else i) = max i j := by split <;> omega
  rw [e]
  exact q
theorem call_min2N (hc : X.calm = true) : CallR X (.builtin "min") rMin2 := CallR.imp (call_min2 hc) fun xs H Q q => by
  obtain ⟨i, j, rfl, q⟩ := q
  refine ⟨i, j, rfl, ?_⟩
  have e : (if j < i then j else i) = min i j := by split <;> omega
  rw [e]
  exact q
/-- len of data -/
def rLenT (K : PySem.W.Frag) : List V → Hp → VK → Prop := fun xs H Q => ∃ v ds, xs = [v] ∧ Im K H v (.tuple ds) ∧ Q (.int ds.length) H
theorem call_lenT : CallR X (.builtin "len") (rLenT X.K) := CallR.imp call_len_seq fun xs H Q q => by
  obtain ⟨v, ds, rfl, i, k⟩ := q
  obtain ⟨a, vs, rfl, ht, hs⟩ := i.t
  exact ⟨a, vs, rfl, .inr ht, by rw [hs.len]; exact k⟩
def rLenA (K : PySem.W.Frag) : List V → Hp → VK → Prop := fun xs H Q => ∃ l ds, xs = [.ref l] ∧ Acc K H l ds ∧ Q (.int ds.length) H
theorem call_lenA : CallR X (.builtin "len") (rLenA X.K) := CallR.imp call_len_seq fun xs H Q q => by
  obtain ⟨l, ds, rfl, ⟨vs, e, i⟩, k⟩ := q
  exact ⟨l, vs, rfl, .inl (SqL.of e), by rw [i.len]; exact k⟩
end
/-! ### cuts: what holds behind a statement -/
section
variable {X : Cx} {st : Stmt} {t : TS} {e : Expr} {te : TE}
def tCut (t : TS) : TS := fun D σ H => ∃ R : L2.St → Hp → Prop, t { D with nx := R } σ H ∧ ∀ σ' H', R σ' H' → D.nx σ' H'
theorem ps_cut (h : PS X st t) : PS X st (tCut t) := by
  refine ⟨fun pins s σ H D I hw => ?_⟩
  obtain ⟨R, h1, h2⟩ := hw
  refine thn (h.run pins s σ H { D with nx := R } I h1) fun f s1 q => ?_
  cases f with
  | next =>
    obtain ⟨σ', H', I', q⟩ := q
    exact ⟨σ', H', I', h2 _ _ q⟩
  | ret v => exact q
  | brk => exact q
  | cont => exact q
def tCutE (t : TE) : TE := fun σ H Q => ∃ R : VK, t σ H R ∧ ∀ v H', R v H' → Q v H'
theorem pe_cut (h : PE X e te) : PE X e (tCutE te) := by
  refine ⟨fun pins s σ H Q I hw => ?_⟩
  obtain ⟨R, h1, h2⟩ := hw
  refine thn (h.run pins s σ H R I h1) fun u s1 q => ?_
  obtain ⟨v, H', I', r, q⟩ := q
  exact ⟨v, H', I', r, h2 _ _ q⟩
end
/-! ### sum of a tuple of ints -/
section
variable {X : Cx}
def rSumT (K : PySem.W.Frag) : List V → Hp → VK → Prop := fun vs H Q => ∃ (a : Addr) (ns : List Int), vs = [V.ref a] ∧ SqT K H a (ns.map V.int) ∧ Q (.int ns.sum) H
theorem iter_intTup {A : Around} {E : Value → Shared → Prop} {prog : Program} {w : World} {s : Shared} {l : Addr} {xs : Array (Int × Tok)} {Q : Value → Shared → Prop} (hl : s.heap.IsTuple l (intItems xs))
    (h : ∀ s₂ : Shared, s₂ = { s with heap := s.heap.push { cls := .type "tuple_iterator", data := .fields #[.ref l, .int 0 0] } } →
      (s₂.heap.IsTupleIter s.heap.objs.size l 0 ∧ s₂.heap.IsTuple l (intItems xs)) → (∀ b ∈ [s.heap.objs.size, l], b < s₂.heap.objs.size) → l ≠ s.heap.objs.size → Q (.ref s.heap.objs.size) s₂) :
    wpAny (model prog w) A (pyIter (.ref l)) Q E s := by
  have hlt : l < s.heap.objs.size := by obtain ⟨_, e, _⟩ := hl; exact Heap.lt_size e
  refine wpAny_pyIter_tuple hl (h _ rfl ⟨⟨_, Heap.get?_push_size _ rfl, rfl, rfl⟩, hl.push _⟩ (fun b hb => ?_) (Nat.ne_of_lt hlt))
  show b < (s.heap.push _).objs.size
  rw [Heap.size_push]
  rcases List.mem_cons.mp hb with rfl | hb
  · exact Nat.lt_succ_self _
  · rcases List.mem_cons.mp hb with rfl | hb
    · exact Nat.lt_succ_of_lt hlt
    · cases hb
theorem sum_intTupG {A : Around} {E : Value → Shared → Prop} {prog : Program} {w : World} {s : Shared} {l : Addr} {xs : Array (Int × Tok)} {Q : Value → Shared → Prop} (hh : A.handled = none) (hl : s.heap.IsTuple l (intItems xs))
    (h : ∀ h' tk t', (∀ b o, s.heap.get? b = some o → h'.get? b = some o) → Q (.int (preSum (numAt xs) xs.size) t') { s with heap := h', toks := tk }) :
    wpAny (model prog w) A (call (.builtin "sum") [.ref l]) Q E s := by
  refine call_sum_walkG (iter_intTup hl fun s₂ e st hfp hlI => ?_)
  subst e
  refine ⟨_, _, _, _, _, _, numAt xs, rfl, Walks.tuple (A := A.in1) hh _ l hlI (intItems xs), st, hfp, (fun _ _ => intItems_at), fun h' tk t' hk => ?_⟩
  have hk' : ∀ b o, s.heap.get? b = some o → h'.get? b = some o := fun b o e => by
    refine hk b o (fun hmem => ?_) (Heap.get?_push_of_some _ e)
    rcases List.mem_cons.mp hmem with e1 | hmem
    · exact absurd (e1 ▸ Heap.lt_size e) (Nat.lt_irrefl _)
    · cases hmem
  have := h h' tk t' hk'
  simpa [intItems] using this
theorem sum_rawT {A : Around} {E : Value → Shared → Prop} {prog : Program} {w : World} {s : Shared} {l : Addr} {its : List Value} {ns : List Int} {Q : Value → Shared → Prop} (hh : A.handled = none) (hl : s.heap.IsTuple l its.toArray) (hi : IntsAre its ns)
    (h : ∀ h' tk t', (∀ b o, s.heap.get? b = some o → h'.get? b = some o) → Q (.int ns.sum t') { s with heap := h', toks := tk }) : wpAny (model prog w) A (call (.builtin "sum") [.ref l]) Q E s := by
  obtain ⟨xs, e⟩ := hi.allInts.items
  have hn : numsOf (intItems xs).toList = ns := by rw [← e]; exact hi.numsOf
  rw [nums_intItems] at hn
  rw [e] at hl
  refine sum_intTupG hh hl fun h' tk t' hk => ?_
  have := h h' tk t' hk
  rw [preSum_eq, List.take_of_length_le (by simp), hn]; exact this
theorem cr_sumT (hc : X.calm = true) : CallR X (.builtin "sum") (rSumT X.K) := by
  intro pins s σ H vs us Q I r h
  obtain ⟨a, ns, rfl, hs, q⟩ := h
  obtain ⟨its, rv, hl, _⟩ := I.tuple hs
  rw [Vals.ref1 r]
  exact sum_rawT (I.ok.hd hc) hl rv.ints fun h' tk t' hk => ⟨.int _, H, I.kept hk, ⟨_, rfl⟩, q⟩
end
open PySem PySem.Spec PyProof.Rows L2
/-! ### the draws -/
/-- the dice at D: the script, how many were read, the mixed number, the rest of a great one -/
def IsDice (K : PySem.W.Frag) (H : Hp) (D : Addr) : Prop :=
  ∃ (a : Addr) (ns : List Int) (p m r : Int), H D = some (.lst [.ref a, .int p, .int m, .int r]) ∧ Fz K H a (ns.map V.int) ∧ ns.length ≤ 63 ∧ 0 ≤ p ∧ 0 ≤ m ∧ m < 2147483647 ∧ 0 ≤ r
section
variable {K : PySem.W.Frag} {H H' H1 H2 : Hp} {D a : Addr}
theorem IsDice.at (h : IsDice K H D) : ∃ xs, H D = some (.lst xs) := by
  obtain ⟨a, ns, p, m, r, e, _⟩ := h
  exact ⟨_, e⟩
theorem IsDice.ne (h : IsDice K H D) : H D ≠ none := by
  obtain ⟨xs, e⟩ := h.at
  rw [e]
  intro z
  cases z
theorem But.dtk (s : But D H H') (h : IsDice K H D) : TK K H H' := by
  obtain ⟨xs, e⟩ := h.at
  exact s.tk e
theorem IsDice.keep (h : IsDice K H D) (t : TK K H H') (e : ∀ xs, H D = some (.lst xs) → H' D = some (.lst xs)) : IsDice K H' D := by
  obtain ⟨a, ns, p, m, r, e1, h1, h2⟩ := h
  exact ⟨a, ns, p, m, r, e _ e1, t.f _ _ h1, h2⟩
theorem IsDice.same (h : IsDice K H D) (s : Same H H') : IsDice K H' D := h.keep (same_tk s) fun _ e => s _ _ e
/-- a list of one's own changes -/
theorem IsDice.but {l : Addr} {xs : List V} (h : IsDice K H D) (hl : H l = some (.lst xs)) (ne : D ≠ l) (s : But l H H') : IsDice K H' D := h.keep (s.tk hl) fun _ e => s _ _ ne e
theorem IsDice.ne_new {p : Addr} (h : IsDice K H D) (hp : H p = none) : D ≠ p := by
  obtain ⟨xs, e⟩ := h.at
  exact ne_of_none e hp
end
/-! ### kinds, deeds, tests -/
inductive Kd where
  | num | pair (a b : Kd) | row (a : Kd)
  deriving DecidableEq
def Kd.d : Kd → PyData
  | .num => .str "number"
  | .pair a b => .tuple [.str "pair", a.d, b.d]
  | .row a => .tuple [.str "row", a.d]
inductive Deed where
  | add (n : Int) | times (n : Int) | minus | first | second | both | sum | many
  deriving DecidableEq
def Deed.d : Deed → PyData
  | .add n => .tuple [.str "add", .int n]
  | .times n => .tuple [.str "times", .int n]
  | .minus => .tuple [.str "minus"]
  | .first => .tuple [.str "first"]
  | .second => .tuple [.str "second"]
  | .both => .tuple [.str "both"]
  | .sum => .tuple [.str "sum"]
  | .many => .tuple [.str "many"]
inductive Tst where
  | below (n : Int) | over (n : Int) | rest (m r : Int)
  deriving DecidableEq
def Tst.d : Tst → PyData
  | .below n => .tuple [.str "below", .int n]
  | .over n => .tuple [.str "over", .int n]
  | .rest m r => .tuple [.str "rest", .int m, .int r]
def Num (n : Int) : Prop := 0 ≤ n ∧ n < 1000003
def Deed.Ok : Deed → Prop
  | .add n => Num n
  | .times n => Num n
  | _ => True
def Tst.Ok : Tst → Prop
  | .below n => Num n
  | .over n => Num n
  | .rest m r => Num m ∧ 0 ≤ r ∧ r < m
/-- an item of a kind -/
inductive Has : Kd → PyData → Prop
  | num {n : Int} (h : Num n) : Has .num (.int n)
  | pair {a b : Kd} {x y : PyData} (h1 : Has a x) (h2 : Has b y) : Has (.pair a b) (.tuple [x, y])
  | row {a : Kd} {xs : List PyData} (h : ∀ x ∈ xs, Has a x) (hl : xs.length ≤ 1000002) : Has (.row a) (.tuple xs)
def toI : PyData → Int
  | .int i => i
  | _ => 0
def doneD : Deed → PyData → PyData
  | .add n, .int i => .int ((i + n) % 1000003)
  | .times n, .int i => .int (i * n % 1000003)
  | .minus, .int i => .int (-i % 1000003)
  | .first, .tuple [a, _] => a
  | .second, .tuple [_, b] => b
  | .both, x => .tuple [x, x]
  | .sum, .tuple xs => .int ((xs.map toI).sum % 1000003)
  | .many, .tuple xs => .int xs.length
  | _, x => x
def kindD : Deed → Kd → Option Kd
  | .add _, .num => some .num
  | .times _, .num => some .num
  | .minus, .num => some .num
  | .first, .pair a _ => some a
  | .second, .pair _ b => some b
  | .both, k => some (.pair k k)
  | .sum, .row .num => some .num
  | .many, .row _ => some .num
  | _, _ => none
def doneAll (ds : List Deed) (x : PyData) : PyData := ds.foldl (fun x d => doneD d x) x
def kindAll : List Deed → Kd → Option Kd
  | [], k => some k
  | d :: ds, k => (kindD d k).bind (kindAll ds)
theorem kindAll_snoc : ∀ {ds : List Deed} {k k1 : Kd} {d : Deed}, kindAll ds k = some k1 → kindAll (ds ++ [d]) k = kindD d k1
  | [], k, k1, d, h => by
    cases h
    show (kindD d k).bind some = _
    cases kindD d k <;> rfl
  | e :: ds, k, k1, d, h => by
    show (kindD e k).bind (kindAll (ds ++ [d])) = _
    have h : (kindD e k).bind (kindAll ds) = some k1 := h
    cases q : kindD e k with
    | none => rw [q] at h; cases h
    | some z => rw [q] at h; exact kindAll_snoc (ds := ds) h
theorem kindAll_take {ds : List Deed} {k k' : Kd} (h : kindAll ds k = some k') : ∀ i, ∃ k1, kindAll (ds.take i) k = some k1 ∧ kindAll (ds.drop i) k1 = some k' := by
  induction ds generalizing k with
  | nil => intro i; exact ⟨k, by simp [kindAll], by simpa using h⟩
  | cons d ds ih =>
    intro i
    cases i with
    | zero => exact ⟨k, rfl, h⟩
    | succ i =>
      have h : (kindD d k).bind (kindAll ds) = some k' := h
      cases q : kindD d k with
      | none => rw [q] at h; cases h
      | some z =>
        rw [q] at h
        obtain ⟨k1, h1, h2⟩ := ih h i
        refine ⟨k1, ?_, h2⟩
        show (kindD d k).bind (kindAll (ds.take i)) = _
        rw [q]
        exact h1
theorem take_succ {α : Type} {l : List α} {i : Nat} {x : α} (h : l[i]? = some x) : l.take (i + 1) = l.take i ++ [x] := by
  rw [List.take_add_one, h]
  rfl
theorem drop_at {α : Type} {l : List α} {i : Nat} {x : α} (h : l[i]? = some x) : l.drop i = x :: l.drop (i + 1) := by
  obtain ⟨hi, rfl⟩ := List.getElem?_eq_some_iff.mp h
  exact List.drop_eq_getElem_cons hi
theorem Has.int {d : PyData} (h : Has .num d) : ∃ n, d = .int n ∧ Num n := by
  cases h with
  | num h => exact ⟨_, rfl, h⟩
theorem Has.two {a b : Kd} {d : PyData} (h : Has (.pair a b) d) : ∃ x y, d = .tuple [x, y] ∧ Has a x ∧ Has b y := by
  cases h with
  | pair h1 h2 => exact ⟨_, _, rfl, h1, h2⟩
theorem Has.ints : ∀ {xs : List PyData}, (∀ x ∈ xs, Has .num x) → xs = (xs.map toI).map PyData.int
  | [], _ => rfl
  | x :: xs, h => by
    obtain ⟨n, rfl, _⟩ := (h x List.mem_cons_self).int
    rw [List.map_cons, List.map_cons, ← Has.ints fun y hy => h y (List.mem_cons_of_mem _ hy)]
    rfl
theorem doneD_has {d : Deed} {k k' : Kd} {x : PyData} (ok : d.Ok) (h : Has k x) (e : kindD d k = some k') : Has k' (doneD d x) := by
  have md : ∀ z : Int, Num (z % 1000003) := fun z => ⟨Int.emod_nonneg _ (by decide), Int.emod_lt_of_pos _ (by decide)⟩
  cases d with
  | both => cases e; exact .pair h h
  | add n =>
    cases k with
    | num => cases e; obtain ⟨i, rfl, _⟩ := h.int; exact .num (md _)
    | _ => cases e
  | times n =>
    cases k with
    | num => cases e; obtain ⟨i, rfl, _⟩ := h.int; exact .num (md _)
    | _ => cases e
  | minus =>
    cases k with
    | num => cases e; obtain ⟨i, rfl, _⟩ := h.int; exact .num (md _)
    | _ => cases e
  | first =>
    cases k with
    | pair a b => cases e; obtain ⟨x, y, rfl, h1, h2⟩ := h.two; exact h1
    | _ => cases e
  | second =>
    cases k with
    | pair a b => cases e; obtain ⟨x, y, rfl, h1, h2⟩ := h.two; exact h2
    | _ => cases e
  | sum =>
    cases k with
    | row a =>
      cases a with
      | num =>
        cases e
        cases h with
        | row h hl => exact .num (md _)
      | _ => cases e
    | _ => cases e
  | many =>
    cases k with
    | row a =>
      cases e
      cases h with
      | row h hl => exact .num ⟨Int.natCast_nonneg _, by show ((_ : Nat) : Int) < _; omega⟩
    | _ => cases e
/-- one turn of a loop over the deeds -/
theorem done_turn {ds : List Deed} {k k' : Kd} {x : PyData} {i : Nat} {d : Deed} (hx : Has k x) (hk : kindAll ds k = some k') (hd : ds[i]? = some d) (ok : ∀ e ∈ ds, e.Ok) :
    (∃ k1 k2, Has k1 (doneAll (ds.take i) x) ∧ kindD d k1 = some k2) ∧ doneAll (ds.take (i + 1)) x = doneD d (doneAll (ds.take i) x) := by
  have eq : ∀ (j : Nat) (e : Deed), ds[j]? = some e → doneAll (ds.take (j + 1)) x = doneD e (doneAll (ds.take j) x) := fun j e he => by
    rw [take_succ he]
    unfold doneAll
    rw [List.foldl_append]
    rfl
  have step : ∀ j, j ≤ ds.length → ∃ k1, kindAll (ds.take j) k = some k1 ∧ kindAll (ds.drop j) k1 = some k' ∧ Has k1 (doneAll (ds.take j) x) := by
    intro j
    induction j with
    | zero => intro _; exact ⟨k, rfl, hk, hx⟩
    | succ j ih =>
      intro hj
      obtain ⟨k1, a1, a2, a3⟩ := ih (by omega)
      have hj' : ds[j]? = some ds[j] := List.getElem?_eq_getElem (by omega)
      rw [drop_at hj'] at a2
      have a2 : (kindD ds[j] k1).bind (kindAll (ds.drop (j + 1))) = some k' := a2
      cases q : kindD ds[j] k1 with
      | none => rw [q] at a2; cases a2
      | some z =>
        rw [q] at a2
        refine ⟨z, ?_, a2, ?_⟩
        · rw [take_succ hj', kindAll_snoc a1, q]
        · rw [eq j _ hj']
          exact doneD_has (ok _ (List.mem_of_getElem? hj')) a3 q
  obtain ⟨hi, rfl⟩ := List.getElem?_eq_some_iff.mp hd
  obtain ⟨k1, a1, a2, a3⟩ := step i (by omega)
  rw [drop_at hd] at a2
  have a2 : (kindD ds[i] k1).bind (kindAll (ds.drop (i + 1))) = some k' := a2
  refine ⟨⟨k1, ?_⟩, eq i _ hd⟩
  cases q : kindD ds[i] k1 with
  | none => rw [q] at a2; cases a2
  | some z => exact ⟨z, a3, rfl⟩
def Kd.dp : Kd → Nat
  | .num => 0
  | .pair a b => max a.dp b.dp + 1
  | .row a => a.dp + 1
theorem Kd.can : ∀ k : Kd, k.d.canLay0 = true
  | .num => by decide +kernel
  | .pair a b => by
    have h1 := Kd.can a
    have h2 := Kd.can b
    simp only [Kd.d, PyData.canLay0, PyData.canLayAll0, h1, h2, Bool.and_true]
    decide +kernel
  | .row a => by
    have h1 := Kd.can a
    simp only [Kd.d, PyData.canLay0, PyData.canLayAll0, h1, Bool.and_true]
    decide +kernel
theorem Kd.depth : ∀ k : Kd, k.d.depth = k.dp
  | .num => rfl
  | .pair a b => by
    simp only [Kd.d, PyData.depth, PyData.depthAll, Kd.depth a, Kd.depth b, Kd.dp]
    omega
  | .row a => by
    simp only [Kd.d, PyData.depth, PyData.depthAll, Kd.depth a, Kd.dp]
    omega
theorem Kd.shaped {k : Kd} (h : k.dp ≤ 20) : SeqAt.shaped k.d = true := by
  unfold SeqAt.shaped
  rw [Kd.can, Kd.depth, Bool.true_and]
  exact decide_eq_true (by omega)
theorem Kd.eqv : ∀ a b : Kd, PyData.eqv a.d b.d = decide (a = b)
  | .num, .num => by decide +kernel
  | .num, .pair a b => by simp [Kd.d, PyData.eqv]
  | .num, .row a => by simp [Kd.d, PyData.eqv]
  | .pair a b, .num => by simp [Kd.d, PyData.eqv]
  | .row a, .num => by simp [Kd.d, PyData.eqv]
  | .pair a b, .row c => by
    have : (("pair" : Str) == ("row" : Str)) = false := by decide +kernel
    simp [Kd.d, PyData.eqv, PyData.eqvAll, this]
  | .row c, .pair a b => by
    have : (("row" : Str) == ("pair" : Str)) = false := by decide +kernel
    simp [Kd.d, PyData.eqv, PyData.eqvAll, this]
  | .pair a b, .pair c d => by
    simp [Kd.d, PyData.eqv, PyData.eqvAll, Kd.eqv a c, Kd.eqv b d]
  | .row a, .row c => by
    simp [Kd.d, PyData.eqv, PyData.eqvAll, Kd.eqv a c]
def holdsT : Tst → Int → Bool
  | .below n, i => decide (i < n)
  | .over n, i => decide (n < i)
  | .rest m r, i => decide (i % m = r)
def Wd := Fin 4
inductive Fw where
  | add | times | least | most
  deriving DecidableEq
def Fw.s : Fw → Str
  | .add => "add"
  | .times => "times"
  | .least => "least"
  | .most => "most"
def foldF : Fw → Int → Int → Int
  | .add, a, b => (a + b) % 1000003
  | .times, a, b => a * b % 1000003
  | .least, a, b => min a b
  | .most, a, b => max a b
def simpleD : Deed → Bool
  | .add _ => true
  | .times _ => true
  | .minus => true
  | _ => false
theorem simple_kind {d : Deed} (h : simpleD d = true) : kindD d .num = some .num := by
  cases d <;> first | rfl | cases h
theorem simples_kind : ∀ {es : List Deed}, (∀ e ∈ es, simpleD e = true) → kindAll es .num = some .num
  | [], _ => rfl
  | e :: es, h => by
    show (kindD e .num).bind (kindAll es) = some .num
    rw [simple_kind (h e List.mem_cons_self)]
    exact simples_kind fun x hx => h x (List.mem_cons_of_mem _ hx)
/-- deeds as they are drawn for a kind -/
structure DrawnD (k : Kd) (ds : List Deed) (k' : Kd) : Prop where
  l1 : 1 ≤ ds.length
  l2 : ds.length ≤ 64
  ok : ∀ t ∈ ds, t.Ok
  kk : kindAll ds k = some k'
  dp : k'.dp ≤ k.dp + 1
  dn : k ≠ .num → k'.dp ≤ k.dp
  mid : ∀ i k1, kindAll (ds.take i) k = some k1 → k1.dp ≤ k.dp + 1
  num : k = .num → ∃ (es : List Deed) (b : Bool), ds = es ++ (if b then [.both] else []) ∧ 1 ≤ es.length ∧ es.length ≤ 63 ∧ ∀ e ∈ es, simpleD e = true
theorem drawn_num {es : List Deed} (b : Bool) (h1 : 1 ≤ es.length) (h2 : es.length ≤ 63) (ok : ∀ t ∈ es, t.Ok) (si : ∀ e ∈ es, simpleD e = true) :
    DrawnD .num (es ++ (if b then [.both] else [])) (if b then .pair .num .num else .num) := by
  have hk : kindAll (es ++ (if b then [Deed.both] else [])) .num = some (if b then .pair .num .num else .num) := by
    cases b with
    | true => exact (kindAll_snoc (simples_kind si)).trans rfl
    | false => simp only [if_neg Bool.false_ne_true, List.append_nil]; exact simples_kind si
  refine ⟨by rw [List.length_append]; omega, ?_, fun t ht => ?_, hk, ?_, fun z => absurd rfl z, fun i k1 h => ?_, fun _ => ⟨es, b, rfl, h1, h2, si⟩⟩
  · rw [List.length_append]
    cases b <;> simp <;> omega
  · rcases List.mem_append.mp ht with ht | ht
    · exact ok t ht
    · cases b with
      | true => rw [List.mem_singleton.mp ht]; exact trivial
      | false => cases ht
  · cases b <;> decide
  · by_cases hi : i ≤ es.length
    · rw [List.take_append_of_le_length hi, simples_kind fun e he => si e (List.mem_of_mem_take he)] at h
      cases h
      decide
    · have : (es ++ (if b then [Deed.both] else [])).take i = es ++ (if b then [Deed.both] else []) := by
        apply List.take_of_length_le
        rw [List.length_append]
        cases b <;> simp <;> omega
      rw [this, hk] at h
      cases h
      cases b <;> decide
theorem mid_one {k k' : Kd} {d : Deed} (h : kindD d k = some k') (hd : k'.dp ≤ k.dp + 1) : ∀ i k1, kindAll ([d].take i) k = some k1 → k1.dp ≤ k.dp + 1 := by
  intro i k1 e
  cases i with
  | zero => cases e; omega
  | succ i =>
    have e : (kindD d k).bind (kindAll ([].take i)) = some k1 := e
    rw [h, List.take_nil] at e
    cases e
    exact hd
theorem mid_two {k k' k2 : Kd} {d e : Deed} (h : kindD d k = some k') (h2 : kindD e k' = some k2) (hd : k'.dp ≤ k.dp + 1) (hd2 : k2.dp ≤ k.dp + 1) : ∀ i k1, kindAll ([d, e].take i) k = some k1 → k1.dp ≤ k.dp + 1 := by
  intro i k1 q
  cases i with
  | zero => cases q; omega
  | succ i =>
    have q : (kindD d k).bind (kindAll ([e].take i)) = some k1 := q
    rw [h] at q
    cases i with
    | zero => cases q; exact hd
    | succ i =>
      have q : (kindD e k').bind (kindAll ([].take i)) = some k1 := q
      rw [h2, List.take_nil] at q
      cases q
      exact hd2
/-! ### the tactic words: one answer at a time -/
open PySem PySem.Spec PyProof.Rows L2
/-! ### what _law_like compares -/
mutual
def lk : PyData → Bool
  | .none => true
  | .int _ => true
  | .str _ => true
  | .tuple xs => decide (xs.length ≤ 100000000) && lks xs
  | .list xs => decide (xs.length ≤ 100000000) && lks xs
  | .bool _ => false
  | .dict _ => false
def lks : List PyData → Bool
  | [] => true
  | x :: xs => lk x && lks xs
end
theorem lks_get : ∀ {ds : List PyData} {i : Nat} {d : PyData}, lks ds = true → ds[i]? = some d → lk d = true
  | [], _, _, _, e => by simp at e
  | x :: xs, 0, d, h, e => by
    have h : (lk x && lks xs) = true := h
    rw [Bool.and_eq_true] at h
    simp at e
    rw [← e]
    exact h.1
  | x :: xs, i + 1, d, h, e => by
    have h : (lk x && lks xs) = true := h
    rw [Bool.and_eq_true] at h
    exact lks_get (ds := xs) (i := i) h.2 (by simpa using e)
theorem depth_get : ∀ {ds : List PyData} {i : Nat} {d : PyData}, ds[i]? = some d → d.depth ≤ PyData.depthAll ds
  | [], _, _, e => by simp at e
  | x :: xs, 0, d, e => by
    simp at e
    rw [← e]
    show _ ≤ max _ _
    omega
  | x :: xs, i + 1, d, e => by
    have := depth_get (ds := xs) (i := i) (d := d) (by simpa using e)
    show _ ≤ max _ _
    omega
theorem lks_all : ∀ {xs : List PyData}, (∀ x ∈ xs, lk x = true) → lks xs = true
  | [], _ => rfl
  | x :: xs, h => by
    show (lk x && lks xs) = true
    rw [h x List.mem_cons_self, lks_all fun y hy => h y (List.mem_cons_of_mem _ hy)]
    rfl
theorem depth_all {n : Nat} : ∀ {xs : List PyData}, (∀ x ∈ xs, x.depth ≤ n) → PyData.depthAll xs ≤ n
  | [], _ => Nat.zero_le _
  | x :: xs, h => by
    have h1 := h x List.mem_cons_self
    have h2 := depth_all (xs := xs) fun y hy => h y (List.mem_cons_of_mem _ hy)
    show max _ _ ≤ _
    omega
theorem lk_tuple {xs : List PyData} (h : ∀ x ∈ xs, lk x = true) (hl : xs.length ≤ 100000000) : lk (.tuple xs) = true := by
  show (decide (xs.length ≤ 100000000) && lks xs) = true
  rw [decide_eq_true hl, lks_all h]
  rfl
theorem lk_list {xs : List PyData} (h : ∀ x ∈ xs, lk x = true) (hl : xs.length ≤ 100000000) : lk (.list xs) = true := by
  show (decide (xs.length ≤ 100000000) && lks xs) = true
  rw [decide_eq_true hl, lks_all h]
  rfl
theorem Has_lk {k : Kd} {x : PyData} (h : Has k x) : lk x = true := by
  induction h with
  | num h => rfl
  | pair h1 h2 a b => exact lk_tuple (fun x hx => by rcases List.mem_cons.mp hx with rfl | hx; exact a; rw [List.mem_singleton.mp hx]; exact b) (by simp)
  | row h hl ih => exact lk_tuple ih (by omega)
theorem Has_depth {k : Kd} {x : PyData} (h : Has k x) : x.depth ≤ k.dp := by
  induction h with
  | num h => exact Nat.zero_le _
  | pair h1 h2 a b =>
    show max _ (max _ 0) + 1 ≤ max _ _ + 1
    omega
  | row h hl ih =>
    have := depth_all ih
    show PyData.depthAll _ + 1 ≤ _ + 1
    omega
theorem doneAll_has {ds : List Deed} {k k' : Kd} {x : PyData} (hx : Has k x) (hk : kindAll ds k = some k') (ok : ∀ e ∈ ds, e.Ok) : Has k' (doneAll ds x) := by
  induction ds generalizing k x with
  | nil => cases hk; exact hx
  | cons d ds ih =>
    have hk : (kindD d k).bind (kindAll ds) = some k' := hk
    cases q : kindD d k with
    | none => rw [q] at hk; cases hk
    | some z =>
      rw [q] at hk
      exact ih (doneD_has (ok d List.mem_cons_self) hx q) hk fun e he => ok e (List.mem_cons_of_mem _ he)
def tyN : PyData → String
  | .none => "NoneType"
  | .bool _ => "bool"
  | .int _ => "int"
  | .str _ => "str"
  | .tuple _ => "tuple"
  | .list _ => "list"
  | .dict _ => "dict"
section
variable {K : PySem.W.Frag} {H H' : Hp}
theorem Dp_ty {v : V} {d : PyData} (h : Dp K H v d) : TyX K H v (.type (tyN d)) := by
  cases h with
  | non => exact .base .non
  | bl b => exact .base (.bl b)
  | int i => exact .base (.int i)
  | str x => exact .base (.str x)
  | lst hs _ =>
    rcases hs with (h | ⟨o, h⟩) | ⟨o, its, n, hk, hc, _⟩
    · exact .base (.lst h)
    · exact .base (.frz h)
    · exact .kList hk hc
  | tup hs _ =>
    rcases hs with (h | ⟨o, h⟩) | ⟨o, its, n, hk, hc, _⟩
    · exact .base (.tup h)
    · exact .fTuple h
    · exact .kTuple hk hc
theorem DpAll_len : ∀ {vs : List V} {ds : List PyData}, DpAll K H vs ds → vs.length = ds.length
  | _, _, .nil => rfl
  | _, _, .cons _ t => congrArg Nat.succ (DpAll_len t)
theorem DpAll_got : ∀ {vs : List V} {ds : List PyData} {i : Nat} {d : PyData}, DpAll K H vs ds → ds[i]? = some d → ∃ v, vs[i]? = some v ∧ Dp K H v d
  | _, _, i, _, .nil, e => by simp at e
  | _, _, 0, v, .cons r _, e => by simp at e; subst e; exact ⟨_, rfl, r⟩
  | _, _, i + 1, v, .cons _ t, e => by
    obtain ⟨d, h1, h2⟩ := DpAll_got (i := i) (d := v) t (by simpa using e)
    exact ⟨d, by simpa using h1, h2⟩
theorem Dp_i {v : V} {i : Int} (h : Dp K H v (.int i)) : v = .int i := by cases h; rfl
theorem Dp_s {v : V} {i : Str} (h : Dp K H v (.str i)) : v = .str i := by cases h; rfl
theorem Dp_n {v : V} (h : Dp K H v .none) : v = .non := by cases h; rfl
theorem Acc.dp {l : Addr} {ds : List PyData} (h : Acc K H l ds) : Dp K H (.ref l) (.list ds) := by
  obtain ⟨vs, e, i⟩ := h
  exact .lst (SqL.of e) (Ims.dp ds vs i)
theorem Im.p {v : V} {d : PyData} (h : Im K H v d) : Dp K H v d := Im.dp d v h
end
section
variable {X : Cx}
/-- isinstance of data -/
def rIsD (K : PySem.W.Frag) : List V → Hp → VK → Prop := fun xs H Q => ∃ (v : V) (n : String) (d : PyData) (b : Bool), xs = [v, .ty n] ∧ Dp K H v d ∧ kitB (tyN d) n = some b ∧ Q (.bl b) H
theorem call_isD : CallR X (.builtin "isinstance") (rIsD X.K) := CallR.imp call_isi fun xs H Q q => by
  obtain ⟨v, n, d, b, rfl, hd, hk, q⟩ := q
  exact ⟨v, .ty n, _, _, b, rfl, .ty n, Dp_ty hd, kit_ty hk, q⟩
/-- isinstance of a bool -/
def rIsB (K : PySem.W.Frag) : List V → Hp → VK → Prop := fun xs H Q => ∃ (c : Bool) (n : String) (b : Bool), xs = [.bl c, .ty n] ∧ kitB "bool" n = some b ∧ Q (.bl b) H
theorem call_isB : CallR X (.builtin "isinstance") (rIsB X.K) := CallR.imp call_isi fun xs H Q q => by
  obtain ⟨c, n, b, rfl, hk, q⟩ := q
  exact ⟨_, .ty n, _, _, b, rfl, .ty n, .base (.bl c), kit_ty hk, q⟩
/-- len of data, lists too -/
def rLenP (K : PySem.W.Frag) : List V → Hp → VK → Prop := fun xs H Q => ∃ v ds, xs = [v] ∧ (Dp K H v (.tuple ds) ∨ Dp K H v (.list ds)) ∧ Q (.int ds.length) H
theorem call_lenP : CallR X (.builtin "len") (rLenP X.K) := CallR.imp call_len_seq fun xs H Q q => by
  obtain ⟨v, ds, rfl, h, k⟩ := q
  rcases h with h | h
  · cases h with
    | tup ht hs => exact ⟨_, _, rfl, .inr ht, by rw [DpAll_len hs]; exact k⟩
  · cases h with
    | lst ht hs => exact ⟨_, _, rfl, .inl ht, by rw [DpAll_len hs]; exact k⟩
def rIxP (K : PySem.W.Frag) : R2 := fun x y H Q => ∃ (ds : List PyData) (i : Int) (j : Nat) (d : PyData), (Dp K H x (.tuple ds) ∨ Dp K H x (.list ds)) ∧ y = .int i ∧ i = (j : Int) ∧ ds[j]? = some d ∧ ∀ v, Dp K H v d → Q v H
theorem ix_P : IxR X (rIxP X.K) := IxR.imp ix_seq fun x y H Q q => by
  obtain ⟨ds, i, j, d, h, rfl, hi, hd, k⟩ := q
  rcases h with h | h
  · cases h with
    | tup ht hs =>
      obtain ⟨v, hv, iv⟩ := DpAll_got hs hd
      exact .inr (.inl ⟨_, _, i, v, rfl, rfl, ht, at_of hi hv, k v iv⟩)
  · cases h with
    | lst ht hs =>
      obtain ⟨v, hv, iv⟩ := DpAll_got hs hd
      exact .inl ⟨_, _, i, v, rfl, rfl, ht, at_of hi hv, k v iv⟩
end
open PySem PySem.Spec PyProof.Rows L2
def cutD (ds : List PyData) (lo hi : Option Int) : List PyData := (ds.drop (HT.sIx ds.length 0 lo)).take (HT.sIx ds.length ds.length hi - HT.sIx ds.length 0 lo)
section
variable {K : PySem.W.Frag} {H H' : Hp}
theorem Ims.drop : ∀ {vs : List V} {ds : List PyData} (n : Nat), Ims K H vs ds → Ims K H (vs.drop n) (ds.drop n)
  | _, _, 0, h => h
  | _, _, _ + 1, .nil => .nil
  | _, _, n + 1, .cons _ t => Ims.drop n t
theorem Ims.take : ∀ {vs : List V} {ds : List PyData} (n : Nat), Ims K H vs ds → Ims K H (vs.take n) (ds.take n)
  | _, _, 0, _ => .nil
  | _, _, _ + 1, .nil => .nil
  | _, _, n + 1, .cons r t => .cons r (Ims.take n t)
end
section
variable {X : Cx}
theorem SlR.imp {r r' : V → Option Int → Option Int → Hp → VK → Prop} (h : SlR X r) (k : ∀ x lo hi H Q, r' x lo hi H Q → r x lo hi H Q) : SlR X r' := by
  intro pins s σ H x v vl vu lo hi sl Q I rx hs pl pu q
  exact h pins s σ H x v vl vu lo hi sl Q I rx hs pl pu (k _ _ _ _ _ q)
/-- t[lo:hi] of data -/
def rSlD (K : PySem.W.Frag) : V → Option Int → Option Int → Hp → VK → Prop := fun x lo hi H Q => ∃ ds, Im K H x (.tuple ds) ∧ ∀ v H', Same H H' → TK K H H' → Im K H' v (.tuple (cutD ds lo hi)) → Q v H'
theorem sl_tupD : SlR X (rSlD X.K) := SlR.imp sl_tupA fun x lo hi H Q q => by
  obtain ⟨ds, i, k⟩ := q
  obtain ⟨a, xs, rfl, ht, hs⟩ := i.t
  refine ⟨a, xs, rfl, ht, fun hw => ?_, fun hw p hp => ?_⟩
  · refine k _ H (Same.refl H) TK.refl ?_
    have e : cutD ds lo hi = ds := by
      unfold cutD
      rw [← hs.len, hw.1, hw.2]
      rw [List.drop_zero, hs.len, Nat.sub_zero, List.take_length]
    rw [e]
    exact i
  · have s := same_new (o := HO.tup (cutV xs lo hi)) hp
    refine k _ _ s (same_tk s) (.tup (SqT.of upd_same) ?_)
    have t := ((hs.u (same_tk s)).drop (HT.sIx xs.length 0 lo)).take (HT.sIx xs.length xs.length hi - HT.sIx xs.length 0 lo)
    have e : cutD ds lo hi = (ds.drop (HT.sIx xs.length 0 lo)).take (HT.sIx xs.length xs.length hi - HT.sIx xs.length 0 lo) := by
      unfold cutD
      rw [hs.len]
    rw [e]
    exact t
/-- x in a tuple of data -/
def rInT (K : PySem.W.Frag) : R2 := fun x y H Q => ∃ d ds, Im K H x d ∧ Im K H y (.tuple ds) ∧ SeqAt.shaped d = true ∧ PyData.canLayAll0 ds = true ∧ Q (.bl (ds.any fun z => PyData.eqv z d)) H
theorem op_inT (hu : X.A.units + 65 < cLine) : OpR X (compareOp .In) (rInT X.K) := by
  intro pins s σ H x y v u Q I rx ry h
  obtain ⟨d, ds, hd, he, sd, se, q⟩ := h
  obtain ⟨as, r1⟩ := Dp.reads I d x v hd.p rx
  obtain ⟨bs, r2⟩ := Dp.reads I (.tuple ds) y u he.p ry
  exact SeqAt.in_tuple_reads r2 r1 se (SeqAt.canLay_of_shaped sd) (room_in_shaped sd hu) ⟨.bl _, H, I, rfl, q⟩
theorem hu65 {A : Around} {k : Nat} (hr : Room k A) : A.units + 65 < cLine := by have := hr.un; omega
/-- a text in a tuple of texts -/
def rInS (K : PySem.W.Frag) : R2 := fun x y H Q => ∃ (z : Str) (ws : List Str), x = .str z ∧ Im K H y (.tuple (ws.map PyData.str)) ∧ Q (.bl (decide (z ∈ ws))) H
theorem strs_all : ∀ ws : List Str, (ws.map V.str).all flatV = true
  | [] => rfl
  | w :: ws => by
    show (true && (ws.map V.str).all flatV) = true
    rw [strs_all ws]
    rfl
theorem strs_in {z : Str} : ∀ ws : List Str, inV (V.str z) (ws.map V.str) = decide (z ∈ ws)
  | [] => by simp [inV]
  | w :: ws => by
    have h := strs_in (z := z) ws
    show ((w == z) || inV (V.str z) (ws.map V.str)) = _
    rw [h]
    by_cases e : w = z
    · subst e; simp
    · have e' : ¬ z = w := fun q => e q.symm
      simp [e, e']
theorem Ims_strs {K : PySem.W.Frag} {H : Hp} : ∀ (ws : List Str) {vs : List V}, Ims K H vs (ws.map PyData.str) → vs = ws.map V.str
  | [], _, h => by cases h; rfl
  | n :: ns, _, h => by
    cases h with
    | cons a b => cases a; rw [Ims_strs ns b]; rfl
theorem op_inTS : OpR X (compareOp .In) (rInS X.K) := OpR.imp op_in_seq fun x y H Q q => by
  obtain ⟨z, ws, rfl, i, q⟩ := q
  obtain ⟨a, xs, rfl, ht, hs⟩ := i.t
  rw [Ims_strs _ hs] at ht
  refine ⟨a, _, rfl, .inr ht, rfl, strs_all ws, ?_⟩
  rw [if_neg Bool.false_ne_true, strs_in]
  exact q
/-- an int not in a list of ints -/
def rNotInI (K : PySem.W.Frag) : R2 := fun x y H Q => ∃ (z : Int) (l : Addr) (ns : List Int), x = .int z ∧ y = .ref l ∧ Acc K H l (ns.map PyData.int) ∧ Q (.bl (!decide (z ∈ ns))) H
theorem ints_all : ∀ ns : List Int, (ns.map V.int).all flatV = true
  | [] => rfl
  | w :: ws => by
    show (true && (ws.map V.int).all flatV) = true
    rw [ints_all ws]
    rfl
theorem ints_in {z : Int} : ∀ ws : List Int, inV (V.int z) (ws.map V.int) = decide (z ∈ ws)
  | [] => by simp [inV]
  | w :: ws => by
    have h := ints_in (z := z) ws
    show ((w == z) || inV (V.int z) (ws.map V.int)) = _
    rw [h]
    by_cases e : w = z
    · subst e; simp
    · have e' : ¬ z = w := fun q => e q.symm
      simp [e, e']
theorem op_notInI : OpR X (compareOp .NotIn) (rNotInI X.K) := OpR.imp op_notIn_seq fun x y H Q q => by
  obtain ⟨z, l, ns, rfl, rfl, ⟨vs, e, i⟩, q⟩ := q
  rw [Ims.of_ints _ i] at e
  refine ⟨l, _, rfl, .inl (SqL.of e), rfl, ints_all ns, ?_⟩
  rw [if_pos rfl, ints_in]
  exact q
/-- t[-1] and its like -/
def rIxN (K : PySem.W.Frag) : R2 := fun x y H Q => ∃ (ds : List PyData) (i : Int) (j : Nat) (d : PyData), Im K H x (.tuple ds) ∧ y = .int i ∧ ixN ds.length i = some j ∧ ds[j]? = some d ∧ ∀ v, Im K H v d → Q v H
theorem ix_tupN : IxR X (rIxN X.K) := IxR.imp ix_tup fun x y H Q q => by
  obtain ⟨ds, i, j, d, im, rfl, hi, hd, k⟩ := q
  obtain ⟨a, xs, rfl, ht, hs⟩ := im.t
  obtain ⟨v, hv, iv⟩ := hs.got hd
  refine ⟨a, xs, i, v, rfl, rfl, ht, ?_, k v iv⟩
  unfold atI
  rw [hs.len, hi]
  exact hv
/-- for i, x in enumerate(list) -/
theorem for_enum {K : PySem.W.Frag} {a : Addr} {xs : List V} {g : TG} {tb : TS} {D : Ends} {σ : L2.St} {H : Hp} (Pv : Nat → L2.St → Hp → Prop) (h0 : Pv 0 σ H) (hl : ∀ i σ H, i ≤ xs.length → Pv i σ H → SqL K H a xs)
    (hs : ∀ i x σ H T H1, xs[i]? = some x → Pv i σ H → H T = none → Same H H1 → H1 T = some (.tup [.int (i : Nat), x]) → g (.ref T) σ H1 fun σ2 H2 => tb { D with nx := Pv (i + 1), ct := Pv (i + 1), bk := D.nx } σ2 H2) (hd : ∀ σ H, Pv xs.length σ H → D.nx σ H) :
    ∃ W : Nat → Nat → L2.St → Hp → Prop, (∃ m, W 0 m σ H) ∧ ∀ i m σ H, W i m σ H →
      ((Ite K a).stop i H ∧ D.nx σ H) ∨ ((Ite K a).go i H ∧ ∃ N : L2.St → Hp → Prop, (∀ σ' H', N σ' H' → ∃ m', m' < m ∧ W (i + 1) m' σ' H') ∧ ∀ x H', (Ite K a).yld i H x H' → g x σ H' fun σ2 H2 => tb { D with nx := N, ct := N, bk := D.nx } σ2 H2) := by
  refine ⟨fun i m σ H => m = xs.length - i ∧ i ≤ xs.length ∧ Pv i σ H, ⟨xs.length, by simp, Nat.zero_le _, h0⟩, ?_⟩
  rintro i m σ H ⟨rfl, hi, p⟩
  have q := hl i σ H hi p
  by_cases hlt : i < xs.length
  · refine .inr ⟨⟨xs, xs[i], q, by simp [hlt]⟩, Pv (i + 1), fun σ' H' p' => ⟨xs.length - (i + 1), by omega, rfl, hlt, p'⟩, fun x H' y => ?_⟩
    obtain ⟨T, x1, rfl, hT, rfl, f⟩ := y
    exact hs i x1 σ H T _ (f xs q) p hT (same_new hT) upd_same
  · have e : i = xs.length := by omega
    subst e
    exact .inl ⟨⟨xs, q, Nat.le_refl _⟩, hd σ H p⟩
/-- the loop of a comprehension's clause -/
theorem pi_listK {X : Cx} {K : PySem.W.Frag} {tg l : Expr} {tl : TE} (hK : X.K = K) (hl : PE X l tl) : PI X tg l (iList K tl) := by subst hK; exact pi_list hl
theorem pi_tupK {X : Cx} {K : PySem.W.Frag} {tg l : Expr} {tl : TE} (hK : X.K = K) (hl : PE X l tl) : PI X tg l (iTup K tl) := by subst hK; exact pi_tup hl
theorem loop_tup {K : PySem.W.Frag} {a : Addr} {xs : List V} {B : (Hp → Prop) → V → Hp → Prop} {E : Hp → Prop} {H1 : Hp} (Pv : Nat → Hp → Prop) (h0 : Pv 0 H1) (hl : ∀ i H, i ≤ xs.length → Pv i H → SqT K H a xs)
    (hs : ∀ i x H, xs[i]? = some x → Pv i H → B (Pv (i + 1)) x H) (hd : ∀ H, Pv xs.length H → E H) :
    ∃ W : Nat → Nat → Hp → Prop, (∃ m, W 0 m H1) ∧ ∀ i m H, W i m H →
      ((Itt K a).stop i H ∧ E H) ∨ ((Itt K a).go i H ∧ ∃ Nx : Hp → Prop, (∀ H', Nx H' → ∃ m', m' < m ∧ W (i + 1) m' H') ∧ ∀ x H', (Itt K a).yld i H x H' → B Nx x H') := by
  refine ⟨fun i m H => m = xs.length - i ∧ i ≤ xs.length ∧ Pv i H, ⟨xs.length, by simp, Nat.zero_le _, h0⟩, ?_⟩
  rintro i m H ⟨rfl, hi, p⟩
  have q := hl i H hi p
  by_cases hlt : i < xs.length
  · refine .inr ⟨⟨xs, xs[i], q, by simp [hlt]⟩, Pv (i + 1), fun H' p' => ⟨xs.length - (i + 1), by omega, rfl, hlt, p'⟩, fun x H' y => ?_⟩
    obtain ⟨e, y⟩ := y
    subst e
    exact hs i x _ (y xs q) p
  · have e : i = xs.length := by omega
    subst e
    exact .inl ⟨⟨xs, q, Nat.le_refl _⟩, hd H p⟩
theorem loop_list {K : PySem.W.Frag} {a : Addr} {xs : List V} {B : (Hp → Prop) → V → Hp → Prop} {E : Hp → Prop} {H1 : Hp} (Pv : Nat → Hp → Prop) (h0 : Pv 0 H1) (hl : ∀ i H, i ≤ xs.length → Pv i H → SqL K H a xs)
    (hs : ∀ i x H, xs[i]? = some x → Pv i H → B (Pv (i + 1)) x H) (hd : ∀ H, Pv xs.length H → E H) :
    ∃ W : Nat → Nat → Hp → Prop, (∃ m, W 0 m H1) ∧ ∀ i m H, W i m H →
      ((Itl K a).stop i H ∧ E H) ∨ ((Itl K a).go i H ∧ ∃ Nx : Hp → Prop, (∀ H', Nx H' → ∃ m', m' < m ∧ W (i + 1) m' H') ∧ ∀ x H', (Itl K a).yld i H x H' → B Nx x H') := by
  refine ⟨fun i m H => m = xs.length - i ∧ i ≤ xs.length ∧ Pv i H, ⟨xs.length, by simp, Nat.zero_le _, h0⟩, ?_⟩
  rintro i m H ⟨rfl, hi, p⟩
  have q := hl i H hi p
  by_cases hlt : i < xs.length
  · refine .inr ⟨⟨xs, xs[i], q, by simp [hlt]⟩, Pv (i + 1), fun H' p' => ⟨xs.length - (i + 1), by omega, rfl, hlt, p'⟩, fun x H' y => ?_⟩
    obtain ⟨e, y⟩ := y
    subst e
    exact hs i x _ (y xs q) p
  · have e : i = xs.length := by omega
    subst e
    exact .inl ⟨⟨xs, q, Nat.le_refl _⟩, hd H p⟩
theorem loop_rng {lo : Int} {n : Nat} {B : (Hp → Prop) → V → Hp → Prop} {E : Hp → Prop} {H1 : Hp} (Pv : Nat → Hp → Prop) (h0 : Pv 0 H1)
    (hs : ∀ i H, i < n → Pv i H → B (Pv (i + 1)) (.int (lo + i)) H) (hd : ∀ H, Pv n H → E H) :
    ∃ W : Nat → Nat → Hp → Prop, (∃ m, W 0 m H1) ∧ ∀ i m H, W i m H →
      ((Itr lo n).stop i H ∧ E H) ∨ ((Itr lo n).go i H ∧ ∃ Nx : Hp → Prop, (∀ H', Nx H' → ∃ m', m' < m ∧ W (i + 1) m' H') ∧ ∀ x H', (Itr lo n).yld i H x H' → B Nx x H') := by
  refine ⟨fun i m H => m = n - i ∧ i ≤ n ∧ Pv i H, ⟨n, by simp, Nat.zero_le _, h0⟩, ?_⟩
  rintro i m H ⟨rfl, hi, p⟩
  by_cases hlt : i < n
  · refine .inr ⟨hlt, Pv (i + 1), fun H' p' => ⟨n - (i + 1), by omega, rfl, hlt, p'⟩, fun x H' y => ?_⟩
    obtain ⟨e, y⟩ := y
    subst e y
    exact hs i _ hlt p
  · have e : i = n := by omega
    subst e
    exact .inl ⟨Nat.le_refl _, hd H p⟩
end
open PySem PySem.Spec PyProof.Rows L2
/-! ### lines and weaves -/
inductive Ln where
  | source (k : Int) | map (ds : List Deed) (a : Int) | keep (ts : List Tst) (a : Int) | whil (ts : List Tst) (a : Int)
  | take (n a : Int) | skip (n a : Int) | group (m a : Int) | window (n a : Int) | fold (w : Fw) (n a : Int)
  | chain (a b : Int) | pair (a b : Int) | merge (a b : Int)
  deriving DecidableEq
def Ln.d : Ln → PyData
  | .source k => .tuple [.str "source", .int k]
  | .map ds a => .tuple [.str "map", .tuple (ds.map Deed.d), .int a]
  | .keep ts a => .tuple [.str "keep", .tuple (ts.map Tst.d), .int a]
  | .whil ts a => .tuple [.str "while", .tuple (ts.map Tst.d), .int a]
  | .take n a => .tuple [.str "take", .int n, .int a]
  | .skip n a => .tuple [.str "skip", .int n, .int a]
  | .group n a => .tuple [.str "group", .int n, .int a]
  | .window n a => .tuple [.str "window", .int n, .int a]
  | .fold w n a => .tuple [.str "fold", .str w.s, .int n, .int a]
  | .chain a b => .tuple [.str "chain", .int a, .int b]
  | .pair a b => .tuple [.str "pair", .int a, .int b]
  | .merge a b => .tuple [.str "merge", .int a, .int b]
/-- the lines that it names -/
def Ln.names : Ln → List Int
  | .source _ => []
  | .map _ a => [a]
  | .keep _ a => [a]
  | .whil _ a => [a]
  | .take _ a => [a]
  | .skip _ a => [a]
  | .group _ a => [a]
  | .window _ a => [a]
  | .fold _ _ a => [a]
  | .chain a b => [a, b]
  | .pair a b => [a, b]
  | .merge a b => [a, b]
def Ln.src : Ln → Option Int
  | .source k => some k
  | _ => none
def isNum (n : Int) : Bool := decide (0 ≤ n) && decide (n < 1000003)
theorem isNum_iff {n : Int} : isNum n = true ↔ Num n := by
  unfold isNum Num
  rw [Bool.and_eq_true, decide_eq_true_eq, decide_eq_true_eq]
def deedNum : Deed → Bool
  | .add n => isNum n
  | .times n => isNum n
  | _ => true
def tstNum : Tst → Bool
  | .below n => isNum n
  | .over n => isNum n
  | .rest m r => isNum m && (decide (0 ≤ r) && decide (r < m))
theorem deedNum_iff {d : Deed} : deedNum d = true ↔ d.Ok := by
  cases d with
  | add n => exact isNum_iff
  | times n => exact isNum_iff
  | _ => exact ⟨fun _ => trivial, fun _ => rfl⟩
theorem tstNum_iff {t : Tst} : tstNum t = true ↔ t.Ok := by
  cases t with
  | below n => exact isNum_iff
  | over n => exact isNum_iff
  | rest m r =>
    show (isNum m && (decide (0 ≤ r) && decide (r < m))) = true ↔ (Num m ∧ 0 ≤ r ∧ r < m)
    rw [Bool.and_eq_true, Bool.and_eq_true, decide_eq_true_eq, decide_eq_true_eq, isNum_iff]
def deedsCan (ds : List Deed) : Bool := (decide (1 ≤ ds.length) && decide (ds.length ≤ 64)) && ds.all deedNum
def testsCan (ts : List Tst) : Bool := (decide (1 ≤ ts.length) && decide (ts.length ≤ 64)) && ts.all tstNum
/-- its numbers -/
def numOk : Ln → Bool
  | .map ds _ => deedsCan ds
  | .keep ts _ => testsCan ts
  | .whil ts _ => testsCan ts
  | .take n _ => decide (0 ≤ n) && decide (n ≤ 9999)
  | .skip n _ => decide (0 ≤ n) && decide (n ≤ 9999)
  | .group m _ => decide (1 ≤ m) && isNum m
  | .window n _ => decide (1 ≤ n) && decide (n ≤ 9)
  | .fold _ n _ => isNum n
  | _ => true
/-- its places -/
def placeOk (l : Ln) (at_ many : Int) (srcs : List Int) : Bool :=
  match l with
  | .source k => (decide (0 ≤ k) && decide (k < many)) && !decide (k ∈ srcs)
  | l => l.names.all fun a => decide (0 ≤ a) && decide (a < at_)
/-- its kind, by those of the lines that it names -/
def kindN : Ln → List Kd → Option Kd
  | .source _, _ => some .num
  | .map ds _, [k] => kindAll ds k
  | .keep _ _, [k] => if k = .num then some .num else none
  | .whil _ _, [k] => if k = .num then some .num else none
  | .take _ _, [k] => some k
  | .skip _ _, [k] => some k
  | .group _ _, [k] => if k = .num then some (.pair .num (.row .num)) else none
  | .window _ _, [k] => some (.row k)
  | .fold _ _ _, [k] => if k = .num then some .num else none
  | .chain _ _, [k, j] => if k = j then some k else none
  | .pair _ _, [k, j] => some (.pair k j)
  | .merge _ _, [k, j] => if k = .num ∧ j = .num then some .num else none
  | _, _ => none
def namedK (ks : List Kd) : List Int → Option (List Kd)
  | [] => some []
  | a :: r => (ks[a.toNat]?).bind fun k => (namedK ks r).map (k :: ·)
def kindL (l : Ln) (ks : List Kd) : Option Kd := (namedK ks l.names).bind (kindN l)
def srcs (ls : List Ln) : List Int := ls.filterMap Ln.src
def two : Ln → Bool
  | .chain _ _ => true
  | .merge _ _ => true
  | _ => false
/-- no kind on the way of its deeds is too deep -/
def midOk (l : Ln) (ks : List Kd) : Prop := ∀ ds a k, l = .map ds a → namedK ks l.names = some [k] → ∀ i k1, kindAll (ds.take i) k = some k1 → k1.dp ≤ 60
/-- a weave that can be, its kinds -/
inductive GoodW (many : Int) : List Ln → List Kd → Prop
  | nil : GoodW many [] []
  | snoc {ls : List Ln} {ks : List Kd} {l : Ln} {k : Kd} (w : GoodW many ls ks) (hp : placeOk l ls.length many (srcs ls) = true) (hn : numOk l = true) (hk : kindL l ks = some k) (hd : k.dp ≤ 8) (hm : midOk l ks) : GoodW many (ls ++ [l]) (ks ++ [k])
theorem GoodW.len {many : Int} {ls : List Ln} {ks : List Kd} (w : GoodW many ls ks) : ls.length = ks.length := by
  induction w with
  | nil => rfl
  | snoc _ _ _ _ _ _ ih => rw [List.length_append, List.length_append, ih]; rfl
theorem GoodW.at {many : Int} {ls : List Ln} {ks : List Kd} (w : GoodW many ls ks) : ∀ {i : Nat} {l : Ln}, ls[i]? = some l →
    ∃ k, ks[i]? = some k ∧ placeOk l i many (srcs (ls.take i)) = true ∧ numOk l = true ∧ kindL l (ks.take i) = some k ∧ k.dp ≤ 8 ∧ midOk l (ks.take i) := by
  induction w with
  | nil => intro i l h; simp at h
  | @snoc ls ks l k w hp hn hk hd hm ih =>
    intro i l' h
    have hl := w.len
    by_cases hi : i < ls.length
    · rw [List.getElem?_append_left hi] at h
      obtain ⟨k', a1, a2, a3, a4, a5, a6⟩ := ih h
      refine ⟨k', by rw [List.getElem?_append_left (by omega)]; exact a1, ?_, a3, ?_, a5, ?_⟩
      · rw [List.take_append_of_le_length (by omega)]
        exact a2
      · rw [List.take_append_of_le_length (by omega)]
        exact a4
      · rw [List.take_append_of_le_length (by omega)]
        exact a6
    · have hi' : i = ls.length := by
        have := (List.getElem?_eq_some_iff.mp h).1
        rw [List.length_append] at this
        have h1 : [l].length = 1 := rfl
        omega
      subst hi'
      rw [List.getElem?_append_right (Nat.le_refl _), Nat.sub_self] at h
      obtain rfl : l = l' := Option.some.inj h
      refine ⟨k, by rw [hl, List.getElem?_append_right (Nat.le_refl _), Nat.sub_self]; rfl, ?_, hn, ?_, hd, ?_⟩
      · rw [List.take_left']
        · exact hp
        · rfl
      · rw [List.take_left']
        · exact hk
        · exact hl.symm
      · rw [List.take_left']
        · exact hm
        · exact hl.symm
def wdD : Deed → Str
  | .add _ => "add"
  | .times _ => "times"
  | .minus => "minus"
  | .first => "first"
  | .second => "second"
  | .both => "both"
  | .sum => "sum"
  | .many => "many"
def kdO : Option Kd → PyData
  | none => .none
  | some k => k.d
theorem Deed.can (d : Deed) : d.d.canLay0 = true := by
  cases d <;> simp only [Deed.d, PyData.canLay0, PyData.canLayAll0, Bool.and_true] <;> decide +kernel
theorem Tst.can (t : Tst) : t.d.canLay0 = true := by
  cases t <;> simp only [Tst.d, PyData.canLay0, PyData.canLayAll0, Bool.and_true] <;> decide +kernel
theorem canAll {α : Type} {f : α → PyData} (h : ∀ x, (f x).canLay0 = true) : ∀ xs : List α, PyData.canLayAll0 (xs.map f) = true
  | [] => rfl
  | x :: xs => by
    show ((f x).canLay0 && PyData.canLayAll0 (xs.map f)) = true
    rw [h x, canAll h xs]
    rfl
theorem depAll {α : Type} {f : α → PyData} {n : Nat} (h : ∀ x, (f x).depth ≤ n) : ∀ xs : List α, PyData.depthAll (xs.map f) ≤ n
  | [] => Nat.zero_le _
  | x :: xs => by
    have h1 := h x
    have h2 := depAll h xs
    show max _ _ ≤ n
    omega
theorem Deed.dep (d : Deed) : d.d.depth ≤ 1 := by
  cases d <;> exact Nat.le_refl _
theorem Tst.dep (t : Tst) : t.d.depth ≤ 1 := by
  cases t <;> exact Nat.le_refl _
theorem Ln.can (l : Ln) : l.d.canLay0 = true := by
  cases l with
  | map ds a =>
    simp only [Ln.d, PyData.canLay0, PyData.canLayAll0, canAll Deed.can, Bool.and_true]
    decide +kernel
  | keep ts a =>
    simp only [Ln.d, PyData.canLay0, PyData.canLayAll0, canAll Tst.can, Bool.and_true]
    decide +kernel
  | whil ts a =>
    simp only [Ln.d, PyData.canLay0, PyData.canLayAll0, canAll Tst.can, Bool.and_true]
    decide +kernel
  | fold w n a => cases w <;> (simp only [Ln.d, PyData.canLay0, PyData.canLayAll0, Bool.and_true, Fw.s]; decide +kernel)
  | _ => simp only [Ln.d, PyData.canLay0, PyData.canLayAll0, Bool.and_true]; decide +kernel
theorem Ln.dep (l : Ln) : l.d.depth ≤ 3 := by
  cases l with
  | map ds a =>
    have := depAll Deed.dep ds
    show max 0 (max (PyData.depthAll (ds.map Deed.d) + 1) (max 0 0)) + 1 ≤ 3
    omega
  | keep ts a =>
    have := depAll Tst.dep ts
    show max 0 (max (PyData.depthAll (ts.map Tst.d) + 1) (max 0 0)) + 1 ≤ 3
    omega
  | whil ts a =>
    have := depAll Tst.dep ts
    show max 0 (max (PyData.depthAll (ts.map Tst.d) + 1) (max 0 0)) + 1 ≤ 3
    omega
  | _ => exact (by decide : (1 : Nat) ≤ 3)
theorem lines_shaped (ls : List Ln) : SeqAt.shaped (.list (ls.map Ln.d)) = true := by
  have h1 := depAll Ln.dep ls
  show ((PyData.canLayAll0 (ls.map Ln.d)) && decide (PyData.depthAll (ls.map Ln.d) + 1 ≤ 64)) = true
  rw [canAll Ln.can, Bool.true_and]
  exact decide_eq_true (by omega)
theorem Kd_lk : ∀ k : Kd, lk k.d = true
  | .num => rfl
  | .pair a b => by
    have h1 := Kd_lk a
    have h2 := Kd_lk b
    show (decide (3 ≤ 100000000) && (true && (lk a.d && (lk b.d && true)))) = true
    rw [h1, h2]
    decide
  | .row a => by
    have h1 := Kd_lk a
    show (decide (2 ≤ 100000000) && (true && (lk a.d && true))) = true
    rw [h1]
    decide
def Deed.args : Deed → List Int
  | .add n => [n]
  | .times n => [n]
  | _ => []
theorem Deed.tail (d : Deed) : ∃ w, d.d = .tuple (.str w :: d.args.map PyData.int) ∧ w = wdD d := by
  cases d <;> exact ⟨_, rfl, rfl⟩
theorem cut_tail (x : PyData) (xs : List PyData) : cutD (x :: xs) (some 1) none = xs := by
  unfold cutD
  rw [show HT.sIx (x :: xs).length 0 (some 1) = min 1 (x :: xs).length from HT.sIx_nat _ 0 1, HT.sIx_none]
  rw [show min 1 (x :: xs).length = 1 by rw [List.length_cons]; omega]
  show xs.take ((x :: xs).length - 1) = xs
  rw [List.length_cons, Nat.add_sub_cancel, List.take_length]
theorem deedNum_args (d : Deed) : deedNum d = d.args.all isNum := by
  cases d with
  | add n => show isNum n = (isNum n && true); rw [Bool.and_true]
  | times n => show isNum n = (isNum n && true); rw [Bool.and_true]
  | _ => rfl
theorem deeds_all (ds : List Deed) : (ds.flatMap fun d => d.args.map isNum).all id = ds.all deedNum := by
  induction ds with
  | nil => rfl
  | cons d ds ih =>
    rw [List.flatMap_cons, List.all_append, ih, List.all_cons, deedNum_args, List.all_map]
    rfl
theorem kdO_ne {K : PySem.W.Frag} {H : Hp} {v : V} {k : Kd} (h : Im K H v k.d) : v ≠ .non := by
  cases k <;> (intro e; subst e; cases h)
theorem Kd.canAll (k : Kd) (h : k.dp ≤ 20) : PyData.canLayAll0 [k.d] = true := by
  show (k.d.canLay0 && true) = true
  rw [k.can]
  rfl
theorem namedK_at : ∀ {ks : List Kd} {as : List Int} {kn : List Kd}, namedK ks as = some kn → as.length = kn.length ∧ ∀ (j : Nat) (a : Int), as[j]? = some a → ∃ k, ks[a.toNat]? = some k ∧ kn[j]? = some k
  | ks, [], kn, h => by cases h; exact ⟨rfl, fun j a e => by simp at e⟩
  | ks, a :: as, kn, h => by
    have h : (ks[a.toNat]?).bind (fun k => (namedK ks as).map (k :: ·)) = some kn := h
    cases q : ks[a.toNat]? with
    | none => rw [q] at h; cases h
    | some k =>
      rw [q] at h
      have h : (namedK ks as).map (k :: ·) = some kn := h
      cases q2 : namedK ks as with
      | none => rw [q2] at h; cases h
      | some kr =>
        rw [q2] at h
        obtain rfl : k :: kr = kn := Option.some.inj h
        obtain ⟨l, f⟩ := namedK_at q2
        refine ⟨congrArg Nat.succ l, fun j b e => ?_⟩
        cases j with
        | zero => simp at e; subst e; exact ⟨k, q, rfl⟩
        | succ j => exact f j b (by simpa using e)
theorem kindL_some {l : Ln} {ks : List Kd} {k : Kd} (h : kindL l ks = some k) : ∃ kn, namedK ks l.names = some kn ∧ kindN l kn = some k := by
  unfold kindL at h
  cases q : namedK ks l.names with
  | none => rw [q] at h; cases h
  | some kn => rw [q] at h; exact ⟨kn, rfl, h⟩
theorem place_names {l : Ln} {at_ many : Int} {ss : List Int} (h : placeOk l at_ many ss = true) : ∀ a ∈ l.names, 0 ≤ a ∧ a < at_ := by
  intro a ha
  cases l with
  | source k => cases ha
  | _ =>
    have h := List.all_eq_true.mp h a ha
    rw [Bool.and_eq_true, decide_eq_true_eq, decide_eq_true_eq] at h
    exact h
theorem srcs_snoc {ls : List Ln} {l : Ln} : srcs (ls ++ [l]) = srcs ls ++ (match l.src with | some k => [k] | none => []) := by
  unfold srcs
  rw [List.filterMap_append]
  cases l <;> rfl
def simpleK (k : Kd) : Bool := decide (k = .num) || decide (k = .pair .num .num)
theorem simple_any (k : Kd) : ([Kd.num.d, (Kd.pair .num .num).d].any fun z => PyData.eqv z k.d) = simpleK k := by
  unfold simpleK
  rw [List.any_cons, List.any_cons, List.any_nil, Kd.eqv, Kd.eqv, Bool.or_false]
  congr 1 <;> (congr 1; exact propext ⟨fun h => h.symm, fun h => h.symm⟩)
theorem simple_dp {k : Kd} (h : simpleK k = true) : k.dp ≤ 1 := by
  unfold simpleK at h
  rw [Bool.or_eq_true, decide_eq_true_eq, decide_eq_true_eq] at h
  rcases h with rfl | rfl <;> decide
/-- a line as it is drawn behind lines of these kinds -/
structure DrawnL (ks : List Kd) (l : Ln) (k : Kd) : Prop where
  np : ∀ a ∈ l.names, 0 ≤ a ∧ a < (ks.length : Int)
  ns : l.src = none
  nn : numOk l = true
  kk : kindL l ks = some k
  dp : k.dp ≤ 2
  mid : midOk l ks
theorem DrawnL.place {ks : List Kd} {l : Ln} {k : Kd} (h : DrawnL ks l k) (many : Int) (ss : List Int) : placeOk l ks.length many ss = true := by
  have e : placeOk l ks.length many ss = l.names.all fun a => decide (0 ≤ a) && decide (a < (ks.length : Int)) := by
    cases l with
    | source k => cases h.ns
    | _ => rfl
  rw [e, List.all_eq_true]
  intro a ha
  obtain ⟨h1, h2⟩ := h.np a ha
  rw [decide_eq_true h1, decide_eq_true h2]
  rfl
theorem named_one {ks : List Kd} {a : Int} {k : Kd} (h : ks[a.toNat]? = some k) : namedK ks [a] = some [k] := by
  show (ks[a.toNat]?).bind _ = _
  rw [h]
  rfl
theorem named_two {ks : List Kd} {a b : Int} {k j : Kd} (h : ks[a.toNat]? = some k) (h2 : ks[b.toNat]? = some j) : namedK ks [a, b] = some [k, j] := by
  show (ks[a.toNat]?).bind _ = _
  rw [h]
  show (namedK ks [b]).map _ = _
  rw [named_one h2]
  rfl
theorem kindL_one {ks : List Kd} {l : Ln} {a : Int} {k : Kd} (e : l.names = [a]) (h : ks[a.toNat]? = some k) : kindL l ks = kindN l [k] := by
  unfold kindL
  rw [e, named_one h]
  rfl
theorem kindL_two {ks : List Kd} {l : Ln} {a b : Int} {k j : Kd} (e : l.names = [a, b]) (h : ks[a.toNat]? = some k) (h2 : ks[b.toNat]? = some j) : kindL l ks = kindN l [k, j] := by
  unfold kindL
  rw [e, named_two h h2]
  rfl
theorem mid_no {l : Ln} {ks : List Kd} (h : ∀ ds a, l ≠ .map ds a) : midOk l ks := fun ds a k e _ => absurd e (h ds a)
theorem DrawnL.one {ks : List Kd} {l : Ln} {a : Int} {k k' : Kd} (e : l.names = [a]) (es : l.src = none) (ha : 0 ≤ a) (h : ks[a.toNat]? = some k) (hn : numOk l = true) (hk : kindN l [k] = some k') (hd : k'.dp ≤ 2) (hm : midOk l ks) : DrawnL ks l k' := by
  refine ⟨fun b hb => ?_, es, hn, by rw [kindL_one e h]; exact hk, hd, hm⟩
  rw [e] at hb
  rw [List.mem_singleton.mp hb]
  have := (List.getElem?_eq_some_iff.mp h).1
  omega
theorem DrawnL.two {ks : List Kd} {l : Ln} {a b : Int} {k j k' : Kd} (e : l.names = [a, b]) (es : l.src = none) (ha : 0 ≤ a) (h : ks[a.toNat]? = some k) (hb : 0 ≤ b) (h2 : ks[b.toNat]? = some j) (hn : numOk l = true) (hk : kindN l [k, j] = some k') (hd : k'.dp ≤ 2) (hm : midOk l ks) : DrawnL ks l k' := by
  refine ⟨fun c hc => ?_, es, hn, by rw [kindL_two e h h2]; exact hk, hd, hm⟩
  rw [e] at hc
  have h3 := (List.getElem?_eq_some_iff.mp h).1
  have h4 := (List.getElem?_eq_some_iff.mp h2).1
  rcases List.mem_cons.mp hc with rfl | hc
  · omega
  · rw [List.mem_singleton.mp hc]
    omega
theorem DrawnL.mapD {ks : List Kd} {ds : List Deed} {a : Int} {k k' : Kd} (ha : 0 ≤ a) (h : ks[a.toNat]? = some k) (hd : k.dp ≤ 2) (d : DrawnD k ds k') : DrawnL ks (.map ds a) k' := by
  refine .one rfl rfl ha h ?_ d.kk ?_ ?_
  · show ((decide (1 ≤ ds.length) && decide (ds.length ≤ 64)) && ds.all deedNum) = true
    rw [decide_eq_true d.l1, decide_eq_true d.l2, Bool.true_and, Bool.true_and, List.all_eq_true]
    exact fun e he => deedNum_iff.mpr (d.ok e he)
  · by_cases e : k = .num
    · subst e
      have := d.dp
      simp only [Kd.dp] at this
      omega
    · have := d.dn e
      omega
  · intro ds' a' j e hj i k1 hk
    cases e
    have : namedK ks [a] = some [k] := named_one h
    have hj : namedK ks [a] = some [j] := hj
    rw [this] at hj
    cases hj
    have := d.mid i k1 hk
    omega
theorem testsCan_of {ts : List Tst} (l1 : 1 ≤ ts.length) (l2 : ts.length ≤ 64) (ok : ∀ t ∈ ts, t.Ok) : testsCan ts = true := by
  show ((decide (1 ≤ ts.length) && decide (ts.length ≤ 64)) && ts.all tstNum) = true
  rw [decide_eq_true l1, decide_eq_true l2, Bool.true_and, Bool.true_and, List.all_eq_true]
  exact fun e he => tstNum_iff.mpr (ok e he)
theorem cut_to (xs : List PyData) (n : Nat) : cutD xs none (some (n : Int)) = xs.take n := by
  unfold cutD
  rw [HT.sIx_none, HT.sIx_nat, List.drop_zero, Nat.sub_zero]
  by_cases h : n ≤ xs.length
  · rw [Nat.min_eq_left h]
  · rw [Nat.min_eq_right (by omega), List.take_length, List.take_of_length_le (by omega)]
def notBoth (d : Deed) : Bool := !decide (d = .both)
theorem simple_not {es : List Deed} (h : ∀ e ∈ es, simpleD e = true) : es.filter notBoth = es := by
  rw [List.filter_eq_self]
  intro e he
  have := h e he
  cases e <;> first | rfl | cases this
theorem drawn_cut {es : List Deed} {b : Bool} (h2 : es.length ≤ 63) (si : ∀ e ∈ es, simpleD e = true) : ((es ++ (if b then [Deed.both] else [])).take 63).filter notBoth = es := by
  rw [List.take_append, List.filter_append, List.take_of_length_le h2, simple_not si]
  have : ((if b = true then [Deed.both] else []).take (63 - es.length)).filter notBoth = [] := by
    rw [List.filter_eq_nil_iff]
    intro d hd
    have hd := List.mem_of_mem_take hd
    cases b with
    | true => rw [List.mem_singleton.mp hd]; decide
    | false => cases hd
  rw [this, List.append_nil]
theorem Deed.eqv (d : Deed) : (!PyData.eqv d.d Deed.both.d) = notBoth d := by
  cases d with
  | both => decide +kernel
  | add n =>
    have : (("add" : Str) == ("both" : Str)) = false := by decide +kernel
    simp [Deed.d, PyData.eqv, PyData.eqvAll, this, notBoth]
  | times n =>
    have : (("times" : Str) == ("both" : Str)) = false := by decide +kernel
    simp [Deed.d, PyData.eqv, PyData.eqvAll, this, notBoth]
  | _ => decide +kernel
theorem Deed.shaped (d : Deed) : SeqAt.shaped d.d = true := by
  unfold SeqAt.shaped
  rw [d.can, Bool.true_and]
  exact decide_eq_true (Nat.le_trans d.dep (by decide))
def twos (ls : List Ln) : Nat := (ls.filter two).length
theorem twos_snoc {ls : List Ln} {l : Ln} : twos (ls ++ [l]) ≤ twos ls + 1 := by
  unfold twos
  rw [List.filter_append, List.length_append]
  have := List.length_filter_le two [l]
  have h : [l].length = 1 := rfl
  omega
/-- a weave as it is drawn -/
structure DrawnW (ls : List Ln) (ks : List Kd) (many : Int) : Prop where
  good : GoodW many ls ks
  l1 : 1 ≤ ls.length
  l24 : ls.length ≤ 24
  m1 : 1 ≤ many
  m5 : many ≤ 5
  dp : ∀ k ∈ ks, k.dp ≤ 2
  tw : twos ls ≤ 7
theorem GoodW.more {many : Int} {ls : List Ln} {ks : List Kd} {l : Ln} {k : Kd} (w : GoodW many ls ks) (d : DrawnL ks l k) : GoodW many (ls ++ [l]) (ks ++ [k]) :=
  .snoc w (by rw [w.len]; exact d.place many _) d.nn d.kk (by have := d.dp; omega) d.mid
open PySem PySem.Spec PyProof.Rows L2
/-! ### lists of lists -/
inductive Rows (K : PySem.W.Frag) (H : Hp) : List Addr → List (List PyData) → Prop
  | nil : Rows K H [] []
  | cons {a : Addr} {as : List Addr} {ds : List PyData} {dss : List (List PyData)} (h : Acc K H a ds) (t : Rows K H as dss) : Rows K H (a :: as) (ds :: dss)
section
variable {K : PySem.W.Frag} {H H' : Hp}
theorem Rows.len : ∀ {as : List Addr} {dss : List (List PyData)}, Rows K H as dss → as.length = dss.length
  | _, _, .nil => rfl
  | _, _, .cons _ t => congrArg Nat.succ (Rows.len t)
theorem Rows.keep (tk : TK K H H') : ∀ {as : List Addr} {dss : List (List PyData)}, Rows K H as dss → (∀ a ∈ as, ∀ xs, H a = some (.lst xs) → H' a = some (.lst xs)) → Rows K H' as dss
  | _, _, .nil, _ => .nil
  | _, _, .cons h t, e => .cons (h.keep tk (e _ List.mem_cons_self)) (Rows.keep tk t fun a ha => e a (List.mem_cons_of_mem _ ha))
theorem Rows.same {as : List Addr} {dss : List (List PyData)} (r : Rows K H as dss) (s : Same H H') : Rows K H' as dss := r.keep (same_tk s) fun a _ _ e => s _ _ e
theorem Rows.but {D : Addr} {as : List Addr} {dss : List (List PyData)} (r : Rows K H as dss) (s : But D H H') (t : TK K H H') (ne : D ∉ as) : Rows K H' as dss :=
  r.keep t fun a ha _ e => s _ _ (fun z => ne (z ▸ ha)) e
theorem Rows.get : ∀ {as : List Addr} {dss : List (List PyData)} {i : Nat} {ds : List PyData}, Rows K H as dss → dss[i]? = some ds → ∃ a, as[i]? = some a ∧ Acc K H a ds
  | _, _, i, _, .nil, e => by simp at e
  | _, _, 0, _, .cons h _, e => by simp at e; subst e; exact ⟨_, rfl, h⟩
  | _, _, i + 1, ds, .cons _ t, e => by
    obtain ⟨a, h1, h2⟩ := Rows.get (i := i) (ds := ds) t (by simpa using e)
    exact ⟨a, by simpa using h1, h2⟩
theorem Rows.got : ∀ {as : List Addr} {dss : List (List PyData)} {i : Nat} {a : Addr}, Rows K H as dss → as[i]? = some a → ∃ ds, dss[i]? = some ds ∧ Acc K H a ds
  | _, _, i, _, .nil, e => by simp at e
  | _, _, 0, _, .cons h _, e => by simp at e; subst e; exact ⟨_, rfl, h⟩
  | _, _, i + 1, ds, .cons _ t, e => by
    obtain ⟨a, h1, h2⟩ := Rows.got (i := i) (a := ds) t (by simpa using e)
    exact ⟨a, by simpa using h1, h2⟩
theorem Rows.snoc : ∀ {as : List Addr} {dss : List (List PyData)} {a : Addr} {ds : List PyData}, Rows K H as dss → Acc K H a ds → Rows K H (as ++ [a]) (dss ++ [ds])
  | _, _, _, _, .nil, h => .cons h .nil
  | _, _, _, _, .cons r t, h => .cons r (Rows.snoc t h)
theorem Rows.mem {as : List Addr} {dss : List (List PyData)} (r : Rows K H as dss) {a : Addr} (ha : a ∈ as) : ∃ xs, H a = some (.lst xs) := by
  obtain ⟨i, hi⟩ := List.mem_iff_getElem?.mp ha
  obtain ⟨ds, _, h⟩ := r.got hi
  exact h.at
theorem Rows.fresh {as : List Addr} {dss : List (List PyData)} (r : Rows K H as dss) {p : Addr} (hp : H p = none) : p ∉ as := fun ha => by
  obtain ⟨xs, e⟩ := r.mem ha
  rw [hp] at e
  cases e
theorem Rows.dp : ∀ {as : List Addr} {dss : List (List PyData)}, Rows K H as dss → DpAll K H (as.map V.ref) (dss.map PyData.list)
  | _, _, .nil => .nil
  | _, _, .cons h t => .cons h.dp (Rows.dp t)
/-- the list p of the lists as -/
def LL (K : PySem.W.Frag) (H : Hp) (p : Addr) (as : List Addr) (dss : List (List PyData)) : Prop := H p = some (.lst (as.map V.ref)) ∧ Rows K H as dss
theorem LL.dp {p : Addr} {as : List Addr} {dss : List (List PyData)} (h : LL K H p as dss) : Dp K H (.ref p) (.list (dss.map PyData.list)) := .lst (SqL.of h.1) h.2.dp
theorem LL.same {p : Addr} {as : List Addr} {dss : List (List PyData)} (h : LL K H p as dss) (s : Same H H') : LL K H' p as dss := ⟨s _ _ h.1, h.2.same s⟩
theorem LL.but {D p : Addr} {as : List Addr} {dss : List (List PyData)} (h : LL K H p as dss) (s : But D H H') (t : TK K H H') (n1 : p ≠ D) (n2 : D ∉ as) : LL K H' p as dss := ⟨s _ _ n1 h.1, h.2.but s t n2⟩
/-- a write to the list itself -/
theorem Rows.put {p : Addr} {as : List Addr} {dss : List (List PyData)} {xs ys : List V} (h : Rows K H as dss) (e : H p = some (.lst xs)) (np : p ∉ as) : Rows K (upd H p (.lst ys)) as dss := by
  have b : But p H (upd H p (.lst ys)) := fun b u hb z => by rw [upd_ne hb]; exact z
  exact h.but b (b.tk e) np
end
def intsD (lists : List (List Int)) : List (List PyData) := lists.map fun l => l.map PyData.int
/-! ### what lines give, whole -/
def mergeI : List Int → List Int → List Int
  | [], bs => bs
  | a :: as, [] => a :: as
  | a :: as, b :: bs => if a ≤ b then a :: mergeI as (b :: bs) else b :: mergeI (a :: as) bs
termination_by as bs => as.length + bs.length
theorem merge_nil (as : List Int) : mergeI as [] = as := by
  cases as <;> simp [mergeI]
theorem nil_merge (bs : List Int) : mergeI [] bs = bs := by simp [mergeI]
theorem merge_le {a b : Int} {as bs : List Int} (h : a ≤ b) : mergeI (a :: as) (b :: bs) = a :: mergeI as (b :: bs) := by
  rw [mergeI, if_pos h]
theorem merge_gt {a b : Int} {as bs : List Int} (h : ¬ a ≤ b) : mergeI (a :: as) (b :: bs) = b :: mergeI (a :: as) bs := by
  rw [mergeI, if_neg h]
theorem merge_len (as bs : List Int) : (mergeI as bs).length = as.length + bs.length := by
  induction as generalizing bs with
  | nil => rw [nil_merge]; simp
  | cons a as iha =>
    induction bs with
    | nil => rw [merge_nil]; rfl
    | cons b bs ihb =>
      by_cases h : a ≤ b
      · rw [merge_le h, List.length_cons, iha]; simp only [List.length_cons]; omega
      · rw [merge_gt h, List.length_cons, ihb]; simp only [List.length_cons]; omega
/-- one more item of the groups by m -/
def groupS (m : Int) (acc : List (Int × List Int)) (x : Int) : List (Int × List Int) :=
  match acc.getLast? with
  | some (r, xs) => if r = x % m then acc.dropLast ++ [(r, xs ++ [x])] else acc ++ [(x % m, [x])]
  | none => [(x % m, [x])]
def groupI (m : Int) (xs : List Int) : List (Int × List Int) := xs.foldl (groupS m) []
def grD (g : Int × List Int) : PyData := .tuple [.int g.1, .tuple (g.2.map PyData.int)]
def foldI (f : Fw) (n : Int) : List Int → List Int
  | [] => []
  | x :: xs => foldF f n x :: foldI f (foldF f n x) xs
def windows (n : Nat) (xs : List PyData) : List PyData := (List.range (xs.length + 1 - n)).map fun k => .tuple ((xs.drop k).take n)
def met (ts : List Tst) (x : PyData) : Bool := ts.all fun t => holdsT t (toI x)
def listD (l : Ln) (made : List (List PyData)) (lists : List (List Int)) : List PyData :=
  let g (a : Int) := made.getD a.toNat []
  match l with
  | .source k => (lists.getD k.toNat []).map PyData.int
  | .map ds a => (g a).map (doneAll ds)
  | .keep ts a => (g a).filter (met ts)
  | .whil ts a => (g a).takeWhile (met ts)
  | .take n a => (g a).take n.toNat
  | .skip n a => (g a).drop n.toNat
  | .group m a => (groupI m ((g a).map toI)).map grD
  | .window n a => windows n.toNat (g a)
  | .fold f n a => (foldI f n ((g a).map toI)).map PyData.int
  | .chain a b => g a ++ g b
  | .pair a b => List.zipWith (fun x y => .tuple [x, y]) (g a) (g b)
  | .merge a b => (mergeI ((g a).map toI) ((g b).map toI)).map PyData.int
def plainD (ls : List Ln) (lists : List (List Int)) : List (List PyData) := ls.foldl (fun made l => made ++ [listD l made lists]) []
theorem plainD_snoc (ls : List Ln) (l : Ln) (lists : List (List Int)) : plainD (ls ++ [l]) lists = plainD ls lists ++ [listD l (plainD ls lists) lists] := by
  unfold plainD
  rw [List.foldl_append]
  rfl
theorem plainD_len (ls : List Ln) (lists : List (List Int)) : (plainD ls lists).length = ls.length := by
  unfold plainD
  suffices ∀ (acc : List (List PyData)), (ls.foldl (fun made l => made ++ [listD l made lists]) acc).length = acc.length + ls.length by
    have := this []
    simpa using this
  induction ls with
  | nil => intro acc; rfl
  | cons l ls ih =>
    intro acc
    rw [List.foldl_cons, ih, List.length_append, List.length_cons]
    simp
    omega
/-! ### rules for lists of data -/
section
variable {X : Cx}
/-- xs + ys -/
def rCatL (K : PySem.W.Frag) : R2 := fun x y H Q => ∃ l b ds es, x = .ref l ∧ y = .ref b ∧ Acc K H l ds ∧ Acc K H b es ∧ ds.length + es.length ≤ 1000000 ∧ ∀ p H', H p = none → Same H H' → TK K H H' → Acc K H' p (ds ++ es) → Q (.ref p) H'
theorem Ims.append {K : PySem.W.Frag} {H : Hp} : ∀ {xs ys : List V} {ds es : List PyData}, Ims K H xs ds → Ims K H ys es → Ims K H (xs ++ ys) (ds ++ es)
  | _, _, _, _, .nil, h => h
  | _, _, _, _, .cons r t, h => .cons r (Ims.append t h)
theorem op_catL : OpR X (binaryOp .Add) (rCatL X.K) := OpR.imp op_cat fun x y H Q q => by
  obtain ⟨l, b, ds, es, rfl, rfl, ⟨xs, e1, i1⟩, ⟨ys, e2, i2⟩, hl, k⟩ := q
  refine ⟨l, b, xs, ys, rfl, rfl, e1, e2, ?_, fun p hp => ?_⟩
  · rw [i1.len, i2.len]
    exact Nat.le_trans hl (by decide)
  · have s := same_new (o := HO.lst (xs ++ ys)) hp
    exact k p _ hp s (same_tk s) ⟨_, upd_same, (i1.append i2).u (same_tk s)⟩
/-- l.pop() -/
def rPopA (K : PySem.W.Frag) : V → List V → Hp → VK → Prop := fun x vs H Q => ∃ l ds d, x = .ref l ∧ vs = [] ∧ Acc K H l (ds ++ [d]) ∧ ∀ v H', But l H H' → TK K H H' → Im K H' v d → Acc K H' l ds → Q v H'
theorem Ims.unsnoc {K : PySem.W.Frag} {H : Hp} : ∀ {ds : List PyData} {vs : List V} {d : PyData}, Ims K H vs (ds ++ [d]) → ∃ us v, vs = us ++ [v] ∧ Ims K H us ds ∧ Im K H v d
  | [], _, _, h => by
    cases h with
    | cons a b => cases b; exact ⟨[], _, rfl, .nil, a⟩
  | e :: ds, _, _, h => by
    cases h with
    | cons a b =>
      obtain ⟨us, v, e, i, j⟩ := Ims.unsnoc (ds := ds) b
      exact ⟨_ :: us, v, by rw [e]; rfl, .cons a i, j⟩
theorem mt_popA : MtR X "list.pop" (rPopA X.K) := MtR.imp mt_pop fun x vs H Q q => by
  obtain ⟨l, ds, d, rfl, rfl, ⟨xs, e, i⟩, k⟩ := q
  obtain ⟨us, v, rfl, iu, iv⟩ := i.unsnoc
  have b : But l H (upd H l (.lst (us ++ [v]).dropLast)) := fun b u hb z => by rw [upd_ne hb]; exact z
  have t : TK X.K H _ := b.tk e
  refine ⟨l, us ++ [v], v, rfl, rfl, e, ?_, k v _ b t (iv.u t) ⟨_, upd_same, ?_⟩⟩
  · rw [List.length_append, List.length_singleton, Nat.add_sub_cancel, List.getElem?_append_right (Nat.le_refl _), Nat.sub_self]
    rfl
  · have j := iu.u t
    rw [List.dropLast_concat] at j ⊢
    exact j
/-- l.pop(0) -/
def rPop0 (K : PySem.W.Frag) : V → List V → Hp → VK → Prop := fun x vs H Q => ∃ l ds d, x = .ref l ∧ vs = [.int 0] ∧ Acc K H l (d :: ds) ∧ ∀ v H', But l H H' → TK K H H' → Im K H' v d → Acc K H' l ds → Q v H'
theorem mt_pop0 : MtR X "list.pop" (rPop0 X.K) := MtR.imp mt_popAt fun x vs H Q q => by
  obtain ⟨l, ds, d, rfl, rfl, ⟨xs, e, i⟩, k⟩ := q
  cases i with
  | cons iv iu =>
    rename_i v us
    have b : But l H (upd H l (.lst ((v :: us).eraseIdx 0))) := fun b u hb z => by rw [upd_ne hb]; exact z
    have t : TK X.K H _ := b.tk e
    refine ⟨l, v :: us, 0, 0, v, rfl, rfl, e, by decide, by decide, ?_, rfl, k v _ b t (iv.u t) ⟨us, upd_same, iu.u t⟩⟩
    unfold seqIndex?
    simp
/-- l[lo:hi] of data -/
def rSlLD (K : PySem.W.Frag) : V → Option Int → Option Int → Hp → VK → Prop := fun x lo hi H Q => ∃ l ds, x = .ref l ∧ Acc K H l ds ∧ ∀ p H', H p = none → Same H H' → TK K H H' → Acc K H' p (cutD ds lo hi) → Q (.ref p) H'
theorem sl_listD : SlR X (rSlLD X.K) := SlR.imp sl_list fun x lo hi H Q q => by
  obtain ⟨l, ds, rfl, ⟨xs, e, i⟩, k⟩ := q
  refine ⟨l, xs, rfl, SqL.of e, fun p hp => ?_⟩
  have s := same_new (o := HO.lst (cutV xs lo hi)) hp
  refine k p _ hp s (same_tk s) ⟨_, upd_same, ?_⟩
  have t := ((i.u (same_tk s)).drop (HT.sIx xs.length 0 lo)).take (HT.sIx xs.length xs.length hi - HT.sIx xs.length 0 lo)
  have e : cutD ds lo hi = (ds.drop (HT.sIx xs.length 0 lo)).take (HT.sIx xs.length xs.length hi - HT.sIx xs.length 0 lo) := by
    unfold cutD
    rw [i.len]
  rw [e]
  exact t
/-- t + u of tuples of data -/
def rCatT2 (K : PySem.W.Frag) : R2 := fun x y H Q => ∃ ds es, Im K H x (.tuple ds) ∧ Im K H y (.tuple es) ∧ ds.length + es.length ≤ 1000000 ∧ ∀ v H', Same H H' → TK K H H' → Im K H' v (.tuple (ds ++ es)) → Q v H'
theorem op_catTD : OpR X (binaryOp .Add) (rCatT2 X.K) := OpR.imp op_catA fun x y H Q q => by
  obtain ⟨ds, es, i1, i2, hl, k⟩ := q
  obtain ⟨a, xs, rfl, ht, hs⟩ := i1.t
  obtain ⟨b, ys, rfl, hu, hv⟩ := i2.t
  refine ⟨a, b, xs, ys, rfl, rfl, ht, hu, ?_, fun e => ?_, fun e1 e2 => ?_, fun e1 e2 p hp => ?_⟩
  · rw [hs.len, hv.len]
    exact Nat.le_trans hl (by decide)
  · subst e
    cases hs
    exact k _ H (Same.refl H) TK.refl i2
  · subst e2
    cases hv
    rw [List.append_nil] at k
    exact k _ H (Same.refl H) TK.refl i1
  · have s := same_new (o := HO.tup (xs ++ ys)) hp
    exact k _ _ s (same_tk s) (.tup (SqT.of upd_same) ((hs.append hv).u (same_tk s)))
/-- p[i], a list of lists -/
def rIxLL (K : PySem.W.Frag) : R2 := fun x y H Q => ∃ (p : Addr) (as : List Addr) (i : Int) (j : Nat) (a : Addr), x = .ref p ∧ H p = some (.lst (as.map V.ref)) ∧ y = .int i ∧ i = (j : Int) ∧ as[j]? = some a ∧ Q (.ref a) H
theorem ix_LL : IxR X (rIxLL X.K) := IxR.imp ix_list fun x y H Q q => by
  obtain ⟨p, as, i, j, a, rfl, e, rfl, hi, ha, k⟩ := q
  exact ⟨p, _, i, .ref a, rfl, rfl, SqL.of e, at_of hi (by rw [List.getElem?_map, ha]; rfl), k⟩
/-- min of a list of ints -/
def rMinL (K : PySem.W.Frag) : List V → Hp → VK → Prop := fun vs H Q => ∃ (l : Addr) (ns : List Int) (m : Int), vs = [.ref l] ∧ Acc K H l (ns.map PyData.int) ∧ m ∈ ns ∧ (∀ y ∈ ns, m ≤ y) ∧ Q (.int m) H
theorem cr_minL (hc : X.calm = true) : CallR X (.builtin "min") (rMinL X.K) := CallR.imp (cr_min hc) fun vs H Q q => by
  obtain ⟨l, ns, m, rfl, ⟨xs, e, i⟩, hm, hmin, k⟩ := q
  rw [Ims.of_ints _ i] at e
  refine ⟨l, ns, rfl, SqL.of e, List.length_pos_of_mem hm, fun m' h1 h2 => ?_⟩
  have : m' = m := Int.le_antisymm (h2 m hm) (hmin m' h1)
  rw [this]
  exact k
theorem eqv_nil (ds : List PyData) : PyData.eqv (.list ds) (.list []) = decide (ds = []) := by
  cases ds with
  | nil => simp [PyData.eqv, PyData.eqvAll]
  | cons d ds => simp [PyData.eqv, PyData.eqvAll]
/-- xs != [], xs == [] -/
def rNeNil (K : PySem.W.Frag) : R2 := fun x y H Q => ∃ l p ds, x = .ref l ∧ y = .ref p ∧ Acc K H l ds ∧ Acc K H p [] ∧ SeqAt.shaped (.list ds) = true ∧ Q (.bl (!decide (ds = []))) H
def rEqNil (K : PySem.W.Frag) : R2 := fun x y H Q => ∃ l p ds, x = .ref l ∧ y = .ref p ∧ Acc K H l ds ∧ Acc K H p [] ∧ SeqAt.shaped (.list ds) = true ∧ Q (.bl (decide (ds = []))) H
theorem op_neNil (hu : X.A.units + 64 < cLine) : OpR X (compareOp .NotEq) (rNeNil X.K) := OpR.imp (op_neD hu) fun x y H Q q => by
  obtain ⟨l, p, ds, rfl, rfl, a, b, hs, k⟩ := q
  refine ⟨_, _, a.dp, b.dp, hs, by decide +kernel, ?_⟩
  rw [eqv_nil]
  exact k
theorem op_eqNil (hu : X.A.units + 64 < cLine) : OpR X (compareOp .Eq) (rEqNil X.K) := OpR.imp (op_eqD hu) fun x y H Q q => by
  obtain ⟨l, p, ds, rfl, rfl, a, b, hs, k⟩ := q
  refine ⟨_, _, a.dp, b.dp, hs, by decide +kernel, ?_⟩
  rw [eqv_nil]
  exact k
theorem ints_can (ns : List Int) : PyData.canLayAll0 (ns.map PyData.int) = true := canAll (fun _ => rfl) ns
theorem ints_shaped (ns : List Int) : SeqAt.shaped (.list (ns.map PyData.int)) = true := by
  have h1 := depAll (f := PyData.int) (n := 0) (fun _ => Nat.le_refl _) ns
  show ((PyData.canLayAll0 (ns.map PyData.int)) && decide (PyData.depthAll (ns.map PyData.int) + 1 ≤ 64)) = true
  rw [ints_can, Bool.true_and]
  exact decide_eq_true (by omega)
end
open PySem PySem.Spec PyProof.Rows L2
/-! ### the whole lists are of the lines' kinds -/
structure AllHas (ks : List Kd) (made : List (List PyData)) : Prop where
  len : made.length = ks.length
  has : ∀ (i : Nat) (row : List PyData) (k : Kd), made[i]? = some row → ks[i]? = some k → ∀ x ∈ row, Has k x
structure OkLists (lists : List (List Int)) : Prop where
  num : ∀ l ∈ lists, ∀ n ∈ l, Num n
  len : ∀ l ∈ lists, l.length ≤ 200
theorem AllHas.row {ks : List Kd} {made : List (List PyData)} (h : AllHas ks made) {a : Int} {k : Kd} (hk : ks[a.toNat]? = some k) : made[a.toNat]? = some (made.getD a.toNat []) ∧ ∀ x ∈ made.getD a.toNat [], Has k x := by
  have hi := (List.getElem?_eq_some_iff.mp hk).1
  have e : made[a.toNat]? = some (made.getD a.toNat []) := by
    rw [List.getD_eq_getElem?_getD, List.getElem?_eq_getElem (by rw [h.len]; exact hi)]
    rfl
  exact ⟨e, h.has _ _ _ e hk⟩
theorem one_named {ks : List Kd} {l : Ln} {a : Int} {k : Kd} (e : l.names = [a]) (h : kindL l ks = some k) : ∃ ka, ks[a.toNat]? = some ka ∧ kindN l [ka] = some k := by
  obtain ⟨kn, h1, h2⟩ := kindL_some h
  rw [e] at h1
  obtain ⟨hl, f⟩ := namedK_at h1
  obtain ⟨ka, g1, g2⟩ := f 0 a rfl
  match kn, hl with
  | [x], _ => cases g2; exact ⟨_, g1, h2⟩
theorem two_named {ks : List Kd} {l : Ln} {a b : Int} {k : Kd} (e : l.names = [a, b]) (h : kindL l ks = some k) : ∃ ka kb, ks[a.toNat]? = some ka ∧ ks[b.toNat]? = some kb ∧ kindN l [ka, kb] = some k := by
  obtain ⟨kn, h1, h2⟩ := kindL_some h
  rw [e] at h1
  obtain ⟨hl, f⟩ := namedK_at h1
  obtain ⟨ka, g1, g2⟩ := f 0 a rfl
  obtain ⟨kb, g3, g4⟩ := f 1 b rfl
  match kn, hl with
  | [x, y], _ => cases g2; cases g4; exact ⟨_, _, g1, g3, h2⟩
theorem ifnum {ka k2 k : Kd} (h : (if ka = Kd.num then some k2 else none) = some k) : ka = .num ∧ k = k2 := by
  by_cases e : ka = .num
  · rw [if_pos e] at h; exact ⟨e, (Option.some.inj h).symm⟩
  · rw [if_neg e] at h; cases h
theorem ints_of {row : List PyData} (h : ∀ x ∈ row, Has .num x) : row = (row.map toI).map PyData.int ∧ ∀ n ∈ row.map toI, Num n := by
  refine ⟨Has.ints h, fun n hn => ?_⟩
  obtain ⟨x, hx, rfl⟩ := List.mem_map.mp hn
  obtain ⟨i, rfl, hi⟩ := (h x hx).int
  exact hi
theorem has_ints {ns : List Int} (h : ∀ n ∈ ns, Num n) : ∀ x ∈ ns.map PyData.int, Has .num x := fun x hx => by
  obtain ⟨n, hn, rfl⟩ := List.mem_map.mp hx
  exact .num (h n hn)
theorem foldF_num {f : Fw} {a b : Int} (ha : Num a) (hb : Num b) : Num (foldF f a b) := by
  obtain ⟨a0, a1⟩ := ha
  obtain ⟨b0, b1⟩ := hb
  cases f with
  | add => exact ⟨Int.emod_nonneg _ (by decide), Int.emod_lt_of_pos _ (by decide)⟩
  | times => exact ⟨Int.emod_nonneg _ (by decide), Int.emod_lt_of_pos _ (by decide)⟩
  | least => show Num (min a b); exact ⟨by omega, by omega⟩
  | most => show Num (max a b); exact ⟨by omega, by omega⟩
theorem foldI_num {f : Fw} : ∀ {ns : List Int} {n : Int}, Num n → (∀ x ∈ ns, Num x) → ∀ y ∈ foldI f n ns, Num y
  | [], _, _, _ => fun y hy => by cases hy
  | x :: xs, n, hn, h => fun y hy => by
    have h1 := foldF_num (f := f) hn (h x List.mem_cons_self)
    have hy : y ∈ foldF f n x :: foldI f (foldF f n x) xs := hy
    rcases List.mem_cons.mp hy with rfl | hy
    · exact h1
    · exact foldI_num h1 (fun z hz => h z (List.mem_cons_of_mem _ hz)) y hy
theorem foldI_len {f : Fw} : ∀ {ns : List Int} {n : Int}, (foldI f n ns).length = ns.length
  | [], _ => rfl
  | x :: xs, n => congrArg Nat.succ foldI_len
theorem merge_mem : ∀ {as bs : List Int} {x : Int}, x ∈ mergeI as bs → x ∈ as ∨ x ∈ bs := by
  intro as
  induction as with
  | nil => intro bs x h; rw [nil_merge] at h; exact .inr h
  | cons a as iha =>
    intro bs
    induction bs with
    | nil => intro x h; rw [merge_nil] at h; exact .inl h
    | cons b bs ihb =>
      intro x h
      by_cases c : a ≤ b
      · rw [merge_le c] at h
        rcases List.mem_cons.mp h with rfl | h
        · exact .inl List.mem_cons_self
        · rcases iha h with h | h
          · exact .inl (List.mem_cons_of_mem _ h)
          · exact .inr h
      · rw [merge_gt c] at h
        rcases List.mem_cons.mp h with rfl | h
        · exact .inr List.mem_cons_self
        · rcases ihb h with h | h
          · exact .inl h
          · exact .inr (List.mem_cons_of_mem _ h)
/-- what stands in the groups -/
theorem group_ok {m : Int} (hm : 0 < m) (hm2 : m < 1000003) {P : Int → Prop} {ns : List Int} (h : ∀ n ∈ ns, P n) : ∀ g ∈ groupI m ns, Num g.1 ∧ ∀ n ∈ g.2, P n := by
  suffices ∀ (ns : List Int) (acc : List (Int × List Int)), (∀ n ∈ ns, P n) → (∀ g ∈ acc, Num g.1 ∧ ∀ n ∈ g.2, P n) → ∀ g ∈ ns.foldl (groupS m) acc, Num g.1 ∧ ∀ n ∈ g.2, P n from
    this ns [] h fun g hg => by cases hg
  intro ns
  induction ns with
  | nil => intro acc _ ha; exact ha
  | cons x xs ih =>
    intro acc hn ha
    refine ih _ (fun n hn' => hn n (List.mem_cons_of_mem _ hn')) ?_
    have px := hn x List.mem_cons_self
    have nx : Num (x % m) := ⟨Int.emod_nonneg _ (by omega), by have := Int.emod_lt_of_pos x hm; omega⟩
    intro g hg
    unfold groupS at hg
    split at hg
    · rename_i r ys e
      have hmem : (r, ys) ∈ acc := List.mem_of_getLast? e
      split at hg
      · rcases List.mem_append.mp hg with hg | hg
        · exact ha g (List.dropLast_subset _ hg)
        · rw [List.mem_singleton.mp hg]
          obtain ⟨h1, h2⟩ := ha _ hmem
          refine ⟨h1, fun n hn => ?_⟩
          rcases List.mem_append.mp hn with hn | hn
          · exact h2 n hn
          · rw [List.mem_singleton.mp hn]; exact px
      · rcases List.mem_append.mp hg with hg | hg
        · exact ha g hg
        · rw [List.mem_singleton.mp hg]
          exact ⟨nx, fun n hn => by rw [List.mem_singleton.mp hn]; exact px⟩
    · rw [List.mem_singleton.mp hg]
      exact ⟨nx, fun n hn => by rw [List.mem_singleton.mp hn]; exact px⟩
theorem grouped_lens (m : Int) (ns : List Int) : (groupI m ns).length ≤ ns.length ∧ ∀ g ∈ groupI m ns, g.2.length ≤ ns.length := by
  suffices ∀ (xs : List Int) (acc : List (Int × List Int)) (k : Nat), acc.length ≤ k → (∀ g ∈ acc, g.2.length ≤ k) → (xs.foldl (groupS m) acc).length ≤ k + xs.length ∧ ∀ g ∈ xs.foldl (groupS m) acc, g.2.length ≤ k + xs.length by
    have := this ns [] 0 (Nat.le_refl _) (fun g hg => by cases hg)
    simp only [Nat.zero_add] at this
    exact this
  intro xs
  induction xs with
  | nil => intro acc k h1 h2; exact ⟨h1, h2⟩
  | cons x xs ih =>
    intro acc k h1 h2
    have := ih (groupS m acc x) (k + 1) ?_ ?_
    · rw [List.length_cons]
      have e : k + 1 + xs.length = k + (xs.length + 1) := by omega
      rw [e] at this
      exact this
    · unfold groupS
      split
      · rename_i r ys e
        have hne : acc ≠ [] := fun z => by rw [z] at e; cases e
        have hpos : 0 < acc.length := List.length_pos_iff.mpr hne
        split
        · rw [List.length_append, List.length_dropLast]; simp; omega
        · rw [List.length_append]; simp; omega
      · simp
    · intro g hg
      unfold groupS at hg
      split at hg
      · rename_i r ys e
        have hmem : (r, ys) ∈ acc := List.mem_of_getLast? e
        have hy := h2 _ hmem
        have hy : ys.length ≤ k := hy
        split at hg
        · rcases List.mem_append.mp hg with hg | hg
          · have := h2 g (List.dropLast_subset _ hg); omega
          · rw [List.mem_singleton.mp hg]
            show (ys ++ [x]).length ≤ k + 1
            rw [List.length_append]; simp; omega
        · rcases List.mem_append.mp hg with hg | hg
          · have := h2 g hg; omega
          · rw [List.mem_singleton.mp hg]; simp
      · rw [List.mem_singleton.mp hg]; simp
def Row (made : List (List PyData)) (a : Int) : List PyData := made.getD a.toNat []
theorem listD_has {l : Ln} {made : List (List PyData)} {lists : List (List Int)} {ks : List Kd} {k : Kd} (hm : AllHas ks made) (hl : OkLists lists) (hn : numOk l = true) (hk : kindL l ks = some k) (hs : ∀ row ∈ made, row.length ≤ 1000002) :
    ∀ x ∈ listD l made lists, Has k x := by
  have memrow : ∀ {a : Int} {ka : Kd}, ks[a.toNat]? = some ka → (made.getD a.toNat []).length ≤ 1000002 := fun h => hs _ (List.mem_of_getElem? (hm.row h).1)
  cases l with
  | source s =>
    cases hk
    refine has_ints fun n hn => ?_
    rw [List.getD_eq_getElem?_getD] at hn
    cases e : lists[s.toNat]? with
    | none => rw [e] at hn; cases hn
    | some row => rw [e] at hn; exact hl.num row (List.mem_of_getElem? e) n hn
  | map ds a =>
    obtain ⟨ka, h1, h2⟩ := one_named rfl hk
    obtain ⟨e, f⟩ := hm.row h1
    intro x hx
    obtain ⟨y, hy, rfl⟩ := List.mem_map.mp hx
    have hn : ((decide (1 ≤ ds.length) && decide (ds.length ≤ 64)) && ds.all deedNum) = true := hn
    rw [Bool.and_eq_true, List.all_eq_true] at hn
    exact doneAll_has (f y hy) h2 fun d hd => deedNum_iff.mp (hn.2 d hd)
  | keep ts a =>
    obtain ⟨ka, h1, h2⟩ := one_named rfl hk
    obtain ⟨rfl, rfl⟩ := ifnum h2
    exact fun x hx => (hm.row h1).2 x (List.mem_filter.mp hx).1
  | whil ts a =>
    obtain ⟨ka, h1, h2⟩ := one_named rfl hk
    obtain ⟨rfl, rfl⟩ := ifnum h2
    exact fun x hx => (hm.row h1).2 x ((List.takeWhile_sublist _).subset hx)
  | take n a =>
    obtain ⟨ka, h1, h2⟩ := one_named rfl hk
    cases h2
    exact fun x hx => (hm.row h1).2 x (List.mem_of_mem_take hx)
  | skip n a =>
    obtain ⟨ka, h1, h2⟩ := one_named rfl hk
    cases h2
    exact fun x hx => (hm.row h1).2 x (List.mem_of_mem_drop hx)
  | group m a =>
    obtain ⟨ka, h1, h2⟩ := one_named rfl hk
    obtain ⟨rfl, rfl⟩ := ifnum h2
    obtain ⟨e, f⟩ := hm.row h1
    have hn : (decide (1 ≤ m) && isNum m) = true := hn
    rw [Bool.and_eq_true, decide_eq_true_eq, isNum_iff] at hn
    obtain ⟨m1, _, m2⟩ := hn
    have gk := group_ok (by omega : 0 < m) m2 (P := Num) (ints_of f).2
    have gl := (grouped_lens m ((made.getD a.toNat []).map toI)).2
    intro x hx
    obtain ⟨g, hg, rfl⟩ := List.mem_map.mp hx
    obtain ⟨g1, g2⟩ := gk g hg
    have l1 := gl g hg
    have l2 := memrow h1
    rw [List.length_map] at l1
    exact .pair (.num g1) (.row (has_ints g2) (by rw [List.length_map]; omega))
  | window n a =>
    obtain ⟨ka, h1, h2⟩ := one_named rfl hk
    cases h2
    obtain ⟨e, f⟩ := hm.row h1
    have l2 := memrow h1
    intro x hx
    obtain ⟨i, hi, rfl⟩ := List.mem_map.mp hx
    refine .row (fun y hy => f y (List.mem_of_mem_drop (List.mem_of_mem_take hy))) ?_
    rw [List.length_take, List.length_drop]
    (try dsimp only)
    omega
  | fold w n a =>
    obtain ⟨ka, h1, h2⟩ := one_named rfl hk
    obtain ⟨rfl, rfl⟩ := ifnum h2
    exact has_ints (foldI_num (isNum_iff.mp hn) (ints_of (hm.row h1).2).2)
  | chain a b =>
    obtain ⟨ka, kb, h1, h2, h3⟩ := two_named rfl hk
    have h3 : (if ka = kb then some ka else none) = some k := h3
    by_cases c : ka = kb
    · rw [if_pos c] at h3
      cases h3
      subst c
      intro x hx
      rcases List.mem_append.mp hx with hx | hx
      · exact (hm.row h1).2 x hx
      · exact (hm.row h2).2 x hx
    · rw [if_neg c] at h3
      cases h3
  | pair a b =>
    obtain ⟨ka, kb, h1, h2, h3⟩ := two_named rfl hk
    cases h3
    intro x hx
    have hx : x ∈ List.zipWith (fun x y => PyData.tuple [x, y]) (made.getD a.toNat []) (made.getD b.toNat []) := hx
    obtain ⟨i, hi, e⟩ := List.getElem_of_mem hx
    rw [List.getElem_zipWith] at e
    rw [← e]
    exact .pair ((hm.row h1).2 _ (List.getElem_mem _)) ((hm.row h2).2 _ (List.getElem_mem _))
  | merge a b =>
    obtain ⟨ka, kb, h1, h2, h3⟩ := two_named rfl hk
    have h3 : (if ka = .num ∧ kb = .num then some Kd.num else none) = some k := h3
    by_cases c : ka = .num ∧ kb = .num
    · rw [if_pos c] at h3
      cases h3
      obtain ⟨rfl, rfl⟩ := c
      refine has_ints fun n hn => ?_
      rcases merge_mem hn with hn | hn
      · exact (ints_of (hm.row h1).2).2 n hn
      · exact (ints_of (hm.row h2).2).2 n hn
    · rw [if_neg c] at h3
      cases h3
theorem getD_len {made : List (List PyData)} {B : Nat} (h : ∀ row ∈ made, row.length ≤ B) (i : Nat) : (made.getD i []).length ≤ B := by
  rw [List.getD_eq_getElem?_getD]
  cases e : made[i]? with
  | none => exact Nat.zero_le _
  | some row => exact h row (List.mem_of_getElem? e)
theorem listD_len {l : Ln} {made : List (List PyData)} {lists : List (List Int)} {B C : Nat} (h : ∀ row ∈ made, row.length ≤ B) (hl : ∀ row ∈ lists, row.length ≤ C) (hC : C ≤ B) (hw : ∀ n a, l = .window n a → 1 ≤ n) : (listD l made lists).length ≤ if two l then 2 * B else B := by
  have g := getD_len h
  cases l with
  | source s =>
    show ((lists.getD s.toNat []).map PyData.int).length ≤ B
    rw [List.length_map, List.getD_eq_getElem?_getD]
    cases e : lists[s.toNat]? with
    | none => exact Nat.zero_le _
    | some row => exact Nat.le_trans (hl row (List.mem_of_getElem? e)) hC
  | map ds a => show (List.map _ _).length ≤ B; rw [List.length_map]; exact g _
  | keep ts a => exact Nat.le_trans (List.length_filter_le _ _) (g _)
  | whil ts a => exact Nat.le_trans (List.takeWhile_sublist _).length_le (g _)
  | take n a => show (List.take _ _).length ≤ B; rw [List.length_take]; have := g a.toNat; (try dsimp only); omega
  | skip n a => show (List.drop _ _).length ≤ B; rw [List.length_drop]; have := g a.toNat; (try dsimp only); omega
  | group m a =>
    show (List.map _ _).length ≤ B
    rw [List.length_map]
    have h1 := (grouped_lens m ((made.getD a.toNat []).map toI)).1
    rw [List.length_map] at h1
    exact Nat.le_trans h1 (g _)
  | window n a =>
    show (List.map _ _).length ≤ B
    rw [List.length_map, List.length_range]
    have := g a.toNat
    have := hw n a rfl
    (try dsimp only)
    omega
  | fold w n a => show (List.map _ _).length ≤ B; rw [List.length_map, foldI_len, List.length_map]; exact g _
  | chain a b => show List.length (_ ++ _) ≤ 2 * B; rw [List.length_append]; have := g a.toNat; have := g b.toNat; (try dsimp only); omega
  | pair a b => show (List.zipWith _ _ _).length ≤ B; rw [List.length_zipWith]; have := g a.toNat; (try dsimp only); omega
  | merge a b => show (List.map _ _).length ≤ 2 * B; rw [List.length_map, merge_len, List.length_map, List.length_map]; have := g a.toNat; have := g b.toNat; (try dsimp only); omega
theorem GoodW.take {many : Int} {ls : List Ln} {ks : List Kd} (w : GoodW many ls ks) (i : Nat) : GoodW many (ls.take i) (ks.take i) := by
  induction w with
  | nil => rw [List.take_nil, List.take_nil]; exact .nil
  | @snoc ls ks l k w hp hn hk hd hm ih =>
    have hl := w.len
    by_cases hi : i ≤ ls.length
    · rw [List.take_append_of_le_length hi, List.take_append_of_le_length (by omega)]
      exact ih
    · rw [List.take_of_length_le (by rw [List.length_append]; show ls.length + 1 ≤ i; omega), List.take_of_length_le (by rw [List.length_append]; show ks.length + 1 ≤ i; omega)]
      exact .snoc w hp hn hk hd hm
theorem twos_take {ls : List Ln} {i : Nat} : twos (ls.take i) ≤ twos ls := ((List.take_sublist i ls).filter two).length_le
theorem twos_eq {ls : List Ln} {l : Ln} : twos (ls ++ [l]) = twos ls + (if two l then 1 else 0) := by
  unfold twos
  rw [List.filter_append, List.length_append]
  cases e : two l
  · rw [List.filter_cons_of_neg (by rw [e]; decide), List.filter_nil]; rfl
  · rw [List.filter_cons_of_pos e, List.filter_nil]; rfl
theorem twos_next {ls : List Ln} {i : Nat} {l : Ln} (h : ls[i]? = some l) : twos (ls.take i) + (if two l then 1 else 0) ≤ twos ls := by
  rw [← twos_eq]
  have e : ls.take i ++ [l] = ls.take (i + 1) := by rw [List.take_add_one, h]; rfl
  rw [e]
  exact twos_take
/-- what is known of the lists of a good weave's lines -/
theorem plain_ok {many : Int} {ls : List Ln} {ks : List Kd} {lists : List (List Int)} (w : GoodW many ls ks) (hl : OkLists lists) (ht : twos ls ≤ 12) :
    AllHas ks (plainD ls lists) ∧ ∀ row ∈ plainD ls lists, row.length ≤ 200 * 2 ^ twos ls := by
  induction w with
  | nil => exact ⟨⟨rfl, fun i row k h => by simp [plainD] at h⟩, fun row h => by simp [plainD] at h⟩
  | @snoc ls ks l k w hp hn hk hd hm ih =>
    have t1 : twos (ls ++ [l]) = twos ls + (if two l then 1 else 0) := by
      unfold twos
      rw [List.filter_append, List.length_append]
      cases e : two l
      · rw [List.filter_cons_of_neg (by rw [e]; decide), List.filter_nil]; rfl
      · rw [List.filter_cons_of_pos e, List.filter_nil]; rfl
    have t2 : twos ls ≤ 12 := by omega
    obtain ⟨h1, h2⟩ := ih t2
    have p12 : 2 ^ twos ls ≤ 2 ^ 12 := Nat.pow_le_pow_right (by decide) t2
    have hs : ∀ row ∈ plainD ls lists, row.length ≤ 1000002 := fun row hr => Nat.le_trans (h2 row hr) (by omega)
    rw [plainD_snoc]
    have has := listD_has h1 hl hn hk hs
    have hwin : ∀ n a, l = .window n a → 1 ≤ n := fun n a e => by
      subst e
      have hn : (decide (1 ≤ n) && decide (n ≤ 9)) = true := hn
      rw [Bool.and_eq_true, decide_eq_true_eq] at hn
      exact hn.1
    have p0 : 1 ≤ 2 ^ twos ls := Nat.one_le_two_pow
    have ln := listD_len (l := l) h2 hl.len (by omega) hwin
    refine ⟨⟨by rw [List.length_append, List.length_append, h1.len]; rfl, fun i row k' hr hk' => ?_⟩, fun row hr => ?_⟩
    · by_cases hi : i < ks.length
      · rw [List.getElem?_append_left (by rw [h1.len]; exact hi)] at hr
        rw [List.getElem?_append_left hi] at hk'
        exact h1.has i row k' hr hk'
      · have hi2 := (List.getElem?_eq_some_iff.mp hk').1
        rw [List.length_append] at hi2
        have e1 : [k].length = 1 := rfl
        have hi3 : i = ks.length := by omega
        subst hi3
        rw [List.getElem?_append_right (Nat.le_refl _), Nat.sub_self] at hk'
        rw [List.getElem?_append_right (by rw [h1.len]; exact Nat.le_refl _), h1.len, Nat.sub_self] at hr
        cases hk'
        cases hr
        exact has
    · rcases List.mem_append.mp hr with hr | hr
      · have := h2 row hr
        rw [t1]
        cases two l
        · exact this
        · refine Nat.le_trans this ?_
          rw [if_pos rfl, Nat.pow_succ]
          omega
      · rw [List.mem_singleton.mp hr, t1]
        cases e : two l
        · rw [e] at ln; exact ln
        · rw [e] at ln
          rw [if_pos rfl, Nat.pow_succ]
          rw [if_pos rfl] at ln
          omega
def spPlain (K : PySem.W.Frag) : Sp := fun vs H Q _ => ∃ (v1 v2 : V), vs = [v1, v2] ∧ Hold (∃ (lw pl : Addr) (al : List Addr) (ls : List Ln) (ks : List Kd) (lists : List (List Int)) (many : Int), v1 = .ref lw ∧ v2 = .ref pl ∧ Acc K H lw (ls.map Ln.d) ∧ LL K H pl al (intsD lists) ∧
  DrawnW ls ks many ∧ (lists.length : Int) = many ∧ OkLists lists ∧
  ∀ p H' am, H p = none → (∀ a ∈ am, H a = none) → p ∉ am → am.Nodup → Same H H' → LL K H' p am (plainD ls lists) → Q (.ref p) H')
theorem lists_can (lists : List (List Int)) : PyData.canLayAll0 ((intsD lists).map PyData.list) = true := by
  unfold intsD
  rw [List.map_map]
  exact canAll (f := PyData.list ∘ fun (l : List Int) => l.map PyData.int) (fun l => show PyData.canLayAll0 (l.map PyData.int) = true from ints_can l) lists
theorem lists_dep (lists : List (List Int)) : PyData.depthAll ((intsD lists).map PyData.list) ≤ 1 := by
  unfold intsD
  rw [List.map_map]
  refine depAll (f := PyData.list ∘ fun (l : List Int) => l.map PyData.int) (fun l => ?_) lists
  have h1 := depAll (f := PyData.int) (n := 0) (fun _ => Nat.le_refl _) l
  show PyData.depthAll (l.map PyData.int) + 1 ≤ 1
  omega
theorem lists_shaped (lists : List (List Int)) : SeqAt.shaped (.list ((intsD lists).map PyData.list)) = true := by
  have h1 := lists_dep lists
  show ((PyData.canLayAll0 ((intsD lists).map PyData.list)) && decide (PyData.depthAll ((intsD lists).map PyData.list) + 1 ≤ 64)) = true
  rw [lists_can, Bool.true_and]
  exact decide_eq_true (by omega)
def handedD (ls : List Ln) (lists : List (List Int)) : PyData := .list [.list (ls.map Ln.d), .list ((intsD lists).map PyData.list)]
theorem handed_shaped (ls : List Ln) (lists : List (List Int)) : SeqAt.shaped (handedD ls lists) = true := by
  have h1 := lists_dep lists
  have h2 := depAll Ln.dep ls
  show ((PyData.canLayAll0 (ls.map Ln.d) && (PyData.canLayAll0 ((intsD lists).map PyData.list) && true)) &&
    decide (max (PyData.depthAll (ls.map Ln.d) + 1) (max (PyData.depthAll ((intsD lists).map PyData.list) + 1) 0) + 1 ≤ 64)) = true
  rw [canAll Ln.can, lists_can, Bool.true_and, Bool.true_and, Bool.true_and]
  exact decide_eq_true (by omega)
theorem plain_data {many : Int} {ls : List Ln} {ks : List Kd} {lists : List (List Int)} (dw : DrawnW ls ks many) (hl : OkLists lists) :
    lk (.list ((plainD ls lists).map PyData.list)) = true ∧ PyData.depth (.list ((plainD ls lists).map PyData.list)) ≤ 4 ∧ ∀ row ∈ plainD ls lists, row.length ≤ 50000 := by
  have tw := dw.tw
  obtain ⟨ah, rl⟩ := plain_ok dw.good hl (by omega)
  have p7 : 2 ^ twos ls ≤ 2 ^ 7 := Nat.pow_le_pow_right (by decide) tw
  have l24 := dw.l24
  have rl : ∀ row ∈ plainD ls lists, row.length ≤ 50000 := fun row h => by have := rl row h; omega
  have hk : ∀ row ∈ plainD ls lists, ∃ k, k.dp ≤ 2 ∧ ∀ x ∈ row, Has k x := fun row h => by
    obtain ⟨i, hi⟩ := List.mem_iff_getElem?.mp h
    have hi' := (List.getElem?_eq_some_iff.mp hi).1
    rw [ah.len] at hi'
    have hk : ks[i]? = some ks[i] := List.getElem?_eq_getElem hi'
    exact ⟨ks[i], dw.dp _ (List.getElem_mem _), ah.has i row _ hi hk⟩
  refine ⟨lk_list (fun x hx => ?_) (by rw [List.length_map, plainD_len]; omega), ?_, rl⟩
  · obtain ⟨row, hr, rfl⟩ := List.mem_map.mp hx
    obtain ⟨k, _, h⟩ := hk row hr
    exact lk_list (fun x hx => Has_lk (h x hx)) (by have := rl row hr; omega)
  · have : PyData.depthAll ((plainD ls lists).map PyData.list) ≤ 3 := depth_all fun x hx => by
      obtain ⟨row, hr, rfl⟩ := List.mem_map.mp hx
      obtain ⟨k, hd, h⟩ := hk row hr
      have : PyData.depthAll row ≤ 2 := depth_all fun x hx => Nat.le_trans (Has_depth (h x hx)) hd
      show PyData.depthAll row + 1 ≤ 3
      omega
    show PyData.depthAll ((plainD ls lists).map PyData.list) + 1 ≤ 4
    omega
open PySem PySem.Spec PyProof.Rows L2
theorem cut_take (ds : List PyData) (n : Int) (h : 0 ≤ n) : cutD ds none (some n) = ds.take n.toNat := by
  obtain ⟨m, rfl⟩ := Int.eq_ofNat_of_zero_le h
  unfold cutD
  rw [HT.sIx_none, HT.sIx_nat, List.drop_zero, Nat.sub_zero, Int.toNat_natCast]
  by_cases c : m ≤ ds.length
  · rw [Nat.min_eq_left c]
  · rw [Nat.min_eq_right (by omega), List.take_length, List.take_of_length_le (by omega)]
theorem cut_drop (ds : List PyData) (n : Int) (h : 0 ≤ n) : cutD ds (some n) none = ds.drop n.toNat := by
  obtain ⟨m, rfl⟩ := Int.eq_ofNat_of_zero_le h
  unfold cutD
  rw [HT.sIx_none, HT.sIx_nat, Int.toNat_natCast]
  by_cases c : m ≤ ds.length
  · rw [Nat.min_eq_left c, List.take_of_length_le (by rw [List.length_drop]; exact Nat.le_refl _)]
  · rw [Nat.min_eq_right (by omega), List.drop_length, List.drop_eq_nil_of_le (by omega)]; simp
theorem cut_win (ds : List PyData) (i n : Nat) (h : i + n ≤ ds.length) : cutD ds (some (i : Int)) (some ((i : Int) + (n : Int))) = (ds.drop i).take n := by
  unfold cutD
  have e : ((i : Int) + (n : Int)) = ((i + n : Nat) : Int) := by omega
  rw [e, HT.sIx_nat, HT.sIx_nat, Nat.min_eq_left h, Nat.min_eq_left (by omega), Nat.add_sub_cancel_left]
theorem foldI_snoc {f : Fw} {x : Int} : ∀ {ns : List Int} {n : Int}, foldI f n (ns ++ [x]) = foldI f n ns ++ [foldF f (ns.foldl (foldF f) n) x]
  | [], _ => rfl
  | y :: ys, n => congrArg (foldF f n y :: ·) (foldI_snoc (ns := ys))
theorem foldI_last {f : Fw} : ∀ {ns : List Int} {n : Int}, (n :: foldI f n ns)[ns.length]? = some (ns.foldl (foldF f) n)
  | [], _ => rfl
  | y :: ys, n => foldI_last (ns := ys) (n := foldF f n y)
theorem foldl_num {f : Fw} : ∀ {ns : List Int} {n : Int}, Num n → (∀ x ∈ ns, Num x) → Num (ns.foldl (foldF f) n)
  | [], _, h, _ => h
  | y :: ys, n, hn, h => foldl_num (ns := ys) (foldF_num hn (h y List.mem_cons_self)) fun z hz => h z (List.mem_cons_of_mem _ hz)
theorem groupS_snoc {m x r : Int} {gs : List (Int × List Int)} {xs : List Int} : groupS m (gs ++ [(r, xs)]) x = if r = x % m then gs ++ [(r, xs ++ [x])] else (gs ++ [(r, xs)]) ++ [(x % m, [x])] := by
  unfold groupS
  simp only [List.getLast?_concat, List.dropLast_concat]
theorem grD_can (g : Int × List Int) : (grD g).canLay0 = true := by
  show (true && (PyData.canLayAll0 (g.2.map PyData.int) && true)) = true
  rw [ints_can]
  rfl
theorem grD_dep (g : Int × List Int) : (grD g).depth ≤ 2 := by
  have := depAll (f := PyData.int) (n := 0) (fun _ => Nat.le_refl _) g.2
  show max 0 (max (PyData.depthAll (g.2.map PyData.int) + 1) 0) + 1 ≤ 2
  omega
theorem grs_shaped (gs : List (Int × List Int)) : SeqAt.shaped (.list (gs.map grD)) = true := by
  have h1 := depAll grD_dep gs
  show ((PyData.canLayAll0 (gs.map grD)) && decide (PyData.depthAll (gs.map grD) + 1 ≤ 64)) = true
  rw [canAll grD_can, Bool.true_and]
  exact decide_eq_true (by omega)
theorem group_take {m : Int} {ns : List Int} {i : Nat} {x : Int} (h : ns[i]? = some x) : groupI m (ns.take (i + 1)) = groupS m (groupI m (ns.take i)) x := by
  unfold groupI
  rw [take_succ h, List.foldl_append]
  rfl
theorem group_len (m : Int) (ns : List Int) : (groupI m ns).length ≤ ns.length ∧ ∀ g ∈ groupI m ns, g.2.length ≤ ns.length := by
  have step : ∀ i, i ≤ ns.length → (groupI m (ns.take i)).length ≤ i ∧ ∀ g ∈ groupI m (ns.take i), g.2.length ≤ i := by
    intro i
    induction i with
    | zero => intro _; exact ⟨Nat.le_refl _, fun g hg => by cases hg⟩
    | succ i ih =>
      intro hi
      obtain ⟨h1, h2⟩ := ih (by omega)
      have hx : ns[i]? = some ns[i] := List.getElem?_eq_getElem (by omega)
      rw [group_take hx]
      rcases List.eq_nil_or_concat (groupI m (ns.take i)) with e | ⟨gs, ⟨r, xs⟩, e⟩
      · rw [e]
        refine ⟨by show 1 ≤ i + 1; omega, fun g hg => ?_⟩
        have hg : g ∈ [(ns[i] % m, [ns[i]])] := hg
        rw [List.mem_singleton.mp hg]
        show 1 ≤ i + 1
        omega
      · rw [List.concat_eq_append] at e
        rw [e] at h1 h2 ⊢
        rw [groupS_snoc]
        rw [List.length_append] at h1
        have hl : ([(r, xs)] : List (Int × List Int)).length = 1 := rfl
        split
        · refine ⟨by rw [List.length_append]; simp; omega, fun g hg => ?_⟩
          rcases List.mem_append.mp hg with hg | hg
          · have := h2 g (List.mem_append.mpr (.inl hg)); omega
          · rw [List.mem_singleton.mp hg]
            have h3 : xs.length ≤ i := h2 (r, xs) (List.mem_append.mpr (.inr (List.mem_singleton.mpr rfl)))
            show (xs ++ [_]).length ≤ i + 1
            rw [List.length_append]
            simp
            omega
        · refine ⟨by rw [List.length_append, List.length_append]; simp; omega, fun g hg => ?_⟩
          rcases List.mem_append.mp hg with hg | hg
          · have := h2 g hg; omega
          · rw [List.mem_singleton.mp hg]
            show 1 ≤ i + 1
            omega
  have := step ns.length (Nat.le_refl _)
  rw [List.take_length] at this
  exact this
theorem lst_ty {K : PySem.W.Frag} {H : Hp} {l : Addr} {xs : List V} (h : H l = some (.lst xs)) : tyV K "list" (.ref l) H := Or.inl ⟨rfl, _, SqL.of h⟩
theorem acc_raw {K : PySem.W.Frag} {H : Hp} {p : Addr} {ns : List Int} (h : Acc K H p (ns.map PyData.int)) : H p = some (.lst (ns.map V.int)) := by
  obtain ⟨xs, e, i⟩ := h
  rw [Ims.of_ints _ i] at e
  exact e
theorem raw_acc {K : PySem.W.Frag} {H : Hp} {p : Addr} {ns : List Int} (h : H p = some (.lst (ns.map V.int))) : Acc K H p (ns.map PyData.int) := ⟨_, h, Ims.ints _⟩
theorem ixN_int {n : Nat} {a : Int} (h0 : 0 ≤ a) (h1 : a < n) : ixN n a = some a.toNat := by
  unfold ixN
  rw [if_pos h0, if_pos h1]
/-- the loop of a comprehension's clause over zip -/
theorem loop_zip {K : PySem.W.Frag} {a b : Addr} {xs ys : List V} {B : (Hp → Prop) → V → Hp → Prop} {E : Hp → Prop} {H1 : Hp} (Pv : Nat → Hp → Prop) (h0 : Pv 0 H1) (hl : ∀ i H, Pv i H → SqL K H a xs ∧ SqL K H b ys)
    (hs : ∀ i x y T H H2, xs[i]? = some x → ys[i]? = some y → Pv i H → H T = none → Same H H2 → H2 T = some (.tup [x, y]) → B (Pv (i + 1)) (.ref T) H2) (hd : ∀ H, Pv (min xs.length ys.length) H → E H) :
    ∃ W : Nat → Nat → Hp → Prop, (∃ m, W 0 m H1) ∧ ∀ i m H, W i m H →
      ((Itz K a b).stop i H ∧ E H) ∨ ((Itz K a b).go i H ∧ ∃ Nx : Hp → Prop, (∀ H', Nx H' → ∃ m', m' < m ∧ W (i + 1) m' H') ∧ ∀ x H', (Itz K a b).yld i H x H' → B Nx x H') := by
  refine ⟨fun i m H => m = min xs.length ys.length - i ∧ i ≤ min xs.length ys.length ∧ Pv i H, ⟨min xs.length ys.length, by simp, Nat.zero_le _, h0⟩, ?_⟩
  rintro i m H ⟨rfl, hi, p⟩
  obtain ⟨qx, qy⟩ := hl i H p
  by_cases hlt : i < min xs.length ys.length
  · have hx : xs[i]? = some xs[i] := List.getElem?_eq_getElem (by omega)
    have hy : ys[i]? = some ys[i] := List.getElem?_eq_getElem (by omega)
    refine .inr ⟨⟨xs, ys, _, _, qx, qy, hx, hy⟩, Pv (i + 1), fun H' p' => ⟨min xs.length ys.length - (i + 1), by omega, rfl, hlt, p'⟩, fun v H' y => ?_⟩
    obtain ⟨T, x', y', rfl, hT, rfl, f1, f2⟩ := y
    exact hs i x' y' T H _ (f1 xs qx) (f2 ys qy) p hT (same_new hT) upd_same
  · have e : i = min xs.length ys.length := by omega
    subst e
    exact .inl ⟨⟨xs, ys, qx, qy, by omega⟩, hd H p⟩
/-- what a line gives of its one other's items, of its two others' -/
def oneD (l : Ln) (g : List PyData) : List PyData :=
  match l with
  | .map ds _ => g.map (doneAll ds)
  | .keep ts _ => g.filter (met ts)
  | .whil ts _ => g.takeWhile (met ts)
  | .take n _ => g.take n.toNat
  | .skip n _ => g.drop n.toNat
  | .group m _ => (groupI m (g.map toI)).map grD
  | .window n _ => windows n.toNat g
  | .fold f n _ => (foldI f n (g.map toI)).map PyData.int
  | _ => []
def twoD (l : Ln) (g h : List PyData) : List PyData :=
  match l with
  | .chain _ _ => g ++ h
  | .pair _ _ => List.zipWith (fun x y => .tuple [x, y]) g h
  | .merge _ _ => (mergeI (g.map toI) (h.map toI)).map PyData.int
  | _ => []
theorem listD_one {l : Ln} {a : Int} (e : l.names = [a]) (made : List (List PyData)) (lists : List (List Int)) : listD l made lists = oneD l (made.getD a.toNat []) := by
  cases l <;> first | (cases e; rfl) | exact absurd (congrArg List.length e) (by simp [Ln.names])
theorem listD_two {l : Ln} {a b : Int} (e : l.names = [a, b]) (made : List (List PyData)) (lists : List (List Int)) : listD l made lists = twoD l (made.getD a.toNat []) (made.getD b.toNat []) := by
  cases l <;> first | (cases e; rfl) | exact absurd (congrArg List.length e) (by simp [Ln.names])
/-- the stretches of a group in the making: tuples of a rest and a list -/
inductive GrH (K : PySem.W.Frag) (H : Hp) : List Addr → List Addr → List (Int × List Int) → Prop
  | nil : GrH K H [] [] []
  | cons {t l : Addr} {ts lw : List Addr} {g : Int × List Int} {gs : List (Int × List Int)} (ht : SqT K H t [.int g.1, .ref l]) (hl : Acc K H l (g.2.map PyData.int)) (r : GrH K H ts lw gs) : GrH K H (t :: ts) (l :: lw) (g :: gs)
section
variable {K : PySem.W.Frag} {H H' : Hp}
theorem GrH.len : ∀ {ts lw : List Addr} {gs : List (Int × List Int)}, GrH K H ts lw gs → ts.length = gs.length ∧ lw.length = gs.length
  | _, _, _, .nil => ⟨rfl, rfl⟩
  | _, _, _, .cons _ _ r => ⟨congrArg Nat.succ r.len.1, congrArg Nat.succ r.len.2⟩
theorem GrH.keep (tk : TK K H H') : ∀ {ts lw : List Addr} {gs : List (Int × List Int)}, GrH K H ts lw gs → (∀ a ∈ lw, ∀ xs, H a = some (.lst xs) → H' a = some (.lst xs)) → GrH K H' ts lw gs
  | _, _, _, .nil, _ => .nil
  | _, _, _, .cons h1 h2 t, e => .cons (tk.t _ _ h1) (h2.keep tk (e _ List.mem_cons_self)) (GrH.keep tk t fun a ha => e a (List.mem_cons_of_mem _ ha))
theorem GrH.same {ts lw : List Addr} {gs : List (Int × List Int)} (r : GrH K H ts lw gs) (s : Same H H') : GrH K H' ts lw gs := r.keep (same_tk s) fun a _ _ e => s _ _ e
theorem GrH.but {D : Addr} {ts lw : List Addr} {gs : List (Int × List Int)} (r : GrH K H ts lw gs) (s : But D H H') (t : TK K H H') (ne : D ∉ lw) : GrH K H' ts lw gs :=
  r.keep t fun a ha _ e => s _ _ (fun z => ne (z ▸ ha)) e
theorem GrH.snoc {t l : Addr} {g : Int × List Int} (ht : SqT K H t [.int g.1, .ref l]) (hl : Acc K H l (g.2.map PyData.int)) : ∀ {ts lw : List Addr} {gs : List (Int × List Int)}, GrH K H ts lw gs → GrH K H (ts ++ [t]) (lw ++ [l]) (gs ++ [g])
  | _, _, _, .nil => .cons ht hl .nil
  | _, _, _, .cons h1 h2 r => .cons h1 h2 (GrH.snoc ht hl r)
theorem GrH.unsnoc : ∀ {ts lw : List Addr} {gs : List (Int × List Int)} {g : Int × List Int}, GrH K H ts lw (gs ++ [g]) → ∃ ts' lw' t l, ts = ts' ++ [t] ∧ lw = lw' ++ [l] ∧ GrH K H ts' lw' gs ∧ SqT K H t [.int g.1, .ref l] ∧ Acc K H l (g.2.map PyData.int)
  | _, _, [], g, h => by
    cases h with
    | cons h1 h2 r => cases r; exact ⟨[], [], _, _, rfl, rfl, .nil, h1, h2⟩
  | _, _, g0 :: gs, g, h => by
    cases h with
    | cons h1 h2 r =>
      obtain ⟨ts', lw', t, l, rfl, rfl, r', a, b⟩ := GrH.unsnoc (gs := gs) r
      exact ⟨_ :: ts', _ :: lw', t, l, rfl, rfl, .cons h1 h2 r', a, b⟩
theorem GrH.mem {ts lw : List Addr} {gs : List (Int × List Int)} (r : GrH K H ts lw gs) : ∀ a ∈ lw, ∃ xs, H a = some (.lst xs) := by
  induction r with
  | nil => intro a h; cases h
  | cons h1 h2 r ih =>
    intro a h
    rcases List.mem_cons.mp h with rfl | h
    · exact h2.at
    · exact ih a h
theorem GrH.get : ∀ {ts lw : List Addr} {gs : List (Int × List Int)} {i : Nat} {g : Int × List Int}, GrH K H ts lw gs → gs[i]? = some g → ∃ t l, ts[i]? = some t ∧ SqT K H t [.int g.1, .ref l] ∧ Acc K H l (g.2.map PyData.int)
  | _, _, _, i, _, .nil, e => by simp at e
  | _, _, _, 0, _, .cons h1 h2 _, e => by simp at e; subst e; exact ⟨_, _, rfl, h1, h2⟩
  | _, _, _, i + 1, g, .cons _ _ r, e => by
    obtain ⟨t, l, a, b, c⟩ := GrH.get (i := i) (g := g) r (by simpa using e)
    exact ⟨t, l, by simpa using a, b, c⟩
end
open PySem PySem.Spec PyProof.Rows L2
section
variable {P : Program} {w : World} {A : Around} {E : Value → Shared → Prop} {s : Shared}
abbrev newS (w : World) : Obj := { cls := .type "set", dict := none, data := .set #[] 0 (.fresh 0 0 (!w.params.followText "set-order")) }
/-- a set just made takes all of a list of ints -/
theorem init_ints {a l : Addr} {items : Array Value} {ns : List Int} (hh : A.handled = none) (ha : s.heap.get? a = some (newS w)) (hl : s.heap.IsList l items) (hi : IntsAre items.toList ns) (hb : ns.length + 1 < scanBound) (al : a ≠ l) :
    codeAny (model P w) A (.call (.builtin "set.__init__") ⟨[.ref a, .ref l], []⟩) (wants (fun r s₂ => r = .none ∧ ∃ h' tk c, s₂ = { s with heap := h', toks := tk } ∧ SetR w h' a (fun j => decide (j ∈ ns)) c ∧ c ≤ ns.length ∧
      ∀ b o, b ≠ a → s.heap.get? b = some o → h'.get? b = some o) E) s := by
  have hT : Shared.TypeIs s (.ref a) "set" := ⟨_, ha, rfl⟩
  refine codeAny_call_builtin F.called_set.init.plain F.entry_set_init (check_set_init_1 hT ?_)
  have hsls := F.sub_list_set
  have hslf := F.sub_list_frozenset
  have hne : (Value.type "list" == Value.type "dict") = false := by decide
  obtain ⟨ol, hol, hcl, nl, hdl⟩ := id hl
  have hlT : s.TypeIs (.ref l) "list" := ⟨ol, hol, hcl⟩
  unfold Builtin.«set.__init__» noKeywords Builtin.Frozenset.updateFrom
  generalize hPI : pyIter = PI
  wp_walk
  subst hPI
  have hn : items.size = ns.length := by
    have h := IntsAre.length hi
    rw [Array.length_toList] at h
    exact h
  have val : ∀ (i : Nat) (v : Value), items[i]? = some v → ∃ k t, ns[i]? = some k ∧ v = .int k t := fun i v hv => by
    have hlt : i < ns.length := by rw [← hn]; exact (Array.getElem?_eq_some_iff.mp hv).1
    obtain ⟨t, e⟩ := IntsAre.int_at hi i v (by rw [Array.getElem?_toList]; exact hv)
    refine ⟨ns[i], t, List.getElem?_eq_getElem hlt, ?_⟩
    rw [e, List.getD_eq_getElem?_getD, List.getElem?_eq_getElem hlt]
    rfl
  have la : a < s.heap.objs.size := Heap.lt_size ha
  have ll : l < s.heap.objs.size := Heap.lt_size hol
  refine wpAny_pyIter_list hl (wpAny_bind (wpAny_runValue ?_))
  refine set_update_ints ((Walks.list (by simp [hh]) s.heap.objs.size l (Nat.ne_of_lt ll) items).toS) a (by simp only [List.mem_cons, List.not_mem_nil, or_false, not_or]; exact ⟨Nat.ne_of_lt la, al⟩) ns hn hb val items.size 0 _ (Nat.sub_zero _) (Nat.zero_le _)
    ⟨⟨_, Heap.get?_push_size _ rfl, rfl, rfl⟩, hl.push _⟩ ⟨0, Nat.le_refl 0, setR_new_at (Heap.get?_push_of_some _ ha)⟩ fun s' c m hc R => ?_
  obtain ⟨h', g', d', tk', os'⟩ := s'
  obtain rfl : g' = s.gens := m.gens
  obtain rfl : d' = s.drawn := m.drawn
  obtain rfl : os' = s.os := m.os
  show wpAny _ _ _ _ _ _
  refine wpAny_pure ?_
  show wpAny _ _ (ret Value.none) _ _ _
  refine wpAny_pure ⟨rfl, h', tk', c, rfl, R, by omega, fun b o hb e => ?_⟩
  have lb : b < s.heap.objs.size := Heap.lt_size e
  exact m.heap b o (by simp only [List.mem_cons, List.not_mem_nil, or_false, not_or]; exact ⟨hb, Nat.ne_of_lt lb⟩) (Heap.get?_push_of_some _ e)
/-- set(xs), xs a list of ints -/
theorem call_set_ints {l : Addr} {items : Array Value} {ns : List Int} {Q : Value → Shared → Prop} (hh : A.handled = none) (hl : s.heap.IsList l items) (hi : IntsAre items.toList ns) (hb : ns.length + 1 < scanBound)
    (h : ∀ (h' : Heap) (tk c : Nat), SetR w h' s.heap.objs.size (fun j => decide (j ∈ ns)) c → c ≤ ns.length → (∀ b o, s.heap.get? b = some o → h'.get? b = some o) → Q (.ref s.heap.objs.size) { s with heap := h', toks := tk }) :
    wpAny (model P w) A (call (.type "set") [.ref l]) Q E s := by
  obtain ⟨k, tl, hmro⟩ := F.called_set.mro
  have h0 := F.called_set.made
  have h1 := F.called_set.sub
  have h2 := F.called_set.notType
  have h3 := F.called_set.canCreate
  have h4 := F.typeCall_set_1 (.ref l)
  have h5 := F.called_set.init.lookup
  have h6 := F.called_set.init.bind (.ref s.heap.objs.size)
  refine wpAny_call (codeAny_of_tree ?_)
  show wpAny _ _ (callAny (.type "set") _) _ _ _
  refine wpAny_pure ⟨Code.quiet_builtin _ (by decide +kernel), codeAny_builtin F.entry_type_call ?_⟩
  rw [Around.under_plain (weight_type_call_type "set" [.ref l] []) rfl]
  repeat (any_goals (first | assumption | wp_step))
  refine codeAny_mono (code_set_led1 (.ref l) (E := E) (Q₁ := fun v s₁ => v = .ref s.heap.objs.size ∧ s₁ = { s with heap := s.heap.push (newS w) }) ⟨rfl, rfl⟩) fun r s₁ hr => ?_
  have ll : l < s.heap.objs.size := by
    obtain ⟨_, e, _⟩ := hl
    exact Heap.lt_size e
  have hS : (s.heap.push (newS w)).get? s.heap.objs.size = some (newS w) := Heap.get?_push_size _ rfl
  rcases r with e | fl
  · exact hr
  rcases fl with v | _ | _ | _
  case ret =>
    obtain ⟨rfl, rfl⟩ := hr
    have hT : Shared.TypeIs { s with heap := s.heap.push (newS w) } (.ref s.heap.objs.size) "set" := ⟨_, hS, rfl⟩
    repeat (any_goals (first | assumption | wp_step))
    refine codeAny_mono (init_ints (E := E) (by simp [hh]) hS (hl.push _) hi hb (Nat.ne_of_gt ll)) fun r s₂ hr => ?_
    rcases r with e | fl
    · exact hr
    rcases fl with v | _ | _ | _
    case ret =>
      obtain ⟨rfl, h', tk, c, rfl, R, hc, keep⟩ := hr
      repeat (any_goals (first | assumption | wp_step))
      exact h _ _ _ R hc fun b o e => keep b o (Nat.ne_of_lt (Heap.lt_size e)) (Heap.get?_push_of_some _ e)
    all_goals exact hr.elim
  all_goals exact hr.elim
end
section
variable {X : Cx}
/-- an int in a list of ints -/
def rInI (K : PySem.W.Frag) : R2 := fun x y H Q => ∃ (z : Int) (l : Addr) (ns : List Int), x = .int z ∧ y = .ref l ∧ Acc K H l (ns.map PyData.int) ∧ Q (.bl (decide (z ∈ ns))) H
theorem op_inI : OpR X (compareOp .In) (rInI X.K) := OpR.imp op_in_seq fun x y H Q q => by
  obtain ⟨z, l, ns, rfl, rfl, ⟨vs, e, i⟩, q⟩ := q
  rw [Ims.of_ints _ i] at e
  refine ⟨l, _, rfl, .inl (SqL.of e), rfl, ints_all ns, ?_⟩
  rw [if_neg Bool.false_ne_true, ints_in]
  exact q
/-- set(xs), xs a list of ints -/
def rSetL (K : PySem.W.Frag) (w : World) : List V → Hp → VK → Prop := fun xs H Q => ∃ (l : Addr) (ns : List Int), xs = [V.ref l] ∧ SqL K H l (ns.map V.int) ∧ ns.length ≤ 1000 ∧
  ∀ a c, H a = none → c ≤ ns.length → Q (.ref a) (upd H a (SetO w a (fun j => decide (j ∈ ns)) c))
theorem cr_setL (hc : X.calm = true) : CallR X (.type "set") (rSetL X.K X.w) := by
  intro pins s σ H xs us Q I r h
  obtain ⟨l, ns, rfl, hl, hn, q⟩ := h
  rw [Vals.ref1 r]
  obtain ⟨its, rv, pl, _⟩ := I.list hl
  refine call_set_ints (I.ok.hd hc) pl.isList (ints_of_vals rv) (by unfold scanBound; omega) fun h' tk c R hc k => ?_
  exact ⟨.ref s.heap.objs.size, _, I.laid (t' := tk) k (Nat.le_refl _) (setO_new R), rfl, q _ c (I.hok.fresh (Nat.le_refl _)) hc⟩
variable {o e : Expr} {es : List Expr} {to : TE} {t : TA} {apos cpos : Pos}
theorem pe_countK {K : PySem.W.Frag} (hK : X.K = K) (ho : PE X o to) (ha : PA X (e :: es) t) (hbase : attributeBase o "count" X.env (eval o X.env) = eval o X.env := by rfl)
    (hfew : ((backTo cpos (starEach (e :: es) X.env)).all (fun x => !x.1) && (backToKw cpos (keywordEach [] X.env)).all (fun x => x.1.isSome) && decide ((e :: es).length + ([] : List Keyword).length + (if ([] : List Keyword).isEmpty then 0 else 1) < 30)) = true := by rfl)
    (hline : (apos.endLine == cpos.line) = true := by rfl) (hs : starEach (e :: es) X.env = (false, eval e X.env) :: starEach es X.env := by rfl) (hplain : (backTo cpos (starEach es X.env)).any (·.1) = false := by rfl) :
    PE X (.Call (.Attribute o "count" apos) (e :: es) [] cpos) (tBM K "list" (rCntI K) to t) := by
  subst hK
  exact pe_bm F.plainAttrs_list F.slot_list_count F.type_list_count mt_lcount ho ha hbase hfew hline hs hplain
end
open PySem PySem.Spec PyProof.Rows L2
/-! ### constants of a module: a tuple of texts -/
structure TupAt (K : PySem.W.Frag) (mg : Str → Option Value) (x : Str) (ws : List Str) where
  a : Addr
  g : mg x = some (.ref a)
  h : ∀ H, SqT K H a (ws.map V.str)
def textOf : Value → Option Str
  | .str x _ => some x
  | _ => none
def numOf : Value → Option Int
  | .int i _ => some i
  | _ => none
theorem texts_vals : ∀ {its : List Value} {ws : List Str}, its.map textOf = ws.map some → Vals (ws.map V.str) its
  | [], [], _ => .nil
  | [], _ :: _, h => by cases h
  | _ :: _, [], h => by cases h
  | v :: its, w :: ws, h => by
    injection h with h1 h2
    refine .cons ?_ (texts_vals h2)
    cases v with
    | str x t =>
      injection h1 with h1
      subst h1
      exact ⟨t, rfl⟩
    | _ => cases h1
theorem tup_mk {K : PySem.W.Frag} {a : Addr} {o : Obj} {its : Array Value} {n : Nat} {ws : List Str} (l : K.lookup a = some o) (hc : o.cls = .type "tuple") (hd : o.data = .seq its n) (hl : its.size ≤ sizeLine) (hm : its.toList.map textOf = ws.map some) (H : Hp) : SqT K H a (ws.map V.str) :=
  .inr ⟨o, its, n, l, hc, hd, hl, texts_vals hm⟩
open PySem PySem.Spec PyProof.Rows L2
/-! ### a tuple times an int, also once or not at all -/
theorem tuple_mul1 (l : Addr) (items : Array Value) (n : Nat) (dd : Option Addr) (sl : Array (Option Value)) (u : Tok) :
    Meets (Builtin.«tuple.__mul__» { pos := [Value.ref l, Value.int 1 u] }) fun _ R s => s.heap.get? l = some { cls := Value.type "tuple", dict := dd, data := Data.seq items n, slots := sl } ∧ R (Except.ok (Flow.ret (Value.ref l))) s := by
  refine Meets.of_wp fun prog w A R s h => ?_
  obtain ⟨hl, h⟩ := h
  have f1 := AutoSeq1.idx_int
  have c1 : (items.isEmpty || (1 : Int) == 1) = true := by cases items.isEmpty <;> rfl
  unfold Builtin.«tuple.__mul__»
  repeat (any_goals (first | assumption | wp_step))
  all_goals exact ⟨_, rfl, h⟩
theorem tuple_mul0 (l : Addr) (items : Array Value) (n : Nat) (dd : Option Addr) (sl : Array (Option Value)) (u : Tok) (hne : items.isEmpty = false) :
    Meets (Builtin.«tuple.__mul__» { pos := [Value.ref l, Value.int 0 u] }) fun _ R s => s.heap.get? l = some { cls := Value.type "tuple", dict := dd, data := Data.seq items n, slots := sl } ∧ R (Except.ok (Flow.ret (Value.ref s.heap.objs.size))) { s with heap := s.heap.push { cls := Value.type "tuple", data := Data.seq #[] } } := by
  refine Meets.of_wp fun prog w A R s h => ?_
  obtain ⟨hl, h⟩ := h
  have f1 := AutoSeq1.idx_int
  have c1 : (items.isEmpty || (0 : Int) == 1) = false := by rw [hne]; rfl
  unfold Builtin.«tuple.__mul__»
  repeat (any_goals (first | assumption | wp_step))
  all_goals exact ⟨_, rfl, h⟩
section
variable {X : Cx}
def rRepD (K : PySem.W.Frag) : R2 := fun x y H Q => ∃ (ds : List PyData) (k : Int), Im K H x (.tuple ds) ∧ y = .int k ∧ ds ≠ [] ∧ 0 ≤ k ∧ k ≤ 1000 ∧ ds.length ≤ 1000 ∧ ∀ v H', Same H H' → TK K H H' → Im K H' v (.tuple (List.replicate k.toNat ds).flatten) → Q v H'
theorem Ims.app {K : PySem.W.Frag} {H : Hp} : ∀ {vs ws : List V} {ds es : List PyData}, Ims K H vs ds → Ims K H ws es → Ims K H (vs ++ ws) (ds ++ es)
  | _, _, _, _, .nil, h => h
  | _, _, _, _, .cons h t, g => .cons h (Ims.app t g)
theorem Ims.reps {K : PySem.W.Frag} {H : Hp} {vs : List V} {ds : List PyData} (h : Ims K H vs ds) : ∀ n, Ims K H (List.replicate n vs).flatten (List.replicate n ds).flatten
  | 0 => .nil
  | n + 1 => by
    rw [List.replicate_succ, List.replicate_succ, List.flatten_cons, List.flatten_cons]
    exact Ims.app h (Ims.reps h n)
theorem op_repD : OpR X (binaryOp .Mult) (rRepD X.K) := by
  intro pins s σ H x y v u Q I rx ry h
  obtain ⟨ds, k, im, rfl, hne, k0, k1, hl, q⟩ := h
  obtain ⟨l, xs, rfl, hT, hs⟩ := im.t
  have xne : xs ≠ [] := by
    intro z
    subst z
    cases hs
    exact hne rfl
  by_cases k2 : 2 ≤ k
  · refine op_repT pins s σ H _ _ v u Q I rx ry ⟨l, k, xs, rfl, rfl, hT, xne, k2, k1, by rw [hs.len]; exact hl, fun p hp => ?_⟩
    have sn := same_new (o := HO.tup (List.replicate k.toNat xs).flatten) hp
    exact q _ _ sn (same_tk sn) (.tup (SqT.of upd_same) ((hs.u (same_tk sn)).reps _))
  have rv : v = .ref l := rx
  subst rv
  obtain ⟨t, rfl⟩ := ry
  obtain ⟨its, r, ⟨w, ho⟩, _⟩ := I.tuple hT
  obtain ⟨cls, dd, data, sl⟩ := w
  obtain ⟨ho, hc, n, hd⟩ := ho
  have hc : cls = .type "tuple" := hc
  have hd : data = .seq its.toArray n := hd
  subst hc hd
  have ine : its.toArray.isEmpty = false := by
    cases its with
    | nil => cases r; exact absurd rfl xne
    | cons a b => rfl
  have kk : k = 0 ∨ k = 1 := by omega
  rcases kk with rfl | rfl
  · refine wpAny_binaryOp_repeat_ref (by decide) ⟨_, ho, rfl⟩ (fun s' => typeIs_int s' 0 t) noFill_tuple_mul F.fills_int_mul F.slot_int_rmul repeat_tuple F.slot_int_index.lookup
      (call_meets F.slot_int_rmul (typeIs_int s 0 t) F.entry_int_rmul (F.args_int_rmul_2 (.int 0 t) (.ref l)) (int_rmul_tuple 0 t l its.toArray n dd sl) ⟨ho, rfl, ⟨_, ho, rfl⟩,
        call_meets F.slot_tuple_mul ⟨_, ho, rfl⟩ F.entry_tuple_mul (F.args_tuple_mul_2 (.ref l) (.int 0 t)) (tuple_mul0 l its.toArray n dd sl t ine) ⟨ho, ?_⟩⟩)
    refine ⟨.ref s.heap.objs.size, upd H s.heap.objs.size (.tup []), ?_, rfl, ?_⟩
    · exact I.laid (fun b ob e => Heap.get?_push_of_some _ e) (Nat.le_refl _) ⟨Nat.zero_le _, [], .nil, IsTup.new s.heap #[]⟩
    · have hp := I.hok.fresh (Nat.le_refl s.heap.objs.size)
      have sn := same_new (o := HO.tup []) hp
      exact q _ _ sn (same_tk sn) (.tup (SqT.of upd_same) .nil)
  · refine wpAny_binaryOp_repeat_ref (by decide) ⟨_, ho, rfl⟩ (fun s' => typeIs_int s' 1 t) noFill_tuple_mul F.fills_int_mul F.slot_int_rmul repeat_tuple F.slot_int_index.lookup
      (call_meets F.slot_int_rmul (typeIs_int s 1 t) F.entry_int_rmul (F.args_int_rmul_2 (.int 1 t) (.ref l)) (int_rmul_tuple 1 t l its.toArray n dd sl) ⟨ho, rfl, ⟨_, ho, rfl⟩,
        call_meets F.slot_tuple_mul ⟨_, ho, rfl⟩ F.entry_tuple_mul (F.args_tuple_mul_2 (.ref l) (.int 1 t)) (tuple_mul1 l its.toArray n dd sl t) ⟨ho, ?_⟩⟩)
    refine ⟨.ref l, H, I, rfl, q _ _ (Same.refl H) TK.refl ?_⟩
    have : (List.replicate (1 : Int).toNat ds).flatten = ds := by
      show (List.replicate 1 ds).flatten = ds
      simp
    rw [this]
    exact im
end
open PySem PySem.Spec PyProof.Rows L2
/-! ### max(list, default=..) of a list that is not empty -/
section
variable {P : Program} {w : World} {A : Around} {E : Value → Shared → Prop}
theorem max_loop_d {R : Result → Shared → Prop} {I l : Addr} {items : Array Value} {ns : List Int} (hh : A.in1.handled = none) (hi : IntsAre items.toList ns) (hlI : l ≠ I) (S : Addr) (hS : S ≠ I) (hSl : S ≠ l) (d : Value) :
    ∀ (k j : Nat) (s : Shared) (m : Int) (t : Tok) (c : Nat), items.size - j = k → j ≤ items.size → (s.heap.IsListIter I l j ∧ s.heap.IsList l items) → s.heap.get? S = some ⟨.type "list", none, .seq #[.int m t, .int m t] c, #[]⟩ → m ∈ ns → (∀ i, i < j → ns.getD i 0 ≤ m) →
      (∀ (h' : Heap) (tk : Nat) (M : Int) (t' : Tok), (∀ b o, b ≠ I → b ≠ S → s.heap.get? b = some o → h'.get? b = some o) → M ∈ ns → (∀ a ∈ ns, a ≤ M) → R (.ok (.ret (.int M t'))) { s with heap := h', toks := tk }) →
      codeAny (model P w) A (.builtin "max.loop" ⟨[.ref I, .none, .ref S], [("default", d)]⟩) R s := by
  intro k
  induction k with
  | zero =>
    intro j s m t c hk hj hst hS1 hm hle h
    have W := Walks.list (prog := P) (w := w) hh I l hlI items
    have ej : j = items.size := by omega
    subst ej
    refine codeAny_builtin F.entry_max_loop ?_
    rw [Around.under_plain rfl rfl]
    show wpAny _ _ (Builtin.«max.loop» _) _ _ _
    unfold Builtin.«max.loop»
    repeat (first | (refine wpAny_tryCatch (W.done _ _ _ hst (fun h1 tk1 hk1 => ?_))) | (any_goals (first | assumption | wp_step)))
    have e2 : h1.get? S = some ⟨.type "list", none, .seq #[.int m t, .int m t] c, #[]⟩ := hk1 S _ (by simpa using hS) hS1
    repeat (any_goals (first | assumption | wp_step))
    show R (.ok (.ret (.int m t))) { s with heap := h1.update S (Obj.mapSeq fun x => #[]), toks := tk1 }
    refine h _ _ m t (fun b o n1 n2 e => Heap.get?_update_of_ne _ n2.symm (hk1 b o (by simpa using n1) e)) hm fun a ha => ?_
    obtain ⟨i, hi'⟩ := List.mem_iff_getElem?.mp ha
    have := (List.getElem?_eq_some_iff.mp hi').1
    have hl : items.size = ns.length := by have := IntsAre.length hi; rw [Array.length_toList] at this; exact this
    have := hle i (by omega)
    rw [List.getD_eq_getElem?_getD, hi'] at this
    exact this
  | succ k ih =>
    intro j s m t c hk hj hst hS1 hm hle h
    have W := Walks.list (prog := P) (w := w) hh I l hlI items
    refine codeAny_builtin F.entry_max_loop ?_
    rw [Around.under_plain rfl rfl]
    show wpAny _ _ (Builtin.«max.loop» _) _ _ _
    unfold Builtin.«max.loop»
    repeat (first | (refine wpAny_tryCatch (W.item j _ _ _ (by omega) hst (fun v h1 tk1 hv hst1 hk1 => ?_))) | (any_goals (first | assumption | wp_step)))
    have e2 : h1.get? S = some ⟨.type "list", none, .seq #[.int m t, .int m t] c, #[]⟩ := hk1 S _ (by simpa using hS) hS1
    obtain ⟨t2, rfl⟩ := IntsAre.int_at hi j v (by rw [Array.getElem?_toList]; exact hv)
    have C := CmpOf.ints_gt (prog := P) (w := w) (A := A.in1) (P := fun i v => ∃ t, v = .int (if i = 0 then ns.getD j 0 else m) t) (fun i => if i = 0 then ns.getD j 0 else m) (fun _ _ h => h)
    have C1 : ∀ (b : Bool) (s : Shared) (Q E : Value → Shared → Prop), decide (ns.getD j 0 > m) = b → Q (.bool b) s → wpAny (model P w) A.in1 (richCompare .Gt (.int (ns.getD j 0) t2) (.int m t)) Q E s := fun b s Q E e q =>
      C 0 1 _ _ s Q E ⟨t2, rfl⟩ ⟨t, rfl⟩ (by
        show Q (.bool (decide (ns.getD j 0 > m))) s
        rw [e]
        exact q)
    refine wpAny_tryCatch ?_
    wp_step
    wp_step
    have bk : ∀ b o, b ≠ I → b ≠ S → s.heap.get? b = some o → h1.get? b = some o := fun b o n1 n2 e => hk1 b o (by simpa using n1) e
    have hl : items.size = ns.length := by have := IntsAre.length hi; rw [Array.length_toList] at this; exact this
    have nm : ns.getD j 0 ∈ ns := by
      rw [List.getD_eq_getElem?_getD, List.getElem?_eq_getElem (by omega)]
      exact List.getElem_mem _
    have le1 : ∀ m', ns.getD j 0 ≤ m' → m ≤ m' → ∀ i, i < j + 1 → ns.getD i 0 ≤ m' := fun m' h1 h2 i hi => by
      by_cases c : i = j
      · rw [c]; exact h1
      · have := hle i (by omega); omega
    by_cases c2 : ns.getD j 0 > m
    · refine C1 true _ _ _ (decide_eq_true c2) ?_
      repeat (any_goals (first | assumption | wp_step))
      refine ⟨Code.quiet_builtin _ (by decide +kernel), ?_⟩
      refine ih (j + 1) _ (ns.getD j 0) t2 c (by omega) (by omega) ?_ ?_ nm (le1 _ (Int.le_refl _) (by omega)) fun h' tk M t' hk hM hle' => ?_
      · exact W.frame (j + 1) _ _ hst1 fun b hb o e => Heap.get?_update_of_ne _ (by
          intro z
          subst z
          rcases List.mem_cons.mp hb with z | hb
          · exact hS z
          · exact hSl (List.mem_singleton.mp hb)) e
      · exact Heap.get?_update_self _ e2 rfl
      · exact h h' tk M t' (fun b o n1 n2 e => hk b o n1 n2 (Heap.get?_update_of_ne _ n2.symm (bk b o n1 n2 e))) hM hle'
    · refine C1 false _ _ _ (decide_eq_false c2) ?_
      repeat (any_goals (first | assumption | wp_step))
      refine ⟨Code.quiet_builtin _ (by decide +kernel), ?_⟩
      refine ih (j + 1) _ m t c (by omega) (by omega) hst1 e2 hm (le1 _ (by omega) (Int.le_refl _)) fun h' tk M t' hk hM hle' => ?_
      exact h h' tk M t' (fun b o n1 n2 e => hk b o n1 n2 (bk b o n1 n2 e)) hM hle'

theorem max_first_d {R : Result → Shared → Prop} {I l : Addr} {items : Array Value} {ns : List Int} (hh : A.in1.handled = none) (hi : IntsAre items.toList ns) (hne : 0 < ns.length) (hlI : l ≠ I) (S : Addr) (hS : S ≠ I) (hSl : S ≠ l) (d : Value) (s : Shared) (c : Nat)
    (hst : s.heap.IsListIter I l 0 ∧ s.heap.IsList l items) (hS1 : s.heap.get? S = some ⟨.type "list", none, .seq #[] c, #[]⟩)
    (h : ∀ (h' : Heap) (tk : Nat) (M : Int) (t' : Tok), (∀ b o, b ≠ I → b ≠ S → s.heap.get? b = some o → h'.get? b = some o) → M ∈ ns → (∀ a ∈ ns, a ≤ M) → R (.ok (.ret (.int M t'))) { s with heap := h', toks := tk }) :
    codeAny (model P w) A (.builtin "max.loop" ⟨[.ref I, .none, .ref S], [("default", d)]⟩) R s := by
  have W := Walks.list (prog := P) (w := w) hh I l hlI items
  have hl : items.size = ns.length := by have := IntsAre.length hi; rw [Array.length_toList] at this; exact this
  refine codeAny_builtin F.entry_max_loop ?_
  rw [Around.under_plain rfl rfl]
  show wpAny _ _ (Builtin.«max.loop» _) _ _ _
  unfold Builtin.«max.loop»
  repeat (first | (refine wpAny_tryCatch (W.item 0 _ _ _ (by omega) hst (fun v h1 tk1 hv hst1 hk1 => ?_))) | (any_goals (first | assumption | wp_step)))
  have e2 : h1.get? S = some ⟨.type "list", none, .seq #[] c, #[]⟩ := hk1 S _ (by simpa using hS) hS1
  obtain ⟨t2, rfl⟩ := IntsAre.int_at hi 0 v (by rw [Array.getElem?_toList]; exact hv)
  have bk : ∀ b o, b ≠ I → b ≠ S → s.heap.get? b = some o → h1.get? b = some o := fun b o n1 n2 e => hk1 b o (by simpa using n1) e
  repeat (any_goals (first | assumption | wp_step))
  refine ⟨Code.quiet_builtin _ (by decide +kernel), ?_⟩
  have nm : ns.getD 0 0 ∈ ns := by
    rw [List.getD_eq_getElem?_getD, List.getElem?_eq_getElem hne]
    exact List.getElem_mem _
  show codeAny (model P w) A (.builtin "max.loop" ⟨[.ref I, .none, .ref S], [("default", d)]⟩) R { s with heap := h1.update S (Obj.mapSeq fun _ => #[.int (ns.getD 0 0) t2, .int (ns.getD 0 0) t2]), toks := tk1 }
  obtain ⟨c2, g2⟩ : ∃ c2, (h1.update S (Obj.mapSeq fun _ => #[.int (ns.getD 0 0) t2, .int (ns.getD 0 0) t2])).get? S = some ⟨.type "list", none, .seq #[.int (ns.getD 0 0) t2, .int (ns.getD 0 0) t2] c2, #[]⟩ := ⟨_, Heap.get?_update_self _ e2 rfl⟩
  refine max_loop_d hh hi hlI S hS hSl d (items.size - 1) 1 _ (ns.getD 0 0) t2 c2 rfl (by omega) ?_ g2 nm (fun i hi => ?_) fun h' tk M t' hk hM hle' => ?_
  · exact W.frame 1 _ _ hst1 fun b hb o e => Heap.get?_update_of_ne _ (by
      intro z
      subst z
      rcases List.mem_cons.mp hb with z | hb
      · exact hS z
      · exact hSl (List.mem_singleton.mp hb)) e
  · have : i = 0 := by omega
    subst this
    exact Int.le_refl _
  · exact h h' tk M t' (fun b o n1 n2 e => hk b o n1 n2 (Heap.get?_update_of_ne _ n2.symm (bk b o n1 n2 e))) hM hle'
theorem call_max_d {s : Shared} {l : Addr} {items : Array Value} {ns : List Int} {d : Value} {Q : Value → Shared → Prop} (hh : A.handled = none) (hl : s.heap.IsList l items) (hi : IntsAre items.toList ns) (hne : 0 < ns.length)
    (h : ∀ (h' : Heap) (tk : Nat) (M : Int) (t' : Tok), (∀ b o, s.heap.get? b = some o → h'.get? b = some o) → M ∈ ns → (∀ a ∈ ns, a ≤ M) → Q (.int M t') { s with heap := h', toks := tk }) :
    wpAny (model P w) A (call (.builtin "max") [.ref l] [("default", d)]) Q E s := by
  refine wpAny_call (codeAny_call_builtin F.plain_max F.entry_max ?_)
  have ha : argsOk "max" ⟨[.ref l], [("default", d)]⟩ := rfl
  have hc : checkBuiltinCall "max" ⟨[.ref l], [("default", d)]⟩ = pure () := by
    unfold checkBuiltinCall
    rw [F.kind_max]
    exact ha
  rw [hc]
  refine wpAny_pure ?_
  unfold Builtin.max
  repeat (first | refine wpAny_pyIter_list hl ?_ | any_goals (first | assumption | wp_step))
  refine ⟨Code.quiet_builtin _ (by decide +kernel), ?_⟩
  have ll : l < s.heap.objs.size := by
    obtain ⟨_, e, _⟩ := hl
    exact Heap.lt_size e
  have k1 : List.lookup ("key" : Str) [(("default" : Str), d)] = none := by
    show (match ("key" : Str) == ("default" : Str) with | true => some d | false => List.lookup ("key" : Str) ([] : List (Str × Value))) = none
    rw [show (("key" : Str) == ("default" : Str)) = false by decide +kernel]
    rfl
  have k2 : List.lookup ("default" : Str) [(("default" : Str), d)] = some d := by
    show (match ("default" : Str) == ("default" : Str) with | true => some d | false => List.lookup ("default" : Str) ([] : List (Str × Value))) = some d
    rw [show (("default" : Str) == ("default" : Str)) = true by decide +kernel]
  show codeAny _ _ (Code.builtin "max.loop" ⟨[.ref s.heap.objs.size, (List.lookup ("key" : Str) [(("default" : Str), d)]).getD .none, .ref _], (List.lookup ("default" : Str) [(("default" : Str), d)]).toList.map fun d => (("default" : Str), d)⟩) _ _
  rw [k1, k2]
  show codeAny _ _ (Code.builtin "max.loop" ⟨[.ref s.heap.objs.size, .none, .ref _], [(("default" : Str), d)]⟩) _ _
  have hh1 : A.in1.handled = none := hh
  have sI : s.heap.objs.size ≠ l := (Nat.ne_of_lt ll).symm
  have gS : ((s.heap.push ⟨.type "list_iterator", none, .fields #[.ref l, .int 0 0], #[]⟩).push ⟨.type "list", none, .seq #[] 0, #[]⟩).get? (s.heap.push ⟨.type "list_iterator", none, .fields #[.ref l, .int 0 0], #[]⟩).objs.size = some ⟨.type "list", none, .seq #[] 0, #[]⟩ := Heap.get?_push_size _ rfl
  have zS : (s.heap.push ⟨.type "list_iterator", none, .fields #[.ref l, .int 0 0], #[]⟩).objs.size = s.heap.objs.size + 1 := Heap.size_push _ _
  have st0 : ((s.heap.push ⟨.type "list_iterator", none, .fields #[.ref l, .int 0 0], #[]⟩).push ⟨.type "list", none, .seq #[] 0, #[]⟩).IsListIter s.heap.objs.size l 0 ∧ ((s.heap.push ⟨.type "list_iterator", none, .fields #[.ref l, .int 0 0], #[]⟩).push ⟨.type "list", none, .seq #[] 0, #[]⟩).IsList l items :=
    ⟨⟨_, Heap.get?_push_of_some _ (Heap.get?_push_size _ rfl), rfl, rfl⟩, (hl.push _).push _⟩
  refine max_first_d hh1 hi hne sI.symm _ (by rw [zS]; exact Nat.succ_ne_self _) (by rw [zS]; exact Nat.ne_of_gt (Nat.lt_succ_of_lt ll)) d _ 0 st0 gS fun h' tk M t' hk hM hle => ?_
  refine h h' tk M t' (fun b o e => hk b o ?_ ?_ (Heap.get?_push_of_some _ (Heap.get?_push_of_some _ e))) hM hle
  · exact Nat.ne_of_lt (Heap.lt_size e)
  · rw [zS]; exact Nat.ne_of_lt (Nat.lt_succ_of_lt (Heap.lt_size e))
end
section
variable {X : Cx}
def rMaxD (K : PySem.W.Frag) : List V → List V → Hp → VK → Prop := fun xs zs H Q => ∃ (a : Addr) (ns : List Int) (z : V), xs = [.ref a] ∧ zs = [z] ∧ SqL K H a (ns.map V.int) ∧ 0 < ns.length ∧ ∀ m, m ∈ ns → (∀ y ∈ ns, y ≤ m) → Q (.int m) H
theorem cr_maxD (hc : X.calm = true) : CallRK X (.builtin "max") ["default"] (rMaxD X.K) := by
  intro pins s σ H xs zs us ws Q I r rz h
  obtain ⟨l, ns, z, rfl, rfl, hl, hn, q⟩ := h
  cases rz with
  | cons rz rn =>
    cases rn
    rw [Vals.ref1 r]
    obtain ⟨its, rv, pl, _⟩ := I.list hl
    refine call_max_d (I.ok.hd hc) pl.isList (ints_of_vals rv) hn fun h' tk M t' k hM hle => ?_
    exact ⟨.int M, H, I.kept (t' := tk) k, ⟨t', rfl⟩, q M hM hle⟩
end
open PySem PySem.Spec PyProof.Rows L2
/-! ### dicts by ints: put, read, taken out; locked while they are walked -/
section
variable {X : Cx}
/-- l[i] of a list, where it is written next -/
def rGetI (K : PySem.W.Frag) : V → V → Hp → VK → Prop := fun o i H Q => ∃ (l : Addr) (xs : List V) (j : Int) (n : Nat) (v : V), o = .ref l ∧ i = .int j ∧ SqL K H l xs ∧ j = (n : Int) ∧ xs[n]? = some v ∧ Q v H
theorem pg_getI : PGet X (rGetI X.K) := by
  intro pins s σ H o i ov iv Q I ro ri h
  obtain ⟨l, xs, j, n, v, rfl, rfl, hl, rfl, hv, q⟩ := h
  obtain ⟨its, rv, pl, hb⟩ := I.list hl
  obtain ⟨t, e⟩ := ri
  have hn := (List.getElem?_eq_some_iff.mp hv).1
  obtain ⟨u, hu, ru⟩ := rv.get hv
  have ro : ov = .ref l := ro
  subst ro e
  refine wpAny_getItem_list (x := u) pl.isList (Int.natCast_nonneg _) ?_ ?_ ⟨v, H, I, ru, q⟩
  · have : sizeLine < 2 ^ 62 := by decide
    omega
  · rw [Int.toNat_natCast, List.getElem?_toArray]
    exact hu
theorem hu1 {A : Around} {k : Nat} (hr : Room k A) : A.units + 1 < cLine := by have := hr.un; omega
end
section
variable {K : PySem.W.Frag} {H H' : Hp} {d : Addr} {od : Obj} {kvs : List (Key × V)}
theorem lock_but : But d H (upd H d (.frz od (.dK kvs))) := fun b u hb z => by rw [upd_ne hb]; exact z
theorem lock_tk (e : H d = some (.dK kvs)) : TK K H (upd H d (.frz od (.dK kvs))) := lock_but.tkW e rfl
theorem unlock_tk (e : H' d = some (.frz od (.dK kvs))) : TK K H' (upd H' d (.dK kvs)) := by
  have ne : ∀ {a : Addr} {o : HO}, H' a = some o → o ≠ .frz od (.dK kvs) → a ≠ d := fun h hn z => by
    subst z
    rw [e] at h
    exact hn (Option.some.inj h).symm
  refine ⟨fun a xs h => ?_, fun a xs h => ?_⟩
  · rcases h with (h | ⟨o, h⟩) | h
    · exact .inl (.inl (by rw [upd_ne (ne h (by intro z; cases z))]; exact h))
    · exact .inl (.inr ⟨o, by rw [upd_ne (ne h (by intro z; cases z))]; exact h⟩)
    · exact .inr h
  · rcases h with ⟨o, h⟩ | h
    · exact .inl ⟨o, by rw [upd_ne (ne h (by intro z; cases z))]; exact h⟩
    · exact .inr h
theorem unlock_same (e : H d = some (.dK kvs)) (b : But d H H') : Same H (upd H' d (.dK kvs)) := fun a o h => by
  by_cases c : a = d
  · subst c
    rw [upd_same, ← h, e]
  · rw [upd_ne c]
    exact b a o c h
/-- a dict by ints, as plain data -/
inductive Dk (K : PySem.W.Frag) (H : Hp) {α : Type} (f : α → PyData) : List (Key × V) → List (Nat × α) → Prop
  | nil : Dk K H f [] []
  | cons {v : V} {n : Nat} {x : α} {kvs : List (Key × V)} {st : List (Nat × α)} (h : Im K H v (f x)) (t : Dk K H f kvs st) : Dk K H f ((.inl (n : Int), v) :: kvs) ((n, x) :: st)
variable {α : Type} {f : α → PyData}
theorem Dk.u {kvs : List (Key × V)} {st : List (Nat × α)} (h : Dk K H f kvs st) (t : TK K H H') : Dk K H' f kvs st := by
  induction h with
  | nil => exact .nil
  | cons h _ ih => exact .cons (h.u t) ih
theorem Dk.len {kvs : List (Key × V)} {st : List (Nat × α)} (h : Dk K H f kvs st) : kvs.length = st.length := by
  induction h with
  | nil => rfl
  | cons _ _ ih => rw [List.length_cons, List.length_cons, ih]
theorem Dk.at {kvs : List (Key × V)} {st : List (Nat × α)} (h : Dk K H f kvs st) : ∀ {i : Nat} {kv : Key × V}, kvs[i]? = some kv → ∃ p, st[i]? = some p ∧ kv.1 = .inl (p.1 : Int) ∧ Im K H kv.2 (f p.2) := by
  induction h with
  | nil => intro i kv e; simp at e
  | @cons v n x kvs st h _ ih =>
    intro i kv e
    cases i with
    | zero =>
      simp at e
      subst e
      exact ⟨(n, x), rfl, rfl, h⟩
    | succ i => exact ih (by simpa using e)
theorem Dk.keys {kvs : List (Key × V)} {st : List (Nat × α)} (h : Dk K H f kvs st) : kvs.map (fun kv => kV kv.1) = (st.map fun p => V.int (p.1 : Int)) := by
  induction h with
  | nil => rfl
  | cons _ _ ih => rw [List.map_cons, List.map_cons, ih]; rfl
theorem Dk.none {kvs : List (Key × V)} {st : List (Nat × α)} (h : Dk K H f kvs st) {a : Nat} (hn : a ∉ st.map (·.1)) : valV kvs (.inl (a : Int) : Key) = Option.none := by
  induction h with
  | nil => exact valV_nil
  | @cons v n x kvs st h _ ih =>
    rw [List.map_cons, List.mem_cons] at hn
    rw [valV_neg (by intro z; injection z with z; exact hn (.inl (by omega)))]
    exact ih fun z => hn (.inr z)
theorem Dk.some {kvs : List (Key × V)} {st : List (Nat × α)} (h : Dk K H f kvs st) {a : Nat} {x : α} (hx : (st.find? fun p => decide (p.1 = a)).map (·.2) = Option.some x) : ∃ v, valV kvs (.inl (a : Int) : Key) = Option.some v ∧ Im K H v (f x) := by
  induction h with
  | nil => cases hx
  | @cons v n y kvs st h _ ih =>
    by_cases c : n = a
    · subst c
      rw [List.find?_cons_of_pos (by simp)] at hx
      cases hx
      exact ⟨v, valV_pos rfl, h⟩
    · rw [List.find?_cons_of_neg (by simp [c])] at hx
      rw [valV_neg (by intro z; injection z with z; omega)]
      exact ih hx
theorem Dk.snoc {kvs : List (Key × V)} {st : List (Nat × α)} (h : Dk K H f kvs st) {n : Nat} {v : V} {x : α} (hv : Im K H v (f x)) : Dk K H f (kvs ++ [(.inl (n : Int), v)]) (st ++ [(n, x)]) := by
  induction h with
  | nil => exact .cons hv .nil
  | cons h _ ih => exact .cons h ih
theorem Dk.put {kvs : List (Key × V)} {st : List (Nat × α)} (h : Dk K H f kvs st) {n : Nat} {v : V} {x : α} (hn : n ∉ st.map (·.1)) (hv : Im K H v (f x)) : Dk K H f (putK kvs (.inl (n : Int) : Key) v) (st ++ [(n, x)]) := by
  rw [putK_new v (h.none hn)]
  exact h.snoc hv
theorem Dk.drop {kvs : List (Key × V)} {st : List (Nat × α)} (h : Dk K H f kvs st) (a : Nat) : Dk K H f (dropK kvs (.inl (a : Int) : Key)) (st.filter fun p => !decide (p.1 = a)) := by
  induction h with
  | nil => exact .nil
  | @cons v n x kvs st h _ ih =>
    show Dk K H f (List.filter _ _) _
    by_cases c : n = a
    · subst c
      rw [List.filter_cons_of_neg (by simp), List.filter_cons_of_neg (by simp)]
      exact ih
    · rw [List.filter_cons_of_pos (by simp; omega), List.filter_cons_of_pos (by simp [c])]
      exact .cons h ih
end
/-- a comprehension over a locked dict's keys -/
theorem loop_keys {d : Addr} {od : Obj} {kvs : List (Key × V)} {B : (Hp → Prop) → V → Hp → Prop} {E : Hp → Prop} {H1 : Hp} (Pv : Nat → Hp → Prop) (h0 : Pv 0 H1) (hl : ∀ i H, i ≤ kvs.length → Pv i H → H d = some (.frz od (.dK kvs)))
    (hs : ∀ i k v H, kvs[i]? = some (k, v) → Pv i H → B (Pv (i + 1)) (kV k) H) (hd : ∀ H, Pv kvs.length H → E H) :
    ∃ W : Nat → Nat → Hp → Prop, (∃ m, W 0 m H1) ∧ ∀ i m H, W i m H →
      ((Itk d od kvs).stop i H ∧ E H) ∨ ((Itk d od kvs).go i H ∧ ∃ Nx : Hp → Prop, (∀ H', Nx H' → ∃ m', m' < m ∧ W (i + 1) m' H') ∧ ∀ x H', (Itk d od kvs).yld i H x H' → B Nx x H') := by
  refine ⟨fun i m H => m = kvs.length - i ∧ i ≤ kvs.length ∧ Pv i H, ⟨kvs.length, by simp, Nat.zero_le _, h0⟩, ?_⟩
  rintro i m H ⟨rfl, hi, p⟩
  have q := hl i H hi p
  by_cases hlt : i < kvs.length
  · refine .inr ⟨⟨q, hlt⟩, Pv (i + 1), fun H' p' => ⟨kvs.length - (i + 1), by omega, rfl, hlt, p'⟩, fun x H' y => ?_⟩
    obtain ⟨rfl, k, v, e, rfl⟩ := y
    exact hs i k v _ e p
  · have e : i = kvs.length := by omega
    subst e
    exact .inl ⟨⟨q, Nat.le_refl _⟩, hd H p⟩
/-- a comprehension over enumerate(list) -/
theorem loop_enum {K : PySem.W.Frag} {a : Addr} {xs : List V} {B : (Hp → Prop) → V → Hp → Prop} {E : Hp → Prop} {H1 : Hp} (Pv : Nat → Hp → Prop) (h0 : Pv 0 H1) (hl : ∀ i H, i ≤ xs.length → Pv i H → SqL K H a xs)
    (hs : ∀ i x H T H2, xs[i]? = some x → Pv i H → H T = none → Same H H2 → H2 T = some (.tup [.int (i : Nat), x]) → B (Pv (i + 1)) (.ref T) H2) (hd : ∀ H, Pv xs.length H → E H) :
    ∃ W : Nat → Nat → Hp → Prop, (∃ m, W 0 m H1) ∧ ∀ i m H, W i m H →
      ((Ite K a).stop i H ∧ E H) ∨ ((Ite K a).go i H ∧ ∃ Nx : Hp → Prop, (∀ H', Nx H' → ∃ m', m' < m ∧ W (i + 1) m' H') ∧ ∀ x H', (Ite K a).yld i H x H' → B Nx x H') := by
  refine ⟨fun i m H => m = xs.length - i ∧ i ≤ xs.length ∧ Pv i H, ⟨xs.length, by simp, Nat.zero_le _, h0⟩, ?_⟩
  rintro i m H ⟨rfl, hi, p⟩
  have q := hl i H hi p
  by_cases hlt : i < xs.length
  · refine .inr ⟨⟨xs, xs[i], q, by simp [hlt]⟩, Pv (i + 1), fun H' p' => ⟨xs.length - (i + 1), by omega, rfl, hlt, p'⟩, fun x H' y => ?_⟩
    obtain ⟨T, x1, rfl, hT, rfl, f⟩ := y
    exact hs i x1 H T _ (f xs q) p hT (same_new hT) upd_same
  · have e : i = xs.length := by omega
    subst e
    exact .inl ⟨⟨xs, q, Nat.le_refl _⟩, hd H p⟩
theorem ims_txts {K : PySem.W.Frag} {H : Hp} : ∀ ws : List Str, Ims K H (ws.map V.str) (ws.map PyData.str)
  | [] => .nil
  | w :: ws => .cons (.str w) (ims_txts ws)
theorem zip_find {a : Nat} : ∀ {ks : List Nat} {n : Nat}, a ∈ ks → ((ks.zipIdx n).find? fun p => decide (p.1 = a)).map (·.2) = some (n + ks.idxOf a)
  | [], _, h => nomatch h
  | k :: ks, n, h => by
    rw [List.zipIdx_cons]
    by_cases c : k = a
    · subst c
      rw [List.find?_cons_of_pos (by simp), List.idxOf_cons_self]
      rfl
    · rw [List.find?_cons_of_neg (by simp [c])]
      rcases List.mem_cons.mp h with h | h
      · exact absurd h.symm c
      · rw [zip_find h, List.idxOf_cons, show (k == a) = false by simp [c]]
        show _ = some (n + (ks.idxOf a + 1))
        congr 1
        omega
theorem zip_snoc {ks : List Nat} {k : Nat} : (ks ++ [k]).zipIdx = ks.zipIdx ++ [(k, ks.length)] := by
  rw [List.zipIdx_append]
  simp
theorem zip_keys {ks : List Nat} : (ks.zipIdx).map (·.1) = ks := by simp
open PySem PySem.Spec PyProof.Rows L2
/-! ### straight weaves: plain data -/
/-- two lines, the one naming the other, that can be one -/
def oneLn : Ln → Ln → Bool
  | .take _ _, .take _ _ => true
  | .skip n _, .skip m _ => decide (n + m ≤ 9999)
  | .map ds _, .map es _ => decide ((ds.length : Int) + es.length ≤ 64)
  | .keep ds _, .keep es _ => decide ((ds.length : Int) + es.length ≤ 64)
  | .whil ds _, .whil es _ => decide ((ds.length : Int) + es.length ≤ 64)
  | _, _ => false
def joinW : Ln → Bool
  | .map _ _ => true
  | .keep _ _ => true
  | .whil _ _ => true
  | .take _ _ => true
  | .skip _ _ => true
  | _ => false
def sameJ : Ln → Ln → Bool
  | .take _ _, .take _ _ => true
  | .skip _ _, .skip _ _ => true
  | .map _ _, .map _ _ => true
  | .keep _ _, .keep _ _ => true
  | .whil _ _, .whil _ _ => true
  | _, _ => false
/-- the one line for two -/
def joinL : Ln → Ln → Ln
  | .take n b, .take m _ => .take (min n m) b
  | .skip n b, .skip m _ => .skip (n + m) b
  | .map ds b, .map es _ => .map (ds ++ es) b
  | .keep ds b, .keep es _ => .keep (ds ++ es) b
  | .whil ds b, .whil es _ => .whil (ds ++ es) b
  | _, l => l
def useS (u : List Int) (a : Int) : List Int := u.set a.toNat (u.getD a.toNat 0 + 1)
def useL (u : List Int) (l : Ln) : List Int := l.names.foldl useS u
def cnts (n : Nat) (outs : List Int) : List Int := (List.range n).map fun (i : Nat) => (outs.count (i : Int) : Int)
def usesL (ls : List Ln) (outs : List Int) : List Int := ls.foldl useL ((List.range ls.length).map fun (i : Nat) => (outs.count (i : Int) : Int))
theorem useL_len : ∀ (ns : List Int) (u : List Int), (ns.foldl useS u).length = u.length
  | [], _ => rfl
  | a :: ns, u => by rw [List.foldl_cons, useL_len ns]; exact List.length_set
theorem usesL_len : ∀ (ls : List Ln) (u : List Int), (ls.foldl useL u).length = u.length
  | [], _ => rfl
  | l :: ls, u => by rw [List.foldl_cons, usesL_len ls]; exact useL_len _ _
/-- a line that could be one with the line that it names -/
def looseL (ls : List Ln) (uses : List Int) (l : Ln) : Bool :=
  joinW l && (sameJ (ls.getD (l.names.getD 0 0).toNat (.source 0)) l && (decide (uses.getD (l.names.getD 0 0).toNat 0 = 1) && oneLn (ls.getD (l.names.getD 0 0).toNat (.source 0)) l))
def straightB (ls : List Ln) (outs : List Int) : Bool := (ls.all fun l => !looseL ls (usesL ls outs) l) && !decide (0 ∈ usesL ls outs)
/-- how often lines are named by those that are needed, from the last one on -/
def usesUp (ls : List Ln) : Nat → List Int → List Int
  | 0, u => u
  | n + 1, u => usesUp ls n (if 0 < u.getD n 0 then useL u (ls.getD n (.source 0)) else u)
def usersL (ls : List Ln) (outs : List Int) : List Int := usesUp ls ls.length (cnts ls.length outs)
theorem usesUp_len (ls : List Ln) : ∀ (n : Nat) (u : List Int), (usesUp ls n u).length = u.length
  | 0, _ => rfl
  | n + 1, u => by
    show (usesUp ls n _).length = _
    rw [usesUp_len ls n]
    split
    · exact useL_len _ _
    · rfl
theorem cnts_len {n : Nat} {outs : List Int} : (cnts n outs).length = n := by
  unfold cnts
  rw [List.length_map, List.length_range]
theorem usersL_len {ls : List Ln} {outs : List Int} : (usersL ls outs).length = ls.length := by
  unfold usersL
  rw [usesUp_len, cnts_len]
/-! what they count -/
theorem useS_at {u : List Int} {a : Int} {b : Nat} (ha : 0 ≤ a) (hb : b < u.length) : (useS u a).getD b 0 = u.getD b 0 + (if a = (b : Int) then 1 else 0) := by
  unfold useS
  rw [List.getD_eq_getElem?_getD, List.getElem?_set]
  by_cases c : a.toNat = b
  · subst c
    rw [if_pos rfl, if_pos hb, if_pos (by omega)]
    rfl
  · rw [if_neg c, if_neg (by omega), ← List.getD_eq_getElem?_getD]
    omega
theorem names_at : ∀ {ns : List Int} {u : List Int} {b : Nat}, (∀ a ∈ ns, 0 ≤ a) → b < u.length → (ns.foldl useS u).getD b 0 = u.getD b 0 + (ns.count (b : Int) : Int)
  | [], u, b, _, _ => by simp
  | a :: ns, u, b, h, hb => by
    rw [List.foldl_cons, names_at (fun x hx => h x (List.mem_cons_of_mem _ hx)) (by show b < (List.set _ _ _).length; rw [List.length_set]; exact hb), useS_at (h a List.mem_cons_self) hb, List.count_cons]
    by_cases c : a = (b : Int)
    · subst c
      simp
      omega
    · rw [if_neg c, if_neg (by simp [c])]
      omega
/-- the sum of f at n, n + 1, .., k of them -/
def sm (f : Nat → Int) : Nat → Nat → Int
  | _, 0 => 0
  | n, k + 1 => f n + sm f (n + 1) k
theorem sm_congr {f g : Nat → Int} : ∀ {k n : Nat}, (∀ i, n ≤ i → i < n + k → f i = g i) → sm f n k = sm g n k
  | 0, _, _ => rfl
  | k + 1, n, h => by
    show f n + _ = g n + _
    rw [h n (Nat.le_refl _) (by omega), sm_congr (k := k) fun i h1 h2 => h i (by omega) (by omega)]
theorem sm_nonneg {f : Nat → Int} : ∀ {k n : Nat}, (∀ i, n ≤ i → 0 ≤ f i) → 0 ≤ sm f n k
  | 0, _, _ => Int.le_refl _
  | k + 1, n, h => by
    show 0 ≤ f n + _
    have := h n (Nat.le_refl _)
    have := sm_nonneg (f := f) (k := k) (n := n + 1) fun i hi => h i (by omega)
    omega
def wt (ls : List Ln) (u : List Int) (b : Nat) (at_ : Nat) : Int := if 0 < u.getD at_ 0 then ((ls.getD at_ (.source 0)).names.count (b : Int) : Int) else 0
theorem wt_nonneg {ls : List Ln} {u : List Int} {b at_ : Nat} : 0 ≤ wt ls u b at_ := by
  unfold wt
  split <;> omega
theorem getD_at {ls : List Ln} {n : Nat} {l : Ln} (h : ls[n]? = some l) : ls.getD n (.source 0) = l := by
  rw [List.getD_eq_getElem?_getD, h]
  rfl
theorem usesUp_at {ls : List Ln} {outs : List Int} (old : ∀ (i : Nat) l a, ls[i]? = some l → a ∈ l.names → 0 ≤ a ∧ a < (i : Int)) : ∀ (n k : Nat) (u : List Int), n + k = ls.length → u.length = ls.length →
    (∀ b, b < ls.length → u.getD b 0 = (outs.count (b : Int) : Int) + sm (wt ls u b) n k) → ∀ b, b < ls.length → (usesUp ls n u).getD b 0 = (outs.count (b : Int) : Int) + sm (wt ls (usesUp ls n u) b) 0 ls.length
  | 0, k, u, e, _, h => by
    have : k = ls.length := by omega
    subst this
    exact h
  | n + 1, k, u, e, lu, h => by
    have hn : ls[n]? = some ls[n] := List.getElem?_eq_getElem (by omega)
    have hl := getD_at hn
    show ∀ b, b < ls.length → (usesUp ls n (if 0 < u.getD n 0 then useL u (ls.getD n (.source 0)) else u)).getD b 0 = _ + sm (wt ls (usesUp ls n (if 0 < u.getD n 0 then useL u (ls.getD n (.source 0)) else u)) b) 0 ls.length
    by_cases c : 0 < u.getD n 0
    · rw [if_pos c]
      have nn : ∀ a ∈ (ls.getD n (.source 0)).names, 0 ≤ a := fun a ha => (old n _ a hn (by rw [hl] at ha; exact ha)).1
      have eq : ∀ b, b < ls.length → (useL u (ls.getD n (.source 0))).getD b 0 = u.getD b 0 + ((ls.getD n (.source 0)).names.count (b : Int) : Int) := fun b hb => names_at nn (by omega)
      have up : ∀ i, n ≤ i → i < ls.length → (useL u (ls.getD n (.source 0))).getD i 0 = u.getD i 0 := fun i h1 h2 => by
        rw [eq i h2]
        have : (ls.getD n (.source 0)).names.count (i : Int) = 0 := by
          rw [List.count_eq_zero]
          intro hm
          rw [hl] at hm
          have := (old n _ _ hn hm).2
          omega
        rw [this]
        simp
      refine usesUp_at old n (k + 1) _ (by omega) (by rw [show (useL u (ls.getD n (.source 0))).length = u.length from useL_len _ _]; exact lu) fun b hb => ?_
      rw [eq b hb, h b hb]
      show _ = _ + (wt ls _ b n + sm _ (n + 1) k)
      rw [sm_congr (f := wt ls (useL u (ls.getD n (.source 0))) b) (g := wt ls u b) (n := n + 1) (k := k) fun i h1 h2 => by unfold wt; rw [up i (by omega) (by omega)]]
      have : wt ls (useL u (ls.getD n (.source 0))) b n = ((ls.getD n (.source 0)).names.count (b : Int) : Int) := by
        unfold wt
        rw [up n (Nat.le_refl _) (by omega), if_pos c]
      rw [this]
      omega
    · rw [if_neg c]
      refine usesUp_at old n (k + 1) u (by omega) lu fun b hb => ?_
      rw [h b hb]
      show _ = _ + (wt ls _ b n + sm _ (n + 1) k)
      have : wt ls u b n = 0 := by unfold wt; rw [if_neg c]
      rw [this]
      omega
theorem cnts_at {n b : Nat} {outs : List Int} (h : b < n) : (cnts n outs).getD b 0 = (outs.count (b : Int) : Int) := by
  unfold cnts
  rw [List.getD_eq_getElem?_getD, List.getElem?_map, List.getElem?_range h]
  rfl
theorem usersL_at {ls : List Ln} {outs : List Int} (old : ∀ (i : Nat) l a, ls[i]? = some l → a ∈ l.names → 0 ≤ a ∧ a < (i : Int)) {b : Nat} (hb : b < ls.length) :
    (usersL ls outs).getD b 0 = (outs.count (b : Int) : Int) + sm (wt ls (usersL ls outs) b) 0 ls.length :=
  usesUp_at old ls.length 0 _ rfl cnts_len (fun b hb => by rw [cnts_at hb]; show _ = _ + (0 : Int); omega) b hb
def nsum (ls : List Ln) (b : Int) : Int := ((ls.map fun l => l.names.count b).sum : Nat)
theorem nsum_app {xs ys : List Ln} {b : Int} : nsum (xs ++ ys) b = nsum xs b + nsum ys b := by
  unfold nsum
  rw [List.map_append, List.sum_append]
  omega
theorem usesL_foldl : ∀ {ls : List Ln} {u : List Int} {b : Nat}, (∀ l ∈ ls, ∀ a ∈ l.names, 0 ≤ a) → b < u.length → (ls.foldl useL u).getD b 0 = u.getD b 0 + nsum ls (b : Int)
  | [], u, b, _, _ => by simp [nsum]
  | l :: ls, u, b, h, hb => by
    rw [List.foldl_cons, usesL_foldl (fun x hx => h x (List.mem_cons_of_mem _ hx)) (by rw [show (useL u l).length = u.length from useL_len _ _]; exact hb)]
    rw [show (useL u l).getD b 0 = u.getD b 0 + (l.names.count (b : Int) : Int) from names_at (h l List.mem_cons_self) hb]
    unfold nsum
    rw [List.map_cons, List.sum_cons]
    omega
theorem usesL_at {ls : List Ln} {outs : List Int} {b : Nat} (h : ∀ l ∈ ls, ∀ a ∈ l.names, 0 ≤ a) (hb : b < ls.length) : (usesL ls outs).getD b 0 = (outs.count (b : Int) : Int) + nsum ls (b : Int) := by
  show (ls.foldl useL (cnts ls.length outs)).getD b 0 = _
  rw [usesL_foldl h (by rw [cnts_len]; exact hb), cnts_at hb]
/-! ### the lines that stand, one turn -/
def valP (st : List (Nat × Ln)) (a : Nat) : Option Ln := (st.find? fun p => decide (p.1 = a)).map (·.2)
def innerOf (l : Ln) : Nat := (l.names.getD 0 0).toNat
def stepS (u : List Int) (st : List (Nat × Ln)) (at_ : Nat) (l : Ln) : List (Nat × Ln) :=
  if u.getD at_ 0 = 0 then st
  else match valP st (innerOf l) with
    | some A => if joinW l = true ∧ u.getD (innerOf l) 0 = 1 ∧ oneLn A l = true then (st.filter fun p => !decide (p.1 = innerOf l)) ++ [(at_, joinL A l)] else st ++ [(at_, l)]
    | none => st ++ [(at_, l)]
def stepsS (u : List Int) : Nat → List Ln → List (Nat × Ln) → List (Nat × Ln)
  | _, [], st => st
  | n, l :: ls, st => stepsS u (n + 1) ls (stepS u st n l)
/-- what stands behind n lines -/
structure SInv (ls : List Ln) (ks : List Kd) (outs u : List Int) (n : Nat) (st : List (Nat × Ln)) : Prop where
  srt : (st.map (·.1)).Pairwise (· < ·)
  lt : ∀ p ∈ st, p.1 < n
  len : st.length ≤ n
  pos : ∀ p ∈ st, 0 < u.getD p.1 0
  num : ∀ p ∈ st, numOk p.2 = true
  kind : ∀ p ∈ st, ∃ k, ks[p.1]? = some k ∧ kindL p.2 ks = some k ∧ midOk p.2 ks
  nm : ∀ p ∈ st, ∀ a ∈ p.2.names, 0 ≤ a ∧ a < (p.1 : Int)
  src : ∀ p ∈ st, ∃ l, ls[p.1]? = some l ∧ p.2.src = l.src
  cnt : ∀ b, b < ls.length → (outs.count (b : Int) : Int) + nsum (st.map (·.2)) (b : Int) + sm (wt ls u b) n (ls.length - n) = (if b ∈ st.map (·.1) ∨ n ≤ b then u.getD b 0 else 0)
  loose : ∀ p ∈ st, joinW p.2 = true → ∀ A, valP st (innerOf p.2) = some A → u.getD (innerOf p.2) 0 = 1 → oneLn A p.2 = false
theorem valP_some {st : List (Nat × Ln)} {a : Nat} {A : Ln} (h : valP st a = some A) : (a, A) ∈ st := by
  unfold valP at h
  obtain ⟨p, hp, rfl⟩ := Option.map_eq_some_iff.mp h
  have h1 := List.find?_some hp
  have h2 := List.mem_of_find?_eq_some hp
  have : p.1 = a := of_decide_eq_true h1
  subst this
  exact h2
theorem valP_of {st : List (Nat × Ln)} (srt : (st.map (·.1)).Pairwise (· < ·)) {a : Nat} {A : Ln} (h : (a, A) ∈ st) : valP st a = some A := by
  induction st with
  | nil => cases h
  | cons p st ih =>
    unfold valP
    rw [List.map_cons, List.pairwise_cons] at srt
    by_cases c : p.1 = a
    · rw [List.find?_cons_of_pos (by simp [c])]
      rcases List.mem_cons.mp h with rfl | h
      · rfl
      · have := srt.1 a (List.mem_map.mpr ⟨_, h, rfl⟩)
        omega
    · rw [List.find?_cons_of_neg (by simp [c])]
      rcases List.mem_cons.mp h with rfl | h
      · exact absurd rfl c
      · exact ih srt.2 h
theorem valP_none {st : List (Nat × Ln)} {a : Nat} (h : a ∉ st.map (·.1)) : valP st a = none := by
  cases q : valP st a with
  | none => rfl
  | some A => exact absurd (List.mem_map.mpr ⟨_, valP_some q, rfl⟩) h
theorem one_names {A l : Ln} (h : oneLn A l = true) : ∃ a b, l.names = [a] ∧ A.names = [b] ∧ (joinL A l).names = [b] ∧ joinW A = true ∧ A.src = none ∧ l.src = none ∧ (joinL A l).src = none := by
  cases A <;> cases l <;> first | exact ⟨_, _, rfl, rfl, rfl, rfl, rfl, rfl, rfl⟩ | cases h
theorem one_more {B A l : Ln} (h : oneLn A l = true) (hn : numOk l = true) (h2 : oneLn B (joinL A l) = true) : oneLn B A = true := by
  cases A <;> cases l <;> first | (cases h; done) | skip
  all_goals cases B <;> first | (cases h2; done) | skip
  · have h2 := of_decide_eq_true h2
    rw [List.length_append] at h2
    exact decide_eq_true (by omega)
  · have h2 := of_decide_eq_true h2
    rw [List.length_append] at h2
    exact decide_eq_true (by omega)
  · have h2 := of_decide_eq_true h2
    rw [List.length_append] at h2
    exact decide_eq_true (by omega)
  · exact h2
  · rename_i n a m b x c
    have h2 := of_decide_eq_true h2
    have hn : (decide (0 ≤ m) && decide (m ≤ 9999)) = true := hn
    rw [Bool.and_eq_true, decide_eq_true_eq, decide_eq_true_eq] at hn
    exact decide_eq_true (by omega)
theorem one_num {A l : Ln} (h : oneLn A l = true) (ha : numOk A = true) (hl : numOk l = true) : numOk (joinL A l) = true := by
  have ts : ∀ {xs ys : List Tst}, testsCan xs = true → testsCan ys = true → (xs.length : Int) + ys.length ≤ 64 → testsCan (xs ++ ys) = true := fun {xs ys} h1 h2 h3 => by
    unfold testsCan at *
    rw [Bool.and_eq_true, Bool.and_eq_true, decide_eq_true_eq, decide_eq_true_eq] at *
    rw [List.length_append, List.all_append, h1.2, h2.2]
    exact ⟨⟨by omega, by omega⟩, rfl⟩
  cases A <;> cases l <;> first | (cases h; done) | skip
  · have h := of_decide_eq_true h
    have h1 : deedsCan _ = true := ha
    have h2 : deedsCan _ = true := hl
    show deedsCan _ = true
    unfold deedsCan at *
    rw [Bool.and_eq_true, Bool.and_eq_true, decide_eq_true_eq, decide_eq_true_eq] at *
    rw [List.length_append, List.all_append, h1.2, h2.2]
    exact ⟨⟨by omega, by omega⟩, rfl⟩
  · exact ts ha hl (of_decide_eq_true h)
  · exact ts ha hl (of_decide_eq_true h)
  · rename_i n a m b
    have ha : (decide (0 ≤ n) && decide (n ≤ 9999)) = true := ha
    have hl : (decide (0 ≤ m) && decide (m ≤ 9999)) = true := hl
    show (decide (0 ≤ min n m) && decide (min n m ≤ 9999)) = true
    rw [Bool.and_eq_true, decide_eq_true_eq, decide_eq_true_eq] at *
    omega
  · rename_i n a m b
    have h := of_decide_eq_true h
    have ha : (decide (0 ≤ n) && decide (n ≤ 9999)) = true := ha
    have hl : (decide (0 ≤ m) && decide (m ≤ 9999)) = true := hl
    show (decide (0 ≤ n + m) && decide (n + m ≤ 9999)) = true
    rw [Bool.and_eq_true, decide_eq_true_eq, decide_eq_true_eq] at *
    omega
theorem kindAll_app : ∀ {ds es : List Deed} {k : Kd}, kindAll (ds ++ es) k = (kindAll ds k).bind (kindAll es)
  | [], es, k => rfl
  | d :: ds, es, k => by
    show (kindD d k).bind (kindAll (ds ++ es)) = ((kindD d k).bind (kindAll ds)).bind _
    cases kindD d k with
    | none => rfl
    | some z => exact kindAll_app
theorem kind_one {A : Ln} {ks : List Kd} {b : Int} {k : Kd} (e : A.names = [b]) (h : kindL A ks = some k) : ∃ j, namedK ks [b] = some [j] ∧ kindN A [j] = some k := by
  obtain ⟨kn, h1, h2⟩ := kindL_some h
  rw [e] at h1
  obtain ⟨l, f⟩ := namedK_at h1
  match kn, l with
  | [j], _ => exact ⟨j, h1, h2⟩
theorem one_kind {A l : Ln} {ks : List Kd} {a : Int} {k k' : Kd} (h : oneLn A l = true) (e : l.names = [a]) (hak : ks[a.toNat]? = some k) (ha : kindL A ks = some k) (hl : kindL l ks = some k') (ma : midOk A ks) (ml : midOk l ks) :
    kindL (joinL A l) ks = some k' ∧ midOk (joinL A l) ks := by
  obtain ⟨a', b, e1, e2, e3, _⟩ := one_names h
  rw [e] at e1
  cases e1
  obtain ⟨j, hj, kj⟩ := kind_one e2 ha
  have hlk : kindN l [k] = some k' := by
    have := hl
    rw [kindL_one e hak] at this
    exact this
  have gk : kindL (joinL A l) ks = kindN (joinL A l) [j] := by
    unfold kindL
    rw [e3, hj]
    rfl
  rw [gk]
  cases A with
  | map ds y =>
    cases l with
    | map es x =>
      have e4 : b = y := by cases e2; rfl
      have kj : kindAll ds j = some k := kj
      have hlk : kindAll es k = some k' := hlk
      refine ⟨?_, ?_⟩
      · show kindAll (ds ++ es) j = some k'
        rw [kindAll_app, kj]
        exact hlk
      · intro ds2 a2 k2 e5 e6 i k1 h1
        have e5 : Ln.map (ds ++ es) y = Ln.map ds2 a2 := e5
        cases e5
        have e6 : namedK ks [y] = some [k2] := e6
        rw [← e4, hj] at e6
        cases e6
        rw [List.take_append] at h1
        rw [kindAll_app] at h1
        by_cases c : i ≤ ds.length
        · rw [show i - ds.length = 0 by omega, List.take_zero] at h1
          have h1 : (kindAll (ds.take i) j).bind (kindAll []) = some k1 := h1
          cases q : kindAll (ds.take i) j with
          | none => rw [q] at h1; cases h1
          | some z =>
            rw [q] at h1
            have h1 : some z = some k1 := h1
            cases h1
            exact ma ds y j rfl (by show namedK ks [y] = _; rw [← e4]; exact hj) i k1 q
        · rw [List.take_of_length_le (by omega), kj] at h1
          exact ml es x k rfl (by rw [e]; exact named_one hak) (i - ds.length) k1 h1
    | _ => cases h
  | keep ds y =>
    cases l with
    | keep es x =>
      refine ⟨?_, fun _ _ _ z => by cases z⟩
      have kj : (if j = .num then some Kd.num else none) = some k := kj
      have hlk : (if k = .num then some Kd.num else none) = some k' := hlk
      show (if j = .num then some Kd.num else none) = some k'
      split at hlk
      · cases hlk; rw [kj]; congr
      · cases hlk
    | _ => cases h
  | whil ds y =>
    cases l with
    | whil es x =>
      refine ⟨?_, fun _ _ _ z => by cases z⟩
      have kj : (if j = .num then some Kd.num else none) = some k := kj
      have hlk : (if k = .num then some Kd.num else none) = some k' := hlk
      show (if j = .num then some Kd.num else none) = some k'
      split at hlk
      · cases hlk; rw [kj]; congr
      · cases hlk
    | _ => cases h
  | take ds y =>
    cases l with
    | take es x =>
      refine ⟨?_, fun _ _ _ z => by cases z⟩
      have kj : some j = some k := kj
      cases kj
      exact hlk
    | _ => cases h
  | skip ds y =>
    cases l with
    | skip es x =>
      refine ⟨?_, fun _ _ _ z => by cases z⟩
      have kj : some j = some k := kj
      cases kj
      exact hlk
    | _ => cases h
  | _ => cases l <;> cases h
theorem namedK_take {ks : List Kd} {n : Nat} : ∀ {names : List Int}, (∀ a ∈ names, a.toNat < n) → namedK (ks.take n) names = namedK ks names
  | [], _ => rfl
  | a :: r, h => by
    show ((ks.take n)[a.toNat]?).bind _ = (ks[a.toNat]?).bind _
    rw [List.getElem?_take_of_lt (h a List.mem_cons_self), namedK_take fun b hb => h b (List.mem_cons_of_mem _ hb)]
theorem GoodW.full {many : Int} {ls : List Ln} {ks : List Kd} (w : GoodW many ls ks) {i : Nat} {l : Ln} (h : ls[i]? = some l) : ∃ k, ks[i]? = some k ∧ numOk l = true ∧ kindL l ks = some k ∧ midOk l ks ∧ k.dp ≤ 8 ∧ ∀ a ∈ l.names, 0 ≤ a ∧ a < (i : Int) := by
  obtain ⟨k, h1, h2, h3, h4, h5, h6⟩ := w.at h
  have nm := place_names h2
  have e : namedK (ks.take i) l.names = namedK ks l.names := namedK_take fun a ha => by have := nm a ha; omega
  refine ⟨k, h1, h3, ?_, ?_, h5, nm⟩
  · unfold kindL at *
    rw [← e]
    exact h4
  · intro ds a k2 q1 q2
    rw [← e] at q2
    exact h6 ds a k2 q1 q2
theorem nsum_cons {l : Ln} {ls : List Ln} {b : Int} : nsum (l :: ls) b = (l.names.count b : Int) + nsum ls b := by
  unfold nsum
  rw [List.map_cons, List.sum_cons]
  omega
theorem nsum_one {l : Ln} {b : Int} : nsum [l] b = (l.names.count b : Int) := by
  rw [nsum_cons]
  show _ + (0 : Int) = _
  omega
theorem nsum_nonneg {ls : List Ln} {b : Int} : 0 ≤ nsum ls b := by
  unfold nsum
  omega
theorem nsum_mem {ls : List Ln} {l : Ln} {b : Int} (h : l ∈ ls) (hb : b ∈ l.names) : 1 ≤ nsum ls b := by
  obtain ⟨x, y, rfl⟩ := List.append_of_mem h
  have h1 := nsum_nonneg (ls := x) (b := b)
  have h2 := nsum_nonneg (ls := y) (b := b)
  have h3 := List.count_pos_iff.mpr hb
  rw [nsum_app, nsum_cons]
  omega
/-- one that stands taken out -/
theorem nsum_out {st : List (Nat × Ln)} (srt : (st.map (·.1)).Pairwise (· < ·)) {a : Nat} {A : Ln} (h : (a, A) ∈ st) (b : Int) :
    nsum (st.map (·.2)) b = (A.names.count b : Int) + nsum ((st.filter fun p => !decide (p.1 = a)).map (·.2)) b := by
  induction st with
  | nil => cases h
  | cons p st ih =>
    rw [List.map_cons, List.pairwise_cons] at srt
    rcases List.mem_cons.mp h with rfl | h
    · rw [List.filter_cons_of_neg (by simp), List.map_cons, nsum_cons]
      have : st.filter (fun p => !decide (p.1 = a)) = st := List.filter_eq_self.mpr fun q hq => by
        have := srt.1 q.1 (List.mem_map.mpr ⟨q, hq, rfl⟩)
        simp
        omega
      rw [this]
    · have := srt.1 a (List.mem_map.mpr ⟨_, h, rfl⟩)
      rw [List.filter_cons_of_pos (by simp; omega), List.map_cons, List.map_cons, nsum_cons, nsum_cons, ih srt.2 h]
      omega
theorem SInv.key {ls : List Ln} {ks : List Kd} {outs u : List Int} {n : Nat} {st : List (Nat × Ln)} (I : SInv ls ks outs u n st) (hn : n ≤ ls.length) {p : Nat × Ln} (hp : p ∈ st) {a : Int} (ha : a ∈ p.2.names) : a.toNat ∈ st.map (·.1) := by
  have h1 := I.nm p hp a ha
  have h2 := I.lt p hp
  have h3 := I.cnt a.toNat (by omega)
  have h4 : 1 ≤ nsum (st.map (·.2)) (a.toNat : Int) := nsum_mem (List.mem_map.mpr ⟨p, hp, rfl⟩) (by rw [Int.toNat_of_nonneg h1.1]; exact ha)
  have h5 := sm_nonneg (f := wt ls u a.toNat) (n := n) (k := ls.length - n) fun i _ => wt_nonneg
  rcases Classical.em (a.toNat ∈ st.map (·.1)) with c | c
  · exact c
  · rw [if_neg (by rintro (z | z); exact c z; omega)] at h3
    omega
theorem sm_step {f : Nat → Int} {n m : Nat} (h : n < m) : sm f n (m - n) = f n + sm f (n + 1) (m - (n + 1)) := by
  rw [show m - n = (m - (n + 1)) + 1 by omega]
  rfl
theorem joinW_names {l : Ln} (h : joinW l = true) : ∃ a, l.names = [a] := by
  cases l <;> first | exact ⟨_, rfl⟩ | cases h
theorem inner_of {l : Ln} {a : Int} (h : l.names = [a]) : innerOf l = a.toNat := by
  unfold innerOf
  rw [h]
  rfl
theorem valP_app {st : List (Nat × Ln)} {n a : Nat} {l A : Ln} (h : valP (st ++ [(n, l)]) a = some A) (ne : a ≠ n) : valP st a = some A := by
  unfold valP at *
  rw [List.find?_append] at h
  cases q : st.find? fun p => decide (p.1 = a) with
  | none =>
    rw [q, List.find?_cons_of_neg (by simp; exact fun z => ne z.symm)] at h
    cases h
  | some p => rw [q] at h; exact h
theorem valP_filter {st : List (Nat × Ln)} {a c : Nat} {A : Ln} (h : valP (st.filter fun p => !decide (p.1 = c)) a = some A) (srt : (st.map (·.1)).Pairwise (· < ·)) : valP st a = some A ∧ a ≠ c := by
  have := valP_some h
  obtain ⟨h1, h2⟩ := List.mem_filter.mp this
  refine ⟨valP_of srt h1, ?_⟩
  intro z
  simp [z] at h2
theorem ifc {p q : Prop} [Decidable p] [Decidable q] {x y : Int} (h : p ↔ q) : (if p then x else y) = (if q then x else y) := by
  by_cases c : p
  · rw [if_pos c, if_pos (h.mp c)]
  · rw [if_neg c, if_neg fun z => c (h.mpr z)]
theorem SInv.step {many : Int} {ls : List Ln} {ks : List Kd} {outs u : List Int} {n : Nat} {st : List (Nat × Ln)} {l : Ln} (I : SInv ls ks outs u n st) (w : GoodW many ls ks) (hl : ls[n]? = some l) (hu : ∀ b, b < ls.length → 0 ≤ u.getD b 0) : SInv ls ks outs u (n + 1) (stepS u st n l) := by
  have hn := (List.getElem?_eq_some_iff.mp hl).1
  obtain ⟨k, hk, hno, hkl, hmid, hdp, nm⟩ := w.full hl
  have hnk : n ∉ st.map (·.1) := fun h => by
    obtain ⟨p, hp, e⟩ := List.mem_map.mp h
    have := I.lt p hp
    omega
  unfold stepS
  by_cases c0 : u.getD n 0 = 0
  · rw [if_pos c0]
    refine ⟨I.srt, fun p hp => Nat.lt_succ_of_lt (I.lt p hp), Nat.le_succ_of_le I.len, I.pos, I.num, I.kind, I.nm, I.src, fun b hb => ?_, I.loose⟩
    have h := I.cnt b hb
    rw [sm_step hn, show wt ls u b n = 0 by unfold wt; rw [if_neg (by omega)]] at h
    have e : (if b ∈ st.map (·.1) ∨ n + 1 ≤ b then u.getD b 0 else 0) = (if b ∈ st.map (·.1) ∨ n ≤ b then u.getD b 0 else 0) := by
      by_cases e : b = n
      · subst e
        rw [if_neg (by rintro (z | z); exact hnk z; omega), if_pos (.inr (Nat.le_refl _))]
        exact c0.symm
      · exact ifc ⟨fun z => z.elim .inl fun z => .inr (by omega), fun z => z.elim .inl fun z => .inr (by omega)⟩
    rw [e, ← h]
    omega
  rw [if_neg c0]
  have up : 0 < u.getD n 0 := by have := hu n hn; omega
  have wn : ∀ b, wt ls u b n = (l.names.count (b : Int) : Int) := fun b => by unfold wt; rw [if_pos up, getD_at hl]
  have plain : (joinW l = true → ∀ A, valP st (innerOf l) = some A → u.getD (innerOf l) 0 = 1 → oneLn A l = false) → SInv ls ks outs u (n + 1) (st ++ [(n, l)]) := fun hloose => by
    have sp : ∀ {Pr : Nat × Ln → Prop}, (∀ p ∈ st, Pr p) → Pr (n, l) → ∀ p ∈ st ++ [(n, l)], Pr p := fun h1 h2 p hp => by
      rcases List.mem_append.mp hp with hp | hp
      · exact h1 p hp
      · rw [List.mem_singleton.mp hp]; exact h2
    refine ⟨?_, sp (fun p hp => Nat.lt_succ_of_lt (I.lt p hp)) (Nat.lt_succ_self _), ?_, sp I.pos up, sp I.num hno, sp I.kind ⟨k, hk, hkl, hmid⟩, sp I.nm nm, sp I.src ⟨l, hl, rfl⟩, fun b hb => ?_, ?_⟩
    · rw [List.map_append, List.pairwise_append]
      refine ⟨I.srt, List.pairwise_singleton _ _, fun a ha b hb => ?_⟩
      obtain ⟨p, hp, rfl⟩ := List.mem_map.mp ha
      rw [List.mem_singleton.mp hb]
      exact I.lt p hp
    · rw [List.length_append]; exact Nat.succ_le_succ I.len
    · have h := I.cnt b hb
      rw [sm_step hn, wn] at h
      rw [List.map_append, nsum_app, show nsum ([(n, l)].map (·.2)) (b : Int) = (l.names.count (b : Int) : Int) from nsum_one]
      have e : (if b ∈ (st ++ [(n, l)]).map (·.1) ∨ n + 1 ≤ b then u.getD b 0 else 0) = (if b ∈ st.map (·.1) ∨ n ≤ b then u.getD b 0 else 0) := by
        have : (b ∈ (st ++ [(n, l)]).map (·.1) ∨ n + 1 ≤ b) ↔ (b ∈ st.map (·.1) ∨ n ≤ b) := by
          rw [List.map_append, List.mem_append]
          show ((b ∈ st.map (·.1) ∨ b ∈ [n]) ∨ n + 1 ≤ b) ↔ _
          rw [List.mem_singleton]
          constructor
          · rintro ((z | z) | z)
            · exact .inl z
            · exact .inr (by omega)
            · exact .inr (by omega)
          · rintro (z | z)
            · exact .inl (.inl z)
            · by_cases y : b = n
              · exact .inl (.inr y)
              · exact .inr (by omega)
        exact ifc this
      rw [e, ← h]
      omega
    · refine sp (fun p hp hj A hA hu1 => ?_) (fun hj A hA hu1 => ?_)
      · obtain ⟨a, ea⟩ := joinW_names hj
        have := I.nm p hp a (by rw [ea]; exact List.mem_cons_self)
        have := I.lt p hp
        exact I.loose p hp hj A (valP_app hA (by rw [inner_of ea]; omega)) hu1
      · obtain ⟨a, ea⟩ := joinW_names hj
        have := nm a (by rw [ea]; exact List.mem_cons_self)
        exact hloose hj A (valP_app hA (by show innerOf l ≠ n; rw [inner_of ea]; omega)) hu1
  cases q : valP st (innerOf l) with
  | none => exact plain fun _ A hA => by rw [q] at hA; cases hA
  | some A =>
    dsimp only
    by_cases c : joinW l = true ∧ u.getD (innerOf l) 0 = 1 ∧ oneLn A l = true
    · rw [if_pos c]
      obtain ⟨cj, cu, co⟩ := c
      obtain ⟨a, b0, e1, e2, e3, eA, sA, sl, sJ⟩ := one_names co
      have ei := inner_of e1
      rw [ei] at q cu ⊢
      have hA := valP_some q
      have na := nm a (by rw [e1]; exact List.mem_cons_self)
      have nA := I.nm _ hA b0 (by rw [e2]; exact List.mem_cons_self)
      have ka : a.toNat ∈ st.map (·.1) := List.mem_map.mpr ⟨_, hA, rfl⟩
      obtain ⟨kA, hkA, hkA2, hmA⟩ := I.kind _ hA
      obtain ⟨kJ, mJ⟩ := one_kind co e1 hkA hkA2 hkl hmA hmid
      have fm : ∀ {p}, p ∈ st.filter (fun p => !decide (p.1 = a.toNat)) → p ∈ st ∧ p.1 ≠ a.toNat := fun {p} h => by
        obtain ⟨h1, h2⟩ := List.mem_filter.mp h
        exact ⟨h1, by simpa using h2⟩
      have sp : ∀ {Pr : Nat × Ln → Prop}, (∀ p ∈ st, p.1 ≠ a.toNat → Pr p) → Pr (n, joinL A l) → ∀ p ∈ (st.filter fun p => !decide (p.1 = a.toNat)) ++ [(n, joinL A l)], Pr p := fun h1 h2 p hp => by
        rcases List.mem_append.mp hp with hp | hp
        · exact h1 p (fm hp).1 (fm hp).2
        · rw [List.mem_singleton.mp hp]; exact h2
      have subl : ((st.filter fun p => !decide (p.1 = a.toNat)).map (·.1)).Sublist (st.map (·.1)) := List.Sublist.map _ List.filter_sublist
      have keyf : ∀ b, b ∈ (st.filter fun p => !decide (p.1 = a.toNat)).map (·.1) ↔ (b ∈ st.map (·.1) ∧ b ≠ a.toNat) := fun b => by
        constructor
        · intro h
          obtain ⟨p, hp, rfl⟩ := List.mem_map.mp h
          exact ⟨List.mem_map.mpr ⟨p, (fm hp).1, rfl⟩, (fm hp).2⟩
        · rintro ⟨h, ne⟩
          obtain ⟨p, hp, rfl⟩ := List.mem_map.mp h
          exact List.mem_map.mpr ⟨p, List.mem_filter.mpr ⟨hp, by simpa using ne⟩, rfl⟩
      refine ⟨?_, sp (fun p hp _ => Nat.lt_succ_of_lt (I.lt p hp)) (Nat.lt_succ_self _), ?_, sp (fun p hp _ => I.pos p hp) up, sp (fun p hp _ => I.num p hp) (one_num co (I.num _ hA) hno), sp (fun p hp _ => I.kind p hp) ⟨k, hk, kJ, mJ⟩,
        sp (fun p hp _ => I.nm p hp) (fun x hx => ?_), sp (fun p hp _ => I.src p hp) ⟨l, hl, by rw [sJ, sl]⟩, fun b hb => ?_, sp (fun p hp ne hj B hB hu1 => ?_) (fun hj B hB hu1 => ?_)⟩
      · rw [List.map_append, List.pairwise_append]
        refine ⟨List.Pairwise.sublist subl I.srt, List.pairwise_singleton _ _, fun a2 ha b hb => ?_⟩
        obtain ⟨p, hp, rfl⟩ := List.mem_map.mp (subl.subset ha)
        rw [List.mem_singleton.mp hb]
        exact I.lt p hp
      · rw [List.length_append]
        have := List.length_filter_le (fun p => !decide (p.1 = a.toNat)) st
        have := I.len
        show _ + 1 ≤ _
        omega
      · have hx : x ∈ (joinL A l).names := hx
        rw [e3] at hx
        have := List.mem_singleton.mp hx
        subst this
        have : x < (a.toNat : Int) := nA.2
        exact ⟨nA.1, by show x < (n : Int); omega⟩
      · have h := I.cnt b hb
        rw [sm_step hn, wn, nsum_out I.srt hA, e1, e2] at h
        rw [List.map_append, nsum_app, show nsum ([(n, joinL A l)].map (·.2)) (b : Int) = ((joinL A l).names.count (b : Int) : Int) from nsum_one, e3]
        have e : ([a].count (b : Int) : Int) + (if b ∈ ((st.filter fun p => !decide (p.1 = a.toNat)) ++ [(n, joinL A l)]).map (·.1) ∨ n + 1 ≤ b then u.getD b 0 else 0) = (if b ∈ st.map (·.1) ∨ n ≤ b then u.getD b 0 else 0) := by
          have iff : (b ∈ ((st.filter fun p => !decide (p.1 = a.toNat)) ++ [(n, joinL A l)]).map (·.1) ∨ n + 1 ≤ b) ↔ ((b ∈ st.map (·.1) ∨ n ≤ b) ∧ b ≠ a.toNat) := by
            rw [List.map_append, List.mem_append, keyf]
            show ((_ ∨ b ∈ [n]) ∨ n + 1 ≤ b) ↔ _
            rw [List.mem_singleton]
            constructor
            · rintro ((⟨h1, h2⟩ | h1) | h1)
              · exact ⟨.inl h1, h2⟩
              · exact ⟨.inr (by omega), by omega⟩
              · exact ⟨.inr (by omega), by omega⟩
            · rintro ⟨h1 | h1, h2⟩
              · exact .inl (.inl ⟨h1, h2⟩)
              · by_cases z : b = n
                · exact .inl (.inr z)
                · exact .inr (by omega)
          by_cases z : b = a.toNat
          · subst z
            rw [if_neg (fun h => (iff.mp h).2 rfl), if_pos (.inl ka), cu, Int.toNat_of_nonneg na.1]
            simp
          · have z0 : [a].count (b : Int) = 0 := by
              rw [List.count_eq_zero, List.mem_singleton]
              omega
            rw [z0]
            have : (if b ∈ ((st.filter fun p => !decide (p.1 = a.toNat)) ++ [(n, joinL A l)]).map (·.1) ∨ n + 1 ≤ b then u.getD b 0 else 0) = (if b ∈ st.map (·.1) ∨ n ≤ b then u.getD b 0 else 0) := ifc (iff.trans ⟨fun h => h.1, fun h => ⟨h, z⟩⟩)
            rw [this]
            omega
        generalize (if b ∈ ((st.filter fun p => !decide (p.1 = a.toNat)) ++ [(n, joinL A l)]).map (·.1) ∨ n + 1 ≤ b then u.getD b 0 else 0) = g at e ⊢
        rw [← h] at e
        omega
      · obtain ⟨x, ex⟩ := joinW_names hj
        have := I.nm p hp x (by rw [ex]; exact List.mem_cons_self)
        have := I.lt p hp
        have hB := valP_app hB (by rw [inner_of ex]; omega)
        exact I.loose p hp hj B (valP_filter hB I.srt).1 hu1
      · have ej := inner_of e3
        have eA2 := inner_of e2
        rw [ej] at hB hu1
        have hB := valP_app hB (by omega)
        have hB := (valP_filter hB I.srt).1
        cases o : oneLn B (joinL A l) with
        | false => rfl
        | true =>
          have h1 := one_more co hno o
          have h2 := I.loose _ hA eA B (by rw [eA2]; exact hB) (by rw [eA2]; exact hu1)
          rw [h1] at h2
          cases h2
    · rw [if_neg c]
      refine plain fun hj B hB hu1 => ?_
      rw [q] at hB
      cases hB
      cases o : oneLn A l with
      | false => rfl
      | true => exact absurd ⟨hj, hu1, o⟩ c
theorem SInv.steps {many : Int} {ls : List Ln} {ks : List Kd} {outs u : List Int} (w : GoodW many ls ks) (hu : ∀ b, b < ls.length → 0 ≤ u.getD b 0) : ∀ {k n : Nat} {st : List (Nat × Ln)}, n + k = ls.length → SInv ls ks outs u n st → SInv ls ks outs u ls.length (stepsS u n (ls.drop n) st)
  | 0, n, st, e, I => by
    have : n = ls.length := by omega
    subst this
    rw [List.drop_length]
    exact I
  | k + 1, n, st, e, I => by
    have hl : ls[n]? = some ls[n] := List.getElem?_eq_getElem (by omega)
    rw [drop_at hl]
    exact SInv.steps w hu (k := k) (by omega) (I.step w hl hu)
theorem users_nonneg {ls : List Ln} {outs : List Int} (old : ∀ (i : Nat) l a, ls[i]? = some l → a ∈ l.names → 0 ≤ a ∧ a < (i : Int)) {b : Nat} (hb : b < ls.length) : 0 ≤ (usersL ls outs).getD b 0 := by
  rw [usersL_at old hb]
  have := sm_nonneg (f := wt ls (usersL ls outs) b) (n := 0) (k := ls.length) fun i _ => wt_nonneg
  omega
theorem SInv.start {ls : List Ln} {ks : List Kd} {outs : List Int} (old : ∀ (i : Nat) l a, ls[i]? = some l → a ∈ l.names → 0 ≤ a ∧ a < (i : Int)) : SInv ls ks outs (usersL ls outs) 0 [] := by
  refine ⟨List.Pairwise.nil, (fun _ h => nomatch h), Nat.le_refl _, (fun _ h => nomatch h), (fun _ h => nomatch h), (fun _ h => nomatch h), (fun _ h => nomatch h), (fun _ h => nomatch h), fun b hb => ?_, (fun _ h => nomatch h)⟩
  rw [if_pos (.inr (Nat.zero_le _)), usersL_at old hb]
  show _ + (0 : Int) + _ = _
  rw [Nat.sub_zero]
  omega
/-- renumbered -/
def Ln.ren (f : Int → Int) : Ln → Ln
  | .source k => .source k
  | .map ds a => .map ds (f a)
  | .keep ts a => .keep ts (f a)
  | .whil ts a => .whil ts (f a)
  | .take n a => .take n (f a)
  | .skip n a => .skip n (f a)
  | .group n a => .group n (f a)
  | .window n a => .window n (f a)
  | .fold w n a => .fold w n (f a)
  | .chain a b => .chain (f a) (f b)
  | .pair a b => .pair (f a) (f b)
  | .merge a b => .merge (f a) (f b)
theorem Ln.ren_names {f : Int → Int} {l : Ln} : (l.ren f).names = l.names.map f := by cases l <;> rfl
theorem Ln.ren_num {f : Int → Int} {l : Ln} : numOk (l.ren f) = numOk l := by cases l <;> rfl
theorem Ln.ren_src {f : Int → Int} {l : Ln} : (l.ren f).src = l.src := by cases l <;> rfl
theorem Ln.ren_join {f : Int → Int} {l : Ln} : joinW (l.ren f) = joinW l := by cases l <;> rfl
theorem Ln.ren_one {f : Int → Int} {a l : Ln} : oneLn (a.ren f) (l.ren f) = oneLn a l := by cases a <;> cases l <;> rfl
theorem Ln.ren_kind {f : Int → Int} {l : Ln} {kn : List Kd} : kindN (l.ren f) kn = kindN l kn := by
  cases l <;> first
  | rfl
  | (match kn with
     | [] => rfl
     | [_] => rfl
     | [_, _] => rfl
     | _ :: _ :: _ :: _ => rfl)
def keysS (st : List (Nat × Ln)) : List Nat := st.map (·.1)
/-- the new number -/
def ixS (st : List (Nat × Ln)) (a : Int) : Int := ((keysS st).idxOf a.toNat : Nat)
def finS (u : List Int) (ls : List Ln) : List (Nat × Ln) := stepsS u 0 ls []
def weaveS (st : List (Nat × Ln)) : List Ln := st.map fun p => p.2.ren (ixS st)
def outsS (st : List (Nat × Ln)) (outs : List Int) : List Int := outs.map (ixS st)
def kindsS (st : List (Nat × Ln)) (ks : List Kd) : List Kd := st.map fun p => ks.getD p.1 .num
theorem map_at {α β : Type} {f : α → β} {l : List α} {i : Nat} {y : β} (h : (l.map f)[i]? = some y) : ∃ x, l[i]? = some x ∧ f x = y := by
  rw [List.getElem?_map] at h
  exact Option.map_eq_some_iff.mp h
/-- what is made straight can be, tells the same kinds, is straight -/
structure Strait (many : Int) (ls : List Ln) (ks : List Kd) (outs : List Int) (st : List (Nat × Ln)) : Prop where
  good : GoodW many (weaveS st) (kindsS st ks)
  len : st.length ≤ ls.length
  sb : straightB (weaveS st) (outsS st outs) = true
  out : ∀ o ∈ outs, 0 ≤ ixS st o ∧ ixS st o < (st.length : Int) ∧ (kindsS st ks).getD (ixS st o).toNat .num = ks.getD o.toNat .num
  key : ∀ o ∈ outs, o.toNat ∈ keysS st
  names : ∀ p ∈ st, ∀ a ∈ p.2.names, 0 ≤ a ∧ a.toNat ∈ keysS st
  lt : ∀ p ∈ st, p.1 < ls.length
  num : ∀ p ∈ st, numOk p.2 = true
  srt : (st.map (·.1)).Pairwise (· < ·)
theorem strait_of {many : Int} {ls : List Ln} {ks : List Kd} {outs : List Int} (w : GoodW many ls ks) (ho : ∀ o ∈ outs, 0 ≤ o ∧ o < (ls.length : Int)) : Strait many ls ks outs (finS (usersL ls outs) ls) := by
  have old : ∀ (i : Nat) l a, ls[i]? = some l → a ∈ l.names → 0 ≤ a ∧ a < (i : Int) := fun i l a h ha => by
    obtain ⟨_, _, _, _, _, _, nm⟩ := w.full h
    exact nm a ha
  have hu : ∀ b, b < ls.length → 0 ≤ (usersL ls outs).getD b 0 := fun b hb => users_nonneg old hb
  have I : SInv ls ks outs (usersL ls outs) ls.length (finS (usersL ls outs) ls) := by
    have := SInv.steps (outs := outs) w hu (k := ls.length) (n := 0) (st := []) (Nat.zero_add _) (SInv.start old)
    rw [List.drop_zero] at this
    exact this
  generalize usersL ls outs = u at I hu
  generalize finS u ls = st at I
  have lk : (keysS st).length = st.length := List.length_map _
  have srt := List.pairwise_iff_getElem.mp I.srt
  have at_ : ∀ (i : Nat) (p : Nat × Ln), st[i]? = some p → (keysS st)[i]? = some p.1 := fun i p h => by
    show (st.map (·.1))[i]? = _
    rw [List.getElem?_map, h]; rfl
  have cnt : ∀ b, b < ls.length → (outs.count (b : Int) : Int) + nsum (st.map (·.2)) (b : Int) = (if b ∈ keysS st then u.getD b 0 else 0) := fun b hb => by
    have h := I.cnt b hb
    rw [Nat.sub_self] at h
    have h : _ + _ + (0 : Int) = _ := h
    have e : (if b ∈ st.map (·.1) ∨ ls.length ≤ b then u.getD b 0 else 0) = (if b ∈ keysS st then u.getD b 0 else 0) := ifc ⟨fun z => z.elim id (fun z => absurd hb (by omega)), .inl⟩
    rw [e] at h
    omega
  have key : ∀ o ∈ outs, o.toNat ∈ keysS st := fun o ho' => by
    obtain ⟨o1, o2⟩ := ho o ho'
    have h := cnt o.toNat (by omega)
    rcases Classical.em (o.toNat ∈ keysS st) with c | c
    · exact c
    · rw [if_neg c, Int.toNat_of_nonneg o1] at h
      have := List.count_pos_iff.mpr ho'
      have := nsum_nonneg (ls := st.map (·.2)) (b := o)
      omega
  have nkey : ∀ p ∈ st, ∀ a ∈ p.2.names, 0 ≤ a ∧ a.toNat ∈ keysS st := fun p hp a ha => ⟨(I.nm p hp a ha).1, I.key (Nat.le_refl _) hp ha⟩
  have ixl : ∀ {a : Nat}, a ∈ keysS st → (keysS st).idxOf a < st.length := fun {a} h => by rw [← lk]; exact List.idxOf_lt_length_iff.mpr h
  have ixg : ∀ {a : Nat} (h : a ∈ keysS st), (keysS st)[(keysS st).idxOf a]? = some a := fun {a} h => by
    rw [List.getElem?_eq_getElem (by rw [lk]; exact ixl h), List.getElem_idxOf]
  have mono : ∀ {i j : Nat} {a b : Nat}, (keysS st)[i]? = some a → (keysS st)[j]? = some b → a < b → i < j := fun {i j a b} h1 h2 h => by
    obtain ⟨hi, rfl⟩ := List.getElem?_eq_some_iff.mp h1
    obtain ⟨hj, rfl⟩ := List.getElem?_eq_some_iff.mp h2
    rcases Nat.lt_trichotomy i j with c | c | c
    · exact c
    · subst c; exact absurd h (Nat.lt_irrefl _)
    · have := srt j i hj hi c
      have h : (st.map (·.1))[i] < (st.map (·.1))[j] := h
      omega
  have inj : ∀ {a b : Nat}, a ∈ keysS st → b ∈ keysS st → (keysS st).idxOf a = (keysS st).idxOf b → a = b := fun {a b} h1 h2 e => by
    have g1 := ixg h1
    rw [e, ixg h2] at g1
    exact (Option.some.inj g1).symm
  have ixk : ∀ (i : Nat) (p : Nat × Ln), st[i]? = some p → (keysS st).idxOf p.1 = i := fun i p h => by
    have h1 := at_ i p h
    have hm : p.1 ∈ keysS st := List.mem_of_getElem? h1
    have h2 := ixg hm
    rcases Nat.lt_trichotomy ((keysS st).idxOf p.1) i with c | c | c
    · obtain ⟨hi, e1⟩ := List.getElem?_eq_some_iff.mp h1
      obtain ⟨hj, e2⟩ := List.getElem?_eq_some_iff.mp h2
      have h : (st.map (·.1))[(keysS st).idxOf p.1] < (st.map (·.1))[i] := srt _ _ hj hi c
      have e1 : (st.map (·.1))[i] = p.1 := e1
      have e2 : (st.map (·.1))[(keysS st).idxOf p.1] = p.1 := e2
      omega
    · exact c
    · obtain ⟨hi, e1⟩ := List.getElem?_eq_some_iff.mp h1
      obtain ⟨hj, e2⟩ := List.getElem?_eq_some_iff.mp h2
      have h : (st.map (·.1))[i] < (st.map (·.1))[(keysS st).idxOf p.1] := srt _ _ hi hj c
      have e1 : (st.map (·.1))[i] = p.1 := e1
      have e2 : (st.map (·.1))[(keysS st).idxOf p.1] = p.1 := e2
      omega
  have valK : ∀ {a : Nat}, a ∈ keysS st → ∃ A, valP st a = some A ∧ st[(keysS st).idxOf a]? = some (a, A) := fun {a} h => by
    obtain ⟨p, hp, e⟩ := List.mem_map.mp h
    obtain ⟨i, hi⟩ := List.mem_iff_getElem?.mp hp
    have e2 := ixk i p hi
    subst e
    refine ⟨p.2, valP_of I.srt hp, ?_⟩
    rw [e2]
    exact hi
  have kk : ∀ {a : Nat}, a ∈ keysS st → (kindsS st ks)[(keysS st).idxOf a]? = some (ks.getD a .num) := fun {a} h => by
    obtain ⟨A, _, hA⟩ := valK h
    show (st.map fun p => ks.getD p.1 .num)[_]? = _
    rw [List.getElem?_map, hA]
    rfl
  have lw : (weaveS st).length = st.length := List.length_map _
  have lks : (kindsS st ks).length = st.length := List.length_map _
  have good : ∀ n, n ≤ st.length → GoodW many ((weaveS st).take n) ((kindsS st ks).take n) := by
    intro n
    induction n with
    | zero => intro _; exact .nil
    | succ n ih =>
      intro hn
      have w0 := ih (by omega)
      have hs : st[n]? = some st[n] := List.getElem?_eq_getElem (by omega)
      generalize st[n] = p at hs
      have hp := List.mem_of_getElem? hs
      have hw : (weaveS st)[n]? = some (p.2.ren (ixS st)) := by show (st.map _)[n]? = _; rw [List.getElem?_map, hs]; rfl
      have hk : (kindsS st ks)[n]? = some (ks.getD p.1 .num) := by show (st.map _)[n]? = _; rw [List.getElem?_map, hs]; rfl
      obtain ⟨k, k1, k2, k3⟩ := I.kind p hp
      have ek : ks.getD p.1 .num = k := by rw [List.getD_eq_getElem?_getD, k1]; rfl
      rw [take_succ hw, take_succ hk, ek]
      have hix : ∀ a ∈ p.2.names, a.toNat ∈ keysS st ∧ (keysS st).idxOf a.toNat < n := fun a ha => by
        obtain ⟨a0, ak⟩ := nkey p hp a ha
        have := (I.nm p hp a ha).2
        exact ⟨ak, mono (ixg ak) (at_ n p hs) (by omega)⟩
      have nmk : namedK ((kindsS st ks).take n) (p.2.ren (ixS st)).names = namedK ks p.2.names := by
        rw [Ln.ren_names]
        have hall : ∀ a ∈ p.2.names, 0 ≤ a ∧ a < (p.1 : Int) := I.nm p hp
        have lks2 : ks.length = ls.length := w.len.symm
        have plt := I.lt p hp
        generalize p.2.names = ns at hix hall
        clear hw hk w0 ih
        induction ns with
        | nil => rfl
        | cons a r ih =>
          obtain ⟨h1, h2⟩ := hix a List.mem_cons_self
          have ha := hall a List.mem_cons_self
          show (((kindsS st ks).take n)[(ixS st a).toNat]?).bind _ = (ks[a.toNat]?).bind _
          have e1 : (ixS st a).toNat = (keysS st).idxOf a.toNat := rfl
          have e2 : ks[a.toNat]? = some (ks.getD a.toNat .num) := by
            rw [List.getD_eq_getElem?_getD, List.getElem?_eq_getElem (by omega)]; rfl
          rw [e1, List.getElem?_take_of_lt h2, kk h1, e2]
          show (namedK _ (r.map (ixS st))).map _ = _
          rw [ih (fun b hb => hix b (List.mem_cons_of_mem _ hb)) fun b hb => hall b (List.mem_cons_of_mem _ hb)]
          rfl
      refine .snoc w0 ?_ (by rw [Ln.ren_num]; exact I.num p hp) ?_ ?_ ?_
      · rw [List.length_take, Nat.min_eq_left (by omega)]
        cases hsrc : p.2.src with
        | none =>
          have e : placeOk (p.2.ren (ixS st)) (n : Int) many (srcs ((weaveS st).take n)) = (p.2.ren (ixS st)).names.all fun a => decide (0 ≤ a) && decide (a < (n : Int)) := by
            cases q : p.2 with
            | source k => rw [q] at hsrc; cases hsrc
            | _ => rfl
          rw [e, Ln.ren_names, List.all_map, List.all_eq_true]
          intro a ha
          obtain ⟨h1, h2⟩ := hix a ha
          show (decide (0 ≤ ixS st a) && decide (ixS st a < (n : Int))) = true
          rw [decide_eq_true (show 0 ≤ ixS st a from Int.natCast_nonneg _), decide_eq_true (show ixS st a < (n : Int) by show (((keysS st).idxOf a.toNat : Nat) : Int) < _; omega)]
          rfl
        | some c =>
          obtain ⟨l0, hl0, es⟩ := I.src p hp
          rw [hsrc] at es
          have el : l0 = .source c := by cases l0 <;> first | (cases es; rfl) | cases es
          subst el
          obtain ⟨k', _, pl, _⟩ := w.at hl0
          have ep : p.2 = .source c := by
            cases q : p.2 <;> rw [q] at hsrc <;> first | (cases hsrc; rfl) | cases hsrc
          rw [ep]
          have pl : ((decide (0 ≤ c) && decide (c < many)) && !decide (c ∈ srcs (ls.take p.1))) = true := pl
          show ((decide (0 ≤ c) && decide (c < many)) && !decide (c ∈ srcs ((weaveS st).take n))) = true
          rw [Bool.and_eq_true] at pl ⊢
          refine ⟨pl.1, ?_⟩
          have h2 := pl.2
          have : c ∉ srcs ((weaveS st).take n) := fun hm => by
            have hno : c ∉ srcs (ls.take p.1) := by simpa using h2
            unfold srcs at hm
            obtain ⟨x, hx, ex⟩ := List.mem_filterMap.mp hm
            obtain ⟨j, hj⟩ := List.mem_iff_getElem?.mp hx
            have jn : j < n := by
              have := (List.getElem?_eq_some_iff.mp hj).1
              rw [List.length_take] at this
              omega
            rw [List.getElem?_take_of_lt jn] at hj
            obtain ⟨q, hq, rfl⟩ := map_at hj
            rw [Ln.ren_src] at ex
            obtain ⟨l1, hl1, es1⟩ := I.src q (List.mem_of_getElem? hq)
            rw [ex] at es1
            have lt : q.1 < p.1 := by
              obtain ⟨h1, e1⟩ := List.getElem?_eq_some_iff.mp (at_ j q hq)
              obtain ⟨h2, e2⟩ := List.getElem?_eq_some_iff.mp (at_ n p hs)
              have h : (st.map (·.1))[j] < (st.map (·.1))[n] := srt _ _ h1 h2 jn
              have e1 : (st.map (·.1))[j] = q.1 := e1
              have e2 : (st.map (·.1))[n] = p.1 := e2
              omega
            apply hno
            unfold srcs
            refine List.mem_filterMap.mpr ⟨l1, ?_, es1.symm⟩
            exact List.mem_of_getElem? (by rw [List.getElem?_take_of_lt lt]; exact hl1)
          rw [decide_eq_false this]
          rfl
      · unfold kindL at k2 ⊢
        rw [nmk]
        cases q : namedK ks p.2.names with
        | none => rw [q] at k2; cases k2
        | some kn =>
          rw [q] at k2
          show kindN (p.2.ren (ixS st)) kn = some k
          rw [Ln.ren_kind]
          exact k2
      · obtain ⟨l0, hl0, _⟩ := I.src p hp
        obtain ⟨k', hk', _, _, _, d8, _⟩ := w.full hl0
        rw [k1] at hk'
        cases hk'
        exact d8
      · intro ds a k4 e1 e2
        rw [nmk] at e2
        cases q : p.2 with
        | map ds2 a2 =>
          rw [q] at e1
          cases e1
          exact k3 ds a2 k4 q e2
        | _ => rw [q] at e1; cases e1
  have good := good st.length (Nat.le_refl _)
  rw [← lw, List.take_length, lw, ← lks, List.take_length] at good
  have ixe : ∀ {a b : Int}, 0 ≤ a → 0 ≤ b → a.toNat ∈ keysS st → b.toNat ∈ keysS st → (ixS st a = ixS st b ↔ a = b) := fun {a b} a0 b0 h1 h2 => by
    constructor
    · intro h
      have : (keysS st).idxOf a.toNat = (keysS st).idxOf b.toNat := Int.ofNat_inj.mp h
      have := inj h1 h2 this
      omega
    · intro h; rw [h]
  have cmap : ∀ {b : Int} {ns : List Int}, 0 ≤ b → b.toNat ∈ keysS st → (∀ a ∈ ns, 0 ≤ a ∧ a.toNat ∈ keysS st) → (ns.map (ixS st)).count (ixS st b) = ns.count b := fun {b ns} b0 hb h => by
    induction ns with
    | nil => rfl
    | cons a r ih =>
      obtain ⟨a0, ak⟩ := h a List.mem_cons_self
      rw [List.map_cons, List.count_cons, List.count_cons, ih fun x hx => h x (List.mem_cons_of_mem _ hx)]
      congr 1
      by_cases c : a = b
      · rw [c]; simp
      · have : ¬ ixS st a = ixS st b := fun z => c ((ixe a0 b0 ak hb).mp z)
        simp [c, this]
  have uses : ∀ {b : Nat}, b ∈ keysS st → (usesL (weaveS st) (outsS st outs)).getD ((keysS st).idxOf b) 0 = u.getD b 0 := fun {b} hb => by
    have lb : b < ls.length := by
      obtain ⟨p, hp, rfl⟩ := List.mem_map.mp hb
      exact I.lt p hp
    rw [usesL_at (fun l hl a ha => ?_) (by rw [lw]; exact ixl hb)]
    · have h := cnt b lb
      rw [if_pos hb] at h
      rw [← h]
      have e0 : (((keysS st).idxOf b : Nat) : Int) = ixS st (b : Int) := rfl
      rw [e0]
      have e1 : (outsS st outs).count (ixS st (b : Int)) = outs.count (b : Int) := cmap (Int.natCast_nonneg _) hb fun a ha => ⟨(ho a ha).1, key a ha⟩
      have e2 : nsum (weaveS st) (ixS st (b : Int)) = nsum (st.map (·.2)) (b : Int) := by
        unfold nsum weaveS
        rw [List.map_map, List.map_map]
        congr 2
        refine List.map_congr_left fun p hp => ?_
        show (p.2.ren (ixS st)).names.count _ = p.2.names.count _
        rw [Ln.ren_names]
        exact cmap (Int.natCast_nonneg _) hb (nkey p hp)
      rw [e1, e2]
    · obtain ⟨p, hp, rfl⟩ := List.mem_map.mp hl
      rw [Ln.ren_names] at ha
      obtain ⟨x, _, rfl⟩ := List.mem_map.mp ha
      exact Int.natCast_nonneg _
  refine ⟨good, I.len, ?_, fun o ho' => ?_, key, nkey, I.lt, I.num, I.srt⟩
  · unfold straightB
    rw [Bool.and_eq_true]
    refine ⟨List.all_eq_true.mpr fun l hl => ?_, ?_⟩
    · obtain ⟨p, hp, rfl⟩ := List.mem_map.mp hl
      have : looseL (weaveS st) (usesL (weaveS st) (outsS st outs)) (p.2.ren (ixS st)) = false := by
        unfold looseL
        rw [Ln.ren_join]
        cases hj : joinW p.2 with
        | false => rfl
        | true =>
          obtain ⟨a, ea⟩ := joinW_names hj
          have en : (p.2.ren (ixS st)).names = [ixS st a] := by rw [Ln.ren_names, ea]; rfl
          obtain ⟨a0, ak⟩ := nkey p hp a (by rw [ea]; exact List.mem_cons_self)
          obtain ⟨A, vA, hA⟩ := valK ak
          rw [en]
          have e1 : (([ixS st a] : List Int).getD 0 0).toNat = (keysS st).idxOf a.toNat := rfl
          rw [e1, uses ak]
          have e2 : (weaveS st).getD ((keysS st).idxOf a.toNat) (.source 0) = A.ren (ixS st) := getD_at (by show (st.map _)[_]? = _; rw [List.getElem?_map, hA]; rfl)
          rw [e2, Ln.ren_one]
          by_cases c : u.getD a.toNat 0 = 1
          · have := I.loose p hp hj A (by rw [inner_of ea]; exact vA) (by rw [inner_of ea]; exact c)
            rw [this, Bool.and_false, Bool.and_false, Bool.and_false]
          · rw [decide_eq_false c, Bool.false_and, Bool.and_false, Bool.and_false]
      rw [this]
      rfl
    · have : (0 : Int) ∉ usesL (weaveS st) (outsS st outs) := fun hm => by
        obtain ⟨i, hi⟩ := List.mem_iff_getElem?.mp hm
        have li := (List.getElem?_eq_some_iff.mp hi).1
        have ll : (usesL (weaveS st) (outsS st outs)).length = st.length := by
          unfold usesL
          rw [usesL_len, List.length_map, List.length_range, lw]
        have hs : st[i]? = some st[i] := List.getElem?_eq_getElem (by omega)
        generalize st[i] = p at hs
        have hp := List.mem_of_getElem? hs
        have hk : p.1 ∈ keysS st := List.mem_of_getElem? (at_ i p hs)
        have h := uses hk
        rw [ixk i p hs, List.getD_eq_getElem?_getD, hi] at h
        have h : (0 : Int) = u.getD p.1 0 := h
        have := I.pos p hp
        omega
      rw [decide_eq_false this]
      rfl
  · have ok := key o ho'
    refine ⟨Int.natCast_nonneg _, by show (((keysS st).idxOf o.toNat : Nat) : Int) < _; have := ixl ok; omega, ?_⟩
    have e : (ixS st o).toNat = (keysS st).idxOf o.toNat := rfl
    rw [e, List.getD_eq_getElem?_getD, kk ok]
    rfl
theorem SInv.inner {ls : List Ln} {ks : List Kd} {outs u : List Int} {n : Nat} {st : List (Nat × Ln)} {l : Ln} {a : Int} (I : SInv ls ks outs u n st) (hl : ls[n]? = some l) (up : 0 < u.getD n 0) (ha : a ∈ l.names) (a0 : 0 ≤ a) (an : a < (n : Int)) : a.toNat ∈ st.map (·.1) := by
  have hn := (List.getElem?_eq_some_iff.mp hl).1
  have h := I.cnt a.toNat (by omega)
  rw [sm_step hn, show wt ls u a.toNat n = (l.names.count (a.toNat : Int) : Int) by unfold wt; rw [if_pos up, getD_at hl], Int.toNat_of_nonneg a0] at h
  rcases Classical.em (a.toNat ∈ st.map (·.1)) with c | c
  · exact c
  · rw [if_neg (by rintro (z | z); exact c z; omega)] at h
    have h1 := List.count_pos_iff.mpr ha
    have h2 := nsum_nonneg (ls := st.map (·.2)) (b := a)
    have h3 := sm_nonneg (f := wt ls u a.toNat) (n := n + 1) (k := ls.length - (n + 1)) fun i _ => wt_nonneg
    omega
theorem stepS_skip {u : List Int} {st : List (Nat × Ln)} {n : Nat} {l : Ln} (h : u.getD n 0 = 0) : stepS u st n l = st := if_pos h
theorem stepS_plain {u : List Int} {st : List (Nat × Ln)} {n : Nat} {l : Ln} (h : ¬ u.getD n 0 = 0) (c : joinW l = true → ∀ A, valP st (innerOf l) = some A → u.getD (innerOf l) 0 = 1 → oneLn A l = false) : stepS u st n l = st ++ [(n, l)] := by
  unfold stepS
  rw [if_neg h]
  cases q : valP st (innerOf l) with
  | none => rfl
  | some A =>
    dsimp only
    rw [if_neg]
    rintro ⟨c1, c2, c3⟩
    have := c c1 A q c2
    rw [this] at c3
    cases c3
theorem stepS_join {u : List Int} {st : List (Nat × Ln)} {n : Nat} {l A : Ln} (h : ¬ u.getD n 0 = 0) (c1 : joinW l = true) (c2 : valP st (innerOf l) = some A) (c3 : u.getD (innerOf l) 0 = 1) (c4 : oneLn A l = true) :
    stepS u st n l = (st.filter fun p => !decide (p.1 = innerOf l)) ++ [(n, joinL A l)] := by
  unfold stepS
  rw [if_neg h, c2]
  dsimp only
  rw [if_pos ⟨c1, c3, c4⟩]
theorem joinW_d {l : Ln} (h : joinW l = true) : ∃ (w : Str) (x : PyData) (a : Int), l.d = .tuple [.str w, x, .int a] ∧ l.names = [a] ∧ decide (w ∈ (["map", "keep", "while", "take", "skip"] : List Str)) = true := by
  cases l <;> first | exact ⟨_, _, _, rfl, rfl, by decide +kernel⟩ | cases h
theorem joinW_no {l : Ln} (h : joinW l = false) : ∃ (w : Str) (ds : List PyData), l.d = .tuple (.str w :: ds) ∧ decide (w ∈ (["map", "keep", "while", "take", "skip"] : List Str)) = false := by
  cases l <;> first | exact ⟨_, _, rfl, by decide +kernel⟩ | cases h
open PySem PySem.Spec PyProof.Rows L2
section
def top (i : Nat) : Stmt := PySem.Challenge.pw_weavepull_k18_straight_is_straight.main.body.getD i (.Pass ⟨0, 0, 0, 0⟩)
abbrev s__law_dice : Stmt := top 34
theorem sc__law_dice : FnScope ["_law_script", "_law_mixed", "_law_cell"] ["_law_script"] (defScope s__law_dice) := ⟨rfl, rfl, rfl, by decide +kernel, rfl, by decide +kernel, by decide +kernel⟩
abbrev s__law_next : Stmt := top 35
theorem sc__law_next : FnScope ["_law_dice_here", "_law_many", "_law_found", "_law_cell"] ["_law_dice_here", "_law_many"] (defScope s__law_next) := ⟨rfl, rfl, rfl, by decide +kernel, rfl, by decide +kernel, by decide +kernel⟩
abbrev s__law_number : Stmt := top 38
theorem sc__law_number : FnScope ["_law_d"] ["_law_d"] (defScope s__law_number) := ⟨rfl, rfl, rfl, by decide +kernel, rfl, by decide +kernel, by decide +kernel⟩
abbrev s__law_tests : Stmt := top 39
theorem sc__law_tests : FnScope ["_law_d", "_law_tests_here", "_law_k", "_law_way", "_law_by"] ["_law_d"] (defScope s__law_tests) := ⟨rfl, rfl, rfl, by decide +kernel, rfl, by decide +kernel, by decide +kernel⟩
abbrev s__law_deeds : Stmt := top 40
theorem sc__law_deeds : FnScope ["_law_d", "_law_kind_here", "_law_deeds_here", "_law_k", "_law_some"] ["_law_d", "_law_kind_here"] (defScope s__law_deeds) := ⟨rfl, rfl, rfl, by decide +kernel, rfl, by decide +kernel, by decide +kernel⟩
abbrev s__law_long : Stmt := top 43
theorem sc__law_long : FnScope ["_law_d", "_law_weave_here", "_law_word", "_law_k", "_law_what", "_law_line_here", "_law_deed"] ["_law_d"] (defScope s__law_long) := ⟨rfl, rfl, rfl, by decide +kernel, rfl, by decide +kernel, by decide +kernel⟩
abbrev s__law_line : Stmt := top 42
theorem sc__law_line : FnScope ["_law_d", "_law_kinds", "_law_a", "_law_b", "_law_way", "_law_kind_here", "_law_simple", "_law_many", "_law_same", "_law_k"] ["_law_d", "_law_kinds"] (defScope s__law_line) := ⟨rfl, rfl, rfl, by decide +kernel, rfl, by decide +kernel, by decide +kernel⟩
abbrev s__law_kind : Stmt := top 41
theorem sc__law_kind : FnScope ["_law_line_here", "_law_kinds", "_law_word", "_law_kind_here", "_law_deed"] ["_law_line_here", "_law_kinds"] (defScope s__law_kind) := ⟨rfl, rfl, rfl, by decide +kernel, rfl, by decide +kernel, by decide +kernel⟩
abbrev s__law_weave : Stmt := top 44
theorem sc__law_weave : FnScope ["_law_d", "_law_named_here", "_law_many", "_law_turn", "_law_weave_here", "_law_kinds", "_law_k"] ["_law_d"] (defScope s__law_weave) := ⟨rfl, rfl, rfl, by decide +kernel, rfl, by decide +kernel, by decide +kernel⟩
abbrev s__law_outs : Stmt := top 46
theorem sc__law_outs : FnScope ["_law_d", "_law_weave_here", "_law_k"] ["_law_d", "_law_weave_here"] (defScope s__law_outs) := ⟨rfl, rfl, rfl, by decide +kernel, rfl, by decide +kernel, by decide +kernel⟩
abbrev s_kind_done : Stmt := top 9
theorem sc_kind_done : FnScope ["word", "kind"] ["word", "kind"] (defScope s_kind_done) := ⟨rfl, rfl, rfl, by decide +kernel, rfl, by decide +kernel, by decide +kernel⟩
abbrev s_kind_made : Stmt := top 8
theorem sc_kind_made : FnScope ["deeds", "kind", "deed"] ["deeds", "kind"] (defScope s_kind_made) := ⟨rfl, rfl, rfl, by decide +kernel, rfl, by decide +kernel, by decide +kernel⟩
abbrev s_kind_of : Stmt := top 22
theorem sc_kind_of : FnScope ["line", "kinds", "word", "kind"] ["line", "kinds"] (defScope s_kind_of) := ⟨rfl, rfl, rfl, by decide +kernel, rfl, by decide +kernel, by decide +kernel⟩
abbrev s_named : Stmt := top 19
theorem sc_named : FnScope ["line"] ["line"] (defScope s_named) := ⟨rfl, rfl, rfl, by decide +kernel, rfl, by decide +kernel, by decide +kernel⟩
abbrev s_place_can_be : Stmt := top 20
theorem sc_place_can_be : FnScope ["line", "at", "many", "sources", "a"] ["line", "at", "many", "sources"] (defScope s_place_can_be) := ⟨rfl, rfl, rfl, by decide +kernel, rfl, by decide +kernel, by decide +kernel⟩
abbrev s_is_number : Stmt := top 4
theorem sc_is_number : FnScope ["number"] ["number"] (defScope s_is_number) := ⟨rfl, rfl, rfl, by decide +kernel, rfl, by decide +kernel, by decide +kernel⟩
abbrev s_deeds_can_be : Stmt := top 5
theorem sc_deeds_can_be : FnScope ["deeds", "deed", "n"] ["deeds"] (defScope s_deeds_can_be) := ⟨rfl, rfl, rfl, by decide +kernel, rfl, by decide +kernel, by decide +kernel⟩
abbrev s_test_can_be : Stmt := top 7
theorem sc_test_can_be : FnScope ["test"] ["test"] (defScope s_test_can_be) := ⟨rfl, rfl, rfl, by decide +kernel, rfl, by decide +kernel, by decide +kernel⟩
abbrev s_tests_can_be : Stmt := top 6
theorem sc_tests_can_be : FnScope ["tests", "test"] ["tests"] (defScope s_tests_can_be) := ⟨rfl, rfl, rfl, by decide +kernel, rfl, by decide +kernel, by decide +kernel⟩
abbrev s_numbers_can_be : Stmt := top 21
theorem sc_numbers_can_be : FnScope ["line", "word"] ["line"] (defScope s_numbers_can_be) := ⟨rfl, rfl, rfl, by decide +kernel, rfl, by decide +kernel, by decide +kernel⟩
abbrev s_looked : Stmt := top 18
theorem sc_looked : FnScope ["weave", "many", "kinds", "sources", "at", "line", "kind", "a"] ["weave", "many"] (defScope s_looked) := ⟨rfl, rfl, rfl, by decide +kernel, rfl, by decide +kernel, by decide +kernel⟩
abbrev s_outs_looked : Stmt := top 24
theorem sc_outs_looked : FnScope ["weave", "outs", "out"] ["weave", "outs"] (defScope s_outs_looked) := ⟨rfl, rfl, rfl, by decide +kernel, rfl, by decide +kernel, by decide +kernel⟩
abbrev s_users_of : Stmt := top 29
theorem sc_users_of : FnScope ["weave", "outs", "users", "at", "a"] ["weave", "outs"] (defScope s_users_of) := ⟨rfl, rfl, rfl, by decide +kernel, rfl, by decide +kernel, by decide +kernel⟩
abbrev s_sources_told : Stmt := top 28
theorem sc_sources_told : FnScope ["weave", "line"] ["weave"] (defScope s_sources_told) := ⟨rfl, rfl, rfl, by decide +kernel, rfl, by decide +kernel, by decide +kernel⟩
abbrev s_can_be_one : Stmt := top 30
theorem sc_can_be_one : FnScope ["ahead", "line"] ["ahead", "line"] (defScope s_can_be_one) := ⟨rfl, rfl, rfl, by decide +kernel, rfl, by decide +kernel, by decide +kernel⟩
abbrev s_joined : Stmt := top 31
theorem sc_joined : FnScope ["ahead", "line"] ["ahead", "line"] (defScope s_joined) := ⟨rfl, rfl, rfl, by decide +kernel, rfl, by decide +kernel, by decide +kernel⟩
abbrev s_renumbered : Stmt := top 32
theorem sc_renumbered : FnScope ["line", "numbers"] ["line", "numbers"] (defScope s_renumbered) := ⟨rfl, rfl, rfl, by decide +kernel, rfl, by decide +kernel, by decide +kernel⟩
abbrev s_straight : Stmt := top 27
theorem sc_straight : FnScope ["weave", "outs", "users", "lines", "numbers", "at", "line", "number", "out"] ["weave", "outs"] (defScope s_straight) := ⟨rfl, rfl, rfl, by decide +kernel, rfl, by decide +kernel, by decide +kernel⟩
abbrev s__law_named : Stmt := top 47
theorem sc__law_named : FnScope ["_law_line_here"] ["_law_line_here"] (defScope s__law_named) := ⟨rfl, rfl, rfl, by decide +kernel, rfl, by decide +kernel, by decide +kernel⟩
abbrev s__law_fuses : Stmt := top 49
theorem sc__law_fuses : FnScope ["_law_line_here", "_law_inner"] ["_law_line_here", "_law_inner"] (defScope s__law_fuses) := ⟨rfl, rfl, rfl, by decide +kernel, rfl, by decide +kernel, by decide +kernel⟩
abbrev s__law_is_straight : Stmt := top 50
theorem sc__law_is_straight : FnScope ["_law_weave_here", "_law_outs_here", "_law_uses", "_law_line_here", "_law_other", "_law_at", "_law_inner", "_law_out"] ["_law_weave_here", "_law_outs_here"] (defScope s__law_is_straight) := ⟨rfl, rfl, rfl, by decide +kernel, rfl, by decide +kernel, by decide +kernel⟩
abbrev s__law_longer : Stmt := top 48
theorem sc__law_longer : FnScope ["_law_d", "_law_weave_here", "_law_word", "_law_k", "_law_what", "_law_line_here"] ["_law_d"] (defScope s__law_longer) := ⟨rfl, rfl, rfl, by decide +kernel, rfl, by decide +kernel, by decide +kernel⟩
abbrev s__law_like : Stmt := top 37
theorem sc__law_like : FnScope ["_law_found", "_law_due", "_law_k"] ["_law_found", "_law_due"] (defScope s__law_like) := ⟨rfl, rfl, rfl, by decide +kernel, rfl, by decide +kernel, by decide +kernel⟩
abbrev s_law : Stmt := top 51
theorem sc_law : FnScope ["_law_script", "_law_d", "_law_drawn", "_law_outs_here", "_law_kinds", "_law_again", "_law_weave_here", "_law_ends", "_law_out"] ["_law_script"] (defScope s_law) := ⟨rfl, rfl, rfl, by decide +kernel, rfl, by decide +kernel, by decide +kernel⟩
structure Tx (K : PySem.W.Frag) (w : World) (mg : Str → Option Value) where
  _law_dice : At K mg "_law_dice" s__law_dice ["_law_script"]
  _law_next : At K mg "_law_next" s__law_next ["_law_dice_here", "_law_many"]
  _law_number : At K mg "_law_number" s__law_number ["_law_d"]
  _law_tests : At K mg "_law_tests" s__law_tests ["_law_d"]
  _law_deeds : At K mg "_law_deeds" s__law_deeds ["_law_d", "_law_kind_here"]
  _law_long : At K mg "_law_long" s__law_long ["_law_d"]
  _law_line : At K mg "_law_line" s__law_line ["_law_d", "_law_kinds"]
  _law_kind : At K mg "_law_kind" s__law_kind ["_law_line_here", "_law_kinds"]
  _law_weave : At K mg "_law_weave" s__law_weave ["_law_d"]
  _law_outs : At K mg "_law_outs" s__law_outs ["_law_d", "_law_weave_here"]
  kind_done : At K mg "kind_done" s_kind_done ["word", "kind"]
  kind_made : At K mg "kind_made" s_kind_made ["deeds", "kind"]
  kind_of : At K mg "kind_of" s_kind_of ["line", "kinds"]
  named : At K mg "named" s_named ["line"]
  place_can_be : At K mg "place_can_be" s_place_can_be ["line", "at", "many", "sources"]
  is_number : At K mg "is_number" s_is_number ["number"]
  deeds_can_be : At K mg "deeds_can_be" s_deeds_can_be ["deeds"]
  test_can_be : At K mg "test_can_be" s_test_can_be ["test"]
  tests_can_be : At K mg "tests_can_be" s_tests_can_be ["tests"]
  numbers_can_be : At K mg "numbers_can_be" s_numbers_can_be ["line"]
  looked : At K mg "looked" s_looked ["weave", "many"]
  outs_looked : At K mg "outs_looked" s_outs_looked ["weave", "outs"]
  users_of : At K mg "users_of" s_users_of ["weave", "outs"]
  sources_told : At K mg "sources_told" s_sources_told ["weave"]
  can_be_one : At K mg "can_be_one" s_can_be_one ["ahead", "line"]
  joined : At K mg "joined" s_joined ["ahead", "line"]
  renumbered : At K mg "renumbered" s_renumbered ["line", "numbers"]
  straight : At K mg "straight" s_straight ["weave", "outs"]
  _law_named : At K mg "_law_named" s__law_named ["_law_line_here"]
  _law_fuses : At K mg "_law_fuses" s__law_fuses ["_law_line_here", "_law_inner"]
  _law_is_straight : At K mg "_law_is_straight" s__law_is_straight ["_law_weave_here", "_law_outs_here"]
  _law_longer : At K mg "_law_longer" s__law_longer ["_law_d"]
  _law_like : At K mg "_law_like" s__law_like ["_law_found", "_law_due"]
  law : At K mg "law" s_law ["_law_script"]
  c_JOINED : TupAt K mg "JOINED" ["map", "keep", "while", "take", "skip"]
  c_REST : IntAt mg "REST" 1000003
  c_LONGEST : IntAt mg "LONGEST" 64
  c_MOST_LINES : IntAt mg "MOST_LINES" 24
  c_MOST_TAKEN : IntAt mg "MOST_TAKEN" 9999
  c_WIDEST : IntAt mg "WIDEST" 9
  c_NUMBER : StrAt mg "NUMBER" "number"
  z_all : mg "all" = none
  z_bool : mg "bool" = none
  z_enumerate : mg "enumerate" = none
  z_int : mg "int" = none
  z_isinstance : mg "isinstance" = none
  z_len : mg "len" = none
  z_list : mg "list" = none
  z_max : mg "max" = none
  z_min : mg "min" = none
  z_range : mg "range" = none
  z_reversed : mg "reversed" = none
  z_str : mg "str" = none
  z_tuple : mg "tuple" = none
variable {P : Program} {w : World} {K : PySem.W.Frag} {mg : Str → Option Value} {base : Heap}
local macro_rules | `(tactic| walk_at "go") => `(tactic| repeat (first
  | (apply Exists.intro; refine And.intro rfl ?_; all_goals apply isProp)
  | (apply Exists.intro; apply Exists.intro; refine And.intro rfl (And.intro rfl ?_); all_goals apply isProp)
  | refine And.intro rfl ?_
  | refine And.intro (by omega) ?_
  | (refine And.intro ?_ ?_; (apply posOf; omega); all_goals apply isProp)
  | refine And.intro (by assumption) ?_
  | (refine And.intro ?_ ?_; (apply Exists.intro; assumption); all_goals apply isProp)
  | refine And.intro (Or.inl (And.intro (by omega) (by omega))) ?_
  | refine And.intro (Or.inr (And.intro (by omega) (by omega))) ?_
  | refine And.intro (And.intro (by omega) (by omega)) ?_
  | (refine Or.inr ?_; (apply Exists.intro; refine And.intro rfl ?_; all_goals apply isProp))
  | (refine Or.inl ?_; (apply Exists.intro; refine And.intro rfl ?_; all_goals apply isProp))
  | (apply Exists.intro; apply Exists.intro; refine And.intro rfl ?_; refine And.intro ?_ ?_; (first | (apply Or.inl; assumption) | (apply Or.inr; assumption) | (apply Or.inl; apply SqL.of; assumption)); all_goals apply isProp)
  | (apply Exists.intro; apply Exists.intro; apply Exists.intro; apply Exists.intro; refine And.intro rfl (And.intro rfl ?_); refine And.intro ?_ ?_; (first | (apply SqL.of; assumption) | (apply SqT.of; assumption) | assumption); refine And.intro rfl ?_; all_goals apply isProp)
  | refine And.intro (And.intro (by omega) (And.intro (by omega) (by decide))) ?_
  | (refine And.intro ?_ ?_; (apply Or.inl; refine And.intro rfl ?_; apply Exists.intro; apply SqL.of; assumption); all_goals apply isProp)
  | (refine And.intro ?_ ?_; (apply acc_ty; assumption); all_goals apply isProp)
  | (apply iteT; all_goals apply isProp)
  | (apply iteF; all_goals apply isProp)
  | (apply Exists.intro; apply Exists.intro; refine And.intro rfl ?_; all_goals apply isProp)
  | (apply Exists.intro; apply Exists.intro; apply Exists.intro; refine And.intro rfl ?_; all_goals apply isProp)
  | (apply Exists.intro; apply Exists.intro; apply Exists.intro; apply Exists.intro; refine And.intro rfl ?_; all_goals apply isProp)))
local macro_rules | `(tactic| walk_at "no") => `(tactic| first
  | refine ite_f (by decide +kernel) ?_
  | refine ite_f (decide_eq_false (by assumption)) ?_
  | refine ite_f (decide_eq_false (by intro z; injection z with z; omega)) ?_)
local macro_rules | `(tactic| walk_at "yes") => `(tactic| first
  | refine ite_t (by decide +kernel) ?_
  | refine ite_t (decide_eq_true (by assumption)) ?_
  | refine ite_t (decide_eq_true (by omega)) ?_)
local macro_rules | `(tactic| walk_at "w") => `(tactic| first | refine ite_f (by decide +kernel) ?_ | refine ite_t (by decide +kernel) ?_)
local macro_rules | `(tactic| walk_at "wd") => `(tactic| (refine ⟨_, 0, 0, _, (by assumption), rfl, rfl, rfl, ?_⟩; intro v iv; cases Im.s iv; walk_at "go"))
local macro_rules | `(tactic| walk_at "wds") => `(tactic| (walk_at "go"; repeat walk_at "wd"))
local macro_rules | `(tactic| walk_at "n1") => `(tactic| (refine ⟨_, 1, 1, _, (by assumption), rfl, rfl, rfl, ?_⟩; intro v iv; cases Im.i iv; walk_at "go"))
local macro_rules | `(tactic| walk_at "n2") => `(tactic| (refine ⟨_, 2, 2, _, (by assumption), rfl, rfl, rfl, ?_⟩; intro v iv; cases Im.i iv; walk_at "go"))
def spDice (K : PySem.W.Frag) : Sp := fun vs H Q _ => ∃ (a : Addr) (ns : List Int), vs = [.ref a] ∧ Fz K H a (ns.map V.int) ∧ ns.length ≤ 63 ∧
  ∀ D H', H D = none → Same H H' → IsDice K H' D → Q (.ref D) H'
theorem ok__law_dice (T : Tx K w mg) : FnOk P w K mg base CX0 1 T._law_dice.f T._law_dice.fd ["_law_script"] (spDice K) := by
  refine T._law_dice.F.ok sc__law_dice (fun vs H Q E h => ?_) (fun cdv A outer s H vs Q E hr h => ?_)
  · obtain ⟨a, ns, rfl, _⟩ := h
    rfl
  obtain ⟨a, ns, rfl, hF, hl, q⟩ := h
  have hS := hF.seq
  refine ⟨_, (pss_cons (ps_set (i := 1) sc__law_dice.nd rfl (by first | exact Or.inl rfl | exact Or.inr rfl) pe_int)
      (pss_cons (ps_for PassesOwn.never rfl (pi_list (pv 0)) (pg_name (i := 2) sc__law_dice.nd rfl (by first | exact Or.inl rfl | exact Or.inr rfl)) (pss_one (ps_set (i := 1) sc__law_dice.nd rfl (by first | exact Or.inl rfl | exact Or.inr rfl) (pe_op op_mod (pe_op op_add (pe_op op_add (pe_op op_mul (pv 1) pe_int) (pe_op op_mul (pe_op op_mod (pv 2) pe_int) pe_int)) pe_int) pe_int))))
      (pss_one (ps_ret (pe_lr (pa_cons (pv 0) (pa_cons pe_int (pa_cons (pe_op op_mul (pv 1) (pe_callTy call_int1 (by rfl) T.z_int (by decide +kernel) (pa_cons (pe_cmpR op_gt (pe_callB call_len_seq (by rfl) T.z_len PySem.boot_len (pa_cons (pv 0) pa_nil)) pe_int (nomark _)) pa_nil))) (pa_cons pe_int pa_nil))))))))), ?_⟩
  refine ⟨_, rfl, a, rfl, ⟨_, hS⟩, for_list (K := K) (a := a) (xs := ns.map V.int) (fun i σ H2 => Hold (H2 = H ∧ ∃ (m : Int) (v : Option V), σ = [some (.ref a), some (.int m), v] ∧ 0 ≤ m ∧ m < 2147483647))
    (.mk ⟨rfl, 0, none, rfl, by decide, by decide⟩) (fun i σ H2 _ h => h.out.1 ▸ hS) ?_ ?_⟩
  · rintro i x σ H2 hi h
    obtain ⟨rfl, m, v, rfl, h0, h1⟩ := h.out
    obtain ⟨z, rfl⟩ : ∃ z, x = V.int z := by
      rw [List.getElem?_map] at hi
      obtain ⟨z, _, rfl⟩ := Option.map_eq_some_iff.mp hi
      exact ⟨z, rfl⟩
    walk_at "go"
    exact .mk ⟨rfl, _, _, rfl, Int.emod_nonneg _ (by decide), Int.emod_lt_of_pos _ (by decide)⟩
  · rintro σ H2 h
    obtain ⟨rfl, m, v, rfl, h0, h1⟩ := h.out
    walk_at "go"
    refine ⟨by simp, fun D H1 nD s1 t1 e1 => ?_⟩
    refine q D H1 nD s1 ⟨a, ns, _, _, _, e1, (same_tk s1).f _ _ hF, hl, Int.le_refl _, ?_, ?_, Int.le_refl _⟩
    all_goals (split <;> omega)

def spNext (K : PySem.W.Frag) : Sp := fun vs H Q _ => ∃ (D : Addr) (m : Int), vs = [.ref D, .int m] ∧ 1 ≤ m ∧ m ≤ 1000003 ∧ IsDice K H D ∧
  ∀ (r : Int) H', 0 ≤ r → r < m → IsDice K H' D → But D H H' → Q (.int r) H'
theorem ok__law_next (T : Tx K w mg) : FnOk P w K mg base CX0 1 T._law_next.f T._law_next.fd ["_law_dice_here", "_law_many"] (spNext K) := by
  refine T._law_next.F.ok sc__law_next (fun vs H Q E h => ?_) (fun cdv A outer s H vs Q E hr h => ?_)
  · obtain ⟨a, ns, rfl, _⟩ := h
    rfl
  obtain ⟨D, m, rfl, h1, h2, hD, q⟩ := h
  obtain ⟨a, ns, p, mx, r, eD, hF, hl, hp, hm0, hm1, hr0⟩ := hD
  have hS := hF.seq
  have mo : ∀ z : Int, 0 ≤ z % m ∧ z % m < m := fun z => ⟨Int.emod_nonneg _ (by omega), Int.emod_lt_of_pos _ (by omega)⟩
  have dv : ∀ z : Int, 0 ≤ z → 0 ≤ z / m := fun z hz => Int.ediv_nonneg hz (by omega)
  refine ⟨_, (pss_cons (ps_if (pt_cmpR op_gt (pe_ix ix_list (pv 0) pe_int (fun _ _ => rfl)) pe_int (nomark _)) (pss_cons (ps_set (i := 2) sc__law_next.nd rfl (by first | exact Or.inl rfl | exact Or.inr rfl) (pe_op op_mod (pe_ix ix_list (pv 0) pe_int (fun _ _ => rfl)) (pv 1)))
      (pss_cons (ps_asg (pe_op op_fdiv (pe_ix ix_list (pv 0) pe_int (fun _ _ => rfl)) (pv 1)) (pg_sub (pv 0) pe_int set_listN))
      (pss_one (ps_ret (pv 2))))) pss_nil)
      (pss_cons (ps_asg (pe_op op_add (pe_ix ix_list (pv 0) pe_int (fun _ _ => rfl)) pe_int) (pg_sub (pv 0) pe_int set_listN))
      (pss_cons (ps_if (pt_cmpR op_le (pe_ix ix_list (pv 0) pe_int (fun _ _ => rfl)) (pe_callB call_len_seq (by rfl) T.z_len PySem.boot_len (pa_cons (pe_ix ix_list (pv 0) pe_int (fun _ _ => rfl)) pa_nil)) (nomark _)) (pss_cons (ps_set (i := 3) sc__law_next.nd rfl (by first | exact Or.inl rfl | exact Or.inr rfl) (pe_ix ix_list (pe_ix ix_list (pv 0) pe_int (fun _ _ => rfl)) (pe_op op_sub (pe_ix ix_list (pv 0) pe_int (fun _ _ => rfl)) pe_int) (fun _ _ => rfl)))
      (pss_cons (ps_asg (pe_ifExp (pt_cmpR op_ge (pv 3) (pe_op op_pow pe_int pe_int) (nomark _)) (pe_op op_fdiv (pv 3) (pv 1)) pe_int) (pg_sub (pv 0) pe_int set_listN))
      (pss_one (ps_ret (pe_op op_mod (pv 3) (pv 1)))))) pss_nil)
      (pss_cons (ps_asg (pe_op op_mod (pe_op op_mul (pe_ix ix_list (pv 0) pe_int (fun _ _ => rfl)) pe_int) pe_int) (pg_sub (pv 0) pe_int set_listN))
      (pss_one (ps_ret (pe_op op_mod (pe_op op_fdiv (pe_ix ix_list (pv 0) pe_int (fun _ _ => rfl)) pe_int) (pv 1)))))))), ?_⟩
  walk_at "go"
  refine ite_d (fun c => ?_) (fun c => ?_)
  · walk_at "go"
    refine ⟨_, _, _, _, _, rfl, rfl, eD, rfl, rfl, fun H1 b1 t_b1 e1 => ?_⟩
    have e1 : H1 D = some (.lst [.ref a, .int p, .int mx, .int (r / m)]) := e1
    walk_at "go"
    exact q _ H1 (mo r).1 (mo r).2 ⟨a, ns, p, mx, _, e1, (b1.tk eD).f _ _ hF, hl, hp, hm0, hm1, dv r hr0⟩ b1
  · walk_at "go"
    refine ⟨_, _, _, _, _, rfl, rfl, eD, rfl, rfl, fun H1 b1 t_b1 e1 => ?_⟩
    have e1 : H1 D = some (.lst [.ref a, .int (p + 1), .int mx, .int r]) := e1
    have hF1 := (b1.tk (K := K) eD).f _ _ hF
    have hS1 := hF1.seq
    walk_at "go"
    refine ite_d (fun c2 => ?_) (fun c2 => ?_)
    · rw [List.length_map] at c2
      have hj : p.toNat < ns.length := by omega
      have hat : atI (ns.map V.int) (p + 1 - 1) = some (.int ns[p.toNat]) := by
        refine at_of (j := p.toNat) (by omega) ?_
        rw [List.getElem?_map, List.getElem?_eq_getElem hj]
        rfl
      walk_at "go"
      refine ⟨_, _, _, _, rfl, rfl, hS1, hat, ?_⟩
      walk_at "go"
      refine ite_d (fun c3 => ?_) (fun c3 => ?_)
      · have c3 : (1000000000000000000 : Int) ≤ ns[p.toNat] := c3
        walk_at "go"
        refine ⟨_, _, _, _, _, rfl, rfl, e1, rfl, rfl, fun H2 b2 t_b2 e2 => ?_⟩
        have e2 : H2 D = some (.lst [.ref a, .int (p + 1), .int mx, .int (ns[p.toNat] / m)]) := e2
        walk_at "go"
        exact q _ H2 (mo _).1 (mo _).2 ⟨a, ns, _, mx, _, e2, (b2.tk e1).f _ _ hF1, hl, by omega, hm0, hm1, dv _ (by omega)⟩ (b1.trans b2)
      · walk_at "go"
        refine ⟨_, _, _, _, _, rfl, rfl, e1, rfl, rfl, fun H2 b2 t_b2 e2 => ?_⟩
        have e2 : H2 D = some (.lst [.ref a, .int (p + 1), .int mx, .int 0]) := e2
        walk_at "go"
        exact q _ H2 (mo _).1 (mo _).2 ⟨a, ns, _, mx, _, e2, (b2.tk e1).f _ _ hF1, hl, by omega, hm0, hm1, Int.le_refl _⟩ (b1.trans b2)
    · walk_at "go"
      refine ⟨_, _, _, _, _, rfl, rfl, e1, rfl, rfl, fun H2 b2 t_b2 e2 => ?_⟩
      have e2 : H2 D = some (.lst [.ref a, .int (p + 1), .int (mx * 48271 % 2147483647), .int r]) := e2
      walk_at "go"
      exact q _ H2 (mo _).1 (mo _).2 ⟨a, ns, _, _, _, e2, (b2.tk e1).f _ _ hF1, hl, by omega, Int.emod_nonneg _ (by decide), Int.emod_lt_of_pos _ (by decide), hr0⟩ (b1.trans b2)

def spNumber (K : PySem.W.Frag) : Sp := fun vs H Q _ => ∃ (D : Addr), vs = [.ref D] ∧ IsDice K H D ∧
  ∀ (r : Int) H', Num r → IsDice K H' D → But D H H' → Q (.int r) H'
theorem ok__law_number (T : Tx K w mg) : FnOk P w K mg base CX0 2 T._law_number.f T._law_number.fd ["_law_d"] (spNumber K) := by
  refine T._law_number.F.ok sc__law_number (fun vs H Q E h => ?_) (fun cdv A outer s H vs Q E hr h => ?_)
  · obtain ⟨a, rfl, _⟩ := h
    rfl
  obtain ⟨D, rfl, hD, q⟩ := h
  refine ⟨_, (pss_cons (ps_if (pt_cmpR op_eq (pe_call (ok__law_next T) hr (by rfl) T._law_next.g T._law_next.F.kp T._law_next.b .nil pass0 (pa_cons (pv 0) (pa_cons pe_int pa_nil))) pe_int (nomark _)) (pss_one (ps_ret (pe_call (ok__law_next T) hr (by rfl) T._law_next.g T._law_next.F.kp T._law_next.b .nil pass0 (pa_cons (pv 0) (pa_cons pe_int pa_nil))))) pss_nil)
      (pss_one (ps_ret (pe_call (ok__law_next T) hr (by rfl) T._law_next.g T._law_next.F.kp T._law_next.b .nil pass0 (pa_cons (pv 0) (pa_cons pe_int pa_nil)))))), ?_⟩
  walk_at "go"
  intro r H1 a1 a2 d1 b1
  walk_at "go"
  refine ite_d (fun c => ?_) (fun c => ?_)
  · walk_at "go"
    intro r2 H2 a3 a4 d2 b2
    exact q _ _ ⟨a3, a4⟩ d2 (b1.trans b2)
  · walk_at "go"
    intro r2 H2 a3 a4 d2 b2
    exact q _ _ ⟨a3, by omega⟩ d2 (b1.trans b2)

def spTests (K : PySem.W.Frag) : Sp := fun vs H Q _ => ∃ (D : Addr), vs = [.ref D] ∧ IsDice K H D ∧
  ∀ (v : V) H' (ts : List Tst), Im K H' v (.tuple (ts.map Tst.d)) → 1 ≤ ts.length → ts.length ≤ 64 → (∀ t ∈ ts, t.Ok) → IsDice K H' D → But D H H' → Q v H'
theorem ok__law_tests (T : Tx K w mg) : FnOk P w K mg base CX0 3 T._law_tests.f T._law_tests.fd ["_law_d"] (spTests K) := by
  refine T._law_tests.F.ok sc__law_tests (fun vs H Q E h => ?_) (fun cdv A outer s H vs Q E hr h => ?_)
  · obtain ⟨a, rfl, _⟩ := h
    rfl
  obtain ⟨D, rfl, hD, q⟩ := h
  refine ⟨_, (pss_cons (ps_set (i := 1) sc__law_tests.nd rfl (by first | exact Or.inl rfl | exact Or.inr rfl) (pe_ld pa_nil))
      (pss_cons (ps_for PassesOwn.never rfl (pi_range1 (by rfl) T.z_range (pa_cons (pe_ix ix_selA (pe_ld (pa_cons (pe_op op_add pe_int (pe_call (ok__law_next T) (hr.mono (by decide)) (by rfl) T._law_next.g T._law_next.F.kp T._law_next.b .nil pass0 (pa_cons (pv 0) (pa_cons pe_int pa_nil)))) (pa_cons (pe_op op_add pe_int (pe_call (ok__law_next T) (hr.mono (by decide)) (by rfl) T._law_next.g T._law_next.F.kp T._law_next.b .nil pass0 (pa_cons (pv 0) (pa_cons pe_int pa_nil)))) pa_nil))) (pe_callTy call_int1 (by rfl) T.z_int (by decide +kernel) (pa_cons (pe_cmpR op_eq (pe_call (ok__law_next T) (hr.mono (by decide)) (by rfl) T._law_next.g T._law_next.F.kp T._law_next.b .nil pass0 (pa_cons (pv 0) (pa_cons pe_int pa_nil))) pe_int (nomark _)) pa_nil)) (fun _ _ => rfl)) pa_nil)) (pg_name (i := 2) sc__law_tests.nd rfl (by first | exact Or.inl rfl | exact Or.inr rfl)) (pss_cons (ps_set (i := 3) sc__law_tests.nd rfl (by first | exact Or.inl rfl | exact Or.inr rfl) (pe_call (ok__law_next T) (hr.mono (by decide)) (by rfl) T._law_next.g T._law_next.F.kp T._law_next.b .nil pass0 (pa_cons (pv 0) (pa_cons pe_int pa_nil))))
      (pss_cons (ps_if (pt_cmpR op_eq (pv 3) pe_int (nomark _)) (pss_one (ps_expr (pe_bm PySem.F.plainAttrs_list PySem.F.slot_list_append PySem.F.type_list_append mt_appA (pv 1) (pa_cons (pe_td (pa_cons pe_str (pa_cons (pe_call (ok__law_number T) hr (by rfl) T._law_number.g T._law_number.F.kp T._law_number.b .nil pass0 (pa_cons (pv 0) pa_nil)) pa_nil))) pa_nil)))) pss_nil)
      (pss_cons (ps_if (pt_cmpR op_eq (pv 3) pe_int (nomark _)) (pss_one (ps_expr (pe_bm PySem.F.plainAttrs_list PySem.F.slot_list_append PySem.F.type_list_append mt_appA (pv 1) (pa_cons (pe_td (pa_cons pe_str (pa_cons (pe_call (ok__law_number T) hr (by rfl) T._law_number.g T._law_number.F.kp T._law_number.b .nil pass0 (pa_cons (pv 0) pa_nil)) pa_nil))) pa_nil)))) pss_nil)
      (pss_one (ps_if (pt_cmpR op_eq (pv 3) pe_int (nomark _)) (pss_cons (ps_set (i := 4) sc__law_tests.nd rfl (by first | exact Or.inl rfl | exact Or.inr rfl) (pe_callB (call_max2N rfl) (by rfl) T.z_max (by decide +kernel) (pa_cons pe_int (pa_cons (pe_call (ok__law_number T) hr (by rfl) T._law_number.g T._law_number.F.kp T._law_number.b .nil pass0 (pa_cons (pv 0) pa_nil)) pa_nil))))
      (pss_one (ps_expr (pe_bm PySem.F.plainAttrs_list PySem.F.slot_list_append PySem.F.type_list_append mt_appA (pv 1) (pa_cons (pe_td (pa_cons pe_str (pa_cons (pv 4) (pa_cons (pe_call (ok__law_next T) (hr.mono (by decide)) (by rfl) T._law_next.g T._law_next.F.kp T._law_next.b .nil pass0 (pa_cons (pv 0) (pa_cons (pv 4) pa_nil))) pa_nil)))) pa_nil))))) pss_nil))))))
      (pss_one (ps_ret (pe_callTy call_tupleA (by rfl) T.z_tuple (by decide +kernel) (pa_cons (pv 1) pa_nil)))))), ?_⟩
  walk_at "go"
  refine ⟨[], .nil, by simp, fun l H1 nl s1 t1 a1 => ?_⟩
  have d1 := hD.same s1
  have ne := hD.ne_new nl
  have b1 : But D H H1 := same_but s1
  walk_at "go"
  intro r2 H2 g1 g2 d2 b2
  walk_at "go"
  intro r3 H3 g3 g4 d3 b3
  walk_at "go"
  refine ⟨[.int (1 + r2), .int (1 + r3)], .cons (.int _) (.cons (.int _) .nil), by simp, fun p4 H4 n4 s4 t4 e4 => ?_⟩
  have d4 := d3.same s4
  walk_at "go"
  intro r5 H5 g5 g6 d5 b5
  walk_at "go"
  have ne4 := d3.ne_new n4
  refine ⟨_, _, _, _, rfl, e4.but b5 (b5.dtk d4) ne4.symm, rfl, fun v5 i5 => ?_⟩
  have a5 : Acc K H5 l [] := (((a1.but b2 (b2.dtk d1) ne.symm).but b3 (b3.dtk d2) ne.symm).same s4).but b5 (b5.dtk d4) ne.symm
  have B5 : But D H H5 := b1.trans (b2.trans (b3.trans ((same_but s4).trans b5)))
  have nl' := nl
  obtain ⟨n, rfl, n1, n2⟩ : ∃ n : Nat, v5 = V.int n ∧ 1 ≤ n ∧ n ≤ 64 := by
    split at i5
    · exact ⟨(1 + r3).toNat, by rw [i5.i, Int.toNat_of_nonneg (by omega)], by omega, by omega⟩
    · exact ⟨(1 + r2).toNat, by rw [i5.i, Int.toNat_of_nonneg (by omega)], by omega, by omega⟩
  refine ⟨_, rfl, by omega, by omega, for_range (lo := 0) (n := n) (fun i σ H2 => Hold (∃ (ts : List Tst) (o2 o3 o4 : Option V), σ = [some (.ref D), some (.ref l), o2, o3, o4] ∧
      Acc K H2 l (ts.map Tst.d) ∧ ts.length = i ∧ (∀ t ∈ ts, t.Ok) ∧ IsDice K H2 D ∧ But D H H2)) (.mk ⟨[], none, none, none, rfl, a5, rfl, (fun _ h => by cases h), d5, B5⟩) ?_ ?_⟩
  · rintro i σ H6 hi h
    obtain ⟨ts, o2, o3, o4, rfl, a6, rfl, ok6, d6, B6⟩ := h.out
    walk_at "go"
    intro r7 H7 g7 g8 d7 b7
    have a7 := a6.but b7 (b7.dtk d6) ne.symm
    have B7 := B6.trans b7
    have fin : ∀ (t : Tst) H9 H8, t.Ok → But D H7 H8 → IsDice K H8 D → But l H8 H9 → Acc K H8 l (ts.map Tst.d) → Acc K H9 l (ts.map Tst.d ++ [t.d]) → TK K H8 H9 → ∀ o2 o3 o4,
        Hold (∃ (ts' : List Tst) (o2' o3' o4' : Option V), [some (V.ref D), some (.ref l), o2, o3, o4] = [some (.ref D), some (.ref l), o2', o3', o4'] ∧
      Acc K H9 l (ts'.map Tst.d) ∧ ts'.length = ts.length + 1 ∧ (∀ t ∈ ts', t.Ok) ∧ IsDice K H9 D ∧ But D H H9) := fun t H9 H8 ok b8 d8 b9 a8 a9 t9 o2 o3 o4 => by
      refine .mk ⟨ts ++ [t], o2, o3, o4, rfl, by rw [List.map_append]; exact a9, by rw [List.length_append]; rfl, fun x hx => ?_, d8.keep t9 fun xs e => b9 _ _ ne e, ?_⟩
      · rcases List.mem_append.mp hx with hx | hx
        · exact ok6 x hx
        · rw [List.mem_singleton.mp hx]; exact ok
      · intro b u hb e
        exact b9 _ _ (ne_of_none e nl) ((B7.trans b8) _ _ hb e)
    walk_at "go"
    refine ite_d (fun c => ?_) (fun c => ?_)
    · obtain rfl : r7 = 0 := by injection c
      walk_at "go"
      intro z H8 hz d8 b8
      have a8 := a7.but b8 (b8.dtk d7) ne.symm
      walk_at "go"
      refine ⟨[.str "over", .int z], (.cons (.str _) (.cons (.int _) .nil)), by simp, fun p H9 s9 t9 i9 => ?_⟩
      have a9 := a8.same s9
      refine ⟨_, _, _, _, rfl, rfl, a9, i9, by simp; omega, fun H10 b10 t10 a10 => ?_⟩
      walk_at "go"
      exact fin (.over z) H10 H9 hz (b8.trans (same_but s9)) (d8.same s9) b10 a9 a10 t10 _ _ _
    · walk_at "go"
      refine ite_d (fun c1 => ?_) (fun c1 => ?_)
      · obtain rfl : r7 = 1 := by injection c1
        walk_at "go"
        intro z H8 hz d8 b8
        have a8 := a7.but b8 (b8.dtk d7) ne.symm
        walk_at "go"
        refine ⟨[.str "below", .int z], (.cons (.str _) (.cons (.int _) .nil)), by simp, fun p H9 s9 t9 i9 => ?_⟩
        have a9 := a8.same s9
        refine ⟨_, _, _, _, rfl, rfl, a9, i9, by simp; omega, fun H10 b10 t10 a10 => ?_⟩
        walk_at "go"
        exact fin (.below z) H10 H9 hz (b8.trans (same_but s9)) (d8.same s9) b10 a9 a10 t10 _ _ _
      · have e2 : r7 = 2 := by
          have h0 : r7 ≠ 0 := fun z => c (by rw [z])
          have h1 : r7 ≠ 1 := fun z => c1 (by rw [z])
          omega
        subst e2
        walk_at "go"
        intro z H8 hz d8 b8
        have a8 := a7.but b8 (b8.dtk d7) ne.symm
        obtain ⟨hz1, hz2⟩ := hz
        walk_at "go"
        intro r H9 g9 g10 d9 b9
        have a9 := a8.but b9 (b9.dtk d8) ne.symm
        walk_at "go"
        refine ⟨[.str "rest", .int (max 1 z), .int r], (.cons (.str _) (.cons (.int _) (.cons (.int _) .nil))), by simp, fun p H10 s10 t10 i10 => ?_⟩
        have a10 := a9.same s10
        refine ⟨_, _, _, _, rfl, rfl, a10, i10, by simp; omega, fun H11 b11 t11 a11 => ?_⟩
        walk_at "go"
        exact fin (.rest (max 1 z) r) H11 H10 ⟨⟨by omega, by omega⟩, g9, g10⟩ (b8.trans (b9.trans (same_but s10))) (d9.same s10) b11 a10 a11 t11 _ _ _
  · rintro σ H6 h
    obtain ⟨ts, o2, o3, o4, rfl, a6, e6, ok6, d6, B6⟩ := h.out
    walk_at "go"
    refine ⟨_, _, rfl, a6, fun p H7 s7 t7 i7 => ?_⟩
    exact q _ H7 ts i7 (by omega) (by omega) ok6 (d6.same s7) (B6.trans (same_but s7))

def spDeeds (K : PySem.W.Frag) : Sp := fun vs H Q _ => ∃ (D : Addr) (vk : V), vs = [.ref D, vk] ∧ Hold (IsDice K H D ∧ ∃ k : Kd, Im K H vk k.d ∧ k.dp ≤ 20 ∧
  ∀ (v : V) H' (ds : List Deed) (k' : Kd), Im K H' v (.tuple (ds.map Deed.d)) → DrawnD k ds k' → IsDice K H' D → But D H H' → Q v H')
theorem ok__law_deeds (T : Tx K w mg) : FnOk P w K mg base CX0 3 T._law_deeds.f T._law_deeds.fd ["_law_d", "_law_kind_here"] (spDeeds K) := by
  refine T._law_deeds.F.ok sc__law_deeds (fun vs H Q E h => ?_) (fun cdv A outer s H vs Q E hr h => ?_)
  · obtain ⟨a, vk, rfl, _⟩ := h
    rfl
  obtain ⟨D, vk, rfl, h⟩ := h
  obtain ⟨hD, k, ik, hk, q⟩ := h.out
  refine ⟨_, (pss_cons (ps_if (PW.pt (pw_and (pt_cmpR (op_eqD hr.units) (pv 1) (pe_td (pa_cons pe_str (pa_cons pe_str pa_nil))) (nomark _)) (pw_and1 (pt_cmpR op_eq (pe_call (ok__law_next T) (hr.mono (by decide)) (by rfl) T._law_next.g T._law_next.F.kp T._law_next.b .nil pass0 (pa_cons (pv 0) (pa_cons pe_int pa_nil))) pe_int (nomark _))))) (pss_one (ps_ret (pe_td (pa_cons (pe_td (pa_cons pe_str pa_nil)) pa_nil)))) pss_nil)
      (pss_cons (ps_if (pt_cmpR op_eq (pe_ix ix_kd (pv 1) pe_int (fun _ _ => rfl)) pe_str (nomark _)) (pss_one (ps_ret (pe_td (pa_cons (pe_td (pa_cons pe_str pa_nil)) (pa_cons (pe_td (pa_cons pe_str (pa_cons (pe_call (ok__law_number T) hr (by rfl) T._law_number.g T._law_number.F.kp T._law_number.b .nil pass0 (pa_cons (pv 0) pa_nil)) pa_nil))) pa_nil))))) pss_nil)
      (pss_cons (ps_if (pt_cmpR op_eq (pe_ix ix_kd (pv 1) pe_int (fun _ _ => rfl)) pe_str (nomark _)) (pss_one (ps_ret (pe_td (pa_cons (pe_ix ix_listA (pe_ld (pa_cons (pe_td (pa_cons pe_str pa_nil)) (pa_cons (pe_td (pa_cons pe_str pa_nil)) pa_nil))) (pe_call (ok__law_next T) (hr.mono (by decide)) (by rfl) T._law_next.g T._law_next.F.kp T._law_next.b .nil pass0 (pa_cons (pv 0) (pa_cons pe_int pa_nil))) (fun _ _ => rfl)) pa_nil)))) pss_nil)
      (pss_cons (ps_set (i := 2) sc__law_deeds.nd rfl (by first | exact Or.inl rfl | exact Or.inr rfl) (pe_ld pa_nil))
      (pss_cons (ps_for PassesOwn.never rfl (pi_range1 (by rfl) T.z_range (pa_cons (pe_ix ix_selA (pe_ld (pa_cons (pe_op op_add pe_int (pe_call (ok__law_next T) (hr.mono (by decide)) (by rfl) T._law_next.g T._law_next.F.kp T._law_next.b .nil pass0 (pa_cons (pv 0) (pa_cons pe_int pa_nil)))) (pa_cons (pe_op op_add pe_int (pe_call (ok__law_next T) (hr.mono (by decide)) (by rfl) T._law_next.g T._law_next.F.kp T._law_next.b .nil pass0 (pa_cons (pv 0) (pa_cons pe_int pa_nil)))) pa_nil))) (pe_callTy call_int1 (by rfl) T.z_int (by decide +kernel) (pa_cons (pe_cmpR op_eq (pe_call (ok__law_next T) (hr.mono (by decide)) (by rfl) T._law_next.g T._law_next.F.kp T._law_next.b .nil pass0 (pa_cons (pv 0) (pa_cons pe_int pa_nil))) pe_int (nomark _)) pa_nil)) (fun _ _ => rfl)) pa_nil)) (pg_name (i := 3) sc__law_deeds.nd rfl (by first | exact Or.inl rfl | exact Or.inr rfl)) (pss_cons (ps_set (i := 4) sc__law_deeds.nd rfl (by first | exact Or.inl rfl | exact Or.inr rfl) (pe_ld (pa_cons (pe_td (pa_cons pe_str (pa_cons (pe_call (ok__law_number T) hr (by rfl) T._law_number.g T._law_number.F.kp T._law_number.b .nil pass0 (pa_cons (pv 0) pa_nil)) pa_nil))) (pa_cons (pe_td (pa_cons pe_str (pa_cons (pe_call (ok__law_number T) hr (by rfl) T._law_number.g T._law_number.F.kp T._law_number.b .nil pass0 (pa_cons (pv 0) pa_nil)) pa_nil))) (pa_cons (pe_td (pa_cons pe_str pa_nil)) pa_nil)))))
      (pss_one (ps_expr (pe_bm PySem.F.plainAttrs_list PySem.F.slot_list_append PySem.F.type_list_append mt_appA (pv 2) (pa_cons (pe_ix ix_listA (pv 4) (pe_call (ok__law_next T) (hr.mono (by decide)) (by rfl) T._law_next.g T._law_next.F.kp T._law_next.b .nil pass0 (pa_cons (pv 0) (pa_cons pe_int pa_nil))) (fun _ _ => rfl)) pa_nil))))))
      (pss_cons (ps_if (pt_cmpR op_eq (pe_call (ok__law_next T) (hr.mono (by decide)) (by rfl) T._law_next.g T._law_next.F.kp T._law_next.b .nil pass0 (pa_cons (pv 0) (pa_cons pe_int pa_nil))) pe_int (nomark _)) (pss_one (ps_expr (pe_bm PySem.F.plainAttrs_list PySem.F.slot_list_append PySem.F.type_list_append mt_appA (pv 2) (pa_cons (pe_td (pa_cons pe_str pa_nil)) pa_nil)))) pss_nil)
      (pss_one (ps_ret (pe_callTy call_tupleA (by rfl) T.z_tuple (by decide +kernel) (pa_cons (pv 2) pa_nil)))))))))), ?_⟩
  walk_at "go"
  refine ⟨[.str "row", .str "number"], .cons (.str _) (.cons (.str _) .nil), by simp, fun p1 H1 s1 t1 i1 => ?_⟩
  have d1 := hD.same s1
  have ik1 := ik.u t1
  have B1 : But D H H1 := same_but s1
  refine ⟨k.d, (Kd.row .num).d, Im.dp _ _ ik1, Im.dp _ _ i1, Kd.shaped hk, by decide +kernel, ?_⟩
  rw [Kd.eqv]
  refine ⟨_, rfl, ?_⟩
  cases k with
  | num =>
    obtain rfl := Im.s ik
    walk_at "go"
    refine Or.inl ⟨_, 110, rfl, rfl, by decide, by decide +kernel, ?_⟩
    walk_at "go"
    refine Or.inl ⟨_, 110, rfl, rfl, by decide, by decide +kernel, ?_⟩
    walk_at "go"
    refine ⟨[], .nil, by simp, fun l H2 nl s2 t2 a2 => ?_⟩
    have d2 := d1.same s2
    have ne := d1.ne_new nl
    have nl0 := s1.free nl
    have B2 : But D H H2 := B1.trans (same_but s2)
    walk_at "go"
    intro r3 H3 g1 g2 d3 b3
    walk_at "go"
    intro r4 H4 g3 g4 d4 b4
    walk_at "go"
    refine ⟨[.int (1 + r3), .int (1 + r4)], .cons (.int _) (.cons (.int _) .nil), by simp, fun p5 H5 n5 s5 t5 e5 => ?_⟩
    have d5 := d4.same s5
    walk_at "go"
    intro r6 H6 g5 g6 d6 b6
    walk_at "go"
    have ne5 := d4.ne_new n5
    refine ⟨_, _, _, _, rfl, e5.but b6 (b6.dtk d5) ne5.symm, rfl, fun v6 i6 => ?_⟩
    have a6 : Acc K H6 l [] := (((a2.but b3 (b3.dtk d2) ne.symm).but b4 (b4.dtk d3) ne.symm).same s5).but b6 (b6.dtk d5) ne.symm
    have B6 : But D H H6 := B2.trans (b3.trans (b4.trans ((same_but s5).trans b6)))
    obtain ⟨n, rfl, n1, n2⟩ : ∃ n : Nat, v6 = V.int n ∧ 1 ≤ n ∧ n ≤ 63 := by
      split at i6
      · exact ⟨(1 + r4).toNat, by rw [i6.i, Int.toNat_of_nonneg (by omega)], by omega, by omega⟩
      · exact ⟨(1 + r3).toNat, by rw [i6.i, Int.toNat_of_nonneg (by omega)], by omega, by omega⟩
    refine ⟨_, rfl, by omega, by omega, for_range (lo := 0) (n := n) (fun i σ H2 => Hold (∃ (ds : List Deed) (o3 o4 : Option V), σ = [some (.ref D), some (.str "number"), some (.ref l), o3, o4] ∧
        Acc K H2 l (ds.map Deed.d) ∧ ds.length = i ∧ (∀ t ∈ ds, t.Ok) ∧ (∀ t ∈ ds, simpleD t = true) ∧ IsDice K H2 D ∧ But D H H2)) (.mk ⟨[], none, none, rfl, a6, rfl, (fun _ h => by cases h), (fun _ h => by cases h), d6, B6⟩) ?_ ?_⟩
    · rintro i σ H7 hi h
      obtain ⟨ds, o3, o4, rfl, a7, rfl, ok7, k7, d7, B7⟩ := h.out
      walk_at "go"
      intro z8 H8 hz8 d8 b8
      walk_at "go"
      refine ⟨[.str "add", .int z8], .cons (.str _) (.cons (.int _) .nil), by simp, fun p9 H9 s9 t9 i9 => ?_⟩
      have d9 := d8.same s9
      walk_at "go"
      intro z10 H10 hz10 d10 b10
      walk_at "go"
      refine ⟨[.str "times", .int z10], .cons (.str _) (.cons (.int _) .nil), by simp, fun p11 H11 s11 t11 i11 => ?_⟩
      have d11 := d10.same s11
      walk_at "go"
      refine ⟨[.str "minus"], .cons (.str _) .nil, by simp, fun p12 H12 s12 t12 i12 => ?_⟩
      have d12 := d11.same s12
      have j9 := ((i9.u (b10.dtk d9)).u t11).u t12
      have j11 := i11.u t12
      walk_at "go"
      refine ⟨[(Deed.add z8).d, (Deed.times z10).d, Deed.minus.d], .cons j9 (.cons j11 (.cons i12 .nil)), by simp, fun p13 H13 n13 s13 t13 a13 => ?_⟩
      have d13 := d12.same s13
      have ne13 := d12.ne_new n13
      have al13 : Acc K H13 l (ds.map Deed.d) := (((((a7.but b8 (b8.dtk d7) ne.symm).same s9).but b10 (b10.dtk d9) ne.symm).same s11).same s12).same s13
      walk_at "go"
      intro r14 H14 g7 g8 d14 b14
      have a14 := a13.but b14 (b14.dtk d13) ne13.symm
      walk_at "go"
      obtain ⟨e, he, oke, ke⟩ : ∃ e : Deed, [(Deed.add z8).d, (Deed.times z10).d, Deed.minus.d][r14.toNat]? = some e.d ∧ e.Ok ∧ simpleD e = true := by
        have : r14 = 0 ∨ r14 = 1 ∨ r14 = 2 := by omega
        rcases this with rfl | rfl | rfl
        · exact ⟨.add z8, rfl, hz8, rfl⟩
        · exact ⟨.times z10, rfl, hz10, rfl⟩
        · exact ⟨.minus, rfl, trivial, rfl⟩
      refine ⟨_, _, _, r14.toNat, e.d, rfl, a14, rfl, by omega, he, fun v iv => ?_⟩
      walk_at "go"
      have al : Acc K H14 l (ds.map Deed.d) := al13.but b14 (b14.dtk d13) ne.symm
      have B14 : But D H H14 := B7.trans (b8.trans ((same_but s9).trans (b10.trans ((same_but s11).trans ((same_but s12).trans ((same_but s13).trans b14))))))
      refine ⟨_, _, _, _, rfl, rfl, al, iv, by simp; omega, fun H15 b15 t15 a15 => ?_⟩
      refine .mk ⟨ds ++ [e], _, _, rfl, by rw [List.map_append]; exact a15, by rw [List.length_append]; rfl, fun x hx => ?_, fun x hx => ?_, d14.keep t15 fun xs q => b15 _ _ ne q, ?_⟩
      · rcases List.mem_append.mp hx with hx | hx
        · exact ok7 x hx
        · rw [List.mem_singleton.mp hx]; exact oke
      · rcases List.mem_append.mp hx with hx | hx
        · exact k7 x hx
        · rw [List.mem_singleton.mp hx]; exact ke
      · intro b u hb q
        exact b15 _ _ (ne_of_none q nl0) (B14 _ _ hb q)
    · rintro σ H7 h
      obtain ⟨ds, o3, o4, rfl, a7, e7, ok7, k7, d7, B7⟩ := h.out
      walk_at "go"
      intro r8 H8 g7 g8 d8 b8
      have a8 := a7.but b8 (b8.dtk d7) ne.symm
      walk_at "go"
      refine ite_d (fun c => ?_) (fun c => ?_)
      · walk_at "go"
        refine ⟨[.str "both"], .cons (.str _) .nil, by simp, fun p9 H9 s9 t9 i9 => ?_⟩
        have a9 := a8.same s9
        have d9 := d8.same s9
        walk_at "go"
        refine ⟨_, _, _, _, rfl, rfl, a9, i9, by simp; omega, fun H10 b10 t10 a10 => ?_⟩
        walk_at "go"
        refine ⟨_, _, rfl, a10, fun p11 H11 s11 t11 i11 => ?_⟩
        refine q _ H11 (ds ++ [.both]) (.pair .num .num) (by rw [List.map_append]; exact i11) (drawn_num true (by omega) (by omega) ok7 k7) ((d9.keep t10 fun xs q => b10 _ _ ne q).same s11) ?_
        intro b u hb e
        exact s11 _ _ (b10 _ _ (ne_of_none e nl0) (s9 _ _ (b8 _ _ hb (B7 _ _ hb e))))
      · walk_at "go"
        refine ⟨_, _, rfl, a8, fun p11 H11 s11 t11 i11 => ?_⟩
        exact q _ H11 ds .num i11 (by have := drawn_num false (by omega) (by omega) ok7 k7; simpa using this) (d8.same s11) (B7.trans (b8.trans (same_but s11)))
  | pair a b =>
    walk_at "go"
    refine Or.inr ⟨_, 0, 0, _, ik1, rfl, rfl, rfl, fun v iv => ?_⟩
    obtain rfl := iv.s
    walk_at "go"
    refine Or.inr ⟨_, 0, 0, _, ik1, rfl, rfl, rfl, fun v iv => ?_⟩
    obtain rfl := iv.s
    walk_at "go"
    refine ⟨[.str "first"], .cons (.str _) .nil, by simp, fun p2 H2 s2 t2 i2 => ?_⟩
    walk_at "go"
    refine ⟨[.str "second"], .cons (.str _) .nil, by simp, fun p3 H3 s3 t3 i3 => ?_⟩
    walk_at "go"
    refine ⟨[Deed.first.d, Deed.second.d], .cons (i2.u t3) (.cons i3 .nil), by simp, fun p4 H4 n4 s4 t4 a4 => ?_⟩
    have d3 := (d1.same s2).same s3
    have d4 := d3.same s4
    have ne4 := d3.ne_new n4
    walk_at "go"
    intro r5 H5 g1 g2 d5 b5
    have a5 := a4.but b5 (b5.dtk d4) ne4.symm
    walk_at "go"
    obtain ⟨e, c, he, oke, ke, hc⟩ : ∃ (e : Deed) (c : Kd), [Deed.first.d, Deed.second.d][r5.toNat]? = some e.d ∧ e.Ok ∧ kindD e (.pair a b) = some c ∧ c.dp ≤ (Kd.pair a b).dp := by
      have : r5 = 0 ∨ r5 = 1 := by omega
      rcases this with rfl | rfl
      · exact ⟨.first, a, rfl, trivial, rfl, by simp only [Kd.dp]; omega⟩
      · exact ⟨.second, b, rfl, trivial, rfl, by simp only [Kd.dp]; omega⟩
    refine ⟨_, _, _, r5.toNat, e.d, rfl, a5, rfl, by omega, he, fun v iv => ?_⟩
    walk_at "go"
    refine ⟨[e.d], .cons iv .nil, by simp, fun p6 H6 s6 t6 i6 => ?_⟩
    exact q _ H6 [e] c i6 ⟨by simp, by simp, (fun x hx => by rw [List.mem_singleton.mp hx]; exact oke), (by show (kindD e _).bind _ = _; rw [ke]; rfl), by omega, fun _ => hc, mid_one ke (by omega), fun z => (nomatch z)⟩ (d5.same s6)
      (B1.trans ((same_but s2).trans ((same_but s3).trans ((same_but s4).trans (b5.trans (same_but s6))))))
  | row a =>
    have back : ∀ H2, IsDice K H2 D → But D H H2 → Im K H2 vk (Kd.row a).d → True := fun _ _ _ _ => trivial
    by_cases c : Kd.row a = Kd.row Kd.num
    · refine ite_t (decide_eq_true c) ?_
      walk_at "go"
      intro r2 H2 g1 g2 d2 b2
      walk_at "go"
      have ik2 := ik1.u (b2.dtk d1)
      refine ite_d (fun c2 => ?_) (fun c2 => ?_)
      · walk_at "go"
        refine ⟨[.str "sum"], .cons (.str _) .nil, by simp, fun p3 H3 s3 t3 i3 => ?_⟩
        walk_at "go"
        refine ⟨[Deed.sum.d], .cons i3 .nil, by simp, fun p4 H4 s4 t4 i4 => ?_⟩
        cases c
        exact q _ H4 [.sum] .num i4 ⟨by simp, by simp, (fun x hx => by rw [List.mem_singleton.mp hx]; exact trivial), rfl, by decide, fun _ => by decide, mid_one rfl (by decide), fun z => (nomatch z)⟩ ((d2.same s3).same s4)
          (B1.trans (b2.trans ((same_but s3).trans (same_but s4))))
      · walk_at "go"
        refine Or.inr ⟨_, 0, 0, _, ik2, rfl, rfl, rfl, fun v iv => ?_⟩
        obtain rfl := iv.s
        walk_at "go"
        refine ⟨[.str "many"], .cons (.str _) .nil, by simp, fun p3 H3 s3 t3 i3 => ?_⟩
        have d3 := d2.same s3
        walk_at "go"
        intro z4 H4 hz4 d4 b4
        walk_at "go"
        refine ⟨[.str "add", .int z4], .cons (.str _) (.cons (.int _) .nil), by simp, fun p5 H5 s5 t5 i5 => ?_⟩
        walk_at "go"
        refine ⟨[Deed.many.d, (Deed.add z4).d], .cons ((i3.u (b4.dtk d3)).u t5) (.cons i5 .nil), by simp, fun p6 H6 s6 t6 i6 => ?_⟩
        refine q _ H6 [.many, .add z4] .num i6 ⟨by simp, by simp, (fun x hx => ?_), rfl, by simp only [Kd.dp]; omega, fun _ => by simp only [Kd.dp]; omega, mid_two rfl rfl (by simp only [Kd.dp]; omega) (by simp only [Kd.dp]; omega), fun z => (nomatch z)⟩ ((d4.same s5).same s6)
          (B1.trans (b2.trans ((same_but s3).trans (b4.trans ((same_but s5).trans (same_but s6))))))
        rcases List.mem_cons.mp hx with rfl | hx
        · exact trivial
        · rw [List.mem_singleton.mp hx]; exact hz4
    · refine ite_f (decide_eq_false c) ?_
      walk_at "go"
      refine Or.inr ⟨_, 0, 0, _, ik1, rfl, rfl, rfl, fun v iv => ?_⟩
      obtain rfl := iv.s
      walk_at "go"
      refine ⟨[.str "many"], .cons (.str _) .nil, by simp, fun p3 H3 s3 t3 i3 => ?_⟩
      have d3 := d1.same s3
      walk_at "go"
      intro z4 H4 hz4 d4 b4
      walk_at "go"
      refine ⟨[.str "add", .int z4], .cons (.str _) (.cons (.int _) .nil), by simp, fun p5 H5 s5 t5 i5 => ?_⟩
      walk_at "go"
      refine ⟨[Deed.many.d, (Deed.add z4).d], .cons ((i3.u (b4.dtk d3)).u t5) (.cons i5 .nil), by simp, fun p6 H6 s6 t6 i6 => ?_⟩
      refine q _ H6 [.many, .add z4] .num i6 ⟨by simp, by simp, (fun x hx => ?_), rfl, by simp only [Kd.dp]; omega, fun _ => by simp only [Kd.dp]; omega, mid_two rfl rfl (by simp only [Kd.dp]; omega) (by simp only [Kd.dp]; omega), fun z => (nomatch z)⟩ ((d4.same s5).same s6)
        (B1.trans ((same_but s3).trans (b4.trans ((same_but s5).trans (same_but s6)))))
      rcases List.mem_cons.mp hx with rfl | hx
      · exact trivial
      · rw [List.mem_singleton.mp hx]; exact hz4

def spWeave (K : PySem.W.Frag) : Sp := fun vs H Q _ => ∃ (vd : V), vs = [vd] ∧ Hold (∃ (D : Addr), vd = .ref D ∧ IsDice K H D ∧
  ∀ p H' lw lk ls ks many, SqT K H' p [.ref lw, .ref lk, .int many] → Acc K H' lw (ls.map Ln.d) → Acc K H' lk (ks.map Kd.d) → H lw = none → H lk = none → lw ≠ lk → DrawnW ls ks many → IsDice K H' D → But D H H' → Q (.ref p) H')
inductive Wo where
  | map | keep | whil | take | skip
def Wo.s : Wo → Str
  | .map => "map"
  | .keep => "keep"
  | .whil => "while"
  | .take => "take"
  | .skip => "skip"
/-- what stands in a line of the word -/
def Wo.fits (w : Wo) (x : PyData) : Prop := match w with
  | .map => ∃ ds k', x = .tuple (ds.map Deed.d) ∧ DrawnD .num ds .num ∧ k' = Kd.num
  | .keep => ∃ ts, x = .tuple (ts.map Tst.d) ∧ testsCan ts = true
  | .whil => ∃ ts, x = .tuple (ts.map Tst.d) ∧ testsCan ts = true
  | .take => ∃ n, x = .int n ∧ 0 ≤ n ∧ n ≤ 9999
  | .skip => ∃ n, x = .int n ∧ 0 ≤ n ∧ n ≤ 9999
theorem Wo.line {w : Wo} {x : PyData} (h : w.fits x) (n : Nat) (a : Int) (ha : 0 ≤ a) (hn : a < n) : ∃ l, l.d = .tuple [.str w.s, x, .int a] ∧ DrawnL (List.replicate n .num) l .num ∧ two l = false := by
  have hk : (List.replicate n Kd.num)[a.toNat]? = some .num := by
    rw [List.getElem?_replicate, if_pos (by omega)]
  cases w with
  | map =>
    obtain ⟨ds, _, rfl, d, _⟩ := h
    exact ⟨.map ds a, rfl, .mapD ha hk (by decide) d, rfl⟩
  | keep =>
    obtain ⟨ts, rfl, d⟩ := h
    exact ⟨.keep ts a, rfl, .one rfl rfl ha hk d rfl (by decide) (mid_no fun _ _ z => nomatch z), rfl⟩
  | whil =>
    obtain ⟨ts, rfl, d⟩ := h
    exact ⟨.whil ts a, rfl, .one rfl rfl ha hk d rfl (by decide) (mid_no fun _ _ z => nomatch z), rfl⟩
  | take =>
    obtain ⟨m, rfl, m0, m1⟩ := h
    exact ⟨.take m a, rfl, .one rfl rfl ha hk (by show (decide (0 ≤ m) && decide (m ≤ 9999)) = true; rw [decide_eq_true m0, decide_eq_true m1]; rfl) rfl (by decide) (mid_no fun _ _ z => nomatch z), rfl⟩
  | skip =>
    obtain ⟨m, rfl, m0, m1⟩ := h
    exact ⟨.skip m a, rfl, .one rfl rfl ha hk (by show (decide (0 ≤ m) && decide (m ≤ 9999)) = true; rw [decide_eq_true m0, decide_eq_true m1]; rfl) rfl (by decide) (mid_no fun _ _ z => nomatch z), rfl⟩
theorem ok__law_long (T : Tx K w mg) : FnOk P w K mg base CX0 4 T._law_long.f T._law_long.fd ["_law_d"] (spWeave K) := by
  refine T._law_long.F.ok sc__law_long (fun vs H Q E h => ?_) (fun cdv A outer s H vs Q E hr h => ?_)
  · obtain ⟨a, rfl, _⟩ := h
    rfl
  obtain ⟨vd, rfl, h⟩ := h
  obtain ⟨D, rfl, d0, q⟩ := h.out
  refine ⟨_, (pss_cons (ps_set (i := 1) sc__law_long.nd rfl (by first | exact Or.inl rfl | exact Or.inr rfl) (pe_ld (pa_cons (pe_td (pa_cons pe_str (pa_cons pe_int pa_nil))) pa_nil)))
      (pss_cons (ps_set (i := 2) sc__law_long.nd rfl (by first | exact Or.inl rfl | exact Or.inr rfl) (pe_ix ix_listA (pe_ld (pa_cons pe_str (pa_cons pe_str (pa_cons pe_str (pa_cons pe_str (pa_cons pe_str pa_nil)))))) (pe_call (ok__law_next T) (hr.mono (by decide)) (by rfl) T._law_next.g T._law_next.F.kp T._law_next.b .nil pass0 (pa_cons (pv 0) (pa_cons pe_int pa_nil))) (fun _ _ => rfl)))
      (pss_cons (ps_for PassesOwn.never rfl (pi_range1 (by rfl) T.z_range (pa_cons (pe_op op_add pe_int (pe_call (ok__law_next T) (hr.mono (by decide)) (by rfl) T._law_next.g T._law_next.F.kp T._law_next.b .nil pass0 (pa_cons (pv 0) (pa_cons pe_int pa_nil)))) pa_nil)) (pg_name (i := 3) sc__law_long.nd rfl (by first | exact Or.inl rfl | exact Or.inr rfl)) (pss_cons (ps_set (i := 4) sc__law_long.nd rfl (by first | exact Or.inl rfl | exact Or.inr rfl) (pe_call (ok__law_next T) (hr.mono (by decide)) (by rfl) T._law_next.g T._law_next.F.kp T._law_next.b .nil pass0 (pa_cons (pv 0) (pa_cons pe_int pa_nil))))
      (pss_cons (ps_cut (ps_if (pt_cmpR op_eq (pv 2) pe_str (nomark _)) (pss_cons (ps_set (i := 4) sc__law_long.nd rfl (by first | exact Or.inl rfl | exact Or.inr rfl) (pe_slice sl_tupD (pe_call (ok__law_deeds T) hr (by rfl) T._law_deeds.g T._law_deeds.F.kp T._law_deeds.b .nil pass0 (pa_cons (pv 0) (pa_cons pe_str pa_nil))) po_none (po_some pe_int)))
      (pss_one (ps_set (i := 4) sc__law_long.nd rfl (by first | exact Or.inl rfl | exact Or.inr rfl) (pe_callTy call_tupleA (by rfl) T.z_tuple (by decide +kernel) (pa_cons (pe_lc (own := [("_law_deed", 6)]) (g := gName 6) rfl sc__law_long.nd (pi_tup (pv 4)) (blkOk_by (own := [("_law_deed", 6)]) (N := ["_law_d", "_law_weave_here", "_law_word", "_law_k", "_law_what", "_law_line_here", "_law_deed"]) (sc := defScope s__law_long) (by decide +kernel)) (fun _ _ _ _ _ => pg_name (i := 6) sc__law_long.nd rfl (Or.inl rfl)) (fun _ _ _ _ _ => pts_one (pt_cmpR (show OpR _ _ (rNeD K) from (op_neD hr.units)) (pv 6) (pe_tdK (K := K) rfl (pa_cons pe_str pa_nil)) (nomark _))) (fun _ _ _ _ _ => (pv 6))) pa_nil))))) pss_nil))
      (pss_cons (ps_cut (ps_if (PW.pt (pw_or (pt_cmpR op_eq (pv 2) pe_str (nomark _)) (pw_or1 (pt_cmpR op_eq (pv 2) pe_str (nomark _))))) (pss_one (ps_set (i := 4) sc__law_long.nd rfl (by first | exact Or.inl rfl | exact Or.inr rfl) (pe_call (ok__law_tests T) hr (by rfl) T._law_tests.g T._law_tests.F.kp T._law_tests.b .nil pass0 (pa_cons (pv 0) pa_nil)))) pss_nil))
      (pss_one (ps_expr (pe_bm PySem.F.plainAttrs_list PySem.F.slot_list_append PySem.F.type_list_append mt_appA (pv 1) (pa_cons (pe_td (pa_cons (pv 2) (pa_cons (pv 4) (pa_cons (pe_op op_sub (pe_callB call_lenA (by rfl) T.z_len PySem.boot_len (pa_cons (pv 1) pa_nil)) pe_int) pa_nil)))) pa_nil))))))))
      (pss_one (ps_ret (pe_tr (pa_cons (pv 1) (pa_cons (pe_lc (own := [("_law_line_here", 5)]) (g := gName 5) (tt := tYes) rfl sc__law_long.nd (pi_list (pv 1)) (blkOk_by (own := [("_law_line_here", 5)]) (N := ["_law_d", "_law_weave_here", "_law_word", "_law_k", "_law_what", "_law_line_here", "_law_deed"]) (sc := defScope s__law_long) (by decide +kernel)) (fun _ _ _ _ _ => pg_name (i := 5) sc__law_long.nd rfl (Or.inl rfl)) (fun _ _ _ _ _ => pts_nil) (fun _ _ _ _ _ => pe_str)) (pa_cons pe_int pa_nil))))))))), ?_⟩
  walk_at "go"
  refine ⟨[.str "source", .int 0], .cons (.str _) (.cons (.int _) .nil), by simp, fun p1 H1 s1 t1 i1 => ?_⟩
  have d1 := d0.same s1
  walk_at "go"
  refine ⟨[.tuple [.str "source", .int 0]], .cons i1 .nil, by simp, fun lw H2 n2 s2 t2 a2 => ?_⟩
  have d2 := d1.same s2
  have nw : H lw = none := s1.free n2
  have Dw : D ≠ lw := d0.ne_new nw
  have S2 := s1.trans s2
  walk_at "go"
  refine ⟨[.str "map", .str "keep", .str "while", .str "take", .str "skip"], .cons (.str _) (.cons (.str _) (.cons (.str _) (.cons (.str _) (.cons (.str _) .nil)))), by simp, fun l3 H3 n3 s3 t3 a3 => ?_⟩
  have d3 := d2.same s3
  have ne3 := d2.ne_new n3
  walk_at "go"
  intro r4 H4 e1 e2 d4 b4
  have a4 := a3.but b4 (b4.dtk d3) ne3.symm
  obtain ⟨wo, hwo⟩ : ∃ wo : Wo, [PyData.str "map", .str "keep", .str "while", .str "take", .str "skip"][r4.toNat]? = some (.str wo.s) := by
    have : r4 = 0 ∨ r4 = 1 ∨ r4 = 2 ∨ r4 = 3 ∨ r4 = 4 := by omega
    rcases this with rfl | rfl | rfl | rfl | rfl
    · exact ⟨.map, rfl⟩
    · exact ⟨.keep, rfl⟩
    · exact ⟨.whil, rfl⟩
    · exact ⟨.take, rfl⟩
    · exact ⟨.skip, rfl⟩
  walk_at "go"
  refine ⟨_, _, _, r4.toNat, _, rfl, a4, rfl, by omega, hwo, fun v iv => ?_⟩
  obtain rfl := iv.s
  have aw4 : Acc K H4 lw [(Ln.source 0).d] := (a2.same s3).but b4 (b4.dtk d3) Dw.symm
  have B4 : But D H H4 := (same_but S2).trans ((same_but s3).trans b4)
  walk_at "go"
  intro r5 H5 e3 e4 d5 b5
  have aw5 := aw4.but b5 (b5.dtk d4) Dw.symm
  walk_at "go"
  refine for_range (lo := 0) (n := (1 + r5).toNat) (fun i σ H6 => Hold (∃ (ls : List Ln) (o3 o4 : Option V), σ = [some (.ref D), some (.ref lw), some (.str wo.s), o3, o4, none, none] ∧ Acc K H6 lw (ls.map Ln.d) ∧ ls.length = i + 1 ∧
      GoodW 1 ls (List.replicate (i + 1) .num) ∧ twos ls = 0 ∧ IsDice K H6 D ∧ But D H H6))
    (.mk ⟨[.source 0], none, none, rfl, aw5, rfl, .snoc .nil (by decide) rfl rfl (by decide) (fun ds a k e _ => nomatch e), rfl, d5, B4.trans b5⟩) ?_ ?_
  · intro i σ H6 hi h
    obtain ⟨ls, o3, o4, rfl, a6, l6, g6, t6, d6, B6⟩ := h.out
    walk_at "go"
    intro r7 H7 e5 e6 d7 b7
    have a7 := a6.but b7 (b7.dtk d6) Dw.symm
    have B7 := B6.trans b7
    walk_at "go"
    refine ⟨fun σ H8 => Hold (∃ (x : PyData) (v : V), σ = [some (.ref D), some (.ref lw), some (.str wo.s), some (.int (0 + (i : Int))), some v, none, none] ∧ Im K H8 v x ∧ (wo.s = "map" → Wo.map.fits x) ∧ (wo.s ≠ "map" → x = .int r7) ∧
        Acc K H8 lw (ls.map Ln.d) ∧ IsDice K H8 D ∧ But D H H8), ?_, ?_⟩
    · cases wo with
      | map =>
        walk_at "go"
        refine .mk ⟨d7, .num, .str _, by decide, fun vd H8 ds k' id dd d8 b8 => ?_⟩
        have a8 := a7.but b8 (b8.dtk d7) Dw.symm
        walk_at "go"
        refine ⟨_, id, fun v9 H9 s9 t9 i9 => ?_⟩
        have e63 : cutD (ds.map Deed.d) none (some 63) = (ds.map Deed.d).take 63 := cut_to _ 63
        rw [e63, ← List.map_take] at i9
        obtain ⟨b, xs, rfl, ht, hs⟩ := i9.t
        have len := hs.len
        rw [List.length_map] at len
        have d9 := d8.same s9
        have a9 := a8.same s9
        walk_at "go"
        intro L nL
        refine lc_tup (K := K) (a := b) (xs := xs) (fun j H10 => Hold (Same H9 H10 ∧ Acc K H10 L ((((ds.take 63).take j).filter notBoth).map Deed.d)))
            (.mk ⟨same_new nL, acc_nil upd_same⟩) (fun j H10 _ h => (same_tk h.out.1).t _ _ ht) ?_ ?_
        · intro j y H10 hj h
          obtain ⟨s10, a10⟩ := h.out
          obtain ⟨d, hd, iy⟩ := hs.get hj
          rw [List.getElem?_map] at hd
          obtain ⟨d, hd', rfl⟩ := Option.map_eq_some_iff.mp hd
          have iy10 := iy.u (same_tk s10)
          walk_at "go"
          refine ⟨[.str "both"], .cons (.str _) .nil, by simp, fun p11 H11 s11 t11 i11 => ?_⟩
          refine ⟨d.d, Deed.both.d, (iy10.u t11).p, i11.p, d.shaped, by decide +kernel, ?_⟩
          rw [Deed.eqv]
          refine ⟨_, rfl, ?_⟩
          have s12 := s10.trans s11
          have a12 := a10.same s11
          have lim : (List.map Deed.d (((ds.take 63).take j).filter notBoth)).length < 1000000 := by
            rw [List.length_map]
            have h1 := List.length_filter_le notBoth ((ds.take 63).take j)
            rw [List.length_take, List.length_take] at h1
            omega
          by_cases cn : notBoth d = true
          · refine ite_t cn ?_
            walk_at "go"
            obtain ⟨acc, ea, hla, b13, t13, a13⟩ := a12.push (iy10.u t11) lim
            refine ⟨acc, ea, hla, .mk ⟨same_put s12 nL, ?_⟩⟩
            rw [take_succ hd', List.filter_append, List.map_append]
            have : [d].filter notBoth = [d] := by rw [List.filter_cons_of_pos cn, List.filter_nil]
            rw [this]
            exact a13
          · refine ite_f (Bool.eq_false_iff.mpr cn) ?_
            refine .mk ⟨s12, ?_⟩
            rw [take_succ hd', List.filter_append]
            have : [d].filter notBoth = [] := by rw [List.filter_cons_of_neg cn, List.filter_nil]
            rw [this, List.append_nil]
            exact a12
        · intro H10 h
          obtain ⟨s10, a10⟩ := h.out
          rw [len, List.take_length] at a10
          walk_at "go"
          refine ⟨_, _, rfl, a10, fun v14 H14 s14 t14 i14 => ?_⟩
          obtain ⟨es, bb, rfl, m1, m2, si⟩ := dd.num rfl
          rw [drawn_cut m2 si] at i14
          have ok : ∀ t ∈ es, t.Ok := fun t ht => dd.ok t (List.mem_append.mpr (.inl ht))
          have dn := drawn_num false m1 m2 ok si
          refine .mk ⟨_, _, rfl, i14, fun _ => ⟨es, .num, rfl, by simpa using dn, rfl⟩, fun z => absurd rfl z, (a9.same s10).same s14, (d9.same s10).same s14, B7.trans (b8.trans ((same_but s9).trans ((same_but s10).trans (same_but s14))))⟩
      | _ =>
        walk_at "go"
        exact .mk ⟨.int r7, _, rfl, .int _, fun z => absurd z (by decide +kernel), fun _ => rfl, a7, d7, B7⟩
    intro σ8 H8 h
    obtain ⟨x8, v8, rfl, i8, fm, fo, a8, d8, B8⟩ := h.out
    refine ⟨fun σ H9 => Hold (∃ (x : PyData) (v : V), σ = [some (.ref D), some (.ref lw), some (.str wo.s), some (.int (0 + (i : Int))), some v, none, none] ∧ Im K H9 v x ∧ wo.fits x ∧ Acc K H9 lw (ls.map Ln.d) ∧ IsDice K H9 D ∧ But D H H9), ?_, ?_⟩
    · cases wo with
      | map =>
        walk_at "go"
        exact .mk ⟨_, _, rfl, i8, fm rfl, a8, d8, B8⟩
      | keep =>
        walk_at "go"
        intro vt H9 ts it m1 m2 okt d9 b9
        exact .mk ⟨_, _, rfl, it, ⟨ts, rfl, testsCan_of m1 m2 okt⟩, a8.but b9 (b9.dtk d8) Dw.symm, d9, B8.trans b9⟩
      | whil =>
        walk_at "go"
        intro vt H9 ts it m1 m2 okt d9 b9
        exact .mk ⟨_, _, rfl, it, ⟨ts, rfl, testsCan_of m1 m2 okt⟩, a8.but b9 (b9.dtk d8) Dw.symm, d9, B8.trans b9⟩
      | take =>
        walk_at "go"
        exact .mk ⟨_, _, rfl, i8, ⟨r7, fo (by decide +kernel), e5, by omega⟩, a8, d8, B8⟩
      | skip =>
        walk_at "go"
        exact .mk ⟨_, _, rfl, i8, ⟨r7, fo (by decide +kernel), e5, by omega⟩, a8, d8, B8⟩
    intro σ9 H9 h
    obtain ⟨x9, v9, rfl, i9, f9, a9, d9, B9⟩ := h.out
    walk_at "go"
    refine ⟨_, _, rfl, a9, ?_⟩
    rw [List.length_map, l6]
    obtain ⟨l, el, dl, tl⟩ := Wo.line f9 (i + 1) (((i + 1 : Nat) : Int) - 1) (by omega) (by omega)
    walk_at "go"
    refine ⟨[.str wo.s, x9, .int (((i + 1 : Nat) : Int) - 1)], .cons (.str _) (.cons i9 (.cons (.int _) .nil)), by simp, fun p10 H10 s10 t10 i10 => ?_⟩
    rw [← el] at i10
    have a10 := a9.same s10
    refine ⟨_, _, _, _, rfl, rfl, a10, i10, by rw [List.length_map]; omega, fun H11 b11 t11 a11 => ?_⟩
    refine .mk ⟨ls ++ [l], _, _, rfl, by rw [List.map_append]; exact a11, by rw [List.length_append, l6]; rfl, ?_, ?_, (d9.same s10).keep t11 fun xs e => b11 _ _ Dw e, ?_⟩
    · rw [List.replicate_succ']
      exact g6.more dl
    · unfold twos at *
      rw [List.filter_append, List.length_append, t6, List.filter_cons_of_neg (by rw [tl]; decide), List.filter_nil]
      rfl
    · intro b u hb e
      exact b11 _ _ (ne_of_none e nw) (s10 _ _ (B9 _ _ hb e))
  · intro σ H6 h
    obtain ⟨ls, o3, o4, rfl, a6, l6, g6, t6, d6, B6⟩ := h.out
    obtain ⟨xs, e6, i6⟩ := id a6
    have len := i6.len
    rw [List.length_map] at len
    walk_at "go"
    refine ⟨⟨_, SqL.of e6⟩, fun lk nk => lc_list (K := K) (a := lw) (xs := xs) (fun j H7 => Hold (Same H6 H7 ∧ Acc K H7 lk (List.replicate j (PyData.str "number"))))
        (.mk ⟨same_new nk, acc_nil upd_same⟩) (fun j H7 _ h => SqL.of (h.out.1 _ _ e6)) ?_ ?_⟩
    · intro j y H7 hj h
      obtain ⟨s7, a7⟩ := h.out
      have hj' := (List.getElem?_eq_some_iff.mp hj).1
      walk_at "go"
      obtain ⟨acc, ea, hla, b8, t8, a8⟩ := a7.push (.str "number") (by rw [List.length_replicate]; omega)
      refine ⟨acc, ea, hla, .mk ⟨same_put s7 nk, ?_⟩⟩
      rw [List.replicate_succ']
      exact a8
    · intro H7 h
      obtain ⟨s7, a7⟩ := h.out
      walk_at "go"
      refine ⟨by simp, fun p8 H8 n8 s8 t8 e8 => ?_⟩
      have nkH : H lk = none := by
        cases z : H lk with
        | none => rfl
        | some u =>
          by_cases hD : lk = D
          · obtain ⟨_, eD⟩ := d6.at
            rw [hD, eD] at nk
            cases nk
          · rw [B6 _ _ hD z] at nk
            cases nk
      have wk : lw ≠ lk := ne_of_none e6 nk
      have a8 := a7.same s8
      rw [len, l6] at a8
      refine q p8 H8 lw lk ls (List.replicate ((1 + r5).toNat + 1) .num) 1 (SqT.of e8) ((a6.same s7).same s8) ?_ nw nkH wk ⟨g6, by omega, by omega, by decide, by decide, fun k hk => ?_, by omega⟩ ((d6.same s7).same s8) (B6.trans ((same_but s7).trans (same_but s8)))
      · rw [List.map_replicate]
        exact a8
      · rw [List.eq_of_mem_replicate hk]
        decide

def spLine (K : PySem.W.Frag) : Sp := fun vs H Q _ => ∃ (vd vp : V), vs = [vd, vp] ∧ Hold (∃ (D p : Addr) (ks : List Kd), vd = .ref D ∧ vp = .ref p ∧ IsDice K H D ∧ D ≠ p ∧ Acc K H p (ks.map Kd.d) ∧ 1 ≤ ks.length ∧ ks.length ≤ 100 ∧ (∀ k ∈ ks, k.dp ≤ 2) ∧
  ∀ v H' l k, Im K H' v l.d → DrawnL ks l k → IsDice K H' D → But D H H' → Q v H')
theorem ok__law_line (T : Tx K w mg) : FnOk P w K mg base CX0 4 T._law_line.f T._law_line.fd ["_law_d", "_law_kinds"] (spLine K) := by
  refine T._law_line.F.ok sc__law_line (fun vs H Q E h => ?_) (fun cdv A outer s H vs Q E hr h => ?_)
  · obtain ⟨a, b, rfl, _⟩ := h
    rfl
  obtain ⟨vd, vp, rfl, h⟩ := h
  obtain ⟨D, p, ks, rfl, rfl, d0, ne, a0, l1, l100, hd, q⟩ := h.out
  refine ⟨_, (pss_cons (ps_set (i := 2) sc__law_line.nd rfl (by first | exact Or.inl rfl | exact Or.inr rfl) (pe_op op_sub (pe_op op_sub (pe_callB call_lenA (by rfl) T.z_len PySem.boot_len (pa_cons (pv 1) pa_nil)) pe_int) (pe_call (ok__law_next T) (hr.mono (by decide)) (by rfl) T._law_next.g T._law_next.F.kp T._law_next.b .nil pass0 (pa_cons (pv 0) (pa_cons (pe_callB (call_min2N rfl) (by rfl) T.z_min (by decide +kernel) (pa_cons pe_int (pa_cons (pe_callB call_lenA (by rfl) T.z_len PySem.boot_len (pa_cons (pv 1) pa_nil)) pa_nil))) pa_nil)))))
      (pss_cons (ps_set (i := 3) sc__law_line.nd rfl (by first | exact Or.inl rfl | exact Or.inr rfl) (pe_call (ok__law_next T) (hr.mono (by decide)) (by rfl) T._law_next.g T._law_next.F.kp T._law_next.b .nil pass0 (pa_cons (pv 0) (pa_cons (pe_callB call_lenA (by rfl) T.z_len PySem.boot_len (pa_cons (pv 1) pa_nil)) pa_nil))))
      (pss_cons (ps_set (i := 4) sc__law_line.nd rfl (by first | exact Or.inl rfl | exact Or.inr rfl) (pe_call (ok__law_next T) (hr.mono (by decide)) (by rfl) T._law_next.g T._law_next.F.kp T._law_next.b .nil pass0 (pa_cons (pv 0) (pa_cons pe_int pa_nil))))
      (pss_cons (ps_set (i := 5) sc__law_line.nd rfl (by first | exact Or.inl rfl | exact Or.inr rfl) (pe_ix ix_listA (pv 1) (pv 2) (fun _ _ => rfl)))
      (pss_cons (ps_set (i := 6) sc__law_line.nd rfl (by first | exact Or.inl rfl | exact Or.inr rfl) (pe_td (pa_cons pe_str (pa_cons (pe_td (pa_cons pe_str (pa_cons pe_str (pa_cons pe_str pa_nil)))) pa_nil))))
      (pss_cons (ps_cut (ps_if (PW.pt (pw_or (pt_cmpR op_eq (pv 4) pe_int (nomark _)) (pw_or1 (pt_cmpR op_eq (pv 4) pe_int (nomark _))))) (pss_cons (ps_set (i := 7) sc__law_line.nd rfl (by first | exact Or.inl rfl | exact Or.inr rfl) (pe_call (ok__law_next T) (hr.mono (by decide)) (by rfl) T._law_next.g T._law_next.F.kp T._law_next.b .nil pass0 (pa_cons (pv 0) (pa_cons pe_int pa_nil))))
      (pss_cons (ps_cut (ps_if (pt_cmpR op_eq (pe_call (ok__law_next T) (hr.mono (by decide)) (by rfl) T._law_next.g T._law_next.F.kp T._law_next.b .nil pass0 (pa_cons (pv 0) (pa_cons pe_int pa_nil))) pe_int (nomark _)) (pss_one (ps_set (i := 7) sc__law_line.nd rfl (by first | exact Or.inl rfl | exact Or.inr rfl) (pe_call (ok__law_next T) (hr.mono (by decide)) (by rfl) T._law_next.g T._law_next.F.kp T._law_next.b .nil pass0 (pa_cons (pv 0) (pa_cons pe_int pa_nil))))) pss_nil))
      (pss_one (ps_ret (pe_td (pa_cons (pe_ix ix_listA (pe_ld (pa_cons pe_str (pa_cons pe_str (pa_cons pe_str pa_nil)))) (pv 4) (fun _ _ => rfl)) (pa_cons (pv 7) (pa_cons (pv 2) pa_nil)))))))) pss_nil))
      (pss_cons (ps_cut (ps_if (PW.pt (pw_and (pt_cmpR op_eq (pv 4) pe_int (nomark _)) (pw_and1 (pt_cmpR (op_inT (hu65 hr)) (pv 5) (pv 6) (by rfl))))) (pss_one (ps_ret (pe_td (pa_cons pe_str (pa_cons (pe_op op_add pe_int (pe_call (ok__law_next T) (hr.mono (by decide)) (by rfl) T._law_next.g T._law_next.F.kp T._law_next.b .nil pass0 (pa_cons (pv 0) (pa_cons pe_int pa_nil)))) (pa_cons (pv 2) pa_nil)))))) pss_nil))
      (pss_cons (ps_cut (ps_if (PW.pt (pw_and (pt_cmpR op_eq (pv 4) pe_int (nomark _)) (pw_and (pt_cmpR (op_inT (hu65 hr)) (pv 5) (pv 6) (by rfl)) (pw_and1 (pt_cmpR (op_inT (hu65 hr)) (pe_ix ix_listA (pv 1) (pv 3) (fun _ _ => rfl)) (pv 6) (by rfl)))))) (pss_one (ps_ret (pe_td (pa_cons pe_str (pa_cons (pv 2) (pa_cons (pv 3) pa_nil)))))) pss_nil))
      (pss_cons (ps_cut (ps_if (pt_cmpR op_eq (pv 4) pe_int (nomark _)) (pss_cons (ps_setLc (i := 8) (own := [("_law_k", 9)]) (g := gName 9) rfl sc__law_line.nd rfl rfl (sw_true rfl rfl rfl (by decide +kernel)) (pi_range1 (by rfl) T.z_range (pa_cons (pe_callB call_lenA (by rfl) T.z_len PySem.boot_len (pa_cons (pv 1) pa_nil)) pa_nil)) (blkOk_by (own := [("_law_k", 9)]) (N := ["_law_d", "_law_kinds", "_law_a", "_law_b", "_law_way", "_law_kind_here", "_law_simple", "_law_many", "_law_same", "_law_k"]) (sc := defScope s__law_line) (by decide +kernel)) (fun _ _ _ _ _ => pg_name (i := 9) sc__law_line.nd rfl (Or.inl rfl)) (fun _ _ _ _ _ => pts_one (pt_cmpR (show OpR _ _ (rEqD K) from (op_eqD hr.units)) (pe_ix (show IxR _ (rIxA K) from ix_listA) (pv 1) (pv 9) (fun _ _ => rfl)) (pv 5) (nomark _))) (fun _ _ _ _ _ => (pv 9)))
      (pss_one (ps_ret (pe_td (pa_cons pe_str (pa_cons (pv 2) (pa_cons (pe_ix ix_listA (pv 8) (pe_op op_mod (pv 3) (pe_callB call_lenA (by rfl) T.z_len PySem.boot_len (pa_cons (pv 8) pa_nil))) (fun _ _ => rfl)) pa_nil))))))) pss_nil))
      (pss_cons (ps_cut (ps_if (PW.pt (pw_or (pt_cmpR (op_neD hr.units) (pv 5) pe_str (nomark _)) (pw_or1 (pt_cmpR op_lt (pv 4) pe_int (nomark _))))) (pss_one (ps_ret (pe_td (pa_cons pe_str (pa_cons (pe_call (ok__law_deeds T) hr (by rfl) T._law_deeds.g T._law_deeds.F.kp T._law_deeds.b .nil pass0 (pa_cons (pv 0) (pa_cons (pv 5) pa_nil))) (pa_cons (pv 2) pa_nil)))))) pss_nil))
      (pss_cons (ps_cut (ps_if (pt_cmpR op_lt (pv 4) pe_int (nomark _)) (pss_one (ps_ret (pe_td (pa_cons (pe_ix ix_listA (pe_ld (pa_cons pe_str (pa_cons pe_str pa_nil))) (pe_op op_fdiv (pv 4) pe_int) (fun _ _ => rfl)) (pa_cons (pe_call (ok__law_tests T) hr (by rfl) T._law_tests.g T._law_tests.F.kp T._law_tests.b .nil pass0 (pa_cons (pv 0) pa_nil)) (pa_cons (pv 2) pa_nil)))))) pss_nil))
      (pss_cons (ps_cut (ps_if (pt_cmpR op_eq (pv 4) pe_int (nomark _)) (pss_one (ps_ret (pe_td (pa_cons pe_str (pa_cons (pe_callB (call_max2N rfl) (by rfl) T.z_max (by decide +kernel) (pa_cons pe_int (pa_cons (pe_call (ok__law_number T) (hr.mono (by decide)) (by rfl) T._law_number.g T._law_number.F.kp T._law_number.b .nil pass0 (pa_cons (pv 0) pa_nil)) pa_nil))) (pa_cons (pv 2) pa_nil)))))) pss_nil))
      (pss_cons (ps_cut (ps_if (pt_cmpR op_eq (pv 4) pe_int (nomark _)) (pss_one (ps_ret (pe_td (pa_cons pe_str (pa_cons (pe_ix ix_listA (pe_ld (pa_cons pe_str (pa_cons pe_str (pa_cons pe_str (pa_cons pe_str pa_nil))))) (pe_call (ok__law_next T) (hr.mono (by decide)) (by rfl) T._law_next.g T._law_next.F.kp T._law_next.b .nil pass0 (pa_cons (pv 0) (pa_cons pe_int pa_nil))) (fun _ _ => rfl)) (pa_cons (pe_call (ok__law_number T) (hr.mono (by decide)) (by rfl) T._law_number.g T._law_number.F.kp T._law_number.b .nil pass0 (pa_cons (pv 0) pa_nil)) (pa_cons (pv 2) pa_nil))))))) pss_nil))
      (pss_cons (ps_cut (ps_if (PW.pt (pw_and (pt_cmpR op_eq (pv 4) pe_int (nomark _)) (pw_and1 (pt_cmpR (op_eqD hr.units) (pe_ix ix_listA (pv 1) (pv 3) (fun _ _ => rfl)) pe_str (nomark _))))) (pss_one (ps_ret (pe_td (pa_cons pe_str (pa_cons (pv 2) (pa_cons (pv 3) pa_nil)))))) pss_nil))
      (pss_one (ps_ret (pe_td (pa_cons pe_str (pa_cons (pe_call (ok__law_deeds T) hr (by rfl) T._law_deeds.g T._law_deeds.F.kp T._law_deeds.b .nil pass0 (pa_cons (pv 0) (pa_cons (pv 5) pa_nil))) (pa_cons (pv 2) pa_nil)))))))))))))))))))), ?_⟩
  -- a = len(kinds) - 1 - next(d, min(3, len(kinds)))
  walk_at "go"
  refine ⟨_, _, rfl, a0, ?_⟩
  walk_at "go"
  refine ⟨_, _, rfl, a0, ?_⟩
  walk_at "go"
  rw [List.length_map]
  walk_at "go"
  intro r1 H1 g1 g2 d1 b1
  have a1 := a0.but b1 (b1.dtk d0) ne.symm
  walk_at "go"
  refine ⟨_, _, rfl, a1, ?_⟩
  walk_at "go"
  rw [List.length_map]
  walk_at "go"
  intro rb H2 g3 g4 d2 b2
  have a2 := a1.but b2 (b2.dtk d1) ne.symm
  walk_at "go"
  intro w H3 g5 g6 d3 b3
  have a3 := a2.but b3 (b3.dtk d2) ne.symm
  have ra0 : 0 ≤ ((ks.length : Int) - 1 - r1) := by omega
  obtain ⟨ka, hka⟩ : ∃ k, ks[((ks.length : Int) - 1 - r1).toNat]? = some k := ⟨_, List.getElem?_eq_getElem (by omega)⟩
  obtain ⟨kb, hkb⟩ : ∃ k, ks[rb.toNat]? = some k := ⟨_, List.getElem?_eq_getElem (by omega)⟩
  have ha' : (ks.map Kd.d)[((ks.length : Int) - 1 - r1).toNat]? = some ka.d := by rw [List.getElem?_map, hka]; rfl
  have hb' : (ks.map Kd.d)[rb.toNat]? = some kb.d := by rw [List.getElem?_map, hkb]; rfl
  have da := hd ka (List.mem_of_getElem? hka)
  have db := hd kb (List.mem_of_getElem? hkb)
  walk_at "go"
  refine ⟨_, _, ((ks.length : Int) - 1 - r1), ((ks.length : Int) - 1 - r1).toNat, _, rfl, a3, rfl, by omega, ha', fun vk ik => ?_⟩
  walk_at "go"
  refine ⟨[.str "pair", .str "number", .str "number"], .cons (.str _) (.cons (.str _) (.cons (.str _) .nil)), by simp, fun p4 H4 s4 t4 i4 => ?_⟩
  walk_at "go"
  refine ⟨[Kd.num.d, (Kd.pair .num .num).d], .cons (.str _) (.cons i4 .nil), by simp, fun p5 H5 s5 t5 i5 => ?_⟩
  have s45 := s4.trans s5
  have d5 := (d3.same s4).same s5
  have a5 := (a3.same s4).same s5
  have ik5 := (ik.u t4).u t5
  have B5 : But D H H5 := b1.trans (b2.trans (b3.trans (same_but s45)))
  clear ik i4 a0 a1 a2 a3
  -- what holds at each test
  have fin : ∀ (v : V) H' l k, Im K H' v l.d → DrawnL ks l k → IsDice K H' D → But D H5 H' → Q v H' := fun v H' l k i d ds b => q v H' l k i d ds (B5.trans b)
  refine ⟨fun σ H' => Hold (σ = [some (.ref D), some (.ref p), some (.int ((ks.length : Int) - 1 - r1)), some (.int rb), some (.int w), some vk, some (.ref p5), none, none, none] ∧ H5 = H'), ?_, ?_⟩
  · by_cases w1 : w = 1
    · subst w1
      walk_at "go"
      intro m5 H6 e1 e2 d6 b6
      walk_at "go"
      refine ⟨fun σ H' => Hold (∃ m : Int, σ = [some (.ref D), some (.ref p), some (.int ((ks.length : Int) - 1 - r1)), some (.int rb), some (.int 1), some vk, some (.ref p5), some (.int m), none, none] ∧ 0 ≤ m ∧ m ≤ 9999 ∧ IsDice K H' D ∧ But D H5 H'), ?_, ?_⟩
      · walk_at "go"
        intro r7 H7 e3 e4 d7 b7
        walk_at "go"
        refine ite_d (fun c => ?_) (fun c => ?_)
        · walk_at "go"
          intro m8 H8 e5 e6 d8 b8
          exact .mk ⟨m8, rfl, e5, by omega, d8, b6.trans (b7.trans b8)⟩
        · walk_at "go"
          exact .mk ⟨m5, rfl, e1, by omega, d7, b6.trans b7⟩
      intro σ' H' h
      obtain ⟨m, rfl, m0, m1, d9, b9⟩ := h.out
      walk_at "go"
      refine ⟨[.str "", .str "take", .str "skip"], .cons (.str _) (.cons (.str _) (.cons (.str _) .nil)), by simp, fun l10 H10 n10 s10 t10 a10 => ?_⟩
      walk_at "go"
      refine ⟨_, _, _, 1, _, rfl, a10, rfl, rfl, rfl, fun v iv => ?_⟩
      obtain rfl := iv.s
      walk_at "go"
      refine ⟨[.str "take", .int m, .int ((ks.length : Int) - 1 - r1)], .cons (.str _) (.cons (.int _) (.cons (.int _) .nil)), by simp, fun p11 H11 s11 t11 i11 => ?_⟩
      exact fin _ H11 (.take m ((ks.length : Int) - 1 - r1)) ka i11 (.one rfl rfl ra0 hka (by show (decide (0 ≤ m) && decide (m ≤ 9999)) = true; rw [decide_eq_true m0, decide_eq_true m1]; rfl) rfl da (mid_no fun _ _ z => nomatch z))
        ((d9.same s10).same s11) (b9.trans ((same_but s10).trans (same_but s11)))
    by_cases w2 : w = 2
    · subst w2
      walk_at "go"
      intro m5 H6 e1 e2 d6 b6
      walk_at "go"
      refine ⟨fun σ H' => Hold (∃ m : Int, σ = [some (.ref D), some (.ref p), some (.int ((ks.length : Int) - 1 - r1)), some (.int rb), some (.int 2), some vk, some (.ref p5), some (.int m), none, none] ∧ 0 ≤ m ∧ m ≤ 9999 ∧ IsDice K H' D ∧ But D H5 H'), ?_, ?_⟩
      · walk_at "go"
        intro r7 H7 e3 e4 d7 b7
        walk_at "go"
        refine ite_d (fun c => ?_) (fun c => ?_)
        · walk_at "go"
          intro m8 H8 e5 e6 d8 b8
          exact .mk ⟨m8, rfl, e5, by omega, d8, b6.trans (b7.trans b8)⟩
        · walk_at "go"
          exact .mk ⟨m5, rfl, e1, by omega, d7, b6.trans b7⟩
      intro σ' H' h
      obtain ⟨m, rfl, m0, m1, d9, b9⟩ := h.out
      walk_at "go"
      refine ⟨[.str "", .str "take", .str "skip"], .cons (.str _) (.cons (.str _) (.cons (.str _) .nil)), by simp, fun l10 H10 n10 s10 t10 a10 => ?_⟩
      walk_at "go"
      refine ⟨_, _, _, 2, _, rfl, a10, rfl, rfl, rfl, fun v iv => ?_⟩
      obtain rfl := iv.s
      walk_at "go"
      refine ⟨[.str "skip", .int m, .int ((ks.length : Int) - 1 - r1)], .cons (.str _) (.cons (.int _) (.cons (.int _) .nil)), by simp, fun p11 H11 s11 t11 i11 => ?_⟩
      exact fin _ H11 (.skip m ((ks.length : Int) - 1 - r1)) ka i11 (.one rfl rfl ra0 hka (by show (decide (0 ≤ m) && decide (m ≤ 9999)) = true; rw [decide_eq_true m0, decide_eq_true m1]; rfl) rfl da (mid_no fun _ _ z => nomatch z))
        ((d9.same s10).same s11) (b9.trans ((same_but s10).trans (same_but s11)))
    walk_at "go"
    refine ite_f (dv_f w1) ?_
    walk_at "go"
    refine ite_f (dv_f w2) ?_
    walk_at "go"
    exact .mk ⟨rfl, rfl⟩
  intro σ' H' h
  obtain ⟨rfl, rfl⟩ := h.out
  refine ⟨fun σ H' => Hold (σ = [some (.ref D), some (.ref p), some (.int ((ks.length : Int) - 1 - r1)), some (.int rb), some (.int w), some vk, some (.ref p5), none, none, none] ∧ H5 = H'), ?_, ?_⟩
  · by_cases w3 : w = 3
    · subst w3
      walk_at "go"
      refine ⟨ka.d, _, ik5, i5, Kd.shaped (by omega), by decide +kernel, ?_⟩
      rw [simple_any]
      refine ⟨_, rfl, ?_⟩
      by_cases cs : simpleK ka = true
      · refine ite_t cs ?_
        walk_at "go"
        intro r6 H6 e1 e2 d6 b6
        walk_at "go"
        refine ⟨[.str "window", .int (1 + r6), .int ((ks.length : Int) - 1 - r1)], .cons (.str _) (.cons (.int _) (.cons (.int _) .nil)), by simp, fun p11 H11 s11 t11 i11 => ?_⟩
        have := simple_dp cs
        exact fin _ H11 (.window (1 + r6) ((ks.length : Int) - 1 - r1)) (.row ka) i11 (.one rfl rfl ra0 hka (by show (decide (1 ≤ 1 + r6) && decide (1 + r6 ≤ 9)) = true; rw [decide_eq_true (by omega), decide_eq_true (by omega)]; rfl) rfl (by simp only [Kd.dp]; omega) (mid_no fun _ _ z => nomatch z))
          (d6.same s11) (b6.trans (same_but s11))
      · refine ite_f (Bool.eq_false_iff.mpr cs) ?_
        walk_at "go"
        exact .mk ⟨rfl, rfl⟩
    · walk_at "go"
      refine ite_f (dv_f w3) ?_
      walk_at "go"
      exact .mk ⟨rfl, rfl⟩
  intro σ' H' h
  obtain ⟨rfl, rfl⟩ := h.out
  refine ⟨fun σ H' => Hold (σ = [some (.ref D), some (.ref p), some (.int ((ks.length : Int) - 1 - r1)), some (.int rb), some (.int w), some vk, some (.ref p5), none, none, none] ∧ H5 = H'), ?_, ?_⟩
  · by_cases w4 : w = 4
    · subst w4
      walk_at "go"
      refine ⟨ka.d, _, ik5, i5, Kd.shaped (by omega), by decide +kernel, ?_⟩
      rw [simple_any]
      refine ⟨_, rfl, ?_⟩
      by_cases cs : simpleK ka = true
      · refine ite_t cs ?_
        walk_at "go"
        refine ⟨_, _, _, rb.toNat, _, rfl, a5, rfl, by omega, hb', fun vb ib => ?_⟩
        walk_at "go"
        refine ⟨kb.d, _, ib, i5, Kd.shaped (by omega), by decide +kernel, ?_⟩
        rw [simple_any]
        refine ⟨_, rfl, ?_⟩
        by_cases cb : simpleK kb = true
        · refine ite_t cb ?_
          walk_at "go"
          refine ⟨[.str "pair", .int ((ks.length : Int) - 1 - r1), .int rb], .cons (.str _) (.cons (.int _) (.cons (.int _) .nil)), by simp, fun p11 H11 s11 t11 i11 => ?_⟩
          have := simple_dp cs
          have := simple_dp cb
          exact fin _ H11 (.pair ((ks.length : Int) - 1 - r1) rb) (.pair ka kb) i11 (.two rfl rfl ra0 hka g3 hkb rfl rfl (by simp only [Kd.dp]; omega) (mid_no fun _ _ z => nomatch z))
            (d5.same s11) (same_but s11)
        · refine ite_f (Bool.eq_false_iff.mpr cb) ?_
          walk_at "go"
          exact .mk ⟨rfl, rfl⟩
      · refine ite_f (Bool.eq_false_iff.mpr cs) ?_
        walk_at "go"
        exact .mk ⟨rfl, rfl⟩
    · walk_at "go"
      refine ite_f (dv_f w4) ?_
      walk_at "go"
      exact .mk ⟨rfl, rfl⟩
  intro σ' H' h
  obtain ⟨rfl, rfl⟩ := h.out
  refine ⟨fun σ H' => Hold (σ = [some (.ref D), some (.ref p), some (.int ((ks.length : Int) - 1 - r1)), some (.int rb), some (.int w), some vk, some (.ref p5), none, none, none] ∧ H5 = H'), ?_, ?_⟩
  · by_cases w5 : w = 5
    · subst w5
      walk_at "go"
      refine ⟨_, _, rfl, a5, ?_⟩
      rw [List.length_map]
      walk_at "go"
      intro l nl
      refine lc_range (lo := 0) (n := ks.length) (fun i H6 => Hold (∃ ns : List Int, Acc K H6 l (ns.map PyData.int) ∧ ns.length ≤ i ∧ (∀ n ∈ ns, 0 ≤ n ∧ ks[n.toNat]? = some ka) ∧ Same H5 H6 ∧ (((ks.length : Int) - 1 - r1).toNat < i → ns ≠ [])))
        (.mk ⟨[], acc_nil upd_same, Nat.le_refl _, (fun _ h => by cases h), same_new nl, fun h => absurd h (Nat.not_lt_zero _)⟩) ?_ ?_
      · intro i H6 hi h
        obtain ⟨ns, a6, l6, n6, s6, e6⟩ := h.out
        have hi' : ks[i]? = some ks[i] := List.getElem?_eq_getElem hi
        walk_at "go"
        refine ⟨_, _, _, i, ks[i].d, rfl, a5.same s6, rfl, by omega, by rw [List.getElem?_map, hi']; rfl, fun vi ii => ?_⟩
        walk_at "go"
        have dki := hd _ (List.mem_of_getElem? hi')
        refine ⟨ks[i].d, ka.d, ii.p, (ik5.u (same_tk s6)).p, Kd.shaped (by omega), Kd.shaped (by omega), ?_⟩
        rw [Kd.eqv]
        refine ⟨_, rfl, ?_⟩
        by_cases ce : ks[i] = ka
        · refine ite_t (decide_eq_true ce) ?_
          walk_at "go"
          obtain ⟨acc, ea, hla, b9, t9, a9⟩ := a6.push (.int (0 + (i : Int))) (by rw [List.length_map]; omega)
          refine ⟨acc, ea, hla, .mk ⟨ns ++ [0 + (i : Int)], by rw [List.map_append]; exact a9, by rw [List.length_append]; simp; omega, fun n hn => ?_, same_put s6 nl, fun _ => by simp⟩⟩
          rcases List.mem_append.mp hn with hn | hn
          · exact n6 n hn
          · rw [List.mem_singleton.mp hn]
            refine ⟨by omega, ?_⟩
            have : (0 + (i : Int)).toNat = i := by omega
            rw [this, hi', ce]
        · refine ite_f (decide_eq_false ce) ?_
          refine .mk ⟨ns, a6, by omega, n6, s6, fun h => ?_⟩
          by_cases hh : ((ks.length : Int) - 1 - r1).toNat = i
          · rw [hh, hi'] at hka
            exact absurd (Option.some.inj hka) ce
          · exact e6 (by omega)
      · intro H6 h
        obtain ⟨ns, a6, l6, n6, s6, e6⟩ := h.out
        have hne : ns ≠ [] := e6 (by omega)
        have hlen : 0 < ns.length := List.length_pos_iff.mpr hne
        walk_at "go"
        refine ⟨_, _, rfl, a6, ?_⟩
        rw [List.length_map]
        walk_at "go"
        have q0 : 0 ≤ rb % (ns.length : Int) := Int.emod_nonneg _ (by omega)
        have q1 : rb % (ns.length : Int) < ns.length := Int.emod_lt_of_pos _ (by omega)
        obtain ⟨n, hn⟩ : ∃ n, ns[(rb % (ns.length : Int)).toNat]? = some n := ⟨_, List.getElem?_eq_getElem (by omega)⟩
        obtain ⟨n0, nk⟩ := n6 n (List.mem_of_getElem? hn)
        refine ⟨_, _, _, (rb % (ns.length : Int)).toNat, .int n, rfl, a6, rfl, by omega, by rw [List.getElem?_map, hn]; rfl, fun v iv => ?_⟩
        obtain rfl := iv.i
        walk_at "go"
        refine ⟨[.str "chain", .int ((ks.length : Int) - 1 - r1), .int n], .cons (.str _) (.cons (.int _) (.cons (.int _) .nil)), by simp, fun p11 H11 s11 t11 i11 => ?_⟩
        exact fin _ H11 (.chain ((ks.length : Int) - 1 - r1) n) ka i11 (.two rfl rfl ra0 hka n0 nk rfl (if_pos rfl) da (mid_no fun _ _ z => nomatch z))
          ((d5.same s6).same s11) ((same_but s6).trans (same_but s11))
    · walk_at "go"
      refine ite_f (dv_f w5) ?_
      walk_at "go"
      exact .mk ⟨rfl, rfl⟩
  intro σ' H' h
  obtain ⟨rfl, rfl⟩ := h.out
  refine ⟨fun σ H' => Hold (σ = [some (.ref D), some (.ref p), some (.int ((ks.length : Int) - 1 - r1)), some (.int rb), some (.int w), some vk, some (.ref p5), none, none, none] ∧ H5 = H' ∧ ka = .num ∧ 1 ≤ w), ?_, ?_⟩
  · walk_at "go"
    refine ⟨ka.d, Kd.num.d, ik5.p, .str _, Kd.shaped (by omega), by decide +kernel, ?_⟩
    rw [Kd.eqv]
    refine ⟨_, rfl, ?_⟩
    by_cases ck : ka = .num
    · refine ite_f (by rw [decide_eq_true ck]; rfl) ?_
      walk_at "go"
      by_cases cw : w < 1
      · refine ite_t (decide_eq_true cw) ?_
        walk_at "go"
        refine .mk ⟨d5, ka, ik5, by omega, fun vd H6 ds k' id dd d6 b6 => ?_⟩
        walk_at "go"
        refine ⟨[.str "map", .tuple (ds.map Deed.d), .int ((ks.length : Int) - 1 - r1)], .cons (.str _) (.cons id (.cons (.int _) .nil)), by simp, fun p11 H11 s11 t11 i11 => ?_⟩
        exact fin _ H11 (.map ds ((ks.length : Int) - 1 - r1)) k' i11 (.mapD ra0 hka da dd) (d6.same s11) (b6.trans (same_but s11))
      · refine ite_f (decide_eq_false cw) ?_
        walk_at "go"
        exact .mk ⟨rfl, rfl, ck, by omega⟩
    · refine ite_t (by rw [decide_eq_false ck]; rfl) ?_
      walk_at "go"
      refine .mk ⟨d5, ka, ik5, by omega, fun vd H6 ds k' id dd d6 b6 => ?_⟩
      walk_at "go"
      refine ⟨[.str "map", .tuple (ds.map Deed.d), .int ((ks.length : Int) - 1 - r1)], .cons (.str _) (.cons id (.cons (.int _) .nil)), by simp, fun p11 H11 s11 t11 i11 => ?_⟩
      exact fin _ H11 (.map ds ((ks.length : Int) - 1 - r1)) k' i11 (.mapD ra0 hka da dd) (d6.same s11) (b6.trans (same_but s11))
  intro σ' H' h
  obtain ⟨rfl, rfl, ck, cw⟩ := h.out
  subst ck
  refine ⟨fun σ H' => Hold (σ = [some (.ref D), some (.ref p), some (.int ((ks.length : Int) - 1 - r1)), some (.int rb), some (.int w), some vk, some (.ref p5), none, none, none] ∧ H5 = H'), ?_, ?_⟩
  · walk_at "go"
    by_cases w8 : w < 8
    · refine ite_t (decide_eq_true w8) ?_
      walk_at "go"
      refine ⟨[.str "keep", .str "while"], .cons (.str _) (.cons (.str _) .nil), by simp, fun l6 H6 n6 s6 t6 a6 => ?_⟩
      have d6 := d5.same s6
      have b6 : But D H5 H6 := same_but s6
      walk_at "go"
      have zz : w / 7 = 0 ∨ w / 7 = 1 := by omega
      rcases zz with z0 | z1
      · refine ⟨_, _, _, 0, _, rfl, a6, rfl, (by omega), rfl, fun v iv => ?_⟩
        obtain rfl := iv.s
        walk_at "go"
        intro vt H7 ts it m1 m2 okt d7 b7
        walk_at "go"
        refine ⟨[.str "keep", .tuple (ts.map Tst.d), .int ((ks.length : Int) - 1 - r1)], .cons (.str _) (.cons it (.cons (.int _) .nil)), by simp, fun p11 H11 s11 t11 i11 => ?_⟩
        exact fin _ H11 (.keep ts ((ks.length : Int) - 1 - r1)) .num i11 (.one rfl rfl ra0 hka (testsCan_of m1 m2 okt) rfl (by decide) (mid_no fun _ _ z => nomatch z)) (d7.same s11) (b6.trans (b7.trans (same_but s11)))
      · refine ⟨_, _, _, 1, _, rfl, a6, rfl, (by omega), rfl, fun v iv => ?_⟩
        obtain rfl := iv.s
        walk_at "go"
        intro vt H7 ts it m1 m2 okt d7 b7
        walk_at "go"
        refine ⟨[.str "while", .tuple (ts.map Tst.d), .int ((ks.length : Int) - 1 - r1)], .cons (.str _) (.cons it (.cons (.int _) .nil)), by simp, fun p11 H11 s11 t11 i11 => ?_⟩
        exact fin _ H11 (.whil ts ((ks.length : Int) - 1 - r1)) .num i11 (.one rfl rfl ra0 hka (testsCan_of m1 m2 okt) rfl (by decide) (mid_no fun _ _ z => nomatch z)) (d7.same s11) (b6.trans (b7.trans (same_but s11)))
    · refine ite_f (decide_eq_false w8) ?_
      walk_at "go"
      exact .mk ⟨rfl, rfl⟩
  intro σ' H' h
  obtain ⟨rfl, rfl⟩ := h.out
  refine ⟨fun σ H' => Hold (σ = [some (.ref D), some (.ref p), some (.int ((ks.length : Int) - 1 - r1)), some (.int rb), some (.int w), some vk, some (.ref p5), none, none, none] ∧ H5 = H'), ?_, ?_⟩
  · walk_at "go"
    by_cases w8 : w = 8
    · subst w8
      walk_at "go"
      intro z6 H6 hz6 d6 b6
      walk_at "go"
      obtain ⟨y0, y1⟩ := hz6
      refine ⟨[.str "group", .int (max 1 z6), .int ((ks.length : Int) - 1 - r1)], .cons (.str _) (.cons (.int _) (.cons (.int _) .nil)), by simp, fun p11 H11 s11 t11 i11 => ?_⟩
      exact fin _ H11 (.group (max 1 z6) ((ks.length : Int) - 1 - r1)) (.pair .num (.row .num)) i11 (.one rfl rfl ra0 hka (by show (decide (1 ≤ max 1 z6) && isNum (max 1 z6)) = true; rw [decide_eq_true (by omega), isNum_iff.mpr ⟨by omega, by omega⟩]; rfl) rfl (by decide) (mid_no fun _ _ z => nomatch z))
        (d6.same s11) (b6.trans (same_but s11))
    · walk_at "go"
      refine ite_f (dv_f w8) ?_
      walk_at "go"
      exact .mk ⟨rfl, rfl⟩
  intro σ' H' h
  obtain ⟨rfl, rfl⟩ := h.out
  refine ⟨fun σ H' => Hold (σ = [some (.ref D), some (.ref p), some (.int ((ks.length : Int) - 1 - r1)), some (.int rb), some (.int w), some vk, some (.ref p5), none, none, none] ∧ H5 = H'), ?_, ?_⟩
  · walk_at "go"
    by_cases w9 : w = 9
    · subst w9
      walk_at "go"
      refine ⟨[.str "add", .str "times", .str "least", .str "most"], .cons (.str _) (.cons (.str _) (.cons (.str _) (.cons (.str _) .nil))), by simp, fun l6 H6 n6 s6 t6 a6 => ?_⟩
      have d6 := d5.same s6
      have ne6 := d5.ne_new n6
      walk_at "go"
      intro r7 H7 e1 e2 d7 b7
      have a7 := a6.but b7 (b7.dtk d6) ne6.symm
      obtain ⟨f, hf⟩ : ∃ f : Fw, [PyData.str "add", .str "times", .str "least", .str "most"][r7.toNat]? = some (.str f.s) := by
        have : r7 = 0 ∨ r7 = 1 ∨ r7 = 2 ∨ r7 = 3 := by omega
        rcases this with rfl | rfl | rfl | rfl
        · exact ⟨.add, rfl⟩
        · exact ⟨.times, rfl⟩
        · exact ⟨.least, rfl⟩
        · exact ⟨.most, rfl⟩
      walk_at "go"
      refine ⟨_, _, _, r7.toNat, _, rfl, a7, rfl, by omega, hf, fun v iv => ?_⟩
      obtain rfl := iv.s
      walk_at "go"
      intro z8 H8 hz8 d8 b8
      walk_at "go"
      refine ⟨[.str "fold", .str f.s, .int z8, .int ((ks.length : Int) - 1 - r1)], .cons (.str _) (.cons (.str _) (.cons (.int _) (.cons (.int _) .nil))), by simp, fun p11 H11 s11 t11 i11 => ?_⟩
      exact fin _ H11 (.fold f z8 ((ks.length : Int) - 1 - r1)) .num i11 (.one rfl rfl ra0 hka (isNum_iff.mpr hz8) rfl (by decide) (mid_no fun _ _ z => nomatch z))
        (d8.same s11) ((same_but s6).trans (b7.trans (b8.trans (same_but s11))))
    · walk_at "go"
      refine ite_f (dv_f w9) ?_
      walk_at "go"
      exact .mk ⟨rfl, rfl⟩
  intro σ' H' h
  obtain ⟨rfl, rfl⟩ := h.out
  refine ⟨fun σ H' => Hold (σ = [some (.ref D), some (.ref p), some (.int ((ks.length : Int) - 1 - r1)), some (.int rb), some (.int w), some vk, some (.ref p5), none, none, none] ∧ H5 = H'), ?_, ?_⟩
  · walk_at "go"
    by_cases w10 : w = 10
    · subst w10
      walk_at "go"
      refine ⟨_, _, _, rb.toNat, _, rfl, a5, rfl, by omega, hb', fun vb ib => ?_⟩
      walk_at "go"
      refine ⟨kb.d, Kd.num.d, ib.p, .str _, Kd.shaped (by omega), by decide +kernel, ?_⟩
      rw [Kd.eqv]
      refine ⟨_, rfl, ?_⟩
      by_cases cb : kb = .num
      · refine ite_t (decide_eq_true cb) ?_
        subst cb
        walk_at "go"
        refine ⟨[.str "merge", .int ((ks.length : Int) - 1 - r1), .int rb], .cons (.str _) (.cons (.int _) (.cons (.int _) .nil)), by simp, fun p11 H11 s11 t11 i11 => ?_⟩
        exact fin _ H11 (.merge ((ks.length : Int) - 1 - r1) rb) .num i11 (.two rfl rfl ra0 hka g3 hkb rfl rfl (by decide) (mid_no fun _ _ z => nomatch z))
          (d5.same s11) (same_but s11)
      · refine ite_f (decide_eq_false cb) ?_
        walk_at "go"
        exact .mk ⟨rfl, rfl⟩
    · walk_at "go"
      refine ite_f (dv_f w10) ?_
      walk_at "go"
      exact .mk ⟨rfl, rfl⟩
  intro σ' H' h
  obtain ⟨rfl, rfl⟩ := h.out
  walk_at "go"
  refine .mk ⟨d5, .num, ik5, by omega, fun vd H6 ds k' id dd d6 b6 => ?_⟩
  walk_at "go"
  refine ⟨[.str "map", .tuple (ds.map Deed.d), .int ((ks.length : Int) - 1 - r1)], .cons (.str _) (.cons id (.cons (.int _) .nil)), by simp, fun p11 H11 s11 t11 i11 => ?_⟩
  exact fin _ H11 (.map ds ((ks.length : Int) - 1 - r1)) k' i11 (.mapD ra0 hka da dd) (d6.same s11) (b6.trans (same_but s11))

def spLKind (K : PySem.W.Frag) : Sp := fun vs H Q _ => ∃ (v vp : V), vs = [v, vp] ∧ Hold (∃ (l : Ln) (p : Addr) (ks : List Kd) (k : Kd), vp = .ref p ∧ Im K H v l.d ∧ Acc K H p (ks.map Kd.d) ∧ (∀ a ∈ l.names, 0 ≤ a) ∧ kindL l ks = some k ∧ ∀ u H', Same H H' → Im K H' u k.d → Q u H')
theorem ok__law_kind (T : Tx K w mg) : FnOk P w K mg base CX0 1 T._law_kind.f T._law_kind.fd ["_law_line_here", "_law_kinds"] (spLKind K) := by
  refine T._law_kind.F.ok sc__law_kind (fun vs H Q E h => ?_) (fun cdv A outer s H vs Q E hr h => ?_)
  · obtain ⟨a, b, rfl, _⟩ := h
    rfl
  obtain ⟨v, vp, rfl, h⟩ := h
  obtain ⟨l, p, ks, k, rfl, iv, a0, hn, hk, q⟩ := h.out
  obtain ⟨kn, e1, e2⟩ := kindL_some hk
  obtain ⟨lkn, fkn⟩ := namedK_at e1
  have at_ : ∀ (j : Nat) (a : Int), l.names[j]? = some a → ∃ k', kn[j]? = some k' ∧ 0 ≤ a ∧ (ks.map Kd.d)[a.toNat]? = some k'.d := fun j a h => by
    obtain ⟨k', h1, h2⟩ := fkn j a h
    exact ⟨k', h2, hn a (List.mem_of_getElem? h), by rw [List.getElem?_map, h1]; rfl⟩
  refine ⟨_, (pss_cons (ps_set (i := 2) sc__law_kind.nd rfl (by first | exact Or.inl rfl | exact Or.inr rfl) (pe_ix ix_tupD (pv 0) pe_int (fun _ _ => rfl)))
      (pss_cons (ps_if (pt_cmpR op_eq (pv 2) pe_str (nomark _)) (pss_one (ps_ret (pe_td (pa_cons pe_str (pa_cons (pe_ix ix_listA (pv 1) (pe_ix ix_tupD (pv 0) pe_int (fun _ _ => rfl)) (fun _ _ => rfl)) (pa_cons (pe_ix ix_listA (pv 1) (pe_ix ix_tupD (pv 0) pe_int (fun _ _ => rfl)) (fun _ _ => rfl)) pa_nil)))))) pss_nil)
      (pss_cons (ps_if (pt_cmpR op_eq (pv 2) pe_str (nomark _)) (pss_one (ps_ret (pe_ix ix_listA (pv 1) (pe_ix ix_tupD (pv 0) pe_int (fun _ _ => rfl)) (fun _ _ => rfl)))) pss_nil)
      (pss_cons (ps_if (pt_cmpR op_eq (pv 2) pe_str (nomark _)) (pss_one (ps_ret (pe_td (pa_cons pe_str (pa_cons (pe_ix ix_listA (pv 1) (pe_ix ix_tupD (pv 0) pe_int (fun _ _ => rfl)) (fun _ _ => rfl)) pa_nil))))) pss_nil)
      (pss_cons (ps_if (pt_cmpR op_eq (pv 2) pe_str (nomark _)) (pss_one (ps_ret (pe_td (pa_cons pe_str (pa_cons pe_str (pa_cons (pe_td (pa_cons pe_str (pa_cons pe_str pa_nil))) pa_nil)))))) pss_nil)
      (pss_cons (ps_if (PW.pt (pw_or (pt_cmpR op_eq (pv 2) pe_str (nomark _)) (pw_or1 (pt_cmpR op_eq (pv 2) pe_str (nomark _))))) (pss_one (ps_ret (pe_ix ix_listA (pv 1) (pe_ix ix_tupD (pv 0) pe_int (fun _ _ => rfl)) (fun _ _ => rfl)))) pss_nil)
      (pss_cons (ps_if (pt_cmpR op_ne (pv 2) pe_str (nomark _)) (pss_one (ps_ret pe_str)) pss_nil)
      (pss_cons (ps_set (i := 3) sc__law_kind.nd rfl (by first | exact Or.inl rfl | exact Or.inr rfl) (pe_ix ix_listA (pv 1) (pe_ix ix_tupD (pv 0) pe_int (fun _ _ => rfl)) (fun _ _ => rfl)))
      (pss_cons (ps_for PassesOwn.never rfl (pi_tup (pe_ix ix_tupD (pv 0) pe_int (fun _ _ => rfl))) (pg_name (i := 4) sc__law_kind.nd rfl (by first | exact Or.inl rfl | exact Or.inr rfl)) (pss_one (ps_if (pt_cmpR op_eq (pe_ix ix_tupD (pv 4) pe_int (fun _ _ => rfl)) pe_str (nomark _)) (pss_one (ps_set (i := 3) sc__law_kind.nd rfl (by first | exact Or.inl rfl | exact Or.inr rfl) (pe_td (pa_cons pe_str (pa_cons (pv 3) (pa_cons (pv 3) pa_nil)))))) (pss_one (ps_if (pt_cmpR op_eq (pe_ix ix_tupD (pv 4) pe_int (fun _ _ => rfl)) pe_str (nomark _)) (pss_one (ps_set (i := 3) sc__law_kind.nd rfl (by first | exact Or.inl rfl | exact Or.inr rfl) (pe_ix ix_tupD (pv 3) pe_int (fun _ _ => rfl)))) (pss_one (ps_if (pt_cmpR op_eq (pe_ix ix_tupD (pv 4) pe_int (fun _ _ => rfl)) pe_str (nomark _)) (pss_one (ps_set (i := 3) sc__law_kind.nd rfl (by first | exact Or.inl rfl | exact Or.inr rfl) (pe_ix ix_tupD (pv 3) pe_int (fun _ _ => rfl)))) (pss_one (ps_set (i := 3) sc__law_kind.nd rfl (by first | exact Or.inl rfl | exact Or.inr rfl) pe_str)))))))))
      (pss_one (ps_ret (pv 3)))))))))))), ?_⟩
  have num : ∀ {k1 k2 : Kd}, (if k1 = Kd.num then some Kd.num else none) = some k2 → k2 = .num := fun {k1 k2} h => by
    split at h
    · cases h; rfl
    · cases h
  cases l with
  | source k0 =>
    cases hk
    walk_at "wds"
    exact q _ H (Same.refl H) (.str _)
  | pair a b =>
    obtain ⟨k1, h1, p1, g1⟩ := at_ 0 a rfl
    obtain ⟨k2, h2, p2, g2⟩ := at_ 1 b rfl
    obtain ⟨x, y, rfl⟩ : ∃ x y, kn = [x, y] := by match kn, lkn with | [x, y], _ => exact ⟨x, y, rfl⟩
    cases h1; cases h2; cases e2
    walk_at "wds"
    walk_at "n1"
    refine ⟨_, _, _, a.toNat, _, rfl, a0, rfl, by omega, g1, fun x ix => ?_⟩
    walk_at "go"
    refine ⟨_, 2, 2, _, iv, rfl, rfl, rfl, fun u iu => ?_⟩
    obtain rfl := iu.i
    refine ⟨_, _, _, b.toNat, _, rfl, a0, rfl, by omega, g2, fun y iy => ?_⟩
    walk_at "go"
    refine ⟨[.str "pair", _, _], .cons (.str _) (.cons ix (.cons iy .nil)), by simp, fun p2 H2 s2 t2 i2 => ?_⟩
    exact q _ H2 s2 i2
  | chain a b =>
    obtain ⟨k1, h1, p1, g1⟩ := at_ 0 a rfl
    obtain ⟨x, y, rfl⟩ : ∃ x y, kn = [x, y] := by match kn, lkn with | [x, y], _ => exact ⟨x, y, rfl⟩
    cases h1
    have e2 : (if k1 = y then some k1 else none) = some k := e2
    have ek : k = k1 := by
      split at e2
      · cases e2; rfl
      · cases e2
    subst ek
    walk_at "wds"
    walk_at "n1"
    refine ⟨_, _, _, a.toNat, _, rfl, a0, rfl, by omega, g1, fun x ix => ?_⟩
    exact q _ H (Same.refl H) ix
  | merge a b =>
    obtain ⟨x, y, rfl⟩ : ∃ x y, kn = [x, y] := by match kn, lkn with | [x, y], _ => exact ⟨x, y, rfl⟩
    have e2 : (if x = .num ∧ y = .num then some Kd.num else none) = some k := e2
    have ek : k = .num := by
      split at e2
      · cases e2; rfl
      · cases e2
    subst ek
    walk_at "wds"
    exact q _ H (Same.refl H) (.str _)
  | window n a =>
    obtain ⟨k1, h1, p1, g1⟩ := at_ 0 a rfl
    obtain ⟨x, rfl⟩ : ∃ x, kn = [x] := by match kn, lkn with | [x], _ => exact ⟨x, rfl⟩
    cases h1; cases e2
    walk_at "wds"
    walk_at "n2"
    refine ⟨_, _, _, a.toNat, _, rfl, a0, rfl, by omega, g1, fun x ix => ?_⟩
    refine ⟨[.str "row", _], .cons (.str _) (.cons ix .nil), by simp, fun p2 H2 s2 t2 i2 => ?_⟩
    exact q _ H2 s2 i2
  | group n a =>
    obtain ⟨x, rfl⟩ : ∃ x, kn = [x] := by match kn, lkn with | [x], _ => exact ⟨x, rfl⟩
    have e2 : (if x = .num then some (Kd.pair .num (.row .num)) else none) = some k := e2
    have ek : k = .pair .num (.row .num) := by
      split at e2
      · cases e2; rfl
      · cases e2
    subst ek
    walk_at "wds"
    refine ⟨[.str "row", .str "number"], .cons (.str _) (.cons (.str _) .nil), by simp, fun p2 H2 s2 t2 i2 => ?_⟩
    walk_at "go"
    refine ⟨[.str "pair", .str "number", (Kd.row .num).d], .cons (.str _) (.cons (.str _) (.cons i2 .nil)), by simp, fun p3 H3 s3 t3 i3 => ?_⟩
    exact q _ H3 (s2.trans s3) i3
  | take n a =>
    obtain ⟨k1, h1, p1, g1⟩ := at_ 0 a rfl
    obtain ⟨x, rfl⟩ : ∃ x, kn = [x] := by match kn, lkn with | [x], _ => exact ⟨x, rfl⟩
    cases h1; cases e2
    walk_at "wds"
    walk_at "n2"
    refine ⟨_, _, _, a.toNat, _, rfl, a0, rfl, by omega, g1, fun x ix => ?_⟩
    exact q _ H (Same.refl H) ix
  | skip n a =>
    obtain ⟨k1, h1, p1, g1⟩ := at_ 0 a rfl
    obtain ⟨x, rfl⟩ : ∃ x, kn = [x] := by match kn, lkn with | [x], _ => exact ⟨x, rfl⟩
    cases h1; cases e2
    walk_at "wds"
    walk_at "n2"
    refine ⟨_, _, _, a.toNat, _, rfl, a0, rfl, by omega, g1, fun x ix => ?_⟩
    exact q _ H (Same.refl H) ix
  | keep ts a =>
    obtain ⟨x, rfl⟩ : ∃ x, kn = [x] := by match kn, lkn with | [x], _ => exact ⟨x, rfl⟩
    obtain rfl := num e2
    walk_at "wds"
    exact q _ H (Same.refl H) (.str _)
  | whil ts a =>
    obtain ⟨x, rfl⟩ : ∃ x, kn = [x] := by match kn, lkn with | [x], _ => exact ⟨x, rfl⟩
    obtain rfl := num e2
    walk_at "wds"
    exact q _ H (Same.refl H) (.str _)
  | fold f n a =>
    obtain ⟨x, rfl⟩ : ∃ x, kn = [x] := by match kn, lkn with | [x], _ => exact ⟨x, rfl⟩
    obtain rfl := num e2
    walk_at "wds"
    exact q _ H (Same.refl H) (.str _)
  | map ds a =>
    obtain ⟨k1, h1, p1, g1⟩ := at_ 0 a rfl
    obtain ⟨x, rfl⟩ : ∃ x, kn = [x] := by match kn, lkn with | [x], _ => exact ⟨x, rfl⟩
    cases h1
    have e2 : kindAll ds k1 = some k := e2
    walk_at "wds"
    walk_at "n2"
    refine ⟨_, _, _, a.toNat, _, rfl, a0, rfl, by omega, g1, fun x ix => ?_⟩
    walk_at "go"
    refine ⟨_, 1, 1, _, iv, rfl, rfl, rfl, fun u iu => ?_⟩
    obtain ⟨b, xs, rfl, ht, hs⟩ := iu.t
    have len := hs.len
    rw [List.length_map] at len
    refine ⟨b, rfl, ⟨_, ht⟩, for_tup (K := K) (a := b) (xs := xs) (fun i σ H2 => Hold (∃ (z : V) (o : Option V) (k2 : Kd), σ = [some v, some (.ref p), some (.str "map"), some z, o] ∧ Same H H2 ∧ kindAll (ds.take i) k1 = some k2 ∧ Im K H2 z k2.d))
      (.mk ⟨x, none, k1, rfl, Same.refl H, rfl, ix⟩) (fun i σ H2 _ h => by obtain ⟨_, _, _, _, s2, _⟩ := h.out; exact (same_tk s2).t _ _ ht) ?_ ?_⟩
    · intro i y σ H2 hi h
      obtain ⟨z, o, k2, rfl, s2, e3, iz⟩ := h.out
      obtain ⟨d, hd, iy⟩ := hs.get hi
      rw [List.getElem?_map] at hd
      obtain ⟨d, hd', rfl⟩ := Option.map_eq_some_iff.mp hd
      have iy2 := iy.u (same_tk s2)
      obtain ⟨k3, hk3⟩ : ∃ k3, kindD d k2 = some k3 := by
        obtain ⟨k4, f1, f2⟩ := kindAll_take e2 i
        rw [e3] at f1
        cases f1
        rw [drop_at hd'] at f2
        have f2 : (kindD d k2).bind (kindAll (ds.drop (i + 1))) = some k := f2
        cases e : kindD d k2 with
        | none => rw [e] at f2; cases f2
        | some k3 => exact ⟨k3, rfl⟩
      have e4 : kindAll (ds.take (i + 1)) k1 = some k3 := by rw [take_succ hd', kindAll_snoc e3, hk3]
      walk_at "go"
      have num3 : ∀ σ', σ' = [some v, some (.ref p), some (.str "map"), some (.str "number"), some y] → k3 = .num → Hold (∃ (z : V) (o : Option V) (k2 : Kd), σ' = [some v, some (.ref p), some (.str "map"), some z, o] ∧ Same H H2 ∧ kindAll (ds.take (i + 1)) k1 = some k2 ∧ Im K H2 z k2.d) := fun σ' h1 h2 => by
        subst h2
        exact .mk ⟨_, _, .num, h1, s2, e4, .str _⟩
      cases d with
      | both =>
        cases hk3
        walk_at "wds"
        refine ⟨[.str "pair", k2.d, k2.d], .cons (.str _) (.cons iz (.cons iz .nil)), by simp, fun p4 H4 s4 t4 i4 => ?_⟩
        exact .mk ⟨_, _, _, rfl, s2.trans s4, e4, i4⟩
      | first =>
        cases k2 with
        | pair c d =>
          cases hk3
          walk_at "wds"
          refine ⟨_, 1, 1, _, iz, rfl, rfl, rfl, fun u iu => ?_⟩
          exact .mk ⟨_, _, _, rfl, s2, e4, iu⟩
        | _ => cases hk3
      | second =>
        cases k2 with
        | pair c d =>
          cases hk3
          walk_at "wds"
          refine ⟨_, 2, 2, _, iz, rfl, rfl, rfl, fun u iu => ?_⟩
          exact .mk ⟨_, _, _, rfl, s2, e4, iu⟩
        | _ => cases hk3
      | add n =>
        walk_at "wds"
        exact num3 _ rfl (by cases k2 <;> cases hk3; rfl)
      | times n =>
        walk_at "wds"
        exact num3 _ rfl (by cases k2 <;> cases hk3; rfl)
      | minus =>
        walk_at "wds"
        exact num3 _ rfl (by cases k2 <;> cases hk3; rfl)
      | sum =>
        walk_at "wds"
        refine num3 _ rfl ?_
        cases k2 with
        | row c => cases c <;> cases hk3; rfl
        | _ => cases hk3
      | many =>
        walk_at "wds"
        exact num3 _ rfl (by cases k2 <;> cases hk3; rfl)
    · intro σ H2 h
      obtain ⟨z, o, k2, rfl, s2, e3, iz⟩ := h.out
      walk_at "go"
      rw [len, List.take_length, e2] at e3
      cases e3
      exact q _ H2 s2 iz

theorem nums_map (n : Nat) : (List.replicate n Kd.num).map Kd.d = List.replicate n (PyData.str "number") := by
  rw [List.map_replicate]
  rfl
theorem srcs_of {many t : Int} (ht : 0 ≤ t) (hm : 0 < many) : ∀ n : Nat, (n : Int) ≤ many → GoodW many ((List.range n).map fun (i : Nat) => Ln.source (((i : Int) + t) % many)) (List.replicate n .num)
  | 0, _ => .nil
  | n + 1, h => by
    rw [List.range_succ, List.map_append, List.replicate_succ']
    refine .snoc (srcs_of ht hm n (by omega)) ?_ rfl rfl (by decide) (fun ds a k e _ => nomatch e)
    show ((decide (0 ≤ _) && decide (_ < many)) && !decide (_ ∈ _)) = true
    rw [decide_eq_true (Int.emod_nonneg _ (by omega)), decide_eq_true (Int.emod_lt_of_pos _ hm), decide_eq_false]
    · rfl
    · intro hmem
      unfold srcs at hmem
      rw [List.mem_filterMap] at hmem
      obtain ⟨l, hl, e⟩ := hmem
      obtain ⟨i, hi, rfl⟩ := List.mem_map.mp hl
      have hi := List.mem_range.mp hi
      have e : ((i : Int) + t) % many = ((n : Int) + t) % many := Option.some.inj e
      have e2 : ((n : Int) - i) % many = 0 := by
        have := Int.emod_emod_of_dvd ((n : Int) + t) (Int.dvd_refl many)
        have h1 : (((n : Int) + t) - ((i : Int) + t)) % many = 0 := by
          rw [Int.sub_emod, e, Int.sub_self, Int.zero_emod]
        have h2 : ((n : Int) + t) - ((i : Int) + t) = (n : Int) - i := by omega
        rw [h2] at h1
        exact h1
      rw [Int.emod_eq_of_lt (by omega) (by omega)] at e2
      omega
theorem ok__law_weave (T : Tx K w mg) : FnOk P w K mg base CX0 5 T._law_weave.f T._law_weave.fd ["_law_d"] (spWeave K) := by
  refine T._law_weave.F.ok sc__law_weave (fun vs H Q E h => ?_) (fun cdv A outer s H vs Q E hr h => ?_)
  · obtain ⟨a, rfl, _⟩ := h
    rfl
  obtain ⟨vd, rfl, h⟩ := h
  obtain ⟨D, rfl, d0, q⟩ := h.out
  refine ⟨_, (pss_cons (ps_if (pt_cmpR op_eq (pe_call (ok__law_next T) (hr.mono (by decide)) (by rfl) T._law_next.g T._law_next.F.kp T._law_next.b .nil pass0 (pa_cons (pv 0) (pa_cons pe_int pa_nil))) pe_int (nomark _)) (pss_one (ps_ret (pe_call (ok__law_long T) hr (by rfl) T._law_long.g T._law_long.F.kp T._law_long.b .nil pass0 (pa_cons (pv 0) pa_nil)))) pss_nil)
      (pss_cons (ps_set (i := 1) sc__law_weave.nd rfl (by first | exact Or.inl rfl | exact Or.inr rfl) (pe_op op_add pe_int (pe_call (ok__law_next T) (hr.mono (by decide)) (by rfl) T._law_next.g T._law_next.F.kp T._law_next.b .nil pass0 (pa_cons (pv 0) (pa_cons pe_int pa_nil)))))
      (pss_cons (ps_set (i := 2) sc__law_weave.nd rfl (by first | exact Or.inl rfl | exact Or.inr rfl) (pe_op op_add (pv 1) (pe_callTy call_int1 (by rfl) T.z_int (by decide +kernel) (pa_cons (pe_cmpR op_eq (pe_call (ok__law_next T) (hr.mono (by decide)) (by rfl) T._law_next.g T._law_next.F.kp T._law_next.b .nil pass0 (pa_cons (pv 0) (pa_cons pe_int pa_nil))) pe_int (nomark _)) pa_nil))))
      (pss_cons (ps_set (i := 3) sc__law_weave.nd rfl (by first | exact Or.inl rfl | exact Or.inr rfl) (pe_call (ok__law_next T) (hr.mono (by decide)) (by rfl) T._law_next.g T._law_next.F.kp T._law_next.b .nil pass0 (pa_cons (pv 0) (pa_cons (pv 2) pa_nil))))
      (pss_cons (ps_setLc (i := 4) (own := [("_law_k", 6)]) (g := gName 6) (tt := tYes) rfl sc__law_weave.nd rfl rfl (sw_true rfl rfl rfl (by decide +kernel)) (pi_range1 (by rfl) T.z_range (pa_cons (pv 1) pa_nil)) (blkOk_by (own := [("_law_k", 6)]) (N := ["_law_d", "_law_named_here", "_law_many", "_law_turn", "_law_weave_here", "_law_kinds", "_law_k"]) (sc := defScope s__law_weave) (by decide +kernel)) (fun _ _ _ _ _ => pg_name (i := 6) sc__law_weave.nd rfl (Or.inl rfl)) (fun _ _ _ _ _ => pts_nil) (fun _ _ _ _ _ => (pe_tdK (K := K) rfl (pa_cons pe_str (pa_cons (pe_op op_mod (pe_op op_add (pv 6) (pv 3)) (pv 2)) pa_nil)))))
      (pss_cons (ps_setLc (i := 5) (own := [("_law_k", 6)]) (g := gName 6) (tt := tYes) rfl sc__law_weave.nd rfl rfl (sw_true rfl rfl rfl (by decide +kernel)) (pi_range1 (by rfl) T.z_range (pa_cons (pv 1) pa_nil)) (blkOk_by (own := [("_law_k", 6)]) (N := ["_law_d", "_law_named_here", "_law_many", "_law_turn", "_law_weave_here", "_law_kinds", "_law_k"]) (sc := defScope s__law_weave) (by decide +kernel)) (fun _ _ _ _ _ => pg_name (i := 6) sc__law_weave.nd rfl (Or.inl rfl)) (fun _ _ _ _ _ => pts_nil) (fun _ _ _ _ _ => pe_str))
      (pss_cons (ps_for PassesOwn.never rfl (pi_range1 (by rfl) T.z_range (pa_cons (pe_op op_add pe_int (pe_call (ok__law_next T) (hr.mono (by decide)) (by rfl) T._law_next.g T._law_next.F.kp T._law_next.b .nil pass0 (pa_cons (pv 0) (pa_cons pe_int pa_nil)))) pa_nil)) (pg_name (i := 6) sc__law_weave.nd rfl (by first | exact Or.inl rfl | exact Or.inr rfl)) (pss_cons (ps_expr (pe_bm PySem.F.plainAttrs_list PySem.F.slot_list_append PySem.F.type_list_append mt_appA (pv 4) (pa_cons (pe_call (ok__law_line T) hr (by rfl) T._law_line.g T._law_line.F.kp T._law_line.b .nil pass0 (pa_cons (pv 0) (pa_cons (pv 5) pa_nil))) pa_nil)))
      (pss_one (ps_expr (pe_bm PySem.F.plainAttrs_list PySem.F.slot_list_append PySem.F.type_list_append mt_appA (pv 5) (pa_cons (pe_call (ok__law_kind T) (hr.mono (by decide)) (by rfl) T._law_kind.g T._law_kind.F.kp T._law_kind.b .nil pass0 (pa_cons (pe_ix ix_listA (pv 4) (pe_op op_sub (pe_callB call_lenA (by rfl) T.z_len PySem.boot_len (pa_cons (pv 4) pa_nil)) pe_int) (fun _ _ => rfl)) (pa_cons (pv 5) pa_nil))) pa_nil))))))
      (pss_one (ps_ret (pe_tr (pa_cons (pv 4) (pa_cons (pv 5) (pa_cons (pv 2) pa_nil))))))))))))), ?_⟩
  walk_at "go"
  intro r1 H1 e1 e2 d1 b1
  have back : ∀ {H' : Hp} {l : Addr}, But D H H' → IsDice K H' D → H' l = none → H l = none := fun {H' l} B d n => by
    cases z : H l with
    | none => rfl
    | some u =>
      by_cases hD : l = D
      · obtain ⟨_, eD⟩ := d.at
        rw [hD, eD] at n
        cases n
      · rw [B _ _ hD z] at n
        cases n
  walk_at "go"
  refine ite_d (fun c => ?_) (fun c => ?_)
  · walk_at "go"
    refine .mk ⟨D, rfl, d1, fun p H' lw lk ls ks many ht aw ak nw nk wk dw d' b' => ?_⟩
    exact q p H' lw lk ls ks many ht aw ak (back b1 d1 nw) (back b1 d1 nk) wk dw d' (b1.trans b')
  · walk_at "go"
    intro r2 H2 e3 e4 d2 b2
    walk_at "go"
    intro r3 H3 e5 e6 d3 b3
    walk_at "go"
    have m1 : 1 + r2 ≤ (1 + r2 + (if decide (V.int r3 = V.int 3) = true then 1 else 0)) := by split <;> omega
    have m2 : (1 + r2 + (if decide (V.int r3 = V.int 3) = true then 1 else 0)) ≤ 5 := by split <;> omega
    intro r4 H4 e7 e8 d4 b4
    walk_at "go"
    intro lw nw
    have B4 : But D H H4 := b1.trans (b2.trans (b3.trans b4))
    have Dw : D ≠ lw := d4.ne_new nw
    refine loop_rng (lo := 0) (n := (1 + r2).toNat) (fun i H5 => Hold (Same H4 H5 ∧ Acc K H5 lw (((List.range i).map fun (j : Nat) => Ln.source (((j : Int) + r4) % (1 + r2 + (if decide (V.int r3 = V.int 3) = true then 1 else 0)))).map Ln.d)))
      (.mk ⟨same_new nw, acc_nil upd_same⟩) ?_ ?_
    · intro i H5 hi h
      obtain ⟨s5, a5⟩ := h.out
      walk_at "go"
      refine ⟨[.str "source", .int ((0 + (i : Int) + r4) % (1 + r2 + (if decide (V.int r3 = V.int 3) = true then 1 else 0)))], .cons (.str _) (.cons (.int _) .nil), by simp, fun p6 H6 s6 t6 i6 => ?_⟩
      obtain ⟨acc, ea, hla, b7, t7, a7⟩ := (a5.same s6).push i6 (by rw [List.length_map, List.length_map, List.length_range]; omega)
      refine ⟨acc, ea, hla, .mk ⟨same_put (s5.trans s6) nw, ?_⟩⟩
      rw [List.range_succ, List.map_append, List.map_append]
      have : (0 + (i : Int)) = (i : Int) := by omega
      rw [this] at a7
      exact a7
    intro H5 h
    obtain ⟨s5, a5⟩ := h.out
    have d5 := d4.same s5
    walk_at "go"
    intro lk nk
    have Dk : D ≠ lk := d5.ne_new nk
    obtain ⟨xw, ew⟩ := a5.at
    have wk : lw ≠ lk := ne_of_none ew nk
    refine loop_rng (lo := 0) (n := (1 + r2).toNat) (fun i H6 => Hold (Same H5 H6 ∧ Acc K H6 lk (List.replicate i (PyData.str "number"))))
      (.mk ⟨same_new nk, acc_nil upd_same⟩) ?_ ?_
    · intro i H6 hi h
      obtain ⟨s6, a6⟩ := h.out
      walk_at "go"
      obtain ⟨acc, ea, hla, b7, t7, a7⟩ := a6.push (.str "number") (by rw [List.length_replicate]; omega)
      refine ⟨acc, ea, hla, .mk ⟨same_put s6 nk, ?_⟩⟩
      rw [List.replicate_succ']
      exact a7
    intro H6 h
    obtain ⟨s6, a6⟩ := h.out
    have d6 := d5.same s6
    have aw6 := a5.same s6
    have B6 : But D H H6 := B4.trans ((same_but s5).trans (same_but s6))
    have nwH : H lw = none := back B4 d4 nw
    have nkH : H lk = none := back (B4.trans (same_but s5)) d5 nk
    walk_at "go"
    intro r7 H7 e9 e10 d7 b7
    walk_at "go"
    refine for_range (lo := 0) (n := (1 + r7).toNat) (fun i σ H8 => Hold (∃ (ls : List Ln) (ks : List Kd) (o6 : Option V), σ = [some (.ref D), some (.int (1 + r2)), some (.int (1 + r2 + (if decide (V.int r3 = V.int 3) = true then 1 else 0))), some (.int r4), some (.ref lw), some (.ref lk), o6] ∧ Acc K H8 lw (ls.map Ln.d) ∧ Acc K H8 lk (ks.map Kd.d) ∧
        ls.length ≤ 4 + i ∧ 1 ≤ ls.length ∧ GoodW (1 + r2 + (if decide (V.int r3 = V.int 3) = true then 1 else 0)) ls ks ∧ (∀ k ∈ ks, k.dp ≤ 2) ∧ twos ls ≤ i ∧ IsDice K H8 D ∧ But D H H8))
      (.mk ⟨_, List.replicate (1 + r2).toNat .num, none, rfl, aw6.but b7 (b7.dtk d6) Dw.symm, by rw [List.map_replicate]; exact a6.but b7 (b7.dtk d6) Dk.symm, by rw [List.length_map, List.length_range]; omega, by rw [List.length_map, List.length_range]; omega,
        srcs_of e7 (by omega) _ (by omega), fun k hk => by rw [List.eq_of_mem_replicate hk]; decide, ?_, d7, B6.trans b7⟩) ?_ ?_
    · unfold twos
      rw [List.filter_map, List.length_map]
      have : (List.range (1 + r2).toNat).filter (two ∘ fun (j : Nat) => Ln.source (((j : Int) + r4) % (1 + r2 + (if decide (V.int r3 = V.int 3) = true then 1 else 0)))) = [] := by
        rw [List.filter_eq_nil_iff]
        intro j _
        show ¬ false = true
        decide
      rw [this]
      exact Nat.le_refl _
    · intro i σ H8 hi h
      obtain ⟨ls, ks, o6, rfl, aw8, ak8, l4, l1, g8, dp8, t8, d8, B8⟩ := h.out
      have len := g8.len
      walk_at "go"
      refine .mk ⟨D, lk, ks, rfl, rfl, d8, Dk, ak8, by omega, by omega, dp8, fun v H9 l k iv dl d9 b9 => ?_⟩
      have aw9 := aw8.but b9 (b9.dtk d8) Dw.symm
      have ak9 := ak8.but b9 (b9.dtk d8) Dk.symm
      refine ⟨_, _, _, _, rfl, rfl, aw9, iv, by rw [List.length_map]; omega, fun H10 b10 t10 a10 => ?_⟩
      have ak10 := ak9.but b10 t10 wk.symm
      have d10 := d9.keep t10 fun xs e => b10 _ _ Dw e
      have B10 : But D H H10 := fun b u hb e => b10 _ _ (ne_of_none e nwH) (b9 _ _ hb (B8 _ _ hb e))
      rw [← List.map_singleton (f := Ln.d), ← List.map_append] at a10
      walk_at "go"
      refine ⟨_, _, rfl, a10, ?_⟩
      rw [List.length_map, List.length_append]
      walk_at "go"
      refine ⟨_, _, _, ls.length, l.d, rfl, a10, rfl, by simp, ?_, fun u iu => ?_⟩
      · rw [List.getElem?_map, List.getElem?_append_right (Nat.le_refl _), Nat.sub_self]
        rfl
      walk_at "go"
      refine .mk ⟨l, lk, ks, k, rfl, iu, ak10, fun a ha => (dl.np a ha).1, dl.kk, fun x H11 s11 ix => ?_⟩
      refine ⟨_, _, _, _, rfl, rfl, ak10.same s11, ix, by rw [List.length_map]; omega, fun H12 b12 t12 a12 => ?_⟩
      rw [← List.map_singleton (f := Kd.d), ← List.map_append] at a12
      refine .mk ⟨ls ++ [l], ks ++ [k], _, rfl, (a10.same s11).but b12 t12 wk, a12, by rw [List.length_append]; simp; omega, by rw [List.length_append]; omega, g8.more dl, fun k' hk' => ?_, ?_, (d10.same s11).keep t12 fun xs e => b12 _ _ Dk e, ?_⟩
      · rcases List.mem_append.mp hk' with hk' | hk'
        · exact dp8 k' hk'
        · rw [List.mem_singleton.mp hk']; exact dl.dp
      · have := twos_snoc (ls := ls) (l := l)
        omega
      · intro b u hb e
        exact b12 _ _ (ne_of_none e nkH) (s11 _ _ (B10 _ _ hb e))
    · intro σ H8 h
      obtain ⟨ls, ks, o6, rfl, aw8, ak8, l4, l1, g8, dp8, t8, d8, B8⟩ := h.out
      walk_at "go"
      refine ⟨by simp, fun p9 H9 n9 s9 t9 e9 => ?_⟩
      exact q p9 H9 lw lk ls ks (1 + r2 + (if decide (V.int r3 = V.int 3) = true then 1 else 0)) (SqT.of e9) (aw8.same s9) (ak8.same s9) nwH nkH wk ⟨g8, l1, by omega, by omega, m2, dp8, by omega⟩ (d8.same s9) (B8.trans (same_but s9))

def spOuts (K : PySem.W.Frag) : Sp := fun vs H Q _ => ∃ (v1 v2 : V), vs = [v1, v2] ∧ Hold (∃ (D lw : Addr) (ds : List PyData), v1 = .ref D ∧ v2 = .ref lw ∧ IsDice K H D ∧ Acc K H lw ds ∧ 1 ≤ ds.length ∧ ds.length ≤ 100 ∧ lw ≠ D ∧
  ∀ p H' (outs : List Int), H p = none → Acc K H' p (outs.map PyData.int) → 1 ≤ outs.length → outs.length ≤ 5 → (∀ o ∈ outs, 0 ≤ o ∧ o < ds.length) → IsDice K H' D → But D H H' → Q (.ref p) H')
theorem ok__law_outs (T : Tx K w mg) : FnOk P w K mg base CX0 2 T._law_outs.f T._law_outs.fd ["_law_d", "_law_weave_here"] (spOuts K) := by
  refine T._law_outs.F.ok sc__law_outs (fun vs H Q E h => ?_) (fun cdv A outer s H vs Q E hr h => ?_)
  · obtain ⟨a, b, rfl, _⟩ := h
    rfl
  obtain ⟨v1, v2, rfl, h⟩ := h
  obtain ⟨D, lw, ds, rfl, rfl, d0, aw, l1, l100, ne, q⟩ := h.out
  refine ⟨_, (pss_one (ps_ret (pe_lc (own := [("_law_k", 2)]) (g := gName 2) (tt := tYes) rfl sc__law_outs.nd (pi_range1 (by rfl) T.z_range (pa_cons (pe_op op_add pe_int (pe_call (ok__law_next T) hr (by rfl) T._law_next.g T._law_next.F.kp T._law_next.b .nil pass0 (pa_cons (pv 0) (pa_cons pe_int pa_nil)))) pa_nil)) (blkOk_by (own := [("_law_k", 2)]) (N := ["_law_d", "_law_weave_here", "_law_k"]) (sc := defScope s__law_outs) (by decide +kernel)) (fun _ _ _ _ _ => pg_name (i := 2) sc__law_outs.nd rfl (Or.inl rfl)) (fun _ _ _ _ _ => pts_nil) (fun _ _ _ _ _ => (pe_op op_sub (pe_op op_sub (pe_callB (show CallR _ _ (rLenA K) from call_lenA) (by rfl) T.z_len PySem.boot_len (pa_cons (pv 1) pa_nil)) pe_int) (pe_call (ok__law_next T) hr (by rfl) T._law_next.g T._law_next.F.kp T._law_next.b .nil pass0 (pa_cons (pv 0) (pa_cons (pe_callB (show CallR _ _ (rLenA K) from call_lenA) (by rfl) T.z_len PySem.boot_len (pa_cons (pv 1) pa_nil)) pa_nil)))))))), ?_⟩
  walk_at "go"
  intro r H1 e1 e2 d1 b1
  have aw1 := aw.but b1 (b1.dtk d0) ne
  walk_at "go"
  intro L nL
  have DL := d1.ne_new nL
  have wL : lw ≠ L := by
    obtain ⟨_, e⟩ := aw1.at
    exact ne_of_none e nL
  refine loop_rng (lo := 0) (n := (1 + r).toNat) (fun i H2 => Hold (∃ outs : List Int, Acc K H2 L (outs.map PyData.int) ∧ outs.length = i ∧ (∀ o ∈ outs, 0 ≤ o ∧ o < ds.length) ∧ Acc K H2 lw ds ∧ IsDice K H2 D ∧ But D H H2))
    (.mk ⟨[], acc_nil upd_same, rfl, (fun _ h => by cases h), aw1.same (same_new nL), d1.same (same_new nL), b1.trans (same_but (same_new nL))⟩) ?_ ?_
  · intro i H2 hi h
    obtain ⟨outs, a2, rfl, o2, aw2, d2, B2⟩ := h.out
    walk_at "go"
    refine ⟨_, _, rfl, aw2, ?_⟩
    walk_at "go"
    refine ⟨_, _, rfl, aw2, ?_⟩
    walk_at "go"
    intro y H3 e3 e4 d3 b3
    walk_at "go"
    have t3 := b3.dtk d2
    have a3 := a2.but b3 t3 DL.symm
    have nLH : H L = none := b1.free DL.symm nL
    obtain ⟨acc, ea, hla, b4, t4, a4⟩ := a3.push (.int ((ds.length : Int) - 1 - y)) (by rw [List.length_map]; omega)
    refine ⟨acc, ea, hla, .mk ⟨outs ++ [(ds.length : Int) - 1 - y], by rw [List.map_append]; exact a4, by rw [List.length_append]; rfl, fun o ho => ?_, (aw2.but b3 t3 ne).but b4 t4 wL, d3.keep t4 fun xs e => b4 _ _ DL e, fun b u hb e => b4 _ _ (ne_of_none e nLH) (b3 _ _ hb (B2 _ _ hb e))⟩⟩
    rcases List.mem_append.mp ho with ho | ho
    · exact o2 o ho
    · rw [List.mem_singleton.mp ho]; omega
  · intro H2 h
    obtain ⟨outs, a2, l2, o2, aw2, d2, B2⟩ := h.out
    exact q L H2 outs (b1.free DL.symm nL) a2 (by omega) (by omega) o2 d2 B2

def spKindDone (K : PySem.W.Frag) : Sp := fun vs H Q _ => ∃ (vw vk : V), vs = [vw, vk] ∧ Hold (∃ (d : Deed) (k : Kd), vw = .str (wdD d) ∧ Im K H vk k.d ∧ k.dp ≤ 60 ∧ ∀ v H', Same H H' → Im K H' v (kdO (kindD d k)) → Q v H')
theorem Kd.shaped60 {k : Kd} (h : k.dp ≤ 60) : SeqAt.shaped k.d = true := by
  unfold SeqAt.shaped
  rw [Kd.can, Kd.depth, Bool.true_and]
  exact decide_eq_true (by omega)
theorem ok_kind_done (T : Tx K w mg) : FnOk P w K mg base CX0 1 T.kind_done.f T.kind_done.fd ["word", "kind"] (spKindDone K) := by
  refine T.kind_done.F.ok sc_kind_done (fun vs H Q E h => ?_) (fun cdv A outer s H vs Q E hr h => ?_)
  · obtain ⟨a, b, rfl, _⟩ := h
    rfl
  obtain ⟨vw, vk, rfl, h⟩ := h
  obtain ⟨d, k, rfl, ik, hk, q⟩ := h.out
  refine ⟨_, (pss_cons (ps_if (pt_cmpR op_eq (pv 0) pe_str (nomark _)) (pss_one (ps_ret (pe_td (pa_cons pe_str (pa_cons (pv 1) (pa_cons (pv 1) pa_nil)))))) pss_nil)
      (pss_cons (ps_if (pt_cmpR op_eq (pv 0) pe_str (nomark _)) (pss_one (ps_ret (pe_ifExp (pt_cmpR op_eq (pe_ix ix_kd (pv 1) pe_int (fun _ _ => rfl)) pe_str (nomark _)) (pe_glob (v := .str "number") (by rfl) T.c_NUMBER.g ⟨_, rfl⟩) pe_non))) pss_nil)
      (pss_cons (ps_if (pt_cmpR op_eq (pv 0) pe_str (nomark _)) (pss_one (ps_ret (pe_ifExp (pt_cmpR (op_eqD hr.units) (pv 1) (pe_td (pa_cons pe_str (pa_cons (pe_glob (v := .str "number") (by rfl) T.c_NUMBER.g ⟨_, rfl⟩) pa_nil))) (nomark _)) (pe_glob (v := .str "number") (by rfl) T.c_NUMBER.g ⟨_, rfl⟩) pe_non))) pss_nil)
      (pss_cons (ps_if (pt_cmpR op_inTS (pv 0) (pe_td (pa_cons pe_str (pa_cons pe_str pa_nil))) (by rfl)) (pss_cons (ps_if (pt_cmpR op_ne (pe_ix ix_kd (pv 1) pe_int (fun _ _ => rfl)) pe_str (nomark _)) (pss_one (ps_ret pe_non)) pss_nil)
      (pss_one (ps_ret (pe_ifExp (pt_cmpR op_eq (pv 0) pe_str (nomark _)) (pe_ix ix_kd (pv 1) pe_int (fun _ _ => rfl)) (pe_ix ix_kd (pv 1) pe_int (fun _ _ => rfl)))))) pss_nil)
      (pss_one (ps_ret (pe_ifExp (pt_cmpR (op_eqD hr.units) (pv 1) (pe_glob (v := .str "number") (by rfl) T.c_NUMBER.g ⟨_, rfl⟩) (nomark _)) (pe_glob (v := .str "number") (by rfl) T.c_NUMBER.g ⟨_, rfl⟩) pe_non))))))), ?_⟩
  have num : ∀ (H1 : Hp), Same H H1 → (∀ v H', Same H H' → Im K H' v (kdO (if k = .num then some .num else none)) → Q v H') → Im K H1 vk k.d →
      rEqD K vk (.str "number") H1 fun x H' => ∃ b, x = V.bl b ∧ (if b = true then Q (.str "number") H' else Q .non H') := fun H1 s1 q i1 => by
    refine ⟨k.d, Kd.num.d, Im.p i1, .str _, Kd.shaped60 hk, by decide +kernel, ?_⟩
    rw [Kd.eqv]
    refine ⟨_, rfl, ?_⟩
    by_cases c : k = .num
    · refine ite_t (decide_eq_true c) ?_
      rw [if_pos c] at q
      exact q _ H1 s1 (.str _)
    · refine ite_f (decide_eq_false c) ?_
      rw [if_neg c] at q
      exact q _ H1 s1 .non
  cases d with
  | both =>
    walk_at "go"
    refine ⟨[.str "pair", k.d, k.d], .cons (.str _) (.cons ik (.cons ik .nil)), by simp, fun p H1 s1 t1 i1 => ?_⟩
    exact q _ H1 s1 i1
  | many =>
    walk_at "go"
    cases k with
    | num =>
      obtain rfl := Im.s ik
      refine Or.inl ⟨_, 110, rfl, rfl, by decide, by decide +kernel, ?_⟩
      walk_at "go"
      exact q _ H (Same.refl H) .non
    | pair a b =>
      refine Or.inr ⟨_, 0, 0, _, ik, rfl, rfl, rfl, fun v iv => ?_⟩
      obtain rfl := iv.s
      walk_at "go"
      exact q _ H (Same.refl H) .non
    | row a =>
      refine Or.inr ⟨_, 0, 0, _, ik, rfl, rfl, rfl, fun v iv => ?_⟩
      obtain rfl := iv.s
      walk_at "go"
      exact q _ H (Same.refl H) (.str _)
  | sum =>
    walk_at "go"
    refine ⟨[.str "row", .str "number"], .cons (.str _) (.cons (.str _) .nil), by simp, fun p1 H1 s1 t1 i1 => ?_⟩
    refine ⟨k.d, (Kd.row .num).d, (ik.u t1).p, i1.p, Kd.shaped60 hk, by decide +kernel, ?_⟩
    rw [Kd.eqv]
    refine ⟨_, rfl, ?_⟩
    by_cases c : k = .row .num
    · refine ite_t (decide_eq_true c) ?_
      walk_at "go"
      subst c
      exact q _ H1 s1 (.str _)
    · refine ite_f (decide_eq_false c) ?_
      walk_at "go"
      have e : kindD .sum k = none := by
        cases k with
        | row a =>
          cases a with
          | num => exact absurd rfl c
          | _ => rfl
        | _ => rfl
      rw [e] at q
      exact q _ H1 s1 .non
  | first =>
    walk_at "go"
    refine ⟨[.str "first", .str "second"], .cons (.str _) (.cons (.str _) .nil), by simp, fun p1 H1 s1 t1 i1 => ?_⟩
    refine ⟨_, ["first", "second"], rfl, i1, ?_⟩
    refine ⟨_, rfl, ?_⟩
    walk_at "w"
    walk_at "go"
    have j := ik.u t1
    cases k with
    | num =>
      obtain rfl := Im.s ik
      refine Or.inl ⟨_, 110, rfl, rfl, by decide, by decide +kernel, ?_⟩
      walk_at "go"
      exact q _ H1 s1 .non
    | row a =>
      refine Or.inr ⟨_, 0, 0, _, j, rfl, rfl, rfl, fun v iv => ?_⟩
      obtain rfl := iv.s
      walk_at "go"
      exact q _ H1 s1 .non
    | pair a b =>
      refine Or.inr ⟨_, 0, 0, _, j, rfl, rfl, rfl, fun v iv => ?_⟩
      obtain rfl := iv.s
      walk_at "go"
      refine Or.inr ⟨_, 1, 1, _, j, rfl, rfl, rfl, fun v iv => ?_⟩
      exact q _ H1 s1 iv
  | second =>
    walk_at "go"
    refine ⟨[.str "first", .str "second"], .cons (.str _) (.cons (.str _) .nil), by simp, fun p1 H1 s1 t1 i1 => ?_⟩
    refine ⟨_, ["first", "second"], rfl, i1, ?_⟩
    refine ⟨_, rfl, ?_⟩
    walk_at "w"
    walk_at "go"
    have j := ik.u t1
    cases k with
    | num =>
      obtain rfl := Im.s ik
      refine Or.inl ⟨_, 110, rfl, rfl, by decide, by decide +kernel, ?_⟩
      walk_at "go"
      exact q _ H1 s1 .non
    | row a =>
      refine Or.inr ⟨_, 0, 0, _, j, rfl, rfl, rfl, fun v iv => ?_⟩
      obtain rfl := iv.s
      walk_at "go"
      exact q _ H1 s1 .non
    | pair a b =>
      refine Or.inr ⟨_, 0, 0, _, j, rfl, rfl, rfl, fun v iv => ?_⟩
      obtain rfl := iv.s
      walk_at "go"
      refine Or.inr ⟨_, 2, 2, _, j, rfl, rfl, rfl, fun v iv => ?_⟩
      exact q _ H1 s1 iv
  | add n =>
    walk_at "go"
    refine ⟨[.str "first", .str "second"], .cons (.str _) (.cons (.str _) .nil), by simp, fun p1 H1 s1 t1 i1 => ?_⟩
    refine ⟨_, ["first", "second"], rfl, i1, ?_⟩
    refine ⟨_, rfl, ?_⟩
    refine ite_f (by show decide (("add" : Str) ∈ [("first" : Str), "second"]) = false; decide +kernel) ?_
    walk_at "go"
    have e : kindD (.add n) k = if k = .num then some .num else none := by cases k <;> rfl
    rw [e] at q
    exact num H1 s1 q (ik.u t1)
  | times n =>
    walk_at "go"
    refine ⟨[.str "first", .str "second"], .cons (.str _) (.cons (.str _) .nil), by simp, fun p1 H1 s1 t1 i1 => ?_⟩
    refine ⟨_, ["first", "second"], rfl, i1, ?_⟩
    refine ⟨_, rfl, ?_⟩
    refine ite_f (by show decide (("times" : Str) ∈ [("first" : Str), "second"]) = false; decide +kernel) ?_
    walk_at "go"
    have e : kindD (.times n) k = if k = .num then some .num else none := by cases k <;> rfl
    rw [e] at q
    exact num H1 s1 q (ik.u t1)
  | minus =>
    walk_at "go"
    refine ⟨[.str "first", .str "second"], .cons (.str _) (.cons (.str _) .nil), by simp, fun p1 H1 s1 t1 i1 => ?_⟩
    refine ⟨_, ["first", "second"], rfl, i1, ?_⟩
    refine ⟨_, rfl, ?_⟩
    walk_at "w"
    walk_at "go"
    have e : kindD .minus k = if k = .num then some .num else none := by cases k <;> rfl
    rw [e] at q
    exact num H1 s1 q (ik.u t1)

def spKindMade (K : PySem.W.Frag) : Sp := fun vs H Q _ => ∃ (vd vk : V), vs = [vd, vk] ∧ Hold (∃ (ds : List Deed) (k : Kd), Im K H vd (.tuple (ds.map Deed.d)) ∧ Im K H vk k.d ∧ (∀ i k1, kindAll (ds.take i) k = some k1 → k1.dp ≤ 60) ∧ ∀ v H', Same H H' → Im K H' v (kdO (kindAll ds k)) → Q v H')
theorem kindD_dp {d : Deed} {k k' : Kd} (h : kindD d k = some k') : k'.dp ≤ k.dp + 1 := by
  cases d with
  | both => cases h; simp only [Kd.dp]; omega
  | add n => cases k with
    | num => cases h; exact Nat.zero_le _
    | _ => cases h
  | times n => cases k with
    | num => cases h; exact Nat.zero_le _
    | _ => cases h
  | minus => cases k with
    | num => cases h; exact Nat.zero_le _
    | _ => cases h
  | first => cases k with
    | pair a b => cases h; simp only [Kd.dp]; omega
    | _ => cases h
  | second => cases k with
    | pair a b => cases h; simp only [Kd.dp]; omega
    | _ => cases h
  | sum => cases k with
    | row a => cases a with
      | num => cases h; exact Nat.zero_le _
      | _ => cases h
    | _ => cases h
  | many => cases k with
    | row a => cases h; exact Nat.zero_le _
    | _ => cases h
theorem kindAll_none : ∀ {ds : List Deed} {k k1 : Kd} {i : Nat} {d : Deed}, ds[i]? = some d → kindAll (ds.take i) k = some k1 → kindD d k1 = none → kindAll ds k = none
  | [], _, _, _, _, h, _, _ => by simp at h
  | e :: ds, k, k1, 0, d, h, h1, h2 => by
    obtain rfl : e = d := by simpa using h
    cases h1
    show (kindD e k).bind _ = none
    rw [h2]
    rfl
  | e :: ds, k, k1, i + 1, d, h, h1, h2 => by
    have h1 : (kindD e k).bind (kindAll (ds.take i)) = some k1 := h1
    show (kindD e k).bind (kindAll ds) = none
    cases q : kindD e k with
    | none => rfl
    | some z =>
      rw [q] at h1
      exact kindAll_none (ds := ds) (i := i) (by simpa using h) h1 h2
theorem ok_kind_made (T : Tx K w mg) : FnOk P w K mg base CX0 2 T.kind_made.f T.kind_made.fd ["deeds", "kind"] (spKindMade K) := by
  refine T.kind_made.F.ok sc_kind_made (fun vs H Q E h => ?_) (fun cdv A outer s H vs Q E hr h => ?_)
  · obtain ⟨a, b, rfl, _⟩ := h
    rfl
  obtain ⟨vd, vk, rfl, h⟩ := h
  obtain ⟨ds, k, id, ik, hk, q⟩ := h.out
  obtain ⟨a, xs, rfl, ht, hs⟩ := id.t
  have len := hs.len
  rw [List.length_map] at len
  refine ⟨_, (pss_cons (ps_for PassesOwn.never rfl (pi_tup (pv 0)) (pg_name (i := 2) sc_kind_made.nd rfl (by first | exact Or.inl rfl | exact Or.inr rfl)) (pss_cons (ps_set (i := 1) sc_kind_made.nd rfl (by first | exact Or.inl rfl | exact Or.inr rfl) (pe_call (ok_kind_done T) hr (by rfl) T.kind_done.g T.kind_done.F.kp T.kind_done.b .nil pass0 (pa_cons (pe_ix ix_tupD (pv 2) pe_int (fun _ _ => rfl)) (pa_cons (pv 1) pa_nil))))
      (pss_one (ps_if (pt_cmpR op_isN (pv 1) pe_non (nomark _)) (pss_one (ps_ret pe_non)) pss_nil))))
      (pss_one (ps_ret (pv 1)))), ?_⟩
  refine ⟨_, rfl, a, rfl, ⟨_, ht⟩, for_tup (K := K) (a := a) (xs := xs) (fun i σ H2 => Hold (∃ (v : V) (o : Option V) (k1 : Kd), σ = [some (.ref a), some v, o] ∧ Same H H2 ∧ kindAll (ds.take i) k = some k1 ∧ Im K H2 v k1.d))
    (.mk ⟨vk, none, k, rfl, Same.refl H, rfl, ik⟩) (fun i σ H2 _ h => by obtain ⟨_, _, _, _, s2, _⟩ := h.out; exact (same_tk s2).t _ _ ht) ?_ ?_⟩
  · intro i y σ H2 hi h
    obtain ⟨v, o, k1, rfl, s2, e1, iv⟩ := h.out
    obtain ⟨d, hd, iy⟩ := hs.get hi
    rw [List.getElem?_map] at hd
    obtain ⟨d, hd', rfl⟩ := Option.map_eq_some_iff.mp hd
    have iy2 := iy.u (same_tk s2)
    obtain ⟨wd, ed, ew⟩ := d.tail
    rw [ed] at iy2
    have hi' := (List.getElem?_eq_some_iff.mp hd').1
    walk_at "go"
    refine ⟨_, 0, 0, _, iy2, rfl, rfl, rfl, fun u iu => ?_⟩
    obtain rfl := iu.s
    walk_at "go"
    refine .mk ⟨d, k1, by rw [ew], iv, hk _ _ e1, fun v3 H3 s3 i3 => ?_⟩
    walk_at "go"
    cases e2 : kindD d k1 with
    | none =>
      rw [e2] at i3
      obtain rfl : v3 = .non := by cases i3; rfl
      refine ite_t (decide_eq_true rfl) ?_
      walk_at "go"
      refine q _ H3 (s2.trans s3) ?_
      rw [kindAll_none hd' e1 e2]
      exact .non
    | some k2 =>
      rw [e2] at i3
      refine ite_f (decide_eq_false (kdO_ne i3)) ?_
      walk_at "go"
      refine .mk ⟨v3, _, k2, rfl, s2.trans s3, ?_, i3⟩
      rw [take_succ hd', kindAll_snoc e1, e2]
  · intro σ H2 h
    obtain ⟨v, o, k1, rfl, s2, e1, iv⟩ := h.out
    walk_at "go"
    rw [len, List.take_length] at e1
    refine q v H2 s2 ?_
    rw [e1]
    exact iv

def spKindOf (K : PySem.W.Frag) : Sp := fun vs H Q _ => ∃ (v vp : V), vs = [v, vp] ∧ Hold (∃ (l : Ln) (p : Addr) (ks : List Kd), vp = .ref p ∧ Im K H v l.d ∧ Acc K H p (ks.map Kd.d) ∧ ks.length = l.names.length ∧ (∀ k ∈ ks, k.dp ≤ 60) ∧
  (∀ ds a k, l = .map ds a → ks = [k] → ∀ i k1, kindAll (ds.take i) k = some k1 → k1.dp ≤ 60) ∧ ∀ u H', Same H H' → Im K H' u (kdO (kindN l ks)) → Q u H')
theorem two_of {α : Type} {xs : List α} (h : xs.length = 2) : ∃ a b, xs = [a, b] := by
  match xs, h with
  | [a, b], _ => exact ⟨a, b, rfl⟩
theorem one_of {α : Type} {xs : List α} (h : xs.length = 1) : ∃ a, xs = [a] := by
  match xs, h with
  | [a], _ => exact ⟨a, rfl⟩
theorem ok_kind_of (T : Tx K w mg) : FnOk P w K mg base CX0 3 T.kind_of.f T.kind_of.fd ["line", "kinds"] (spKindOf K) := by
  refine T.kind_of.F.ok sc_kind_of (fun vs H Q E h => ?_) (fun cdv A outer s H vs Q E hr h => ?_)
  · obtain ⟨a, b, rfl, _⟩ := h
    rfl
  obtain ⟨v, vp, rfl, h⟩ := h
  obtain ⟨l, p, ks, rfl, iv, a0, hl, hd, hm, q⟩ := h.out
  refine ⟨_, (pss_cons (ps_set (i := 2) sc_kind_of.nd rfl (by first | exact Or.inl rfl | exact Or.inr rfl) (pe_ix ix_tupD (pv 0) pe_int (fun _ _ => rfl)))
      (pss_cons (ps_if (pt_cmpR op_eq (pv 2) pe_str (nomark _)) (pss_one (ps_ret (pe_call (ok_kind_made T) hr (by rfl) T.kind_made.g T.kind_made.F.kp T.kind_made.b .nil pass0 (pa_cons (pe_ix ix_tupD (pv 0) pe_int (fun _ _ => rfl)) (pa_cons (pe_ix ix_listA (pv 1) pe_int (fun _ _ => rfl)) pa_nil))))) pss_nil)
      (pss_cons (ps_if (pt_cmpR op_inTS (pv 2) (pe_td (pa_cons pe_str (pa_cons pe_str pa_nil))) (by rfl)) (pss_one (ps_ret (pe_ix ix_listA (pv 1) pe_int (fun _ _ => rfl)))) pss_nil)
      (pss_cons (ps_if (pt_cmpR op_eq (pv 2) pe_str (nomark _)) (pss_one (ps_ret (pe_td (pa_cons pe_str (pa_cons (pe_ix ix_listA (pv 1) pe_int (fun _ _ => rfl)) pa_nil))))) pss_nil)
      (pss_cons (ps_if (pt_cmpR op_eq (pv 2) pe_str (nomark _)) (pss_one (ps_ret (pe_td (pa_cons pe_str (pa_cons (pe_ix ix_listA (pv 1) pe_int (fun _ _ => rfl)) (pa_cons (pe_ix ix_listA (pv 1) pe_int (fun _ _ => rfl)) pa_nil)))))) pss_nil)
      (pss_cons (ps_if (pt_cmpR op_eq (pv 2) pe_str (nomark _)) (pss_one (ps_ret (pe_ifExp (pt_cmpR (op_eqD hr.units) (pe_ix ix_listA (pv 1) pe_int (fun _ _ => rfl)) (pe_ix ix_listA (pv 1) pe_int (fun _ _ => rfl)) (nomark _)) (pe_ix ix_listA (pv 1) pe_int (fun _ _ => rfl)) pe_non))) pss_nil)
      (pss_cons (ps_if (pt_not (pt_val (pe_callB (cr_all rfl) (by rfl) T.z_all (by decide +kernel) (pa_cons (pe_lc (own := [("kind", 3)]) (g := gName 3) (tt := tYes) rfl sc_kind_of.nd (pi_list (pv 1)) (blkOk_by (own := [("kind", 3)]) (N := ["line", "kinds", "word", "kind"]) (sc := defScope s_kind_of) (by decide +kernel)) (fun _ _ _ _ _ => pg_name (i := 3) sc_kind_of.nd rfl (Or.inl rfl)) (fun _ _ _ _ _ => pts_nil) (fun _ _ _ _ _ => (pe_cmpR (show OpR _ _ (rEqD K) from (op_eqD hr.units)) (pv 3) (pe_glob (v := .str "number") (by rfl) T.c_NUMBER.g ⟨_, rfl⟩) (nomark _)))) pa_nil)))) (pss_one (ps_ret pe_non)) pss_nil)
      (pss_one (ps_ret (pe_ifExp (pt_cmpR op_eq (pv 2) pe_str (nomark _)) (pe_td (pa_cons pe_str (pa_cons (pe_glob (v := .str "number") (by rfl) T.c_NUMBER.g ⟨_, rfl⟩) (pa_cons (pe_td (pa_cons pe_str (pa_cons (pe_glob (v := .str "number") (by rfl) T.c_NUMBER.g ⟨_, rfl⟩) pa_nil))) pa_nil)))) (pe_glob (v := .str "number") (by rfl) T.c_NUMBER.g ⟨_, rfl⟩))))))))))), ?_⟩
  cases l with
  | map ds a =>
    obtain ⟨k, rfl⟩ := one_of hl
    walk_at "wds"
    refine ⟨_, 1, 1, _, iv, rfl, rfl, rfl, fun u iu => ?_⟩
    walk_at "go"
    refine ⟨_, _, _, 0, _, rfl, a0, rfl, rfl, rfl, fun x ix => ?_⟩
    walk_at "go"
    exact .mk ⟨ds, k, iu, ix, hm ds a k rfl rfl, q⟩
  | take n a =>
    obtain ⟨k, rfl⟩ := one_of hl
    walk_at "wds"
    refine ⟨[.str "take", .str "skip"], .cons (.str _) (.cons (.str _) .nil), by simp, fun p1 H1 s1 t1 i1 => ?_⟩
    refine ⟨_, ["take", "skip"], rfl, i1, ?_⟩
    refine ⟨_, rfl, ?_⟩
    walk_at "w"
    walk_at "go"
    refine ⟨_, _, _, 0, _, rfl, a0.same s1, rfl, rfl, rfl, fun x ix => ?_⟩
    exact q _ H1 s1 ix
  | skip n a =>
    obtain ⟨k, rfl⟩ := one_of hl
    walk_at "wds"
    refine ⟨[.str "take", .str "skip"], .cons (.str _) (.cons (.str _) .nil), by simp, fun p1 H1 s1 t1 i1 => ?_⟩
    refine ⟨_, ["take", "skip"], rfl, i1, ?_⟩
    refine ⟨_, rfl, ?_⟩
    walk_at "w"
    walk_at "go"
    refine ⟨_, _, _, 0, _, rfl, a0.same s1, rfl, rfl, rfl, fun x ix => ?_⟩
    exact q _ H1 s1 ix
  | window n a =>
    obtain ⟨k, rfl⟩ := one_of hl
    walk_at "wds"
    refine ⟨[.str "take", .str "skip"], .cons (.str _) (.cons (.str _) .nil), by simp, fun p1 H1 s1 t1 i1 => ?_⟩
    refine ⟨_, ["take", "skip"], rfl, i1, ?_⟩
    refine ⟨_, rfl, ?_⟩
    walk_at "w"
    walk_at "go"
    refine ⟨_, _, _, 0, _, rfl, a0.same s1, rfl, rfl, rfl, fun x ix => ?_⟩
    refine ⟨[.str "row", k.d], .cons (.str _) (.cons ix .nil), by simp, fun p2 H2 s2 t2 i2 => ?_⟩
    exact q _ H2 (s1.trans s2) i2
  | pair a b =>
    obtain ⟨k, j, rfl⟩ := two_of hl
    walk_at "wds"
    refine ⟨[.str "take", .str "skip"], .cons (.str _) (.cons (.str _) .nil), by simp, fun p1 H1 s1 t1 i1 => ?_⟩
    refine ⟨_, ["take", "skip"], rfl, i1, ?_⟩
    refine ⟨_, rfl, ?_⟩
    walk_at "w"
    walk_at "go"
    refine ⟨_, _, _, 0, _, rfl, a0.same s1, rfl, rfl, rfl, fun x ix => ?_⟩
    walk_at "go"
    refine ⟨_, _, _, 1, _, rfl, a0.same s1, rfl, rfl, rfl, fun y iy => ?_⟩
    refine ⟨[.str "pair", k.d, j.d], .cons (.str _) (.cons ix (.cons iy .nil)), by simp, fun p2 H2 s2 t2 i2 => ?_⟩
    exact q _ H2 (s1.trans s2) i2
  | chain a b =>
    obtain ⟨k, j, rfl⟩ := two_of hl
    walk_at "wds"
    refine ⟨[.str "take", .str "skip"], .cons (.str _) (.cons (.str _) .nil), by simp, fun p1 H1 s1 t1 i1 => ?_⟩
    refine ⟨_, ["take", "skip"], rfl, i1, ?_⟩
    refine ⟨_, rfl, ?_⟩
    walk_at "w"
    walk_at "go"
    refine ⟨_, _, _, 0, _, rfl, a0.same s1, rfl, rfl, rfl, fun x ix => ?_⟩
    walk_at "go"
    refine ⟨_, _, _, 1, _, rfl, a0.same s1, rfl, rfl, rfl, fun y iy => ?_⟩
    refine ⟨k.d, j.d, ix.p, iy.p, Kd.shaped60 (hd _ (by simp)), Kd.shaped60 (hd _ (by simp)), ?_⟩
    rw [Kd.eqv]
    refine ⟨_, rfl, ?_⟩
    have e : kindN (.chain a b) [k, j] = if k = j then some k else none := rfl
    rw [e] at q
    by_cases c : k = j
    · refine ite_t (decide_eq_true c) ?_
      walk_at "go"
      refine ⟨_, _, _, 0, _, rfl, a0.same s1, rfl, rfl, rfl, fun z iz => ?_⟩
      rw [if_pos c] at q
      exact q _ H1 s1 iz
    · refine ite_f (decide_eq_false c) ?_
      walk_at "go"
      rw [if_neg c] at q
      exact q _ H1 s1 .non
  | source k0 =>
    obtain rfl : ks = [] := List.length_eq_zero_iff.mp hl
    walk_at "wds"
    refine ⟨[.str "take", .str "skip"], .cons (.str _) (.cons (.str _) .nil), by simp, fun p1 H1 s1 t1 i1 => ?_⟩
    refine ⟨_, ["take", "skip"], rfl, i1, ?_⟩
    refine ⟨_, rfl, ?_⟩
    walk_at "w"
    walk_at "go"
    obtain ⟨xs, e1, i1⟩ := a0.same s1
    have len := i1.len
    rw [List.length_map] at len
    refine ⟨⟨_, SqL.of e1⟩, fun D nD => lc_list (K := K) (a := p) (xs := xs) (fun i H2 => Hold (Same H1 H2 ∧ H2 D = some (.lst (((([] : List Kd).take i).map fun k => decide (k = .num)).map V.bl))))
        (.mk ⟨same_new nD, upd_same⟩) (fun i H2 _ h => SqL.of (h.out.1 _ _ e1)) ?_ ?_⟩
    · intro i y H2 hi h
      obtain ⟨s2, e2⟩ := h.out
      obtain ⟨d, hd', iy⟩ := i1.get hi
      rw [List.getElem?_map] at hd'
      obtain ⟨k', hk, rfl⟩ := Option.map_eq_some_iff.mp hd'
      walk_at "go"
      refine ⟨k'.d, Kd.num.d, (iy.u (same_tk s2)).p, .str _, Kd.shaped60 (hd _ (List.mem_of_getElem? hk)), by decide +kernel, ?_⟩
      rw [Kd.eqv]
      refine ⟨_, e2, ?_, .mk ⟨same_put s2 nD, ?_⟩⟩
      · rw [List.length_map, List.length_map, List.length_take]
        refine small1000 ?_
        simp
      · rw [upd_same, take_succ hk, List.map_append, List.map_append]
        rfl
    · intro H2 h
      obtain ⟨s2, e2⟩ := h.out
      have s12 := s1.trans s2
      rw [len, List.take_length] at e2
      refine ⟨_, _, rfl, SqL.of e2, ?_⟩
      walk_at "go"
      exact q _ H2 s12 (.str _)
  | keep ts a =>
    obtain ⟨k, rfl⟩ := one_of hl
    walk_at "wds"
    refine ⟨[.str "take", .str "skip"], .cons (.str _) (.cons (.str _) .nil), by simp, fun p1 H1 s1 t1 i1 => ?_⟩
    refine ⟨_, ["take", "skip"], rfl, i1, ?_⟩
    refine ⟨_, rfl, ?_⟩
    walk_at "w"
    walk_at "go"
    obtain ⟨xs, e1, i1⟩ := a0.same s1
    have len := i1.len
    rw [List.length_map] at len
    refine ⟨⟨_, SqL.of e1⟩, fun D nD => lc_list (K := K) (a := p) (xs := xs) (fun i H2 => Hold (Same H1 H2 ∧ H2 D = some (.lst ((([k].take i).map fun k => decide (k = .num)).map V.bl))))
        (.mk ⟨same_new nD, upd_same⟩) (fun i H2 _ h => SqL.of (h.out.1 _ _ e1)) ?_ ?_⟩
    · intro i y H2 hi h
      obtain ⟨s2, e2⟩ := h.out
      obtain ⟨d, hd', iy⟩ := i1.get hi
      rw [List.getElem?_map] at hd'
      obtain ⟨k', hk, rfl⟩ := Option.map_eq_some_iff.mp hd'
      walk_at "go"
      refine ⟨k'.d, Kd.num.d, (iy.u (same_tk s2)).p, .str _, Kd.shaped60 (hd _ (List.mem_of_getElem? hk)), by decide +kernel, ?_⟩
      rw [Kd.eqv]
      refine ⟨_, e2, ?_, .mk ⟨same_put s2 nD, ?_⟩⟩
      · rw [List.length_map, List.length_map, List.length_take]
        refine small1000 ?_
        simp
        omega
      · rw [upd_same, take_succ hk, List.map_append, List.map_append]
        rfl
    · intro H2 h
      obtain ⟨s2, e2⟩ := h.out
      have s12 := s1.trans s2
      rw [len, List.take_length] at e2
      refine ⟨_, _, rfl, SqL.of e2, ?_⟩
      by_cases c : k = .num
      · subst c
        walk_at "go"
        exact q _ H2 s12 (.str _)
      · have e : (List.map (fun k => decide (k = Kd.num)) [k]).all id = false := by simp [c]
        rw [e]
        walk_at "go"
        refine q _ H2 s12 ?_
        have e2 : kindN (.keep ts a) [k] = none := if_neg c
        rw [e2]
        exact .non
  | whil ts a =>
    obtain ⟨k, rfl⟩ := one_of hl
    walk_at "wds"
    refine ⟨[.str "take", .str "skip"], .cons (.str _) (.cons (.str _) .nil), by simp, fun p1 H1 s1 t1 i1 => ?_⟩
    refine ⟨_, ["take", "skip"], rfl, i1, ?_⟩
    refine ⟨_, rfl, ?_⟩
    walk_at "w"
    walk_at "go"
    obtain ⟨xs, e1, i1⟩ := a0.same s1
    have len := i1.len
    rw [List.length_map] at len
    refine ⟨⟨_, SqL.of e1⟩, fun D nD => lc_list (K := K) (a := p) (xs := xs) (fun i H2 => Hold (Same H1 H2 ∧ H2 D = some (.lst ((([k].take i).map fun k => decide (k = .num)).map V.bl))))
        (.mk ⟨same_new nD, upd_same⟩) (fun i H2 _ h => SqL.of (h.out.1 _ _ e1)) ?_ ?_⟩
    · intro i y H2 hi h
      obtain ⟨s2, e2⟩ := h.out
      obtain ⟨d, hd', iy⟩ := i1.get hi
      rw [List.getElem?_map] at hd'
      obtain ⟨k', hk, rfl⟩ := Option.map_eq_some_iff.mp hd'
      walk_at "go"
      refine ⟨k'.d, Kd.num.d, (iy.u (same_tk s2)).p, .str _, Kd.shaped60 (hd _ (List.mem_of_getElem? hk)), by decide +kernel, ?_⟩
      rw [Kd.eqv]
      refine ⟨_, e2, ?_, .mk ⟨same_put s2 nD, ?_⟩⟩
      · rw [List.length_map, List.length_map, List.length_take]
        refine small1000 ?_
        simp
        omega
      · rw [upd_same, take_succ hk, List.map_append, List.map_append]
        rfl
    · intro H2 h
      obtain ⟨s2, e2⟩ := h.out
      have s12 := s1.trans s2
      rw [len, List.take_length] at e2
      refine ⟨_, _, rfl, SqL.of e2, ?_⟩
      by_cases c : k = .num
      · subst c
        walk_at "go"
        exact q _ H2 s12 (.str _)
      · have e : (List.map (fun k => decide (k = Kd.num)) [k]).all id = false := by simp [c]
        rw [e]
        walk_at "go"
        refine q _ H2 s12 ?_
        have e2 : kindN (.whil ts a) [k] = none := if_neg c
        rw [e2]
        exact .non
  | fold f n a =>
    obtain ⟨k, rfl⟩ := one_of hl
    walk_at "wds"
    refine ⟨[.str "take", .str "skip"], .cons (.str _) (.cons (.str _) .nil), by simp, fun p1 H1 s1 t1 i1 => ?_⟩
    refine ⟨_, ["take", "skip"], rfl, i1, ?_⟩
    refine ⟨_, rfl, ?_⟩
    walk_at "w"
    walk_at "go"
    obtain ⟨xs, e1, i1⟩ := a0.same s1
    have len := i1.len
    rw [List.length_map] at len
    refine ⟨⟨_, SqL.of e1⟩, fun D nD => lc_list (K := K) (a := p) (xs := xs) (fun i H2 => Hold (Same H1 H2 ∧ H2 D = some (.lst ((([k].take i).map fun k => decide (k = .num)).map V.bl))))
        (.mk ⟨same_new nD, upd_same⟩) (fun i H2 _ h => SqL.of (h.out.1 _ _ e1)) ?_ ?_⟩
    · intro i y H2 hi h
      obtain ⟨s2, e2⟩ := h.out
      obtain ⟨d, hd', iy⟩ := i1.get hi
      rw [List.getElem?_map] at hd'
      obtain ⟨k', hk, rfl⟩ := Option.map_eq_some_iff.mp hd'
      walk_at "go"
      refine ⟨k'.d, Kd.num.d, (iy.u (same_tk s2)).p, .str _, Kd.shaped60 (hd _ (List.mem_of_getElem? hk)), by decide +kernel, ?_⟩
      rw [Kd.eqv]
      refine ⟨_, e2, ?_, .mk ⟨same_put s2 nD, ?_⟩⟩
      · rw [List.length_map, List.length_map, List.length_take]
        refine small1000 ?_
        simp
        omega
      · rw [upd_same, take_succ hk, List.map_append, List.map_append]
        rfl
    · intro H2 h
      obtain ⟨s2, e2⟩ := h.out
      have s12 := s1.trans s2
      rw [len, List.take_length] at e2
      refine ⟨_, _, rfl, SqL.of e2, ?_⟩
      by_cases c : k = .num
      · subst c
        walk_at "go"
        exact q _ H2 s12 (.str _)
      · have e : (List.map (fun k => decide (k = Kd.num)) [k]).all id = false := by simp [c]
        rw [e]
        walk_at "go"
        refine q _ H2 s12 ?_
        have e2 : kindN (.fold f n a) [k] = none := if_neg c
        rw [e2]
        exact .non
  | group n a =>
    obtain ⟨k, rfl⟩ := one_of hl
    walk_at "wds"
    refine ⟨[.str "take", .str "skip"], .cons (.str _) (.cons (.str _) .nil), by simp, fun p1 H1 s1 t1 i1 => ?_⟩
    refine ⟨_, ["take", "skip"], rfl, i1, ?_⟩
    refine ⟨_, rfl, ?_⟩
    walk_at "w"
    walk_at "go"
    obtain ⟨xs, e1, i1⟩ := a0.same s1
    have len := i1.len
    rw [List.length_map] at len
    refine ⟨⟨_, SqL.of e1⟩, fun D nD => lc_list (K := K) (a := p) (xs := xs) (fun i H2 => Hold (Same H1 H2 ∧ H2 D = some (.lst ((([k].take i).map fun k => decide (k = .num)).map V.bl))))
        (.mk ⟨same_new nD, upd_same⟩) (fun i H2 _ h => SqL.of (h.out.1 _ _ e1)) ?_ ?_⟩
    · intro i y H2 hi h
      obtain ⟨s2, e2⟩ := h.out
      obtain ⟨d, hd', iy⟩ := i1.get hi
      rw [List.getElem?_map] at hd'
      obtain ⟨k', hk, rfl⟩ := Option.map_eq_some_iff.mp hd'
      walk_at "go"
      refine ⟨k'.d, Kd.num.d, (iy.u (same_tk s2)).p, .str _, Kd.shaped60 (hd _ (List.mem_of_getElem? hk)), by decide +kernel, ?_⟩
      rw [Kd.eqv]
      refine ⟨_, e2, ?_, .mk ⟨same_put s2 nD, ?_⟩⟩
      · rw [List.length_map, List.length_map, List.length_take]
        refine small1000 ?_
        simp
        omega
      · rw [upd_same, take_succ hk, List.map_append, List.map_append]
        rfl
    · intro H2 h
      obtain ⟨s2, e2⟩ := h.out
      have s12 := s1.trans s2
      rw [len, List.take_length] at e2
      refine ⟨_, _, rfl, SqL.of e2, ?_⟩
      by_cases c : k = .num
      · subst c
        walk_at "go"
        refine ⟨[.str "row", .str "number"], .cons (.str _) (.cons (.str _) .nil), by simp, fun p3 H3 s3 t3 i3 => ?_⟩
        walk_at "go"
        refine ⟨[.str "pair", .str "number", (Kd.row .num).d], .cons (.str _) (.cons (.str _) (.cons i3 .nil)), by simp, fun p4 H4 s4 t4 i4 => ?_⟩
        exact q _ H4 (s12.trans (s3.trans s4)) i4
      · have e : (List.map (fun k => decide (k = Kd.num)) [k]).all id = false := by simp [c]
        rw [e]
        walk_at "go"
        refine q _ H2 s12 ?_
        have e2 : kindN (.group n a) [k] = none := if_neg c
        rw [e2]
        exact .non
  | merge a b =>
    obtain ⟨k, j, rfl⟩ := two_of hl
    walk_at "wds"
    refine ⟨[.str "take", .str "skip"], .cons (.str _) (.cons (.str _) .nil), by simp, fun p1 H1 s1 t1 i1 => ?_⟩
    refine ⟨_, ["take", "skip"], rfl, i1, ?_⟩
    refine ⟨_, rfl, ?_⟩
    walk_at "w"
    walk_at "go"
    obtain ⟨xs, e1, i1⟩ := a0.same s1
    have len := i1.len
    rw [List.length_map] at len
    refine ⟨⟨_, SqL.of e1⟩, fun D nD => lc_list (K := K) (a := p) (xs := xs) (fun i H2 => Hold (Same H1 H2 ∧ H2 D = some (.lst ((([k, j].take i).map fun k => decide (k = .num)).map V.bl))))
        (.mk ⟨same_new nD, upd_same⟩) (fun i H2 _ h => SqL.of (h.out.1 _ _ e1)) ?_ ?_⟩
    · intro i y H2 hi h
      obtain ⟨s2, e2⟩ := h.out
      obtain ⟨d, hd', iy⟩ := i1.get hi
      rw [List.getElem?_map] at hd'
      obtain ⟨k', hk, rfl⟩ := Option.map_eq_some_iff.mp hd'
      walk_at "go"
      refine ⟨k'.d, Kd.num.d, (iy.u (same_tk s2)).p, .str _, Kd.shaped60 (hd _ (List.mem_of_getElem? hk)), by decide +kernel, ?_⟩
      rw [Kd.eqv]
      refine ⟨_, e2, ?_, .mk ⟨same_put s2 nD, ?_⟩⟩
      · rw [List.length_map, List.length_map, List.length_take]
        refine small1000 ?_
        simp
        omega
      · rw [upd_same, take_succ hk, List.map_append, List.map_append]
        rfl
    · intro H2 h
      obtain ⟨s2, e2⟩ := h.out
      have s12 := s1.trans s2
      rw [len, List.take_length] at e2
      refine ⟨_, _, rfl, SqL.of e2, ?_⟩
      by_cases c : k = .num ∧ j = .num
      · obtain ⟨rfl, rfl⟩ := c
        walk_at "go"
        exact q _ H2 s12 (.str _)
      · have e : (List.map (fun k => decide (k = Kd.num)) [k, j]).all id = false := by
          simp
          intro h1 h2
          exact c ⟨h1, h2⟩
        rw [e]
        walk_at "go"
        refine q _ H2 s12 ?_
        have e2 : kindN (.merge a b) [k, j] = none := if_neg c
        rw [e2]
        exact .non

def spNamed (K : PySem.W.Frag) : Sp := fun vs H Q _ => ∃ (v : V), vs = [v] ∧ Hold (∃ (l : Ln), Im K H v l.d ∧ ∀ p H', H p = none → Same H H' → Acc K H' p (l.names.map PyData.int) → Q (.ref p) H')
theorem ok_named (T : Tx K w mg) : FnOk P w K mg base CX0 1 T.named.f T.named.fd ["line"] (spNamed K) := by
  refine T.named.F.ok sc_named (fun vs H Q E h => ?_) (fun cdv A outer s H vs Q E hr h => ?_)
  · obtain ⟨a, rfl, _⟩ := h
    rfl
  obtain ⟨v, rfl, h⟩ := h
  obtain ⟨l, iv, q⟩ := h.out
  refine ⟨_, (pss_cons (ps_if (pt_cmpR op_eq (pe_ix ix_tupD (pv 0) pe_int (fun _ _ => rfl)) pe_str (nomark _)) (pss_one (ps_ret (pe_ld pa_nil))) pss_nil)
      (pss_cons (ps_if (pt_cmpR op_inTS (pe_ix ix_tupD (pv 0) pe_int (fun _ _ => rfl)) (pe_td (pa_cons pe_str (pa_cons pe_str (pa_cons pe_str pa_nil)))) (by rfl)) (pss_one (ps_ret (pe_ld (pa_cons (pe_ix ix_tupD (pv 0) pe_int (fun _ _ => rfl)) (pa_cons (pe_ix ix_tupD (pv 0) pe_int (fun _ _ => rfl)) pa_nil))))) pss_nil)
      (pss_one (ps_ret (pe_ld (pa_cons (pe_ix ix_tupN (pv 0) (pe_un un_neg pe_int) (fun _ _ => rfl)) pa_nil)))))), ?_⟩
  cases l with
  | source k =>
    walk_at "wds"
    exact ⟨[], .nil, by simp, fun p H1 n1 s1 t1 a1 => q p H1 n1 s1 a1⟩
  | _ =>
    walk_at "wds"
    refine ⟨[.str "chain", .str "pair", .str "merge"], .cons (.str _) (.cons (.str _) (.cons (.str _) .nil)), by simp, fun p1 H1 s1 t1 i1 => ?_⟩
    refine ⟨_, ["chain", "pair", "merge"], rfl, i1, ?_⟩
    refine ⟨_, rfl, ?_⟩
    walk_at "w"
    walk_at "go"
    have iv1 := iv.u t1
    first
    | (refine ⟨_, -1, 2, _, iv1, rfl, rfl, rfl, fun u iu => ?_⟩
       obtain rfl := iu.i
       refine ⟨[.int _], .cons (.int _) .nil, by simp, fun p H2 n2 s2 t2 a2 => q p H2 (s1.free n2) (s1.trans s2) a2⟩)
    | (refine ⟨_, -1, 3, _, iv1, rfl, rfl, rfl, fun u iu => ?_⟩
       obtain rfl := iu.i
       refine ⟨[.int _], .cons (.int _) .nil, by simp, fun p H2 n2 s2 t2 a2 => q p H2 (s1.free n2) (s1.trans s2) a2⟩)
    | (refine ⟨_, 1, 1, _, iv1, rfl, rfl, rfl, fun u iu => ?_⟩
       obtain rfl := iu.i
       walk_at "go"
       refine ⟨_, 2, 2, _, iv1, rfl, rfl, rfl, fun u iu => ?_⟩
       obtain rfl := iu.i
       refine ⟨[.int _, .int _], .cons (.int _) (.cons (.int _) .nil), by simp, fun p H2 n2 s2 t2 a2 => q p H2 (s1.free n2) (s1.trans s2) a2⟩)

def spPlace (K : PySem.W.Frag) : Sp := fun vs H Q _ => ∃ (v va vm vs' : V), vs = [v, va, vm, vs'] ∧ Hold (∃ (l : Ln) (at_ many : Int) (p : Addr) (ss : List Int), Im K H v l.d ∧ va = .int at_ ∧ vm = .int many ∧ vs' = .ref p ∧ Acc K H p (ss.map PyData.int) ∧ ∀ H', Same H H' → Q (.bl (placeOk l at_ many ss)) H')
theorem ok_place_can_be (T : Tx K w mg) : FnOk P w K mg base CX0 2 T.place_can_be.f T.place_can_be.fd ["line", "at", "many", "sources"] (spPlace K) := by
  refine T.place_can_be.F.ok sc_place_can_be (fun vs H Q E h => ?_) (fun cdv A outer s H vs Q E hr h => ?_)
  · obtain ⟨a, b, c, d, rfl, _⟩ := h
    rfl
  obtain ⟨v, va, vm, vs', rfl, h⟩ := h
  obtain ⟨l, at_, many, p, ss, iv, rfl, rfl, rfl, a0, q⟩ := h.out
  refine ⟨_, (pss_cons (ps_if (pt_cmpR op_eq (pe_ix ix_tupD (pv 0) pe_int (fun _ _ => rfl)) pe_str (nomark _)) (pss_one (ps_ret (pe_and (pe_chain op_le op_lt pe_int (pe_ix ix_tupD (pv 0) pe_int (fun _ _ => rfl)) (pv 2)) (pe_one (pe_cmpR op_notInI (pe_ix ix_tupD (pv 0) pe_int (fun _ _ => rfl)) (pv 3) (by rfl)))))) pss_nil)
      (pss_one (ps_ret (pe_callB (cr_all rfl) (by rfl) T.z_all (by decide +kernel) (pa_cons (pe_lc (own := [("a", 4)]) (g := gName 4) (tt := tYes) rfl sc_place_can_be.nd (pi_list (pe_call (ok_named T) hr (by rfl) T.named.g T.named.F.kp T.named.b .nil pass0 (pa_cons (pv 0) pa_nil))) (blkOk_by (own := [("a", 4)]) (N := ["line", "at", "many", "sources", "a"]) (sc := defScope s_place_can_be) (by decide +kernel)) (fun _ _ _ _ _ => pg_name (i := 4) sc_place_can_be.nd rfl (Or.inl rfl)) (fun _ _ _ _ _ => pts_nil) (fun _ _ _ _ _ => (pe_chain op_le op_lt pe_int (pv 4) (pv 1)))) pa_nil))))), ?_⟩
  by_cases hsrc : ∃ k, l = .source k
  · obtain ⟨k, rfl⟩ := hsrc
    walk_at "wds"
    walk_at "n1"
    have e : placeOk (.source k) at_ many ss = ((decide (0 ≤ k) && decide (k < many)) && !decide (k ∈ ss)) := rfl
    rw [e] at q
    by_cases c1 : 0 ≤ k
    · rw [decide_eq_true c1, Bool.true_and] at q
      refine ite_t (decide_eq_true c1) ?_
      walk_at "go"
      by_cases c2 : k < many
      · rw [decide_eq_true c2, Bool.true_and] at q
        refine ite_t (decide_eq_true c2) ?_
        walk_at "go"
        walk_at "n1"
        exact ⟨_, _, ss, rfl, rfl, a0, q H (Same.refl H)⟩
      · rw [decide_eq_false c2, Bool.false_and] at q
        refine ite_f (decide_eq_false c2) ?_
        walk_at "go"
        exact q H (Same.refl H)
    · rw [decide_eq_false c1, Bool.false_and, Bool.false_and] at q
      refine ite_f (decide_eq_false c1) ?_
      walk_at "go"
      exact q H (Same.refl H)
  · have e : placeOk l at_ many ss = l.names.all fun a => decide (0 ≤ a) && decide (a < at_) := by
      cases l with
      | source k => exact absurd ⟨k, rfl⟩ hsrc
      | _ => rfl
    rw [e] at q
    have w : ∃ (x : Str) (ds : List PyData), l.d = .tuple (.str x :: ds) ∧ decide (V.str x = V.str "source") = false := by
      cases l with
      | source k => exact absurd ⟨k, rfl⟩ hsrc
      | _ => exact ⟨_, _, rfl, by decide +kernel⟩
    obtain ⟨x, ds, ed, ex⟩ := w
    have iw := iv
    rw [ed] at iw
    walk_at "go"
    refine ⟨_, 0, 0, _, iw, rfl, rfl, rfl, fun u iu => ?_⟩
    obtain rfl := iu.s
    refine ⟨rfl, _, rfl, ?_⟩
    refine ite_f ex ?_
    walk_at "go"
    refine .mk ⟨l, iv, fun p1 H1 n1 s1 a1 => ?_⟩
    obtain ⟨xs, e1, i1⟩ := a1
    have ei := Ims.of_ints _ i1
    subst ei
    refine ⟨p1, rfl, ⟨_, SqL.of e1⟩, fun D nD => lc_list (K := K) (a := p1) (xs := l.names.map V.int) (fun i H2 => Hold (Same H1 H2 ∧ H2 D = some (.lst (((l.names.take i).map fun a => decide (0 ≤ a) && decide (a < at_)).map V.bl))))
        (.mk ⟨same_new nD, upd_same⟩) (fun i H2 _ h => SqL.of (h.out.1 _ _ e1)) ?_ ?_⟩
    · intro i y H2 hi h
      obtain ⟨s2, e2⟩ := h.out
      rw [List.getElem?_map] at hi
      obtain ⟨n, hn, rfl⟩ := Option.map_eq_some_iff.mp hi
      have fin : ∀ b : Bool, b = (decide (0 ≤ n) && decide (n < at_)) → ∃ acc, H2 D = some (.lst acc) ∧ acc.length < sizeLine ∧ Hold (Same H1 (upd H2 D (.lst (acc ++ [V.bl b]))) ∧ (upd H2 D (.lst (acc ++ [V.bl b]))) D = some (.lst (((l.names.take (i + 1)).map fun a => decide (0 ≤ a) && decide (a < at_)).map V.bl))) := fun b hb => by
        refine ⟨_, e2, ?_, .mk ⟨same_put s2 nD, ?_⟩⟩
        · rw [List.length_map, List.length_map, List.length_take]
          refine small1000 ?_
          have : l.names.length ≤ 2 := by cases l <;> simp [Ln.names]
          omega
        · rw [upd_same, take_succ hn, List.map_append, List.map_append, hb]
          rfl
      walk_at "go"
      by_cases c1 : 0 ≤ n
      · refine ite_t (decide_eq_true c1) ?_
        walk_at "go"
        exact fin _ (by rw [decide_eq_true c1, Bool.true_and])
      · refine ite_f (decide_eq_false c1) ?_
        exact fin _ (by rw [decide_eq_false c1, Bool.false_and])
    · intro H2 h
      obtain ⟨s2, e2⟩ := h.out
      refine ⟨_, _, rfl, SqL.of e2, ?_⟩
      rw [List.length_map, List.take_length, List.all_map]
      exact q H2 (s1.trans s2)

def spIsNumber (K : PySem.W.Frag) : Sp := fun vs H Q _ => ∃ (n : Int), vs = [.int n] ∧ Hold (Q (.bl (isNum n)) H)
theorem ok_is_number (T : Tx K w mg) : FnOk P w K mg base CX0 1 T.is_number.f T.is_number.fd ["number"] (spIsNumber K) := by
  refine T.is_number.F.ok sc_is_number (fun vs H Q E h => ?_) (fun cdv A outer s H vs Q E hr h => ?_)
  · obtain ⟨a, rfl, _⟩ := h
    rfl
  obtain ⟨n, rfl, h⟩ := h
  have q := h.out
  refine ⟨_, (pss_one (ps_ret (pe_chain op_le op_lt pe_int (pv 0) (pe_glob (v := .int 1000003) (by rfl) T.c_REST.g ⟨_, rfl⟩)))), ?_⟩
  walk_at "go"
  have e : isNum n = (decide (0 ≤ n) && decide (n < 1000003)) := rfl
  rw [e] at q
  by_cases c : 0 ≤ n
  · rw [decide_eq_true c] at q
    refine ite_t (decide_eq_true c) ?_
    walk_at "go"
    exact q
  · rw [decide_eq_false c] at q
    refine ite_f (decide_eq_false c) ?_
    exact q

def spDeedsCan (K : PySem.W.Frag) : Sp := fun vs H Q _ => ∃ (v : V), vs = [v] ∧ Hold (∃ (ds : List Deed), Im K H v (.tuple (ds.map Deed.d)) ∧ ds.length ≤ 1000 ∧ ∀ H', Same H H' → Q (.bl (deedsCan ds)) H')
theorem ok_deeds_can_be (T : Tx K w mg) : FnOk P w K mg base CX0 2 T.deeds_can_be.f T.deeds_can_be.fd ["deeds"] (spDeedsCan K) := by
  refine T.deeds_can_be.F.ok sc_deeds_can_be (fun vs H Q E h => ?_) (fun cdv A outer s H vs Q E hr h => ?_)
  · obtain ⟨a, rfl, _⟩ := h
    rfl
  obtain ⟨v, rfl, h⟩ := h
  obtain ⟨ds, iv, hl, q⟩ := h.out
  obtain ⟨a, xs, rfl, ht, hs⟩ := id iv.t
  have len := hs.len
  rw [List.length_map] at len
  refine ⟨_, (pss_one (ps_ret (pe_and (pe_chain op_le op_le pe_int (pe_callB call_lenT (by rfl) T.z_len PySem.boot_len (pa_cons (pv 0) pa_nil)) (pe_glob (v := .int 64) (by rfl) T.c_LONGEST.g ⟨_, rfl⟩)) (pe_one (pe_callB (cr_all rfl) (by rfl) T.z_all (by decide +kernel) (pa_cons (pe_lc2 (own := [("deed", 1), ("n", 2)]) (g := gName 1) (tt := tYes) (g1 := gName 2) (tt1 := tYes) (vs1 := [2]) (wi1 := iTup K (tSl (rSlD K) (tVar 1) (tPart (tC (.int 1))) tNoPart)) rfl sc_deeds_can_be.nd (pi_tup (pv 0)) (blkOk_by (own := [("deed", 1), ("n", 2)]) (N := ["deeds", "deed", "n"]) (sc := defScope s_deeds_can_be) (by decide +kernel)) (by decide) (fun _ _ _ _ _ => pg_name (i := 1) sc_deeds_can_be.nd rfl (Or.inl rfl)) (fun _ _ _ _ _ => pts_nil) (fun _ _ _ _ _ => (pi_tupK (K := K) rfl (pe_slice (show SlR _ (rSlD K) from sl_tupD) (pv 1) (po_some pe_int) po_none))) (fun _ _ _ _ _ => pg_name (i := 2) sc_deeds_can_be.nd rfl (Or.inl rfl)) (fun _ _ _ _ _ => pts_nil) (fun _ _ _ _ _ => (pe_call (ok_is_number T) hr (by rfl) T.is_number.g T.is_number.F.kp T.is_number.b .nil pass0 (pa_cons (pv 2) pa_nil)))) pa_nil)))))), ?_⟩
  have e0 : deedsCan ds = ((decide (1 ≤ ds.length) && decide (ds.length ≤ 64)) && ds.all deedNum) := rfl
  walk_at "go"
  refine ⟨_, _, rfl, iv, ?_⟩
  walk_at "go"
  rw [List.length_map]
  by_cases c1 : 1 ≤ ds.length
  · refine ite_t (decide_eq_true (by omega)) ?_
    walk_at "go"
    by_cases c2 : ds.length ≤ 64
    · refine ite_t (decide_eq_true (by omega)) ?_
      refine ⟨_, rfl, a, rfl, ⟨_, ht⟩, fun D nD => loop_tup (K := K) (a := a) (xs := xs) (fun i H2 => Hold (Same H H2 ∧ H2 D = some (.lst (((ds.take i).flatMap fun d => d.args.map isNum).map V.bl))))
        (.mk ⟨same_new nD, upd_same⟩) (fun i H2 _ h => (same_tk h.out.1).t _ _ ht) ?_ ?_⟩
      · intro i x H2 hi h
        obtain ⟨s2, e2⟩ := h.out
        obtain ⟨d, hd, ix⟩ := hs.get hi
        rw [List.getElem?_map] at hd
        obtain ⟨d, hd', rfl⟩ := Option.map_eq_some_iff.mp hd
        have ix2 := ix.u (same_tk s2)
        obtain ⟨wd, ed, _⟩ := d.tail
        rw [ed] at ix2
        walk_at "go"
        refine ⟨_, ix2, fun v3 H3 s3 t3 i3 => ?_⟩
        rw [cut_tail] at i3
        obtain ⟨b, ys, rfl, ht3, hs3⟩ := i3.t
        have el := Ims.of_ints _ hs3
        subst el
        have e3 := s3 _ _ e2
        refine ⟨b, rfl, ⟨_, ht3⟩, loop_tup (K := K) (a := b) (xs := d.args.map V.int) (fun j H4 => Hold (Same H H4 ∧ SqT K H4 b (d.args.map V.int) ∧
            H4 D = some (.lst ((((ds.take i).flatMap fun d => d.args.map isNum) ++ (d.args.take j).map isNum).map V.bl)))) ?_ (fun j H4 _ h => h.out.2.1) ?_ ?_⟩
        · refine .mk ⟨s2.trans s3, ht3, ?_⟩
          rw [List.take_zero, List.map_nil, List.append_nil]
          exact e3
        · intro j y H4 hj h
          obtain ⟨s4, t4, e4⟩ := h.out
          rw [List.getElem?_map] at hj
          obtain ⟨n, hn, rfl⟩ := Option.map_eq_some_iff.mp hj
          walk_at "go"
          refine .mk ⟨_, e4, ?_, ?_⟩
          · have l1 : ((ds.take i).flatMap fun d => d.args.map isNum).length ≤ 1000 := by
              have l2 : ∀ es : List Deed, (es.flatMap fun d => d.args.map isNum).length ≤ es.length := fun es => by
                induction es with
                | nil => exact Nat.le_refl _
                | cons e es ih =>
                  rw [List.flatMap_cons, List.length_append, List.length_cons]
                  have : (e.args.map isNum).length ≤ 1 := by cases e <;> simp [Deed.args]
                  omega
              have := l2 (ds.take i)
              rw [List.length_take] at this
              omega
            have l3 : ((d.args.take j).map isNum).length ≤ 1 := by
              rw [List.length_map, List.length_take]
              have : d.args.length ≤ 1 := by cases d <;> simp [Deed.args]
              omega
            rw [List.length_map, List.length_append]
            exact Nat.lt_of_le_of_lt (by omega : _ ≤ 2000) (by decide)
          · have b4 : But D H4 (upd H4 D (.lst ((((ds.take i).flatMap fun d => d.args.map isNum) ++ (d.args.take j).map isNum).map V.bl ++ [.bl (isNum n)]))) := fun b u hb z => by rw [upd_ne hb]; exact z
            refine .mk ⟨same_put s4 nD, (b4.tk e4).t _ _ t4, ?_⟩
            rw [upd_same, take_succ hn, List.map_append, List.map_append, List.map_append, List.map_append, List.append_assoc]
            rfl
        · intro H4 h
          obtain ⟨s4, t4, e4⟩ := h.out
          refine .mk ⟨s4, ?_⟩
          rw [e4, take_succ hd', List.flatMap_append, List.length_map, List.take_length, List.flatMap_cons, List.flatMap_nil, List.append_nil]
      · intro H2 h
        obtain ⟨s2, e2⟩ := h.out
        refine ⟨_, _, rfl, SqL.of e2, ?_⟩
        rw [len, List.take_length, deeds_all]
        have e : deedsCan ds = ds.all deedNum := by rw [e0, decide_eq_true c1, decide_eq_true c2]; rfl
        rw [e] at q
        exact q H2 s2
    · refine ite_f (decide_eq_false (by omega)) ?_
      have e : deedsCan ds = false := by rw [e0, decide_eq_false c2, Bool.and_false, Bool.false_and]
      rw [e] at q
      walk_at "go"
      exact q H (Same.refl H)
  · refine ite_f (decide_eq_false (by omega)) ?_
    have e : deedsCan ds = false := by rw [e0, decide_eq_false c1, Bool.false_and, Bool.false_and]
    rw [e] at q
    walk_at "go"
    exact q H (Same.refl H)

def spTestCan (K : PySem.W.Frag) : Sp := fun vs H Q _ => ∃ (v : V), vs = [v] ∧ Hold (∃ (t : Tst), Im K H v t.d ∧ Q (.bl (tstNum t)) H)
theorem ok_test_can_be (T : Tx K w mg) : FnOk P w K mg base CX0 2 T.test_can_be.f T.test_can_be.fd ["test"] (spTestCan K) := by
  refine T.test_can_be.F.ok sc_test_can_be (fun vs H Q E h => ?_) (fun cdv A outer s H vs Q E hr h => ?_)
  · obtain ⟨a, rfl, _⟩ := h
    rfl
  obtain ⟨v, rfl, h⟩ := h
  obtain ⟨t, iv, q⟩ := h.out
  refine ⟨_, (pss_cons (ps_if (pt_cmpR op_eq (pe_ix ix_tupD (pv 0) pe_int (fun _ _ => rfl)) pe_str (nomark _)) (pss_one (ps_ret (pe_and (pe_call (ok_is_number T) hr (by rfl) T.is_number.g T.is_number.F.kp T.is_number.b .nil pass0 (pa_cons (pe_ix ix_tupD (pv 0) pe_int (fun _ _ => rfl)) pa_nil)) (pe_one (pe_chain op_le op_lt pe_int (pe_ix ix_tupD (pv 0) pe_int (fun _ _ => rfl)) (pe_ix ix_tupD (pv 0) pe_int (fun _ _ => rfl))))))) pss_nil)
      (pss_one (ps_ret (pe_call (ok_is_number T) hr (by rfl) T.is_number.g T.is_number.F.kp T.is_number.b .nil pass0 (pa_cons (pe_ix ix_tupD (pv 0) pe_int (fun _ _ => rfl)) pa_nil))))), ?_⟩
  cases t with
  | below n =>
    walk_at "wds"
    walk_at "n1"
    exact .mk q
  | over n =>
    walk_at "wds"
    walk_at "n1"
    exact .mk q
  | rest m r =>
    walk_at "wds"
    walk_at "n1"
    have e : tstNum (.rest m r) = (isNum m && (decide (0 ≤ r) && decide (r < m))) := rfl
    refine .mk ?_
    refine ⟨_, rfl, ?_⟩
    rw [e] at q
    by_cases c1 : isNum m = true
    · rw [c1, Bool.true_and] at q
      refine ite_t c1 ?_
      walk_at "go"
      walk_at "n2"
      by_cases c2 : 0 ≤ r
      · rw [decide_eq_true c2, Bool.true_and] at q
        refine ite_t (decide_eq_true c2) ?_
        walk_at "go"
        walk_at "n1"
        exact q
      · rw [decide_eq_false c2, Bool.false_and] at q
        refine ite_f (decide_eq_false c2) ?_
        exact q
    · have c1 : isNum m = false := Bool.eq_false_iff.mpr c1
      rw [c1, Bool.false_and] at q
      refine ite_f c1 ?_
      exact q

def spTestsCan (K : PySem.W.Frag) : Sp := fun vs H Q _ => ∃ (v : V), vs = [v] ∧ Hold (∃ (ts : List Tst), Im K H v (.tuple (ts.map Tst.d)) ∧ ts.length ≤ 1000 ∧ ∀ H', Same H H' → Q (.bl (testsCan ts)) H')
theorem ok_tests_can_be (T : Tx K w mg) : FnOk P w K mg base CX0 3 T.tests_can_be.f T.tests_can_be.fd ["tests"] (spTestsCan K) := by
  refine T.tests_can_be.F.ok sc_tests_can_be (fun vs H Q E h => ?_) (fun cdv A outer s H vs Q E hr h => ?_)
  · obtain ⟨a, rfl, _⟩ := h
    rfl
  obtain ⟨v, rfl, h⟩ := h
  obtain ⟨ts, iv, hl, q⟩ := h.out
  obtain ⟨a, xs, rfl, ht, hs⟩ := id iv.t
  have len := hs.len
  rw [List.length_map] at len
  refine ⟨_, (pss_one (ps_ret (pe_and (pe_chain op_le op_le pe_int (pe_callB call_lenT (by rfl) T.z_len PySem.boot_len (pa_cons (pv 0) pa_nil)) (pe_glob (v := .int 64) (by rfl) T.c_LONGEST.g ⟨_, rfl⟩)) (pe_one (pe_callB (cr_all rfl) (by rfl) T.z_all (by decide +kernel) (pa_cons (pe_lc (own := [("test", 1)]) (g := gName 1) (tt := tYes) rfl sc_tests_can_be.nd (pi_tup (pv 0)) (blkOk_by (own := [("test", 1)]) (N := ["tests", "test"]) (sc := defScope s_tests_can_be) (by decide +kernel)) (fun _ _ _ _ _ => pg_name (i := 1) sc_tests_can_be.nd rfl (Or.inl rfl)) (fun _ _ _ _ _ => pts_nil) (fun _ _ _ _ _ => (pe_call (ok_test_can_be T) hr (by rfl) T.test_can_be.g T.test_can_be.F.kp T.test_can_be.b .nil pass0 (pa_cons (pv 1) pa_nil)))) pa_nil)))))), ?_⟩
  have e0 : testsCan ts = ((decide (1 ≤ ts.length) && decide (ts.length ≤ 64)) && ts.all tstNum) := rfl
  walk_at "go"
  refine ⟨_, _, rfl, iv, ?_⟩
  walk_at "go"
  rw [List.length_map]
  by_cases c1 : 1 ≤ ts.length
  · refine ite_t (decide_eq_true (by omega)) ?_
    walk_at "go"
    by_cases c2 : ts.length ≤ 64
    · refine ite_t (decide_eq_true (by omega)) ?_
      refine ⟨_, rfl, a, rfl, ⟨_, ht⟩, fun D nD => lc_tup (K := K) (a := a) (xs := xs) (fun i H2 => Hold (Same H H2 ∧ H2 D = some (.lst (((ts.take i).map tstNum).map V.bl))))
        (.mk ⟨same_new nD, upd_same⟩) (fun i H2 _ h => (same_tk h.out.1).t _ _ ht) ?_ ?_⟩
      · intro i x H2 hi h
        obtain ⟨s2, e2⟩ := h.out
        obtain ⟨d, hd, ix⟩ := hs.get hi
        rw [List.getElem?_map] at hd
        obtain ⟨t, ht', rfl⟩ := Option.map_eq_some_iff.mp hd
        walk_at "go"
        refine .mk ⟨t, ix.u (same_tk s2), ?_⟩
        refine ⟨_, e2, ?_, .mk ⟨same_put s2 nD, ?_⟩⟩
        · rw [List.length_map, List.length_map, List.length_take]
          exact small1000 (by omega)
        · rw [upd_same, take_succ ht', List.map_append, List.map_append]
          rfl
      · intro H2 h
        obtain ⟨s2, e2⟩ := h.out
        refine ⟨_, _, rfl, SqL.of e2, ?_⟩
        rw [len, List.take_length, List.all_map]
        have e : testsCan ts = ts.all tstNum := by rw [e0, decide_eq_true c1, decide_eq_true c2]; rfl
        rw [e] at q
        exact q H2 s2
    · refine ite_f (decide_eq_false (by omega)) ?_
      have e : testsCan ts = false := by rw [e0, decide_eq_false c2, Bool.and_false, Bool.false_and]
      rw [e] at q
      walk_at "go"
      exact q H (Same.refl H)
  · refine ite_f (decide_eq_false (by omega)) ?_
    have e : testsCan ts = false := by rw [e0, decide_eq_false c1, Bool.false_and, Bool.false_and]
    rw [e] at q
    walk_at "go"
    exact q H (Same.refl H)

def spNumbers (K : PySem.W.Frag) : Sp := fun vs H Q _ => ∃ (v : V), vs = [v] ∧ Hold (∃ (l : Ln), Im K H v l.d ∧ (∀ ds a, l = .map ds a → ds.length ≤ 1000) ∧ (∀ ts a, l = .keep ts a ∨ l = .whil ts a → ts.length ≤ 1000) ∧ ∀ H', Same H H' → Q (.bl (numOk l)) H')
theorem ok_numbers_can_be (T : Tx K w mg) : FnOk P w K mg base CX0 4 T.numbers_can_be.f T.numbers_can_be.fd ["line"] (spNumbers K) := by
  refine T.numbers_can_be.F.ok sc_numbers_can_be (fun vs H Q E h => ?_) (fun cdv A outer s H vs Q E hr h => ?_)
  · obtain ⟨a, rfl, _⟩ := h
    rfl
  obtain ⟨v, rfl, h⟩ := h
  obtain ⟨l, iv, ld, lt, q⟩ := h.out
  refine ⟨_, (pss_cons (ps_set (i := 1) sc_numbers_can_be.nd rfl (by first | exact Or.inl rfl | exact Or.inr rfl) (pe_ix ix_tupD (pv 0) pe_int (fun _ _ => rfl)))
      (pss_cons (ps_if (pt_cmpR op_eq (pv 1) pe_str (nomark _)) (pss_one (ps_ret (pe_call (ok_deeds_can_be T) (hr.mono (by decide)) (by rfl) T.deeds_can_be.g T.deeds_can_be.F.kp T.deeds_can_be.b .nil pass0 (pa_cons (pe_ix ix_tupD (pv 0) pe_int (fun _ _ => rfl)) pa_nil)))) pss_nil)
      (pss_cons (ps_if (pt_cmpR op_inTS (pv 1) (pe_td (pa_cons pe_str (pa_cons pe_str pa_nil))) (by rfl)) (pss_one (ps_ret (pe_call (ok_tests_can_be T) hr (by rfl) T.tests_can_be.g T.tests_can_be.F.kp T.tests_can_be.b .nil pass0 (pa_cons (pe_ix ix_tupD (pv 0) pe_int (fun _ _ => rfl)) pa_nil)))) pss_nil)
      (pss_cons (ps_if (pt_cmpR op_inTS (pv 1) (pe_td (pa_cons pe_str (pa_cons pe_str pa_nil))) (by rfl)) (pss_one (ps_ret (pe_chain op_le op_le pe_int (pe_ix ix_tupD (pv 0) pe_int (fun _ _ => rfl)) (pe_glob (v := .int 9999) (by rfl) T.c_MOST_TAKEN.g ⟨_, rfl⟩)))) pss_nil)
      (pss_cons (ps_if (pt_cmpR op_eq (pv 1) pe_str (nomark _)) (pss_one (ps_ret (pe_and (pe_cmpR op_ge (pe_ix ix_tupD (pv 0) pe_int (fun _ _ => rfl)) pe_int (nomark _)) (pe_one (pe_call (ok_is_number T) (hr.mono (by decide)) (by rfl) T.is_number.g T.is_number.F.kp T.is_number.b .nil pass0 (pa_cons (pe_ix ix_tupD (pv 0) pe_int (fun _ _ => rfl)) pa_nil)))))) pss_nil)
      (pss_cons (ps_if (pt_cmpR op_eq (pv 1) pe_str (nomark _)) (pss_one (ps_ret (pe_chain op_le op_le pe_int (pe_ix ix_tupD (pv 0) pe_int (fun _ _ => rfl)) (pe_glob (v := .int 9) (by rfl) T.c_WIDEST.g ⟨_, rfl⟩)))) pss_nil)
      (pss_cons (ps_if (pt_cmpR op_eq (pv 1) pe_str (nomark _)) (pss_one (ps_ret (pe_call (ok_is_number T) (hr.mono (by decide)) (by rfl) T.is_number.g T.is_number.F.kp T.is_number.b .nil pass0 (pa_cons (pe_ix ix_tupD (pv 0) pe_int (fun _ _ => rfl)) pa_nil)))) pss_nil)
      (pss_one (ps_ret pe_bl))))))))), ?_⟩
  cases l with
  | map ds a =>
    walk_at "wds"
    refine ⟨_, 1, 1, _, iv, rfl, rfl, rfl, fun u iu => ?_⟩
    walk_at "go"
    exact .mk ⟨ds, iu, ld _ _ rfl, q⟩
  | keep ts a =>
    walk_at "wds"
    refine ⟨[.str "keep", .str "while"], .cons (.str _) (.cons (.str _) .nil), by simp, fun p1 H1 s1 t1 i1 => ?_⟩
    refine ⟨_, ["keep", "while"], rfl, i1, ?_⟩
    refine ⟨_, rfl, ?_⟩
    have iv1 := iv.u t1
    walk_at "w"
    walk_at "go"
    refine ⟨_, 1, 1, _, iv1, rfl, rfl, rfl, fun u iu => ?_⟩
    walk_at "go"
    exact .mk ⟨ts, iu, lt _ _ (.inl rfl), fun H2 s2 => q H2 (s1.trans s2)⟩
  | whil ts a =>
    walk_at "wds"
    refine ⟨[.str "keep", .str "while"], .cons (.str _) (.cons (.str _) .nil), by simp, fun p1 H1 s1 t1 i1 => ?_⟩
    refine ⟨_, ["keep", "while"], rfl, i1, ?_⟩
    refine ⟨_, rfl, ?_⟩
    have iv1 := iv.u t1
    walk_at "w"
    walk_at "go"
    refine ⟨_, 1, 1, _, iv1, rfl, rfl, rfl, fun u iu => ?_⟩
    walk_at "go"
    exact .mk ⟨ts, iu, lt _ _ (.inr rfl), fun H2 s2 => q H2 (s1.trans s2)⟩
  | take n a =>
    walk_at "wds"
    refine ⟨[.str "keep", .str "while"], .cons (.str _) (.cons (.str _) .nil), by simp, fun p1 H1 s1 t1 i1 => ?_⟩
    refine ⟨_, ["keep", "while"], rfl, i1, ?_⟩
    refine ⟨_, rfl, ?_⟩
    have iv1 := iv.u t1
    walk_at "w"
    walk_at "go"
    refine ⟨[.str "take", .str "skip"], .cons (.str _) (.cons (.str _) .nil), by simp, fun p2 H2 s2 t2 i2 => ?_⟩
    refine ⟨_, ["take", "skip"], rfl, i2, ?_⟩
    refine ⟨_, rfl, ?_⟩
    have iv2 := iv1.u t2
    have s12 := s1.trans s2
    walk_at "w"
    walk_at "wds"
    walk_at "n1"
    have q : Q (.bl (decide (0 ≤ n) && decide (n ≤ 9999))) H2 := q H2 s12
    by_cases c1 : 0 ≤ n
    · refine ite_t (decide_eq_true c1) ?_
      walk_at "go"
      rw [decide_eq_true c1, Bool.true_and] at q
      exact q
    · refine ite_f (decide_eq_false c1) ?_
      walk_at "go"
      rw [decide_eq_false c1, Bool.false_and] at q
      exact q
  | skip n a =>
    walk_at "wds"
    refine ⟨[.str "keep", .str "while"], .cons (.str _) (.cons (.str _) .nil), by simp, fun p1 H1 s1 t1 i1 => ?_⟩
    refine ⟨_, ["keep", "while"], rfl, i1, ?_⟩
    refine ⟨_, rfl, ?_⟩
    have iv1 := iv.u t1
    walk_at "w"
    walk_at "go"
    refine ⟨[.str "take", .str "skip"], .cons (.str _) (.cons (.str _) .nil), by simp, fun p2 H2 s2 t2 i2 => ?_⟩
    refine ⟨_, ["take", "skip"], rfl, i2, ?_⟩
    refine ⟨_, rfl, ?_⟩
    have iv2 := iv1.u t2
    have s12 := s1.trans s2
    walk_at "w"
    walk_at "wds"
    walk_at "n1"
    have q : Q (.bl (decide (0 ≤ n) && decide (n ≤ 9999))) H2 := q H2 s12
    by_cases c1 : 0 ≤ n
    · refine ite_t (decide_eq_true c1) ?_
      walk_at "go"
      rw [decide_eq_true c1, Bool.true_and] at q
      exact q
    · refine ite_f (decide_eq_false c1) ?_
      walk_at "go"
      rw [decide_eq_false c1, Bool.false_and] at q
      exact q
  | group n a =>
    walk_at "wds"
    refine ⟨[.str "keep", .str "while"], .cons (.str _) (.cons (.str _) .nil), by simp, fun p1 H1 s1 t1 i1 => ?_⟩
    refine ⟨_, ["keep", "while"], rfl, i1, ?_⟩
    refine ⟨_, rfl, ?_⟩
    have iv1 := iv.u t1
    walk_at "w"
    walk_at "go"
    refine ⟨[.str "take", .str "skip"], .cons (.str _) (.cons (.str _) .nil), by simp, fun p2 H2 s2 t2 i2 => ?_⟩
    refine ⟨_, ["take", "skip"], rfl, i2, ?_⟩
    refine ⟨_, rfl, ?_⟩
    have iv2 := iv1.u t2
    have s12 := s1.trans s2
    walk_at "w"
    walk_at "wds"
    walk_at "n1"
    have q : Q (.bl (decide (1 ≤ n) && isNum n)) H2 := q H2 s12
    by_cases c1 : 1 ≤ n
    · refine ite_t (decide_eq_true c1) ?_
      walk_at "go"
      rw [decide_eq_true c1, Bool.true_and] at q
      walk_at "n1"
      exact .mk q
    · refine ite_f (decide_eq_false c1) ?_
      walk_at "go"
      rw [decide_eq_false c1, Bool.false_and] at q
      exact q
  | window n a =>
    walk_at "wds"
    refine ⟨[.str "keep", .str "while"], .cons (.str _) (.cons (.str _) .nil), by simp, fun p1 H1 s1 t1 i1 => ?_⟩
    refine ⟨_, ["keep", "while"], rfl, i1, ?_⟩
    refine ⟨_, rfl, ?_⟩
    have iv1 := iv.u t1
    walk_at "w"
    walk_at "go"
    refine ⟨[.str "take", .str "skip"], .cons (.str _) (.cons (.str _) .nil), by simp, fun p2 H2 s2 t2 i2 => ?_⟩
    refine ⟨_, ["take", "skip"], rfl, i2, ?_⟩
    refine ⟨_, rfl, ?_⟩
    have iv2 := iv1.u t2
    have s12 := s1.trans s2
    walk_at "w"
    walk_at "wds"
    walk_at "n1"
    have q : Q (.bl (decide (1 ≤ n) && decide (n ≤ 9))) H2 := q H2 s12
    by_cases c1 : 1 ≤ n
    · refine ite_t (decide_eq_true c1) ?_
      walk_at "go"
      rw [decide_eq_true c1, Bool.true_and] at q
      exact q
    · refine ite_f (decide_eq_false c1) ?_
      walk_at "go"
      rw [decide_eq_false c1, Bool.false_and] at q
      exact q
  | fold w n a =>
    walk_at "wds"
    refine ⟨[.str "keep", .str "while"], .cons (.str _) (.cons (.str _) .nil), by simp, fun p1 H1 s1 t1 i1 => ?_⟩
    refine ⟨_, ["keep", "while"], rfl, i1, ?_⟩
    refine ⟨_, rfl, ?_⟩
    have iv1 := iv.u t1
    walk_at "w"
    walk_at "go"
    refine ⟨[.str "take", .str "skip"], .cons (.str _) (.cons (.str _) .nil), by simp, fun p2 H2 s2 t2 i2 => ?_⟩
    refine ⟨_, ["take", "skip"], rfl, i2, ?_⟩
    refine ⟨_, rfl, ?_⟩
    have iv2 := iv1.u t2
    have s12 := s1.trans s2
    walk_at "w"
    walk_at "wds"
    refine ⟨_, 2, 2, _, iv2, rfl, rfl, rfl, fun u iu => ?_⟩
    obtain rfl := iu.i
    walk_at "go"
    exact .mk (q H2 s12)
  | source k =>
    walk_at "wds"
    refine ⟨[.str "keep", .str "while"], .cons (.str _) (.cons (.str _) .nil), by simp, fun p1 H1 s1 t1 i1 => ?_⟩
    refine ⟨_, ["keep", "while"], rfl, i1, ?_⟩
    refine ⟨_, rfl, ?_⟩
    have iv1 := iv.u t1
    walk_at "w"
    walk_at "go"
    refine ⟨[.str "take", .str "skip"], .cons (.str _) (.cons (.str _) .nil), by simp, fun p2 H2 s2 t2 i2 => ?_⟩
    refine ⟨_, ["take", "skip"], rfl, i2, ?_⟩
    refine ⟨_, rfl, ?_⟩
    have iv2 := iv1.u t2
    have s12 := s1.trans s2
    walk_at "w"
    walk_at "wds"
    exact q H2 s12
  | chain a b =>
    walk_at "wds"
    refine ⟨[.str "keep", .str "while"], .cons (.str _) (.cons (.str _) .nil), by simp, fun p1 H1 s1 t1 i1 => ?_⟩
    refine ⟨_, ["keep", "while"], rfl, i1, ?_⟩
    refine ⟨_, rfl, ?_⟩
    have iv1 := iv.u t1
    walk_at "w"
    walk_at "go"
    refine ⟨[.str "take", .str "skip"], .cons (.str _) (.cons (.str _) .nil), by simp, fun p2 H2 s2 t2 i2 => ?_⟩
    refine ⟨_, ["take", "skip"], rfl, i2, ?_⟩
    refine ⟨_, rfl, ?_⟩
    have iv2 := iv1.u t2
    have s12 := s1.trans s2
    walk_at "w"
    walk_at "wds"
    exact q H2 s12
  | pair a b =>
    walk_at "wds"
    refine ⟨[.str "keep", .str "while"], .cons (.str _) (.cons (.str _) .nil), by simp, fun p1 H1 s1 t1 i1 => ?_⟩
    refine ⟨_, ["keep", "while"], rfl, i1, ?_⟩
    refine ⟨_, rfl, ?_⟩
    have iv1 := iv.u t1
    walk_at "w"
    walk_at "go"
    refine ⟨[.str "take", .str "skip"], .cons (.str _) (.cons (.str _) .nil), by simp, fun p2 H2 s2 t2 i2 => ?_⟩
    refine ⟨_, ["take", "skip"], rfl, i2, ?_⟩
    refine ⟨_, rfl, ?_⟩
    have iv2 := iv1.u t2
    have s12 := s1.trans s2
    walk_at "w"
    walk_at "wds"
    exact q H2 s12
  | merge a b =>
    walk_at "wds"
    refine ⟨[.str "keep", .str "while"], .cons (.str _) (.cons (.str _) .nil), by simp, fun p1 H1 s1 t1 i1 => ?_⟩
    refine ⟨_, ["keep", "while"], rfl, i1, ?_⟩
    refine ⟨_, rfl, ?_⟩
    have iv1 := iv.u t1
    walk_at "w"
    walk_at "go"
    refine ⟨[.str "take", .str "skip"], .cons (.str _) (.cons (.str _) .nil), by simp, fun p2 H2 s2 t2 i2 => ?_⟩
    refine ⟨_, ["take", "skip"], rfl, i2, ?_⟩
    refine ⟨_, rfl, ?_⟩
    have iv2 := iv1.u t2
    have s12 := s1.trans s2
    walk_at "w"
    walk_at "wds"
    exact q H2 s12

def spLooked (K : PySem.W.Frag) : Sp := fun vs H Q _ => ∃ (vw vm : V), vs = [vw, vm] ∧ Hold (∃ (pw : Addr) (ls : List Ln) (ks : List Kd) (many : Int), vw = .ref pw ∧ vm = .int many ∧ Acc K H pw (ls.map Ln.d) ∧ GoodW many ls ks ∧ 1 ≤ ls.length ∧ ls.length ≤ 24 ∧
  ∀ p H', H p = none → Same H H' → Acc K H' p (ks.map Kd.d) → Q (.ref p) H')
theorem num_lens {l : Ln} (h : numOk l = true) : (∀ ds a, l = .map ds a → ds.length ≤ 1000) ∧ ∀ ts a, l = .keep ts a ∨ l = .whil ts a → ts.length ≤ 1000 := by
  refine ⟨fun ds a e => ?_, fun ts a e => ?_⟩
  · subst e
    have h : ((decide (1 ≤ ds.length) && decide (ds.length ≤ 64)) && ds.all deedNum) = true := h
    rw [Bool.and_eq_true, Bool.and_eq_true, decide_eq_true_eq, decide_eq_true_eq] at h
    omega
  · have h : ((decide (1 ≤ ts.length) && decide (ts.length ≤ 64)) && ts.all tstNum) = true := by
      rcases e with rfl | rfl <;> exact h
    rw [Bool.and_eq_true, Bool.and_eq_true, decide_eq_true_eq, decide_eq_true_eq] at h
    omega
theorem ok_looked (T : Tx K w mg) : FnOk P w K mg base CX0 5 T.looked.f T.looked.fd ["weave", "many"] (spLooked K) := by
  refine T.looked.F.ok sc_looked (fun vs H Q E h => ?_) (fun cdv A outer s H vs Q E hr h => ?_)
  · obtain ⟨a, b, rfl, _⟩ := h
    rfl
  obtain ⟨vw, vm, rfl, h⟩ := h
  obtain ⟨pw, ls, ks, many, rfl, rfl, aw, good, l1, l24, q⟩ := h.out
  refine ⟨_, (pss_cons (ps_if (pt_cmpR op_eq (pe_callB call_lenA (by rfl) T.z_len PySem.boot_len (pa_cons (pv 0) pa_nil)) pe_int (nomark _)) (pss_one ps_never) pss_nil)
      (pss_cons (ps_if (pt_cmpR op_gt (pe_callB call_lenA (by rfl) T.z_len PySem.boot_len (pa_cons (pv 0) pa_nil)) (pe_glob (v := .int 24) (by rfl) T.c_MOST_LINES.g ⟨_, rfl⟩) (nomark _)) (pss_one ps_never) pss_nil)
      (pss_cons (ps_set (i := 2) sc_looked.nd rfl (by first | exact Or.inl rfl | exact Or.inr rfl) (pe_ld pa_nil))
      (pss_cons (ps_set (i := 3) sc_looked.nd rfl (by first | exact Or.inl rfl | exact Or.inr rfl) (pe_ld pa_nil))
      (pss_cons (ps_for PassesOwn.never rfl (pi_enum (by rfl) T.z_enumerate (pa_cons (pv 0) pa_nil)) (pg_tup rfl (pgs_cons (pg_name (i := 4) sc_looked.nd rfl (by first | exact Or.inl rfl | exact Or.inr rfl)) (pgs_cons (pg_name (i := 5) sc_looked.nd rfl (by first | exact Or.inl rfl | exact Or.inr rfl)) pgs_nil))) (pss_cons (ps_if (pt_not (pt_val (pe_call (ok_place_can_be T) (hr.mono (by decide)) (by rfl) T.place_can_be.g T.place_can_be.F.kp T.place_can_be.b .nil pass0 (pa_cons (pv 5) (pa_cons (pv 4) (pa_cons (pv 1) (pa_cons (pv 3) pa_nil))))))) (pss_one ps_never) pss_nil)
      (pss_cons (ps_if (pt_not (pt_val (pe_call (ok_numbers_can_be T) hr (by rfl) T.numbers_can_be.g T.numbers_can_be.F.kp T.numbers_can_be.b .nil pass0 (pa_cons (pv 5) pa_nil)))) (pss_one ps_never) pss_nil)
      (pss_cons (ps_set (i := 6) sc_looked.nd rfl (by first | exact Or.inl rfl | exact Or.inr rfl) (pe_call (ok_kind_of T) (hr.mono (by decide)) (by rfl) T.kind_of.g T.kind_of.F.kp T.kind_of.b .nil pass0 (pa_cons (pv 5) (pa_cons (pe_lc (own := [("a", 7)]) (g := gName 7) (tt := tYes) rfl sc_looked.nd (pi_list (pe_call (ok_named T) (hr.mono (by decide)) (by rfl) T.named.g T.named.F.kp T.named.b .nil pass0 (pa_cons (pv 5) pa_nil))) (blkOk_by (own := [("a", 7)]) (N := ["weave", "many", "kinds", "sources", "at", "line", "kind", "a"]) (sc := defScope s_looked) (by decide +kernel)) (fun _ _ _ _ _ => pg_name (i := 7) sc_looked.nd rfl (Or.inl rfl)) (fun _ _ _ _ _ => pts_nil) (fun _ _ _ _ _ => (pe_ix (show IxR _ (rIxA K) from ix_listA) (pv 2) (pv 7) (fun _ _ => rfl)))) pa_nil))))
      (pss_cons (ps_if (pt_cmpR op_isN (pv 6) pe_non (nomark _)) (pss_one ps_never) pss_nil)
      (pss_cons (ps_if (pt_cmpR op_eq (pe_ix ix_tupD (pv 5) pe_int (fun _ _ => rfl)) pe_str (nomark _)) (pss_one (ps_expr (pe_bm PySem.F.plainAttrs_list PySem.F.slot_list_append PySem.F.type_list_append mt_appA (pv 3) (pa_cons (pe_ix ix_tupD (pv 5) pe_int (fun _ _ => rfl)) pa_nil)))) pss_nil)
      (pss_one (ps_expr (pe_bm PySem.F.plainAttrs_list PySem.F.slot_list_append PySem.F.type_list_append mt_appA (pv 2) (pa_cons (pv 6) pa_nil))))))))))
      (pss_one (ps_ret (pv 2)))))))), ?_⟩
  walk_at "go"
  refine ⟨_, _, rfl, aw, ?_⟩
  rw [List.length_map]
  walk_at "go"
  refine ite_f (decide_eq_false (by intro z; injection z with z; omega)) ?_
  walk_at "go"
  refine ⟨_, _, rfl, aw, ?_⟩
  rw [List.length_map]
  walk_at "go"
  refine ite_f (decide_eq_false (by omega)) ?_
  walk_at "go"
  refine ⟨[], .nil, by simp, fun pk H1 nk s1 t1 ak => ?_⟩
  walk_at "go"
  refine ⟨[], .nil, by simp, fun ps H2 ns s2 t2 as2 => ?_⟩
  obtain ⟨xk, ek⟩ := ak.at
  have nsH : H ps = none := s1.free ns
  have kps : pk ≠ ps := ne_of_none ek ns
  obtain ⟨xw, ew⟩ := aw.at
  have wpk : pw ≠ pk := ne_of_none ew nk
  have wps : pw ≠ ps := ne_of_none ew nsH
  have len := good.len
  have aw2 := (aw.same s1).same s2
  obtain ⟨xs, e2, i2⟩ := id aw2
  have lx := i2.len
  rw [List.length_map] at lx
  walk_at "go"
  refine ⟨pw, xs, rfl, SqL.of e2, for_enum (K := K) (a := pw) (xs := xs) (fun i σ H3 => Hold (∃ (o4 o5 o6 o7 : Option V), σ = [some (.ref pw), some (.int many), some (.ref pk), some (.ref ps), o4, o5, o6, o7] ∧ Same H H3 ∧ TK K H2 H3 ∧
      H3 pw = some (.lst xs) ∧ Acc K H3 pk ((ks.take i).map Kd.d) ∧ Acc K H3 ps ((srcs (ls.take i)).map PyData.int)))
    (.mk ⟨none, none, none, none, rfl, s1.trans s2, TK.refl, e2, ak.same s2, as2⟩) (fun i σ H3 _ h => by obtain ⟨_, _, _, _, _, _, _, e, _⟩ := h.out; exact SqL.of e) ?_ ?_⟩
  · intro i x σ H3 T4 H4 hi h nT s4 eT
    obtain ⟨o4, o5, o6, o7, rfl, s3, t3, ew3, ak3, as3⟩ := h.out
    obtain ⟨d, hd, ix⟩ := i2.get hi
    rw [List.getElem?_map] at hd
    obtain ⟨l, hl, rfl⟩ := Option.map_eq_some_iff.mp hd
    obtain ⟨k, hk, hp, hn, hkl, hdp, hm⟩ := good.at hl
    have hi' := (List.getElem?_eq_some_iff.mp hl).1
    have ix4 := (ix.u t3).u (same_tk s4)
    have ak4 := ak3.same s4
    have as4 := as3.same s4
    refine ⟨T4, _, rfl, SqT.of eT, rfl, ?_⟩
    walk_at "go"
    refine .mk ⟨l, _, many, ps, _, ix4, rfl, rfl, rfl, as4, fun H5 s5 => ?_⟩
    rw [hp]
    walk_at "go"
    refine .mk ⟨l, ix4.u (same_tk s5), (num_lens hn).1, (num_lens hn).2, fun H6 s6 => ?_⟩
    rw [hn]
    have s56 := s5.trans s6
    walk_at "go"
    have ix6 := ix4.u (same_tk s56)
    have ak6 := ak4.same s56
    refine .mk ⟨l, ix6, fun p7 H7 n7 s7 a7 => ?_⟩
    obtain ⟨kn, hkn, hkN⟩ := kindL_some hkl
    obtain ⟨lkn, fkn⟩ := namedK_at hkn
    have pn := place_names hp
    have ak7 := ak6.same s7
    obtain ⟨ys, e7, i7⟩ := a7
    have ei := Ims.of_ints _ i7
    subst ei
    refine ⟨p7, rfl, ⟨_, SqL.of e7⟩, fun D nD => lc_list (K := K) (a := p7) (xs := l.names.map V.int) (fun j H8 => Hold (Same H7 H8 ∧ Acc K H8 D ((kn.take j).map Kd.d)))
        (.mk ⟨same_new nD, acc_nil upd_same⟩) (fun j H8 _ h => SqL.of (h.out.1 _ _ e7)) ?_ ?_⟩
    · intro j y H8 hj h
      obtain ⟨s8, a8⟩ := h.out
      rw [List.getElem?_map] at hj
      obtain ⟨a, ha, rfl⟩ := Option.map_eq_some_iff.mp hj
      obtain ⟨k', hk1, hk2⟩ := fkn j a ha
      obtain ⟨pa, pb⟩ := pn a (List.mem_of_getElem? ha)
      walk_at "go"
      refine ⟨_, _, a, a.toNat, k'.d, rfl, ak7.same s8, rfl, by omega, by rw [List.getElem?_map, hk1]; rfl, fun v iv => ?_⟩
      have l8 : (List.map Kd.d (kn.take j)).length < 1000000 := by
        rw [List.length_map, List.length_take]
        have : l.names.length ≤ 2 := by cases l <;> simp [Ln.names]
        omega
      obtain ⟨acc, ea, hla, b9, t9, a9⟩ := a8.push iv l8
      refine ⟨acc, ea, hla, .mk ⟨same_put s8 nD, ?_⟩⟩
      rw [take_succ hk2, List.map_append]
      exact a9
    · intro H8 h
      obtain ⟨s8, a8⟩ := h.out
      rw [List.length_map, lkn, List.take_length] at a8
      walk_at "go"
      refine .mk ⟨l, D, kn, rfl, (ix6.u (same_tk s7)).u (same_tk s8), a8, lkn.symm, fun k' hk' => ?_, fun ds a k' e1 e2 => ?_, fun u H9 s9 i9 => ?_⟩
      · obtain ⟨j, hj⟩ := List.mem_iff_getElem?.mp hk'
        have hjl := (List.getElem?_eq_some_iff.mp hj).1
        obtain ⟨k2, b1, b2⟩ := fkn j _ (List.getElem?_eq_getElem (by omega))
        rw [hj] at b2
        obtain rfl := Option.some.inj b2
        have hmem := List.mem_of_getElem? b1
        have hmem := List.mem_of_mem_take hmem
        obtain ⟨m, hm1⟩ := List.mem_iff_getElem?.mp hmem
        have hml := (List.getElem?_eq_some_iff.mp hm1).1
        obtain ⟨k3, c1, _, _, _, c5, _⟩ := good.at (List.getElem?_eq_getElem (by omega : m < ls.length))
        rw [hm1] at c1
        cases c1
        omega
      · rw [e2] at hkn
        exact hm ds a k' e1 hkn
      · rw [hkN] at i9
        walk_at "go"
        refine ite_f (decide_eq_false (kdO_ne i9)) ?_
        have s49 : Same H4 H9 := s56.trans (s7.trans (s8.trans s9))
        have s39 : Same H3 H9 := s4.trans s49
        have t39 : TK K H3 H9 := same_tk s39
        have ix9 := ix4.u (same_tk s49)
        have as9 := as4.same s49
        have ak9 := ak4.same s49
        have fin : ∀ H10 o4 o5 o6 o7, But ps H9 H10 → TK K H9 H10 → Acc K H10 pk ((ks.take i).map Kd.d) → Acc K H10 ps ((srcs (ls.take (i + 1))).map PyData.int) →
            ∃ (m : Addr) (y : V) (ds : List PyData) (d : PyData), V.ref pk = .ref m ∧ [u] = [y] ∧ Acc K H10 m ds ∧ Im K H10 y d ∧ ds.length < 1000000 ∧ ∀ H', But m H10 H' → TK K H10 H' → Acc K H' m (ds ++ [d]) →
              Hold (∃ (p4 p5 p6 p7 : Option V), ([some (.ref pw), some (.int many), some (.ref pk), some (.ref ps), o4, o5, o6, o7] : List (Option V)) = [some (.ref pw), some (.int many), some (.ref pk), some (.ref ps), p4, p5, p6, p7] ∧ Same H H' ∧ TK K H2 H' ∧
                H' pw = some (.lst xs) ∧ Acc K H' pk ((ks.take (i + 1)).map Kd.d) ∧ Acc K H' ps ((srcs (ls.take (i + 1))).map PyData.int)) := fun H10 o4 o5 o6 o7 b10 t10 ak10 as10 => by
          refine ⟨pk, u, _, _, rfl, rfl, ak10, i9.u t10, by rw [List.length_map, List.length_take]; omega, fun H11 b11 t11 a11 => .mk ⟨_, _, _, _, rfl, ?_, (t3.trans t39).trans (t10.trans t11), ?_, ?_, as10.but b11 t11 kps.symm⟩⟩
          · intro b z hb
            exact b11 _ _ (ne_of_none hb nk) (b10 _ _ (ne_of_none hb nsH) (s39 _ _ (s3 _ _ hb)))
          · exact b11 _ _ wpk (b10 _ _ wps (s39 _ _ ew3))
          · rw [take_succ hk, List.map_append]
            exact a11
        walk_at "go"
        by_cases hs : ∃ k0, l = .source k0
        · obtain ⟨k0, rfl⟩ := hs
          refine ⟨_, 0, 0, _, ix9, rfl, rfl, rfl, fun v iv => ?_⟩
          obtain rfl := iv.s
          walk_at "go"
          refine ⟨_, 1, 1, _, ix9, rfl, rfl, rfl, fun v iv => ?_⟩
          walk_at "go"
          refine ⟨_, _, _, _, rfl, rfl, as9, iv, ?_, fun H10 b10 t10 a10 => ?_⟩
          · rw [List.length_map]
            have : (srcs (ls.take i)).length ≤ 24 := by
              have h1 := List.length_filterMap_le Ln.src (ls.take i)
              rw [List.length_take] at h1
              show (List.filterMap Ln.src (ls.take i)).length ≤ 24
              omega
            omega
          · have ak10 := ak9.but b10 t10 kps
            walk_at "go"
            refine fin H10 _ _ _ _ b10 t10 ak10 ?_
            rw [take_succ hl, srcs_snoc, List.map_append]
            exact a10
        · have w : ∃ (x : Str) (ds : List PyData), l.d = .tuple (.str x :: ds) ∧ decide (V.str x = V.str "source") = false := by
            cases l with
            | source k => exact absurd ⟨k, rfl⟩ hs
            | _ => exact ⟨_, _, rfl, by decide +kernel⟩
          obtain ⟨x, ds, ed, ex⟩ := w
          have iw := ix9
          rw [ed] at iw
          refine ⟨_, 0, 0, _, iw, rfl, rfl, rfl, fun v iv => ?_⟩
          obtain rfl := iv.s
          refine ⟨rfl, _, rfl, ?_⟩
          refine ite_f ex ?_
          walk_at "go"
          refine fin H9 _ _ _ _ But.refl TK.refl ak9 ?_
          rw [take_succ hl, srcs_snoc]
          have e0 : l.src = none := by
            cases l with
            | source k => exact absurd ⟨k, rfl⟩ hs
            | _ => rfl
          rw [e0, List.append_nil]
          exact as9
  · intro σ H3 h
    obtain ⟨o4, o5, o6, o7, rfl, s3, t3, ew3, ak3, as3⟩ := h.out
    walk_at "go"
    refine q pk H3 nk s3 ?_
    rw [lx, len, List.take_length] at ak3
    exact ak3

def spOutsLk (K : PySem.W.Frag) : Sp := fun vs H Q _ => ∃ (v v2 : V), vs = [v, v2] ∧ Hold (∃ (lw po : Addr) (ds : List PyData) (ns : List Nat), v = .ref lw ∧ v2 = .ref po ∧ Acc K H lw ds ∧ H po = some (.lst (ns.map fun (n : Nat) => V.int (n : Int))) ∧ (∀ (i n : Nat), ns[i]? = some n → n < ds.length) ∧ ds.length ≤ 1000 ∧ Q .non H)
theorem ok_outs_looked (T : Tx K w mg) : FnOk P w K mg base CX0 1 T.outs_looked.f T.outs_looked.fd ["weave", "outs"] (spOutsLk K) := by
  refine T.outs_looked.F.ok sc_outs_looked (fun vs H Q E h => ?_) (fun cdv A outer s H vs Q E hr h => ?_)
  · obtain ⟨a, b, rfl, _⟩ := h
    rfl
  obtain ⟨v, v2, rfl, h⟩ := h
  obtain ⟨lw, po, ds, ns, rfl, rfl, aw, eo, ok, dl, q⟩ := h.out
  refine ⟨_, (pss_one (ps_for PassesOwn.never rfl (pi_list (pv 1)) (pg_name (i := 2) sc_outs_looked.nd rfl (by first | exact Or.inl rfl | exact Or.inr rfl)) (pss_one (ps_if (pt_not (pt_chain op_le op_lt pe_int (pv 2) (pe_callB call_lenA (by rfl) T.z_len PySem.boot_len (pa_cons (pv 0) pa_nil)))) (pss_one ps_never) pss_nil)))), ?_⟩
  walk_at "go"
  refine ⟨⟨_, SqL.of eo⟩, for_list (K := K) (a := po) (xs := ns.map fun (n : Nat) => V.int (n : Int)) (fun i σ H2 => Hold (∃ (o4 : Option V), σ = [some (.ref lw), some (.ref po), o4] ∧ H2 = H))
    (.mk ⟨none, rfl, rfl⟩) (fun i σ H2 _ h => by obtain ⟨_, _, e⟩ := h.out; rw [e]; exact SqL.of eo) ?_ ?_⟩
  · intro i yv σ H2 hi h
    obtain ⟨o4, rfl, rfl⟩ := h.out
    rw [List.getElem?_map] at hi
    obtain ⟨n, hn, rfl⟩ := Option.map_eq_some_iff.mp hi
    have hlt := ok i n hn
    walk_at "go"
    refine ⟨_, _, rfl, aw, ?_⟩
    walk_at "go"
    refine ite_f (by rw [decide_eq_true (by omega)]; rfl) ?_
    walk_at "go"
    exact .mk ⟨_, rfl, rfl⟩
  intro σ H2 h
  obtain ⟨o4, rfl, rfl⟩ := h.out
  walk_at "go"
  exact q

def spUsers (K : PySem.W.Frag) : Sp := fun vs H Q _ => ∃ (v v2 : V), vs = [v, v2] ∧ Hold (∃ (lw po : Addr) (ls : List Ln) (outs : List Int), v = .ref lw ∧ v2 = .ref po ∧ Acc K H lw (ls.map Ln.d) ∧ Acc K H po (outs.map PyData.int) ∧ ls.length ≤ 1000 ∧ outs.length ≤ 1000 ∧
  (∀ (i : Nat) l a, ls[i]? = some l → a ∈ l.names → 0 ≤ a ∧ a < (i : Int)) ∧ ∀ p H', H p = none → Same H H' → Acc K H' p ((usersL ls outs).map PyData.int) → Q (.ref p) H')
theorem ok_users_of (T : Tx K w mg) : FnOk P w K mg base CX0 2 T.users_of.f T.users_of.fd ["weave", "outs"] (spUsers K) := by
  refine T.users_of.F.ok sc_users_of (fun vs H Q E h => ?_) (fun cdv A outer s H vs Q E hr h => ?_)
  · obtain ⟨a, b, rfl, _⟩ := h
    rfl
  obtain ⟨v, v2, rfl, h⟩ := h
  obtain ⟨lw, po, ls, outs, rfl, rfl, aw, ao, l24, lo, old, q⟩ := h.out
  obtain ⟨xs, ew, iw⟩ := id aw
  have lx : xs.length = ls.length := by have := iw.len; rw [List.length_map] at this; exact this
  refine ⟨_, (pss_cons (ps_setLc (i := 2) (own := [("at", 3)]) (g := gName 3) (tt := tYes) rfl sc_users_of.nd rfl rfl (sw_true rfl rfl rfl (by decide +kernel)) (pi_range1 (by rfl) T.z_range (pa_cons (pe_callB call_lenA (by rfl) T.z_len PySem.boot_len (pa_cons (pv 0) pa_nil)) pa_nil)) (blkOk_by (own := [("at", 3)]) (N := ["weave", "outs", "users", "at", "a"]) (sc := defScope s_users_of) (by decide +kernel)) (fun _ _ _ _ _ => pg_name (i := 3) sc_users_of.nd rfl (Or.inl rfl)) (fun _ _ _ _ _ => pts_nil) (fun _ _ _ _ _ => (pe_countK (K := K) rfl (pv 1) (pa_cons (pv 3) pa_nil))))
      (pss_cons (ps_for PassesOwn.never rfl (pi_revR (by rfl) T.z_reversed (prg_1 (by rfl) T.z_range (pe_callB call_lenA (by rfl) T.z_len PySem.boot_len (pa_cons (pv 0) pa_nil)))) (pg_name (i := 3) sc_users_of.nd rfl (by first | exact Or.inl rfl | exact Or.inr rfl)) (pss_one (ps_if (pt_cmpR op_gt (pe_ix ix_listA (pv 2) (pv 3) (fun _ _ => rfl)) pe_int (nomark _)) (pss_one (ps_for PassesOwn.never rfl (pi_list (pe_call (ok_named T) hr (by rfl) T.named.g T.named.F.kp T.named.b .nil pass0 (pa_cons (pe_ix ix_listA (pv 0) (pv 3) (fun _ _ => rfl)) pa_nil))) (pg_name (i := 4) sc_users_of.nd rfl (by first | exact Or.inl rfl | exact Or.inr rfl)) (pss_one (ps_augS (pv 2) (pv 4) pg_getI pe_int ip_add set_listN)))) pss_nil)))
      (pss_one (ps_ret (pv 2))))), ?_⟩
  walk_at "go"
  refine ⟨_, _, rfl, aw, ?_⟩
  rw [List.length_map]
  walk_at "go"
  intro U nU
  refine loop_rng (lo := 0) (n := ls.length) (fun i H2 => Hold (Same H H2 ∧ Acc K H2 U (((List.range i).map fun (i : Nat) => (outs.count (i : Int) : Int)).map PyData.int)))
    (.mk ⟨same_new nU, acc_nil upd_same⟩) ?_ ?_
  · intro k H6 hk h
    obtain ⟨s6, a6⟩ := h.out
    have a56 := ao.same s6
    walk_at "go"
    refine ⟨po, outs, _, rfl, rfl, SqL.of (acc_raw a56), ?_⟩
    rw [Int.zero_add]
    obtain ⟨acc, ea, hla, b7, t7, a7⟩ := a6.push (.int (outs.count (k : Int) : Int)) (by rw [List.length_map, List.length_map, List.length_range]; omega)
    refine ⟨acc, ea, hla, .mk ⟨same_put s6 nU, ?_⟩⟩
    rw [List.range_succ, List.map_append, List.map_append]
    exact a7
  intro H1 h
  obtain ⟨s1, a1⟩ := h.out
  have a1 : Acc K H1 U ((cnts ls.length outs).map PyData.int) := a1
  walk_at "go"
  refine ⟨_, _, rfl, aw.same s1, ?_⟩
  rw [List.length_map]
  walk_at "go"
  rw [show ((0 : Int) + ((((ls.length : Nat) : Int) - 0).toNat : Nat) - 1) = (ls.length : Int) - 1 by omega, show (((ls.length : Nat) : Int) - 0).toNat = ls.length by omega]
  refine for_rangeC (fun i σ H2 => Hold (∃ (o3 o4 : Option V) (u : List Int), σ = [some (.ref lw), some (.ref po), some (.ref U), o3, o4] ∧ Same H H2 ∧ usesUp ls (ls.length - i) u = usersL ls outs ∧ u.length = ls.length ∧ Acc K H2 U (u.map PyData.int)))
    (.mk ⟨none, none, cnts ls.length outs, rfl, s1, rfl, cnts_len, a1⟩) ?_ ?_
  · intro i σ H2 hi h
    obtain ⟨o3, o4, u, rfl, s2, hu, lu, a2⟩ := h.out
    have em : ls.length - i = (ls.length - 1 - i) + 1 := by omega
    have ez : (ls.length : Int) - 1 + (i : Int) * -1 = ((ls.length - 1 - i : Nat) : Int) := by omega
    have ew2 : ls.length - (i + 1) = ls.length - 1 - i := by omega
    rw [em] at hu
    rw [ez]
    generalize hm : ls.length - 1 - i = m at hu ew2
    have ml : m < ls.length := by omega
    have hl : ls[m]? = some ls[m] := List.getElem?_eq_getElem ml
    generalize ls[m] = l at hl
    have hu : usesUp ls m (if 0 < u.getD m 0 then useL u (ls.getD m (.source 0)) else u) = usersL ls outs := hu
    rw [getD_at hl] at hu
    have hat : (u.map PyData.int)[m]? = some (.int (u.getD m 0)) := by
      rw [List.getElem?_map, List.getD_eq_getElem?_getD, List.getElem?_eq_getElem (by omega)]; rfl
    walk_at "go"
    refine ⟨_, _, _, m, _, rfl, a2, rfl, rfl, hat, fun v iv => ?_⟩
    obtain rfl := iv.i
    walk_at "go"
    by_cases c : 0 < u.getD m 0
    · rw [if_pos c] at hu
      refine ite_t (decide_eq_true c) ?_
      walk_at "go"
      refine ⟨_, _, _, m, _, rfl, aw.same s2, rfl, rfl, by rw [List.getElem?_map, hl]; rfl, fun v iv => ?_⟩
      walk_at "go"
      refine .mk ⟨l, iv, fun pn H3 n3 s3 an => ?_⟩
      have en := acc_raw an
      have S3 := s2.trans s3
      have Upn : U ≠ pn := by
        obtain ⟨_, e⟩ := a2.at
        exact ne_of_none e n3
      walk_at "go"
      refine ⟨⟨_, SqL.of en⟩, for_list (K := K) (a := pn) (xs := l.names.map V.int) (fun j σ H4 => Hold (∃ (o4 : Option V), σ = [some (.ref lw), some (.ref po), some (.ref U), some (.int (m : Int)), o4] ∧ Same H H4 ∧ H4 pn = some (.lst (l.names.map V.int)) ∧ Acc K H4 U (((l.names.take j).foldl useS u).map PyData.int)))
        (.mk ⟨_, rfl, S3, en, a2.same s3⟩) (fun j σ H4 _ h => by obtain ⟨_, _, _, e, _⟩ := h.out; exact SqL.of e) ?_ ?_⟩
      · intro j z σ H4 hj h
        obtain ⟨o4, rfl, s4, en4, a4⟩ := h.out
        rw [List.getElem?_map] at hj
        obtain ⟨a, ha, rfl⟩ := Option.map_eq_some_iff.mp hj
        have hb := old m l a hl (List.mem_of_getElem? ha)
        have l2 : ((l.names.take j).foldl useS u).length = ls.length := by rw [useL_len, lu]
        have e2 : (l.names.take (j + 1)).foldl useS u = useS ((l.names.take j).foldl useS u) a := by rw [take_succ ha, List.foldl_append]; rfl
        rw [e2]
        generalize (l.names.take j).foldl useS u = u2 at a4 l2
        have hat : (u2.map V.int)[a.toNat]? = some (.int (u2.getD a.toNat 0)) := by
          rw [List.getElem?_map, List.getD_eq_getElem?_getD, List.getElem?_eq_getElem (by omega)]; rfl
        walk_at "go"
        refine ⟨U, _, a, a.toNat, _, rfl, rfl, SqL.of (acc_raw a4), by omega, hat, ?_⟩
        walk_at "go"
        refine ⟨U, _, _, a, a.toNat, rfl, rfl, acc_raw a4, ?_, rfl, fun H5 b5 t5 e5 => ?_⟩
        · rw [List.length_map]; exact ixN_int (by omega) (by omega)
        refine .mk ⟨_, rfl, fun b u e => b5 _ _ (ne_of_none e nU) (s4 _ _ e), b5 _ _ Upn.symm en4, ?_⟩
        have es : (u2.map V.int).set a.toNat (.int (u2.getD a.toNat 0 + 1)) = (useS u2 a).map V.int := List.map_set.symm
        rw [es] at e5
        exact raw_acc e5
      · intro σ H4 h
        obtain ⟨o4, rfl, s4, en4, a4⟩ := h.out
        rw [List.length_map, List.take_length] at a4
        refine .mk ⟨_, _, useL u l, rfl, s4, by rw [ew2]; exact hu, by rw [show (useL u l).length = u.length from useL_len _ _]; exact lu, a4⟩
    · rw [if_neg c] at hu
      refine ite_f (decide_eq_false c) ?_
      walk_at "go"
      exact .mk ⟨_, _, u, rfl, s2, by rw [ew2]; exact hu, lu, a2⟩
  · intro σ H2 h
    obtain ⟨o3, o4, u, rfl, s2, hu, lu, a2⟩ := h.out
    rw [Nat.sub_self] at hu
    have hu : u = usersL ls outs := hu
    subst hu
    walk_at "go"
    exact q U H2 nU s2 a2

def spSrcsTold (K : PySem.W.Frag) : Sp := fun vs H Q _ => ∃ (v : V), vs = [v] ∧ Hold (∃ (lw : Addr) (ls : List Ln), v = .ref lw ∧ Acc K H lw (ls.map Ln.d) ∧ ls.length ≤ 1000 ∧ 0 < (srcs ls).length ∧ ∀ m H', (∀ k ∈ srcs ls, k < m) → Same H H' → Q (.int m) H')
theorem ok_sources_told (T : Tx K w mg) : FnOk P w K mg base CX0 1 T.sources_told.f T.sources_told.fd ["weave"] (spSrcsTold K) := by
  refine T.sources_told.F.ok sc_sources_told (fun vs H Q E h => ?_) (fun cdv A outer s H vs Q E hr h => ?_)
  · obtain ⟨a, rfl, _⟩ := h
    rfl
  obtain ⟨v, rfl, h⟩ := h
  obtain ⟨lw, ls, rfl, aw, l24, ne, q⟩ := h.out
  obtain ⟨xs, ew, iw⟩ := id aw
  have lx : xs.length = ls.length := by have := iw.len; rw [List.length_map] at this; exact this
  refine ⟨_, (pss_one (ps_ret (pe_callBK (cr_maxD rfl) (by rfl) T.z_max boot_max (pa_cons (pe_lc (own := [("line", 1)]) (g := gName 1) rfl sc_sources_told.nd (pi_list (pv 0)) (blkOk_by (own := [("line", 1)]) (N := ["weave", "line"]) (sc := defScope s_sources_told) (by decide +kernel)) (fun _ _ _ _ _ => pg_name (i := 1) sc_sources_told.nd rfl (Or.inl rfl)) (fun _ _ _ _ _ => pts_one (pt_cmpR op_eq (pe_ix (show IxR _ (rIxD K) from ix_tupD) (pv 1) pe_int (fun _ _ => rfl)) pe_str (nomark _))) (fun _ _ _ _ _ => (pe_op op_add (pe_ix (show IxR _ (rIxD K) from ix_tupD) (pv 1) pe_int (fun _ _ => rfl)) pe_int))) pa_nil) (pk_cons pe_int pk_nil)))), ?_⟩
  walk_at "go"
  refine ⟨⟨_, SqL.of ew⟩, fun J nJ => ?_⟩
  refine loop_list (K := K) (a := lw) (xs := xs) (fun i H2 => Hold (Same H H2 ∧ Acc K H2 J (((srcs (ls.take i)).map (· + 1)).map PyData.int)))
    (.mk ⟨same_new nJ, acc_nil upd_same⟩) (fun i H2 _ h => SqL.of (h.out.1 _ _ ew)) ?_ ?_
  · intro i x H2 hi h
    obtain ⟨s2, a2⟩ := h.out
    obtain ⟨d, hd, ix⟩ := iw.get hi
    rw [List.getElem?_map] at hd
    obtain ⟨l, hl, rfl⟩ := Option.map_eq_some_iff.mp hd
    have ix2 := ix.u (same_tk s2)
    have hs : ((srcs (ls.take i)).map (· + 1)).map PyData.int = ((srcs (ls.take i)).map (· + 1)).map PyData.int := rfl
    walk_at "go"
    by_cases c : ∃ k, l = .source k
    · obtain ⟨k, rfl⟩ := c
      refine ⟨_, 0, 0, _, ix2, rfl, rfl, rfl, fun u iu => ?_⟩
      obtain rfl := iu.s
      walk_at "go"
      refine ⟨_, 1, 1, _, ix2, rfl, rfl, rfl, fun u iu => ?_⟩
      obtain rfl := iu.i
      walk_at "go"
      have hlt : (((srcs (ls.take i)).map (· + 1)).map PyData.int).length < 1000000 := by
        rw [List.length_map, List.length_map]
        have h1 := List.length_filterMap_le Ln.src (ls.take i)
        rw [List.length_take] at h1
        show (List.filterMap Ln.src (ls.take i)).length < 1000000
        omega
      obtain ⟨acc, ea, hla, b4, t4, a4⟩ := a2.push (.int (k + 1)) hlt
      refine ⟨acc, ea, hla, .mk ⟨same_put s2 nJ, ?_⟩⟩
      rw [take_succ hl, srcs_snoc, List.map_append, List.map_append]
      exact a4
    · have wd : ∃ (x : Str) (ds : List PyData), l.d = .tuple (.str x :: ds) ∧ decide (V.str x = V.str "source") = false := by
        cases l with
        | source k => exact absurd ⟨k, rfl⟩ c
        | _ => exact ⟨_, _, rfl, by decide +kernel⟩
      obtain ⟨x, ds, ed, ex⟩ := wd
      rw [ed] at ix2
      refine ⟨_, 0, 0, _, ix2, rfl, rfl, rfl, fun v iv => ?_⟩
      obtain rfl := iv.s
      refine ⟨rfl, _, rfl, ?_⟩
      refine ite_f ex ?_
      refine .mk ⟨s2, ?_⟩
      rw [take_succ hl, srcs_snoc]
      have e0 : l.src = none := by
        cases l with
        | source k => exact absurd ⟨k, rfl⟩ c
        | _ => rfl
      rw [e0, List.append_nil]
      exact a2
  · intro H2 h
    obtain ⟨s2, a2⟩ := h.out
    rw [lx, List.take_length] at a2
    walk_at "go"
    refine ⟨J, (srcs ls).map (· + 1), _, rfl, rfl, SqL.of (acc_raw a2), by rw [List.length_map]; exact ne, fun m hm hle => ?_⟩
    exact q m H2 (fun k hk => by have := hle (k + 1) (List.mem_map.mpr ⟨k, hk, rfl⟩); omega) s2

def spCanOne (K : PySem.W.Frag) : Sp := fun vs H Q _ => ∃ (v v2 : V), vs = [v, v2] ∧ Hold (∃ (a l : Ln), Im K H v a.d ∧ Im K H v2 l.d ∧ joinW l = true ∧ Q (.bl (oneLn a l)) H)
theorem ok_can_be_one (T : Tx K w mg) : FnOk P w K mg base CX0 1 T.can_be_one.f T.can_be_one.fd ["ahead", "line"] (spCanOne K) := by
  refine T.can_be_one.F.ok sc_can_be_one (fun vs H Q E h => ?_) (fun cdv A outer s H vs Q E hr h => ?_)
  · obtain ⟨a, b, rfl, _⟩ := h
    rfl
  obtain ⟨v, v2, rfl, h⟩ := h
  obtain ⟨a, l, iv, iw, hj, q⟩ := h.out
  refine ⟨_, (pss_cons (ps_if (pt_cmpR op_ne (pe_ix ix_tupD (pv 1) pe_int (fun _ _ => rfl)) (pe_ix ix_tupD (pv 0) pe_int (fun _ _ => rfl)) (nomark _)) (pss_one (ps_ret pe_bl)) pss_nil)
      (pss_cons (ps_if (pt_cmpR op_eq (pe_ix ix_tupD (pv 1) pe_int (fun _ _ => rfl)) pe_str (nomark _)) (pss_one (ps_ret pe_bl)) pss_nil)
      (pss_cons (ps_if (pt_cmpR op_eq (pe_ix ix_tupD (pv 1) pe_int (fun _ _ => rfl)) pe_str (nomark _)) (pss_one (ps_ret (pe_cmpR op_le (pe_op op_add (pe_ix ix_tupD (pv 0) pe_int (fun _ _ => rfl)) (pe_ix ix_tupD (pv 1) pe_int (fun _ _ => rfl))) (pe_glob (v := .int 9999) (by rfl) T.c_MOST_TAKEN.g ⟨_, rfl⟩) (nomark _)))) pss_nil)
      (pss_one (ps_ret (pe_cmpR op_le (pe_op op_add (pe_callB call_lenT (by rfl) T.z_len PySem.boot_len (pa_cons (pe_ix ix_tupD (pv 0) pe_int (fun _ _ => rfl)) pa_nil)) (pe_callB call_lenT (by rfl) T.z_len PySem.boot_len (pa_cons (pe_ix ix_tupD (pv 1) pe_int (fun _ _ => rfl)) pa_nil))) (pe_glob (v := .int 64) (by rfl) T.c_LONGEST.g ⟨_, rfl⟩) (nomark _))))))), ?_⟩
  walk_at "go"
  cases l with
  | take m x =>
    refine ⟨_, 0, 0, _, iw, rfl, rfl, rfl, fun u iu => ?_⟩
    obtain rfl := iu.s
    walk_at "go"
    cases a with
    | take n y =>
      refine ⟨_, 0, 0, _, iv, rfl, rfl, rfl, fun u iu => ?_⟩
      obtain rfl := iu.s
      walk_at "go"
      refine ⟨_, 0, 0, _, iw, rfl, rfl, rfl, fun u iu => ?_⟩
      obtain rfl := iu.s
      walk_at "go"
      exact q
    | _ =>
      refine ⟨_, 0, 0, _, iv, rfl, rfl, rfl, fun u iu => ?_⟩
      obtain rfl := iu.s
      walk_at "go"
      exact q
  | skip m x =>
    refine ⟨_, 0, 0, _, iw, rfl, rfl, rfl, fun u iu => ?_⟩
    obtain rfl := iu.s
    walk_at "go"
    cases a with
    | skip n y =>
      refine ⟨_, 0, 0, _, iv, rfl, rfl, rfl, fun u iu => ?_⟩
      obtain rfl := iu.s
      walk_at "go"
      refine ⟨_, 0, 0, _, iw, rfl, rfl, rfl, fun u iu => ?_⟩
      obtain rfl := iu.s
      walk_at "go"
      refine ⟨_, 0, 0, _, iw, rfl, rfl, rfl, fun u iu => ?_⟩
      obtain rfl := iu.s
      walk_at "go"
      refine ⟨_, 1, 1, _, iv, rfl, rfl, rfl, fun u iu => ?_⟩
      obtain rfl := iu.i
      walk_at "go"
      refine ⟨_, 1, 1, _, iw, rfl, rfl, rfl, fun u iu => ?_⟩
      obtain rfl := iu.i
      walk_at "go"
      exact q
    | _ =>
      refine ⟨_, 0, 0, _, iv, rfl, rfl, rfl, fun u iu => ?_⟩
      obtain rfl := iu.s
      walk_at "go"
      exact q
  | map es x =>
    refine ⟨_, 0, 0, _, iw, rfl, rfl, rfl, fun u iu => ?_⟩
    obtain rfl := iu.s
    walk_at "go"
    cases a with
    | map ds y =>
      refine ⟨_, 0, 0, _, iv, rfl, rfl, rfl, fun u iu => ?_⟩
      obtain rfl := iu.s
      walk_at "go"
      refine ⟨_, 0, 0, _, iw, rfl, rfl, rfl, fun u iu => ?_⟩
      obtain rfl := iu.s
      walk_at "go"
      refine ⟨_, 0, 0, _, iw, rfl, rfl, rfl, fun u iu => ?_⟩
      obtain rfl := iu.s
      walk_at "go"
      refine ⟨_, 1, 1, _, iv, rfl, rfl, rfl, fun u iu => ?_⟩
      walk_at "go"
      refine ⟨_, _, rfl, iu, ?_⟩
      rw [List.length_map]
      walk_at "go"
      refine ⟨_, 1, 1, _, iw, rfl, rfl, rfl, fun u iu => ?_⟩
      walk_at "go"
      refine ⟨_, _, rfl, iu, ?_⟩
      rw [List.length_map]
      walk_at "go"
      exact q
    | _ =>
      refine ⟨_, 0, 0, _, iv, rfl, rfl, rfl, fun u iu => ?_⟩
      obtain rfl := iu.s
      walk_at "go"
      exact q
  | keep es x =>
    refine ⟨_, 0, 0, _, iw, rfl, rfl, rfl, fun u iu => ?_⟩
    obtain rfl := iu.s
    walk_at "go"
    cases a with
    | keep ds y =>
      refine ⟨_, 0, 0, _, iv, rfl, rfl, rfl, fun u iu => ?_⟩
      obtain rfl := iu.s
      walk_at "go"
      refine ⟨_, 0, 0, _, iw, rfl, rfl, rfl, fun u iu => ?_⟩
      obtain rfl := iu.s
      walk_at "go"
      refine ⟨_, 0, 0, _, iw, rfl, rfl, rfl, fun u iu => ?_⟩
      obtain rfl := iu.s
      walk_at "go"
      refine ⟨_, 1, 1, _, iv, rfl, rfl, rfl, fun u iu => ?_⟩
      walk_at "go"
      refine ⟨_, _, rfl, iu, ?_⟩
      rw [List.length_map]
      walk_at "go"
      refine ⟨_, 1, 1, _, iw, rfl, rfl, rfl, fun u iu => ?_⟩
      walk_at "go"
      refine ⟨_, _, rfl, iu, ?_⟩
      rw [List.length_map]
      walk_at "go"
      exact q
    | _ =>
      refine ⟨_, 0, 0, _, iv, rfl, rfl, rfl, fun u iu => ?_⟩
      obtain rfl := iu.s
      walk_at "go"
      exact q
  | whil es x =>
    refine ⟨_, 0, 0, _, iw, rfl, rfl, rfl, fun u iu => ?_⟩
    obtain rfl := iu.s
    walk_at "go"
    cases a with
    | whil ds y =>
      refine ⟨_, 0, 0, _, iv, rfl, rfl, rfl, fun u iu => ?_⟩
      obtain rfl := iu.s
      walk_at "go"
      refine ⟨_, 0, 0, _, iw, rfl, rfl, rfl, fun u iu => ?_⟩
      obtain rfl := iu.s
      walk_at "go"
      refine ⟨_, 0, 0, _, iw, rfl, rfl, rfl, fun u iu => ?_⟩
      obtain rfl := iu.s
      walk_at "go"
      refine ⟨_, 1, 1, _, iv, rfl, rfl, rfl, fun u iu => ?_⟩
      walk_at "go"
      refine ⟨_, _, rfl, iu, ?_⟩
      rw [List.length_map]
      walk_at "go"
      refine ⟨_, 1, 1, _, iw, rfl, rfl, rfl, fun u iu => ?_⟩
      walk_at "go"
      refine ⟨_, _, rfl, iu, ?_⟩
      rw [List.length_map]
      walk_at "go"
      exact q
    | _ =>
      refine ⟨_, 0, 0, _, iv, rfl, rfl, rfl, fun u iu => ?_⟩
      obtain rfl := iu.s
      walk_at "go"
      exact q
  | _ => cases hj

/-- + of ints, or of tuples of data -/
def rAddOr (K : PySem.W.Frag) : R2 := fun x y H Q => (∃ i j, x = V.int i ∧ y = V.int j ∧ Q (.int (i + j)) H) ∨ rCatT2 K x y H Q
theorem op_addOr {X : Cx} : OpR X (binaryOp .Add) (rAddOr X.K) := by
  intro pins s σ H x y v u Q I rx ry h
  rcases h with h | h
  · exact op_add pins s σ H x y v u Q I rx ry h
  · exact op_catTD pins s σ H x y v u Q I rx ry h
def spJoined (K : PySem.W.Frag) : Sp := fun vs H Q _ => ∃ (v v2 : V), vs = [v, v2] ∧ Hold (∃ (a l : Ln), Im K H v a.d ∧ Im K H v2 l.d ∧ oneLn a l = true ∧ ∀ u H', Same H H' → Im K H' u (joinL a l).d → Q u H')
theorem ok_joined (T : Tx K w mg) : FnOk P w K mg base CX0 1 T.joined.f T.joined.fd ["ahead", "line"] (spJoined K) := by
  refine T.joined.F.ok sc_joined (fun vs H Q E h => ?_) (fun cdv A outer s H vs Q E hr h => ?_)
  · obtain ⟨a, b, rfl, _⟩ := h
    rfl
  obtain ⟨v, v2, rfl, h⟩ := h
  obtain ⟨a, l, iv, iw, ho, q⟩ := h.out
  refine ⟨_, (pss_cons (ps_if (pt_cmpR op_eq (pe_ix ix_tupD (pv 1) pe_int (fun _ _ => rfl)) pe_str (nomark _)) (pss_one (ps_ret (pe_td (pa_cons pe_str (pa_cons (pe_callB (call_min2N rfl) (by rfl) T.z_min (by decide +kernel) (pa_cons (pe_ix ix_tupD (pv 0) pe_int (fun _ _ => rfl)) (pa_cons (pe_ix ix_tupD (pv 1) pe_int (fun _ _ => rfl)) pa_nil))) (pa_cons (pe_ix ix_tupD (pv 0) pe_int (fun _ _ => rfl)) pa_nil)))))) pss_nil)
      (pss_one (ps_ret (pe_td (pa_cons (pe_ix ix_tupD (pv 1) pe_int (fun _ _ => rfl)) (pa_cons (pe_op op_addOr (pe_ix ix_tupD (pv 0) pe_int (fun _ _ => rfl)) (pe_ix ix_tupD (pv 1) pe_int (fun _ _ => rfl))) (pa_cons (pe_ix ix_tupD (pv 0) pe_int (fun _ _ => rfl)) pa_nil))))))), ?_⟩
  walk_at "go"
  cases l with
  | take m x =>
    cases a with
    | take n y =>
      refine ⟨_, 0, 0, _, iw, rfl, rfl, rfl, fun u iu => ?_⟩
      obtain rfl := iu.s
      walk_at "go"
      refine ⟨_, 1, 1, _, iv, rfl, rfl, rfl, fun u iu => ?_⟩
      obtain rfl := iu.i
      walk_at "go"
      refine ⟨_, 1, 1, _, iw, rfl, rfl, rfl, fun u iu => ?_⟩
      obtain rfl := iu.i
      walk_at "go"
      refine ⟨_, 2, 2, _, iv, rfl, rfl, rfl, fun u iu => ?_⟩
      obtain rfl := iu.i
      walk_at "go"
      refine ⟨[.str "take", .int (min n m), .int y], .cons (.str _) (.cons (.int _) (.cons (.int _) .nil)), by simp, fun p2 H2 s2 t2 i2 => ?_⟩
      exact q _ H2 s2 i2
    | _ => cases ho
  | skip m x =>
    cases a with
    | skip n y =>
      refine ⟨_, 0, 0, _, iw, rfl, rfl, rfl, fun u iu => ?_⟩
      obtain rfl := iu.s
      walk_at "go"
      refine ⟨_, 0, 0, _, iw, rfl, rfl, rfl, fun u iu => ?_⟩
      obtain rfl := iu.s
      walk_at "go"
      refine ⟨_, 1, 1, _, iv, rfl, rfl, rfl, fun u iu => ?_⟩
      obtain rfl := iu.i
      walk_at "go"
      refine ⟨_, 1, 1, _, iw, rfl, rfl, rfl, fun u iu => ?_⟩
      obtain rfl := iu.i
      refine .inl ⟨_, _, rfl, rfl, ?_⟩
      walk_at "go"
      refine ⟨_, 2, 2, _, iv, rfl, rfl, rfl, fun u iu => ?_⟩
      obtain rfl := iu.i
      walk_at "go"
      refine ⟨[.str "skip", .int (n + m), .int y], .cons (.str _) (.cons (.int _) (.cons (.int _) .nil)), by simp, fun p2 H2 s2 t2 i2 => ?_⟩
      exact q _ H2 s2 i2
    | _ => cases ho
  | map es x =>
    cases a with
    | map ds y =>
      refine ⟨_, 0, 0, _, iw, rfl, rfl, rfl, fun u iu => ?_⟩
      obtain rfl := iu.s
      walk_at "go"
      refine ⟨_, 0, 0, _, iw, rfl, rfl, rfl, fun u iu => ?_⟩
      obtain rfl := iu.s
      walk_at "go"
      have hl : (ds.length : Int) + es.length ≤ 64 := of_decide_eq_true ho
      refine ⟨_, 1, 1, _, iv, rfl, rfl, rfl, fun u iu => ?_⟩
      walk_at "go"
      have i1 := iu
      refine ⟨_, 1, 1, _, iw, rfl, rfl, rfl, fun u iu => ?_⟩
      refine .inr ⟨_, _, i1, iu, by rw [List.length_map, List.length_map]; omega, fun z H2 s2 t2 i2 => ?_⟩
      rw [← List.map_append] at i2
      walk_at "go"
      have iv2 := iv.u t2
      refine ⟨_, 2, 2, _, iv2, rfl, rfl, rfl, fun u iu => ?_⟩
      obtain rfl := iu.i
      walk_at "go"
      refine ⟨[.str "map", .tuple ((ds ++ es).map Deed.d), .int y], .cons (.str _) (.cons i2 (.cons (.int _) .nil)), by simp, fun p3 H3 s3 t3 i3 => ?_⟩
      exact q _ H3 (s2.trans s3) i3
    | _ => cases ho
  | keep es x =>
    cases a with
    | keep ds y =>
      refine ⟨_, 0, 0, _, iw, rfl, rfl, rfl, fun u iu => ?_⟩
      obtain rfl := iu.s
      walk_at "go"
      refine ⟨_, 0, 0, _, iw, rfl, rfl, rfl, fun u iu => ?_⟩
      obtain rfl := iu.s
      walk_at "go"
      have hl : (ds.length : Int) + es.length ≤ 64 := of_decide_eq_true ho
      refine ⟨_, 1, 1, _, iv, rfl, rfl, rfl, fun u iu => ?_⟩
      walk_at "go"
      have i1 := iu
      refine ⟨_, 1, 1, _, iw, rfl, rfl, rfl, fun u iu => ?_⟩
      refine .inr ⟨_, _, i1, iu, by rw [List.length_map, List.length_map]; omega, fun z H2 s2 t2 i2 => ?_⟩
      rw [← List.map_append] at i2
      walk_at "go"
      have iv2 := iv.u t2
      refine ⟨_, 2, 2, _, iv2, rfl, rfl, rfl, fun u iu => ?_⟩
      obtain rfl := iu.i
      walk_at "go"
      refine ⟨[.str "keep", .tuple ((ds ++ es).map Tst.d), .int y], .cons (.str _) (.cons i2 (.cons (.int _) .nil)), by simp, fun p3 H3 s3 t3 i3 => ?_⟩
      exact q _ H3 (s2.trans s3) i3
    | _ => cases ho
  | whil es x =>
    cases a with
    | whil ds y =>
      refine ⟨_, 0, 0, _, iw, rfl, rfl, rfl, fun u iu => ?_⟩
      obtain rfl := iu.s
      walk_at "go"
      refine ⟨_, 0, 0, _, iw, rfl, rfl, rfl, fun u iu => ?_⟩
      obtain rfl := iu.s
      walk_at "go"
      have hl : (ds.length : Int) + es.length ≤ 64 := of_decide_eq_true ho
      refine ⟨_, 1, 1, _, iv, rfl, rfl, rfl, fun u iu => ?_⟩
      walk_at "go"
      have i1 := iu
      refine ⟨_, 1, 1, _, iw, rfl, rfl, rfl, fun u iu => ?_⟩
      refine .inr ⟨_, _, i1, iu, by rw [List.length_map, List.length_map]; omega, fun z H2 s2 t2 i2 => ?_⟩
      rw [← List.map_append] at i2
      walk_at "go"
      have iv2 := iv.u t2
      refine ⟨_, 2, 2, _, iv2, rfl, rfl, rfl, fun u iu => ?_⟩
      obtain rfl := iu.i
      walk_at "go"
      refine ⟨[.str "while", .tuple ((ds ++ es).map Tst.d), .int y], .cons (.str _) (.cons i2 (.cons (.int _) .nil)), by simp, fun p3 H3 s3 t3 i3 => ?_⟩
      exact q _ H3 (s2.trans s3) i3
    | _ => cases ho
  | _ => cases a <;> cases ho

theorem upd_tup {H : Hp} {p : Addr} {o : HO} (h : H p = none) : Same H (upd H p o) := same_new h
def spRenum (K : PySem.W.Frag) : Sp := fun vs H Q _ => ∃ (v v2 : V), vs = [v, v2] ∧ Hold (∃ (l : Ln) (pd : Addr) (kvs : List (Key × V)) (f : Int → Int), Im K H v l.d ∧ v2 = .ref pd ∧ H pd = some (.dK kvs) ∧ (∀ a ∈ l.names, valV kvs (.inl a : Key) = some (.int (f a))) ∧ numOk l = true ∧
  ∀ u H', Same H H' → Im K H' u (l.ren f).d → Q u H')
theorem ok_renumbered (T : Tx K w mg) : FnOk P w K mg base CX0 1 T.renumbered.f T.renumbered.fd ["line", "numbers"] (spRenum K) := by
  refine T.renumbered.F.ok sc_renumbered (fun vs H Q E h => ?_) (fun cdv A outer s H vs Q E hr h => ?_)
  · obtain ⟨a, b, rfl, _⟩ := h
    rfl
  obtain ⟨v, v2, rfl, h⟩ := h
  obtain ⟨l, pd, kvs, f, iv, rfl, ed, hk, hn, q⟩ := h.out
  refine ⟨_, (pss_cons (ps_if (pt_cmpR op_eq (pe_ix ix_tupN (pv 0) pe_int (fun _ _ => rfl)) pe_str (nomark _)) (pss_one (ps_ret (pv 0))) pss_nil)
      (pss_cons (ps_if (pt_cmpR op_inTS (pe_ix ix_tupN (pv 0) pe_int (fun _ _ => rfl)) (pe_td (pa_cons pe_str (pa_cons pe_str (pa_cons pe_str pa_nil)))) (by rfl)) (pss_one (ps_ret (pe_td (pa_cons (pe_ix ix_tupN (pv 0) pe_int (fun _ _ => rfl)) (pa_cons (pe_dget (hu1 hr) (pv 1) (pe_ix ix_tupN (pv 0) pe_int (fun _ _ => rfl)) (fun _ _ => rfl)) (pa_cons (pe_dget (hu1 hr) (pv 1) (pe_ix ix_tupN (pv 0) pe_int (fun _ _ => rfl)) (fun _ _ => rfl)) pa_nil)))))) pss_nil)
      (pss_one (ps_ret (pe_op op_catTD (pe_slice sl_tupD (pv 0) po_none (po_some (pe_un un_neg pe_int))) (pe_td (pa_cons (pe_dget (hu1 hr) (pv 1) (pe_ix ix_tupN (pv 0) (pe_un un_neg pe_int) (fun _ _ => rfl)) (fun _ _ => rfl)) pa_nil))))))), ?_⟩
  walk_at "go"
  by_cases hs : ∃ k, l = .source k
  · obtain ⟨k, rfl⟩ := hs
    refine ⟨_, 0, 0, _, iv, rfl, rfl, rfl, fun u iu => ?_⟩
    obtain rfl := iu.s
    walk_at "go"
    exact q _ _ (Same.refl H) iv
  by_cases h2 : ∃ (w : Str) (a b : Int), l.d = .tuple [.str w, .int a, .int b] ∧ (l.ren f).d = .tuple [.str w, .int (f a), .int (f b)] ∧ decide (V.str w = V.str "source") = false ∧ decide (w ∈ (["chain", "pair", "merge"] : List Str)) = true ∧ l.names = [a, b]
  · obtain ⟨w, a, b, el, er, n1, n2, en⟩ := h2
    rw [el] at iv
    rw [er] at q
    refine ⟨_, 0, 0, _, iv, rfl, rfl, rfl, fun u iu => ?_⟩
    obtain rfl := iu.s
    refine ⟨rfl, _, rfl, ?_⟩
    refine ite_f n1 ?_
    walk_at "go"
    refine ⟨_, 0, 0, _, iv, rfl, rfl, rfl, fun u iu => ?_⟩
    obtain rfl := iu.s
    walk_at "go"
    refine ⟨[.str "chain", .str "pair", .str "merge"], .cons (.str _) (.cons (.str _) (.cons (.str _) .nil)), by simp, fun p1 H1 s1 t1 i1 => ?_⟩
    refine ⟨_, ["chain", "pair", "merge"], rfl, i1, ?_⟩
    refine ⟨_, rfl, ?_⟩
    refine ite_t n2 ?_
    walk_at "go"
    have iv1 := iv.u t1
    have ed1 := s1 _ _ ed
    refine ⟨_, 0, 0, _, iv1, rfl, rfl, rfl, fun u iu => ?_⟩
    obtain rfl := iu.s
    walk_at "go"
    refine ⟨_, 1, 1, _, iv1, rfl, rfl, rfl, fun u iu => ?_⟩
    obtain rfl := iu.i
    refine ⟨pd, _, rfl, .inl ⟨kvs, .inl a, .inl ed1, rfl, (hk a (by rw [en]; exact List.mem_cons_self)).symm⟩, ?_⟩
    walk_at "go"
    refine ⟨_, 2, 2, _, iv1, rfl, rfl, rfl, fun u iu => ?_⟩
    obtain rfl := iu.i
    refine ⟨pd, _, rfl, .inl ⟨kvs, .inl b, .inl ed1, rfl, (hk b (by rw [en]; exact List.mem_cons_of_mem _ List.mem_cons_self)).symm⟩, ?_⟩
    walk_at "go"
    refine ⟨[.str w, .int (f a), .int (f b)], .cons (.str _) (.cons (.int _) (.cons (.int _) .nil)), by simp, fun p2 H2 s2 t2 i2 => ?_⟩
    exact q _ H2 (s1.trans s2) i2
  have h1 : ∃ (w : Str) (ds : List PyData) (a : Int), l.d = .tuple ((.str w :: ds) ++ [.int a]) ∧ (l.ren f).d = .tuple ((.str w :: ds) ++ [.int (f a)]) ∧ decide (V.str w = V.str "source") = false ∧ decide (w ∈ (["chain", "pair", "merge"] : List Str)) = false ∧ l.names = [a] ∧ ds.length ≤ 2 := by
    cases l with
    | source k => exact absurd ⟨k, rfl⟩ hs
    | chain a b => exact absurd ⟨_, a, b, rfl, rfl, by decide +kernel, by decide +kernel, rfl⟩ h2
    | pair a b => exact absurd ⟨_, a, b, rfl, rfl, by decide +kernel, by decide +kernel, rfl⟩ h2
    | merge a b => exact absurd ⟨_, a, b, rfl, rfl, by decide +kernel, by decide +kernel, rfl⟩ h2
    | map ds a => exact ⟨"map", [.tuple (ds.map Deed.d)], a, rfl, rfl, by decide +kernel, by decide +kernel, rfl, by simp⟩
    | keep ds a => exact ⟨"keep", [.tuple (ds.map Tst.d)], a, rfl, rfl, by decide +kernel, by decide +kernel, rfl, by simp⟩
    | whil ds a => exact ⟨"while", [.tuple (ds.map Tst.d)], a, rfl, rfl, by decide +kernel, by decide +kernel, rfl, by simp⟩
    | take n a => exact ⟨"take", [.int n], a, rfl, rfl, by decide +kernel, by decide +kernel, rfl, by simp⟩
    | skip n a => exact ⟨"skip", [.int n], a, rfl, rfl, by decide +kernel, by decide +kernel, rfl, by simp⟩
    | group n a => exact ⟨"group", [.int n], a, rfl, rfl, by decide +kernel, by decide +kernel, rfl, by simp⟩
    | window n a => exact ⟨"window", [.int n], a, rfl, rfl, by decide +kernel, by decide +kernel, rfl, by simp⟩
    | fold w n a => exact ⟨"fold", [.str w.s, .int n], a, rfl, rfl, by decide +kernel, by decide +kernel, rfl, by simp⟩
  obtain ⟨w, ds, a, el, er, n1, n2, en, dl⟩ := h1
  rw [el] at iv
  rw [er] at q
  refine ⟨_, 0, 0, .str w, iv, rfl, ixN_int (by omega) (by rw [List.length_append, List.length_cons]; omega), rfl, fun u iu => ?_⟩
  obtain rfl := iu.s
  refine ⟨rfl, _, rfl, ?_⟩
  refine ite_f n1 ?_
  walk_at "go"
  refine ⟨_, 0, 0, .str w, iv, rfl, ixN_int (by omega) (by rw [List.length_append, List.length_cons]; omega), rfl, fun u iu => ?_⟩
  obtain rfl := iu.s
  walk_at "go"
  refine ⟨[.str "chain", .str "pair", .str "merge"], .cons (.str _) (.cons (.str _) (.cons (.str _) .nil)), by simp, fun p1 H1 s1 t1 i1 => ?_⟩
  refine ⟨_, ["chain", "pair", "merge"], rfl, i1, ?_⟩
  refine ⟨_, rfl, ?_⟩
  refine ite_f n2 ?_
  walk_at "go"
  have iv1 := iv.u t1
  have ed1 := s1 _ _ ed
  have ec : cutD ((.str w :: ds) ++ [.int a]) none (some (-1)) = .str w :: ds := by
    unfold cutD
    have e1 : HT.sIx ((PyData.str w :: ds) ++ [PyData.int a]).length ((PyData.str w :: ds) ++ [PyData.int a]).length (some (-1)) = (PyData.str w :: ds).length := by
      rw [List.length_append]
      unfold HT.sIx
      simp
      omega
    rw [e1, HT.sIx_none, List.drop_zero, Nat.sub_zero, List.take_left]
  refine ⟨_, iv1, fun x H2 s2 t2 i2 => ?_⟩
  rw [ec] at i2
  have iv2 := iv1.u t2
  have ed2 := s2 _ _ ed1
  walk_at "go"
  refine ⟨_, -1, ds.length + 1, .int a, iv2, rfl, ?_, ?_, fun u iu => ?_⟩
  · have e0 : (PyData.str w :: ds ++ [PyData.int a]).length = ds.length + 2 := by rw [List.length_append, List.length_cons]; rfl
    rw [e0]
    unfold ixN
    simp
    omega
  · rw [show PyData.str w :: ds ++ [PyData.int a] = (PyData.str w :: ds) ++ [PyData.int a] from rfl, List.getElem?_append_right (by rw [List.length_cons]; exact Nat.le_refl _), List.length_cons, Nat.sub_self]
    rfl
  obtain rfl := iu.i
  refine ⟨pd, _, rfl, .inl ⟨kvs, .inl a, .inl ed2, rfl, (hk a (by rw [en]; exact List.mem_cons_self)).symm⟩, ?_⟩
  refine ⟨[.int (f a)], .cons (.int _) .nil, by simp, fun p3 H3 s3 t3 i3 => ?_⟩
  refine ⟨_, _, i2.u t3, i3, by rw [List.length_cons]; show ds.length + 1 + 1 ≤ _; omega, fun u4 H4 s4 t4 i4 => ?_⟩
  exact q _ H4 (((s1.trans s2).trans s3).trans s4) i4

def spStraight (K : PySem.W.Frag) : Sp := fun vs H Q _ => ∃ (v v2 : V), vs = [v, v2] ∧ Hold (∃ (lw po : Addr) (ls : List Ln) (ks : List Kd) (outs : List Int) (many : Int), v = .ref lw ∧ v2 = .ref po ∧ Acc K H lw (ls.map Ln.d) ∧ Acc K H po (outs.map PyData.int) ∧ GoodW many ls ks ∧ 1 ≤ ls.length ∧ ls.length ≤ 24 ∧ outs.length ≤ 1000 ∧
  (∀ o ∈ outs, 0 ≤ o ∧ o < (ls.length : Int)) ∧ 0 < (srcs ls).length ∧ ∀ p pw pq H', H p = none → H pw = none → H pq = none → pw ≠ pq → Same H H' → H' p = some (.tup [.ref pw, .ref pq]) → Acc K H' pw ((weaveS (finS (usersL ls outs) ls)).map Ln.d) → Acc K H' pq ((outsS (finS (usersL ls outs) ls) outs).map PyData.int) → Q (.ref p) H')
theorem GoodW.many {m m2 : Int} {ls : List Ln} {ks : List Kd} (w : GoodW m ls ks) (h : ∀ k ∈ srcs ls, k < m2) : GoodW m2 ls ks := by
  induction w with
  | nil => exact .nil
  | @snoc ls ks l k w hp hn hk hd hm ih =>
    refine .snoc (ih fun k hk => h k (by rw [srcs_snoc]; exact List.mem_append_left _ hk)) ?_ hn hk hd hm
    cases l with
    | source c =>
      have hp : ((decide (0 ≤ c) && decide (c < m)) && !decide (c ∈ srcs ls)) = true := hp
      show ((decide (0 ≤ c) && decide (c < m2)) && !decide (c ∈ srcs ls)) = true
      rw [Bool.and_eq_true, Bool.and_eq_true] at hp ⊢
      refine ⟨⟨hp.1.1, decide_eq_true (h c (by rw [srcs_snoc]; exact List.mem_append_right _ List.mem_cons_self))⟩, hp.2⟩
    | _ => exact hp
theorem stepsS_snoc {u : List Int} : ∀ {ls : List Ln} {n : Nat} {st : List (Nat × Ln)} {l : Ln}, stepsS u n (ls ++ [l]) st = stepS u (stepsS u n ls st) (n + ls.length) l
  | [], n, st, l => rfl
  | x :: ls, n, st, l => by
    show stepsS u (n + 1) (ls ++ [l]) _ = stepS u (stepsS u (n + 1) ls _) _ l
    rw [stepsS_snoc (ls := ls), List.length_cons, show n + 1 + ls.length = n + (ls.length + 1) by omega]
theorem SInv.upto {many : Int} {ls : List Ln} {ks : List Kd} {outs u : List Int} (w : GoodW many ls ks) (hu : ∀ b, b < ls.length → 0 ≤ u.getD b 0) (I : SInv ls ks outs u 0 []) : ∀ {n : Nat}, n ≤ ls.length → SInv ls ks outs u n (stepsS u 0 (ls.take n) [])
  | 0, _ => I
  | n + 1, h => by
    have hl : ls[n]? = some ls[n] := List.getElem?_eq_getElem (by omega)
    rw [take_succ hl, stepsS_snoc, List.length_take, Nat.min_eq_left (by omega), Nat.zero_add]
    exact (SInv.upto w hu I (n := n) (by omega)).step w hl hu
theorem ok_straight (T : Tx K w mg) : FnOk P w K mg base CX0 6 T.straight.f T.straight.fd ["weave", "outs"] (spStraight K) := by
  refine T.straight.F.ok sc_straight (fun vs H Q E h => ?_) (fun cdv A outer s H vs Q E hr h => ?_)
  · obtain ⟨a, b, rfl, _⟩ := h
    rfl
  obtain ⟨v, v2, rfl, h⟩ := h
  obtain ⟨lw, po, ls, ks, outs, many, rfl, rfl, aw, ao, good, l1, l24, lo, ho, ns, q⟩ := h.out
  obtain ⟨xs, ew, iw⟩ := id aw
  have lx : xs.length = ls.length := by have := iw.len; rw [List.length_map] at this; exact this
  have old : ∀ (i : Nat) l a, ls[i]? = some l → a ∈ l.names → 0 ≤ a ∧ a < (i : Int) := fun i l a h ha => by
    obtain ⟨_, _, _, _, _, _, nm⟩ := good.full h
    exact nm a ha
  have hus : ∀ b, b < ls.length → 0 ≤ (usersL ls outs).getD b 0 := fun b hb => users_nonneg old hb
  have lus : (usersL ls outs).length = ls.length := usersL_len
  have inv : ∀ {n : Nat}, n ≤ ls.length → SInv ls ks outs (usersL ls outs) n (stepsS (usersL ls outs) 0 (ls.take n) []) := fun h => SInv.upto good hus (SInv.start old) h
  have fin : Strait many ls ks outs (finS (usersL ls outs) ls) := strait_of good ho
  have efin : stepsS (usersL ls outs) 0 (ls.take ls.length) [] = finS (usersL ls outs) ls := by rw [List.take_length]; rfl
  refine ⟨_, (pss_cons (ps_expr (pe_call (ok_looked T) hr (by rfl) T.looked.g T.looked.F.kp T.looked.b .nil pass0 (pa_cons (pv 0) (pa_cons (pe_call (ok_sources_told T) (hr.mono (by decide)) (by rfl) T.sources_told.g T.sources_told.F.kp T.sources_told.b .nil pass0 (pa_cons (pv 0) pa_nil)) pa_nil))))
      (pss_cons (ps_expr (pe_call (ok_outs_looked T) (hr.mono (by decide)) (by rfl) T.outs_looked.g T.outs_looked.F.kp T.outs_looked.b .nil pass0 (pa_cons (pv 0) (pa_cons (pv 1) pa_nil))))
      (pss_cons (ps_set (i := 2) sc_straight.nd rfl (by first | exact Or.inl rfl | exact Or.inr rfl) (pe_call (ok_users_of T) (hr.mono (by decide)) (by rfl) T.users_of.g T.users_of.F.kp T.users_of.b .nil pass0 (pa_cons (pv 0) (pa_cons (pv 1) pa_nil))))
      (pss_cons (ps_set (i := 3) sc_straight.nd rfl (by first | exact Or.inl rfl | exact Or.inr rfl) pe_dnewK)
      (pss_cons (ps_for PassesOwn.never rfl (pi_enum (by rfl) T.z_enumerate (pa_cons (pv 0) pa_nil)) (pg_tup rfl (pgs_cons (pg_name (i := 5) sc_straight.nd rfl (by first | exact Or.inl rfl | exact Or.inr rfl)) (pgs_cons (pg_name (i := 6) sc_straight.nd rfl (by first | exact Or.inl rfl | exact Or.inr rfl)) pgs_nil))) (pss_cons (ps_if (pt_cmpR op_eq (pe_ix ix_listA (pv 2) (pv 5) (fun _ _ => rfl)) pe_int (nomark _)) (pss_one ps_continue) pss_nil)
      (pss_cons (ps_cut (ps_if (PW.pt (pw_and (pt_cmpR op_inTS (pe_ix ix_tupN (pv 6) pe_int (fun _ _ => rfl)) (pe_glob (v := .ref T.c_JOINED.a) (by rfl) T.c_JOINED.g rfl) (by rfl)) (pw_and (pt_cmpR op_eq (pe_ix ix_listA (pv 2) (pe_ix ix_tupN (pv 6) (pe_un un_neg pe_int) (fun _ _ => rfl)) (fun _ _ => rfl)) pe_int (nomark _)) (pw_and1 (pt_val (pe_call (ok_can_be_one T) (hr.mono (by decide)) (by rfl) T.can_be_one.g T.can_be_one.F.kp T.can_be_one.b .nil pass0 (pa_cons (pe_dget (hu1 hr) (pv 3) (pe_ix ix_tupN (pv 6) (pe_un un_neg pe_int) (fun _ _ => rfl)) (fun _ _ => rfl)) (pa_cons (pv 6) pa_nil)))))))) (pss_one (ps_set (i := 6) sc_straight.nd rfl (by first | exact Or.inl rfl | exact Or.inr rfl) (pe_call (ok_joined T) (hr.mono (by decide)) (by rfl) T.joined.g T.joined.F.kp T.joined.b .nil pass0 (pa_cons (pe_dpop1 (pv 3) (pe_ix ix_tupN (pv 6) (pe_un un_neg pe_int) (fun _ _ => rfl)) ⟨rfl, rfl, rfl, rfl⟩) (pa_cons (pv 6) pa_nil))))) pss_nil))
      (pss_one (ps_dput (hu1 hr) (pv 3) (pv 5) (pv 6) rfl)))))
      (pss_cons (ps_set (i := 4) sc_straight.nd rfl (by first | exact Or.inl rfl | exact Or.inr rfl) (pe_dc (own := [("number", 7), ("at", 5)]) (g := gTup K 2 (gCons (gName 7) (gCons (gName 5) gNil))) (tt := tYes) rfl sc_straight.nd (pi_enum (by rfl) T.z_enumerate (pa_cons (pe_callTy (call_list_dK rfl) (by rfl) T.z_list (by decide +kernel) (pa_cons (pv 3) pa_nil)) pa_nil)) (blkOk_by (own := [("number", 7), ("at", 5)]) (N := ["weave", "outs", "users", "lines", "numbers", "at", "line", "number", "out"]) (sc := defScope s_straight) (by decide +kernel)) (fun _ _ _ _ _ => pg_tup rfl (pgs_cons (pg_name (i := 7) sc_straight.nd rfl (Or.inl rfl)) (pgs_cons (pg_name (i := 5) sc_straight.nd rfl (Or.inl rfl)) pgs_nil))) (fun _ _ _ _ _ => pts_nil) (fun _ _ _ _ _ => (pv 5)) (fun _ _ _ _ _ => (pv 7))))
      (pss_one (ps_ret (pe_tr (pa_cons (pe_lock (pe_lc (own := [("at", 5)]) (g := gName 5) (tt := tYes) rfl sc_straight.nd (pi_keys (pv 3)) (blkOk_by (own := [("at", 5)]) (N := ["weave", "outs", "users", "lines", "numbers", "at", "line", "number", "out"]) (sc := defScope s_straight) (by decide +kernel)) (fun _ _ _ _ _ => pg_name (i := 5) sc_straight.nd rfl (Or.inl rfl)) (fun _ _ _ _ _ => pts_nil) (fun _ _ _ _ _ => (pe_call (ok_renumbered T) (hr.mono (by decide)) (by rfl) T.renumbered.g T.renumbered.F.kp T.renumbered.b .nil pass0 (pa_cons (pe_dget (hu1 hr) (pv 3) (pv 5) (fun _ _ => rfl)) (pa_cons (pv 4) pa_nil)))))) (pa_cons (pe_lc (own := [("out", 8)]) (g := gName 8) (tt := tYes) rfl sc_straight.nd (pi_list (pv 1)) (blkOk_by (own := [("out", 8)]) (N := ["weave", "outs", "users", "lines", "numbers", "at", "line", "number", "out"]) (sc := defScope s_straight) (by decide +kernel)) (fun _ _ _ _ _ => pg_name (i := 8) sc_straight.nd rfl (Or.inl rfl)) (fun _ _ _ _ _ => pts_nil) (fun _ _ _ _ _ => (pe_dget (hu1 hr) (pv 4) (pv 8) (fun _ _ => rfl)))) pa_nil))))))))))), ?_⟩
  walk_at "go"
  refine .mk ⟨lw, ls, rfl, aw, by omega, ns, fun m H0 hm s0 => ?_⟩
  walk_at "go"
  refine .mk ⟨lw, ls, ks, m, rfl, rfl, aw.same s0, good.many hm, l1, l24, fun pk Ha na sa ak => ?_⟩
  have Sa := s0.trans sa
  walk_at "go"
  have eo : outs.map V.int = (outs.map Int.toNat).map fun (n : Nat) => V.int (n : Int) := by
    rw [List.map_map]
    refine List.map_congr_left fun o h => ?_
    show V.int o = V.int ((o.toNat : Nat) : Int)
    rw [Int.toNat_of_nonneg (ho o h).1]
  refine .mk ⟨lw, po, ls.map Ln.d, outs.map Int.toNat, rfl, rfl, aw.same Sa, by rw [← eo]; exact acc_raw (ao.same Sa), fun i n h => ?_, by rw [List.length_map]; omega, ?_⟩
  · rw [List.getElem?_map] at h
    obtain ⟨o, h1, rfl⟩ := Option.map_eq_some_iff.mp h
    have := ho o (List.mem_of_getElem? h1)
    rw [List.length_map]
    omega
  walk_at "go"
  refine .mk ⟨lw, po, ls, outs, rfl, rfl, aw.same Sa, ao.same Sa, by omega, lo, old, fun U Hb nU sb aU => ?_⟩
  have Sb := Sa.trans sb
  walk_at "go"
  intro L nL
  have nLH : H L = none := Sb.free nL
  have nUH : H U = none := Sa.free nU
  have UL : U ≠ L := by
    obtain ⟨_, e⟩ := aU.at
    exact ne_of_none e nL
  generalize hHc : upd Hb L (.dK []) = Hc
  have sc : Same Hb Hc := hHc ▸ same_new nL
  have eL : Hc L = some (.dK []) := hHc ▸ upd_same
  have Sc := Sb.trans sc
  walk_at "go"
  refine ⟨lw, xs, rfl, SqL.of (Sc _ _ ew), for_enum (K := K) (a := lw) (xs := xs) (fun i σ H3 => Hold (∃ (o5 o6 : Option V) (kvs : List (Key × V)), σ = [some (.ref lw), some (.ref po), some (.ref U), some (.ref L), none, o5, o6, none, none] ∧ Same Hb H3 ∧ i ≤ ls.length ∧
      H3 L = some (.dK kvs) ∧ Dk K H3 Ln.d kvs (stepsS (usersL ls outs) 0 (ls.take i) [])))
    (.mk ⟨none, none, [], rfl, sc, Nat.zero_le _, eL, .nil⟩) (fun i σ H3 _ h => by obtain ⟨_, _, _, _, s, _⟩ := h.out; exact SqL.of (s _ _ (Sb _ _ ew))) ?_ ?_⟩
  · intro i x σ H3 T4 H4 hi h nT s4 eT
    obtain ⟨o5, o6, kvs, rfl, s3, il, ek, dk⟩ := h.out
    obtain ⟨d, hd, ix⟩ := iw.get hi
    rw [List.getElem?_map] at hd
    obtain ⟨l, hl, rfl⟩ := Option.map_eq_some_iff.mp hd
    have hil := (List.getElem?_eq_some_iff.mp hl).1
    have I := inv (n := i) (by omega)
    have est : stepsS (usersL ls outs) 0 (ls.take (i + 1)) [] = stepS (usersL ls outs) (stepsS (usersL ls outs) 0 (ls.take i) []) i l := by
      rw [take_succ hl, stepsS_snoc, List.length_take, Nat.min_eq_left (by omega), Nat.zero_add]
    rw [est]
    generalize stepsS (usersL ls outs) 0 (ls.take i) [] = st at dk I
    have S4 := s3.trans s4
    have ek4 := s4 _ _ ek
    have dk4 := dk.u (same_tk s4)
    have ix4 := ix.u (same_tk (Sb.trans S4))
    have aU4 := aU.same S4
    have hat : ((usersL ls outs).map PyData.int)[i]? = some (.int ((usersL ls outs).getD i 0)) := by
      rw [List.getElem?_map, List.getD_eq_getElem?_getD, List.getElem?_eq_getElem (by omega)]; rfl
    refine ⟨T4, _, rfl, SqT.of eT, rfl, ?_⟩
    walk_at "go"
    refine ⟨_, _, _, i, _, rfl, aU4, rfl, rfl, hat, fun v iv => ?_⟩
    obtain rfl := iv.i
    walk_at "go"
    by_cases c0 : (usersL ls outs).getD i 0 = 0
    · refine ite_t (dv_t c0) ?_
      walk_at "go"
      rw [stepS_skip c0]
      exact .mk ⟨_, _, kvs, rfl, S4, hil, ek4, dk4⟩
    refine ite_f (dv_f c0) ?_
    have up : 0 < (usersL ls outs).getD i 0 := by have := hus i hil; omega
    walk_at "go"
    refine ⟨fun σ' H5 => Hold (∃ (vl : V) (l' : Ln) (st' : List (Nat × Ln)) (kvs' : List (Key × V)), σ' = [some (.ref lw), some (.ref po), some (.ref U), some (.ref L), none, some (.int (i : Int)), some vl, none, none] ∧ Same Hb H5 ∧ H5 L = some (.dK kvs') ∧ Dk K H5 Ln.d kvs' st' ∧ Im K H5 vl l'.d ∧
      stepS (usersL ls outs) st i l = st' ++ [(i, l')] ∧ st'.length ≤ i ∧ i ∉ st'.map (·.1)), ?_, ?_⟩
    · have ni : i ∉ st.map (·.1) := fun h => by
        obtain ⟨p, hp, e⟩ := List.mem_map.mp h
        have := I.lt p hp
        omega
      have nI := I.len
      have plain : stepS (usersL ls outs) st i l = st ++ [(i, l)] → ∀ H5, Same H4 H5 → Hold (∃ (vl : V) (l' : Ln) (st' : List (Nat × Ln)) (kvs' : List (Key × V)), ([some (.ref lw), some (.ref po), some (.ref U), some (.ref L), none, some (.int (i : Int)), some x, none, none] : List (Option V)) = [some (.ref lw), some (.ref po), some (.ref U), some (.ref L), none, some (.int (i : Int)), some vl, none, none] ∧ Same Hb H5 ∧ H5 L = some (.dK kvs') ∧ Dk K H5 Ln.d kvs' st' ∧ Im K H5 vl l'.d ∧
          stepS (usersL ls outs) st i l = st' ++ [(i, l')] ∧ st'.length ≤ i ∧ i ∉ st'.map (·.1)) := fun e H5 s5 => .mk ⟨x, l, st, kvs, rfl, S4.trans s5, s5 _ _ ek4, dk4.u (same_tk s5), ix4.u (same_tk s5), e, nI, ni⟩
      have ij : Im K H4 (.ref T.c_JOINED.a) (.tuple ((["map", "keep", "while", "take", "skip"] : List Str).map PyData.str)) := .tup (T.c_JOINED.h _) (ims_txts _)
      walk_at "go"
      cases hj : joinW l with
      | false =>
        obtain ⟨wd, ds, el, nw⟩ := joinW_no hj
        have ix4' := ix4
        rw [el] at ix4'
        refine ⟨_, 0, 0, .str wd, ix4', rfl, ixN_int (by omega) (by rw [List.length_cons]; omega), rfl, fun u iu => ?_⟩
        obtain rfl := iu.s
        walk_at "go"
        refine ⟨_, ["map", "keep", "while", "take", "skip"], rfl, ij, ?_⟩
        refine ⟨_, rfl, ?_⟩
        refine ite_f nw ?_
        walk_at "go"
        exact plain (stepS_plain c0 fun z => by rw [hj] at z; cases z) H4 (Same.refl H4)
      | true =>
        obtain ⟨wd, x3, a, el, en, nw⟩ := joinW_d hj
        have ea := inner_of en
        have ix4' := ix4
        rw [el] at ix4'
        have hb := old i l a hl (by rw [en]; exact List.mem_cons_self)
        have hat2 : ((usersL ls outs).map PyData.int)[a.toNat]? = some (.int ((usersL ls outs).getD a.toNat 0)) := by
          rw [List.getElem?_map, List.getD_eq_getElem?_getD, List.getElem?_eq_getElem (by omega)]; rfl
        refine ⟨_, 0, 0, .str wd, ix4', rfl, rfl, rfl, fun u iu => ?_⟩
        obtain rfl := iu.s
        walk_at "go"
        refine ⟨_, ["map", "keep", "while", "take", "skip"], rfl, ij, ?_⟩
        refine ⟨_, rfl, ?_⟩
        refine ite_t nw ?_
        walk_at "go"
        refine ⟨_, -1, 2, .int a, ix4', rfl, rfl, rfl, fun u iu => ?_⟩
        obtain rfl := iu.i
        refine ⟨_, _, _, a.toNat, _, rfl, aU4, rfl, by omega, hat2, fun v iv => ?_⟩
        obtain rfl := iv.i
        walk_at "go"
        by_cases c1 : (usersL ls outs).getD a.toNat 0 = 1
        · refine ite_t (dv_t c1) ?_
          have ka := I.inner hl up (by rw [en]; exact List.mem_cons_self) hb.1 hb.2
          obtain ⟨pA, hpA, epA⟩ := List.mem_map.mp ka
          obtain ⟨A, hA⟩ : ∃ A, valP st a.toNat = some A := ⟨pA.2, valP_of I.srt (by rw [← epA]; exact hpA)⟩
          obtain ⟨vA, hvA, iA⟩ := dk4.some hA
          rw [Int.toNat_of_nonneg hb.1] at hvA
          walk_at "go"
          refine ⟨_, -1, 2, .int a, ix4', rfl, rfl, rfl, fun u iu => ?_⟩
          obtain rfl := iu.i
          refine ⟨L, vA, rfl, .inl ⟨kvs, .inl a, .inl ek4, rfl, hvA.symm⟩, ?_⟩
          walk_at "go"
          refine .mk ⟨A, l, iA, ix4, hj, ?_⟩
          walk_at "go"
          by_cases o : oneLn A l = true
          · refine ite_t o ?_
            walk_at "go"
            refine ⟨.inl ⟨kvs, .inl ek4⟩, ?_⟩
            walk_at "go"
            refine ⟨_, -1, 2, .int a, ix4', rfl, rfl, rfl, fun u iu => ?_⟩
            obtain rfl := iu.i
            refine ⟨kvs, .inl a, vA, ek4, rfl, hvA, ?_⟩
            generalize hH5 : upd H4 L (.dK (dropK kvs (.inl a : Key))) = H5
            have b5 : But L H4 H5 := hH5 ▸ fun b u hb q => by rw [upd_ne hb]; exact q
            have e5 : H5 L = some (.dK (dropK kvs (.inl a : Key))) := hH5 ▸ upd_same
            have t5 : TK K H4 H5 := b5.tkW ek4 rfl
            have dk5 := (dk4.u t5).drop a.toNat
            rw [Int.toNat_of_nonneg hb.1] at dk5
            have S5 : Same Hb H5 := fun b o h => b5 _ _ (ne_of_none h nL) (S4 _ _ h)
            walk_at "go"
            refine .mk ⟨A, l, iA.u t5, ix4.u t5, o, fun u H6 s6 i6 => ?_⟩
            walk_at "go"
            refine .mk ⟨u, joinL A l, st.filter (fun p => !decide (p.1 = a.toNat)), _, rfl, S5.trans s6, s6 _ _ e5, dk5.u (same_tk s6), i6, ?_, ?_, fun h => ?_⟩
            · rw [stepS_join c0 hj (by rw [ea]; exact hA) (by rw [ea]; exact c1) o, ea]
            · exact Nat.le_trans (List.length_filter_le _ _) nI
            · obtain ⟨p, hp, e⟩ := List.mem_map.mp h
              exact ni (List.mem_map.mpr ⟨p, (List.mem_filter.mp hp).1, e⟩)
          · refine ite_f (Bool.eq_false_iff.mpr o) ?_
            walk_at "go"
            refine plain (stepS_plain c0 fun _ B hB _ => ?_) H4 (Same.refl H4)
            rw [ea, hA] at hB
            cases hB
            exact Bool.eq_false_iff.mpr o
        · refine ite_f (dv_f c1) ?_
          walk_at "go"
          refine plain (stepS_plain c0 fun _ B hB z => ?_) H4 (Same.refl H4)
          rw [ea] at z
          exact absurd z c1
    · intro σ' H5 h
      obtain ⟨vl, l', st', kvs', rfl, s5, ek5, dk5, il', es, ln', ni'⟩ := h.out
      walk_at "go"
      refine ⟨L, _, rfl, .inl ⟨kvs', .inl (i : Int), ek5, rfl, big (by rw [dk5.len]; omega), rfl⟩, ?_⟩
      generalize hH6 : upd H5 L (.dK (putK kvs' (.inl (i : Int) : Key) vl)) = H6
      have b6 : But L H5 H6 := hH6 ▸ fun b u hb q => by rw [upd_ne hb]; exact q
      have e6 : H6 L = some (.dK (putK kvs' (.inl (i : Int) : Key) vl)) := hH6 ▸ upd_same
      have t6 : TK K H5 H6 := b6.tkW ek5 rfl
      rw [es]
      refine .mk ⟨_, _, _, rfl, fun b o h => b6 _ _ (ne_of_none h nL) (s5 _ _ h), hil, e6, (dk5.u t6).put ni' (il'.u t6)⟩
  intro σ H3 h
  obtain ⟨o5, o6, kvs, rfl, s3, _, ek, dk⟩ := h.out
  rw [lx, efin] at dk
  generalize finS (usersL ls outs) ls = st at dk fin q
  walk_at "go"
  have S3 := Sb.trans s3
  have dn : (keysS st).Nodup := by
    have := fin.srt
    exact this.imp fun h => Nat.ne_of_lt h
  refine ⟨L, kvs, rfl, ek, fun q9 n9 => ?_⟩
  generalize hH4 : upd H3 q9 (.lst (kvs.map fun kv => kV kv.1)) = H4
  have s4 : Same H3 H4 := hH4 ▸ same_new n9
  have e4 : H4 q9 = some (.lst ((keysS st).map fun (n : Nat) => V.int (n : Int))) := by
    rw [← hH4, upd_same, dk.keys]
    unfold keysS
    rw [List.map_map]
    rfl
  clear hH4
  walk_at "go"
  refine ⟨q9, _, rfl, SqL.of e4, fun D nD => ?_⟩
  refine loop_enum (K := K) (a := q9) (xs := (keysS st).map fun (n : Nat) => V.int (n : Int)) (fun i H5 => Hold (Same H4 H5 ∧ ∃ kv2, H5 D = some (.dK kv2) ∧ Dk K H5 (fun (j : Nat) => PyData.int (j : Int)) kv2 ((keysS st).take i).zipIdx))
    (.mk ⟨same_new nD, [], upd_same, .nil⟩) (fun i H5 _ h => SqL.of (h.out.1 _ _ e4)) ?_ ?_
  · intro i x H5 T5 H6 hi h nT s6 eT
    obtain ⟨s5, kv2, eD, d5⟩ := h.out
    rw [List.getElem?_map] at hi
    obtain ⟨k, hk, rfl⟩ := Option.map_eq_some_iff.mp hi
    have S6 := s5.trans s6
    have eD6 := s6 _ _ eD
    have il := (List.getElem?_eq_some_iff.mp hk).1
    have lks : (keysS st).length = st.length := List.length_map _
    have l24' := fin.len
    have nk : k ∉ (((keysS st).take i).zipIdx).map (·.1) := by
      rw [zip_keys]
      intro hm
      obtain ⟨j, hj⟩ := List.mem_iff_getElem?.mp hm
      have hj2 := (List.getElem?_eq_some_iff.mp hj).1
      rw [List.length_take] at hj2
      rw [List.getElem?_take_of_lt (by omega)] at hj
      obtain ⟨h1, e1⟩ := List.getElem?_eq_some_iff.mp hj
      obtain ⟨h2, e2⟩ := List.getElem?_eq_some_iff.mp hk
      have := (List.getElem_inj dn).mp (e1.trans e2.symm)
      omega
    refine ⟨T5, _, rfl, SqT.of eT, rfl, ?_⟩
    walk_at "go"
    refine ⟨kv2, .inl (k : Int), rfl, eD6, big (by rw [d5.len, List.length_zipIdx, List.length_take]; omega), .mk ⟨same_put S6 nD, _, upd_same, ?_⟩⟩
    rw [take_succ hk, zip_snoc, List.length_take, Nat.min_eq_left (by omega)]
    refine ((d5.u (same_tk s6)).u ?_).put nk (.int _)
    have bb : But D H6 (upd H6 D (.dK (putK kv2 (.inl (k : Int) : Key) (.int (i : Int))))) := fun b u hb q => by rw [upd_ne hb]; exact q
    exact bb.tkW eD6 rfl
  intro H5 h
  obtain ⟨s5, kv2, eD, d5⟩ := h.out
  rw [List.length_map, List.take_length] at d5
  have S5 := s4.trans s5
  have ek5 := S5 _ _ ek
  have dk5 := dk.u (same_tk S5)
  have val2 : ∀ {H' : Hp} {kv : List (Key × V)}, Dk K H' (fun (j : Nat) => PyData.int (j : Int)) kv (keysS st).zipIdx → ∀ a : Int, 0 ≤ a → a.toNat ∈ keysS st → valV kv (.inl a : Key) = some (.int (ixS st a)) := fun {H' kv} d a a0 ha => by
    obtain ⟨v, hv, iv⟩ := d.some (zip_find (n := 0) ha)
    rw [Int.toNat_of_nonneg a0] at hv
    rw [hv]
    have iv : Im K H' v (.int ((0 + (keysS st).idxOf a.toNat : Nat) : Int)) := iv
    rw [Im.i iv, Nat.zero_add]
    rfl
  walk_at "go"
  refine ⟨L, .dK kvs, ek5, trivial, fun od => ?_⟩
  generalize hH6 : upd H5 L (.frz od (.dK kvs)) = H6
  have b6 : But L H5 H6 := hH6 ▸ lock_but
  have t6 : TK K H5 H6 := hH6 ▸ lock_tk ek5
  have e6 : H6 L = some (.frz od (.dK kvs)) := hH6 ▸ upd_same
  clear hH6
  have LD : D ≠ L := by
    intro z
    subst z
    rw [s4 _ _ ek] at nD
    cases nD
  have eD6 := b6 _ _ LD eD
  have d6 := d5.u t6
  have dk6 := dk5.u t6
  refine ⟨_, rfl, L, od, rfl, .inl ⟨kvs, e6, fun J nJ => ?_⟩⟩
  refine loop_keys (od := od) (kvs := kvs) (fun i H7 => Hold (Same H6 H7 ∧ Acc K H7 J (((st.take i).map fun p => p.2.ren (ixS st)).map Ln.d)))
    (.mk ⟨same_new nJ, acc_nil upd_same⟩) (fun i H7 _ h => h.out.1 _ _ e6) ?_ ?_
  · intro i k v H7 hi h
    obtain ⟨s7, a7⟩ := h.out
    obtain ⟨p, hp, ek7, _⟩ := dk6.at hi
    have ek7 : k = .inl (p.1 : Int) := ek7
    subst ek7
    have mp := List.mem_of_getElem? hp
    obtain ⟨vl, hvl, il⟩ := (dk6.u (same_tk s7)).some (x := p.2) (a := p.1) (valP_of fin.srt mp)
    walk_at "go"
    refine ⟨L, vl, rfl, .inl ⟨kvs, .inl (p.1 : Int), .inr ⟨od, s7 _ _ e6⟩, rfl, hvl.symm⟩, ?_⟩
    walk_at "go"
    refine .mk ⟨p.2, D, kv2, ixS st, il, rfl, s7 _ _ eD6, fun a ha => ?_, fin.num p mp, fun u H8 s8 i8 => ?_⟩
    · obtain ⟨a0, ak⟩ := fin.names p mp a ha
      exact val2 d6 a a0 ak
    · have il2 := (List.getElem?_eq_some_iff.mp hp).1
      have l24' := fin.len
      obtain ⟨acc, ea, hla, b9, t9, a9⟩ := (a7.same s8).push i8 (by rw [List.length_map, List.length_map, List.length_take]; omega)
      refine ⟨acc, ea, hla, .mk ⟨same_put (s7.trans s8) nJ, ?_⟩⟩
      rw [take_succ hp, List.map_append, List.map_append]
      exact a9
  intro H7 h
  obtain ⟨s7, a7⟩ := h.out
  rw [dk6.len, List.take_length] at a7
  have e7 := s7 _ _ e6
  refine ⟨e7, ?_⟩
  have b7 : But L H5 H7 := b6.trans (same_but s7)
  have s8 : Same H5 (upd H7 L (.dK kvs)) := unlock_same ek5 b7
  have t8 : TK K H7 (upd H7 L (.dK kvs)) := unlock_tk e7
  have LJ : J ≠ L := by
    intro z
    subst z
    rw [e6] at nJ
    cases nJ
  have a8 : Acc K (upd H7 L (.dK kvs)) J ((weaveS st).map Ln.d) := a7.keep t8 fun _ e => by rw [upd_ne LJ]; exact e
  have nJ5 : H5 J = none := b6.free LJ nJ
  generalize upd H7 L (.dK kvs) = H8 at s8 t8 a8
  have eD8 := s8 _ _ eD
  have d8 := d5.u (same_tk s8)
  have S8 := S3.trans (S5.trans s8)
  have ao8 := ao.same S8
  walk_at "go"
  refine ⟨⟨_, SqL.of (acc_raw ao8)⟩, fun J2 nJ2 => ?_⟩
  refine loop_list (K := K) (a := po) (xs := outs.map V.int) (fun i H9 => Hold (Same H8 H9 ∧ Acc K H9 J2 (((outs.take i).map (ixS st)).map PyData.int)))
    (.mk ⟨same_new nJ2, acc_nil upd_same⟩) (fun i H9 _ h => SqL.of (acc_raw (ao8.same h.out.1))) ?_ ?_
  · intro i x H9 hi h
    obtain ⟨s9, a9⟩ := h.out
    rw [List.getElem?_map] at hi
    obtain ⟨o, hoi, rfl⟩ := Option.map_eq_some_iff.mp hi
    have om := List.mem_of_getElem? hoi
    walk_at "go"
    refine ⟨D, _, rfl, .inl ⟨kv2, .inl o, .inl (s9 _ _ eD8), rfl, (val2 d8 o (ho o om).1 (fin.key o om)).symm⟩, ?_⟩
    have il2 := (List.getElem?_eq_some_iff.mp hoi).1
    obtain ⟨acc, ea, hla, b9, t9, a10⟩ := a9.push (.int (ixS st o)) (by rw [List.length_map, List.length_map, List.length_take]; omega)
    refine ⟨acc, ea, hla, .mk ⟨same_put s9 nJ2, ?_⟩⟩
    rw [take_succ hoi, List.map_append, List.map_append]
    exact a10
  intro H9 h
  obtain ⟨s9, a9⟩ := h.out
  rw [List.length_map, List.take_length] at a9
  walk_at "go"
  refine ⟨by simp, fun p H10 np s10 t10 e10 => ?_⟩
  refine q p J J2 H10 ?_ ?_ ?_ ?_ ((S8.trans s9).trans s10) e10 ((a8.same s9).same s10) (a9.same s10)
  · exact (S8.trans s9).free np
  · exact (S3.trans S5).free nJ5
  · exact S8.free nJ2
  · obtain ⟨_, e⟩ := a8.at
    exact ne_of_none e nJ2

theorem ok__law_named (T : Tx K w mg) : FnOk P w K mg base CX0 1 T._law_named.f T._law_named.fd ["_law_line_here"] (spNamed K) := by
  refine T._law_named.F.ok sc__law_named (fun vs H Q E h => ?_) (fun cdv A outer s H vs Q E hr h => ?_)
  · obtain ⟨a, rfl, _⟩ := h
    rfl
  obtain ⟨v, rfl, h⟩ := h
  obtain ⟨l, iv, q⟩ := h.out
  refine ⟨_, (pss_cons (ps_if (pt_cmpR op_eq (pe_ix ix_tupD (pv 0) pe_int (fun _ _ => rfl)) pe_str (nomark _)) (pss_one (ps_ret (pe_ld pa_nil))) pss_nil)
      (pss_cons (ps_if (pt_cmpR op_inTS (pe_ix ix_tupD (pv 0) pe_int (fun _ _ => rfl)) (pe_td (pa_cons pe_str (pa_cons pe_str (pa_cons pe_str pa_nil)))) (by rfl)) (pss_one (ps_ret (pe_ld (pa_cons (pe_ix ix_tupD (pv 0) pe_int (fun _ _ => rfl)) (pa_cons (pe_ix ix_tupD (pv 0) pe_int (fun _ _ => rfl)) pa_nil))))) pss_nil)
      (pss_one (ps_ret (pe_ld (pa_cons (pe_ix ix_tupD (pv 0) (pe_op op_add pe_int (pe_callTy call_int1 (by rfl) T.z_int (by decide +kernel) (pa_cons (pe_cmpR op_eq (pe_ix ix_tupD (pv 0) pe_int (fun _ _ => rfl)) pe_str (nomark _)) pa_nil))) (fun _ _ => rfl)) pa_nil)))))), ?_⟩
  cases l with
  | source k =>
    walk_at "wds"
    exact ⟨[], .nil, by simp, fun p H1 n1 s1 t1 a1 => q p H1 n1 s1 a1⟩
  | _ =>
    walk_at "wds"
    refine ⟨[.str "chain", .str "pair", .str "merge"], .cons (.str _) (.cons (.str _) (.cons (.str _) .nil)), by simp, fun p1 H1 s1 t1 i1 => ?_⟩
    refine ⟨_, ["chain", "pair", "merge"], rfl, i1, ?_⟩
    refine ⟨_, rfl, ?_⟩
    walk_at "w"
    walk_at "go"
    have iv1 := iv.u t1
    first
    | (refine ⟨_, 0, 0, _, iv1, rfl, rfl, rfl, fun u iu => ?_⟩
       obtain rfl := iu.s
       walk_at "go"
       refine ⟨_, 2, 2, _, iv1, rfl, rfl, rfl, fun u iu => ?_⟩
       obtain rfl := iu.i
       refine ⟨[.int _], .cons (.int _) .nil, by simp, fun p H2 n2 s2 t2 a2 => q p H2 (s1.free n2) (s1.trans s2) a2⟩)
    | (refine ⟨_, 0, 0, _, iv1, rfl, rfl, rfl, fun u iu => ?_⟩
       obtain rfl := iu.s
       walk_at "go"
       refine ⟨_, 3, 3, _, iv1, rfl, rfl, rfl, fun u iu => ?_⟩
       obtain rfl := iu.i
       refine ⟨[.int _], .cons (.int _) .nil, by simp, fun p H2 n2 s2 t2 a2 => q p H2 (s1.free n2) (s1.trans s2) a2⟩)
    | (refine ⟨_, 1, 1, _, iv1, rfl, rfl, rfl, fun u iu => ?_⟩
       obtain rfl := iu.i
       walk_at "go"
       refine ⟨_, 2, 2, _, iv1, rfl, rfl, rfl, fun u iu => ?_⟩
       obtain rfl := iu.i
       refine ⟨[.int _, .int _], .cons (.int _) (.cons (.int _) .nil), by simp, fun p H2 n2 s2 t2 a2 => q p H2 (s1.free n2) (s1.trans s2) a2⟩)

def spFuses (K : PySem.W.Frag) : Sp := fun vs H Q _ => ∃ (v v2 : V), vs = [v, v2] ∧ Hold (∃ (l a : Ln), Im K H v l.d ∧ Im K H v2 a.d ∧ sameJ a l = true ∧ Q (.bl (oneLn a l)) H)
theorem ok__law_fuses (T : Tx K w mg) : FnOk P w K mg base CX0 1 T._law_fuses.f T._law_fuses.fd ["_law_line_here", "_law_inner"] (spFuses K) := by
  refine T._law_fuses.F.ok sc__law_fuses (fun vs H Q E h => ?_) (fun cdv A outer s H vs Q E hr h => ?_)
  · obtain ⟨a, b, rfl, _⟩ := h
    rfl
  obtain ⟨v, v2, rfl, h⟩ := h
  obtain ⟨l, a, iw, iv, ho, q⟩ := h.out
  refine ⟨_, (pss_cons (ps_if (pt_cmpR op_eq (pe_ix ix_tupD (pv 0) pe_int (fun _ _ => rfl)) pe_str (nomark _)) (pss_one (ps_ret pe_bl)) pss_nil)
      (pss_cons (ps_if (pt_cmpR op_eq (pe_ix ix_tupD (pv 0) pe_int (fun _ _ => rfl)) pe_str (nomark _)) (pss_one (ps_ret (pe_cmpR op_lt (pe_op op_add (pe_ix ix_tupD (pv 0) pe_int (fun _ _ => rfl)) (pe_ix ix_tupD (pv 1) pe_int (fun _ _ => rfl))) pe_int (nomark _)))) pss_nil)
      (pss_one (ps_ret (pe_cmpR op_lt (pe_op op_add (pe_callB call_lenT (by rfl) T.z_len PySem.boot_len (pa_cons (pe_ix ix_tupD (pv 0) pe_int (fun _ _ => rfl)) pa_nil)) (pe_callB call_lenT (by rfl) T.z_len PySem.boot_len (pa_cons (pe_ix ix_tupD (pv 1) pe_int (fun _ _ => rfl)) pa_nil))) pe_int (nomark _)))))), ?_⟩
  walk_at "go"
  cases l with
  | take m x =>
    cases a with
    | take n y =>
      refine ⟨_, 0, 0, _, iw, rfl, rfl, rfl, fun u iu => ?_⟩
      obtain rfl := iu.s
      walk_at "go"
      exact q
    | _ => cases ho
  | skip m x =>
    cases a with
    | skip n y =>
      refine ⟨_, 0, 0, _, iw, rfl, rfl, rfl, fun u iu => ?_⟩
      obtain rfl := iu.s
      walk_at "go"
      refine ⟨_, 0, 0, _, iw, rfl, rfl, rfl, fun u iu => ?_⟩
      obtain rfl := iu.s
      walk_at "go"
      refine ⟨_, 1, 1, _, iw, rfl, rfl, rfl, fun u iu => ?_⟩
      obtain rfl := iu.i
      walk_at "go"
      refine ⟨_, 1, 1, _, iv, rfl, rfl, rfl, fun u iu => ?_⟩
      obtain rfl := iu.i
      walk_at "go"
      have e : oneLn (.skip n y) (.skip m x) = decide (m + n < 10000) := by
        show decide (n + m ≤ 9999) = _
        by_cases c : n + m ≤ 9999
        · rw [decide_eq_true c, decide_eq_true (by omega)]
        · rw [decide_eq_false c, decide_eq_false (by omega)]
      rw [e] at q
      exact q
    | _ => cases ho
  | map es x =>
    cases a with
    | map ds y =>
      refine ⟨_, 0, 0, _, iw, rfl, rfl, rfl, fun u iu => ?_⟩
      obtain rfl := iu.s
      walk_at "go"
      refine ⟨_, 0, 0, _, iw, rfl, rfl, rfl, fun u iu => ?_⟩
      obtain rfl := iu.s
      walk_at "go"
      refine ⟨_, 1, 1, _, iw, rfl, rfl, rfl, fun u iu => ?_⟩
      walk_at "go"
      refine ⟨_, _, rfl, iu, ?_⟩
      rw [List.length_map]
      walk_at "go"
      refine ⟨_, 1, 1, _, iv, rfl, rfl, rfl, fun u iu => ?_⟩
      walk_at "go"
      refine ⟨_, _, rfl, iu, ?_⟩
      rw [List.length_map]
      walk_at "go"
      have e : oneLn (.map ds y) (.map es x) = decide ((es.length : Int) + ds.length < 65) := by
        show decide ((ds.length : Int) + es.length ≤ 64) = _
        by_cases c : (ds.length : Int) + es.length ≤ 64
        · rw [decide_eq_true c, decide_eq_true (by omega)]
        · rw [decide_eq_false c, decide_eq_false (by omega)]
      rw [e] at q
      exact q
    | _ => cases ho
  | keep es x =>
    cases a with
    | keep ds y =>
      refine ⟨_, 0, 0, _, iw, rfl, rfl, rfl, fun u iu => ?_⟩
      obtain rfl := iu.s
      walk_at "go"
      refine ⟨_, 0, 0, _, iw, rfl, rfl, rfl, fun u iu => ?_⟩
      obtain rfl := iu.s
      walk_at "go"
      refine ⟨_, 1, 1, _, iw, rfl, rfl, rfl, fun u iu => ?_⟩
      walk_at "go"
      refine ⟨_, _, rfl, iu, ?_⟩
      rw [List.length_map]
      walk_at "go"
      refine ⟨_, 1, 1, _, iv, rfl, rfl, rfl, fun u iu => ?_⟩
      walk_at "go"
      refine ⟨_, _, rfl, iu, ?_⟩
      rw [List.length_map]
      walk_at "go"
      have e : oneLn (.keep ds y) (.keep es x) = decide ((es.length : Int) + ds.length < 65) := by
        show decide ((ds.length : Int) + es.length ≤ 64) = _
        by_cases c : (ds.length : Int) + es.length ≤ 64
        · rw [decide_eq_true c, decide_eq_true (by omega)]
        · rw [decide_eq_false c, decide_eq_false (by omega)]
      rw [e] at q
      exact q
    | _ => cases ho
  | whil es x =>
    cases a with
    | whil ds y =>
      refine ⟨_, 0, 0, _, iw, rfl, rfl, rfl, fun u iu => ?_⟩
      obtain rfl := iu.s
      walk_at "go"
      refine ⟨_, 0, 0, _, iw, rfl, rfl, rfl, fun u iu => ?_⟩
      obtain rfl := iu.s
      walk_at "go"
      refine ⟨_, 1, 1, _, iw, rfl, rfl, rfl, fun u iu => ?_⟩
      walk_at "go"
      refine ⟨_, _, rfl, iu, ?_⟩
      rw [List.length_map]
      walk_at "go"
      refine ⟨_, 1, 1, _, iv, rfl, rfl, rfl, fun u iu => ?_⟩
      walk_at "go"
      refine ⟨_, _, rfl, iu, ?_⟩
      rw [List.length_map]
      walk_at "go"
      have e : oneLn (.whil ds y) (.whil es x) = decide ((es.length : Int) + ds.length < 65) := by
        show decide ((ds.length : Int) + es.length ≤ 64) = _
        by_cases c : (ds.length : Int) + es.length ≤ 64
        · rw [decide_eq_true c, decide_eq_true (by omega)]
        · rw [decide_eq_false c, decide_eq_false (by omega)]
      rw [e] at q
      exact q
    | _ => cases ho
  | _ => cases a <;> cases ho

def spIsStraight (K : PySem.W.Frag) : Sp := fun vs H Q _ => ∃ (v v2 : V), vs = [v, v2] ∧ Hold (∃ (lw po : Addr) (ls : List Ln) (outs : List Int), v = .ref lw ∧ v2 = .ref po ∧ Acc K H lw (ls.map Ln.d) ∧ Acc K H po (outs.map PyData.int) ∧ ls.length ≤ 24 ∧ outs.length ≤ 1000 ∧
  (∀ (i : Nat) l a, ls[i]? = some l → a ∈ l.names → 0 ≤ a ∧ a < (i : Int)) ∧ ∀ H', Same H H' → Q (.bl (straightB ls outs)) H')
theorem ok__law_is_straight (T : Tx K w mg) : FnOk P w K mg base CX0 2 T._law_is_straight.f T._law_is_straight.fd ["_law_weave_here", "_law_outs_here"] (spIsStraight K) := by
  refine T._law_is_straight.F.ok sc__law_is_straight (fun vs H Q E h => ?_) (fun cdv A outer s H vs Q E hr h => ?_)
  · obtain ⟨a, b, rfl, _⟩ := h
    rfl
  obtain ⟨v, v2, rfl, h⟩ := h
  obtain ⟨lw, po, ls, outs, rfl, rfl, aw, ao, l24, lo, old, q⟩ := h.out
  obtain ⟨xs, ew, iw⟩ := id aw
  have lx : xs.length = ls.length := by have := iw.len; rw [List.length_map] at this; exact this
  refine ⟨_, (pss_cons (ps_setLc (i := 2) (own := [("_law_at", 5)]) (g := gName 5) (tt := tYes) rfl sc__law_is_straight.nd rfl rfl (sw_true rfl rfl rfl (by decide +kernel)) (pi_range1 (by rfl) T.z_range (pa_cons (pe_callB call_lenA (by rfl) T.z_len PySem.boot_len (pa_cons (pv 0) pa_nil)) pa_nil)) (blkOk_by (own := [("_law_at", 5)]) (N := ["_law_weave_here", "_law_outs_here", "_law_uses", "_law_line_here", "_law_other", "_law_at", "_law_inner", "_law_out"]) (sc := defScope s__law_is_straight) (by decide +kernel)) (fun _ _ _ _ _ => pg_name (i := 5) sc__law_is_straight.nd rfl (by first | exact Or.inl rfl | exact Or.inr rfl)) (fun _ _ _ _ _ => pts_nil) (fun _ _ _ _ _ => (pe_callB (show CallR _ _ (rLenA K) from call_lenA) (by rfl) T.z_len PySem.boot_len (pa_cons (pe_lc (own := [("_law_out", 7)]) (g := gName 7) rfl sc__law_is_straight.nd (pi_listK (K := K) rfl (pv 1)) (blkOk_by (own := [("_law_out", 7)]) (N := ["_law_weave_here", "_law_outs_here", "_law_uses", "_law_line_here", "_law_other", "_law_at", "_law_inner", "_law_out"]) (by rfl)) (fun _ _ _ _ _ => pg_name (i := 7) sc__law_is_straight.nd rfl (by first | exact Or.inl rfl | exact Or.inr rfl)) (fun _ _ _ _ _ => pts_one (pt_cmpR op_eq (pv 7) (pv 5) (nomark _))) (fun _ _ _ _ _ => (pv 7))) pa_nil))))
      (pss_cons (ps_for PassesOwn.never rfl (pi_list (pv 0)) (pg_name (i := 3) sc__law_is_straight.nd rfl (by first | exact Or.inl rfl | exact Or.inr rfl)) (pss_one (ps_for PassesOwn.never rfl (pi_list (pe_call (ok__law_named T) hr (by rfl) T._law_named.g T._law_named.F.kp T._law_named.b .nil pass0 (pa_cons (pv 3) pa_nil))) (pg_name (i := 4) sc__law_is_straight.nd rfl (by first | exact Or.inl rfl | exact Or.inr rfl)) (pss_one (ps_asg (pe_op op_add (pe_ix ix_listA (pv 2) (pv 4) (fun _ _ => rfl)) pe_int) (pg_sub (pv 2) (pv 4) set_listN))))))
      (pss_cons (ps_for PassesOwn.never rfl (pi_list (pv 0)) (pg_name (i := 3) sc__law_is_straight.nd rfl (by first | exact Or.inl rfl | exact Or.inr rfl)) (pss_one (ps_if (pt_cmpR op_inTS (pe_ix ix_tupD (pv 3) pe_int (fun _ _ => rfl)) (pe_td (pa_cons pe_str (pa_cons pe_str (pa_cons pe_str (pa_cons pe_str (pa_cons pe_str pa_nil)))))) (by rfl)) (pss_cons (ps_set (i := 6) sc__law_is_straight.nd rfl (by first | exact Or.inl rfl | exact Or.inr rfl) (pe_ix ix_listA (pv 0) (pe_ix ix_tupD (pv 3) pe_int (fun _ _ => rfl)) (fun _ _ => rfl)))
      (pss_one (ps_if (PW.pt (pw_and (pt_cmpR op_eq (pe_ix ix_tupD (pv 6) pe_int (fun _ _ => rfl)) (pe_ix ix_tupD (pv 3) pe_int (fun _ _ => rfl)) (nomark _)) (pw_and (pt_cmpR op_eq (pe_ix ix_listA (pv 2) (pe_ix ix_tupD (pv 3) pe_int (fun _ _ => rfl)) (fun _ _ => rfl)) pe_int (nomark _)) (pw_and1 (pt_val (pe_call (ok__law_fuses T) hr (by rfl) T._law_fuses.g T._law_fuses.F.kp T._law_fuses.b .nil pass0 (pa_cons (pv 3) (pa_cons (pv 6) pa_nil)))))))) (pss_one (ps_ret pe_bl)) pss_nil))) pss_nil)))
      (pss_one (ps_ret (pe_cmpR op_notInI pe_int (pv 2) (by rfl))))))), ?_⟩
  walk_at "go"
  refine ⟨_, _, rfl, aw, ?_⟩
  rw [List.length_map]
  walk_at "go"
  intro U nU
  refine loop_rng (lo := 0) (n := ls.length) (fun i H2 => Hold (Same H H2 ∧ Acc K H2 U (((List.range i).map fun (i : Nat) => (outs.count (i : Int) : Int)).map PyData.int)))
    (.mk ⟨same_new nU, acc_nil upd_same⟩) ?_ ?_
  · intro k H19 hk h
    obtain ⟨s19, aL⟩ := h.out
    walk_at "go"
    refine ⟨⟨_, SqL.of (acc_raw (ao.same s19))⟩, fun J nJ => ?_⟩
    refine loop_list (K := K) (a := po) (xs := outs.map V.int) (fun m H20 => Hold (Same H19 H20 ∧ Acc K H20 J (((outs.take m).filter fun z => z == (k : Int)).map PyData.int)))
      (.mk ⟨same_new nJ, acc_nil upd_same⟩) (fun m H20 _ h => SqL.of (acc_raw ((ao.same s19).same h.out.1))) ?_ ?_
    · intro m x H20 hm h
      obtain ⟨s20, aJ⟩ := h.out
      rw [List.getElem?_map] at hm
      obtain ⟨z, hz, rfl⟩ := Option.map_eq_some_iff.mp hm
      walk_at "go"
      have hs : (((outs.take m).filter fun z => z == (k : Int)).map PyData.int).length < 1000000 := by
        rw [List.length_map]
        have h1 := List.length_filter_le (fun z => z == (k : Int)) (outs.take m)
        rw [List.length_take] at h1
        omega
      by_cases c : z = 0 + (k : Int)
      · refine ite_t (dv_t c) ?_
        walk_at "go"
        obtain ⟨acc, ea, hla, b4, t4, a4⟩ := aJ.push (.int z) hs
        refine ⟨acc, ea, hla, .mk ⟨same_put s20 nJ, ?_⟩⟩
        rw [take_succ hz, List.filter_append, List.map_append, List.filter_cons_of_pos (by rw [c]; simp)]
        exact a4
      · refine ite_f (dv_f c) ?_
        refine .mk ⟨s20, ?_⟩
        rw [take_succ hz, List.filter_append, List.filter_cons_of_neg (by simp; omega), List.filter_nil, List.append_nil]
        exact aJ
    · intro H20 h
      obtain ⟨s20, aJ⟩ := h.out
      rw [List.length_map, List.take_length] at aJ
      walk_at "go"
      refine ⟨J, _, rfl, aJ, ?_⟩
      obtain ⟨acc, ea, hla, b4, t4, a4⟩ := (aL.same s20).push (.int ((((outs.filter fun z => z == (k : Int)).map PyData.int).length : Nat) : Int)) (by rw [List.length_map, List.length_map, List.length_range]; omega)
      refine ⟨acc, ea, hla, .mk ⟨same_put (s19.trans s20) nU, ?_⟩⟩
      rw [List.range_succ, List.map_append, List.map_append]
      have ec : (((outs.filter fun z => z == (k : Int)).map PyData.int).length : Int) = (outs.count (k : Int) : Int) := by
        rw [List.length_map]
        simp [List.count, List.countP_eq_length_filter]
      have e2 : ([k].map fun (k : Nat) => (outs.count (k : Int) : Int)).map PyData.int = [PyData.int ((((outs.filter fun z => z == (k : Int)).map PyData.int).length : Nat) : Int)] := by
        rw [ec]
        rfl
      rw [e2]
      exact a4
  intro H1 h
  obtain ⟨s1, a1⟩ := h.out
  generalize hu0 : ((List.range ls.length).map fun (i : Nat) => (outs.count (i : Int) : Int)) = u0 at a1
  have lu0 : u0.length = ls.length := by rw [← hu0, List.length_map, List.length_range]
  have eu : usesL ls outs = ls.foldl useL u0 := by rw [← hu0]; rfl
  walk_at "go"
  have e1 := s1 _ _ ew
  refine ⟨⟨_, SqL.of e1⟩, for_list (K := K) (a := lw) (xs := xs) (fun i σ H2 => Hold (∃ (o3 o4 : Option V), σ = [some (.ref lw), some (.ref po), some (.ref U), o3, o4, none, none, none] ∧ Same H H2 ∧ Acc K H2 U (((ls.take i).foldl useL u0).map PyData.int)))
    (.mk ⟨none, none, rfl, s1, a1⟩) (fun i σ H2 _ h => by obtain ⟨_, _, _, s, _⟩ := h.out; exact SqL.of (s _ _ ew)) ?_ ?_⟩
  · intro i y σ H2 hi h
    obtain ⟨o3, o4, rfl, s2, a2⟩ := h.out
    obtain ⟨d, hd, iy⟩ := iw.get hi
    rw [List.getElem?_map] at hd
    obtain ⟨l, hl, rfl⟩ := Option.map_eq_some_iff.mp hd
    have hil := (List.getElem?_eq_some_iff.mp hl).1
    have ln : ((ls.take i).foldl useL u0).length = ls.length := by rw [usesL_len, lu0]
    have et : (ls.take (i + 1)).foldl useL u0 = useL ((ls.take i).foldl useL u0) l := by rw [take_succ hl, List.foldl_append]; rfl
    generalize (ls.take i).foldl useL u0 = u1 at a2 ln et
    walk_at "go"
    refine .mk ⟨l, iy.u (same_tk s2), fun pn H3 n3 s3 an => ?_⟩
    have en := acc_raw an
    have S3 := s2.trans s3
    have Upn : U ≠ pn := by
      obtain ⟨_, e⟩ := a2.at
      exact ne_of_none e n3
    walk_at "go"
    refine ⟨⟨_, SqL.of en⟩, for_list (K := K) (a := pn) (xs := l.names.map V.int) (fun j σ H4 => Hold (∃ (o4 : Option V), σ = [some (.ref lw), some (.ref po), some (.ref U), some y, o4, none, none, none] ∧ Same H H4 ∧ H4 pn = some (.lst (l.names.map V.int)) ∧ Acc K H4 U (((l.names.take j).foldl useS u1).map PyData.int)))
      (.mk ⟨_, rfl, S3, en, a2.same s3⟩) (fun j σ H4 _ h => by obtain ⟨_, _, _, e, _⟩ := h.out; exact SqL.of e) ?_ ?_⟩
    · intro j z σ H4 hj h
      obtain ⟨o4, rfl, s4, en4, a4⟩ := h.out
      rw [List.getElem?_map] at hj
      obtain ⟨a, ha, rfl⟩ := Option.map_eq_some_iff.mp hj
      have hb := old i l a hl (List.mem_of_getElem? ha)
      have l2 : ((l.names.take j).foldl useS u1).length = ls.length := by rw [useL_len, ln]
      have e2 : (l.names.take (j + 1)).foldl useS u1 = useS ((l.names.take j).foldl useS u1) a := by rw [take_succ ha, List.foldl_append]; rfl
      rw [e2]
      generalize (l.names.take j).foldl useS u1 = u2 at a4 l2
      have hat : (u2.map PyData.int)[a.toNat]? = some (.int (u2.getD a.toNat 0)) := by
        rw [List.getElem?_map, List.getD_eq_getElem?_getD, List.getElem?_eq_getElem (by omega)]; rfl
      walk_at "go"
      refine ⟨_, _, _, a.toNat, _, rfl, a4, rfl, by omega, hat, fun v iv => ?_⟩
      obtain rfl := iv.i
      walk_at "go"
      refine ⟨U, _, _, a, a.toNat, rfl, rfl, acc_raw a4, ?_, rfl, fun H5 b5 t5 e5 => ?_⟩
      · rw [List.length_map]; exact ixN_int (by omega) (by omega)
      refine .mk ⟨_, rfl, fun b u e => b5 _ _ (ne_of_none e nU) (s4 _ _ e), b5 _ _ Upn.symm en4, ?_⟩
      have es : (u2.map V.int).set a.toNat (.int (u2.getD a.toNat 0 + 1)) = (useS u2 a).map V.int := List.map_set.symm
      rw [es] at e5
      exact raw_acc e5
    · intro σ H4 h
      obtain ⟨o4, rfl, s4, en4, a4⟩ := h.out
      rw [List.length_map, List.take_length] at a4
      refine .mk ⟨_, _, rfl, s4, ?_⟩
      rw [et]
      exact a4
  intro σ H2 h
  obtain ⟨o3, o4, rfl, s2, a2⟩ := h.out
  rw [lx, List.take_length, ← eu] at a2
  have lu : (usesL ls outs).length = ls.length := by rw [eu, usesL_len, lu0]
  clear a1 hu0 lu0 eu
  walk_at "go"
  refine ⟨⟨_, SqL.of (s2 _ _ ew)⟩, for_list (K := K) (a := lw) (xs := xs) (fun i σ H3 => Hold (∃ (o3 o4 o6 : Option V), σ = [some (.ref lw), some (.ref po), some (.ref U), o3, o4, none, o6, none] ∧ Same H2 H3 ∧ ((ls.take i).all fun l => !looseL ls (usesL ls outs) l) = true))
    (.mk ⟨_, _, none, rfl, Same.refl _, rfl⟩) (fun i σ H3 _ h => by obtain ⟨_, _, _, _, s, _⟩ := h.out; exact SqL.of (s _ _ (s2 _ _ ew))) ?_ ?_⟩
  · intro i y σ H3 hi h
    obtain ⟨p3, p4, p6, rfl, s3, ok⟩ := h.out
    obtain ⟨d, hd, iy⟩ := iw.get hi
    rw [List.getElem?_map] at hd
    obtain ⟨l, hl, rfl⟩ := Option.map_eq_some_iff.mp hd
    have hil := (List.getElem?_eq_some_iff.mp hl).1
    have S3 := s2.trans s3
    have iv3 := iy.u (same_tk S3)
    have nxt : looseL ls (usesL ls outs) l = false → ((ls.take (i + 1)).all fun l => !looseL ls (usesL ls outs) l) = true := fun h => by
      rw [take_succ hl, List.all_append, ok, List.all_cons, List.all_nil, h]
      rfl
    have bad : looseL ls (usesL ls outs) l = true → straightB ls outs = false := fun h => by
      have : (ls.all fun l => !looseL ls (usesL ls outs) l) = false := by
        rw [List.all_eq_false]
        exact ⟨l, List.mem_of_getElem? hl, by rw [h]; decide⟩
      unfold straightB
      rw [this]
      rfl
    have a2' := a2.same s3
    generalize usesL ls outs = us at a2' lu nxt bad
    walk_at "go"
    cases l with
    | map ds a =>
      have hb := old i _ a hl (by simp [Ln.names])
      obtain ⟨A, hA⟩ : ∃ A, ls[a.toNat]? = some A := ⟨_, List.getElem?_eq_getElem (by omega)⟩
      have hA2 : ls.getD a.toNat (.source 0) = A := by rw [List.getD_eq_getElem?_getD, hA]; rfl
      have lo : looseL ls us (.map ds a) = (sameJ A (.map ds a) && (decide (us.getD a.toNat 0 = 1) && oneLn A (.map ds a))) := by
        show (true && (sameJ (ls.getD a.toNat (.source 0)) _ && (_ && oneLn (ls.getD a.toNat (.source 0)) _))) = _
        rw [hA2]
        rfl
      walk_at "wds"
      refine ⟨[.str "map", .str "keep", .str "while", .str "take", .str "skip"], .cons (.str _) (.cons (.str _) (.cons (.str _) (.cons (.str _) (.cons (.str _) .nil)))), by simp, fun p1 H4 s4 t4 i4 => ?_⟩
      refine ⟨_, ["map", "keep", "while", "take", "skip"], rfl, i4, ?_⟩
      refine ⟨_, rfl, ?_⟩
      walk_at "w"
      walk_at "go"
      have iv4 := iv3.u t4
      have S4 := S3.trans s4
      have aw4 := (aw.same S3).same s4
      have aU4 := a2'.same s4
      have hat : (us.map PyData.int)[a.toNat]? = some (.int (us.getD a.toNat 0)) := by
        rw [List.getElem?_map, List.getD_eq_getElem?_getD, List.getElem?_eq_getElem (by omega)]; rfl
      refine ⟨_, 2, 2, _, iv4, rfl, rfl, rfl, fun u iu => ?_⟩
      obtain rfl := iu.i
      refine ⟨_, _, _, a.toNat, _, rfl, aw4, rfl, by omega, by rw [List.getElem?_map, hA]; rfl, fun vi ii => ?_⟩
      walk_at "go"
      cases A with
      | map es b =>
        refine ⟨_, 0, 0, _, ii, rfl, rfl, rfl, fun u iu => ?_⟩
        obtain rfl := iu.s
        walk_at "go"
        refine ⟨_, 0, 0, _, iv4, rfl, rfl, rfl, fun u iu => ?_⟩
        obtain rfl := iu.s
        walk_at "go"
        refine ⟨_, 2, 2, _, iv4, rfl, rfl, rfl, fun u iu => ?_⟩
        obtain rfl := iu.i
        refine ⟨_, _, _, a.toNat, _, rfl, aU4, rfl, by omega, hat, fun v iv => ?_⟩
        obtain rfl := iv.i
        walk_at "go"
        by_cases c : us.getD a.toNat 0 = 1
        · refine ite_t (dv_t c) ?_
          walk_at "go"
          refine .mk ⟨.map ds a, .map es b, iv4, ii, rfl, ?_⟩
          walk_at "go"
          by_cases o : oneLn (.map es b) (.map ds a) = true
          · refine ite_t o ?_
            walk_at "go"
            have e := bad (by rw [lo, decide_eq_true c, o]; rfl)
            rw [e] at q
            exact q _ S4
          · refine ite_f (Bool.eq_false_iff.mpr o) ?_
            walk_at "go"
            exact .mk ⟨_, _, _, rfl, s3.trans s4, nxt (by rw [lo, Bool.eq_false_iff.mpr o, Bool.and_false, Bool.and_false])⟩
        · refine ite_f (dv_f c) ?_
          walk_at "go"
          exact .mk ⟨_, _, _, rfl, s3.trans s4, nxt (by rw [lo, decide_eq_false c, Bool.false_and, Bool.and_false])⟩
      | _ =>
        refine ⟨_, 0, 0, _, ii, rfl, rfl, rfl, fun u iu => ?_⟩
        obtain rfl := iu.s
        walk_at "go"
        refine ⟨_, 0, 0, _, iv4, rfl, rfl, rfl, fun u iu => ?_⟩
        obtain rfl := iu.s
        walk_at "go"
        exact .mk ⟨_, _, _, rfl, s3.trans s4, nxt (by rw [lo]; rfl)⟩
    | keep ts a =>
      have hb := old i _ a hl (by simp [Ln.names])
      obtain ⟨A, hA⟩ : ∃ A, ls[a.toNat]? = some A := ⟨_, List.getElem?_eq_getElem (by omega)⟩
      have hA2 : ls.getD a.toNat (.source 0) = A := by rw [List.getD_eq_getElem?_getD, hA]; rfl
      have lo : looseL ls us (.keep ts a) = (sameJ A (.keep ts a) && (decide (us.getD a.toNat 0 = 1) && oneLn A (.keep ts a))) := by
        show (true && (sameJ (ls.getD a.toNat (.source 0)) _ && (_ && oneLn (ls.getD a.toNat (.source 0)) _))) = _
        rw [hA2]
        rfl
      walk_at "wds"
      refine ⟨[.str "map", .str "keep", .str "while", .str "take", .str "skip"], .cons (.str _) (.cons (.str _) (.cons (.str _) (.cons (.str _) (.cons (.str _) .nil)))), by simp, fun p1 H4 s4 t4 i4 => ?_⟩
      refine ⟨_, ["map", "keep", "while", "take", "skip"], rfl, i4, ?_⟩
      refine ⟨_, rfl, ?_⟩
      walk_at "w"
      walk_at "go"
      have iv4 := iv3.u t4
      have S4 := S3.trans s4
      have aw4 := (aw.same S3).same s4
      have aU4 := a2'.same s4
      have hat : (us.map PyData.int)[a.toNat]? = some (.int (us.getD a.toNat 0)) := by
        rw [List.getElem?_map, List.getD_eq_getElem?_getD, List.getElem?_eq_getElem (by omega)]; rfl
      refine ⟨_, 2, 2, _, iv4, rfl, rfl, rfl, fun u iu => ?_⟩
      obtain rfl := iu.i
      refine ⟨_, _, _, a.toNat, _, rfl, aw4, rfl, by omega, by rw [List.getElem?_map, hA]; rfl, fun vi ii => ?_⟩
      walk_at "go"
      cases A with
      | keep es b =>
        refine ⟨_, 0, 0, _, ii, rfl, rfl, rfl, fun u iu => ?_⟩
        obtain rfl := iu.s
        walk_at "go"
        refine ⟨_, 0, 0, _, iv4, rfl, rfl, rfl, fun u iu => ?_⟩
        obtain rfl := iu.s
        walk_at "go"
        refine ⟨_, 2, 2, _, iv4, rfl, rfl, rfl, fun u iu => ?_⟩
        obtain rfl := iu.i
        refine ⟨_, _, _, a.toNat, _, rfl, aU4, rfl, by omega, hat, fun v iv => ?_⟩
        obtain rfl := iv.i
        walk_at "go"
        by_cases c : us.getD a.toNat 0 = 1
        · refine ite_t (dv_t c) ?_
          walk_at "go"
          refine .mk ⟨.keep ts a, .keep es b, iv4, ii, rfl, ?_⟩
          walk_at "go"
          by_cases o : oneLn (.keep es b) (.keep ts a) = true
          · refine ite_t o ?_
            walk_at "go"
            have e := bad (by rw [lo, decide_eq_true c, o]; rfl)
            rw [e] at q
            exact q _ S4
          · refine ite_f (Bool.eq_false_iff.mpr o) ?_
            walk_at "go"
            exact .mk ⟨_, _, _, rfl, s3.trans s4, nxt (by rw [lo, Bool.eq_false_iff.mpr o, Bool.and_false, Bool.and_false])⟩
        · refine ite_f (dv_f c) ?_
          walk_at "go"
          exact .mk ⟨_, _, _, rfl, s3.trans s4, nxt (by rw [lo, decide_eq_false c, Bool.false_and, Bool.and_false])⟩
      | _ =>
        refine ⟨_, 0, 0, _, ii, rfl, rfl, rfl, fun u iu => ?_⟩
        obtain rfl := iu.s
        walk_at "go"
        refine ⟨_, 0, 0, _, iv4, rfl, rfl, rfl, fun u iu => ?_⟩
        obtain rfl := iu.s
        walk_at "go"
        exact .mk ⟨_, _, _, rfl, s3.trans s4, nxt (by rw [lo]; rfl)⟩
    | whil ts a =>
      have hb := old i _ a hl (by simp [Ln.names])
      obtain ⟨A, hA⟩ : ∃ A, ls[a.toNat]? = some A := ⟨_, List.getElem?_eq_getElem (by omega)⟩
      have hA2 : ls.getD a.toNat (.source 0) = A := by rw [List.getD_eq_getElem?_getD, hA]; rfl
      have lo : looseL ls us (.whil ts a) = (sameJ A (.whil ts a) && (decide (us.getD a.toNat 0 = 1) && oneLn A (.whil ts a))) := by
        show (true && (sameJ (ls.getD a.toNat (.source 0)) _ && (_ && oneLn (ls.getD a.toNat (.source 0)) _))) = _
        rw [hA2]
        rfl
      walk_at "wds"
      refine ⟨[.str "map", .str "keep", .str "while", .str "take", .str "skip"], .cons (.str _) (.cons (.str _) (.cons (.str _) (.cons (.str _) (.cons (.str _) .nil)))), by simp, fun p1 H4 s4 t4 i4 => ?_⟩
      refine ⟨_, ["map", "keep", "while", "take", "skip"], rfl, i4, ?_⟩
      refine ⟨_, rfl, ?_⟩
      walk_at "w"
      walk_at "go"
      have iv4 := iv3.u t4
      have S4 := S3.trans s4
      have aw4 := (aw.same S3).same s4
      have aU4 := a2'.same s4
      have hat : (us.map PyData.int)[a.toNat]? = some (.int (us.getD a.toNat 0)) := by
        rw [List.getElem?_map, List.getD_eq_getElem?_getD, List.getElem?_eq_getElem (by omega)]; rfl
      refine ⟨_, 2, 2, _, iv4, rfl, rfl, rfl, fun u iu => ?_⟩
      obtain rfl := iu.i
      refine ⟨_, _, _, a.toNat, _, rfl, aw4, rfl, by omega, by rw [List.getElem?_map, hA]; rfl, fun vi ii => ?_⟩
      walk_at "go"
      cases A with
      | whil es b =>
        refine ⟨_, 0, 0, _, ii, rfl, rfl, rfl, fun u iu => ?_⟩
        obtain rfl := iu.s
        walk_at "go"
        refine ⟨_, 0, 0, _, iv4, rfl, rfl, rfl, fun u iu => ?_⟩
        obtain rfl := iu.s
        walk_at "go"
        refine ⟨_, 2, 2, _, iv4, rfl, rfl, rfl, fun u iu => ?_⟩
        obtain rfl := iu.i
        refine ⟨_, _, _, a.toNat, _, rfl, aU4, rfl, by omega, hat, fun v iv => ?_⟩
        obtain rfl := iv.i
        walk_at "go"
        by_cases c : us.getD a.toNat 0 = 1
        · refine ite_t (dv_t c) ?_
          walk_at "go"
          refine .mk ⟨.whil ts a, .whil es b, iv4, ii, rfl, ?_⟩
          walk_at "go"
          by_cases o : oneLn (.whil es b) (.whil ts a) = true
          · refine ite_t o ?_
            walk_at "go"
            have e := bad (by rw [lo, decide_eq_true c, o]; rfl)
            rw [e] at q
            exact q _ S4
          · refine ite_f (Bool.eq_false_iff.mpr o) ?_
            walk_at "go"
            exact .mk ⟨_, _, _, rfl, s3.trans s4, nxt (by rw [lo, Bool.eq_false_iff.mpr o, Bool.and_false, Bool.and_false])⟩
        · refine ite_f (dv_f c) ?_
          walk_at "go"
          exact .mk ⟨_, _, _, rfl, s3.trans s4, nxt (by rw [lo, decide_eq_false c, Bool.false_and, Bool.and_false])⟩
      | _ =>
        refine ⟨_, 0, 0, _, ii, rfl, rfl, rfl, fun u iu => ?_⟩
        obtain rfl := iu.s
        walk_at "go"
        refine ⟨_, 0, 0, _, iv4, rfl, rfl, rfl, fun u iu => ?_⟩
        obtain rfl := iu.s
        walk_at "go"
        exact .mk ⟨_, _, _, rfl, s3.trans s4, nxt (by rw [lo]; rfl)⟩
    | take n a =>
      have hb := old i _ a hl (by simp [Ln.names])
      obtain ⟨A, hA⟩ : ∃ A, ls[a.toNat]? = some A := ⟨_, List.getElem?_eq_getElem (by omega)⟩
      have hA2 : ls.getD a.toNat (.source 0) = A := by rw [List.getD_eq_getElem?_getD, hA]; rfl
      have lo : looseL ls us (.take n a) = (sameJ A (.take n a) && (decide (us.getD a.toNat 0 = 1) && oneLn A (.take n a))) := by
        show (true && (sameJ (ls.getD a.toNat (.source 0)) _ && (_ && oneLn (ls.getD a.toNat (.source 0)) _))) = _
        rw [hA2]
        rfl
      walk_at "wds"
      refine ⟨[.str "map", .str "keep", .str "while", .str "take", .str "skip"], .cons (.str _) (.cons (.str _) (.cons (.str _) (.cons (.str _) (.cons (.str _) .nil)))), by simp, fun p1 H4 s4 t4 i4 => ?_⟩
      refine ⟨_, ["map", "keep", "while", "take", "skip"], rfl, i4, ?_⟩
      refine ⟨_, rfl, ?_⟩
      walk_at "w"
      walk_at "go"
      have iv4 := iv3.u t4
      have S4 := S3.trans s4
      have aw4 := (aw.same S3).same s4
      have aU4 := a2'.same s4
      have hat : (us.map PyData.int)[a.toNat]? = some (.int (us.getD a.toNat 0)) := by
        rw [List.getElem?_map, List.getD_eq_getElem?_getD, List.getElem?_eq_getElem (by omega)]; rfl
      refine ⟨_, 2, 2, _, iv4, rfl, rfl, rfl, fun u iu => ?_⟩
      obtain rfl := iu.i
      refine ⟨_, _, _, a.toNat, _, rfl, aw4, rfl, by omega, by rw [List.getElem?_map, hA]; rfl, fun vi ii => ?_⟩
      walk_at "go"
      cases A with
      | take m b =>
        refine ⟨_, 0, 0, _, ii, rfl, rfl, rfl, fun u iu => ?_⟩
        obtain rfl := iu.s
        walk_at "go"
        refine ⟨_, 0, 0, _, iv4, rfl, rfl, rfl, fun u iu => ?_⟩
        obtain rfl := iu.s
        walk_at "go"
        refine ⟨_, 2, 2, _, iv4, rfl, rfl, rfl, fun u iu => ?_⟩
        obtain rfl := iu.i
        refine ⟨_, _, _, a.toNat, _, rfl, aU4, rfl, by omega, hat, fun v iv => ?_⟩
        obtain rfl := iv.i
        walk_at "go"
        by_cases c : us.getD a.toNat 0 = 1
        · refine ite_t (dv_t c) ?_
          walk_at "go"
          refine .mk ⟨.take n a, .take m b, iv4, ii, rfl, ?_⟩
          walk_at "go"
          have e := bad (by rw [lo, decide_eq_true c]; rfl)
          rw [e] at q
          exact q _ S4
        · refine ite_f (dv_f c) ?_
          walk_at "go"
          exact .mk ⟨_, _, _, rfl, s3.trans s4, nxt (by rw [lo, decide_eq_false c, Bool.false_and, Bool.and_false])⟩
      | _ =>
        refine ⟨_, 0, 0, _, ii, rfl, rfl, rfl, fun u iu => ?_⟩
        obtain rfl := iu.s
        walk_at "go"
        refine ⟨_, 0, 0, _, iv4, rfl, rfl, rfl, fun u iu => ?_⟩
        obtain rfl := iu.s
        walk_at "go"
        exact .mk ⟨_, _, _, rfl, s3.trans s4, nxt (by rw [lo]; rfl)⟩
    | skip n a =>
      have hb := old i _ a hl (by simp [Ln.names])
      obtain ⟨A, hA⟩ : ∃ A, ls[a.toNat]? = some A := ⟨_, List.getElem?_eq_getElem (by omega)⟩
      have hA2 : ls.getD a.toNat (.source 0) = A := by rw [List.getD_eq_getElem?_getD, hA]; rfl
      have lo : looseL ls us (.skip n a) = (sameJ A (.skip n a) && (decide (us.getD a.toNat 0 = 1) && oneLn A (.skip n a))) := by
        show (true && (sameJ (ls.getD a.toNat (.source 0)) _ && (_ && oneLn (ls.getD a.toNat (.source 0)) _))) = _
        rw [hA2]
        rfl
      walk_at "wds"
      refine ⟨[.str "map", .str "keep", .str "while", .str "take", .str "skip"], .cons (.str _) (.cons (.str _) (.cons (.str _) (.cons (.str _) (.cons (.str _) .nil)))), by simp, fun p1 H4 s4 t4 i4 => ?_⟩
      refine ⟨_, ["map", "keep", "while", "take", "skip"], rfl, i4, ?_⟩
      refine ⟨_, rfl, ?_⟩
      walk_at "w"
      walk_at "go"
      have iv4 := iv3.u t4
      have S4 := S3.trans s4
      have aw4 := (aw.same S3).same s4
      have aU4 := a2'.same s4
      have hat : (us.map PyData.int)[a.toNat]? = some (.int (us.getD a.toNat 0)) := by
        rw [List.getElem?_map, List.getD_eq_getElem?_getD, List.getElem?_eq_getElem (by omega)]; rfl
      refine ⟨_, 2, 2, _, iv4, rfl, rfl, rfl, fun u iu => ?_⟩
      obtain rfl := iu.i
      refine ⟨_, _, _, a.toNat, _, rfl, aw4, rfl, by omega, by rw [List.getElem?_map, hA]; rfl, fun vi ii => ?_⟩
      walk_at "go"
      cases A with
      | skip m b =>
        refine ⟨_, 0, 0, _, ii, rfl, rfl, rfl, fun u iu => ?_⟩
        obtain rfl := iu.s
        walk_at "go"
        refine ⟨_, 0, 0, _, iv4, rfl, rfl, rfl, fun u iu => ?_⟩
        obtain rfl := iu.s
        walk_at "go"
        refine ⟨_, 2, 2, _, iv4, rfl, rfl, rfl, fun u iu => ?_⟩
        obtain rfl := iu.i
        refine ⟨_, _, _, a.toNat, _, rfl, aU4, rfl, by omega, hat, fun v iv => ?_⟩
        obtain rfl := iv.i
        walk_at "go"
        by_cases c : us.getD a.toNat 0 = 1
        · refine ite_t (dv_t c) ?_
          walk_at "go"
          refine .mk ⟨.skip n a, .skip m b, iv4, ii, rfl, ?_⟩
          walk_at "go"
          by_cases o : oneLn (.skip m b) (.skip n a) = true
          · refine ite_t o ?_
            walk_at "go"
            have e := bad (by rw [lo, decide_eq_true c, o]; rfl)
            rw [e] at q
            exact q _ S4
          · refine ite_f (Bool.eq_false_iff.mpr o) ?_
            walk_at "go"
            exact .mk ⟨_, _, _, rfl, s3.trans s4, nxt (by rw [lo, Bool.eq_false_iff.mpr o, Bool.and_false, Bool.and_false])⟩
        · refine ite_f (dv_f c) ?_
          walk_at "go"
          exact .mk ⟨_, _, _, rfl, s3.trans s4, nxt (by rw [lo, decide_eq_false c, Bool.false_and, Bool.and_false])⟩
      | _ =>
        refine ⟨_, 0, 0, _, ii, rfl, rfl, rfl, fun u iu => ?_⟩
        obtain rfl := iu.s
        walk_at "go"
        refine ⟨_, 0, 0, _, iv4, rfl, rfl, rfl, fun u iu => ?_⟩
        obtain rfl := iu.s
        walk_at "go"
        exact .mk ⟨_, _, _, rfl, s3.trans s4, nxt (by rw [lo]; rfl)⟩
    | _ =>
      walk_at "wds"
      refine ⟨[.str "map", .str "keep", .str "while", .str "take", .str "skip"], .cons (.str _) (.cons (.str _) (.cons (.str _) (.cons (.str _) (.cons (.str _) .nil)))), by simp, fun p1 H4 s4 t4 i4 => ?_⟩
      refine ⟨_, ["map", "keep", "while", "take", "skip"], rfl, i4, ?_⟩
      refine ⟨_, rfl, ?_⟩
      walk_at "w"
      walk_at "go"
      have iv4 := iv3.u t4
      have S4 := S3.trans s4
      exact .mk ⟨_, _, _, rfl, s3.trans s4, nxt rfl⟩
  intro σ H3 h
  obtain ⟨p3, p4, p6, rfl, s3, ok⟩ := h.out
  rw [lx, List.take_length] at ok
  walk_at "go"
  refine ⟨0, U, usesL ls outs, rfl, rfl, a2.same s3, ?_⟩
  have e : straightB ls outs = !decide (0 ∈ usesL ls outs) := by
    unfold straightB
    rw [ok]
    rfl
  rw [e] at q
  exact q _ (s2.trans s3)

theorem flat_one {α : Type} (n : Nat) (x : α) : (List.replicate n [x]).flatten = List.replicate n x := by
  induction n with
  | zero => rfl
  | succ n ih => rw [List.replicate_succ, List.replicate_succ, List.flatten_cons, ih]; rfl
theorem ok__law_longer (T : Tx K w mg) : FnOk P w K mg base CX0 2 T._law_longer.f T._law_longer.fd ["_law_d"] (spWeave K) := by
  refine T._law_longer.F.ok sc__law_longer (fun vs H Q E h => ?_) (fun cdv A outer s H vs Q E hr h => ?_)
  · obtain ⟨a, rfl, _⟩ := h
    rfl
  obtain ⟨vd, rfl, h⟩ := h
  obtain ⟨D, rfl, d0, q⟩ := h.out
  refine ⟨_, (pss_cons (ps_set (i := 1) sc__law_longer.nd rfl (by first | exact Or.inl rfl | exact Or.inr rfl) (pe_ld (pa_cons (pe_td (pa_cons pe_str (pa_cons pe_int pa_nil))) pa_nil)))
      (pss_cons (ps_set (i := 2) sc__law_longer.nd rfl (by first | exact Or.inl rfl | exact Or.inr rfl) (pe_ix ix_listA (pe_ld (pa_cons pe_str (pa_cons pe_str (pa_cons pe_str (pa_cons pe_str (pa_cons pe_str pa_nil)))))) (pe_call (ok__law_next T) hr (by rfl) T._law_next.g T._law_next.F.kp T._law_next.b .nil pass0 (pa_cons (pv 0) (pa_cons pe_int pa_nil))) (fun _ _ => rfl)))
      (pss_cons (ps_for PassesOwn.never rfl (pi_range1 (by rfl) T.z_range (pa_cons (pe_op op_add pe_int (pe_call (ok__law_next T) hr (by rfl) T._law_next.g T._law_next.F.kp T._law_next.b .nil pass0 (pa_cons (pv 0) (pa_cons pe_int pa_nil)))) pa_nil)) (pg_name (i := 3) sc__law_longer.nd rfl (by first | exact Or.inl rfl | exact Or.inr rfl)) (pss_cons (ps_set (i := 4) sc__law_longer.nd rfl (by first | exact Or.inl rfl | exact Or.inr rfl) (pe_call (ok__law_next T) hr (by rfl) T._law_next.g T._law_next.F.kp T._law_next.b .nil pass0 (pa_cons (pv 0) (pa_cons pe_int pa_nil))))
      (pss_cons (ps_cut (ps_if (pt_cmpR op_eq (pv 2) pe_str (nomark _)) (pss_one (ps_set (i := 4) sc__law_longer.nd rfl (by first | exact Or.inl rfl | exact Or.inr rfl) (pe_op op_repD (pe_td (pa_cons (pe_td (pa_cons pe_str (pa_cons (pv 4) pa_nil))) pa_nil)) (pe_op op_add pe_int (pe_call (ok__law_next T) hr (by rfl) T._law_next.g T._law_next.F.kp T._law_next.b .nil pass0 (pa_cons (pv 0) (pa_cons pe_int pa_nil))))))) pss_nil))
      (pss_cons (ps_cut (ps_if (PW.pt (pw_or (pt_cmpR op_eq (pv 2) pe_str (nomark _)) (pw_or1 (pt_cmpR op_eq (pv 2) pe_str (nomark _))))) (pss_one (ps_set (i := 4) sc__law_longer.nd rfl (by first | exact Or.inl rfl | exact Or.inr rfl) (pe_op op_repD (pe_td (pa_cons (pe_td (pa_cons pe_str (pa_cons (pv 4) pa_nil))) pa_nil)) (pe_op op_add pe_int (pe_call (ok__law_next T) hr (by rfl) T._law_next.g T._law_next.F.kp T._law_next.b .nil pass0 (pa_cons (pv 0) (pa_cons pe_int pa_nil))))))) pss_nil))
      (pss_one (ps_expr (pe_bm PySem.F.plainAttrs_list PySem.F.slot_list_append PySem.F.type_list_append mt_appA (pv 1) (pa_cons (pe_td (pa_cons (pv 2) (pa_cons (pv 4) (pa_cons (pe_op op_sub (pe_callB call_lenA (by rfl) T.z_len PySem.boot_len (pa_cons (pv 1) pa_nil)) pe_int) pa_nil)))) pa_nil))))))))
      (pss_one (ps_ret (pe_tr (pa_cons (pv 1) (pa_cons (pe_lc (own := [("_law_line_here", 5)]) (g := gName 5) (tt := tYes) rfl sc__law_longer.nd (pi_list (pv 1)) (blkOk_by (own := [("_law_line_here", 5)]) (N := ["_law_d", "_law_weave_here", "_law_word", "_law_k", "_law_what", "_law_line_here"]) (sc := defScope s__law_longer) (by decide +kernel)) (fun _ _ _ _ _ => pg_name (i := 5) sc__law_longer.nd rfl (Or.inl rfl)) (fun _ _ _ _ _ => pts_nil) (fun _ _ _ _ _ => pe_str)) (pa_cons pe_int pa_nil))))))))), ?_⟩
  walk_at "go"
  refine ⟨[.str "source", .int 0], .cons (.str _) (.cons (.int _) .nil), by simp, fun p1 H1 s1 t1 i1 => ?_⟩
  have d1 := d0.same s1
  walk_at "go"
  refine ⟨[.tuple [.str "source", .int 0]], .cons i1 .nil, by simp, fun lw H2 n2 s2 t2 a2 => ?_⟩
  have d2 := d1.same s2
  have nw : H lw = none := s1.free n2
  have Dw : D ≠ lw := d0.ne_new nw
  have S2 := s1.trans s2
  walk_at "go"
  refine ⟨[.str "map", .str "keep", .str "while", .str "take", .str "skip"], .cons (.str _) (.cons (.str _) (.cons (.str _) (.cons (.str _) (.cons (.str _) .nil)))), by simp, fun l3 H3 n3 s3 t3 a3 => ?_⟩
  have d3 := d2.same s3
  have ne3 := d2.ne_new n3
  walk_at "go"
  intro r4 H4 e1 e2 d4 b4
  have a4 := a3.but b4 (b4.dtk d3) ne3.symm
  obtain ⟨wo, hwo⟩ : ∃ wo : Wo, [PyData.str "map", .str "keep", .str "while", .str "take", .str "skip"][r4.toNat]? = some (.str wo.s) := by
    have : r4 = 0 ∨ r4 = 1 ∨ r4 = 2 ∨ r4 = 3 ∨ r4 = 4 := by omega
    rcases this with rfl | rfl | rfl | rfl | rfl
    · exact ⟨.map, rfl⟩
    · exact ⟨.keep, rfl⟩
    · exact ⟨.whil, rfl⟩
    · exact ⟨.take, rfl⟩
    · exact ⟨.skip, rfl⟩
  walk_at "go"
  refine ⟨_, _, _, r4.toNat, _, rfl, a4, rfl, by omega, hwo, fun v iv => ?_⟩
  obtain rfl := iv.s
  have aw4 : Acc K H4 lw [(Ln.source 0).d] := (a2.same s3).but b4 (b4.dtk d3) Dw.symm
  have B4 : But D H H4 := (same_but S2).trans ((same_but s3).trans b4)
  walk_at "go"
  intro r5 H5 e3 e4 d5 b5
  have aw5 := aw4.but b5 (b5.dtk d4) Dw.symm
  walk_at "go"
  refine for_range (lo := 0) (n := (1 + r5).toNat) (fun i σ H6 => Hold (∃ (ls : List Ln) (o3 o4 : Option V), σ = [some (.ref D), some (.ref lw), some (.str wo.s), o3, o4, none] ∧ Acc K H6 lw (ls.map Ln.d) ∧ ls.length = i + 1 ∧
      GoodW 1 ls (List.replicate (i + 1) .num) ∧ twos ls = 0 ∧ IsDice K H6 D ∧ But D H H6))
    (.mk ⟨[.source 0], none, none, rfl, aw5, rfl, .snoc .nil (by decide) rfl rfl (by decide) (fun ds a k e _ => nomatch e), rfl, d5, B4.trans b5⟩) ?_ ?_
  · intro i σ H6 hi h
    obtain ⟨ls, o3, o4, rfl, a6, l6, g6, t6, d6, B6⟩ := h.out
    walk_at "go"
    intro r7 H7 e5 e6 d7 b7
    have a7 := a6.but b7 (b7.dtk d6) Dw.symm
    have B7 := B6.trans b7
    walk_at "go"
    refine ⟨fun σ H8 => Hold (∃ (x : PyData) (v : V), σ = [some (.ref D), some (.ref lw), some (.str wo.s), some (.int (0 + (i : Int))), some v, none] ∧ Im K H8 v x ∧ (wo.s = "map" → Wo.map.fits x) ∧ (wo.s ≠ "map" → x = .int r7 ∧ v = .int r7) ∧
        Acc K H8 lw (ls.map Ln.d) ∧ IsDice K H8 D ∧ But D H H8), ?_, ?_⟩
    · cases wo with
      | map =>
        walk_at "go"
        refine ⟨[.str "add", .int r7], .cons (.str _) (.cons (.int _) .nil), by simp, fun p8 H8 s8 t8 i8 => ?_⟩
        walk_at "go"
        refine ⟨[.tuple [.str "add", .int r7]], .cons i8 .nil, by simp, fun p9 H9 s9 t9 i9 => ?_⟩
        have d9 := (d7.same s8).same s9
        have a9 := (a7.same s8).same s9
        walk_at "go"
        intro r10 H10 e10 f10 d10 b10
        have t10 := b10.dtk d9
        have a10 := a9.but b10 t10 Dw.symm
        walk_at "go"
        refine ⟨_, 1 + r10, i9.u t10, rfl, by simp, by omega, by omega, by simp, fun v H11 s11 t11 i11 => ?_⟩
        rw [flat_one] at i11
        have nr : Num r7 := ⟨e5, by omega⟩
        have dn := drawn_num (es := List.replicate (1 + r10).toNat (.add r7)) false (by rw [List.length_replicate]; omega) (by rw [List.length_replicate]; omega) (fun t ht => by rw [List.eq_of_mem_replicate ht]; exact nr) (fun t ht => by rw [List.eq_of_mem_replicate ht]; rfl)
        walk_at "go"
        refine .mk ⟨_, v, rfl, i11, fun _ => ⟨List.replicate (1 + r10).toNat (.add r7), .num, by rw [List.map_replicate]; rfl, by simpa using dn, rfl⟩, fun z => absurd rfl z, a10.same s11, d10.same s11, B7.trans ((same_but s8).trans ((same_but s9).trans (b10.trans (same_but s11))))⟩
      | _ =>
        walk_at "go"
        exact .mk ⟨.int r7, _, rfl, .int _, fun z => absurd z (by decide +kernel), fun _ => ⟨rfl, rfl⟩, a7, d7, B7⟩
    intro σ8 H8 h
    obtain ⟨x8, v8, rfl, i8, fm, fo, a8, d8, B8⟩ := h.out
    refine ⟨fun σ H9 => Hold (∃ (x : PyData) (v : V), σ = [some (.ref D), some (.ref lw), some (.str wo.s), some (.int (0 + (i : Int))), some v, none] ∧ Im K H9 v x ∧ wo.fits x ∧ Acc K H9 lw (ls.map Ln.d) ∧ IsDice K H9 D ∧ But D H H9), ?_, ?_⟩
    · cases wo with
      | map =>
        walk_at "go"
        exact .mk ⟨_, _, rfl, i8, fm rfl, a8, d8, B8⟩
      | keep =>
        obtain ⟨rfl, rfl⟩ := fo (by decide +kernel)
        walk_at "go"
        refine ⟨[.str "below", .int r7], .cons (.str _) (.cons (.int _) .nil), by simp, fun p9 H9 s9 t9 i9 => ?_⟩
        walk_at "go"
        refine ⟨[.tuple [.str "below", .int r7]], .cons i9 .nil, by simp, fun p10 H10 s10 t10 i10 => ?_⟩
        have d10 := (d8.same s9).same s10
        have a10 := (a8.same s9).same s10
        walk_at "go"
        intro r11 H11 e11 f11 d11 b11
        have t11 := b11.dtk d10
        have a11 := a10.but b11 t11 Dw.symm
        walk_at "go"
        refine ⟨_, 1 + r11, i10.u t11, rfl, by simp, by omega, by omega, by simp, fun v H12 s12 t12 i12 => ?_⟩
        rw [flat_one] at i12
        walk_at "go"
        refine .mk ⟨_, v, rfl, i12, ⟨List.replicate (1 + r11).toNat (.below r7), by rw [List.map_replicate]; rfl, testsCan_of (by rw [List.length_replicate]; omega) (by rw [List.length_replicate]; omega) fun t ht => by rw [List.eq_of_mem_replicate ht]; exact (⟨e5, by omega⟩ : Num r7)⟩, a11.same s12, d11.same s12, B8.trans ((same_but s9).trans ((same_but s10).trans (b11.trans (same_but s12))))⟩
      | whil =>
        obtain ⟨rfl, rfl⟩ := fo (by decide +kernel)
        walk_at "go"
        refine ⟨[.str "below", .int r7], .cons (.str _) (.cons (.int _) .nil), by simp, fun p9 H9 s9 t9 i9 => ?_⟩
        walk_at "go"
        refine ⟨[.tuple [.str "below", .int r7]], .cons i9 .nil, by simp, fun p10 H10 s10 t10 i10 => ?_⟩
        have d10 := (d8.same s9).same s10
        have a10 := (a8.same s9).same s10
        walk_at "go"
        intro r11 H11 e11 f11 d11 b11
        have t11 := b11.dtk d10
        have a11 := a10.but b11 t11 Dw.symm
        walk_at "go"
        refine ⟨_, 1 + r11, i10.u t11, rfl, by simp, by omega, by omega, by simp, fun v H12 s12 t12 i12 => ?_⟩
        rw [flat_one] at i12
        walk_at "go"
        refine .mk ⟨_, v, rfl, i12, ⟨List.replicate (1 + r11).toNat (.below r7), by rw [List.map_replicate]; rfl, testsCan_of (by rw [List.length_replicate]; omega) (by rw [List.length_replicate]; omega) fun t ht => by rw [List.eq_of_mem_replicate ht]; exact (⟨e5, by omega⟩ : Num r7)⟩, a11.same s12, d11.same s12, B8.trans ((same_but s9).trans ((same_but s10).trans (b11.trans (same_but s12))))⟩
      | take =>
        obtain ⟨rfl, rfl⟩ := fo (by decide +kernel)
        walk_at "go"
        exact .mk ⟨_, _, rfl, i8, ⟨r7, rfl, e5, by omega⟩, a8, d8, B8⟩
      | skip =>
        obtain ⟨rfl, rfl⟩ := fo (by decide +kernel)
        walk_at "go"
        exact .mk ⟨_, _, rfl, i8, ⟨r7, rfl, e5, by omega⟩, a8, d8, B8⟩
    intro σ9 H9 h
    obtain ⟨x9, v9, rfl, i9, f9, a9, d9, B9⟩ := h.out
    walk_at "go"
    refine ⟨_, _, rfl, a9, ?_⟩
    rw [List.length_map, l6]
    obtain ⟨l, el, dl, tl⟩ := Wo.line f9 (i + 1) (((i + 1 : Nat) : Int) - 1) (by omega) (by omega)
    walk_at "go"
    refine ⟨[.str wo.s, x9, .int (((i + 1 : Nat) : Int) - 1)], .cons (.str _) (.cons i9 (.cons (.int _) .nil)), by simp, fun p10 H10 s10 t10 i10 => ?_⟩
    rw [← el] at i10
    have a10 := a9.same s10
    refine ⟨_, _, _, _, rfl, rfl, a10, i10, by rw [List.length_map]; omega, fun H11 b11 t11 a11 => ?_⟩
    refine .mk ⟨ls ++ [l], _, _, rfl, by rw [List.map_append]; exact a11, by rw [List.length_append, l6]; rfl, ?_, ?_, (d9.same s10).keep t11 fun xs e => b11 _ _ Dw e, ?_⟩
    · rw [List.replicate_succ']
      exact g6.more dl
    · unfold twos at *
      rw [List.filter_append, List.length_append, t6, List.filter_cons_of_neg (by rw [tl]; decide), List.filter_nil]
      rfl
    · intro b u hb e
      exact b11 _ _ (ne_of_none e nw) (s10 _ _ (B9 _ _ hb e))
  · intro σ H6 h
    obtain ⟨ls, o3, o4, rfl, a6, l6, g6, t6, d6, B6⟩ := h.out
    obtain ⟨xs, e6, i6⟩ := id a6
    have len := i6.len
    rw [List.length_map] at len
    walk_at "go"
    refine ⟨⟨_, SqL.of e6⟩, fun lk nk => lc_list (K := K) (a := lw) (xs := xs) (fun j H7 => Hold (Same H6 H7 ∧ Acc K H7 lk (List.replicate j (PyData.str "number"))))
        (.mk ⟨same_new nk, acc_nil upd_same⟩) (fun j H7 _ h => SqL.of (h.out.1 _ _ e6)) ?_ ?_⟩
    · intro j y H7 hj h
      obtain ⟨s7, a7⟩ := h.out
      have hj' := (List.getElem?_eq_some_iff.mp hj).1
      walk_at "go"
      obtain ⟨acc, ea, hla, b8, t8, a8⟩ := a7.push (.str "number") (by rw [List.length_replicate]; omega)
      refine ⟨acc, ea, hla, .mk ⟨same_put s7 nk, ?_⟩⟩
      rw [List.replicate_succ']
      exact a8
    · intro H7 h
      obtain ⟨s7, a7⟩ := h.out
      walk_at "go"
      refine ⟨by simp, fun p8 H8 n8 s8 t8 e8 => ?_⟩
      have nkH : H lk = none := by
        cases z : H lk with
        | none => rfl
        | some u =>
          by_cases hD : lk = D
          · obtain ⟨_, eD⟩ := d6.at
            rw [hD, eD] at nk
            cases nk
          · rw [B6 _ _ hD z] at nk
            cases nk
      have wk : lw ≠ lk := ne_of_none e6 nk
      have a8 := a7.same s8
      rw [len, l6] at a8
      refine q p8 H8 lw lk ls (List.replicate ((1 + r5).toNat + 1) .num) 1 (SqT.of e8) ((a6.same s7).same s8) ?_ nw nkH wk ⟨g6, by omega, by omega, by decide, by decide, fun k hk => ?_, by omega⟩ ((d6.same s7).same s8) (B6.trans ((same_but s7).trans (same_but s8)))
      · rw [List.map_replicate]
        exact a8
      · rw [List.eq_of_mem_replicate hk]
        decide

def spLike (K : PySem.W.Frag) (n : Nat) : Sp := fun vs H Q _ => ∃ (v w : V), vs = [v, w] ∧ Hold (∃ d, Dp K H v d ∧ Dp K H w d ∧ lk d = true ∧ d.depth < n ∧ Q (.bl true) H)
theorem like_step (T : Tx K w mg) {n : Nat} (ih : FnOk P w K mg base CX0 n T._law_like.f T._law_like.fd ["_law_found", "_law_due"] (spLike K n)) : FnOk P w K mg base CX0 (n + 1) T._law_like.f T._law_like.fd ["_law_found", "_law_due"] (spLike K (n + 1)) := by
  refine T._law_like.F.ok sc__law_like (fun vs H Q E h => ?_) (fun cdv A outer s H vs Q E hr h => ?_)
  · obtain ⟨a, vk, rfl, _⟩ := h
    rfl
  obtain ⟨v, u, rfl, h⟩ := h
  obtain ⟨d, hv, hu, hl, hd, q⟩ := h.out
  refine ⟨_, (pss_cons (ps_if (pt_val (pe_callB call_isD (by rfl) T.z_isinstance (by decide +kernel) (pa_cons (pv 1) (pa_cons (pe_bltn (v := .ty "str") (u := .type "str") (by rfl) T.z_str (by decide +kernel) rfl) pa_nil)))) (pss_one (ps_ret (pe_and (pe_callB call_isD (by rfl) T.z_isinstance (by decide +kernel) (pa_cons (pv 0) (pa_cons (pe_bltn (v := .ty "str") (u := .type "str") (by rfl) T.z_str (by decide +kernel) rfl) pa_nil))) (pe_one (pe_cmpR op_eq (pv 0) (pv 1) (nomark _)))))) pss_nil)
      (pss_cons (ps_if (pt_val (pe_callB call_isD (by rfl) T.z_isinstance (by decide +kernel) (pa_cons (pv 1) (pa_cons (pe_bltn (v := .ty "int") (u := .type "int") (by rfl) T.z_int (by decide +kernel) rfl) pa_nil)))) (pss_one (ps_ret (pe_and (pe_callB call_isD (by rfl) T.z_isinstance (by decide +kernel) (pa_cons (pv 0) (pa_cons (pe_bltn (v := .ty "int") (u := .type "int") (by rfl) T.z_int (by decide +kernel) rfl) pa_nil))) (pe_and (pe_not (pe_callB call_isD (by rfl) T.z_isinstance (by decide +kernel) (pa_cons (pv 0) (pa_cons (pe_bltn (v := .ty "bool") (u := .type "bool") (by rfl) T.z_bool (by decide +kernel) rfl) pa_nil)))) (pe_one (pe_cmpR op_eq (pv 0) (pv 1) (nomark _))))))) pss_nil)
      (pss_cons (ps_if (pt_cmpR op_isN (pv 1) pe_non (nomark _)) (pss_one (ps_ret (pe_cmpR op_isN (pv 0) pe_non (nomark _)))) pss_nil)
      (pss_cons (ps_if (PW.pt (pw_or (pt_cmpR op_ne (pe_callB call_isD (by rfl) T.z_isinstance (by decide +kernel) (pa_cons (pv 1) (pa_cons (pe_bltn (v := .ty "tuple") (u := .type "tuple") (by rfl) T.z_tuple (by decide +kernel) rfl) pa_nil))) (pe_callB call_isD (by rfl) T.z_isinstance (by decide +kernel) (pa_cons (pv 0) (pa_cons (pe_bltn (v := .ty "tuple") (u := .type "tuple") (by rfl) T.z_tuple (by decide +kernel) rfl) pa_nil))) (nomark _)) (pw_or1 (pt_cmpR op_ne (pe_callB call_isD (by rfl) T.z_isinstance (by decide +kernel) (pa_cons (pv 1) (pa_cons (pe_bltn (v := .ty "list") (u := .type "list") (by rfl) T.z_list (by decide +kernel) rfl) pa_nil))) (pe_callB call_isD (by rfl) T.z_isinstance (by decide +kernel) (pa_cons (pv 0) (pa_cons (pe_bltn (v := .ty "list") (u := .type "list") (by rfl) T.z_list (by decide +kernel) rfl) pa_nil))) (nomark _))))) (pss_one (ps_ret pe_bl)) pss_nil)
      (pss_cons (ps_if (pt_cmpR op_ne (pe_callB call_lenP (by rfl) T.z_len PySem.boot_len (pa_cons (pv 0) pa_nil)) (pe_callB call_lenP (by rfl) T.z_len PySem.boot_len (pa_cons (pv 1) pa_nil)) (nomark _)) (pss_one (ps_ret pe_bl)) pss_nil)
      (pss_cons (ps_for PassesOwn.never rfl (pi_range1 (by rfl) T.z_range (pa_cons (pe_callB call_lenP (by rfl) T.z_len PySem.boot_len (pa_cons (pv 1) pa_nil)) pa_nil)) (pg_name (i := 2) sc__law_like.nd rfl (by first | exact Or.inl rfl | exact Or.inr rfl)) (pss_one (ps_if (pt_not (pt_val (pe_call ih hr (by rfl) T._law_like.g T._law_like.F.kp T._law_like.b .nil pass0 (pa_cons (pe_ix ix_P (pv 0) (pv 2) (fun _ _ => rfl)) (pa_cons (pe_ix ix_P (pv 1) (pv 2) (fun _ _ => rfl)) pa_nil))))) (pss_one (ps_ret pe_bl)) pss_nil)))
      (pss_one (ps_ret pe_bl)))))))), ?_⟩
  walk_at "go"
  cases d with
  | dict z => cases hl
  | bool z => cases hl
  | str x =>
    obtain rfl := Dp_s hv
    obtain rfl := Dp_s hu
    refine ⟨_, "str", _, true, rfl, hu, (by show kitB "str" "str" = some true; decide +kernel), ?_⟩
    walk_at "go"
    refine ⟨_, "str", _, true, rfl, hu, (by show kitB "str" "str" = some true; decide +kernel), ?_⟩
    walk_at "go"
    rw [decide_eq_true rfl]
    exact q
  | int x =>
    obtain rfl := Dp_i hv
    obtain rfl := Dp_i hu
    refine ⟨_, "str", _, false, rfl, hu, (by show kitB "int" "str" = some false; decide +kernel), ?_⟩
    walk_at "go"
    refine ⟨_, "int", _, true, rfl, hu, (by show kitB "int" "int" = some true; decide +kernel), ?_⟩
    walk_at "go"
    refine ⟨_, "int", _, true, rfl, hu, (by show kitB "int" "int" = some true; decide +kernel), ?_⟩
    walk_at "go"
    refine ⟨_, "bool", _, false, rfl, hu, (by show kitB "int" "bool" = some false; decide +kernel), ?_⟩
    walk_at "go"
    rw [decide_eq_true rfl]
    exact q
  | none =>
    obtain rfl := Dp_n hv
    obtain rfl := Dp_n hu
    refine ⟨_, "str", _, false, rfl, hu, (by show kitB "NoneType" "str" = some false; decide +kernel), ?_⟩
    walk_at "go"
    refine ⟨_, "int", _, false, rfl, hu, (by show kitB "NoneType" "int" = some false; decide +kernel), ?_⟩
    walk_at "go"
    exact q
  | tuple ds =>
    have hl : (decide (ds.length ≤ 100000000) && lks ds) = true := hl
    rw [Bool.and_eq_true] at hl
    obtain ⟨hl1, hl2⟩ := hl
    have hl1 := of_decide_eq_true hl1
    have hd : PyData.depthAll ds + 1 < n + 1 := hd
    obtain ⟨b, rfl⟩ : ∃ b, u = .ref b := by cases hu; exact ⟨_, rfl⟩
    refine ⟨_, "str", _, false, rfl, hu, (by show kitB "tuple" "str" = some false; decide +kernel), ?_⟩
    walk_at "go"
    refine ⟨_, "int", _, false, rfl, hu, (by show kitB "tuple" "int" = some false; decide +kernel), ?_⟩
    walk_at "go"
    refine ⟨_, "tuple", _, true, rfl, hu, (by show kitB "tuple" "tuple" = some true; decide +kernel), ?_⟩
    walk_at "go"
    refine ⟨_, "tuple", _, true, rfl, hv, (by show kitB "tuple" "tuple" = some true; decide +kernel), ?_⟩
    walk_at "go"
    refine ⟨_, "list", _, false, rfl, hu, (by show kitB "tuple" "list" = some false; decide +kernel), ?_⟩
    walk_at "go"
    refine ⟨_, "list", _, false, rfl, hv, (by show kitB "tuple" "list" = some false; decide +kernel), ?_⟩
    walk_at "go"
    refine ite_f (by rw [decide_eq_true rfl]; rfl) ?_
    walk_at "go"
    refine for_range (lo := 0) (n := ds.length) (fun i σ H2 => Hold (∃ o, σ = [some v, some (.ref b), o] ∧ H2 = H)) (.mk ⟨none, rfl, rfl⟩) ?_ ?_
    · rintro i σ H2 hi h
      obtain ⟨o, rfl, rfl⟩ := h.out
      have hi' : ds[i]? = some ds[i] := List.getElem?_eq_getElem hi
      walk_at "go"
      refine ⟨_, _, i, _, .inl hv, rfl, by omega, hi', fun x hx => ?_⟩
      walk_at "go"
      refine ⟨_, _, i, _, .inl hu, rfl, by omega, hi', fun y hy => ?_⟩
      have dg := depth_get hi'
      refine ⟨_, _, rfl, .mk ⟨ds[i], hx, hy, lks_get hl2 hi', by omega, ?_⟩⟩
      walk_at "go"
      exact .mk ⟨_, rfl, rfl⟩
    · rintro σ H2 h
      obtain ⟨o, rfl, rfl⟩ := h.out
      exact q
  | list ds =>
    have hl : (decide (ds.length ≤ 100000000) && lks ds) = true := hl
    rw [Bool.and_eq_true] at hl
    obtain ⟨hl1, hl2⟩ := hl
    have hl1 := of_decide_eq_true hl1
    have hd : PyData.depthAll ds + 1 < n + 1 := hd
    obtain ⟨b, rfl⟩ : ∃ b, u = .ref b := by cases hu; exact ⟨_, rfl⟩
    refine ⟨_, "str", _, false, rfl, hu, (by show kitB "list" "str" = some false; decide +kernel), ?_⟩
    walk_at "go"
    refine ⟨_, "int", _, false, rfl, hu, (by show kitB "list" "int" = some false; decide +kernel), ?_⟩
    walk_at "go"
    refine ⟨_, "tuple", _, false, rfl, hu, (by show kitB "list" "tuple" = some false; decide +kernel), ?_⟩
    walk_at "go"
    refine ⟨_, "tuple", _, false, rfl, hv, (by show kitB "list" "tuple" = some false; decide +kernel), ?_⟩
    walk_at "go"
    refine ⟨_, "list", _, true, rfl, hu, (by show kitB "list" "list" = some true; decide +kernel), ?_⟩
    walk_at "go"
    refine ⟨_, "list", _, true, rfl, hv, (by show kitB "list" "list" = some true; decide +kernel), ?_⟩
    walk_at "go"
    refine ite_f (by rw [decide_eq_true rfl]; rfl) ?_
    walk_at "go"
    refine for_range (lo := 0) (n := ds.length) (fun i σ H2 => Hold (∃ o, σ = [some v, some (.ref b), o] ∧ H2 = H)) (.mk ⟨none, rfl, rfl⟩) ?_ ?_
    · rintro i σ H2 hi h
      obtain ⟨o, rfl, rfl⟩ := h.out
      have hi' : ds[i]? = some ds[i] := List.getElem?_eq_getElem hi
      walk_at "go"
      refine ⟨_, _, i, _, .inr hv, rfl, by omega, hi', fun x hx => ?_⟩
      walk_at "go"
      refine ⟨_, _, i, _, .inr hu, rfl, by omega, hi', fun y hy => ?_⟩
      have dg := depth_get hi'
      refine ⟨_, _, rfl, .mk ⟨ds[i], hx, hy, lks_get hl2 hi', by omega, ?_⟩⟩
      walk_at "go"
      exact .mk ⟨_, rfl, rfl⟩
    · rintro σ H2 h
      obtain ⟨o, rfl, rfl⟩ := h.out
      exact q
theorem like_n (T : Tx K w mg) : ∀ n : Nat, FnOk P w K mg base CX0 n T._law_like.f T._law_like.fd ["_law_found", "_law_due"] (spLike K n)
  | 0 => by
    have no : ∀ vs H Q E, ¬ spLike K 0 vs H Q E := fun vs H Q E h => by
      obtain ⟨v, w, _, h⟩ := h
      obtain ⟨d, _, _, _, h, _⟩ := h.out
      omega
    exact ⟨fun vs H Q E h => absurd h (no vs H Q E), fun A outer s H args us vs Q E _ _ _ _ h => absurd h (no vs H Q E)⟩
  | n + 1 => like_step T (like_n T n)
theorem ok__law_like (T : Tx K w mg) : FnOk P w K mg base CX0 15 T._law_like.f T._law_like.fd ["_law_found", "_law_due"] (spLike K 15) := like_n T 15

def spLaw (K : PySem.W.Frag) : Sp := fun vs H Q _ => ∃ (a : Addr) (ns : List Int), vs = [.ref a] ∧ Fz K H a (ns.map V.int) ∧ ns.length ≤ 63 ∧ ∀ H', Q (.bl true) H'
theorem Kds_lk (ks : List Kd) (h : ks.length ≤ 1000) : lk (.list (ks.map Kd.d)) = true :=
  lk_list (fun x hx => by obtain ⟨k, _, rfl⟩ := List.mem_map.mp hx; exact Kd_lk k) (by rw [List.length_map]; omega)
theorem Kds_dep (ks : List Kd) (h : ∀ k ∈ ks, k.dp ≤ 8) : PyData.depth (.list (ks.map Kd.d)) ≤ 9 := by
  have : PyData.depthAll (ks.map Kd.d) ≤ 8 := depth_all fun x hx => by
    obtain ⟨k, hk, rfl⟩ := List.mem_map.mp hx
    rw [Kd.depth]
    exact h k hk
  show PyData.depthAll (ks.map Kd.d) + 1 ≤ 9
  omega
theorem good_src {many : Int} {ls : List Ln} {ks : List Kd} (w : GoodW many ls ks) (h : 1 ≤ ls.length) : 0 < (srcs ls).length := by
  have hl : ls[0]? = some ls[0] := List.getElem?_eq_getElem h
  generalize ls[0] = l at hl
  obtain ⟨_, _, _, _, _, _, nm⟩ := w.full hl
  have : l.src ≠ none := by
    intro z
    cases l with
    | source k => cases z
    | map ds a => have := nm a List.mem_cons_self; omega
    | keep ds a => have := nm a List.mem_cons_self; omega
    | whil ds a => have := nm a List.mem_cons_self; omega
    | take ds a => have := nm a List.mem_cons_self; omega
    | skip ds a => have := nm a List.mem_cons_self; omega
    | group ds a => have := nm a List.mem_cons_self; omega
    | window ds a => have := nm a List.mem_cons_self; omega
    | fold f ds a => have := nm a List.mem_cons_self; omega
    | chain a b => have := nm a List.mem_cons_self; omega
    | pair a b => have := nm a List.mem_cons_self; omega
    | merge a b => have := nm a List.mem_cons_self; omega
  obtain ⟨k, hk⟩ := Option.ne_none_iff_exists'.mp this
  exact List.length_pos_of_mem (List.mem_filterMap.mpr ⟨l, List.mem_of_getElem? hl, hk⟩)
theorem good_old {many : Int} {ls : List Ln} {ks : List Kd} (w : GoodW many ls ks) : ∀ (i : Nat) l a, ls[i]? = some l → a ∈ l.names → 0 ≤ a ∧ a < (i : Int) := fun i l a h ha => by
  obtain ⟨_, _, _, _, _, _, nm⟩ := w.full h
  exact nm a ha
theorem ok_law (T : Tx K w mg) : FnOk P w K mg base CX0 16 T.law.f T.law.fd ["_law_script"] (spLaw K) := by
  refine T.law.F.ok sc_law (fun vs H Q E h => ?_) (fun cdv A outer s H vs Q E hr h => ?_)
  · obtain ⟨a, ns, rfl, _⟩ := h
    rfl
  obtain ⟨a, ns, rfl, hF, h63, q⟩ := h
  refine ⟨_, (pss_cons (ps_set (i := 1) sc_law.nd rfl (by first | exact Or.inl rfl | exact Or.inr rfl) (pe_call (ok__law_dice T) (hr.mono (by decide)) (by rfl) T._law_dice.g T._law_dice.F.kp T._law_dice.b .nil pass0 (pa_cons (pv 0) pa_nil)))
      (pss_cons (ps_set (i := 2) sc_law.nd rfl (by first | exact Or.inl rfl | exact Or.inr rfl) (pe_call (ok__law_weave T) (hr.mono (by decide)) (by rfl) T._law_weave.g T._law_weave.F.kp T._law_weave.b .nil pass0 (pa_cons (pv 1) pa_nil)))
      (pss_cons (ps_cut (ps_if (pt_cmpR op_eq (pe_call (ok__law_next T) (hr.mono (by decide)) (by rfl) T._law_next.g T._law_next.F.kp T._law_next.b .nil pass0 (pa_cons (pv 1) (pa_cons pe_int pa_nil))) pe_int (nomark _)) (pss_one (ps_set (i := 2) sc_law.nd rfl (by first | exact Or.inl rfl | exact Or.inr rfl) (pe_call (ok__law_longer T) (hr.mono (by decide)) (by rfl) T._law_longer.g T._law_longer.F.kp T._law_longer.b .nil pass0 (pa_cons (pv 1) pa_nil)))) pss_nil))
      (pss_cons (ps_set (i := 3) sc_law.nd rfl (by first | exact Or.inl rfl | exact Or.inr rfl) (pe_call (ok__law_outs T) (hr.mono (by decide)) (by rfl) T._law_outs.g T._law_outs.F.kp T._law_outs.b .nil pass0 (pa_cons (pv 1) (pa_cons (pe_ix ix_tup (pv 2) pe_int (fun _ _ => rfl)) pa_nil))))
      (pss_cons (ps_asg (pe_call (ok_straight T) (hr.mono (by decide)) (by rfl) T.straight.g T.straight.F.kp T.straight.b .nil pass0 (pa_cons (pe_ix ix_tup (pv 2) pe_int (fun _ _ => rfl)) (pa_cons (pv 3) pa_nil))) (pg_tup rfl (pgs_cons (pg_name (i := 6) sc_law.nd rfl (by first | exact Or.inl rfl | exact Or.inr rfl)) (pgs_cons (pg_name (i := 7) sc_law.nd rfl (by first | exact Or.inl rfl | exact Or.inr rfl)) pgs_nil))))
      (pss_cons (ps_set (i := 4) sc_law.nd rfl (by first | exact Or.inl rfl | exact Or.inr rfl) (pe_call (ok_looked T) (hr.mono (by decide)) (by rfl) T.looked.g T.looked.F.kp T.looked.b .nil pass0 (pa_cons (pv 6) (pa_cons (pe_ix ix_tup (pv 2) pe_int (fun _ _ => rfl)) pa_nil))))
      (pss_cons (ps_if (pt_not (pt_val (pe_call (ok__law_like T) hr (by rfl) T._law_like.g T._law_like.F.kp T._law_like.b .nil pass0 (pa_cons (pe_lc (own := [("_law_out", 8)]) (g := gName 8) (tt := tYes) rfl sc_law.nd (pi_list (pv 7)) (blkOk_by (own := [("_law_out", 8)]) (N := ["_law_script", "_law_d", "_law_drawn", "_law_outs_here", "_law_kinds", "_law_again", "_law_weave_here", "_law_ends", "_law_out"]) (sc := defScope s_law) (by decide +kernel)) (fun _ _ _ _ _ => pg_name (i := 8) sc_law.nd rfl (Or.inl rfl)) (fun _ _ _ _ _ => pts_nil) (fun _ _ _ _ _ => (pe_ix (show IxR _ (rIxA K) from ix_listA) (pv 4) (pv 8) (fun _ _ => rfl)))) (pa_cons (pe_lc (own := [("_law_out", 8)]) (g := gName 8) (tt := tYes) rfl sc_law.nd (pi_list (pv 3)) (blkOk_by (own := [("_law_out", 8)]) (N := ["_law_script", "_law_d", "_law_drawn", "_law_outs_here", "_law_kinds", "_law_again", "_law_weave_here", "_law_ends", "_law_out"]) (sc := defScope s_law) (by decide +kernel)) (fun _ _ _ _ _ => pg_name (i := 8) sc_law.nd rfl (Or.inl rfl)) (fun _ _ _ _ _ => pts_nil) (fun _ _ _ _ _ => (pe_ix (show IxR _ (rIxA K) from ix_listA) (pe_ix (show IxR _ (rIxT K) from ix_tup) (pv 2) pe_int (fun _ _ => rfl)) (pv 8) (fun _ _ => rfl)))) pa_nil))))) (pss_one (ps_ret pe_bl)) pss_nil)
      (pss_cons (ps_if (PW.pt (pw_or (pt_not (pt_val (pe_call (ok__law_is_straight T) (hr.mono (by decide)) (by rfl) T._law_is_straight.g T._law_is_straight.F.kp T._law_is_straight.b .nil pass0 (pa_cons (pv 6) (pa_cons (pv 7) pa_nil))))) (pw_or1 (pt_cmpR op_gt (pe_callB call_lenA (by rfl) T.z_len PySem.boot_len (pa_cons (pv 6) pa_nil)) (pe_callB call_lenA (by rfl) T.z_len PySem.boot_len (pa_cons (pe_ix ix_tup (pv 2) pe_int (fun _ _ => rfl)) pa_nil)) (nomark _))))) (pss_one (ps_ret pe_bl)) pss_nil)
      (pss_cons (ps_set (i := 5) sc_law.nd rfl (by first | exact Or.inl rfl | exact Or.inr rfl) (pe_call (ok_straight T) (hr.mono (by decide)) (by rfl) T.straight.g T.straight.F.kp T.straight.b .nil pass0 (pa_cons (pv 6) (pa_cons (pv 7) pa_nil))))
      (pss_one (ps_ret (pe_call (ok__law_is_straight T) (hr.mono (by decide)) (by rfl) T._law_is_straight.g T._law_is_straight.F.kp T._law_is_straight.b .nil pass0 (pa_cons (pe_ix ix_tup (pv 5) pe_int (fun _ _ => rfl)) (pa_cons (pe_ix ix_tup (pv 5) pe_int (fun _ _ => rfl)) pa_nil)))))))))))))), ?_⟩
  walk_at "go"
  refine ⟨a, ns, rfl, hF, h63, fun D H1 nD s1 d1 => ?_⟩
  walk_at "go"
  refine .mk ⟨D, rfl, d1, fun p0 H2 lw0 lk0 ls0 ks0 many0 ht0 aw0 ak0 nw0 nk0 wk0 dw0 d2 b2 => ?_⟩
  walk_at "go"
  refine ⟨fun σ H3 => Hold (∃ (p lw lk : Addr) (ls : List Ln) (ks : List Kd) (many : Int), σ = [some (.ref a), some (.ref D), some (.ref p), none, none, none, none, none, none] ∧ SqT K H3 p [.ref lw, .ref lk, .int many] ∧ Acc K H3 lw (ls.map Ln.d) ∧ Acc K H3 lk (ks.map Kd.d) ∧ lw ≠ D ∧ lk ≠ D ∧ DrawnW ls ks many ∧ IsDice K H3 D), ?_, ?_⟩
  · walk_at "go"
    intro r3 H3 e3 f3 d3 b3
    have t3 := b3.dtk d2
    have w0 : lw0 ≠ D := (d1.ne_new nw0).symm
    have k0 : lk0 ≠ D := (d1.ne_new nk0).symm
    walk_at "go"
    by_cases c : r3 = 2
    · refine ite_t (dv_t c) ?_
      walk_at "go"
      refine .mk ⟨D, rfl, d3, fun p4 H4 lw lk ls ks many ht aw ak nw nk wk dw d4 b4 => ?_⟩
      walk_at "go"
      exact .mk ⟨p4, lw, lk, ls, ks, many, rfl, ht, aw, ak, (d3.ne_new nw).symm, (d3.ne_new nk).symm, dw, d4⟩
    · refine ite_f (dv_f c) ?_
      walk_at "go"
      exact .mk ⟨p0, lw0, lk0, ls0, ks0, many0, rfl, t3.t _ _ ht0, aw0.but b3 t3 w0, ak0.but b3 t3 k0, w0, k0, dw0, d3⟩
  intro σ3 H3 h
  obtain ⟨p, lw, lk, ls, ks, many, rfl, ht, aw, ak, wD, kD, dw, d3⟩ := h.out
  clear d1 d2 b2 ht0 aw0 ak0
  have l1 := dw.l1
  have l24 := dw.l24
  have good := dw.good
  have len := good.len
  walk_at "go"
  refine .mk ⟨D, lw, _, rfl, rfl, d3, aw, by rw [List.length_map]; omega, by rw [List.length_map]; omega, wD, fun po H4 outs npo ao o1 o5 ob d4 b4 => ?_⟩
  rw [List.length_map] at ob
  have t4 := b4.dtk d3
  have ht4 := t4.t _ _ ht
  have aw4 := aw.but b4 t4 wD
  have ak4 := ak.but b4 t4 kD
  walk_at "go"
  refine .mk ⟨lw, po, ls, ks, outs, many, rfl, rfl, aw4, ao, good, l1, l24, by omega, ob, good_src good l1, fun pz pw pq H5 nz nw nq wq s5 e5 aw5 aq5 => ?_⟩
  have S := strait_of good ob
  generalize finS (usersL ls outs) ls = st at S aw5 aq5
  have lws : (weaveS st).length = st.length := List.length_map _
  have lks : (kindsS st ks).length = st.length := List.length_map _
  have sl := S.len
  have s1' : 1 ≤ st.length := by
    obtain ⟨o, ho⟩ : ∃ o, o ∈ outs := by
      cases outs with
      | nil => simp at o1
      | cons o r => exact ⟨o, List.mem_cons_self⟩
    have := List.length_pos_of_mem (S.key o ho)
    have e : (keysS st).length = st.length := List.length_map _
    omega
  have ht5 := (same_tk s5).t _ _ ht4
  have aw05 := aw4.same s5
  have ak05 := ak4.same s5
  have ao5 := ao.same s5
  refine ⟨pz, _, rfl, SqT.of e5, rfl, ?_⟩
  walk_at "go"
  refine .mk ⟨pw, weaveS st, kindsS st ks, many, rfl, rfl, aw5, S.good, by omega, by omega, fun pk H6 nk s6 ak6 => ?_⟩
  have ht6 := (same_tk s6).t _ _ ht5
  have aw06 := aw05.same s6
  have ak06 := ak05.same s6
  have ao6 := ao5.same s6
  have aw6 := aw5.same s6
  have aq6 := aq5.same s6
  have lo2 : (outsS st outs).length = outs.length := List.length_map _
  walk_at "go"
  refine ⟨⟨_, SqL.of (acc_raw aq6)⟩, fun J nJ => ?_⟩
  refine loop_list (K := K) (a := pq) (xs := (outsS st outs).map V.int) (fun i H7 => Hold (Same H6 H7 ∧ Acc K H7 J (((outs.take i).map fun o => ks.getD o.toNat .num).map Kd.d)))
    (.mk ⟨same_new nJ, acc_nil upd_same⟩) (fun i H7 _ h => SqL.of (acc_raw (aq6.same h.out.1))) ?_ ?_
  · intro i x H7 hi h
    obtain ⟨s7, a7⟩ := h.out
    rw [List.getElem?_map] at hi
    obtain ⟨o2, ho2, rfl⟩ := Option.map_eq_some_iff.mp hi
    obtain ⟨o, hoi, rfl⟩ := map_at ho2
    have om := List.mem_of_getElem? hoi
    have il := (List.getElem?_eq_some_iff.mp hoi).1
    obtain ⟨x0, x1, xk⟩ := S.out o om
    walk_at "go"
    refine ⟨_, _, ixS st o, (ixS st o).toNat, _, rfl, ak6.same s7, rfl, by omega, by rw [List.getElem?_map, List.getElem?_eq_getElem (by omega)]; rfl, fun v iv => ?_⟩
    have ev : (kindsS st ks)[(ixS st o).toNat]'(by omega) = ks.getD o.toNat .num := by
      rw [← xk, List.getD_eq_getElem?_getD, List.getElem?_eq_getElem (by omega)]
      rfl
    rw [ev] at iv
    obtain ⟨acc, ea, hla, b9, t9, a9⟩ := a7.push iv (by rw [List.length_map, List.length_map, List.length_take]; omega)
    refine ⟨acc, ea, hla, .mk ⟨same_put s7 nJ, ?_⟩⟩
    rw [take_succ hoi, List.map_append, List.map_append]
    exact a9
  intro H7 h
  obtain ⟨s7, aJ⟩ := h.out
  rw [List.length_map, lo2, List.take_length] at aJ
  have ht7 := (same_tk s7).t _ _ ht6
  have ak07 := ak06.same s7
  have ao7 := ao6.same s7
  walk_at "go"
  refine ⟨⟨_, SqL.of (acc_raw ao7)⟩, fun J2 nJ2 => ?_⟩
  refine loop_list (K := K) (a := po) (xs := outs.map V.int) (fun i H8 => Hold (Same H7 H8 ∧ Acc K H8 J2 (((outs.take i).map fun o => ks.getD o.toNat .num).map Kd.d)))
    (.mk ⟨same_new nJ2, acc_nil upd_same⟩) (fun i H8 _ h => SqL.of (acc_raw (ao7.same h.out.1))) ?_ ?_
  · intro i x H8 hi h
    obtain ⟨s8, a8⟩ := h.out
    rw [List.getElem?_map] at hi
    obtain ⟨o, hoi, rfl⟩ := Option.map_eq_some_iff.mp hi
    have om := List.mem_of_getElem? hoi
    have il := (List.getElem?_eq_some_iff.mp hoi).1
    obtain ⟨x0, x1⟩ := ob o om
    have ht8 := (same_tk s8).t _ _ ht7
    walk_at "go"
    refine ⟨_, _, o, o.toNat, _, rfl, ak07.same s8, rfl, by omega, by rw [List.getElem?_map, List.getElem?_eq_getElem (by omega)]; rfl, fun v iv => ?_⟩
    have ev : ks[o.toNat]'(by omega) = ks.getD o.toNat .num := by
      rw [List.getD_eq_getElem?_getD, List.getElem?_eq_getElem (by omega)]
      rfl
    rw [ev] at iv
    obtain ⟨acc, ea, hla, b9, t9, a9⟩ := a8.push iv (by rw [List.length_map, List.length_map, List.length_take]; omega)
    refine ⟨acc, ea, hla, .mk ⟨same_put s8 nJ2, ?_⟩⟩
    rw [take_succ hoi, List.map_append, List.map_append]
    exact a9
  intro H8 h
  obtain ⟨s8, aJ2⟩ := h.out
  rw [List.length_map, List.take_length] at aJ2
  have dk : ∀ k ∈ outs.map (fun o => ks.getD o.toNat .num), k.dp ≤ 8 := fun k hk => by
    obtain ⟨o, ho, rfl⟩ := List.mem_map.mp hk
    have := ob o ho
    rw [List.getD_eq_getElem?_getD, List.getElem?_eq_getElem (by omega)]
    exact Nat.le_trans (dw.dp _ (List.getElem_mem _)) (by decide)
  walk_at "go"
  refine .mk ⟨_, (aJ.same s8).dp, aJ2.dp, Kds_lk _ (by rw [List.length_map]; omega), Nat.lt_of_le_of_lt (Kds_dep _ dk) (by decide), ?_⟩
  have S68 := s7.trans s8
  have aw8 := aw6.same S68
  have aq8 := aq6.same S68
  have ht8 := (same_tk s8).t _ _ ht7
  have aw08 := aw06.same S68
  walk_at "go"
  refine .mk ⟨pw, pq, weaveS st, outsS st outs, rfl, rfl, aw8, aq8, by omega, by omega, good_old S.good, fun H9 s9 => ?_⟩
  rw [S.sb]
  have aw9 := aw8.same s9
  have aq9 := aq8.same s9
  have ht9 := (same_tk s9).t _ _ ht8
  walk_at "go"
  refine ⟨_, _, rfl, aw9, ?_⟩
  walk_at "go"
  refine ⟨_, _, rfl, aw08.same s9, ?_⟩
  rw [List.length_map, List.length_map, lws]
  walk_at "go"
  refine ite_f (decide_eq_false (by omega)) ?_
  walk_at "go"
  have ob2 : ∀ o ∈ outsS st outs, 0 ≤ o ∧ o < ((weaveS st).length : Int) := fun o ho => by
    obtain ⟨x, hx, rfl⟩ := List.mem_map.mp ho
    obtain ⟨x0, x1, _⟩ := S.out x hx
    exact ⟨x0, by rw [lws]; exact x1⟩
  refine .mk ⟨pw, pq, weaveS st, kindsS st ks, outsS st outs, many, rfl, rfl, aw9, aq9, S.good, by omega, by omega, by omega, ob2, good_src S.good (by omega), fun pz2 pw2 pq2 H10 _ _ _ _ s10 e10 aw10 aq10 => ?_⟩
  have S2 := strait_of S.good ob2
  generalize finS (usersL (weaveS st) (outsS st outs)) (weaveS st) = st2 at S2 aw10 aq10
  have sl2 := S2.len
  have lws2 : (weaveS st2).length = st2.length := List.length_map _
  have lo3 : (outsS st2 (outsS st outs)).length = outs.length := (List.length_map _).trans lo2
  walk_at "go"
  refine .mk ⟨pw2, pq2, weaveS st2, outsS st2 (outsS st outs), rfl, rfl, aw10, aq10, by omega, by omega, good_old S2.good, fun H11 s11 => ?_⟩
  rw [S2.sb]
  exact q H11

theorem tx_mk {K : PySem.W.Frag} {w : World} {h : Heap} {mg : Str → Option Value} (X : K.In h) (G : h.Ns mainGlobals mg)
    {f1 : Addr} {od1 an1 : Option Addr} {sl1 : Array (Option Value)} {oc1 kV1 dc1 pm1 cd1 ct1 : Value}
    {f2 : Addr} {od2 an2 : Option Addr} {sl2 : Array (Option Value)} {oc2 kV2 dc2 pm2 cd2 ct2 : Value}
    {f3 : Addr} {od3 an3 : Option Addr} {sl3 : Array (Option Value)} {oc3 kV3 dc3 pm3 cd3 ct3 : Value}
    {f4 : Addr} {od4 an4 : Option Addr} {sl4 : Array (Option Value)} {oc4 kV4 dc4 pm4 cd4 ct4 : Value}
    {f5 : Addr} {od5 an5 : Option Addr} {sl5 : Array (Option Value)} {oc5 kV5 dc5 pm5 cd5 ct5 : Value}
    {f6 : Addr} {od6 an6 : Option Addr} {sl6 : Array (Option Value)} {oc6 kV6 dc6 pm6 cd6 ct6 : Value}
    {f7 : Addr} {od7 an7 : Option Addr} {sl7 : Array (Option Value)} {oc7 kV7 dc7 pm7 cd7 ct7 : Value}
    {f8 : Addr} {od8 an8 : Option Addr} {sl8 : Array (Option Value)} {oc8 kV8 dc8 pm8 cd8 ct8 : Value}
    {f9 : Addr} {od9 an9 : Option Addr} {sl9 : Array (Option Value)} {oc9 kV9 dc9 pm9 cd9 ct9 : Value}
    {f10 : Addr} {od10 an10 : Option Addr} {sl10 : Array (Option Value)} {oc10 kV10 dc10 pm10 cd10 ct10 : Value}
    {f11 : Addr} {od11 an11 : Option Addr} {sl11 : Array (Option Value)} {oc11 kV11 dc11 pm11 cd11 ct11 : Value}
    {f12 : Addr} {od12 an12 : Option Addr} {sl12 : Array (Option Value)} {oc12 kV12 dc12 pm12 cd12 ct12 : Value}
    {f13 : Addr} {od13 an13 : Option Addr} {sl13 : Array (Option Value)} {oc13 kV13 dc13 pm13 cd13 ct13 : Value}
    {f14 : Addr} {od14 an14 : Option Addr} {sl14 : Array (Option Value)} {oc14 kV14 dc14 pm14 cd14 ct14 : Value}
    {f15 : Addr} {od15 an15 : Option Addr} {sl15 : Array (Option Value)} {oc15 kV15 dc15 pm15 cd15 ct15 : Value}
    {f16 : Addr} {od16 an16 : Option Addr} {sl16 : Array (Option Value)} {oc16 kV16 dc16 pm16 cd16 ct16 : Value}
    {f17 : Addr} {od17 an17 : Option Addr} {sl17 : Array (Option Value)} {oc17 kV17 dc17 pm17 cd17 ct17 : Value}
    {f18 : Addr} {od18 an18 : Option Addr} {sl18 : Array (Option Value)} {oc18 kV18 dc18 pm18 cd18 ct18 : Value}
    {f19 : Addr} {od19 an19 : Option Addr} {sl19 : Array (Option Value)} {oc19 kV19 dc19 pm19 cd19 ct19 : Value}
    {f20 : Addr} {od20 an20 : Option Addr} {sl20 : Array (Option Value)} {oc20 kV20 dc20 pm20 cd20 ct20 : Value}
    {f21 : Addr} {od21 an21 : Option Addr} {sl21 : Array (Option Value)} {oc21 kV21 dc21 pm21 cd21 ct21 : Value}
    {f22 : Addr} {od22 an22 : Option Addr} {sl22 : Array (Option Value)} {oc22 kV22 dc22 pm22 cd22 ct22 : Value}
    {f23 : Addr} {od23 an23 : Option Addr} {sl23 : Array (Option Value)} {oc23 kV23 dc23 pm23 cd23 ct23 : Value}
    {f24 : Addr} {od24 an24 : Option Addr} {sl24 : Array (Option Value)} {oc24 kV24 dc24 pm24 cd24 ct24 : Value}
    {f25 : Addr} {od25 an25 : Option Addr} {sl25 : Array (Option Value)} {oc25 kV25 dc25 pm25 cd25 ct25 : Value}
    {f26 : Addr} {od26 an26 : Option Addr} {sl26 : Array (Option Value)} {oc26 kV26 dc26 pm26 cd26 ct26 : Value}
    {f27 : Addr} {od27 an27 : Option Addr} {sl27 : Array (Option Value)} {oc27 kV27 dc27 pm27 cd27 ct27 : Value}
    {f28 : Addr} {od28 an28 : Option Addr} {sl28 : Array (Option Value)} {oc28 kV28 dc28 pm28 cd28 ct28 : Value}
    {f29 : Addr} {od29 an29 : Option Addr} {sl29 : Array (Option Value)} {oc29 kV29 dc29 pm29 cd29 ct29 : Value}
    {f30 : Addr} {od30 an30 : Option Addr} {sl30 : Array (Option Value)} {oc30 kV30 dc30 pm30 cd30 ct30 : Value}
    {f31 : Addr} {od31 an31 : Option Addr} {sl31 : Array (Option Value)} {oc31 kV31 dc31 pm31 cd31 ct31 : Value}
    {f32 : Addr} {od32 an32 : Option Addr} {sl32 : Array (Option Value)} {oc32 kV32 dc32 pm32 cd32 ct32 : Value}
    {f33 : Addr} {od33 an33 : Option Addr} {sl33 : Array (Option Value)} {oc33 kV33 dc33 pm33 cd33 ct33 : Value}
    {f34 : Addr} {od34 an34 : Option Addr} {sl34 : Array (Option Value)} {oc34 kV34 dc34 pm34 cd34 ct34 : Value}
    {ta1 : Addr} {tb1 : Option Addr} {tc1 : Array Value} {td1 : Nat} {te1 : Array (Option Value)}
    {t1 : Tok}
    {t2 : Tok}
    {t3 : Tok}
    {t4 : Tok}
    {t5 : Tok}
    {ts1 : Tok}
    (a1 : PySem.W.nsIn K mainGlobals "_law_dice" = some (some (.ref f1))) (l1 : K.lookup f1 = some ⟨oc1, od1, .func (PySem.W.fnOf "_law_dice" "_law_dice" (defArgs s__law_dice) (defBody s__law_dice) (defScope s__law_dice) .none kV1 dc1 pm1 an1 cd1 ct1), sl1⟩) (c1 : PySem.W.codeIn K cd1 "_law_dice" = true) (k1 : PySem.W.keepIn K (.ref f1) = true)
    (a2 : PySem.W.nsIn K mainGlobals "_law_next" = some (some (.ref f2))) (l2 : K.lookup f2 = some ⟨oc2, od2, .func (PySem.W.fnOf "_law_next" "_law_next" (defArgs s__law_next) (defBody s__law_next) (defScope s__law_next) .none kV2 dc2 pm2 an2 cd2 ct2), sl2⟩) (c2 : PySem.W.codeIn K cd2 "_law_next" = true) (k2 : PySem.W.keepIn K (.ref f2) = true)
    (a3 : PySem.W.nsIn K mainGlobals "_law_number" = some (some (.ref f3))) (l3 : K.lookup f3 = some ⟨oc3, od3, .func (PySem.W.fnOf "_law_number" "_law_number" (defArgs s__law_number) (defBody s__law_number) (defScope s__law_number) .none kV3 dc3 pm3 an3 cd3 ct3), sl3⟩) (c3 : PySem.W.codeIn K cd3 "_law_number" = true) (k3 : PySem.W.keepIn K (.ref f3) = true)
    (a4 : PySem.W.nsIn K mainGlobals "_law_tests" = some (some (.ref f4))) (l4 : K.lookup f4 = some ⟨oc4, od4, .func (PySem.W.fnOf "_law_tests" "_law_tests" (defArgs s__law_tests) (defBody s__law_tests) (defScope s__law_tests) .none kV4 dc4 pm4 an4 cd4 ct4), sl4⟩) (c4 : PySem.W.codeIn K cd4 "_law_tests" = true) (k4 : PySem.W.keepIn K (.ref f4) = true)
    (a5 : PySem.W.nsIn K mainGlobals "_law_deeds" = some (some (.ref f5))) (l5 : K.lookup f5 = some ⟨oc5, od5, .func (PySem.W.fnOf "_law_deeds" "_law_deeds" (defArgs s__law_deeds) (defBody s__law_deeds) (defScope s__law_deeds) .none kV5 dc5 pm5 an5 cd5 ct5), sl5⟩) (c5 : PySem.W.codeIn K cd5 "_law_deeds" = true) (k5 : PySem.W.keepIn K (.ref f5) = true)
    (a6 : PySem.W.nsIn K mainGlobals "_law_long" = some (some (.ref f6))) (l6 : K.lookup f6 = some ⟨oc6, od6, .func (PySem.W.fnOf "_law_long" "_law_long" (defArgs s__law_long) (defBody s__law_long) (defScope s__law_long) .none kV6 dc6 pm6 an6 cd6 ct6), sl6⟩) (c6 : PySem.W.codeIn K cd6 "_law_long" = true) (k6 : PySem.W.keepIn K (.ref f6) = true)
    (a7 : PySem.W.nsIn K mainGlobals "_law_line" = some (some (.ref f7))) (l7 : K.lookup f7 = some ⟨oc7, od7, .func (PySem.W.fnOf "_law_line" "_law_line" (defArgs s__law_line) (defBody s__law_line) (defScope s__law_line) .none kV7 dc7 pm7 an7 cd7 ct7), sl7⟩) (c7 : PySem.W.codeIn K cd7 "_law_line" = true) (k7 : PySem.W.keepIn K (.ref f7) = true)
    (a8 : PySem.W.nsIn K mainGlobals "_law_kind" = some (some (.ref f8))) (l8 : K.lookup f8 = some ⟨oc8, od8, .func (PySem.W.fnOf "_law_kind" "_law_kind" (defArgs s__law_kind) (defBody s__law_kind) (defScope s__law_kind) .none kV8 dc8 pm8 an8 cd8 ct8), sl8⟩) (c8 : PySem.W.codeIn K cd8 "_law_kind" = true) (k8 : PySem.W.keepIn K (.ref f8) = true)
    (a9 : PySem.W.nsIn K mainGlobals "_law_weave" = some (some (.ref f9))) (l9 : K.lookup f9 = some ⟨oc9, od9, .func (PySem.W.fnOf "_law_weave" "_law_weave" (defArgs s__law_weave) (defBody s__law_weave) (defScope s__law_weave) .none kV9 dc9 pm9 an9 cd9 ct9), sl9⟩) (c9 : PySem.W.codeIn K cd9 "_law_weave" = true) (k9 : PySem.W.keepIn K (.ref f9) = true)
    (a10 : PySem.W.nsIn K mainGlobals "_law_outs" = some (some (.ref f10))) (l10 : K.lookup f10 = some ⟨oc10, od10, .func (PySem.W.fnOf "_law_outs" "_law_outs" (defArgs s__law_outs) (defBody s__law_outs) (defScope s__law_outs) .none kV10 dc10 pm10 an10 cd10 ct10), sl10⟩) (c10 : PySem.W.codeIn K cd10 "_law_outs" = true) (k10 : PySem.W.keepIn K (.ref f10) = true)
    (a11 : PySem.W.nsIn K mainGlobals "kind_done" = some (some (.ref f11))) (l11 : K.lookup f11 = some ⟨oc11, od11, .func (PySem.W.fnOf "kind_done" "kind_done" (defArgs s_kind_done) (defBody s_kind_done) (defScope s_kind_done) .none kV11 dc11 pm11 an11 cd11 ct11), sl11⟩) (c11 : PySem.W.codeIn K cd11 "kind_done" = true) (k11 : PySem.W.keepIn K (.ref f11) = true)
    (a12 : PySem.W.nsIn K mainGlobals "kind_made" = some (some (.ref f12))) (l12 : K.lookup f12 = some ⟨oc12, od12, .func (PySem.W.fnOf "kind_made" "kind_made" (defArgs s_kind_made) (defBody s_kind_made) (defScope s_kind_made) .none kV12 dc12 pm12 an12 cd12 ct12), sl12⟩) (c12 : PySem.W.codeIn K cd12 "kind_made" = true) (k12 : PySem.W.keepIn K (.ref f12) = true)
    (a13 : PySem.W.nsIn K mainGlobals "kind_of" = some (some (.ref f13))) (l13 : K.lookup f13 = some ⟨oc13, od13, .func (PySem.W.fnOf "kind_of" "kind_of" (defArgs s_kind_of) (defBody s_kind_of) (defScope s_kind_of) .none kV13 dc13 pm13 an13 cd13 ct13), sl13⟩) (c13 : PySem.W.codeIn K cd13 "kind_of" = true) (k13 : PySem.W.keepIn K (.ref f13) = true)
    (a14 : PySem.W.nsIn K mainGlobals "named" = some (some (.ref f14))) (l14 : K.lookup f14 = some ⟨oc14, od14, .func (PySem.W.fnOf "named" "named" (defArgs s_named) (defBody s_named) (defScope s_named) .none kV14 dc14 pm14 an14 cd14 ct14), sl14⟩) (c14 : PySem.W.codeIn K cd14 "named" = true) (k14 : PySem.W.keepIn K (.ref f14) = true)
    (a15 : PySem.W.nsIn K mainGlobals "place_can_be" = some (some (.ref f15))) (l15 : K.lookup f15 = some ⟨oc15, od15, .func (PySem.W.fnOf "place_can_be" "place_can_be" (defArgs s_place_can_be) (defBody s_place_can_be) (defScope s_place_can_be) .none kV15 dc15 pm15 an15 cd15 ct15), sl15⟩) (c15 : PySem.W.codeIn K cd15 "place_can_be" = true) (k15 : PySem.W.keepIn K (.ref f15) = true)
    (a16 : PySem.W.nsIn K mainGlobals "is_number" = some (some (.ref f16))) (l16 : K.lookup f16 = some ⟨oc16, od16, .func (PySem.W.fnOf "is_number" "is_number" (defArgs s_is_number) (defBody s_is_number) (defScope s_is_number) .none kV16 dc16 pm16 an16 cd16 ct16), sl16⟩) (c16 : PySem.W.codeIn K cd16 "is_number" = true) (k16 : PySem.W.keepIn K (.ref f16) = true)
    (a17 : PySem.W.nsIn K mainGlobals "deeds_can_be" = some (some (.ref f17))) (l17 : K.lookup f17 = some ⟨oc17, od17, .func (PySem.W.fnOf "deeds_can_be" "deeds_can_be" (defArgs s_deeds_can_be) (defBody s_deeds_can_be) (defScope s_deeds_can_be) .none kV17 dc17 pm17 an17 cd17 ct17), sl17⟩) (c17 : PySem.W.codeIn K cd17 "deeds_can_be" = true) (k17 : PySem.W.keepIn K (.ref f17) = true)
    (a18 : PySem.W.nsIn K mainGlobals "test_can_be" = some (some (.ref f18))) (l18 : K.lookup f18 = some ⟨oc18, od18, .func (PySem.W.fnOf "test_can_be" "test_can_be" (defArgs s_test_can_be) (defBody s_test_can_be) (defScope s_test_can_be) .none kV18 dc18 pm18 an18 cd18 ct18), sl18⟩) (c18 : PySem.W.codeIn K cd18 "test_can_be" = true) (k18 : PySem.W.keepIn K (.ref f18) = true)
    (a19 : PySem.W.nsIn K mainGlobals "tests_can_be" = some (some (.ref f19))) (l19 : K.lookup f19 = some ⟨oc19, od19, .func (PySem.W.fnOf "tests_can_be" "tests_can_be" (defArgs s_tests_can_be) (defBody s_tests_can_be) (defScope s_tests_can_be) .none kV19 dc19 pm19 an19 cd19 ct19), sl19⟩) (c19 : PySem.W.codeIn K cd19 "tests_can_be" = true) (k19 : PySem.W.keepIn K (.ref f19) = true)
    (a20 : PySem.W.nsIn K mainGlobals "numbers_can_be" = some (some (.ref f20))) (l20 : K.lookup f20 = some ⟨oc20, od20, .func (PySem.W.fnOf "numbers_can_be" "numbers_can_be" (defArgs s_numbers_can_be) (defBody s_numbers_can_be) (defScope s_numbers_can_be) .none kV20 dc20 pm20 an20 cd20 ct20), sl20⟩) (c20 : PySem.W.codeIn K cd20 "numbers_can_be" = true) (k20 : PySem.W.keepIn K (.ref f20) = true)
    (a21 : PySem.W.nsIn K mainGlobals "looked" = some (some (.ref f21))) (l21 : K.lookup f21 = some ⟨oc21, od21, .func (PySem.W.fnOf "looked" "looked" (defArgs s_looked) (defBody s_looked) (defScope s_looked) .none kV21 dc21 pm21 an21 cd21 ct21), sl21⟩) (c21 : PySem.W.codeIn K cd21 "looked" = true) (k21 : PySem.W.keepIn K (.ref f21) = true)
    (a22 : PySem.W.nsIn K mainGlobals "outs_looked" = some (some (.ref f22))) (l22 : K.lookup f22 = some ⟨oc22, od22, .func (PySem.W.fnOf "outs_looked" "outs_looked" (defArgs s_outs_looked) (defBody s_outs_looked) (defScope s_outs_looked) .none kV22 dc22 pm22 an22 cd22 ct22), sl22⟩) (c22 : PySem.W.codeIn K cd22 "outs_looked" = true) (k22 : PySem.W.keepIn K (.ref f22) = true)
    (a23 : PySem.W.nsIn K mainGlobals "users_of" = some (some (.ref f23))) (l23 : K.lookup f23 = some ⟨oc23, od23, .func (PySem.W.fnOf "users_of" "users_of" (defArgs s_users_of) (defBody s_users_of) (defScope s_users_of) .none kV23 dc23 pm23 an23 cd23 ct23), sl23⟩) (c23 : PySem.W.codeIn K cd23 "users_of" = true) (k23 : PySem.W.keepIn K (.ref f23) = true)
    (a24 : PySem.W.nsIn K mainGlobals "sources_told" = some (some (.ref f24))) (l24 : K.lookup f24 = some ⟨oc24, od24, .func (PySem.W.fnOf "sources_told" "sources_told" (defArgs s_sources_told) (defBody s_sources_told) (defScope s_sources_told) .none kV24 dc24 pm24 an24 cd24 ct24), sl24⟩) (c24 : PySem.W.codeIn K cd24 "sources_told" = true) (k24 : PySem.W.keepIn K (.ref f24) = true)
    (a25 : PySem.W.nsIn K mainGlobals "can_be_one" = some (some (.ref f25))) (l25 : K.lookup f25 = some ⟨oc25, od25, .func (PySem.W.fnOf "can_be_one" "can_be_one" (defArgs s_can_be_one) (defBody s_can_be_one) (defScope s_can_be_one) .none kV25 dc25 pm25 an25 cd25 ct25), sl25⟩) (c25 : PySem.W.codeIn K cd25 "can_be_one" = true) (k25 : PySem.W.keepIn K (.ref f25) = true)
    (a26 : PySem.W.nsIn K mainGlobals "joined" = some (some (.ref f26))) (l26 : K.lookup f26 = some ⟨oc26, od26, .func (PySem.W.fnOf "joined" "joined" (defArgs s_joined) (defBody s_joined) (defScope s_joined) .none kV26 dc26 pm26 an26 cd26 ct26), sl26⟩) (c26 : PySem.W.codeIn K cd26 "joined" = true) (k26 : PySem.W.keepIn K (.ref f26) = true)
    (a27 : PySem.W.nsIn K mainGlobals "renumbered" = some (some (.ref f27))) (l27 : K.lookup f27 = some ⟨oc27, od27, .func (PySem.W.fnOf "renumbered" "renumbered" (defArgs s_renumbered) (defBody s_renumbered) (defScope s_renumbered) .none kV27 dc27 pm27 an27 cd27 ct27), sl27⟩) (c27 : PySem.W.codeIn K cd27 "renumbered" = true) (k27 : PySem.W.keepIn K (.ref f27) = true)
    (a28 : PySem.W.nsIn K mainGlobals "straight" = some (some (.ref f28))) (l28 : K.lookup f28 = some ⟨oc28, od28, .func (PySem.W.fnOf "straight" "straight" (defArgs s_straight) (defBody s_straight) (defScope s_straight) .none kV28 dc28 pm28 an28 cd28 ct28), sl28⟩) (c28 : PySem.W.codeIn K cd28 "straight" = true) (k28 : PySem.W.keepIn K (.ref f28) = true)
    (a29 : PySem.W.nsIn K mainGlobals "_law_named" = some (some (.ref f29))) (l29 : K.lookup f29 = some ⟨oc29, od29, .func (PySem.W.fnOf "_law_named" "_law_named" (defArgs s__law_named) (defBody s__law_named) (defScope s__law_named) .none kV29 dc29 pm29 an29 cd29 ct29), sl29⟩) (c29 : PySem.W.codeIn K cd29 "_law_named" = true) (k29 : PySem.W.keepIn K (.ref f29) = true)
    (a30 : PySem.W.nsIn K mainGlobals "_law_fuses" = some (some (.ref f30))) (l30 : K.lookup f30 = some ⟨oc30, od30, .func (PySem.W.fnOf "_law_fuses" "_law_fuses" (defArgs s__law_fuses) (defBody s__law_fuses) (defScope s__law_fuses) .none kV30 dc30 pm30 an30 cd30 ct30), sl30⟩) (c30 : PySem.W.codeIn K cd30 "_law_fuses" = true) (k30 : PySem.W.keepIn K (.ref f30) = true)
    (a31 : PySem.W.nsIn K mainGlobals "_law_is_straight" = some (some (.ref f31))) (l31 : K.lookup f31 = some ⟨oc31, od31, .func (PySem.W.fnOf "_law_is_straight" "_law_is_straight" (defArgs s__law_is_straight) (defBody s__law_is_straight) (defScope s__law_is_straight) .none kV31 dc31 pm31 an31 cd31 ct31), sl31⟩) (c31 : PySem.W.codeIn K cd31 "_law_is_straight" = true) (k31 : PySem.W.keepIn K (.ref f31) = true)
    (a32 : PySem.W.nsIn K mainGlobals "_law_longer" = some (some (.ref f32))) (l32 : K.lookup f32 = some ⟨oc32, od32, .func (PySem.W.fnOf "_law_longer" "_law_longer" (defArgs s__law_longer) (defBody s__law_longer) (defScope s__law_longer) .none kV32 dc32 pm32 an32 cd32 ct32), sl32⟩) (c32 : PySem.W.codeIn K cd32 "_law_longer" = true) (k32 : PySem.W.keepIn K (.ref f32) = true)
    (a33 : PySem.W.nsIn K mainGlobals "_law_like" = some (some (.ref f33))) (l33 : K.lookup f33 = some ⟨oc33, od33, .func (PySem.W.fnOf "_law_like" "_law_like" (defArgs s__law_like) (defBody s__law_like) (defScope s__law_like) .none kV33 dc33 pm33 an33 cd33 ct33), sl33⟩) (c33 : PySem.W.codeIn K cd33 "_law_like" = true) (k33 : PySem.W.keepIn K (.ref f33) = true)
    (a34 : PySem.W.nsIn K mainGlobals "law" = some (some (.ref f34))) (l34 : K.lookup f34 = some ⟨oc34, od34, .func (PySem.W.fnOf "law" "law" (defArgs s_law) (defBody s_law) (defScope s_law) .none kV34 dc34 pm34 an34 cd34 ct34), sl34⟩) (c34 : PySem.W.codeIn K cd34 "law" = true) (k34 : PySem.W.keepIn K (.ref f34) = true)
    (tq1a : PySem.W.nsIn K mainGlobals "JOINED" = some (some (.ref ta1))) (tq1b : K.lookup ta1 = some ⟨.type "tuple", tb1, .seq tc1 td1, te1⟩) (tq1c : tc1.size ≤ sizeLine) (tq1d : tc1.toList.map textOf = (["map", "keep", "while", "take", "skip"] : List Str).map some)
    (i1 : PySem.W.nsIn K mainGlobals "REST" = some (some (.int 1000003 t1)))
    (i2 : PySem.W.nsIn K mainGlobals "LONGEST" = some (some (.int 64 t2)))
    (i3 : PySem.W.nsIn K mainGlobals "MOST_LINES" = some (some (.int 24 t3)))
    (i4 : PySem.W.nsIn K mainGlobals "MOST_TAKEN" = some (some (.int 9999 t4)))
    (i5 : PySem.W.nsIn K mainGlobals "WIDEST" = some (some (.int 9 t5)))
    (s1 : PySem.W.nsIn K mainGlobals "NUMBER" = some (some (.str "number" ts1)))
    (z1 : PySem.W.nsIn K mainGlobals "all" = some none)
    (z2 : PySem.W.nsIn K mainGlobals "bool" = some none)
    (z3 : PySem.W.nsIn K mainGlobals "enumerate" = some none)
    (z4 : PySem.W.nsIn K mainGlobals "int" = some none)
    (z5 : PySem.W.nsIn K mainGlobals "isinstance" = some none)
    (z6 : PySem.W.nsIn K mainGlobals "len" = some none)
    (z7 : PySem.W.nsIn K mainGlobals "list" = some none)
    (z8 : PySem.W.nsIn K mainGlobals "max" = some none)
    (z9 : PySem.W.nsIn K mainGlobals "min" = some none)
    (z10 : PySem.W.nsIn K mainGlobals "range" = some none)
    (z11 : PySem.W.nsIn K mainGlobals "reversed" = some none)
    (z12 : PySem.W.nsIn K mainGlobals "str" = some none)
    (z13 : PySem.W.nsIn K mainGlobals "tuple" = some none) :
    ∃ T : Tx K w mg, T.law.f = f34 ∧ ∀ (s : Shared) (v : Value), BindsTo s T.law.fd ⟨[v], []⟩ [("_law_script", v)] := by
  have F1 := fun_mk (st := s__law_dice) l1 c1 k1
  have b1 := F1.binds (ps := ["_law_script"]) fun _ _ _ _ _ _ us hl => match us, hl with | [_], _ => rfl
  have F2 := fun_mk (st := s__law_next) l2 c2 k2
  have b2 := F2.binds (ps := ["_law_dice_here", "_law_many"]) fun _ _ _ _ _ _ us hl => match us, hl with | [_, _], _ => rfl
  have F3 := fun_mk (st := s__law_number) l3 c3 k3
  have b3 := F3.binds (ps := ["_law_d"]) fun _ _ _ _ _ _ us hl => match us, hl with | [_], _ => rfl
  have F4 := fun_mk (st := s__law_tests) l4 c4 k4
  have b4 := F4.binds (ps := ["_law_d"]) fun _ _ _ _ _ _ us hl => match us, hl with | [_], _ => rfl
  have F5 := fun_mk (st := s__law_deeds) l5 c5 k5
  have b5 := F5.binds (ps := ["_law_d", "_law_kind_here"]) fun _ _ _ _ _ _ us hl => match us, hl with | [_, _], _ => rfl
  have F6 := fun_mk (st := s__law_long) l6 c6 k6
  have b6 := F6.binds (ps := ["_law_d"]) fun _ _ _ _ _ _ us hl => match us, hl with | [_], _ => rfl
  have F7 := fun_mk (st := s__law_line) l7 c7 k7
  have b7 := F7.binds (ps := ["_law_d", "_law_kinds"]) fun _ _ _ _ _ _ us hl => match us, hl with | [_, _], _ => rfl
  have F8 := fun_mk (st := s__law_kind) l8 c8 k8
  have b8 := F8.binds (ps := ["_law_line_here", "_law_kinds"]) fun _ _ _ _ _ _ us hl => match us, hl with | [_, _], _ => rfl
  have F9 := fun_mk (st := s__law_weave) l9 c9 k9
  have b9 := F9.binds (ps := ["_law_d"]) fun _ _ _ _ _ _ us hl => match us, hl with | [_], _ => rfl
  have F10 := fun_mk (st := s__law_outs) l10 c10 k10
  have b10 := F10.binds (ps := ["_law_d", "_law_weave_here"]) fun _ _ _ _ _ _ us hl => match us, hl with | [_, _], _ => rfl
  have F11 := fun_mk (st := s_kind_done) l11 c11 k11
  have b11 := F11.binds (ps := ["word", "kind"]) fun _ _ _ _ _ _ us hl => match us, hl with | [_, _], _ => rfl
  have F12 := fun_mk (st := s_kind_made) l12 c12 k12
  have b12 := F12.binds (ps := ["deeds", "kind"]) fun _ _ _ _ _ _ us hl => match us, hl with | [_, _], _ => rfl
  have F13 := fun_mk (st := s_kind_of) l13 c13 k13
  have b13 := F13.binds (ps := ["line", "kinds"]) fun _ _ _ _ _ _ us hl => match us, hl with | [_, _], _ => rfl
  have F14 := fun_mk (st := s_named) l14 c14 k14
  have b14 := F14.binds (ps := ["line"]) fun _ _ _ _ _ _ us hl => match us, hl with | [_], _ => rfl
  have F15 := fun_mk (st := s_place_can_be) l15 c15 k15
  have b15 := F15.binds (ps := ["line", "at", "many", "sources"]) fun _ _ _ _ _ _ us hl => match us, hl with | [_, _, _, _], _ => rfl
  have F16 := fun_mk (st := s_is_number) l16 c16 k16
  have b16 := F16.binds (ps := ["number"]) fun _ _ _ _ _ _ us hl => match us, hl with | [_], _ => rfl
  have F17 := fun_mk (st := s_deeds_can_be) l17 c17 k17
  have b17 := F17.binds (ps := ["deeds"]) fun _ _ _ _ _ _ us hl => match us, hl with | [_], _ => rfl
  have F18 := fun_mk (st := s_test_can_be) l18 c18 k18
  have b18 := F18.binds (ps := ["test"]) fun _ _ _ _ _ _ us hl => match us, hl with | [_], _ => rfl
  have F19 := fun_mk (st := s_tests_can_be) l19 c19 k19
  have b19 := F19.binds (ps := ["tests"]) fun _ _ _ _ _ _ us hl => match us, hl with | [_], _ => rfl
  have F20 := fun_mk (st := s_numbers_can_be) l20 c20 k20
  have b20 := F20.binds (ps := ["line"]) fun _ _ _ _ _ _ us hl => match us, hl with | [_], _ => rfl
  have F21 := fun_mk (st := s_looked) l21 c21 k21
  have b21 := F21.binds (ps := ["weave", "many"]) fun _ _ _ _ _ _ us hl => match us, hl with | [_, _], _ => rfl
  have F22 := fun_mk (st := s_outs_looked) l22 c22 k22
  have b22 := F22.binds (ps := ["weave", "outs"]) fun _ _ _ _ _ _ us hl => match us, hl with | [_, _], _ => rfl
  have F23 := fun_mk (st := s_users_of) l23 c23 k23
  have b23 := F23.binds (ps := ["weave", "outs"]) fun _ _ _ _ _ _ us hl => match us, hl with | [_, _], _ => rfl
  have F24 := fun_mk (st := s_sources_told) l24 c24 k24
  have b24 := F24.binds (ps := ["weave"]) fun _ _ _ _ _ _ us hl => match us, hl with | [_], _ => rfl
  have F25 := fun_mk (st := s_can_be_one) l25 c25 k25
  have b25 := F25.binds (ps := ["ahead", "line"]) fun _ _ _ _ _ _ us hl => match us, hl with | [_, _], _ => rfl
  have F26 := fun_mk (st := s_joined) l26 c26 k26
  have b26 := F26.binds (ps := ["ahead", "line"]) fun _ _ _ _ _ _ us hl => match us, hl with | [_, _], _ => rfl
  have F27 := fun_mk (st := s_renumbered) l27 c27 k27
  have b27 := F27.binds (ps := ["line", "numbers"]) fun _ _ _ _ _ _ us hl => match us, hl with | [_, _], _ => rfl
  have F28 := fun_mk (st := s_straight) l28 c28 k28
  have b28 := F28.binds (ps := ["weave", "outs"]) fun _ _ _ _ _ _ us hl => match us, hl with | [_, _], _ => rfl
  have F29 := fun_mk (st := s__law_named) l29 c29 k29
  have b29 := F29.binds (ps := ["_law_line_here"]) fun _ _ _ _ _ _ us hl => match us, hl with | [_], _ => rfl
  have F30 := fun_mk (st := s__law_fuses) l30 c30 k30
  have b30 := F30.binds (ps := ["_law_line_here", "_law_inner"]) fun _ _ _ _ _ _ us hl => match us, hl with | [_, _], _ => rfl
  have F31 := fun_mk (st := s__law_is_straight) l31 c31 k31
  have b31 := F31.binds (ps := ["_law_weave_here", "_law_outs_here"]) fun _ _ _ _ _ _ us hl => match us, hl with | [_, _], _ => rfl
  have F32 := fun_mk (st := s__law_longer) l32 c32 k32
  have b32 := F32.binds (ps := ["_law_d"]) fun _ _ _ _ _ _ us hl => match us, hl with | [_], _ => rfl
  have F33 := fun_mk (st := s__law_like) l33 c33 k33
  have b33 := F33.binds (ps := ["_law_found", "_law_due"]) fun _ _ _ _ _ _ us hl => match us, hl with | [_, _], _ => rfl
  have F34 := fun_mk (st := s_law) l34 c34 k34
  have b34 := F34.binds (ps := ["_law_script"]) fun _ _ _ _ _ _ us hl => match us, hl with | [_], _ => rfl
  exact ⟨{
    _law_dice := ⟨f1, _, F1, b1, PySem.W.mg_of X G a1⟩
    _law_next := ⟨f2, _, F2, b2, PySem.W.mg_of X G a2⟩
    _law_number := ⟨f3, _, F3, b3, PySem.W.mg_of X G a3⟩
    _law_tests := ⟨f4, _, F4, b4, PySem.W.mg_of X G a4⟩
    _law_deeds := ⟨f5, _, F5, b5, PySem.W.mg_of X G a5⟩
    _law_long := ⟨f6, _, F6, b6, PySem.W.mg_of X G a6⟩
    _law_line := ⟨f7, _, F7, b7, PySem.W.mg_of X G a7⟩
    _law_kind := ⟨f8, _, F8, b8, PySem.W.mg_of X G a8⟩
    _law_weave := ⟨f9, _, F9, b9, PySem.W.mg_of X G a9⟩
    _law_outs := ⟨f10, _, F10, b10, PySem.W.mg_of X G a10⟩
    kind_done := ⟨f11, _, F11, b11, PySem.W.mg_of X G a11⟩
    kind_made := ⟨f12, _, F12, b12, PySem.W.mg_of X G a12⟩
    kind_of := ⟨f13, _, F13, b13, PySem.W.mg_of X G a13⟩
    named := ⟨f14, _, F14, b14, PySem.W.mg_of X G a14⟩
    place_can_be := ⟨f15, _, F15, b15, PySem.W.mg_of X G a15⟩
    is_number := ⟨f16, _, F16, b16, PySem.W.mg_of X G a16⟩
    deeds_can_be := ⟨f17, _, F17, b17, PySem.W.mg_of X G a17⟩
    test_can_be := ⟨f18, _, F18, b18, PySem.W.mg_of X G a18⟩
    tests_can_be := ⟨f19, _, F19, b19, PySem.W.mg_of X G a19⟩
    numbers_can_be := ⟨f20, _, F20, b20, PySem.W.mg_of X G a20⟩
    looked := ⟨f21, _, F21, b21, PySem.W.mg_of X G a21⟩
    outs_looked := ⟨f22, _, F22, b22, PySem.W.mg_of X G a22⟩
    users_of := ⟨f23, _, F23, b23, PySem.W.mg_of X G a23⟩
    sources_told := ⟨f24, _, F24, b24, PySem.W.mg_of X G a24⟩
    can_be_one := ⟨f25, _, F25, b25, PySem.W.mg_of X G a25⟩
    joined := ⟨f26, _, F26, b26, PySem.W.mg_of X G a26⟩
    renumbered := ⟨f27, _, F27, b27, PySem.W.mg_of X G a27⟩
    straight := ⟨f28, _, F28, b28, PySem.W.mg_of X G a28⟩
    _law_named := ⟨f29, _, F29, b29, PySem.W.mg_of X G a29⟩
    _law_fuses := ⟨f30, _, F30, b30, PySem.W.mg_of X G a30⟩
    _law_is_straight := ⟨f31, _, F31, b31, PySem.W.mg_of X G a31⟩
    _law_longer := ⟨f32, _, F32, b32, PySem.W.mg_of X G a32⟩
    _law_like := ⟨f33, _, F33, b33, PySem.W.mg_of X G a33⟩
    law := ⟨f34, _, F34, b34, PySem.W.mg_of X G a34⟩
    c_JOINED := ⟨ta1, PySem.W.mg_of X G tq1a, fun H => tup_mk tq1b rfl rfl tq1c tq1d H⟩
    c_REST := ⟨t1, PySem.W.mg_of X G i1⟩
    c_LONGEST := ⟨t2, PySem.W.mg_of X G i2⟩
    c_MOST_LINES := ⟨t3, PySem.W.mg_of X G i3⟩
    c_MOST_TAKEN := ⟨t4, PySem.W.mg_of X G i4⟩
    c_WIDEST := ⟨t5, PySem.W.mg_of X G i5⟩
    c_NUMBER := ⟨ts1, PySem.W.mg_of X G s1⟩
    z_all := PySem.W.mg_none_of X G z1
    z_bool := PySem.W.mg_none_of X G z2
    z_enumerate := PySem.W.mg_none_of X G z3
    z_int := PySem.W.mg_none_of X G z4
    z_isinstance := PySem.W.mg_none_of X G z5
    z_len := PySem.W.mg_none_of X G z6
    z_list := PySem.W.mg_none_of X G z7
    z_max := PySem.W.mg_none_of X G z8
    z_min := PySem.W.mg_none_of X G z9
    z_range := PySem.W.mg_none_of X G z10
    z_reversed := PySem.W.mg_none_of X G z11
    z_str := PySem.W.mg_none_of X G z12
    z_tuple := PySem.W.mg_none_of X G z13
  }, rfl, fun s v => .of_eq rfl⟩
theorem walk {l : PySem.W.OpenLaw} {q : Program} {loose : List Str} {XP : (Str → Option Value) → Heap → Prop} {YP : World → Heap → Prop} {d : DefRec} {K : Params → PySem.W.Frag} (hn : l.most = some 63) (hdf : d.params.defaults = [])
    (hY : ∀ (w : World) (h : Heap), YP w h → (K w.params).In h) (hname : d.name = "law")
    (F : ∀ (w : World) (mg : Str → Option Value) (h : Heap), (K w.params).In h → h.Ns mainGlobals mg → ∃ (f : Addr) (T : Tx (K w.params) w mg), T.law.f = f ∧ ∀ (s : Shared) (v : Value), BindsTo s T.law.fd ⟨[v], []⟩ [("_law_script", v)]) :
    PySem.W.WalkO q loose XP YP l.row.toRowW d [] (fun f vs => PySem.call f vs) := by
  refine L2.walk_of (n := 63) (k := 16) (x := "_law_script") (CX := fun _ => CX0) (sp := fun w => spLaw (K w.params)) hn (by decide) hdf ⟨rfl, by decide, by decide⟩ hY (fun w mg fa h KX G hmg => ?_) (fun _ _ a ns hl hO hS => ⟨a, ns, rfl, fz_of hO hS, hl, fun _ => rfl⟩) fun _ _ _ _ _ z => z
  obtain ⟨f, T, hT, hb⟩ := F w mg h KX G
  have e1 : f = fa := by
    have g := T.law.g
    rw [hname] at hmg
    rw [hT, hmg] at g
    cases g; rfl
  subst e1
  subst hT
  exact ⟨T.law.fd, hb, fun base _ _ => ok_law T⟩
end
end Wv
open PySem PySem.W PyProof.Rows
set_option maxRecDepth 100000 in
set_option maxHeartbeats 0 in
theorem PySem.Challenge.cw_weavepull_k18_straight_is_straight_holds : PySem.Challenge.rw_weavepull_k18_straight_is_straight.Holds := by
  w_on; o_law; k_head; (case hw => w_witness2)
  k_fill
  refine Wv.walk (l := PySem.Challenge.rw_weavepull_k18_straight_is_straight) rfl rfl (fun w h Y => PySem.W.kIn_of Y) rfl ?F
  case F =>
    intro w mg h KX G
    refine' ⟨_, Wv.tx_mk (w := w) KX G ?a1 ?l1 ?c1 ?k1 ?a2 ?l2 ?c2 ?k2 ?a3 ?l3 ?c3 ?k3 ?a4 ?l4 ?c4 ?k4 ?a5 ?l5 ?c5 ?k5 ?a6 ?l6 ?c6 ?k6 ?a7 ?l7 ?c7 ?k7 ?a8 ?l8 ?c8 ?k8 ?a9 ?l9 ?c9 ?k9 ?a10 ?l10 ?c10 ?k10 ?a11 ?l11 ?c11 ?k11 ?a12 ?l12 ?c12 ?k12 ?a13 ?l13 ?c13 ?k13 ?a14 ?l14 ?c14 ?k14 ?a15 ?l15 ?c15 ?k15 ?a16 ?l16 ?c16 ?k16 ?a17 ?l17 ?c17 ?k17 ?a18 ?l18 ?c18 ?k18 ?a19 ?l19 ?c19 ?k19 ?a20 ?l20 ?c20 ?k20 ?a21 ?l21 ?c21 ?k21 ?a22 ?l22 ?c22 ?k22 ?a23 ?l23 ?c23 ?k23 ?a24 ?l24 ?c24 ?k24 ?a25 ?l25 ?c25 ?k25 ?a26 ?l26 ?c26 ?k26 ?a27 ?l27 ?c27 ?k27 ?a28 ?l28 ?c28 ?k28 ?a29 ?l29 ?c29 ?k29 ?a30 ?l30 ?c30 ?k30 ?a31 ?l31 ?c31 ?k31 ?a32 ?l32 ?c32 ?k32 ?a33 ?l33 ?c33 ?k33 ?a34 ?l34 ?c34 ?k34 ?tq1a ?tq1b ?tq1c ?tq1d ?i1 ?i2 ?i3 ?i4 ?i5 ?s1 ?z1 ?z2 ?z3 ?z4 ?z5 ?z6 ?z7 ?z8 ?z9 ?z10 ?z11 ?z12 ?z13⟩
    (case a1 => k_is)
    (case l1 => k_is)
    (case c1 => k_is)
    (case k1 => k_is)
    (case a2 => k_is)
    (case l2 => k_is)
    (case c2 => k_is)
    (case k2 => k_is)
    (case a3 => k_is)
    (case l3 => k_is)
    (case c3 => k_is)
    (case k3 => k_is)
    (case a4 => k_is)
    (case l4 => k_is)
    (case c4 => k_is)
    (case k4 => k_is)
    (case a5 => k_is)
    (case l5 => k_is)
    (case c5 => k_is)
    (case k5 => k_is)
    (case a6 => k_is)
    (case l6 => k_is)
    (case c6 => k_is)
    (case k6 => k_is)
    (case a7 => k_is)
    (case l7 => k_is)
    (case c7 => k_is)
    (case k7 => k_is)
    (case a8 => k_is)
    (case l8 => k_is)
    (case c8 => k_is)
    (case k8 => k_is)
    (case a9 => k_is)
    (case l9 => k_is)
    (case c9 => k_is)
    (case k9 => k_is)
    (case a10 => k_is)
    (case l10 => k_is)
    (case c10 => k_is)
    (case k10 => k_is)
    (case a11 => k_is)
    (case l11 => k_is)
    (case c11 => k_is)
    (case k11 => k_is)
    (case a12 => k_is)
    (case l12 => k_is)
    (case c12 => k_is)
    (case k12 => k_is)
    (case a13 => k_is)
    (case l13 => k_is)
    (case c13 => k_is)
    (case k13 => k_is)
    (case a14 => k_is)
    (case l14 => k_is)
    (case c14 => k_is)
    (case k14 => k_is)
    (case a15 => k_is)
    (case l15 => k_is)
    (case c15 => k_is)
    (case k15 => k_is)
    (case a16 => k_is)
    (case l16 => k_is)
    (case c16 => k_is)
    (case k16 => k_is)
    (case a17 => k_is)
    (case l17 => k_is)
    (case c17 => k_is)
    (case k17 => k_is)
    (case a18 => k_is)
    (case l18 => k_is)
    (case c18 => k_is)
    (case k18 => k_is)
    (case a19 => k_is)
    (case l19 => k_is)
    (case c19 => k_is)
    (case k19 => k_is)
    (case a20 => k_is)
    (case l20 => k_is)
    (case c20 => k_is)
    (case k20 => k_is)
    (case a21 => k_is)
    (case l21 => k_is)
    (case c21 => k_is)
    (case k21 => k_is)
    (case a22 => k_is)
    (case l22 => k_is)
    (case c22 => k_is)
    (case k22 => k_is)
    (case a23 => k_is)
    (case l23 => k_is)
    (case c23 => k_is)
    (case k23 => k_is)
    (case a24 => k_is)
    (case l24 => k_is)
    (case c24 => k_is)
    (case k24 => k_is)
    (case a25 => k_is)
    (case l25 => k_is)
    (case c25 => k_is)
    (case k25 => k_is)
    (case a26 => k_is)
    (case l26 => k_is)
    (case c26 => k_is)
    (case k26 => k_is)
    (case a27 => k_is)
    (case l27 => k_is)
    (case c27 => k_is)
    (case k27 => k_is)
    (case a28 => k_is)
    (case l28 => k_is)
    (case c28 => k_is)
    (case k28 => k_is)
    (case a29 => k_is)
    (case l29 => k_is)
    (case c29 => k_is)
    (case k29 => k_is)
    (case a30 => k_is)
    (case l30 => k_is)
    (case c30 => k_is)
    (case k30 => k_is)
    (case a31 => k_is)
    (case l31 => k_is)
    (case c31 => k_is)
    (case k31 => k_is)
    (case a32 => k_is)
    (case l32 => k_is)
    (case c32 => k_is)
    (case k32 => k_is)
    (case a33 => k_is)
    (case l33 => k_is)
    (case c33 => k_is)
    (case k33 => k_is)
    (case a34 => k_is)
    (case l34 => k_is)
    (case c34 => k_is)
    (case k34 => k_is)
    (case tq1a => first | k_is | rfl | decide +kernel)
    (case tq1b => first | k_is | rfl | decide +kernel)
    (case tq1c => first | k_is | rfl | decide +kernel)
    (case tq1d => first | k_is | rfl | decide +kernel)
    (case i1 => k_is)
    (case i2 => k_is)
    (case i3 => k_is)
    (case i4 => k_is)
    (case i5 => k_is)
    (case s1 => k_is)
    (case z1 => k_is)
    (case z2 => k_is)
    (case z3 => k_is)
    (case z4 => k_is)
    (case z5 => k_is)
    (case z6 => k_is)
    (case z7 => k_is)
    (case z8 => k_is)
    (case z9 => k_is)
    (case z10 => k_is)
    (case z11 => k_is)
    (case z12 => k_is)
    (case z13 => k_is)
